/- Texts that the proof needs: LD12p. -/
import Derived.Test.YtffflakmofbilaaGreatP44LeadOrder
import Derived.Test.YtffflakmofbilaaGreatP34LeadOrder
namespace Go.Proofs.YtffflakmofbilaaGreat
set_option linter.unusedSimpArgs false
set_option linter.unusedVariables false
set_option maxRecDepth 8000
open Go Go.Av
attribute [local irreducible] Go.Av.yA Go.Av.zR Go.Av.xZ Go.Av.zJ Go.Av.xV Go.Av.zG Go.Av.Con
@[simp high] theorem lBx_t_h10 (P : Lq) (X : V) (g : Bool) (L : List Tx) : List.take 3 (lBx P X g) ++ V.p (.sl 5 (zns P.h.im.ns)) :: V.p (.sl 1 (ints P.h.im.ss)) :: V.p (I P.h.im.nx) :: V.p (I P.h.im.c.ep) :: V.p (I P.h.im.c.n) :: V.p (I P.h.im.c.kind) :: V.p (.sl 4 (mbs P.h.im.c.ms)) :: V.p (I P.h.im.ae) :: V.p (I P.h.im.an) :: V.p (.sl 8 (yW L)) :: List.drop 13 (lBx P X g) = lBx { P with h := { P.h with lg := L } } X g := rfl
def wL (v1 v2 : List Int) (op : List Tx) (t : Tx) (s : Sq) (x : Lr) : Sq := if x.ph < 3 \/ ¬ x.id ∈ v2 then s else if x.id ∈ v1 then s.send x.id { mgK 8 with tx := t } else s.each x.id 8 op
theorem eachProp_ok {v1 v2 : List Int} {op : List Tx} {t : Tx} (hl : op.length <= 1000) {n b : Nat} {s : Sq} {x : Lr} (h : OkS n b s) : OkS (n + 0) (b + 1000) (wL v1 v2 op t s x) := by
 unfold wL
 split
 ·exact h.mono (by omega) (by omega)
 ·split
  ·exact (h.send _ _).mono (by omega) (by omega)
  ·exact ⟨h.hk,h.ll,by have:=h.lo;simp [Sq.each,vZ];omega,h.lm⟩
def vN (p : Lq) (t : Tx) : Lq := { yQ p with h := { p.h with lg := p.h.lg ++ [t] } }
def propOK (p : Lq) (t : Tx) : Prop := (plcQ p).2 = true /\ (t.e = (plcQ p).1.e /\ t.n = (plcQ p).1.n) /\ growOk p.h [t] = true
instance (p : Lq) (t : Tx) : Decidable (propOK p t) := by unfold propOK; infer_instance
def uI (p : Lq) (t : Tx) : Sq := if propOK p t then comS ((yU p.ls).foldl (wL (zI (yQ p)) (zI (vN p t)) (wR p.d.e p.d.n t.e t.n (p.h.lg ++ [t])) t) ⟨vN p t, false, []⟩) else ⟨yQ p, false, []⟩
set_option maxHeartbeats 8000000 in
theorem prop0_con (p : Lq) (t : Tx) (hk : OkH p.h) (hl : p.ls.length <= 10000) (hm : ∀ y ∈ p.ls, y.ms.length <= 1000000) (ht : t.ps.length <= 1000 /\ ∀ x ∈ t.ps, x.c.ms.length <= 1000) (hf : ¬ propOK p t) : zB Tryz.prog 26 [.p (.agg p.cells), .p (.agg t.cells)] (.tup [.p (.agg (yQ p).cells), .p (.sl 46 []), .p (B true)]) := by
 have c1:=uS p hk hl hm
 have cP:=place_con p hk.lg
 have cG:=grow_con (yQ p).h [t] hk (by simp) (by simpa using ht)
 have c4:=end_con (yQ p) false []
 rw [show ({ p with ls:=yU p.ls } : Lq) = yQ p from rfl] at c1
 rw [show yW [t] = [t.cells] from rfl,show growOk (yQ p).h [t] = growOk p.h [t] from rfl] at cG
 unfold propOK at hf
 simp only [lW,show zD [] = [] from rfl] at *
 generalize plcQ p = PQ at *
 generalize growOk p.h [t] = gk at *
 generalize (if gk = true then ({ (yQ p).h with lg:=(yQ p).h.lg ++ [t] } : Hy) else (yQ p).h) = H2 at *
 generalize yQ p = P at *
 obtain ⟨⟨pe,pn⟩,pk⟩:=PQ
 dsimp only at *
 unfold Lq.cells Tx.cells at *
 clear hk hl hm ht
 cases pk
 ·clear hf
  refine zK Tryz.tab Tryz.mixed Tryz.func26 rfl rfl Tryz.ntmps26 (by simp) (by simp) fun Q hr hn=>?_
  repeat' first|(refine zV [] (c1) (by decide) (by decide) (by simp [zQ]) (by simp [zN,zH,toP]) ⟨[500,501],by simp,by simp,?_⟩;simp [lv,ouN,kpI,kpR,pos,ren,zX])|(refine zR.pure (cP) rfl ?_)|(refine zG.pure (cG) rfl ?_)|(refine zV [500,501] (c4) (by decide) (by decide) (by simp [zQ,inN,pos,zO,zX,ouN]) (by simp [zN,zH,zX,inN,pos]) ⟨[],by simp,by simp,?_⟩;simp [lv,ouN,kpI,kpR,pos,ren,zX])|(refine hK _ ?_;clear hK)|(refine hK _ _ ?_;clear hK)|(refine zT fun K hK=>?_)|((first | refine zS ?_ | refine yI ?_);simp only [tZ,tY,strip])|((first | refine wIs fun K hK=>?_ | refine wOs fun K hK=>?_ | refine zY ?_ | refine zF ?_ | refine zW ?_);simp [ouN,zX,zO,List.length_nil])|(refine wIn ?_;refine And.intro (by kernel_rfl) ?_;try simp only [zZ])|(refine zL ?_;try simp)|(refine wOn ?_;try simp only [zZ])
  all_goals skip
  all_goals first | apply hr
  all_goals simp [Tryz.f26,pos,zO]
 by_cases o : t.e = pe /\ t.n = pn
 ·cases gk
  ·clear hf
   have o1 : (t.e = pe) = True:=eq_true o.1
   have o2 : (t.n = pn) = True:=eq_true o.2
   refine zK Tryz.tab Tryz.mixed Tryz.func26 rfl rfl Tryz.ntmps26 (by simp) (by simp) fun Q hr hn=>?_
   repeat' first|(refine zV [] (c1) (by decide) (by decide) (by simp [zQ]) (by simp [zN,zH,toP]) ⟨[500,501],by simp,by simp,?_⟩;simp [lv,ouN,kpI,kpR,pos,ren,zX])|(refine zR.pure (cP) rfl ?_)|(refine zG.pure (cG) rfl ?_)|(refine zV [500,501] (c4) (by decide) (by decide) (by simp [zQ,inN,pos,zO,zX,ouN]) (by simp [zN,zH,zX,inN,pos]) ⟨[],by simp,by simp,?_⟩;simp [lv,ouN,kpI,kpR,pos,ren,zX])|(refine hK _ ?_;clear hK)|(refine hK _ _ ?_;clear hK)|(refine zT fun K hK=>?_)|((first | refine zS ?_ | refine yI ?_);simp only [tZ,tY,strip])|((first | refine wIs fun K hK=>?_ | refine wOs fun K hK=>?_ | refine zY ?_ | refine zF ?_ | refine zW ?_);simp [ouN,zX,zO,o1,o2])|(refine wIn ?_;refine And.intro (by kernel_rfl) ?_;try simp only [zZ])|(refine zL ?_;try simp)|(refine wOn ?_;try simp only [zZ])
   all_goals skip
   all_goals first | apply hr
   all_goals simp [Tryz.f26,pos,zO]
  ·exact absurd ⟨rfl,o,rfl⟩ hf
 ·clear hf
  by_cases e1 : t.e = pe
  ·have e2 : (t.n = pn) = False := eq_false fun h => o ⟨e1, h⟩
   replace e1 : (t.e = pe) = True:=eq_true e1
   clear o
   refine zK Tryz.tab Tryz.mixed Tryz.func26 rfl rfl Tryz.ntmps26 (by simp) (by simp) fun Q hr hn=>?_
   repeat' first|(refine zV [] (c1) (by decide) (by decide) (by simp [zQ]) (by simp [zN,zH,toP]) ⟨[500,501],by simp,by simp,?_⟩;simp [lv,ouN,kpI,kpR,pos,ren,zX])|(refine zR.pure (cP) rfl ?_)|(refine zG.pure (cG) rfl ?_)|(refine zV [500,501] (c4) (by decide) (by decide) (by simp [zQ,inN,pos,zO,zX,ouN]) (by simp [zN,zH,zX,inN,pos]) ⟨[],by simp,by simp,?_⟩;simp [lv,ouN,kpI,kpR,pos,ren,zX])|(refine hK _ ?_;clear hK)|(refine hK _ _ ?_;clear hK)|(refine zT fun K hK=>?_)|((first | refine zS ?_ | refine yI ?_);simp only [tZ,tY,strip])|((first | refine wIs fun K hK=>?_ | refine wOs fun K hK=>?_ | refine zY ?_ | refine zF ?_ | refine zW ?_);simp [ouN,zX,zO,e1,e2])|(refine wIn ?_;refine And.intro (by kernel_rfl) ?_;try simp only [zZ])|(refine zL ?_;try simp)|(refine wOn ?_;try simp only [zZ])
   all_goals skip
   all_goals first | apply hr
   all_goals simp [Tryz.f26,pos,zO]
  ·replace e1 : (t.e = pe) = False := eq_false e1
   clear o
   refine zK Tryz.tab Tryz.mixed Tryz.func26 rfl rfl Tryz.ntmps26 (by simp) (by simp) fun Q hr hn=>?_
   repeat' first|(refine zV [] (c1) (by decide) (by decide) (by simp [zQ]) (by simp [zN,zH,toP]) ⟨[500,501],by simp,by simp,?_⟩;simp [lv,ouN,kpI,kpR,pos,ren,zX])|(refine zR.pure (cP) rfl ?_)|(refine zG.pure (cG) rfl ?_)|(refine zV [500,501] (c4) (by decide) (by decide) (by simp [zQ,inN,pos,zO,zX,ouN]) (by simp [zN,zH,zX,inN,pos]) ⟨[],by simp,by simp,?_⟩;simp [lv,ouN,kpI,kpR,pos,ren,zX])|(refine hK _ ?_;clear hK)|(refine hK _ _ ?_;clear hK)|(refine zT fun K hK=>?_)|((first | refine zS ?_ | refine yI ?_);simp only [tZ,tY,strip])|((first | refine wIs fun K hK=>?_ | refine wOs fun K hK=>?_ | refine zY ?_ | refine zF ?_ | refine zW ?_);simp [ouN,zX,zO,e1])|(refine wIn ?_;refine And.intro (by kernel_rfl) ?_;try simp only [zZ])|(refine zL ?_;try simp)|(refine wOn ?_;try simp only [zZ])
   all_goals skip
   all_goals first | apply hr
   all_goals simp [Tryz.f26,pos,zO]
set_option maxHeartbeats 32000000 in
theorem prop1_con (p : Lq) (t : Tx) (hk : OkH p.h) (hk2 : OkH (vN p t).h) (hl : p.ls.length <= 10000) (hl2 : (yU p.ls).length <= 16) (hm : ∀ y ∈ p.ls, y.ms.length <= 1000000) (hm2 : ∀ y ∈ yU p.ls, y.ms.length <= 1000000) (ht : t.ps.length <= 1000 /\ ∀ x ∈ t.ps, x.c.ms.length <= 1000) (hf : propOK p t) : zB Tryz.prog 26 [.p (.agg p.cells), .p (.agg t.cells)] (.tup [.p (.agg (uI p t).p.cells), .p (.sl 46 (zD (uI p t).o)), .p (B (!(uI p t).g))]) := by
 have c1:=uS p hk hl hm
 have cP:=place_con p hk.lg
 have cG:=grow_con (yQ p).h [t] hk (by simp) (by simpa using ht)
 rw [show ({ p with ls:=yU p.ls } : Lq) = yQ p from rfl] at c1
 rw [show yW [t] = [t.cells] from rfl,show growOk (yQ p).h [t] = growOk p.h [t] from rfl,hf.2.2] at cG
 rw [hf.1] at cP
 have hS : uI p t = comS ((yU p.ls).foldl (wL (zI (yQ p)) (zI (vN p t)) (wR p.d.e p.d.n t.e t.n (p.h.lg ++ [t])) t) ⟨vN p t,false,[]⟩):=by unfold uI;rw [if_pos hf]
 rw [hS]
 have ok1 : OkS 16 0 ⟨vN p t,false,[]⟩:=⟨hk2,hl2,by simp,hm2⟩
 have cv1:=voterS_con (s:=⟨yQ p,false,[]⟩) (n:=16) (b:=0) ⟨hk,hl2,by simp,hm2⟩
 have cv2:=voterS_con ok1
 have cM:=committed_con (vN p t).h p.d.e p.d.n t.e t.n hk2
 have cT:=ownTxn_con t ht.1 ht.2
 rw [show (vN p t).h.lg = p.h.lg ++ [t] from rfl] at cM
 have hcl:=comd_len p.d.e p.d.n t.e t.n (p.h.lg ++ [t])
 have hll:=hk2.lg
 rw [show (vN p t).h.lg = p.h.lg ++ [t] from rfl] at hll
 have hps : ∀ u ∈ wR p.d.e p.d.n t.e t.n (p.h.lg ++ [t]),u.ps.length <= 1000 /\ ∀ x ∈ u.ps,x.c.ms.length <= 1000:=fun u hu=>hk2.ps u (List.mem_filter.1 hu).1
 obtain ⟨-,o,-⟩:=hf
 have o1 : (t.e = (plcQ p).1.e) = True:=eq_true o.1
 have o2 : (t.n = (plcQ p).1.n) = True:=eq_true o.2
 have e1 : (yQ p).ls = yU p.ls:=rfl
 have e2 : (yQ p).h = p.h:=rfl
 have e3 : (yQ p).d = p.d:=rfl
 rw [<- e1] at hS hl2 hm2 ⊢
 rw [<- e2] at hcl hll hps cM ⊢
 rw [<- e3] at hcl hps cM ⊢
 have hPP : vN p t = { yQ p with h:={ (yQ p).h with lg:=(yQ p).h.lg ++ [t] } }:=rfl
 rw [hPP] at ok1 cM ⊢
 generalize wR (yQ p).d.e (yQ p).d.n t.e t.n ((yQ p).h.lg ++ [t]) = OP at *
 have cw1:=fun i=>xD (zI (yQ p)) i
 have cw2:=fun i=>xD (zI { yQ p with h:={ (yQ p).h with lg:=(yQ p).h.lg ++ [t] } }) i
 simp only [sqW,lW,show zD [] = [] from rfl] at *
 rw [hPP] at cv2
 generalize zI { yQ p with h:={ (yQ p).h with lg:=(yQ p).h.lg ++ [t] } } = V2 at *
 generalize zI (yQ p) = V1 at *
 generalize plcQ p = PQ at *
 generalize yQ p = P at *
 obtain ⟨⟨pe,pn⟩,pk⟩:=PQ
 dsimp only at o1 o2 cP
 unfold Lq.cells Tx.cells at *
 clear hS hk hk2 hl hm ht e1 e2 e3 hPP o
 refine zK Tryz.tab Tryz.mixed Tryz.func26 rfl rfl Tryz.ntmps26 (by simp) (by simp) fun Q hr hn=>?_
 repeat' first|(refine zV [] (c1) (by decide) (by decide) (by simp [zQ]) (by simp [zN,zH,toP]) ⟨[500,501],by simp,by simp,?_⟩;simp [lv,ouN,kpI,kpR,pos,ren,zX])|(refine zR.pure (cP) rfl ?_)|(refine zG.pure (cG) rfl ?_)|(refine zV [500,501] (cv1) (by decide) (by decide) (by simp [zQ,inN,pos,zO,zX,ouN]) (by simp [zN,zH,zX,inN,pos]) ⟨[],by simp,by simp,?_⟩;simp [lv,kpI,kpR,pos,ren,zX,wS,xY];clear cv1)|(refine zV [500,501] (cv2) (by decide) (by decide) (by simp [zQ,inN,pos,zO,zX]) (by simp [zN,zH,zX,inN,pos]) ⟨[],by simp,by simp,?_⟩;simp [lv,kpI,kpR,pos,ren,zX,wS,xY])|(refine zJ.pure (cM) rfl ?_)|(refine hK _ ?_;clear hK)|(refine hK _ _ ?_;clear hK)|(refine zT fun K hK=>?_)|((first | refine zS ?_ | refine yZ rfl (by kernel_rfl) ?_ | refine yI ?_);simp only [tZ,tY,strip])|((first | refine wIs fun K hK=>?_ | refine wOs fun K hK=>?_ | refine wQs fun K hK=>?_ | refine zY ?_ | refine zM ?_ | refine zF ?_ | refine zW ?_);simp [ouN,zX,zO,o1,o2])|(refine wIn ?_;refine And.intro (by kernel_rfl) ?_;try simp only [zZ])|(first | refine zU ?_)|(refine zP ?_;try simp)|((first | refine wOn ?_ | refine wQn ?_);try simp only [zZ])
 clear cP cG cv2 cM c1
 refine yJ (fun N st=>∃ k S,k + N = P.ls.length /\ S = (P.ls.take k).foldl (wL V1 V2 OP t) ⟨{ P with h:={ P.h with lg:=P.h.lg ++ [t] } },false,[]⟩ /\ st.s 7 = .ptr 500 0 /\ st.s 3 = .ptr 3 0 /\ st.b 3 = some (.box 58 ([.p (I t.e),.p (I t.n),.p (I t.s),.p (I t.x),.p (I t.r),.p (I t.b),.p (SB t.m),.p (.sl 11 (pts t.ps))])) /\ st.s 12 = .clo ⟨82,false⟩ [.rp [.sl 1 (ints V1)] 0] /\ st.s 13 = .clo ⟨82,false⟩ [.rp [.sl 1 (ints V2)] 0] /\ st.s 14 = .p (.sl 8 (yW OP)) /\ st.s 74 = .p (.sl 8 (lrs P.ls)) /\ st.s 75 = .p (I P.ls.length) /\ st.s 76 = .p (I k) /\ (∃ z,st.b 4 = some (.box 47 z) /\ z.length = 38) /\ st.s 4 = .ptr 4 0 /\ st.b 500 = some (.box 101 (lBx S.p (.row 501) S.g)) /\ st.b 501 = some (.row 65 46 (zD S.o))) P.ls.length ⟨0,⟨{ P with h:={ P.h with lg:=P.h.lg ++ [t] } },false,[]⟩,by simp [ouN,zX,zO,wS,xY,zD]⟩ fun K N st hL ⟨k,S,hkN,hS,g0,g3,b3,g12,g13,g14,ga,gb,gc,hz,hz2,b0,b1⟩=>?_
 obtain ⟨z,bz,hzl⟩:=hz
 have okS : OkS 16 (1000 * k) S := by
  have:=uX (f:=wL V1 V2 OP t) (i:=0) (j:=1000) (l:=P.ls) (fun h _=>eachProp_ok (by omega) h) ok1 k (by omega)
  rw [hS];exact this.mono (by omega) (by omega)
 by_cases hlt : k < P.ls.length
 ·have hw := yF k _ hlt (by omega)
  have he:=xQ hlt
  have hS2:=fold_snoc (wL V1 V2 OP t) ⟨{ P with h:={ P.h with lg:=P.h.lg ++ [t] } },false,[]⟩ hlt
  rw [<- hS] at hS2
  have hx : wL V1 V2 OP t S P.ls[k] = if P.ls[k].ph < 3 \/ ¬ P.ls[k].id ∈ V2 then S else if P.ls[k].id ∈ V1 then S.send P.ls[k].id { mgK 8 with tx:=t } else S.each P.ls[k].id 8 OP:=rfl
  have d1:=cw1 P.ls[k].id
  have d2:=cw2 P.ls[k].id
  have c1:=send_con S.p S.g S.o P.ls[k].id { mgK 8 with tx:=t } (by have:=okS.lo;omega)
  have c2:=sendEach_con S.p S.g S.o P.ls[k].id 8 OP (by omega) (by have:=okS.lo;omega) hps
  unfold lW at c1 c2
  clear okS ok1 hS hps cw1 cw2 hcl hll hm2 o1 o2
  generalize hxx : P.ls[k] = x at *
  by_cases q1 : x.ph < 3
  ·rw [if_pos (.inl q1)] at hx
   rw [hx] at hS2
   clear hx c1 c2 d1 d2
   repeat' first|(refine hK _ ?_;clear hK)|(clear hK;refine hK _ ?_;clear hK)|(refine zT fun K hK=>?_)|(refine zS ?_;simp only [tZ,tY,strip])|((first | refine wOs fun K hK=>?_ | refine zW ?_);simp [g13,ga,gb,gc,hlt,hw,hxx,q1])|(first | refine zU ?_)|((first | refine zC ?_ | refine zP ?_);try simp)|(refine wOn ?_;try simp only [zZ])
   refine hL _ (N - 1) (by omega) ⟨k + 1,S,by omega,hS2.symm,?_⟩
   simp [g0,g3,b3,g12,g13,g14,ga,gb,hz2,b0,b1,bz,hzl]
  by_cases q2 : x.id ∈ V2
  case neg =>
   rw [if_pos (.inr q2)] at hx
   rw [hx] at hS2
   rw [decide_eq_false q2] at d2
   clear hx c1 c2 d1 q2
   repeat' first|(refine zR.pure (d2) rfl ?_)|(refine hK _ ?_;clear hK)|(clear hK;refine hK _ ?_;clear hK)|(refine zT fun K hK=>?_)|(refine zS ?_;simp only [tZ,tY,strip])|((first | refine wOs fun K hK=>?_ | refine zY ?_ | refine zW ?_);simp [g13,ga,gb,gc,hlt,hw,hxx,q1])|(first | refine zU ?_)|((first | refine zC ?_ | refine zP ?_);try simp)|(refine wOn ?_;try simp only [zZ])
   refine hL _ (N - 1) (by omega) ⟨k + 1,S,by omega,hS2.symm,?_⟩
   simp [g0,g3,b3,g12,g13,g14,ga,gb,hz2,b0,b1,bz,hzl]
  rw [if_neg (fun h=>h.elim q1 (fun h=>h q2))] at hx
  rw [decide_eq_true q2] at d2
  by_cases q3 : x.id ∈ V1
  ·rw [if_pos q3] at hx
   rw [hx] at hS2
   rw [decide_eq_true q3] at d1
   have hSp : (S.send x.id { mgK 8 with tx:=t }).p = S.p:=rfl
   have hSg : (S.send x.id { mgK 8 with tx:=t }).g = S.g:=rfl
   have hSo : zD (S.send x.id { mgK 8 with tx:=t }).o = zD (S.o ++ [yH S.p x.id { mgK 8 with tx:=t }]):=rfl
   generalize zD (S.o ++ [yH S.p x.id { mgK 8 with tx:=t }]) = O2 at *
   generalize S.send x.id { mgK 8 with tx:=t } = S' at *
   generalize zD S.o = O1 at *
   unfold mgK mgZ Mg.cells at c1
   dsimp only at c1
   simp only [show zns [] = [] from rfl,show ints [] = [] from rfl,show mbs [] = [] from rfl,show yW [] = [] from rfl,show zxs [] = [] from rfl] at c1
   clear hx c2 q2 q3
   repeat' first|(refine zR.pure (d1) rfl ?_)|(refine zR.pure (d2) rfl ?_)|(refine zJ.pure (cT) rfl ?_)|(refine wDrwT (id:=15) 6 (by kernel_rfl) ?_;simp only [tZ,tY,strip,List.take_succ_cons,List.take_zero,List.drop_succ_cons,List.drop_zero])|(refine zV [500,501] (c1) (by decide) (by decide) (by simp [zQ,inN,pos,zO,zX,b0,b1]) (by simp [zN,zH,zX,inN,pos]) ⟨[],by simp,by simp,?_⟩;simp [lv,kpI,kpR,pos,ren,zX])|(refine hK _ ?_;clear hK)|(refine zT fun K hK=>?_)|(refine zS ?_;simp only [tZ,tY,strip])|((first | refine wOs fun K hK=>?_ | refine wQs fun K hK=>?_ | refine zY ?_ | refine zM ?_ | refine zW ?_);simp [g0,g3,b3,g12,g13,ga,gb,gc,hlt,hw,hxx,q1])|(first | refine zU ?_)|(refine zP ?_;try simp)|((first | refine wOn ?_ | refine wQn ?_);try simp only [zZ])
   refine hL _ (N - 1) (by omega) ⟨k + 1,S',by omega,hS2.symm,?_⟩
   simp [g0,g3,b3,g12,g13,g14,ga,gb,hz2,bz,hzl,hSp,hSg,hSo,ouN,zX,zO,wS,xY]
  ·rw [if_neg q3] at hx
   rw [hx] at hS2
   rw [decide_eq_false q3] at d1
   have hSp : (S.each x.id 8 OP).p = S.p:=rfl
   have hSg : (S.each x.id 8 OP).g = S.g:=rfl
   have hSo : zD (S.each x.id 8 OP).o = zD (S.o ++ vZ S.p x.id 8 OP):=rfl
   generalize zD (S.o ++ vZ S.p x.id 8 OP) = O2 at *
   generalize S.each x.id 8 OP = S' at *
   generalize zD S.o = O1 at *
   clear hx c1 q2 q3
   repeat' first|(refine zR.pure (d1) rfl ?_)|(refine zR.pure (d2) rfl ?_)|(refine zV [500,501] (c2) (by decide) (by decide) (by simp [zQ,inN,pos,zO,zX,b0,b1]) (by simp [zN,zH,zX,inN,pos]) ⟨[],by simp,by simp,?_⟩;simp [lv,kpI,kpR,pos,ren,zX])|(refine hK _ ?_;clear hK)|(refine zT fun K hK=>?_)|(refine zS ?_;simp only [tZ,tY,strip])|((first | refine wOs fun K hK=>?_ | refine zY ?_ | refine zW ?_);simp [g0,g12,g13,g14,ga,gb,gc,hlt,hw,hxx,q1])|(first | refine zU ?_)|(refine zP ?_;try simp)|(refine wOn ?_;try simp only [zZ])
   refine hL _ (N - 1) (by omega) ⟨k + 1,S',by omega,hS2.symm,?_⟩
   simp [g0,g3,b3,g12,g13,g14,ga,gb,hz2,bz,hzl,hSp,hSg,hSo,ouN,zX,zO,wS,xY]
 have hSf : S = P.ls.foldl (wL V1 V2 OP t) ⟨{ P with h:={ P.h with lg:=P.h.lg ++ [t] } },false,[]⟩:=by rw [hS,List.take_of_length_le (by omega)]
 rw [<- hSf] at hr hn
 have c1:=com_con (okS.mono (n':=16) (b':=16000) (by omega) (by omega)) (by omega) (by omega)
 have c4:=end_con (comS S).p (comS S).g (comS S).o
 generalize comS S = S' at *
 simp only [sqW,lW] at c1 c4
 generalize zD S.o = O1 at *
 generalize zD S'.o = O2 at *
 clear hS hSf ok1 okS hps cw1 cw2 hcl hll hm2 o1 o2
 unfold Lq.cells at c4
 dsimp only at hr hn c4
 have hzd : List.drop 38 z = []:=List.drop_of_length_le (by omega)
 repeat' first|(refine zV [500,501] (c1) (by decide) (by decide) (by simp [zQ,inN,pos,zO,zX,b0,b1]) (by simp [zN,zH,zX,inN,pos]) ⟨[],by simp,by simp,?_⟩;simp [lv,kpI,kpR,pos,ren,zX])|(refine zV [500,501] (c4) (by decide) (by decide) (by simp [zQ,inN,pos,zO,zX,ouN]) (by simp [zN,zH,zX,inN,pos]) ⟨[],by simp,by simp,?_⟩;simp [lv,ouN,kpI,kpR,pos,ren,zX])|(refine hK _ ?_;clear hK)|(clear hK;refine hK _ ?_;clear hK)|(refine zT fun K hK=>?_)|(refine zS ?_;simp only [tZ,tY,strip])|((first | refine wOs fun K hK=>?_ | refine zW ?_);simp [zO,g0,gb,gc,hz2,bz,hzl,hlt])|((first | refine zL ?_ | refine zC ?_);try simp)|(refine wOn ?_;try simp only [zZ])
 all_goals first | apply hr
 all_goals simp [Tryz.f26,pos,zO,hz2,hzl]
end Go.Proofs.YtffflakmofbilaaGreat
