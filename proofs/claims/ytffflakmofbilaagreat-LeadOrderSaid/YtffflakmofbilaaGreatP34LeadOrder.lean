/- Texts that the proof needs: LD9. -/
import Derived.Test.YtffflakmofbilaaGreatP33LeadOrder
import Derived.Test.YtffflakmofbilaaGreatP31LeadOrder
namespace Go.Proofs.YtffflakmofbilaaGreat
set_option linter.unusedSimpArgs false
set_option linter.unusedVariables false
set_option maxRecDepth 8000
open Go Go.Av
attribute [local irreducible] Go.Av.yA Go.Av.zR Go.Av.xZ Go.Av.zJ Go.Av.xV Go.Av.zG Go.Av.Con
theorem eachCom_p (v : List Int) (z : Zx) (l : List Tx) (s : Sq) (x : Lr) : (vV v z l s x).p = s.p := by unfold vV; split <;> (try split) <;> rfl
set_option maxHeartbeats 16000000 in
theorem com_con {n b : Nat} {s : Sq} (h : OkS n b s) (hn' : n <= 40) (hb' : b + 1000 * n <= 49000) : Con Tryz.prog 55 [.ptr 1024 0] (sqW s) (.ret (.tup []) [] (sqW (comS s))) := by
 have cC:=commit_con s.p.h s.p.d.e s.p.d.n s.p.id s.p.ls h.hk (by have:=h.ll;omega)
 have hE : comS s = if uV s.p = s.p.d then s else vD { (s.p.ls.foldl (vV (zI s.p) (uV s.p) (wR s.p.d.e s.p.d.n (uV s.p).e (uV s.p).n s.p.h.lg)) s) with p:={ (s.p.ls.foldl (vV (zI s.p) (uV s.p) (wR s.p.d.e s.p.d.n (uV s.p).e (uV s.p).n s.p.h.lg)) s).p with d:=uV s.p } }:=rfl
 rw [show (comF s.p.h s.p.id s.p.ls s.p.h.lg 0 s.p.d.e s.p.d.n).1 = (uV s.p).e from rfl,show (comF s.p.h s.p.id s.p.ls s.p.h.lg 0 s.p.d.e s.p.d.n).2 = (uV s.p).n from rfl] at cC
 have cM:=committed_con s.p.h s.p.d.e s.p.d.n (uV s.p).e (uV s.p).n h.hk
 have hcl:=comd_len s.p.d.e s.p.d.n (uV s.p).e (uV s.p).n s.p.h.lg
 have hps : ∀ t ∈ wR s.p.d.e s.p.d.n (uV s.p).e (uV s.p).n s.p.h.lg,t.ps.length <= 1000 /\ ∀ x ∈ t.ps,x.c.ms.length <= 1000:=fun t ht=>h.hk.ps t (List.mem_filter.1 ht).1
 have hlg:=h.hk.lg
 generalize wR s.p.d.e s.p.d.n (uV s.p).e (uV s.p).n s.p.h.lg = L at *
 generalize uV s.p = z at *
 have cV:=voterS_con h
 have cv:=fun i=>xD (zI s.p) i
 generalize zI s.p = V at *
 have hll:=h.ll
 have hzx : z = s.p.d ↔ z.e = s.p.d.e /\ z.n = s.p.d.n:=by cases z;cases s.p.d;simp
 simp only [sqW,lW] at *
 by_cases o : z.e = s.p.d.e /\ z.n = s.p.d.n
 ·rw [if_pos (hzx.2 o)] at hE
  rw [hE]
  have o1 : (z.e = s.p.d.e) = True:=eq_true o.1
  have o2 : (z.n = s.p.d.n) = True:=eq_true o.2
  generalize zD s.o = O at *
  clear hE hps hzx h cv
  refine zE Tryz.tab Tryz.mixed Tryz.func55 rfl rfl Tryz.ntmps55 (by simp) (by simp) fun Q hr hn hp=>?_
  repeat' first|(refine zG.pure (cC) rfl ?_)|(refine hK _ ?_;clear hK)|(refine hK _ _ ?_;clear hK)|(refine zT fun K hK=>?_)|((first | refine yZ rfl (by kernel_rfl) ?_ | refine yI ?_);simp only [tZ,tY,strip])|((first | refine wIs fun K hK=>?_ | refine wQs fun K hK=>?_ | refine zF ?_ | refine zW ?_);simp [o1,o2])|(refine wIn ?_;refine And.intro (by kernel_rfl) ?_;try simp only [zZ])|(refine zL ?_;try simp)|(refine wQn ?_;try simp only [zZ])
  all_goals first | apply hr
  all_goals refine ⟨[],by simp,by simp,?_⟩
  all_goals simp [Tryz.f55,yL,yM,zO,gaN,zX]
 rw [if_neg (fun h=>o (hzx.1 h))] at hE
 rw [hE]
 have o' : ¬ (s.p.d.e = z.e /\ s.p.d.n = z.n):=fun h=>o ⟨h.1.symm,h.2.symm⟩
 clear hE hzx
 refine zE Tryz.tab Tryz.mixed Tryz.func55 rfl rfl Tryz.ntmps55 (by simp) (by simp) fun Q hr hn hp=>?_
 repeat' first|(refine zG.pure (cC) rfl ?_)|(refine zV [1024,1025] (cV) (by decide) (by decide) (by simp [zQ,inN,pos,zO,zX]) (by simp [zN,zH,zX,inN,pos]) ⟨[],by simp,by simp,?_⟩;simp [lv,kpI,kpR,pos,ren,zX,wS,xY])|(refine zJ.pure (cM) rfl ?_)|(refine hK _ ?_;clear hK)|(refine hK _ _ ?_;clear hK)|(refine zT fun K hK=>?_)|((first | refine zS ?_ | refine yZ rfl (by kernel_rfl) ?_ | refine yI ?_);simp only [tZ,tY,strip])|((first | refine wIs fun K hK=>?_ | refine wOs fun K hK=>?_ | refine wQs fun K hK=>?_ | refine zM ?_ | refine zF ?_ | refine zW ?_);simp [o])|(refine wIn ?_;refine And.intro (by kernel_rfl) ?_;try simp only [zZ])|(first | refine zU ?_)|(refine zP ?_;try simp)|((first | refine wOn ?_ | refine wQn ?_);try simp only [zZ])|(intro _)
 all_goals first | skip
 clear cC cV cM
 refine yJ (fun N st=>∃ k S,k + N = s.p.ls.length /\ S = (s.p.ls.take k).foldl (vV V z L) s /\ st.s 0 = .ptr 1024 0 /\ st.s 2 = .ptr 2 0 /\ st.b 2 = some (.box 25 [.p (I z.e),.p (I z.n)]) /\ st.s 3 = .clo ⟨82,false⟩ [.rp [.sl 1 (ints V)] 0] /\ st.s 4 = .p (.sl 8 (yW L)) /\ st.s 53 = .p (.sl 8 (lrs s.p.ls)) /\ st.s 54 = .p (I s.p.ls.length) /\ st.s 55 = .p (I k) /\ st.b 1024 = some (.box 101 (lBx S.p (.row 1025) S.g)) /\ st.b 1025 = some (.row 65 46 (zD S.o))) s.p.ls.length ⟨0,s,by simp [ouN,zX,zO]⟩ fun K N st hL ⟨k,S,hkN,hS,g0,g2,b2,g3,g4,ga,gb,gc,b0,b1⟩=>?_
 have okS : OkS n (b + 1000 * k) S := by
  have:=uX (f:=vV V z L) (i:=0) (j:=1000) (l:=s.p.ls) (fun h _=>eachCom_ok (by omega) h) h k (by omega)
  rw [hS];exact this.mono (by omega) (by omega)
 by_cases hlt : k < s.p.ls.length
 ·have hw := yF k _ hlt (by omega)
  have he:=xQ hlt
  have hS2:=fold_snoc (vV V z L) s hlt
  rw [<- hS] at hS2
  have hx : vV V z L S s.p.ls[k] = if s.p.ls[k].ph = 4 /\ s.p.ls[k].id ∈ V then S.send s.p.ls[k].id { mgK 10 with z:=z } else if 3 <= s.p.ls[k].ph /\ ¬ s.p.ls[k].id ∈ V then S.each s.p.ls[k].id 11 L else S:=rfl
  have c0:=cv s.p.ls[k].id
  have c1:=send_con S.p S.g S.o s.p.ls[k].id { mgK 10 with z:=z } (by have:=okS.lo;omega)
  have c2:=sendEach_con S.p S.g S.o s.p.ls[k].id 11 L (by omega) (by have:=okS.lo;omega) hps
  unfold lW at c1 c2
  clear h okS hS hps cv hcl hlg o o'
  generalize hxx : s.p.ls[k] = x at *
  by_cases o2 : x.id ∈ V
  ·rw [decide_eq_true o2] at c0
   rw [if_neg (fun h=>h.2 o2 : ¬ (3 <= x.ph /\ ¬ x.id ∈ V))] at hx
   by_cases o1 : x.ph = 4
   ·rw [if_pos ⟨o1, o2⟩] at hx
    rw [hx] at hS2
    replace o1 : (x.ph = 4) = True:=eq_true o1
    have hSp : (S.send x.id { mgK 10 with z:=z }).p = S.p:=rfl
    have hSg : (S.send x.id { mgK 10 with z:=z }).g = S.g:=rfl
    have hSo : zD (S.send x.id { mgK 10 with z:=z }).o = zD (S.o ++ [yH S.p x.id { mgK 10 with z:=z }]):=rfl
    generalize zD (S.o ++ [yH S.p x.id { mgK 10 with z:=z }]) = O2 at *
    generalize S.send x.id { mgK 10 with z:=z } = S' at *
    generalize zD S.o = O1 at *
    unfold mgK mgZ Mg.cells at c1
    dsimp only at c1
    simp only [show zns [] = [] from rfl,show ints [] = [] from rfl,show mbs [] = [] from rfl,show yW [] = [] from rfl,show zxs [] = [] from rfl,show pts [] = [] from rfl] at c1
    clear hx c2 o2
    repeat' first|(refine zR.pure (c0) rfl ?_)|(refine zV [1024,1025] (c1) (by decide) (by decide) (by simp [zQ,inN,pos,zO,zX,b0,b1]) (by simp [zN,zH,zX,inN,pos]) ⟨[],by simp,by simp,?_⟩;simp [lv,kpI,kpR,pos,ren,zX])|(refine hK _ ?_;clear hK)|(refine zT fun K hK=>?_)|(refine zS ?_;simp only [tZ,tY,strip])|((first | refine wOs fun K hK=>?_ | refine zY ?_ | refine zW ?_);simp [g0,g2,b2,g3,ga,gb,gc,hlt,hw,hxx,o1])|(first | refine zU ?_)|(refine zP ?_;try simp)|(refine wOn ?_;try simp only [zZ])
    refine hL _ (N - 1) (by omega) ⟨k + 1,S',by omega,hS2.symm,?_⟩
    simp [g0,g2,b2,g3,g4,ga,gb,hSp,hSg,hSo,ouN,zX,zO,wS,xY]
   ·rw [if_neg (fun h => o1 h.1)] at hx
    rw [hx] at hS2
    replace o1 : (x.ph = 4) = False:=eq_false o1
    clear hx c1 c2 o2
    by_cases o3 : 3 <= x.ph
    ·repeat' first | (refine zR.pure (c0) rfl ?_) | (refine hK _ ?_; clear hK) | (refine zT fun K hK => ?_) | (refine zS ?_; simp only [tZ, tY, strip]) | ((first | refine wOs fun K hK => ?_ | refine zY ?_ | refine zW ?_); simp [g3, ga, gb, gc, hlt, hw, hxx, o1, o3]) | (first | refine zU ?_) | (refine zP ?_; try simp) | (refine wOn ?_; try simp only [zZ])
     refine hL _ (N - 1) (by omega) ⟨k + 1,S,by omega,hS2.symm,?_⟩
     simp [g0,g2,b2,g3,g4,ga,gb,b0,b1]
    ·repeat' first | (refine hK _ ?_; clear hK) | (refine zT fun K hK => ?_) | (refine zS ?_; simp only [tZ, tY, strip]) | ((first | refine wOs fun K hK => ?_ | refine zW ?_); simp [g3, ga, gb, gc, hlt, hw, hxx, o1, o3]) | (first | refine zU ?_) | (refine zP ?_; try simp) | (refine wOn ?_; try simp only [zZ])
     refine hL _ (N - 1) (by omega) ⟨k + 1,S,by omega,hS2.symm,?_⟩
     simp [g0,g2,b2,g3,g4,ga,gb,b0,b1]
  ·rw [decide_eq_false o2] at c0
   rw [if_neg (fun h=>o2 h.2 : ¬ (x.ph = 4 /\ x.id ∈ V))] at hx
   clear c1
   by_cases o3 : 3 <= x.ph
   ·rw [if_pos ⟨o3, o2⟩] at hx
    rw [hx] at hS2
    have hSp : (S.each x.id 11 L).p = S.p:=rfl
    have hSg : (S.each x.id 11 L).g = S.g:=rfl
    have hSo : zD (S.each x.id 11 L).o = zD (S.o ++ vZ S.p x.id 11 L):=rfl
    generalize zD (S.o ++ vZ S.p x.id 11 L) = O2 at *
    generalize (S.each x.id 11 L) = S' at *
    generalize zD S.o = O1 at *
    clear hx o2
    by_cases o1 : x.ph = 4
    ·replace o1 : (x.ph = 4) = True := eq_true o1
     repeat' first|(refine zR.pure (c0) rfl ?_)|(refine zV [1024,1025] (c2) (by decide) (by decide) (by simp [zQ,inN,pos,zO,zX,b0,b1]) (by simp [zN,zH,zX,inN,pos]) ⟨[],by simp,by simp,?_⟩;simp [lv,kpI,kpR,pos,ren,zX])|(refine hK _ ?_;clear hK)|(refine zT fun K hK=>?_)|(refine zS ?_;simp only [tZ,tY,strip])|((first | refine wOs fun K hK=>?_ | refine zY ?_ | refine zW ?_);simp [g0,g3,g4,ga,gb,gc,hlt,hw,hxx,o1,o3])|(first | refine zU ?_)|(refine zP ?_;try simp)|(refine wOn ?_;try simp only [zZ])
     refine hL _ (N - 1) (by omega) ⟨k + 1,S',by omega,hS2.symm,?_⟩
     simp [g0,g2,b2,g3,g4,ga,gb,hSp,hSg,hSo,ouN,zX,zO,wS,xY]
    ·replace o1 : (x.ph = 4) = False := eq_false o1
     repeat' first|(refine zR.pure (c0) rfl ?_)|(refine zV [1024,1025] (c2) (by decide) (by decide) (by simp [zQ,inN,pos,zO,zX,b0,b1]) (by simp [zN,zH,zX,inN,pos]) ⟨[],by simp,by simp,?_⟩;simp [lv,kpI,kpR,pos,ren,zX])|(refine hK _ ?_;clear hK)|(refine zT fun K hK=>?_)|(refine zS ?_;simp only [tZ,tY,strip])|((first | refine wOs fun K hK=>?_ | refine zY ?_ | refine zW ?_);simp [g0,g3,g4,ga,gb,gc,hlt,hw,hxx,o1,o3])|(first | refine zU ?_)|(refine zP ?_;try simp)|(refine wOn ?_;try simp only [zZ])
     refine hL _ (N - 1) (by omega) ⟨k + 1,S',by omega,hS2.symm,?_⟩
     simp [g0,g2,b2,g3,g4,ga,gb,hSp,hSg,hSo,ouN,zX,zO,wS,xY]
   ·rw [if_neg (fun h => o3 h.1)] at hx
    rw [hx] at hS2
    have o1 : (x.ph = 4) = False:=eq_false (by omega)
    clear hx c2 o2
    repeat' first|(refine hK _ ?_;clear hK)|(refine zT fun K hK=>?_)|(refine zS ?_;simp only [tZ,tY,strip])|((first | refine wOs fun K hK=>?_ | refine zW ?_);simp [g3,ga,gb,gc,hlt,hw,hxx,o1,o3])|(first | refine zU ?_)|(refine zP ?_;try simp)|(refine wOn ?_;try simp only [zZ])
    refine hL _ (N - 1) (by omega) ⟨k + 1,S,by omega,hS2.symm,?_⟩
    simp [g0,g2,b2,g3,g4,ga,gb,b0,b1]
 have hSf : S = s.p.ls.foldl (vV V z L) s:=by rw [hS,List.take_of_length_le (by omega)]
 rw [<- hSf] at hr hn hp
 have ok3 : OkS n (b + 1000 * k) { S with p:={ S.p with d:=z } }:=⟨okS.hk,okS.ll,okS.lo,okS.lm⟩
 have c1:=stay_con ok3
 generalize hT : vD { S with p:={ S.p with d:=z } } = S' at *
 simp only [sqW,lW] at c1
 generalize zD S.o = O1 at *
 generalize zD S'.o = O2 at *
 clear hS hSf ok3 okS h hps cv hcl hlg o o'
 repeat' first|(refine zV [1024,1025] (c1) (by decide) (by decide) (by simp [zQ,inN,pos,zO,zX,b1]) (by simp [zN,zH,zX,inN,pos]) ⟨[],by simp,by simp,?_⟩;simp [lv,kpI,kpR,pos,ren,zX])|(refine hK _ ?_;clear hK)|(clear hK;refine hK _ ?_;clear hK)|(refine zT fun K hK=>?_)|(refine zS ?_;simp only [tZ,tY,strip])|((first | refine wOs fun K hK=>?_ | refine zW ?_);simp [g0,g2,b2,gb,gc,b0,hlt])|(refine zC ?_;try simp)|(refine wOn ?_;try simp only [zZ])
 all_goals first | apply hn
 all_goals refine ⟨[],by simp,by simp,?_⟩
 all_goals simp [Tryz.f55,yL,yM,zO,gaN,ouN,zX]
end Go.Proofs.YtffflakmofbilaaGreat
