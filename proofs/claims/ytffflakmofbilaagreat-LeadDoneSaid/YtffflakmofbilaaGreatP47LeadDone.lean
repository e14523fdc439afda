/- Texts that the proof needs: LE7 LE9 KMQ LE10. -/
import Derived.Test.YtffflakmofbilaaGreatP31LeadDone
import Derived.Test.YtffflakmofbilaaGreatP46LeadDone
import Derived.Test.YtffflakmofbilaaGreatP30LeadDone
namespace Go.Proofs.YtffflakmofbilaaGreat
set_option linter.unusedSimpArgs false
set_option linter.unusedVariables false
set_option maxRecDepth 8000
open Go Go.Av
attribute [local irreducible] Go.Av.yD Go.Av.zQ Go.Av.yC Go.Av.zJ Go.Av.xZ Go.Av.yT Go.Av.Con
theorem place16_con (h : Hy) (z : Zx) (n : Nat) (hl : h.lg.length <= 1000) (hpl : plc z (mks h) 0 = some n) : zG Tryz.prog 42 [.p (.agg h.cells), .p (.agg [I z.e, I z.n])] (.p (I n)) := by
 have c1:=marks16_con h hl
 have hml:=mks_len h
 revert hpl
 generalize mks h = M at *
 intro hpl
 unfold Hy.cells at *
 refine zL Tryz.tab Tryz.mixed Tryz.func42 rfl rfl Tryz.ntmps42 (by simp) (by simp) fun Q hr hn=>?_
 repeat' first|(refine zQ.pure (c1) rfl ?_)|(refine hK _ ?_;clear hK)|(refine zU fun K hK=>?_)|(refine zT ?_;simp only [uP,uO,strip])|((first | refine wOs fun K hK=>?_ | refine zY ?_);simp)|(first | refine zW ?_)|(refine wOn ?_;try simp only [zZ])
 refine yW (fun N st=>∃ k,k + N = M.length /\ st.s 3 = .ptr 3 0 /\ st.b 3 = some (.box 25 [.p (I z.e),.p (I z.n)]) /\ st.s 8 = .p (.sl 2 (zxs M)) /\ st.s 9 = .p (I M.length) /\ st.s 10 = .p (I k) /\ plc z (M.drop k) k = some n) M.length ⟨0,by simp [hpl]⟩ fun K N st hL ⟨k,hk,g3,b3,g8,g9,g10,hi⟩=>?_
 by_cases hlt : k < M.length
 ·have hw := yV k _ hlt (by omega)
  rw [List.drop_eq_getElem_cons hlt,plc] at hi
  have hx : M[k] = z ↔ M[k].e = z.e /\ M[k].n = z.n:=by cases M[k];cases z;simp
  by_cases o : M[k].e = z.e /\ M[k].n = z.n
  ·rw [if_pos (hx.2 o), uN] at hi
   subst hi
   obtain ⟨o1,o2⟩:=o
   replace o1 : (M[k].e = z.e) = True:=eq_true o1
   replace o2 : (M[k].n = z.n) = True:=eq_true o2
   repeat' first|(refine hK _ ?_;clear hK)|(refine zU fun K hK=>?_)|(refine zT ?_;simp only [uP,uO,strip])|((first | refine wOs fun K hK=>?_ | refine zX ?_);simp [g3,b3,g8,g9,g10,hlt,o1,o2])|(first | refine zW ?_)|((first | refine zN ?_ | refine zR ?_);try simp)|(refine wOn ?_;try simp only [zZ])
   all_goals apply hr
   all_goals simp [Tryz.f42]
  ·rw [if_neg fun h => o (hx.1 h)] at hi
   repeat' first|(refine hK _ ?_;clear hK)|(refine zU fun K hK=>?_)|(refine zT ?_;simp only [uP,uO,strip])|((first | refine wOs fun K hK=>?_ | refine zX ?_);simp [g3,b3,g8,g9,g10,hlt,hw,o])|(first | refine zW ?_)|(refine zR ?_;try simp)|(refine wOn ?_;try simp only [zZ])|(intro _)
   all_goals first | skip
   refine hL _ (N - 1) (by omega) ⟨k + 1,by omega,?_⟩
   simp [g3,b3,g8,g9,hi]
 ·rw [List.drop_of_length_le (by omega), plc] at hi
  cases hi
theorem sameTxns08_con (l : List Tx) (hl : l.length <= 100000) : zG Tryz.prog 18 [.p (.sl 8 (zA l)), .p (.sl 8 (zA l))] (.p (B true)) := by
 refine zL Tryz.tab Tryz.mixed Tryz.func18 rfl rfl Tryz.ntmps18 (by simp) (by simp) fun Q hr hn=>?_
 repeat' first|(refine hK _ ?_;clear hK)|(refine zU fun K hK=>?_)|(refine zT ?_;simp only [uP,uO,strip])|((first | refine wOs fun K hK=>?_ | refine zX ?_);simp)|(first | refine zW ?_)|(refine zR ?_;try simp)|(refine wOn ?_;try simp only [zZ])
 refine yW (fun N st=>∃ k,k + N = l.length /\ st.s 0 = .p (.sl 8 (zA l)) /\ st.s 1 = .p (.sl 8 (zA l)) /\ st.s 12 = .p (I l.length) /\ st.s 13 = .p (I k)) l.length ⟨0,by simp⟩ fun K N st hL ⟨k,hk,g0,g1,g12,g13⟩=>?_
 by_cases hlt : k < l.length
 ·have hw := yV k _ hlt (by omega)
  have he:=xI hlt
  have cc:=sameT08_con l[k] l[k]
  rw [decide_eq_true rfl] at cc
  unfold Tx.cells at cc
  repeat' first|(refine zJ.pure (cc) rfl ?_)|(refine hK _ ?_;clear hK)|(refine zU fun K hK=>?_)|((first | refine zT ?_ | refine zE rfl (by kernel_rfl) ?_);simp only [uP,uO,strip])|((first | refine wOs fun K hK=>?_ | refine wQs fun K hK=>?_ | refine zK ?_ | refine zX ?_);simp [g0,g1,g12,g13,hlt,hw])|(first | refine zW ?_)|(refine zR ?_;try simp)|((first | refine wOn ?_ | refine wQn ?_);try simp only [zZ])
  refine hL _ (N - 1) (by omega) ⟨k + 1,by omega,?_⟩
  simp [g0,g1,g12]
 ·repeat' first | (refine hK _ ?_; clear hK) | (clear hK; refine hK _ ?_; clear hK) | (refine zU fun K hK => ?_) | (refine zT ?_; simp only [uP, uO, strip]) | ((first | refine wOs fun K hK => ?_ | refine zX ?_); simp [g12, g13, hlt]) | ((first | refine zN ?_ | refine zH ?_); try simp) | (refine wOn ?_; try simp only [zZ])
  all_goals apply hr
  all_goals simp [Tryz.f18]
set_option maxHeartbeats 1000000 in
theorem upto16_con (h : Hy) (z : Zx) (n : Nat) (hk : OkH h) (hpl : plc z (mks h) 0 = some n) : zG Tryz.prog 19 [.p (.agg h.cells), .p (.agg [I z.e, I z.n])] (.tup [.p (.agg ({ h with lg := h.lg.take n } : Hy).cells), .p (I 0)]) := by
 have c1:=place16_con h z n hk.lg hpl
 have hml:=mks_len h
 have hlt:=(plc_lt z (mks h) 0 n hpl).2
 have c2:=own16_con h.im hk.ns hk.ss hk.c
 have c3:=all16_con (h.lg.take n) (by have:=hk.lg;rw [List.length_take];omega) fun x hx=>hk.ps x (List.mem_of_mem_take hx)
 have hnl : n <= h.lg.length:=by omega
 have hn0 : ¬ (n : Int) < 0:=by omega
 have htk : (zA h.lg).take n = zA (h.lg.take n):=by simp [zA,List.map_take]
 unfold Hy.cells at *
 unfold Sv.cells at c2
 dsimp only
 refine zL Tryz.tab Tryz.mixed Tryz.func19 rfl rfl Tryz.ntmps19 (by simp) (by simp) fun Q hr hn=>?_
 repeat' first|(refine zQ.pure (c1) rfl ?_)|(refine yT.pure (c2) rfl ?_)|(refine yT.pure (c3) rfl ?_)|(refine hK _ ?_;clear hK)|(refine hK _ _ ?_;clear hK)|(refine zU fun K hK=>?_)|((first | refine zT ?_ | refine yI ?_);simp only [uP,uO,strip])|((first | refine wIs fun K hK=>?_ | refine wOs fun K hK=>?_ | refine zY ?_ | refine yR ?_ | refine zX ?_);simp [hnl,htk,hn0])|(refine wIn ?_;refine And.intro (by kernel_rfl) ?_;try simp only [zZ])|((first | refine zN ?_ | refine zR ?_);try simp)|(refine wOn ?_;try simp only [zZ])
 all_goals apply hr
 all_goals simp [Tryz.f19]
end Go.Proofs.YtffflakmofbilaaGreat
namespace Go.Proofs.YtffflakmofbilaaGreat
set_option linter.unusedSimpArgs false
set_option linter.unusedVariables false
open Go Go.Av
def cle (a b : Zx) : Prop := a.e < b.e \/ (a.e = b.e /\ a.n <= b.n)
theorem uS (a : Zx) : cle a a := .inr ⟨rfl, by omega⟩
theorem cle_trans {a b c : Zx} (h : cle a b) (k : cle b c) : cle a c := by unfold cle at *; omega
theorem cle_lt {a b : Zx} (h : zlt a b) : cle a b := by rw [zlt_iff] at h; unfold cle; omega
theorem cle_cmp {a b : Zx} (h : cle a b) : ¬ xM b.e b.n a.e a.n < 0 := by
 have : ¬ zlt b a:=by rw [zlt_iff];unfold cle at h;omega
 exact this
theorem cmp_cle {a b : Zx} (h : ¬ xM b.e b.n a.e a.n <= 0) : cle a b := by
 rw [zcmp_spec] at h
 unfold cle
 split at h
 ·omega
 ·split at h
  ·omega
  ·omega
theorem mks_ne (h : Hy) : mks h ≠ [] := by simp [mks]
theorem lastH_eq (h : Hy) : yX h = (mks h).getLast (mks_ne h) := by
 unfold yX mks
 split
 ·rename_i h0
  have : h.lg = []:=List.length_eq_zero_iff.1 h0
  simp [this]
 ·rename_i h0
  have hne : h.lg ≠ []:=fun e=>h0 (by rw [e];rfl)
  have hm : (h.lg.map fun t=>(⟨t.e,t.n⟩ : Zx)) ≠ []:=by simpa using hne
  rw [List.getLast_cons hm,List.getLast_map]
  have hlt : h.lg.length - 1 < h.lg.length:=by omega
  have : h.lg.getD (h.lg.length - 1) tx0 = h.lg.getLast hne := by
   rw [List.getLast_eq_getElem,List.getD_eq_getElem?_getD,List.getElem?_eq_getElem hlt];rfl
  rw [this]
theorem lastH_mem (h : Hy) : yX h ∈ mks h := by rw [lastH_eq]; exact List.getLast_mem _
theorem lastH_max {h : Hy} (hr : xW (mks h) = true) {z : Zx} (hz : z ∈ mks h) : cle z (yX h) := by
 rw [lastH_eq]
 have hp:=rises_pw hr
 rw [<- List.dropLast_concat_getLast (mks_ne h)] at hp hz
 rw [List.pairwise_append] at hp
 rcases List.mem_append.1 hz with h1 | h1
 ·exact cle_lt (hp.2.2 z h1 _ (List.mem_singleton.2 rfl))
 ·rw [List.mem_singleton.1 h1];exact uS _
theorem mks_snoc (h : Hy) (t : Tx) : mks { h with lg := h.lg ++ [t] } = mks h ++ [⟨t.e, t.n⟩] := by simp [mks]
theorem rises_snoc {h : Hy} {t : Tx} (hr : xW (mks h) = true) (hg : growOk h [t] = true) : xW (mks { h with lg := h.lg ++ [t] }) = true := by
 rw [mks_snoc]
 refine pw_rises ?_
 rw [List.pairwise_append]
 refine ⟨rises_pw hr,List.pairwise_singleton _ _,fun a ha b hb=>?_⟩
 rw [List.mem_singleton.1 hb]
 have hm:=lastH_max hr ha
 unfold growOk follows at hg
 split at hg
 ·cases hg
 ·rename_i hc
  have : zlt (yX h) ⟨t.e, t.n⟩ := by
   rw [zlt_iff]
   rw [zcmp_spec] at hc
   split at hc
   ·omega
   ·split at hc
    ·omega
    ·simp only;omega
  rw [zlt_iff] at this ⊢
  unfold cle at hm
  omega
theorem comF_facts (h : Hy) (self : Int) (ls : List Lr) (M : List Zx) : ∀ (l : List Tx) (k : Nat) (e n : Int), (∀ t ∈ l, (⟨t.e, t.n⟩ : Zx) ∈ M) -> (⟨e, n⟩ : Zx) ∈ M →
 (⟨(comF h self ls l k e n).1,(comF h self ls l k e n).2⟩ : Zx) ∈ M /\ cle ⟨e,n⟩ ⟨(comF h self ls l k e n).1,(comF h self ls l k e n).2⟩
 | [],k,e,n,_,hm=>⟨hm,uS _⟩
 | t :: r, k, e, n, hl, hm => by
  unfold comF
  split
  ·exact comF_facts h self ls M r (k + 1) e n (fun x hx=>hl x (List.mem_cons_of_mem _ hx)) hm
  ·rename_i hc
   split
   ·obtain ⟨h1, h2⟩ := comF_facts h self ls M r (k + 1) t.e t.n (fun x hx => hl x (List.mem_cons_of_mem _ hx)) (hl t List.mem_cons_self)
    exact ⟨h1,cle_trans (cmp_cle (a:=⟨e,n⟩) (b:=⟨t.e,t.n⟩) hc) h2⟩
   ·exact ⟨hm,uS _⟩
theorem comZ_facts {p : Lq} (hm : p.d ∈ mks p.h) : comZ p ∈ mks p.h /\ cle p.d (comZ p) :=
 comF_facts p.h p.id p.ls (mks p.h) p.h.lg 0 p.d.e p.d.n (fun t ht=>by simp only [mks,List.mem_cons,List.mem_map];exact .inr ⟨t,ht,rfl⟩) hm
structure DoneQ (p q : Lq) : Prop where
 up : cle p.d q.d
 mem : q.d ∈ mks q.h
 c4 : ¬ q.d = p.d -> q.ph = 3 -> p.ph = 3 -> comF q.h q.id q.ls q.h.lg 0 p.d.e p.d.n = (q.d.e,q.d.n)
 c5 : q.ph = 3 -> p.ph = 2 -> allQ (yY q.h p.d.e p.d.n) (xS q.id 4 (yX q.h).e (yX q.h).n q.ls) = true
theorem DoneQ.same {p q : Lq} (h1 : q.d = p.d) (h2 : q.ph = p.ph) (h3 : p.d ∈ mks q.h) : DoneQ p q :=
 ⟨by rw [h1];exact uS _,by rw [h1];exact h3,fun h=>absurd h1 h,fun h h'=>by rw [h2,h'] at h;exact absurd h (by decide)⟩
theorem DoneQ.one {p q : Lq} (h1 : cle p.d q.d) (h2 : q.d ∈ mks q.h) (h3 : p.ph = 1) : DoneQ p q :=
 ⟨h1,h2,fun _ _ h=>by rw [h3] at h;exact absurd h (by decide),fun _ h=>by rw [h3] at h;exact absurd h (by decide)⟩
theorem stay_p (s : Sq) : (stayS s).p = s.p := by unfold stayS; split <;> rfl
theorem com_done {p : Lq} {s : Sq} (h1 : s.p.d = p.d) (h2 : s.p.ph = p.ph) (h3 : p.d ∈ mks s.p.h) : DoneQ p (comS s).p := by
 unfold comS
 split
 ·exact .same h1 h2 h3
 ·rename_i hne
  obtain ⟨f1,f2⟩:=comZ_facts (p:=s.p) (by rw [h1];exact h3)
  simp only [stay_p,xQ (eachCom_p _ _ _)]
  refine ⟨by rw [<- h1];exact f2,f1,fun _ _ _=>?_,fun h h'=>?_⟩
  ·show comF s.p.h s.p.id s.p.ls s.p.h.lg 0 p.d.e p.d.n = _
   rw [<- h1];rfl
  ·have : s.p.ph = 3 := h
   rw [h2,h'] at this;exact absurd this (by decide)
theorem setS_lay {self e n : Int} {l : List Lr} {x : Lr} (hs : Srt l) (hx : x.ph < 4) (hy : ∀ y ∈ l, y.id = x.id -> y.ph < 4) : xS self 4 e n (xK l x) = xS self 4 e n l := by
 unfold xS
 rw [filter_lay _ hs (decide_eq_false fun h=>by have:=h.2.1;omega) fun y hym hi=>decide_eq_false fun h=>by have:=hy y hym hi;have:=h.2.1;omega]
structure Pl (me : Int) (s t : Sq) : Prop where
 h : t.p.h = s.p.h
 d : t.p.d = s.p.d
 ph : t.p.ph = s.p.ph
 id : t.p.id = s.p.id
 srt : Srt t.p.ls
 set : ∀ e n,xS me 4 e n t.p.ls = xS me 4 e n s.p.ls
 low : ∀ y ∈ t.p.ls,y ∈ s.p.ls \/ (y.ph = 3 /\ ∃ x ∈ s.p.ls,x.id = y.id /\ x.ph = 2)
theorem Pl.refl {self : Int} {s : Sq} (hs : Srt s.p.ls) : Pl self s s := ⟨rfl, rfl, rfl, rfl, hs, fun _ _ => rfl, fun y hy => .inl hy⟩
theorem Pl.plan {self : Int} {s t : Sq} (k : Pl self s t) (hs : Srt s.p.ls) {x : Lr} (hx : x ∈ s.p.ls) (h2 : x.ph = 2) : Pl self s (vD t x) := by
 have hy : ∀ y ∈ t.p.ls, y.id = x.id -> y.ph < 4 := fun y hy hi => by
  rcases k.low y hy with h | ⟨h,-⟩
  ·rw [srt_uniq hs h hx hi,h2];decide
  ·omega
 refine ⟨k.h,k.d,k.ph,k.id,srt_lay k.srt,fun e n=>?_,fun y hy2=>?_⟩
 ·show xS self 4 e n (xK t.p.ls { x with ph := 3 }) = _
  rw [setS_lay (x:={ x with ph:=3 }) k.srt (show (3 : Int) < 4 by decide) hy,k.set]
 ·rcases mem_layL.1 hy2 with rfl | ⟨h, -⟩
  ·exact .inr ⟨rfl,x,hx,rfl,h2⟩
  ·exact k.low y h
theorem Pl.plans {self : Int} {s : Sq} (hs : Srt s.p.ls) {l : List Lr} (hl : ∀ x ∈ l, x ∈ s.p.ls) : Pl self s (l.foldl xV s) :=
 foldB (R := Pl self s) l s (fun t x hx k => by
  unfold xV
  split
  ·rename_i h2;exact k.plan hs (hl x hx) h2
  ·exact k) (.refl hs)
theorem Pl.plansV {self : Int} {s : Sq} (hs : Srt s.p.ls) (v : List Int) {l : List Lr} (hl : ∀ x ∈ l, x ∈ s.p.ls) : Pl self s (l.foldl (yG v) s) :=
 foldB (R := Pl self s) l s (fun t x hx k => by
  unfold yG
  split
  ·rename_i h2;exact k.plan hs (hl x hx) h2.1
  ·exact k) (.refl hs)
theorem ready_p (z : Zx) (l : List Lr) (s : Sq) : (l.foldl (xT z) s).p = s.p := xQ (wK z) l s
theorem est_eq (s : Sq) (h : yQ s.p (xS s.p.id 4 (yX s.p.h).e (yX s.p.h).n s.p.ls) = true) : ∃ T : Sq, T.p = { s.p with ph := 3, wt := 0, d := yX s.p.h } /\ estS s = stayS ((T.p.ls.foldl (xT (yX s.p.h)) T).p.ls.foldl xV (T.p.ls.foldl (xT (yX s.p.h)) T)) := by
 refine ⟨{ s with p:={ s.p with ph:=3,wt:=0,d:=yX s.p.h } },rfl,?_⟩
 rw [ready_p]
 unfold estS
 rw [if_pos h]
theorem est_facts {s : Sq} (hs : Srt s.p.ls) : (estS s).p = s.p \/ ((estS s).p.d = yX s.p.h /\ (estS s).p.h = s.p.h /\ (estS s).p.ph = 3 /\ (estS s).p.id = s.p.id /\ yQ s.p (xS s.p.id 4 (yX s.p.h).e (yX s.p.h).n s.p.ls) = true /\ ∀ e n, xS s.p.id 4 e n (estS s).p.ls = xS s.p.id 4 e n s.p.ls) := by
 by_cases hq : yQ s.p (xS s.p.id 4 (yX s.p.h).e (yX s.p.h).n s.p.ls) = true
 ·refine .inr ?_
  obtain ⟨T,hTp,hE⟩:=est_eq s hq
  rw [hE,stay_p]
  have hrp:=ready_p (yX s.p.h) T.p.ls T
  generalize T.p.ls.foldl (xT (yX s.p.h)) T = U at *
  have hs2 : Srt U.p.ls:=by rw [hrp,hTp];exact hs
  have k:=Pl.plans (self:=s.p.id) (s:=U) hs2 (l:=U.p.ls) (fun x hx=>hx)
  refine ⟨by rw [k.d,hrp,hTp],by rw [k.h,hrp,hTp],by rw [k.ph,hrp,hTp],by rw [k.id,hrp,hTp],hq,fun e n=>by rw [k.set,hrp,hTp]⟩
 ·left
  unfold estS
  rw [if_neg hq]
theorem gath_eq (s : Sq) (h : ¬ s.p.ep = 0 /\ yQ s.p (xS s.p.id 2 0 0 s.p.ls) = true) : ∃ T : Sq, T.p = { s.p with ph := 2, wt := 0, cu := s.p.ep } /\ wX s = estS (T.p.ls.foldl (yG (zB T.p)) T) := by
 refine ⟨{ s with p:={ s.p with ph:=2,wt:=0,cu:=s.p.ep } },rfl,?_⟩
 unfold wX
 rw [if_pos h]
theorem gath_facts {s : Sq} (hs : Srt s.p.ls) (hr : xW (mks s.p.h) = true) (hm : s.p.d ∈ mks s.p.h) : cle s.p.d (wX s).p.d /\ (wX s).p.d ∈ mks (wX s).p.h /\ (wX s).p.h = s.p.h := by
 by_cases hq : ¬ s.p.ep = 0 /\ yQ s.p (xS s.p.id 2 0 0 s.p.ls) = true
 ·obtain ⟨T, hTp, hE⟩ := gath_eq s hq
  rw [hE]
  have k:=Pl.plansV (self:=s.p.id) (s:=T) (by rw [hTp];exact hs) (zB T.p) (l:=T.p.ls) (fun x hx=>hx)
  generalize T.p.ls.foldl (yG (zB T.p)) T = U at *
  have hd : U.p.d = s.p.d:=by rw [k.d,hTp]
  have hh : U.p.h = s.p.h:=by rw [k.h,hTp]
  rcases est_facts (s:=U) k.srt with h | ⟨h1,h2,-⟩
  ·rw [h,hd,hh];exact ⟨uS _,hm,rfl⟩
  ·rw [h1,h2,hh];exact ⟨lastH_max hr hm,lastH_mem _,rfl⟩
 ·unfold wX
  rw [if_neg hq]
  exact ⟨uS _,hm,rfl⟩
theorem epoch_p (l : List Lr) (s : Sq) : (l.foldl yE s).p = s.p := xQ vB l s
theorem cho_eq (s : Sq) (h : yQ s.p (xS s.p.id 1 0 0 s.p.ls) = true) (h2 : vH (mostQ s.p) s.p.id = 0) : ∃ T : Sq, T.p = { s.p with ep := xB (mostQ s.p) s.p.id, ac := xB (mostQ s.p) s.p.id } /\ uR s = wX (T.p.ls.foldl yE T) := by
 refine ⟨{ s with p:={ s.p with ep:=xB (mostQ s.p) s.p.id,ac:=xB (mostQ s.p) s.p.id } },rfl,?_⟩
 unfold uR
 rw [if_pos h,if_pos h2]
theorem cho_facts {s : Sq} (hs : Srt s.p.ls) (hr : xW (mks s.p.h) = true) (hm : s.p.d ∈ mks s.p.h) : cle s.p.d (uR s).p.d /\ (uR s).p.d ∈ mks (uR s).p.h /\ (uR s).p.h = s.p.h := by
 by_cases hq : yQ s.p (xS s.p.id 1 0 0 s.p.ls) = true
 ·by_cases hf : vH (mostQ s.p) s.p.id = 0
  ·obtain ⟨T, hTp, hE⟩ := cho_eq s hq hf
   rw [hE]
   have hep:=epoch_p T.p.ls T
   have:=gath_facts (s:=T.p.ls.foldl yE T) (by rw [hep,hTp];exact hs) (by rw [hep,hTp];exact hr) (by rw [hep,hTp];exact hm)
   have hd : T.p.d = s.p.d:=by rw [hTp]
   have hh : T.p.h = s.p.h:=by rw [hTp]
   rw [hep,hd,hh] at this
   exact this
  ·unfold uR
   rw [if_pos hq,if_neg hf]
   exact ⟨uS _,hm,rfl⟩
 ·unfold uR
  rw [if_neg hq]
  exact ⟨uS _,hm,rfl⟩
theorem ackD_facts (s : Sq) (m : Mg) (hm : s.p.d ∈ mks s.p.h) : cle s.p.d (ackD s m).p.d /\ (ackD s m).p.d ∈ mks s.p.h /\ (ackD s m).p.h = s.p.h /\ (ackD s m).p.ls = s.p.ls := by
 unfold ackD
 split
 ·rename_i hc
  exact ⟨cmp_cle (a:=s.p.d) (b:=m.z) (by omega),hc.2,rfl,rfl⟩
 ·exact ⟨uS _,hm,rfl,rfl⟩
theorem do_done {id : Int} {p : Lq} {m : Mg} (hb : Bk id p) (hr : xW (mks p.h) = true) (hm : p.d ∈ mks p.h) (h0 : p.ep = 0 -> p.ph = 1) (hf : 0 <= m.fr /\ m.fr < 16 /\ ¬ m.fr = id) (hms : m.ms.length <= 1000000) : DoneQ p (doS21 ⟨p, false, []⟩ m).p := by
 have hlay : ∀ x : Lr,Srt (xK p.ls x):=fun x=>srt_lay hb.srt
 have same0 : DoneQ p p:=.same rfl rfl hm
 unfold doS21
 split
 ·unfold infoS
  split
  ·exact same0
  ·split
   ·exact .same rfl rfl hm
   ·rename_i he
    have h1:=h0 (by simpa using he)
    obtain ⟨f1,f2,f3⟩:=cho_facts (s:=(⟨p,false,[]⟩ : Sq).lay (yH p m)) (hlay _) hr hm
    exact .one f1 f2 h1
 split
 ·unfold ackEpS
  split
  ·exact same0
  ·split
   ·rename_i h1
    obtain ⟨a1,a2,a3,a4⟩:=ackD_facts ⟨p,false,[]⟩ m hm
    split
    ·exact .one a1 (by rw [a3];exact a2) h1
    ·obtain ⟨f1, f2, f3⟩ := gath_facts (s := (ackD ⟨p, false, []⟩ m).lay (ackX p m)) (by show Srt (xK (ackD ⟨p, false, []⟩ m).p.ls _); rw [a4]; exact hlay _) (by show xW (mks (ackD ⟨p, false, []⟩ m).p.h) = true; rw [a3]; exact hr) (by show (ackD ⟨p, false, []⟩ m).p.d ∈ mks (ackD ⟨p, false, []⟩ m).p.h; rw [a3]; exact a2)
     exact .one (cle_trans a1 f1) f2 h1
   ·split
    ·exact .same rfl rfl hm
    ·exact .same rfl rfl hm
 split
 ·unfold syncS
  split
  ·exact same0
  ·split
   ·rename_i h2
    have hsr:=hlay (syncX p m)
    rcases est_facts (s:=(⟨p,false,[]⟩ : Sq).lay (syncX p m)) hsr with h | ⟨d1,d2,d3,d4,d5,d6⟩
    ·rw [h];exact .same rfl rfl hm
    ·refine ⟨?_, ?_, fun _ _ h => ?_, fun _ _ => ?_⟩
     ·rw [d1];exact lastH_max hr hm
     ·rw [d1,d2];exact lastH_mem _
     ·have : p.ph = 2 := h2
      rw [this] at h;exact absurd h (by decide)
     ·rw [d2,d4,d6];exact d5
   ·split
    ·exact com_done rfl rfl hm
    ·exact .same rfl rfl hm
 split
 ·unfold ackdS
  split
  ·exact same0
  ·split
   ·exact com_done rfl rfl hm
   ·exact .same rfl rfl hm
 split
 ·exact .same rfl rfl hm
 ·exact same0
theorem act_done {id : Int} {p : Lq} {e : Ev21} (hb : Bk id p) (hr : xW (mks p.h) = true) (hm : p.d ∈ mks p.h) (h0 : p.ep = 0 -> p.ph = 1) (hms : e.m.ms.length <= 1000000) :
 DoneQ p (actS p e).p /\ xW (mks (actS p e).p.h) = true /\ p.h.lg.length <= (actS p e).p.h.lg.length /\ (actS p e).p.h.lg.take p.h.lg.length = p.h.lg:=by
 have keep : ∀ q : Lq, q.h = p.h -> xW (mks q.h) = true /\ p.h.lg.length <= q.h.lg.length /\ q.h.lg.take p.h.lg.length = p.h.lg := fun q h => by
  rw [h];exact ⟨hr,Nat.le_refl _,List.take_length⟩
 have same0 : DoneQ p p:=.same rfl rfl hm
 unfold actS
 split
 ·have sk := hear_sk hb hms
  refine ⟨?_,keep _ sk.h⟩
  have hE : hearS p e.m = if p.mo = 2 /\ concQ (yK p) e.m then doS21 ⟨yK p,false,[]⟩ e.m else ⟨yK p,false,[]⟩:=rfl
  rw [hE,hb.relay]
  split
  ·rename_i hf
   exact do_done hb hr hm h0 ⟨hf.2.2.1,hf.2.2.2.1,fun h=>hf.2.1 (by rw [h];exact hb.eq.symm)⟩ hms
  ·exact same0
 split
 ·have hk := tick_bk hb
  refine ⟨?_,keep _ hk.2⟩
  unfold tickS
  rw [if_pos hb.mo,hb.relay]
  exact .same rfl rfl hm
 split
 ·have hk := lost_bk hb e.n
  refine ⟨?_,keep _ hk.2⟩
  show DoneQ p (lostQ p e.n)
  unfold lostQ
  rw [if_pos hb.mo]
  exact .same rfl rfl hm
 ·rcases prop_sk hb (evT p e) with ⟨-, h⟩ | ⟨hok, sk⟩
  ·rw [h];exact ⟨same0,keep p rfl⟩
  ·refine ⟨?_, ?_, ?_, ?_⟩
   ·unfold propS
    rw [if_pos hok]
    refine com_done ?_ ?_ ?_
    ·rw [xQ (eachProp_p _ _ _ _)];rfl
    ·rw [xQ (eachProp_p _ _ _ _)];rfl
    ·rw [xQ (eachProp_p _ _ _ _)]
     show p.d ∈ mks { p.h with lg:=p.h.lg ++ [evT p e] }
     rw [mks_snoc];exact List.mem_append_left _ hm
   ·rw [sk.h];exact rises_snoc hr hok.2.2
   ·rw [sk.h];simp
   ·rw [sk.h];simp
theorem plc_of {z : Zx} : ∀ (l : List Zx) (k : Nat), z ∈ l -> ∃ n, plc z l k = some n
 | [],_,h=>by cases h
 | a :: l, k, h => by
  unfold plc
  by_cases o : a = z
  ·exact ⟨k,by simp [o]⟩
  ·rcases List.mem_cons.1 h with h | h
   ·exact absurd h.symm o
   ·obtain ⟨n, hn⟩ := plc_of l (k + 1) h
    exact ⟨n,by simp [o,hn]⟩
end Go.Proofs.YtffflakmofbilaaGreat
namespace Go.Proofs.YtffflakmofbilaaGreat
set_option linter.unusedSimpArgs false
set_option linter.unusedVariables false
open Go Go.Av
attribute [local irreducible] Go.Av.yD Go.Av.zQ Go.Av.yC Go.Av.zJ Go.Av.xZ Go.Av.yT Go.Av.Con
set_option maxHeartbeats 8000000 in
theorem commit19_con (h : Hy) (de dn self : Int) (l : List Lr) (hk : OkH h) (hl : l.length <= 100000) : zG Tryz.prog 20 [.p (.agg h.cells), .p (.agg [I de, I dn]), .p (I self), .p (.sl 8 (lrs l))] (.p (.agg [I (comF h self l h.lg 0 de dn).1, I (comF h self l h.lg 0 de dn).2])) := by
 have hlg:=hk.lg
 have c0:=Own16_con h hk
 unfold Hy.cells at c0 ⊢
 refine zL Tryz.tab Tryz.mixed Tryz.func20 rfl rfl Tryz.ntmps20 (by simp) (by simp) fun Q hr hn=>?_
 repeat' first|(refine hK _ ?_;clear hK)|(refine zU fun K hK=>?_)|(refine zT ?_;simp only [uP,uO,strip])|((first | refine wOs fun K hK=>?_ | refine zY ?_);simp)|(first | refine zW ?_ | refine wScope ?_)|((first | refine wLabel ?_ | refine wOn ?_);try simp only [zZ])|(refine zQ.pure (c0) rfl ?_)
 refine yW (fun N st=>∃ (k : Nat) (e n : Int),k + N = h.lg.length /\ comF h self l (h.lg.drop k) k e n = comF h self l h.lg 0 de dn /\ st.s 2 = .p (I self) /\ st.s 3 = .p (.sl 8 (lrs l)) /\ st.s 4 = .ptr 4 0 /\ st.b 4 = some (.box 33 [.p (.sl 5 (zns h.im.ns)),.p (.sl 1 (ints h.im.ss)),.p (I h.im.nx),.p (I h.im.c.ep),.p (I h.im.c.n),.p (I h.im.c.kind),.p (.sl 4 (mbs h.im.c.ms)),.p (I h.im.ae),.p (I h.im.an),.p (.sl 8 (zA h.lg))]) /\ st.s 9 = .ptr 9 0 /\ st.b 9 = some (.box 25 [.p (I e),.p (I n)]) /\ st.s 8 = .ptr 8 0 /\ st.b 8 = some (.box 25 [.p (I 0),.p (I 0)]) /\ st.s 18 = .p (I h.lg.length) /\ st.s 19 = .p (I k)) h.lg.length ⟨0,de,dn,by simp⟩ fun K N st hL ⟨k,e,n,hkN,hi,g2,g3,g4,b4,gc,bc,g8,b8,gl,gk⟩=>?_
 by_cases hlt : k < h.lg.length
 ·have hlt' : (k : Int) < h.lg.length := by omega
  have hlt2 : k + 1 <= h.lg.length:=by omega
  have h0k : (0 : Int) <= (k : Int) + 1:=by omega
  have hw:=yV k _ hlt (by omega)
  have he:=xI hlt
  have ht:=txns_take' h.lg (k + 1)
  have c1:=cmp02_con h.lg[k].e h.lg[k].n e n
  rw [List.drop_eq_getElem_cons hlt] at hi
  simp only [comF] at hi
  by_cases o1 : xM h.lg[k].e h.lg[k].n e n <= 0
  ·rw [if_pos o1] at hi
   repeat' first|(refine hK _ ?_;clear hK)|(clear hK;refine hK _ ?_;clear hK)|(refine zU fun K hK=>?_)|(refine zT ?_;simp only [uP,uO,strip])|((first | refine wOs fun K hK=>?_ | refine zY ?_ | refine zX ?_);simp [g4,b4,gc,bc,gl,gk,hlt,hlt',o1,hw])|(first | refine zW ?_)|((first | refine zH ?_ | refine zR ?_);try simp)|(refine wOn ?_;try simp only [zZ])|(refine zQ.pure (c1) rfl ?_)
   refine hL _ (N - 1) (by omega) ⟨k + 1,e,n,by omega,hi,?_⟩
   simp [g2,g3,g4,b4,gc,bc,g8,b8,gl]
  ·rw [if_neg o1] at hi
   have hk2 : OkH ⟨h.im,h.lg.take (k + 1)⟩:=hk.take (k + 1)
   have c2:=needs16_con ⟨h.im,h.lg.take (k + 1)⟩ e n hk2
   have hcf:=needs_ok hk2 e n
   rw [needs_take] at c2 hcf
   have c3:=set19_con self 4 h.lg[k].e h.lg[k].n l hl
   have c4:=all05_con (endN (wA h (h.lg.take (k + 1))) e n) (xS self 4 h.lg[k].e h.lg[k].n l) (by have:=endN_len (wA h (h.lg.take (k + 1))) e n;omega) (fun c hc=>by have:=hcf c hc;omega)
   unfold Hy.cells at c2
   simp only at c2
   generalize endN (wA h (h.lg.take (k + 1))) e n = nd at c2 c4 hi
   generalize xS self 4 h.lg[k].e h.lg[k].n l = ss at c3 c4 hi
   by_cases o2 : allQ nd ss = true
   ·rw [if_pos o2] at hi
    rw [o2] at c4
    repeat' first|(refine hK _ ?_;clear hK)|(refine zU fun K hK=>?_)|((first | refine zT ?_ | refine zE rfl (by kernel_rfl) ?_);simp only [uP,uO,strip])|((first | refine wOs fun K hK=>?_ | refine wQs fun K hK=>?_ | refine zY ?_ | refine zK ?_ | refine zX ?_);simp [g2,g3,g4,b4,gc,bc,gl,gk,hlt,hlt',hlt2,h0k,o1,hw,ht])|(first | refine zW ?_)|(refine zR ?_;try simp)|((first | refine wOn ?_ | refine wQn ?_);try simp only [zZ])|(refine zQ.pure (c1) rfl ?_)|(refine zJ.pure (c2) rfl ?_)|(refine zQ.pure (c3) rfl ?_)|(refine zQ.pure (c4) rfl ?_)
    refine hL _ (N - 1) (by omega) ⟨k + 1,_,_,by omega,hi,?_⟩
    simp [g2,g3,g4,b4,gc,g8,b8,gl]
   ·rw [if_neg o2] at hi
    rw [<- hi] at hr
    simp only [Bool.not_eq_true] at o2
    rw [o2] at c4
    repeat' first|(refine hK _ ?_;clear hK)|(clear hK;clear hK;refine hK _ ?_;clear hK)|(refine zU fun K hK=>?_)|((first | refine zT ?_ | refine zE rfl (by kernel_rfl) ?_);simp only [uP,uO,strip])|((first | refine wOs fun K hK=>?_ | refine wQs fun K hK=>?_ | refine zY ?_ | refine zK ?_ | refine zX ?_);simp [g2,g3,g4,b4,gc,bc,g8,b8,gl,gk,hlt,hlt',hlt2,h0k,o1,hw,ht])|(first | refine zW ?_)|((first | refine zN ?_ | refine zH ?_ | refine zR ?_);try simp)|((first | refine wOn ?_ | refine wQn ?_);try simp only [zZ])|(refine zQ.pure (c1) rfl ?_)|(refine zJ.pure (c2) rfl ?_)|(refine zQ.pure (c3) rfl ?_)|(refine zQ.pure (c4) rfl ?_)
    all_goals apply hr
    all_goals simp [Tryz.f20,g8]
 ·have hlt' : ¬ (k : Int) < h.lg.length := by omega
  rw [List.drop_of_length_le (by omega)] at hi
  simp only [comF] at hi
  rw [<- hi] at hr
  repeat' first|(refine hK _ ?_;clear hK)|(clear hK;refine hK _ ?_;clear hK)|(refine zU fun K hK=>?_)|(refine zT ?_;simp only [uP,uO,strip])|((first | refine wOs fun K hK=>?_ | refine zX ?_);simp [gc,bc,g8,b8,gl,gk,hlt'])|((first | refine zN ?_ | refine zH ?_);try simp)|(refine wOn ?_;try simp only [zZ])
  all_goals apply hr
  all_goals simp [Tryz.f20,g8]
end Go.Proofs.YtffflakmofbilaaGreat
namespace Go.Proofs.YtffflakmofbilaaGreat
set_option linter.unusedSimpArgs false
set_option linter.unusedVariables false
set_option maxRecDepth 8000
open Go Go.Av
attribute [local irreducible] Go.Av.yD Go.Av.zQ Go.Av.yC Go.Av.zJ Go.Av.xZ Go.Av.yT Go.Av.Con
theorem begin_done {w : Wh} (hm : mayW w) : xW (mks (uR ⟨begQ (beg w), false, []⟩).p.h) = true /\ (uR ⟨begQ (beg w), false, []⟩).p.d ∈ mks (uR ⟨begQ (beg w), false, []⟩).p.h := by
 have hd : (beg w).d ∈ mks (beg w).h:=List.mem_cons_self
 obtain ⟨-,h2,h3⟩:=cho_facts (s:=⟨begQ (beg w),false,[]⟩) List.Pairwise.nil hm.2.2.2.2.1 hd
 exact ⟨by rw [h3];exact hm.2.2.2.2.1,h2⟩
set_option maxHeartbeats 64000000 in
theorem leadDone_con (w : Wh) (l : List Ev21) (hs : SmallH w.h) (hl : ∀ e ∈ l, SmallE e) : zG Tryz.prog 4 [.p (.agg w.cells), .p (.sl 56 (evsC l))] (.p (B true)) := by
 have cm:=may_con w hs
 have ce:=evs_con l hl
 have ca:=awake21
 by_cases hm : mayW w
 case neg =>
  rw [decide_eq_false hm] at cm
  clear ce hm
  unfold Wh.cells at *
  refine zL Tryz.tab Tryz.mixed Tryz.func4 rfl rfl Tryz.ntmps4 (by simp) (by simp) fun Q hr hn=>?_
  repeat' first|(refine zQ.pure (cm) rfl ?_)|(refine zQ.pure (ca) rfl ?_)|(refine hK _ ?_;clear hK)|(refine zU fun K hK=>?_)|(refine zT ?_;simp only [uP,uO,strip])|((first | refine wOs fun K hK=>?_ | refine zY ?_ | refine zX ?_);simp [List.length_nil])|(refine zN ?_;try simp)|(refine wOn ?_;try simp only [zZ])
  all_goals apply hr
  all_goals simp [Tryz.f4]
 rw [decide_eq_true hm] at cm
 by_cases he : nearL l
 case neg =>
  rw [decide_eq_true he] at ce
  clear he hm
  unfold Wh.cells at *
  refine zL Tryz.tab Tryz.mixed Tryz.func4 rfl rfl Tryz.ntmps4 (by simp) (by simp) fun Q hr hn=>?_
  repeat' first|(refine zQ.pure (cm) rfl ?_)|(refine zQ.pure (ce) rfl ?_)|(refine zQ.pure (ca) rfl ?_)|(refine hK _ ?_;clear hK)|(refine zU fun K hK=>?_)|(refine zT ?_;simp only [uP,uO,strip])|((first | refine wOs fun K hK=>?_ | refine zY ?_ | refine zX ?_);simp [List.length_nil])|(refine zN ?_;try simp)|(refine wOn ?_;try simp only [zZ])
  all_goals apply hr
  all_goals simp [Tryz.f4]
 rw [decide_eq_false (not_not_intro he)] at ce
 have hi0:=begin_inv hm
 obtain ⟨hr0,hd0⟩:=begin_done hm
 have okw : OkH w.h:=(near_HB hm.2.2.2.1).ok (by omega)
 have c1:=begin21_con w
 have c2:=begin_con (beg w) okw (by simp [beg]) (by simp [beg])
 have hln:=he.1
 generalize hS0 : uR ⟨begQ (beg w),false,[]⟩ = S0 at *
 generalize beg w = w0 at *
 obtain ⟨p0,g0,o0⟩:=S0
 dsimp only at hi0 hr0 hd0 c2
 generalize zC o0 = O0 at *
 unfold Wh.cells at *
 unfold Lq.cells Hy.cells at c1
 unfold Lq.cells at c2
 refine zL Tryz.tab Tryz.mixed Tryz.func4 rfl rfl Tryz.ntmps4 (by simp) (by simp) fun Q hr hn=>?_
 repeat' first|(refine zQ.pure (cm) rfl ?_)|(refine zQ.pure (ce) rfl ?_)|(refine zQ.pure (c1) rfl ?_)|(refine zQ.pure (c2) rfl ?_)|(refine hK _ ?_;clear hK)|(refine zU fun K hK=>?_)|(refine zT ?_;simp only [uP,uO,strip])|((first | refine wOs fun K hK=>?_ | refine zY ?_ | refine zX ?_);simp [List.length_nil])|(first | refine zW ?_)|(refine zR ?_;try simp)|(refine wOn ?_;try simp only [zZ])
 clear c1 c2 cm ce hS0
 refine yW (fun N st=>∃ k p up,k + N = l.length /\ InvE w k p /\ xW (mks p.h) = true /\ p.d ∈ mks p.h /\ st.s 2 = .ptr 2 0 /\ st.b 2 = some (.box 35 (wB w)) /\ st.s 5 = .ptr 5 0 /\ st.b 5 = some (.box 47 (pB p)) /\ st.s 7 = .p (B up) /\ st.s 37 = .p (.sl 56 (evsC l)) /\ st.s 38 = .p (I l.length) /\ st.s 39 = .p (I k)) l.length ⟨0,p0,!g0,by simp [pB,wB];exact ⟨hi0,hr0,hd0⟩⟩ fun K N st hL ⟨k,p,up,hkN,hI,hRs,hDm,g2,b2,g5,b5,g7,g37,g38,g39⟩=>?_
 by_cases hlt : k < l.length
 case neg =>
  clear hI
  unfold pB at b5
  unfold wB at b2
  repeat' first|(refine zQ.pure (ca) rfl ?_)|(refine hK _ ?_;clear hK)|(clear hK;refine hK _ ?_;clear hK)|(refine zU fun K hK=>?_)|(refine zT ?_;simp only [uP,uO,strip])|((first | refine wOs fun K hK=>?_ | refine zY ?_ | refine zX ?_);simp [g38,g39,hlt])|((first | refine zN ?_ | refine zH ?_);try simp)|(refine wOn ?_;try simp only [zZ])
  all_goals apply hr
  all_goals simp [Tryz.f4]
 have hw:=yV k _ hlt (by omega)
 have hne:=he.2 l[k] (List.getElem_mem hlt)
 cases up
 ·clear hI hne
  unfold pB at b5
  unfold wB at b2
  repeat' first|(refine zQ.pure (ca) rfl ?_)|(refine hK _ ?_;clear hK)|(refine zU fun K hK=>?_)|(refine zT ?_;simp only [uP,uO,strip])|((first | refine wOs fun K hK=>?_ | refine zY ?_ | refine zX ?_);simp [g7,g37,g38,g39,hlt])|(first | refine zW ?_)|((first | refine zN ?_ | refine zR ?_);try simp)|(refine wOn ?_;try simp only [zZ])
  all_goals apply hr
  all_goals simp [Tryz.f4]
 have hg:=evsC_get hlt
 have hms : l[k].m.ms.length <= 1000000:=by have:=hne.1;omega
 have hnt:=hne.t
 have cd:=do21_con p l[k] hI.bk (hI.hb.ok (by omega)) ((hI.hb.snoc (t:=evT p l[k]) hnt).ok (by omega)) hms ⟨by have:=hnt.1;omega,fun x hx=>by have:=hnt.2 x hx;omega⟩
 obtain ⟨hI2,-,-⟩:=hI.act (e:=l[k]) hms hnt
 obtain ⟨dq,hRs2,hlen,htake⟩:=act_done (e:=l[k]) hI.bk hRs hDm (fun h=>(hI.e0 h).2.2.2) hms
 have okp : OkH p.h:=hI.hb.ok (by omega)
 have hll2:=hI2.bk.len
 clear hne hms hnt hI
 unfold sOut at cd
 generalize actS p l[k] = R at *
 obtain ⟨q,gq,oq⟩:=R
 dsimp only at *
 have okq : OkH q.h:=hI2.hb.ok (by omega)
 obtain ⟨up',hqm,hc4,hc5⟩:=dq
 have k1 : ¬ xM q.d.e q.d.n p.d.e p.d.n < 0:=cle_cmp up'
 have k2 : ¬ (q.h.lg.length : Int) < p.h.lg.length:=by omega
 have k3 : (zA q.h.lg).take p.h.lg.length = zA p.h.lg:=by unfold zA;rw [<- List.map_take,htake]
 have k4 : p.h.lg.length <= q.h.lg.length:=hlen
 have k5 : (p.h.lg.length : Int) <= q.h.lg.length:=by omega
 have k6 : ¬ q.h.lg.length < p.h.lg.length:=by omega
 have e1:=cmp02_con q.d.e q.d.n p.d.e p.d.n
 have e2:=sameTxns08_con p.h.lg (by have:=okp.lg;omega)
 obtain ⟨nu,hnu⟩:=plc_of (mks q.h) 0 hqm
 have e3:=upto16_con q.h q.d nu okq hnu
 have e4:=commit19_con q.h p.d.e p.d.n q.id q.ls okq (by omega)
 have e5:=needs16_con q.h p.d.e p.d.n okq
 have e6:=last16_con q.h okq.lg
 have e7:=set19_con q.id 4 (yX q.h).e (yX q.h).n q.ls (by omega)
 have e8:=all05_con (yY q.h p.d.e p.d.n) (xS q.id 4 (yX q.h).e (yX q.h).n q.ls) (by have:=endN_len (wA q.h q.h.lg) p.d.e p.d.n;unfold yY;omega) (fun c hc=>by have:=needs_ok okq p.d.e p.d.n c hc;omega)
 generalize ({ q.h with lg:=q.h.lg.take nu } : Hy) = U at *
 generalize zC oq = OQ at *
 generalize hx : l[k] = x at *
 generalize xM q.d.e q.d.n p.d.e p.d.n = zc at *
 have k1' : 0 <= zc:=by omega
 generalize cfs (yY q.h p.d.e p.d.n) = CF at *
 generalize xS q.id 4 (yX q.h).e (yX q.h).n q.ls = ST at *
 generalize yX q.h = LH at *
 generalize comF q.h q.id q.ls q.h.lg 0 p.d.e p.d.n = CM at *
 generalize allQ (yY q.h p.d.e p.d.n) ST = AQ at *
 obtain ⟨ce',cn'⟩:=CM
 have hDm2:=hqm
 clear hnu okq okp hlen htake hll2 hRs hDm k2 hd0 hr0 up'
 unfold pB at b5
 unfold wB at b2
 unfold Ev21.cells at hg cd
 unfold Lq.cells at cd
 unfold Hy.cells at e3 e4 e5 e6
 by_cases y1 : q.d.e = p.d.e
 ·have y1' := eq_true y1
  by_cases y2 : q.d.n = p.d.n
  ·have y2' := eq_true y2
   by_cases t3 : q.ph = 3
   ·have t3' := eq_true t3
    by_cases r3 : p.ph = 3
    ·have r3' := eq_true r3
     have r2' : (p.ph = 2) = False:=eq_false (by omega)
     repeat' first|(refine hK _ ?_;clear hK)|(refine zU fun K hK=>?_)|((first | refine zT ?_ | refine zE rfl (by kernel_rfl) ?_);simp only [uP,uO,strip])|((first | refine wOs fun K hK=>?_ | refine wQs fun K hK=>?_ | refine zY ?_ | refine zK ?_ | refine zX ?_);simp [g5,b5,g7,g37,g38,g39,hlt,hx,hw,k1,k3,k4,k6,y1',y2',t3',r2'])|(first | refine zW ?_)|(refine zR ?_;try simp)|((first | refine wOn ?_ | refine wQn ?_);try simp only [zZ])|(refine zQ.pure (cd) rfl ?_)|(refine zJ.pure (e1) rfl ?_)|(refine zJ.pure (e2) rfl ?_)|(refine zQ.pure (e3) rfl ?_)
     refine hL _ (N - 1) (by omega) ⟨k + 1,q,!gq,by omega,hI2,hRs2,hDm2,?_⟩
     simp [g2,b2,g5,g37,g38,pB,wB]
    have r3':=eq_false r3
    by_cases r2 : p.ph = 2
    ·have r2' := eq_true r2
     have h5:=hc5 t3 r2
     subst h5
     repeat' first|(refine hK _ ?_;clear hK)|(refine zU fun K hK=>?_)|((first | refine zT ?_ | refine zE rfl (by kernel_rfl) ?_);simp only [uP,uO,strip])|((first | refine wOs fun K hK=>?_ | refine wQs fun K hK=>?_ | refine zY ?_ | refine zK ?_ | refine zX ?_);simp [g5,b5,g7,g37,g38,g39,hlt,hx,hw,k1,k3,k4,k6,y1',y2',t3',r2'])|(first | refine zW ?_)|(refine zR ?_;try simp)|((first | refine wOn ?_ | refine wQn ?_);try simp only [zZ])|(refine zQ.pure (cd) rfl ?_)|(refine zJ.pure (e1) rfl ?_)|(refine zJ.pure (e2) rfl ?_)|(refine zQ.pure (e3) rfl ?_)|(refine zJ.pure (e5) rfl ?_)|(refine zJ.pure (e6) rfl ?_)|(refine zJ.pure (e7) rfl ?_)|(refine zJ.pure (e8) rfl ?_)
     refine hL _ (N - 1) (by omega) ⟨k + 1,q,!gq,by omega,hI2,hRs2,hDm2,?_⟩
     simp [g2,b2,g5,g37,g38,pB,wB]
    ·have r2' := eq_false r2
     repeat' first|(refine hK _ ?_;clear hK)|(refine zU fun K hK=>?_)|((first | refine zT ?_ | refine zE rfl (by kernel_rfl) ?_);simp only [uP,uO,strip])|((first | refine wOs fun K hK=>?_ | refine wQs fun K hK=>?_ | refine zY ?_ | refine zK ?_ | refine zX ?_);simp [g5,b5,g7,g37,g38,g39,hlt,hx,hw,k1,k3,k4,k6,y1',y2',t3',r2'])|(first | refine zW ?_)|(refine zR ?_;try simp)|((first | refine wOn ?_ | refine wQn ?_);try simp only [zZ])|(refine zQ.pure (cd) rfl ?_)|(refine zJ.pure (e1) rfl ?_)|(refine zJ.pure (e2) rfl ?_)|(refine zQ.pure (e3) rfl ?_)
     refine hL _ (N - 1) (by omega) ⟨k + 1,q,!gq,by omega,hI2,hRs2,hDm2,?_⟩
     simp [g2,b2,g5,g37,g38,pB,wB]
   ·have t3' := eq_false t3
    repeat' first|(refine hK _ ?_;clear hK)|(refine zU fun K hK=>?_)|((first | refine zT ?_ | refine zE rfl (by kernel_rfl) ?_);simp only [uP,uO,strip])|((first | refine wOs fun K hK=>?_ | refine wQs fun K hK=>?_ | refine zY ?_ | refine zK ?_ | refine zX ?_);simp [g5,b5,g7,g37,g38,g39,hlt,hx,hw,k1,k3,k4,k6,y1',y2',t3'])|(first | refine zW ?_)|(refine zR ?_;try simp)|((first | refine wOn ?_ | refine wQn ?_);try simp only [zZ])|(refine zQ.pure (cd) rfl ?_)|(refine zJ.pure (e1) rfl ?_)|(refine zJ.pure (e2) rfl ?_)|(refine zQ.pure (e3) rfl ?_)
    refine hL _ (N - 1) (by omega) ⟨k + 1,q,!gq,by omega,hI2,hRs2,hDm2,?_⟩
    simp [g2,b2,g5,g37,g38,pB,wB]
  ·have y2' := eq_false y2
   have hDne : ¬ q.d = p.d:=fun h=>y2 (by rw [h])
   by_cases t3 : q.ph = 3
   ·have t3' := eq_true t3
    by_cases r3 : p.ph = 3
    ·have r3' := eq_true r3
     have r2' : (p.ph = 2) = False:=eq_false (by omega)
     have h4:=hc4 hDne t3 r3
     simp only [Prod.mk.injEq] at h4
     obtain ⟨h41,h42⟩:=h4
     subst h41 h42
     repeat' first|(refine hK _ ?_;clear hK)|(refine zU fun K hK=>?_)|((first | refine zT ?_ | refine zE rfl (by kernel_rfl) ?_);simp only [uP,uO,strip])|((first | refine wOs fun K hK=>?_ | refine wQs fun K hK=>?_ | refine zY ?_ | refine zK ?_ | refine zX ?_);simp [g5,b5,g7,g37,g38,g39,hlt,hx,hw,k1,k3,k4,k6,y1',y2',t3',r3',r2'])|(first | refine zW ?_)|(refine zR ?_;try simp)|((first | refine wOn ?_ | refine wQn ?_);try simp only [zZ])|(refine zQ.pure (cd) rfl ?_)|(refine zJ.pure (e1) rfl ?_)|(refine zJ.pure (e2) rfl ?_)|(refine zQ.pure (e3) rfl ?_)|(refine zJ.pure (e4) rfl ?_)
     refine hL _ (N - 1) (by omega) ⟨k + 1,q,!gq,by omega,hI2,hRs2,hDm2,?_⟩
     simp [g2,b2,g5,g37,g38,pB,wB]
    have r3':=eq_false r3
    by_cases r2 : p.ph = 2
    ·have r2' := eq_true r2
     have h5:=hc5 t3 r2
     subst h5
     repeat' first|(refine hK _ ?_;clear hK)|(refine zU fun K hK=>?_)|((first | refine zT ?_ | refine zE rfl (by kernel_rfl) ?_);simp only [uP,uO,strip])|((first | refine wOs fun K hK=>?_ | refine wQs fun K hK=>?_ | refine zY ?_ | refine zK ?_ | refine zX ?_);simp [g5,b5,g7,g37,g38,g39,hlt,hx,hw,k1,k3,k4,k6,y1',y2',t3',r3',r2'])|(first | refine zW ?_)|(refine zR ?_;try simp)|((first | refine wOn ?_ | refine wQn ?_);try simp only [zZ])|(refine zQ.pure (cd) rfl ?_)|(refine zJ.pure (e1) rfl ?_)|(refine zJ.pure (e2) rfl ?_)|(refine zQ.pure (e3) rfl ?_)|(refine zJ.pure (e5) rfl ?_)|(refine zJ.pure (e6) rfl ?_)|(refine zJ.pure (e7) rfl ?_)|(refine zJ.pure (e8) rfl ?_)
     refine hL _ (N - 1) (by omega) ⟨k + 1,q,!gq,by omega,hI2,hRs2,hDm2,?_⟩
     simp [g2,b2,g5,g37,g38,pB,wB]
    ·have r2' := eq_false r2
     repeat' first|(refine hK _ ?_;clear hK)|(refine zU fun K hK=>?_)|((first | refine zT ?_ | refine zE rfl (by kernel_rfl) ?_);simp only [uP,uO,strip])|((first | refine wOs fun K hK=>?_ | refine wQs fun K hK=>?_ | refine zY ?_ | refine zK ?_ | refine zX ?_);simp [g5,b5,g7,g37,g38,g39,hlt,hx,hw,k1,k3,k4,k6,y1',y2',t3',r3',r2'])|(first | refine zW ?_)|(refine zR ?_;try simp)|((first | refine wOn ?_ | refine wQn ?_);try simp only [zZ])|(refine zQ.pure (cd) rfl ?_)|(refine zJ.pure (e1) rfl ?_)|(refine zJ.pure (e2) rfl ?_)|(refine zQ.pure (e3) rfl ?_)
     refine hL _ (N - 1) (by omega) ⟨k + 1,q,!gq,by omega,hI2,hRs2,hDm2,?_⟩
     simp [g2,b2,g5,g37,g38,pB,wB]
   ·have t3' := eq_false t3
    repeat' first|(refine hK _ ?_;clear hK)|(refine zU fun K hK=>?_)|((first | refine zT ?_ | refine zE rfl (by kernel_rfl) ?_);simp only [uP,uO,strip])|((first | refine wOs fun K hK=>?_ | refine wQs fun K hK=>?_ | refine zY ?_ | refine zK ?_ | refine zX ?_);simp [g5,b5,g7,g37,g38,g39,hlt,hx,hw,k1,k3,k4,k6,y1',y2',t3'])|(first | refine zW ?_)|(refine zR ?_;try simp)|((first | refine wOn ?_ | refine wQn ?_);try simp only [zZ])|(refine zQ.pure (cd) rfl ?_)|(refine zJ.pure (e1) rfl ?_)|(refine zJ.pure (e2) rfl ?_)|(refine zQ.pure (e3) rfl ?_)
    refine hL _ (N - 1) (by omega) ⟨k + 1,q,!gq,by omega,hI2,hRs2,hDm2,?_⟩
    simp [g2,b2,g5,g37,g38,pB,wB]
 ·have y1' := eq_false y1
  have hDne : ¬ q.d = p.d:=fun h=>y1 (by rw [h])
  by_cases t3 : q.ph = 3
  ·have t3' := eq_true t3
   by_cases r3 : p.ph = 3
   ·have r3' := eq_true r3
    have r2' : (p.ph = 2) = False:=eq_false (by omega)
    have h4:=hc4 hDne t3 r3
    simp only [Prod.mk.injEq] at h4
    obtain ⟨h41,h42⟩:=h4
    subst h41 h42
    repeat' first|(refine hK _ ?_;clear hK)|(refine zU fun K hK=>?_)|((first | refine zT ?_ | refine zE rfl (by kernel_rfl) ?_);simp only [uP,uO,strip])|((first | refine wOs fun K hK=>?_ | refine wQs fun K hK=>?_ | refine zY ?_ | refine zK ?_ | refine zX ?_);simp [g5,b5,g7,g37,g38,g39,hlt,hx,hw,k1,k3,k4,k6,y1',t3',r3',r2'])|(first | refine zW ?_)|(refine zR ?_;try simp)|((first | refine wOn ?_ | refine wQn ?_);try simp only [zZ])|(refine zQ.pure (cd) rfl ?_)|(refine zJ.pure (e1) rfl ?_)|(refine zJ.pure (e2) rfl ?_)|(refine zQ.pure (e3) rfl ?_)|(refine zJ.pure (e4) rfl ?_)
    refine hL _ (N - 1) (by omega) ⟨k + 1,q,!gq,by omega,hI2,hRs2,hDm2,?_⟩
    simp [g2,b2,g5,g37,g38,pB,wB]
   have r3':=eq_false r3
   by_cases r2 : p.ph = 2
   ·have r2' := eq_true r2
    have h5:=hc5 t3 r2
    subst h5
    repeat' first|(refine hK _ ?_;clear hK)|(refine zU fun K hK=>?_)|((first | refine zT ?_ | refine zE rfl (by kernel_rfl) ?_);simp only [uP,uO,strip])|((first | refine wOs fun K hK=>?_ | refine wQs fun K hK=>?_ | refine zY ?_ | refine zK ?_ | refine zX ?_);simp [g5,b5,g7,g37,g38,g39,hlt,hx,hw,k1,k3,k4,k6,y1',t3',r3',r2'])|(first | refine zW ?_)|(refine zR ?_;try simp)|((first | refine wOn ?_ | refine wQn ?_);try simp only [zZ])|(refine zQ.pure (cd) rfl ?_)|(refine zJ.pure (e1) rfl ?_)|(refine zJ.pure (e2) rfl ?_)|(refine zQ.pure (e3) rfl ?_)|(refine zJ.pure (e5) rfl ?_)|(refine zJ.pure (e6) rfl ?_)|(refine zJ.pure (e7) rfl ?_)|(refine zJ.pure (e8) rfl ?_)
    refine hL _ (N - 1) (by omega) ⟨k + 1,q,!gq,by omega,hI2,hRs2,hDm2,?_⟩
    simp [g2,b2,g5,g37,g38,pB,wB]
   ·have r2' := eq_false r2
    repeat' first|(refine hK _ ?_;clear hK)|(refine zU fun K hK=>?_)|((first | refine zT ?_ | refine zE rfl (by kernel_rfl) ?_);simp only [uP,uO,strip])|((first | refine wOs fun K hK=>?_ | refine wQs fun K hK=>?_ | refine zY ?_ | refine zK ?_ | refine zX ?_);simp [g5,b5,g7,g37,g38,g39,hlt,hx,hw,k1,k3,k4,k6,y1',t3',r3',r2'])|(first | refine zW ?_)|(refine zR ?_;try simp)|((first | refine wOn ?_ | refine wQn ?_);try simp only [zZ])|(refine zQ.pure (cd) rfl ?_)|(refine zJ.pure (e1) rfl ?_)|(refine zJ.pure (e2) rfl ?_)|(refine zQ.pure (e3) rfl ?_)
    refine hL _ (N - 1) (by omega) ⟨k + 1,q,!gq,by omega,hI2,hRs2,hDm2,?_⟩
    simp [g2,b2,g5,g37,g38,pB,wB]
  ·have t3' := eq_false t3
   repeat' first|(refine hK _ ?_;clear hK)|(refine zU fun K hK=>?_)|((first | refine zT ?_ | refine zE rfl (by kernel_rfl) ?_);simp only [uP,uO,strip])|((first | refine wOs fun K hK=>?_ | refine wQs fun K hK=>?_ | refine zY ?_ | refine zK ?_ | refine zX ?_);simp [g5,b5,g7,g37,g38,g39,hlt,hx,hw,k1,k3,k4,k6,y1',t3'])|(first | refine zW ?_)|(refine zR ?_;try simp)|((first | refine wOn ?_ | refine wQn ?_);try simp only [zZ])|(refine zQ.pure (cd) rfl ?_)|(refine zJ.pure (e1) rfl ?_)|(refine zJ.pure (e2) rfl ?_)|(refine zQ.pure (e3) rfl ?_)
   refine hL _ (N - 1) (by omega) ⟨k + 1,q,!gq,by omega,hI2,hRs2,hDm2,?_⟩
   simp [g2,b2,g5,g37,g38,pB,wB]
end Go.Proofs.YtffflakmofbilaaGreat
