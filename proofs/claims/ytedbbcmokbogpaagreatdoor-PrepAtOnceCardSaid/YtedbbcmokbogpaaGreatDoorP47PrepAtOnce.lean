/- Texts that the proof needs: PRB PRC. -/
import Derived.Test.YtedbbcmokbogpaaGreatDoorP46PrepAtOnce
namespace Go.Proofs.YtedbbcmokbogpaaGreatDoor
set_option linter.unusedSimpArgs false
set_option linter.unusedVariables false
set_option maxRecDepth 8000
open Go Go.Av
structure EqA (x y : Sv) : Prop where
 ns : x.ns = y.ns
 ss : x.ss = y.ss
 nx : x.nx = y.nx
 c : x.c = y.c
theorem EqA.refl (x : Sv) : EqA x x := ⟨rfl, rfl, rfl, rfl⟩
theorem EqA.symm {x y : Sv} (h : EqA x y) : EqA y x := ⟨h.ns.symm, h.ss.symm, h.nx.symm, h.c.symm⟩
theorem EqA.trans {x y z : Sv} (h : EqA x y) (k : EqA y z) : EqA x z := ⟨h.ns.trans k.ns, h.ss.trans k.ss, h.nx.trans k.nx, h.c.trans k.c⟩
theorem EqA.step {x y : Sv} (h : EqA x y) (p : Pt) : EqA (yV x p) (yV y p) := by
 obtain ⟨h1,h2,h3,h4⟩:=h
 unfold yV
 split
 ·exact ⟨by show putZ x.ns p.z = putZ y.ns p.z;rw [h1],h2,h3,h4⟩
 split
 ·exact ⟨by show gone x.ns p.z.p = gone y.ns p.z.p;rw [h1],h2,h3,h4⟩
 split
 ·exact ⟨h1,by show opnL x.ss p.s = opnL y.ss p.s;rw [h2],by show opnN x.nx p.s = opnN y.nx p.s;rw [h3],h4⟩
 split
 ·exact ⟨h1,by show but x.ss p.s = but y.ss p.s;rw [h2],h3,h4⟩
 split
 ·exact ⟨h1,h2,h3,rfl⟩
 ·exact ⟨h1,h2,h3,h4⟩
theorem EqA.run : ∀ (l : List Pt) {x y : Sv}, EqA x y -> EqA (xX x l) (xX y l)
 | [],_,_,h=>h
 | p :: l,x,y,h=>EqA.run l (h.step p)
theorem EqA.late (x : Sv) (e n : Int) : EqA (lateS x e n) x := ⟨rfl, rfl, rfl, rfl⟩
theorem EqA.doS (x : Sv) (t : Tx) : EqA (doS x t) (xX x t.ps) := EqA.late _ _ _
theorem EqA.chg : ∀ (l : List Oq) {x y : Sv} (ses : Int) (i : Nat) (m : List UInt8) (ps : List Pt), EqA x y -> xM x ses l i m ps = xM y ses l i m ps
 | [],_,_,_,_,_,_,_=>rfl
 | o :: l, x, y, ses, i, m, ps, h => by
  rw [xM,xM,h.ns]
  split
  ·exact EqA.chg l ses _ _ _ (((EqA.doS _ _).trans (h.run _)).trans (EqA.doS _ _).symm)
  ·rfl
theorem runP_app (s : Sv) (a b : List Pt) : xX s (a ++ b) = xX (xX s a) b := List.foldl_append
def kd3 (p : Pt) : Prop := p.k = 0 \/ p.k = 1 \/ p.k = 2
theorem stepP_kd {s : Sv} {p : Pt} (h : kd3 p) : (yV s p).ss = s.ss /\ (yV s p).nx = s.nx /\ (yV s p).c = s.c := by
 unfold yV
 rcases h with h | h | h <;> rw [h] <;> exact ⟨rfl,rfl,rfl⟩
theorem runP_kd : ∀ (l : List Pt) {s : Sv}, (∀ p ∈ l, kd3 p) -> (xX s l).ss = s.ss /\ (xX s l).nx = s.nx /\ (xX s l).c = s.c
 | [],s,_=>⟨rfl,rfl,rfl⟩
 | p :: l, s, h => by
  have h1:=stepP_kd (s:=s) (h p List.mem_cons_self)
  have h2:=runP_kd l (s:=yV s p) fun q hq=>h q (List.mem_cons_of_mem _ hq)
  exact ⟨h2.1.trans h1.1,h2.2.1.trans h1.2.1,h2.2.2.trans h1.2.2⟩
theorem turnP_kd (z : Zn) : kd3 (turnP z) := by unfold turnP; split; exact .inl rfl; exact .inr (.inl rfl)
theorem gonL_kd (ns : List Zn) (p : List UInt8) : ∀ q ∈ (gonL ns p).1, kd3 q := by
 unfold gonL
 split
 ·intro q hq
  simp at hq
  rcases hq with rfl | rfl
  ·exact .inr (.inr rfl)
  ·exact turnP_kd _
 ·simp
theorem tchL_kd (ns : List Zn) (o : Oq) : ∀ q ∈ (tchL ns o).1, kd3 q := by
 unfold tchL remL
 split
 ·split
  ·simp
  split
  ·split
   ·split
    ·exact gonL_kd _ _
    ·simp
   ·simp
  split
  ·simp
  split
  ·simp
  ·intro q hq;simp at hq;subst hq;exact .inr (.inl rfl)
 ·simp
theorem oneM_kd (ns : List Zn) (o : Oq) (ses : Int) : ∀ q ∈ (yG ns o ses).1, kd3 q := by
 unfold yG crtM
 split
 ·split
  ·simp
  split
  ·simp
  split
  ·simp
  split
  ·simp
  split
  ·simp
  split
  ·simp
  ·intro q hq
   simp at hq
   rcases hq with rfl | rfl
   ·exact turnP_kd _
   ·exact .inr (.inl rfl)
 split
 ·simp
 split
 ·exact tchL_kd ns o
 ·simp
theorem rgt_of {s : Sv} (h : rgtS s = true) : tre s.ns = true /\ check s.c = 0 /\ 1 <= s.nx /\ s.nx <= 1099511627776 /\ s.ss.length <= 20 /\ rsS s.nx 0 s.ss = true := by
 unfold rgtS at h
 simp only [Bool.and_eq_true,decide_eq_true_eq] at h
 exact ⟨h.1,h.2.1.1,h.2.1.2.1,h.2.1.2.2.1,h.2.1.2.2.2,h.2.2⟩
theorem rgz_of {z : Zn} (h : rgz z = true) : chk z.p = 0 /\ z.d.length <= 128 /\ 0 <= z.v /\ z.v <= 1099511627776 /\ 0 <= z.k /\ z.k <= 1099511627776 /\ 0 <= z.o := by
 unfold rgz at h
 simp only [decide_eq_true_eq] at h
 omega
theorem tre_okN {ns : List Zn} (h : tre ns = true) : okN ns := fun z hz => by
 have h1:=rgz_of ((tre_ris h).2.2.1 z hz)
 have h2:=chk_len h1.1
 exact ⟨h1.2.2.2.2.1,h1.2.2.1,by omega,by omega⟩
theorem rgt_ok {s : Sv} (h : rgtS s = true) (hc : okC s.c) : OkSv s := by
 have h1:=rgt_of h
 have h2:=tre_len h1.1
 exact ⟨⟨by omega,by omega,hc⟩,tre_okN h1.1,by omega⟩
theorem chgT_one (x : Sv) (o : Oq) (e n ses xx : Int) : chgT x [o] e n ses xx = if (yG x.ns o ses).2.2 = 0 then ⟨e, n, ses, xx, 0, 0, (yG x.ns o ses).2.1, (yG x.ns o ses).1⟩ else ⟨e, n, ses, xx, (yG x.ns o ses).2.2, 0, [], []⟩ := by
 unfold chgT
 rw [if_neg (by simp)]
 rw [xM,xM]
 by_cases h : (yG x.ns o ses).2.2 = 0
 ·rw [if_pos h,if_pos h];simp
 ·rw [if_neg h,if_neg h,if_neg h];rfl
end Go.Proofs.YtedbbcmokbogpaaGreatDoor
namespace Go.Proofs.YtedbbcmokbogpaaGreatDoor
set_option linter.unusedSimpArgs false
set_option linter.unusedVariables false
set_option maxRecDepth 8000
open Go Go.Av
attribute [local irreducible] Go.Av.yR Go.Av.zU Go.Av.yM Go.Av.zT Go.Av.yO Go.Av.zV Go.Av.Con
theorem chgM_ok (ses : Int) : ∀ (l : List Oq) (x : Sv) (i : Nat) (m : List UInt8) (ps : List Pt), okN x.ns -> (∀ o ∈ l, o.pa.length <= 9223372036854775807 /\ o.da.length <= 9223372036854775807) -> (∀ p ∈ ps, okP p /\ kd3 p) -> (∀ p ∈ (xM x ses l i m ps).2.2.2, okP p /\ kd3 p) /\ (xM x ses l i m ps).2.2.2.length <= ps.length + 2 * l.length
 | [],x,i,m,ps,_,_,h=>⟨h,by simp [xM]⟩
 | o :: l, x, i, m, ps, hn, ho, h => by
  have h1:=ho o List.mem_cons_self
  obtain ⟨h2,h3⟩:=oneM_ok hn ses h1.1 h1.2
  have h4:=oneM_kd x.ns o ses
  rw [xM]
  split
  ·have ih := chgM_ok ses l (doS x (txP (yG x.ns o ses).1)) (i + 1) (if m = [] then (yG x.ns o ses).2.1 else m) (ps ++ (yG x.ns o ses).1) (doS_okN hn h2) (fun q hq => ho q (List.mem_cons_of_mem _ hq)) (fun p hp => by
    rcases List.mem_append.1 hp with hp | hp
    ·exact h p hp
    ·exact ⟨h2 p hp,h4 p hp⟩)
   refine ⟨ih.1,?_⟩
   have:=ih.2
   simp only [List.length_append,List.length_cons] at this ⊢
   omega
  ·exact ⟨h,by show ps.length <= _;omega⟩
structure IvO (s x : Sv) (ses : Int) (ops : List Oq) (k : Nat) (m : List UInt8) (ps : List Pt) : Prop where
 e : EqA x (xX s ps)
 g : xM x ses (ops.drop k) k m ps = xM s ses ops 0 [] []
 l : x.ns.length <= 60 + 2 * k
 N : okN x.ns
 ss : x.ss = s.ss
 c : x.c = s.c
theorem IvO.ok {s x : Sv} {ses : Int} {ops : List Oq} {k : Nat} {m : List UInt8} {ps : List Pt} (h : IvO s x ses ops k m ps) (hk : k <= 8) (hs : s.ss.length <= 20) (hc : okC s.c) : OkSv x :=
 ⟨⟨by have:=h.l;omega,by rw [h.ss];omega,by rw [h.c];exact hc⟩,h.N,by have:=h.l;omega⟩
theorem IvO.next {s x : Sv} {ses : Int} {ops : List Oq} {k : Nat} {m : List UInt8} {ps : List Pt} (h : IvO s x ses ops k m ps) (hlt : k < ops.length) (ho : ops[k].pa.length <= 9223372036854775807 /\ ops[k].da.length <= 9223372036854775807) (h0 : (yG x.ns ops[k] ses).2.2 = 0) (t : Tx) (ht : t.ps = (yG x.ns ops[k] ses).1) :
 IvO s (doS x t) ses ops (k + 1) (if m = [] then (yG x.ns ops[k] ses).2.1 else m) (ps ++ (yG x.ns ops[k] ses).1):=by
 obtain ⟨h1,h2⟩:=oneM_ok h.N ses ho.1 ho.2
 have h3:=runP_kd (s:=x) _ (oneM_kd x.ns ops[k] ses)
 have h4:=(runP_len (yG x.ns ops[k] ses).1 x).1
 have e1 : EqA (doS x t) (xX x (yG x.ns ops[k] ses).1):=by rw [<- ht];exact EqA.doS x t
 refine ⟨?_,?_,?_,?_,?_,?_⟩
 ·rw [runP_app]
  exact e1.trans (h.e.run _)
 ·have := h.g
  rw [chgM_step hlt,if_pos h0] at this
  rw [<- this]
  exact EqA.chg _ _ _ _ _ (e1.trans (EqA.doS x (txP _)).symm)
 ·rw [e1.ns];have:=h.l;omega
 ·exact doS_okN h.N (by rw [ht];exact h1)
 ·rw [e1.ss,h3.1,h.ss]
 ·rw [e1.c,h3.2.2,h.c]
set_option maxHeartbeats 16000000 in
theorem prepAtOnce_con (s : Sv) (r : Rp) (e n : Int) (hz : ∀ z ∈ s.ns, long z) (hb : Bd9 s r) : zE Tryz.prog 5 [.p (.agg s.cells), .p (.agg r.cells), .p (.agg [I e, I n])] (.p (B true)) := by
 have c1:=far9_con s r hb
 cases hf : farP9 s r with
 | true =>
  rw [hf] at c1
  unfold Sv.cells Rp.cells at *
  refine zG Tryz.tab Tryz.mixed Tryz.func5 rfl rfl Tryz.ntmps5 (by simp) (by simp) fun Q hr hn=>?_
  repeat' first|(refine hK _ ?_;clear hK)|(refine hK _ _ ?_;clear hK)|(clear hK;refine hK _ ?_;clear hK)|(clear hK;clear hK;refine hK _ ?_;clear hK)|(clear hK;clear hK;clear hK;refine hK _ ?_;clear hK)|(clear hK;clear hK;clear hK;clear hK;refine hK _ ?_;clear hK)|(refine zJ fun K hK=>?_)|((first | refine zH ?_ | refine zN rfl (by kernel_rfl) ?_ | refine zM ?_ | refine zK (by kernel_rfl) ?_);simp only [wL,wK,strip])|((first | refine wIs fun K hK=>?_ | refine wOs fun K hK=>?_ | refine wQs fun K hK=>?_ | refine zW ?_ | refine zX ?_ | refine zY ?_ | refine zL ?_);simp)|(refine wIn ?_;refine And.intro (by kernel_rfl) ?_;try simp only [zZ])|(first | refine zQ ?_ | refine zS ?_)|((first | refine zI ?_ | refine zO ?_ | refine zP ?_);try simp)|((first | refine zR ?_ | refine wOn ?_ | refine wQn ?_);try simp only [zZ])|(refine zU.pure (c1) rfl ?_)|(refine zU.lent (c1) rfl ?_)|(refine zT.pure (c1) rfl ?_)|(refine zT.lent (c1) rfl ?_)|(refine zU.own (c1) ?_)|(refine zV.pure (c1) rfl ?_)|(refine zV.lent (c1) rfl ?_)|(refine zV.own (c1) ?_)|(refine zU.pure (zF) rfl ?_)|(refine zU.lent (zF) rfl ?_)|(refine zT.pure (zF) rfl ?_)|(refine zT.lent (zF) rfl ?_)|(refine zU.own (zF) ?_)|(refine zV.pure (zF) rfl ?_)|(refine zV.lent (zF) rfl ?_)|(refine zV.own (zF) ?_)
  all_goals apply hr
  all_goals simp [Tryz.f5]
 | false =>
 rw [hf] at c1
 have hfar:=farP9_not hf
 have hm : s.c.ms.length <= 1000000 := by
  have:=hfar.2
  unfold nSum at this;omega
 have c2:=rightP09_con s hz hm
 cases hg : rgtS s with
 | false =>
  rw [hg] at c2
  unfold Sv.cells Rp.cells at *
  refine zG Tryz.tab Tryz.mixed Tryz.func5 rfl rfl Tryz.ntmps5 (by simp) (by simp) fun Q hr hn=>?_
  repeat' first|(refine hK _ ?_;clear hK)|(refine hK _ _ ?_;clear hK)|(clear hK;refine hK _ ?_;clear hK)|(clear hK;clear hK;refine hK _ ?_;clear hK)|(clear hK;clear hK;clear hK;refine hK _ ?_;clear hK)|(clear hK;clear hK;clear hK;clear hK;refine hK _ ?_;clear hK)|(refine zJ fun K hK=>?_)|((first | refine zH ?_ | refine zN rfl (by kernel_rfl) ?_ | refine zM ?_ | refine zK (by kernel_rfl) ?_);simp only [wL,wK,strip])|((first | refine wIs fun K hK=>?_ | refine wOs fun K hK=>?_ | refine wQs fun K hK=>?_ | refine zW ?_ | refine zX ?_ | refine zY ?_ | refine zL ?_);simp)|(refine wIn ?_;refine And.intro (by kernel_rfl) ?_;try simp only [zZ])|(first | refine zQ ?_ | refine zS ?_)|((first | refine zI ?_ | refine zO ?_ | refine zP ?_);try simp)|((first | refine zR ?_ | refine wOn ?_ | refine wQn ?_);try simp only [zZ])|(refine zU.pure (c1) rfl ?_)|(refine zU.lent (c1) rfl ?_)|(refine zT.pure (c1) rfl ?_)|(refine zT.lent (c1) rfl ?_)|(refine zU.own (c1) ?_)|(refine zV.pure (c1) rfl ?_)|(refine zV.lent (c1) rfl ?_)|(refine zV.own (c1) ?_)|(refine zU.pure (c2) rfl ?_)|(refine zU.lent (c2) rfl ?_)|(refine zT.pure (c2) rfl ?_)|(refine zT.lent (c2) rfl ?_)|(refine zU.own (c2) ?_)|(refine zV.pure (c2) rfl ?_)|(refine zV.lent (c2) rfl ?_)|(refine zV.own (c2) ?_)|(refine zU.pure (zF) rfl ?_)|(refine zU.lent (zF) rfl ?_)|(refine zT.pure (zF) rfl ?_)|(refine zT.lent (zF) rfl ?_)|(refine zU.own (zF) ?_)|(refine zV.pure (zF) rfl ?_)|(refine zV.lent (zF) rfl ?_)|(refine zV.own (zF) ?_)
  all_goals apply hr
  all_goals simp [Tryz.f5]
 | true =>
 rw [hg] at c2
 have hoo : ∀ o ∈ r.ops,o.pa.length <= 9223372036854775807 /\ o.da.length <= 9223372036854775807:=fun o ho=>by have:=hb.o o ho;omega
 have hcC : okC s.c:=by unfold okC;omega
 have hS:=rgt_ok hg hcC
 have hR:=rgt_of hg
 have hT:=tre_len hR.1
 have aw:=zF
 by_cases k1 : r.k = 1
 case neg =>
  have k1' : (r.k = 1) = False:=eq_false k1
  clear hS hR hT hoo
  unfold Sv.cells Rp.cells at *
  refine zG Tryz.tab Tryz.mixed Tryz.func5 rfl rfl Tryz.ntmps5 (by simp) (by simp) fun Q hr hn=>?_
  repeat' first|(refine hK _ ?_;clear hK)|(refine hK _ _ ?_;clear hK)|(clear hK;refine hK _ ?_;clear hK)|(clear hK;clear hK;refine hK _ ?_;clear hK)|(clear hK;clear hK;clear hK;refine hK _ ?_;clear hK)|(clear hK;clear hK;clear hK;clear hK;refine hK _ ?_;clear hK)|(refine zJ fun K hK=>?_)|((first | refine zH ?_ | refine zN rfl (by kernel_rfl) ?_ | refine zM ?_ | refine zK (by kernel_rfl) ?_);simp only [wL,wK,strip])|((first | refine wIs fun K hK=>?_ | refine wOs fun K hK=>?_ | refine wQs fun K hK=>?_ | refine zW ?_ | refine zX ?_ | refine zY ?_ | refine zL ?_);simp [k1'])|(refine wIn ?_;refine And.intro (by kernel_rfl) ?_;try simp only [zZ])|(first | refine zQ ?_ | refine zS ?_)|((first | refine zI ?_ | refine zO ?_ | refine zP ?_);try simp)|((first | refine zR ?_ | refine wOn ?_ | refine wQn ?_);try simp only [zZ])|(refine zU.pure (c1) rfl ?_)|(refine zU.lent (c1) rfl ?_)|(refine zT.pure (c1) rfl ?_)|(refine zT.lent (c1) rfl ?_)|(refine zU.own (c1) ?_)|(refine zV.pure (c1) rfl ?_)|(refine zV.lent (c1) rfl ?_)|(refine zV.own (c1) ?_)|(refine zU.pure (c2) rfl ?_)|(refine zU.lent (c2) rfl ?_)|(refine zT.pure (c2) rfl ?_)|(refine zT.lent (c2) rfl ?_)|(refine zU.own (c2) ?_)|(refine zV.pure (c2) rfl ?_)|(refine zV.lent (c2) rfl ?_)|(refine zV.own (c2) ?_)|(refine zU.pure (zF) rfl ?_)|(refine zU.lent (zF) rfl ?_)|(refine zT.pure (zF) rfl ?_)|(refine zT.lent (zF) rfl ?_)|(refine zU.own (zF) ?_)|(refine zV.pure (zF) rfl ?_)|(refine zV.lent (zF) rfl ?_)|(refine zV.own (zF) ?_)
  all_goals apply hr
  all_goals simp [Tryz.f5]
 have k1' : (r.k = 1) = True:=eq_true k1
 by_cases h1 : r.ops.length < 1
 ·have h1' : (r.ops.length : Int) < 1 := by omega
  clear hS hR hT hoo
  unfold Sv.cells Rp.cells at *
  refine zG Tryz.tab Tryz.mixed Tryz.func5 rfl rfl Tryz.ntmps5 (by simp) (by simp) fun Q hr hn=>?_
  repeat' first|(refine hK _ ?_;clear hK)|(refine hK _ _ ?_;clear hK)|(clear hK;refine hK _ ?_;clear hK)|(clear hK;clear hK;refine hK _ ?_;clear hK)|(clear hK;clear hK;clear hK;refine hK _ ?_;clear hK)|(clear hK;clear hK;clear hK;clear hK;refine hK _ ?_;clear hK)|(refine zJ fun K hK=>?_)|((first | refine zH ?_ | refine zN rfl (by kernel_rfl) ?_ | refine zM ?_ | refine zK (by kernel_rfl) ?_);simp only [wL,wK,strip])|((first | refine wIs fun K hK=>?_ | refine wOs fun K hK=>?_ | refine wQs fun K hK=>?_ | refine zW ?_ | refine zX ?_ | refine zY ?_ | refine zL ?_);simp [k1',h1,h1'])|(refine wIn ?_;refine And.intro (by kernel_rfl) ?_;try simp only [zZ])|(first | refine zQ ?_ | refine zS ?_)|((first | refine zI ?_ | refine zO ?_ | refine zP ?_);try simp)|((first | refine zR ?_ | refine wOn ?_ | refine wQn ?_);try simp only [zZ])|(refine zU.pure (c1) rfl ?_)|(refine zU.lent (c1) rfl ?_)|(refine zT.pure (c1) rfl ?_)|(refine zT.lent (c1) rfl ?_)|(refine zU.own (c1) ?_)|(refine zV.pure (c1) rfl ?_)|(refine zV.lent (c1) rfl ?_)|(refine zV.own (c1) ?_)|(refine zU.pure (c2) rfl ?_)|(refine zU.lent (c2) rfl ?_)|(refine zT.pure (c2) rfl ?_)|(refine zT.lent (c2) rfl ?_)|(refine zU.own (c2) ?_)|(refine zV.pure (c2) rfl ?_)|(refine zV.lent (c2) rfl ?_)|(refine zV.own (c2) ?_)|(refine zU.pure (zF) rfl ?_)|(refine zU.lent (zF) rfl ?_)|(refine zT.pure (zF) rfl ?_)|(refine zT.lent (zF) rfl ?_)|(refine zU.own (zF) ?_)|(refine zV.pure (zF) rfl ?_)|(refine zV.lent (zF) rfl ?_)|(refine zV.own (zF) ?_)
  all_goals apply hr
  all_goals simp [Tryz.f5]
 have h1' : ¬ (r.ops.length : Int) < 1:=by omega
 by_cases h8 : 8 < r.ops.length
 ·have h8' : (8 : Int) < r.ops.length := by omega
  clear hS hR hT hoo
  unfold Sv.cells Rp.cells at *
  refine zG Tryz.tab Tryz.mixed Tryz.func5 rfl rfl Tryz.ntmps5 (by simp) (by simp) fun Q hr hn=>?_
  repeat' first|(refine hK _ ?_;clear hK)|(refine hK _ _ ?_;clear hK)|(clear hK;refine hK _ ?_;clear hK)|(clear hK;clear hK;refine hK _ ?_;clear hK)|(clear hK;clear hK;clear hK;refine hK _ ?_;clear hK)|(clear hK;clear hK;clear hK;clear hK;refine hK _ ?_;clear hK)|(refine zJ fun K hK=>?_)|((first | refine zH ?_ | refine zN rfl (by kernel_rfl) ?_ | refine zM ?_ | refine zK (by kernel_rfl) ?_);simp only [wL,wK,strip])|((first | refine wIs fun K hK=>?_ | refine wOs fun K hK=>?_ | refine wQs fun K hK=>?_ | refine zW ?_ | refine zX ?_ | refine zY ?_ | refine zL ?_);simp [k1',h1,h1',h8,h8'])|(refine wIn ?_;refine And.intro (by kernel_rfl) ?_;try simp only [zZ])|(first | refine zQ ?_ | refine zS ?_)|((first | refine zI ?_ | refine zO ?_ | refine zP ?_);try simp)|((first | refine zR ?_ | refine wOn ?_ | refine wQn ?_);try simp only [zZ])|(refine zU.pure (c1) rfl ?_)|(refine zU.lent (c1) rfl ?_)|(refine zT.pure (c1) rfl ?_)|(refine zT.lent (c1) rfl ?_)|(refine zU.own (c1) ?_)|(refine zV.pure (c1) rfl ?_)|(refine zV.lent (c1) rfl ?_)|(refine zV.own (c1) ?_)|(refine zU.pure (c2) rfl ?_)|(refine zU.lent (c2) rfl ?_)|(refine zT.pure (c2) rfl ?_)|(refine zT.lent (c2) rfl ?_)|(refine zU.own (c2) ?_)|(refine zV.pure (c2) rfl ?_)|(refine zV.lent (c2) rfl ?_)|(refine zV.own (c2) ?_)|(refine zU.pure (zF) rfl ?_)|(refine zU.lent (zF) rfl ?_)|(refine zT.pure (zF) rfl ?_)|(refine zT.lent (zF) rfl ?_)|(refine zU.own (zF) ?_)|(refine zV.pure (zF) rfl ?_)|(refine zV.lent (zF) rfl ?_)|(refine zV.own (zF) ?_)
  all_goals apply hr
  all_goals simp [Tryz.f5]
 have h8' : ¬ (8 : Int) < r.ops.length:=by omega
 have c3:=make_con s r e n hS ⟨hoo,by omega⟩ (fun h=>by omega)
 by_cases hm : r.s ∈ s.ss
 case neg =>
  have e1 : makT s r e n = ⟨e, n, r.s, r.x, 13, 0, [], []⟩ := by
   unfold makT;rw [if_neg (by omega),if_pos ⟨.inl k1,hm⟩]
  rw [e1] at c3
  clear hS hR hT hoo e1
  unfold Tx.cells pts Sv.cells Rp.cells at *
  simp only [wK] at c3
  refine zG Tryz.tab Tryz.mixed Tryz.func5 rfl rfl Tryz.ntmps5 (by simp) (by simp) fun Q hr hn=>?_
  repeat' first|(refine hK _ ?_;clear hK)|(refine hK _ _ ?_;clear hK)|(clear hK;refine hK _ ?_;clear hK)|(clear hK;clear hK;refine hK _ ?_;clear hK)|(clear hK;clear hK;clear hK;refine hK _ ?_;clear hK)|(clear hK;clear hK;clear hK;clear hK;refine hK _ ?_;clear hK)|(refine zJ fun K hK=>?_)|((first | refine zH ?_ | refine zN rfl (by kernel_rfl) ?_ | refine zM ?_ | refine zK (by kernel_rfl) ?_);simp only [wL,wK,strip])|((first | refine wIs fun K hK=>?_ | refine wOs fun K hK=>?_ | refine wQs fun K hK=>?_ | refine zW ?_ | refine zX ?_ | refine zY ?_ | refine zL ?_);simp [k1',h1,h1',h8,h8'])|(refine wIn ?_;refine And.intro (by kernel_rfl) ?_;try simp only [zZ])|(first | refine zQ ?_ | refine zS ?_)|((first | refine zI ?_ | refine zO ?_ | refine zP ?_);try simp)|((first | refine zR ?_ | refine wOn ?_ | refine wQn ?_);try simp only [zZ])|(refine zU.pure (c1) rfl ?_)|(refine zU.lent (c1) rfl ?_)|(refine zT.pure (c1) rfl ?_)|(refine zT.lent (c1) rfl ?_)|(refine zU.own (c1) ?_)|(refine zV.pure (c1) rfl ?_)|(refine zV.lent (c1) rfl ?_)|(refine zV.own (c1) ?_)|(refine zU.pure (c2) rfl ?_)|(refine zU.lent (c2) rfl ?_)|(refine zT.pure (c2) rfl ?_)|(refine zT.lent (c2) rfl ?_)|(refine zU.own (c2) ?_)|(refine zV.pure (c2) rfl ?_)|(refine zV.lent (c2) rfl ?_)|(refine zV.own (c2) ?_)|(refine zU.pure (c3) rfl ?_)|(refine zU.lent (c3) rfl ?_)|(refine zT.pure (c3) rfl ?_)|(refine zT.lent (c3) rfl ?_)|(refine zU.own (c3) ?_)|(refine zV.pure (c3) rfl ?_)|(refine zV.lent (c3) rfl ?_)|(refine zV.own (c3) ?_)|(refine zU.pure (zF) rfl ?_)|(refine zU.lent (zF) rfl ?_)|(refine zT.pure (zF) rfl ?_)|(refine zT.lent (zF) rfl ?_)|(refine zU.own (zF) ?_)|(refine zV.pure (zF) rfl ?_)|(refine zV.lent (zF) rfl ?_)|(refine zV.own (zF) ?_)
  all_goals apply hr
  all_goals simp [Tryz.f5]
 obtain ⟨rk,rs,xx,ops,⟨dk,put,drop⟩,we,wn⟩:=r
 dsimp only at *
 subst k1
 have eT : makT s ⟨1, rs, xx, ops, ⟨dk, put, drop⟩, we, wn⟩ e n = chgT s ops e n rs xx := by
  unfold makT;dsimp only;rw [if_neg (by decide),if_neg (fun h=>h.2 hm),if_pos rfl]
 have hpsO:=chgM_ok rs ops s 0 [] [] hS.N hoo (by simp)
 unfold chgT at eT
 rw [if_neg (by omega)] at eT
 have hiv0 : IvO s s rs ops 0 [] []:=⟨EqA.refl _,rfl,by omega,hS.N,rfl,rfl⟩
 generalize hRR : xM s rs ops 0 [] [] = R at eT hpsO
 obtain ⟨re,rb,rm,rps⟩:=R
 dsimp only at eT hpsO
 obtain ⟨tb, tm, tps, eT2, h0T, h1T⟩ : ∃ (tb : Int) (tm : List UInt8) (tps : List Pt), makT s ⟨1, rs, xx, ops, ⟨dk, put, drop⟩, we, wn⟩ e n = ⟨e, n, rs, xx, re, tb, tm, tps⟩ /\ (re = 0 -> tb = 0 /\ tm = rm /\ tps = rps) /\ (¬ re = 0 -> tb = (rb : Int) /\ tm = [] /\ tps = []) := by
  by_cases h : re = 0
  ·exact ⟨0,rm,rps,by rw [eT,if_pos h,h],fun _=>⟨rfl,rfl,rfl⟩,fun h'=>absurd h h'⟩
  ·exact ⟨rb,[],[],by rw [eT,if_neg h],fun h'=>absurd h' h,fun _=>⟨rfl,rfl,rfl⟩⟩
 rw [eT2] at c3
 clear eT eT2
 unfold Tx.cells at c3
 dsimp only at c3
 by_cases h13 : re = 13
 ·obtain ⟨-, -, rfl⟩ := h1T (by omega)
  have h13' : (re = 13) = True:=eq_true h13
  clear hS hR hT hoo h0T h1T hiv0 hpsO hRR
  unfold pts at c3
  simp only [wK] at c3
  unfold Sv.cells Rp.cells at *
  dsimp only at *
  refine zG Tryz.tab Tryz.mixed Tryz.func5 rfl rfl Tryz.ntmps5 (by simp) (by simp) fun Q hr hn=>?_
  repeat' first|(refine hK _ ?_;clear hK)|(refine hK _ _ ?_;clear hK)|(clear hK;refine hK _ ?_;clear hK)|(clear hK;clear hK;refine hK _ ?_;clear hK)|(clear hK;clear hK;clear hK;refine hK _ ?_;clear hK)|(clear hK;clear hK;clear hK;clear hK;refine hK _ ?_;clear hK)|(refine zJ fun K hK=>?_)|((first | refine zH ?_ | refine zN rfl (by kernel_rfl) ?_ | refine zM ?_ | refine zK (by kernel_rfl) ?_);simp only [wL,wK,strip])|((first | refine wIs fun K hK=>?_ | refine wOs fun K hK=>?_ | refine wQs fun K hK=>?_ | refine zW ?_ | refine zX ?_ | refine zY ?_ | refine zL ?_);simp [k1',h1,h1',h8,h8',h13'])|(refine wIn ?_;refine And.intro (by kernel_rfl) ?_;try simp only [zZ])|(first | refine zQ ?_ | refine zS ?_)|((first | refine zI ?_ | refine zO ?_ | refine zP ?_);try simp)|((first | refine zR ?_ | refine wOn ?_ | refine wQn ?_);try simp only [zZ])|(refine zU.pure (c1) rfl ?_)|(refine zU.lent (c1) rfl ?_)|(refine zT.pure (c1) rfl ?_)|(refine zT.lent (c1) rfl ?_)|(refine zU.own (c1) ?_)|(refine zV.pure (c1) rfl ?_)|(refine zV.lent (c1) rfl ?_)|(refine zV.own (c1) ?_)|(refine zU.pure (c2) rfl ?_)|(refine zU.lent (c2) rfl ?_)|(refine zT.pure (c2) rfl ?_)|(refine zT.lent (c2) rfl ?_)|(refine zU.own (c2) ?_)|(refine zV.pure (c2) rfl ?_)|(refine zV.lent (c2) rfl ?_)|(refine zV.own (c2) ?_)|(refine zU.pure (c3) rfl ?_)|(refine zU.lent (c3) rfl ?_)|(refine zT.pure (c3) rfl ?_)|(refine zT.lent (c3) rfl ?_)|(refine zU.own (c3) ?_)|(refine zV.pure (c3) rfl ?_)|(refine zV.lent (c3) rfl ?_)|(refine zV.own (c3) ?_)|(refine zU.pure (zF) rfl ?_)|(refine zU.lent (zF) rfl ?_)|(refine zT.pure (zF) rfl ?_)|(refine zT.lent (zF) rfl ?_)|(refine zU.own (zF) ?_)|(refine zV.pure (zF) rfl ?_)|(refine zV.lent (zF) rfl ?_)|(refine zV.own (zF) ?_)
  all_goals apply hr
  all_goals simp [Tryz.f5]
 have h13' : (re = 13) = False:=eq_false h13
 have hss20:=hR.2.2.2.2.1
 unfold Sv.cells at c1 c2 c3 ⊢
 unfold Rp.cells at c1 c3 ⊢
 dsimp only at c1 c3 ⊢
 refine zG Tryz.tab Tryz.mixed Tryz.func5 rfl rfl Tryz.ntmps5 (by simp) (by simp) fun Q hr hn=>?_
 repeat' first|(refine hK _ ?_;clear hK)|(refine hK _ _ ?_;clear hK)|(clear hK;refine hK _ ?_;clear hK)|(clear hK;clear hK;refine hK _ ?_;clear hK)|(clear hK;clear hK;clear hK;refine hK _ ?_;clear hK)|(clear hK;clear hK;clear hK;clear hK;refine hK _ ?_;clear hK)|(refine zJ fun K hK=>?_)|((first | refine zH ?_ | refine zN rfl (by kernel_rfl) ?_ | refine zM ?_ | refine zK (by kernel_rfl) ?_);simp only [wL,wK,strip])|((first | refine wIs fun K hK=>?_ | refine wOs fun K hK=>?_ | refine wQs fun K hK=>?_ | refine zW ?_ | refine zX ?_ | refine zY ?_ | refine zL ?_);simp [k1',h1,h1',h8,h8',h13'])|(refine wIn ?_;refine And.intro (by kernel_rfl) ?_;try simp only [zZ])|(first | refine zQ ?_ | refine zS ?_)|((first | refine zI ?_ | refine zO ?_ | refine zP ?_);try simp)|((first | refine zR ?_ | refine wOn ?_ | refine wQn ?_);try simp only [zZ])|(refine zU.pure (c1) rfl ?_)|(refine zU.lent (c1) rfl ?_)|(refine zT.pure (c1) rfl ?_)|(refine zT.lent (c1) rfl ?_)|(refine zU.own (c1) ?_)|(refine zV.pure (c1) rfl ?_)|(refine zV.lent (c1) rfl ?_)|(refine zV.own (c1) ?_)|(refine zU.pure (c2) rfl ?_)|(refine zU.lent (c2) rfl ?_)|(refine zT.pure (c2) rfl ?_)|(refine zT.lent (c2) rfl ?_)|(refine zU.own (c2) ?_)|(refine zV.pure (c2) rfl ?_)|(refine zV.lent (c2) rfl ?_)|(refine zV.own (c2) ?_)|(refine zU.pure (c3) rfl ?_)|(refine zU.lent (c3) rfl ?_)|(refine zT.pure (c3) rfl ?_)|(refine zT.lent (c3) rfl ?_)|(refine zU.own (c3) ?_)|(refine zV.pure (c3) rfl ?_)|(refine zV.lent (c3) rfl ?_)|(refine zV.own (c3) ?_)
 refine yD (fun N st => ∃ (k : Nat) (x : Sv) (m : List UInt8) (ps : List Pt), k + N = ops.length /\ IvO s x rs ops k m ps ∧
  st.s 3 = .ptr 3 0 /\ st.b 3 = some (.box 30 [.p (.sl 5 (zns s.ns)),.p (.sl 1 (ints s.ss)),.p (I s.nx),.p (I s.c.ep),.p (I s.c.n),.p (I s.c.kind),.p (.sl 4 (mbs s.c.ms)),.p (I s.ae),.p (I s.an)]) ∧
  st.s 4 = .ptr 4 0 /\ st.b 4 = some (.box 36 [.p (I 1),.p (I rs),.p (I xx),.p (.sl 6 (oqs ops)),.p (I dk),.p (.sl 4 (mbs put)),.p (.sl 1 (ints drop)),.p (I we),.p (I wn)]) ∧
  st.s 5 = .ptr 5 0 /\ st.b 5 = some (.box 25 [.p (I e),.p (I n)]) ∧
  st.s 7 = .ptr 7 0 /\ st.b 7 = some (.box 42 [.p (I e),.p (I n),.p (I rs),.p (I xx),.p (I re),.p (I tb),.p (SB tm),.p (.sl 11 (pts tps))]) ∧
  st.s 8 = .ptr 8 0 /\ st.b 8 = some (.box 30 [.p (.sl 5 (zns x.ns)),.p (.sl 1 (ints x.ss)),.p (I x.nx),.p (I x.c.ep),.p (I x.c.n),.p (I x.c.kind),.p (.sl 4 (mbs x.c.ms)),.p (I x.ae),.p (I x.an)]) ∧
  st.s 9 = .p (SB m) /\ st.s 57 = .p (.sl 6 (oqs ops)) /\ st.s 58 = .p (I ops.length) /\ st.s 59 = .p (I k)) ops.length ⟨0,s,[],[],by simp,hiv0,by simp [show ByteArray.empty = bs [] from rfl]⟩ fun K N st hL ⟨k,x,m,ps,hk,hI,g3,b3,g4,b4,g5,b5,g7,b7,g8,b8,g9,g57,g58,g59⟩=>?_
 clear c1 c2 c3
 by_cases hlt : k < ops.length
 case neg =>
  have hlt' : ¬ (k : Int) < ops.length:=by omega
  have hgg:=hI.g
  rw [List.drop_of_length_le (by omega),xM,hRR] at hgg
  simp only [Prod.mk.injEq] at hgg
  obtain ⟨rfl,-,rfl,rfl⟩:=hgg
  obtain ⟨rfl,rfl,rfl⟩:=h0T rfl
  have c6:=apply08_con s ⟨e,n,rs,xx,0,0,tm,tps⟩ (hS.F.le (by show tps.length <= _;have:=hpsO.2;simp at this;omega)) (okP_T fun p hp=>(hpsO.1 p hp).1)
  have hE:=hI.e.trans (EqA.doS s ⟨e,n,rs,xx,0,0,tm,tps⟩).symm
  generalize doS s ⟨e,n,rs,xx,0,0,tm,tps⟩ = Y at c6 hE
  have c7:=sameS08_con ⟨x.ns,x.ss,x.nx,x.c,s.ae,s.an⟩ ⟨x.ns,x.ss,x.nx,x.c,s.ae,s.an⟩
  rw [decide_eq_true rfl] at c7
  unfold Sv.cells at c6 c7
  unfold Tx.cells at c6
  dsimp only at c6 c7
  rw [<- hE.ns,<- hE.ss,<- hE.nx,<- hE.c] at c6
  clear hE hI hS hR hT hpsO hRR h1T hL
  repeat' first|(refine hK _ ?_;clear hK)|(refine hK _ _ ?_;clear hK)|(clear hK;refine hK _ ?_;clear hK)|(clear hK;clear hK;refine hK _ ?_;clear hK)|(clear hK;clear hK;clear hK;refine hK _ ?_;clear hK)|(clear hK;clear hK;clear hK;clear hK;refine hK _ ?_;clear hK)|(refine zJ fun K hK=>?_)|((first | refine zH ?_ | refine zN rfl (by kernel_rfl) ?_ | refine zM ?_ | refine zK (by kernel_rfl) ?_);simp only [wL,wK,strip])|((first | refine wIs fun K hK=>?_ | refine wOs fun K hK=>?_ | refine wQs fun K hK=>?_ | refine zW ?_ | refine zX ?_ | refine zY ?_ | refine zL ?_);simp [g3,b3,g4,b4,g5,b5,g7,b7,g8,b8,g9,g57,g58,g59,hlt,hlt'])|(refine wIn ?_;refine And.intro (by kernel_rfl) ?_;try simp only [zZ])|(first | refine zQ ?_ | refine zS ?_)|((first | refine zI ?_ | refine zO ?_ | refine zP ?_);try simp)|((first | refine zR ?_ | refine wOn ?_ | refine wQn ?_);try simp only [zZ])|(refine zU.pure (c6) rfl ?_)|(refine zU.lent (c6) rfl ?_)|(refine zT.pure (c6) rfl ?_)|(refine zT.lent (c6) rfl ?_)|(refine zU.own (c6) ?_)|(refine zV.pure (c6) rfl ?_)|(refine zV.lent (c6) rfl ?_)|(refine zV.own (c6) ?_)|(refine zU.pure (c7) rfl ?_)|(refine zU.lent (c7) rfl ?_)|(refine zT.pure (c7) rfl ?_)|(refine zT.lent (c7) rfl ?_)|(refine zU.own (c7) ?_)|(refine zV.pure (c7) rfl ?_)|(refine zV.lent (c7) rfl ?_)|(refine zV.own (c7) ?_)|(refine zU.pure (zF) rfl ?_)|(refine zU.lent (zF) rfl ?_)|(refine zT.pure (zF) rfl ?_)|(refine zT.lent (zF) rfl ?_)|(refine zU.own (zF) ?_)|(refine zV.pure (zF) rfl ?_)|(refine zV.lent (zF) rfl ?_)|(refine zV.own (zF) ?_)
  all_goals apply hr
  all_goals simp [Tryz.f5]
 have hlt' : (k : Int) < ops.length:=by omega
 have hw:=xZ k _ hlt (by omega)
 have he:=oqs_get hlt
 have ho:=hoo _ (List.getElem_mem hlt)
 have hX:=hI.ok (by omega) hss20 hcC
 have c4:=make_con x ⟨1,rs,xx,[ops[k]],⟨dk,put,drop⟩,we,wn⟩ e n hX ⟨by intro o h;simp at h;rw [h];exact ho,by simp⟩ (fun h=>by simp at h)
 have e4 : makT x ⟨1, rs, xx, [ops[k]], ⟨dk, put, drop⟩, we, wn⟩ e n = chgT x [ops[k]] e n rs xx := by
  unfold makT;dsimp only;rw [if_neg (by decide),if_neg (fun h=>h.2 (by rw [hI.ss];exact hm)),if_pos rfl]
 rw [e4,chgT_one] at c4
 clear e4
 obtain ⟨o1,o2⟩:=oneM_ok hI.N rs ho.1 ho.2
 have hcell:=Option.some.inj ((List.getElem?_eq_getElem (by simpa using hlt : k < (oqs ops).length)).symm.trans he)
 by_cases h0 : (yG x.ns ops[k] rs).2.2 = 0
 case neg =>
  have hgg:=hI.g
  rw [chgM_step hlt,if_neg h0,hRR] at hgg
  simp only [Prod.mk.injEq] at hgg
  obtain ⟨q1,q2,-,-⟩:=hgg
  rw [if_neg h0] at c4
  rw [q1] at c4 h0
  obtain ⟨rfl,-,-⟩:=h1T h0
  subst q2
  have h0' : (re = 0) = False:=eq_false h0
  clear hX hL hI hS hR hT hpsO hRR h0T h1T o1 o2 ho hoo
  generalize ops[k] = o at he hcell c4
  obtain ⟨ok,opa,oda,ov,oow,osq⟩:=o
  unfold Sv.cells Tx.cells Rp.cells pts oqs Oq.cells at c4
  simp only [wL,wK] at c4
  dsimp only at he hcell
  repeat' first|(refine hK _ ?_;clear hK)|(refine hK _ _ ?_;clear hK)|(clear hK;refine hK _ ?_;clear hK)|(clear hK;clear hK;refine hK _ ?_;clear hK)|(clear hK;clear hK;clear hK;refine hK _ ?_;clear hK)|(clear hK;clear hK;clear hK;clear hK;refine hK _ ?_;clear hK)|(refine zJ fun K hK=>?_)|((first | refine zH ?_ | refine zN rfl (by kernel_rfl) ?_ | refine zM ?_ | refine zK (by kernel_rfl) ?_);simp only [wL,wK,strip])|((first | refine wIs fun K hK=>?_ | refine wOs fun K hK=>?_ | refine wQs fun K hK=>?_ | refine zW ?_ | refine zX ?_ | refine zY ?_ | refine zL ?_);simp [g3,b3,g4,b4,g5,b5,g7,b7,g8,b8,g9,g57,g58,g59,hlt,hlt',he,hcell,h0'])|(refine wIn ?_;refine And.intro (by kernel_rfl) ?_;try simp only [zZ])|(first | refine zQ ?_ | refine zS ?_)|((first | refine zI ?_ | refine zO ?_ | refine zP ?_);try simp)|((first | refine zR ?_ | refine wOn ?_ | refine wQn ?_);try simp only [zZ])|(refine zU.pure (c4) rfl ?_)|(refine zU.lent (c4) rfl ?_)|(refine zT.pure (c4) rfl ?_)|(refine zT.lent (c4) rfl ?_)|(refine zU.own (c4) ?_)|(refine zV.pure (c4) rfl ?_)|(refine zV.lent (c4) rfl ?_)|(refine zV.own (c4) ?_)|(refine zU.pure (zF) rfl ?_)|(refine zU.lent (zF) rfl ?_)|(refine zT.pure (zF) rfl ?_)|(refine zT.lent (zF) rfl ?_)|(refine zU.own (zF) ?_)|(refine zV.pure (zF) rfl ?_)|(refine zV.lent (zF) rfl ?_)|(refine zV.own (zF) ?_)
  all_goals apply hr
  all_goals simp [Tryz.f5]
 rw [if_pos h0] at c4
 have hI2:=hI.next hlt ho h0 ⟨e,n,rs,xx,0,0,(yG x.ns ops[k] rs).2.1,(yG x.ns ops[k] rs).1⟩ rfl
 have c5:=apply08_con x ⟨e,n,rs,xx,0,0,(yG x.ns ops[k] rs).2.1,(yG x.ns ops[k] rs).1⟩ (hX.F.le (by show (yG x.ns ops[k] rs).1.length <= _;omega)) (okP_T o1)
 generalize doS x ⟨e,n,rs,xx,0,0,(yG x.ns ops[k] rs).2.1,(yG x.ns ops[k] rs).1⟩ = X2 at c5 hI2
 clear hX hI hS hR hT hpsO hRR h0T h1T o1 o2 ho hoo h0
 generalize yG x.ns ops[k] rs = q at *
 generalize ops[k] = o at he hcell c4
 obtain ⟨qp,qm,qe⟩:=q
 obtain ⟨ok,opa,oda,ov,oow,osq⟩:=o
 dsimp only at he hcell hI2
 unfold Sv.cells Tx.cells Rp.cells oqs Oq.cells at c4
 unfold Sv.cells Tx.cells at c5
 simp only [wL,wK] at c4
 dsimp only at c4 c5
 by_cases hmm : m = []
 ·subst hmm
  rw [if_pos rfl] at hI2
  repeat' first|(refine hK _ ?_;clear hK)|(refine hK _ _ ?_;clear hK)|(clear hK;refine hK _ ?_;clear hK)|(clear hK;clear hK;refine hK _ ?_;clear hK)|(clear hK;clear hK;clear hK;refine hK _ ?_;clear hK)|(clear hK;clear hK;clear hK;clear hK;refine hK _ ?_;clear hK)|(refine zJ fun K hK=>?_)|((first | refine zH ?_ | refine zN rfl (by kernel_rfl) ?_ | refine zM ?_ | refine zK (by kernel_rfl) ?_);simp only [wL,wK,strip])|((first | refine wIs fun K hK=>?_ | refine wOs fun K hK=>?_ | refine wQs fun K hK=>?_ | refine zW ?_ | refine zX ?_ | refine zY ?_ | refine zL ?_);simp [g3,b3,g4,b4,g5,b5,g7,b7,g8,b8,g9,g57,g58,g59,hlt,hlt',hw,he,hcell])|(refine wIn ?_;refine And.intro (by kernel_rfl) ?_;try simp only [zZ])|(first | refine zQ ?_ | refine zS ?_)|((first | refine zI ?_ | refine zO ?_ | refine zP ?_);try simp)|((first | refine zR ?_ | refine wOn ?_ | refine wQn ?_);try simp only [zZ])|(refine zU.pure (c4) rfl ?_)|(refine zU.lent (c4) rfl ?_)|(refine zT.pure (c4) rfl ?_)|(refine zT.lent (c4) rfl ?_)|(refine zU.own (c4) ?_)|(refine zV.pure (c4) rfl ?_)|(refine zV.lent (c4) rfl ?_)|(refine zV.own (c4) ?_)|(refine zU.pure (c5) rfl ?_)|(refine zU.lent (c5) rfl ?_)|(refine zT.pure (c5) rfl ?_)|(refine zT.lent (c5) rfl ?_)|(refine zU.own (c5) ?_)|(refine zV.pure (c5) rfl ?_)|(refine zV.lent (c5) rfl ?_)|(refine zV.own (c5) ?_)
  all_goals refine hL _ (N - 1) (by omega) ⟨k + 1,X2,_,_,by omega,hI2,?_⟩
  all_goals simp [g3,b3,g4,b4,g5,b5,g7,b7,g8,b8,g9,g57,g58,g59,hw]
 ·rw [if_neg hmm] at hI2
  have hm2 : (m = []) = False:=eq_false hmm
  repeat' first|(refine hK _ ?_;clear hK)|(refine hK _ _ ?_;clear hK)|(clear hK;refine hK _ ?_;clear hK)|(clear hK;clear hK;refine hK _ ?_;clear hK)|(clear hK;clear hK;clear hK;refine hK _ ?_;clear hK)|(clear hK;clear hK;clear hK;clear hK;refine hK _ ?_;clear hK)|(refine zJ fun K hK=>?_)|((first | refine zH ?_ | refine zN rfl (by kernel_rfl) ?_ | refine zM ?_ | refine zK (by kernel_rfl) ?_);simp only [wL,wK,strip])|((first | refine wIs fun K hK=>?_ | refine wOs fun K hK=>?_ | refine wQs fun K hK=>?_ | refine zW ?_ | refine zX ?_ | refine zY ?_ | refine zL ?_);simp [g3,b3,g4,b4,g5,b5,g7,b7,g8,b8,g9,g57,g58,g59,hlt,hlt',hw,he,hcell,hm2])|(refine wIn ?_;refine And.intro (by kernel_rfl) ?_;try simp only [zZ])|(first | refine zQ ?_ | refine zS ?_)|((first | refine zI ?_ | refine zO ?_ | refine zP ?_);try simp)|((first | refine zR ?_ | refine wOn ?_ | refine wQn ?_);try simp only [zZ])|(refine zU.pure (c4) rfl ?_)|(refine zU.lent (c4) rfl ?_)|(refine zT.pure (c4) rfl ?_)|(refine zT.lent (c4) rfl ?_)|(refine zU.own (c4) ?_)|(refine zV.pure (c4) rfl ?_)|(refine zV.lent (c4) rfl ?_)|(refine zV.own (c4) ?_)|(refine zU.pure (c5) rfl ?_)|(refine zU.lent (c5) rfl ?_)|(refine zT.pure (c5) rfl ?_)|(refine zT.lent (c5) rfl ?_)|(refine zU.own (c5) ?_)|(refine zV.pure (c5) rfl ?_)|(refine zV.lent (c5) rfl ?_)|(refine zV.own (c5) ?_)
  all_goals refine hL _ (N - 1) (by omega) ⟨k + 1,X2,_,_,by omega,hI2,?_⟩
  all_goals simp [g3,b3,g4,b4,g5,b5,g7,b7,g8,b8,g9,g57,g58,g59,hw]
end Go.Proofs.YtedbbcmokbogpaaGreatDoor
