/- Texts that the proof needs: WB WX WY. -/
import Derived.Test.YtpilcadofjcdoaaP24WatchSees
import Derived.Test.YtpilcadofjcdoaaP15WatchSees
import Derived.Test.YtpilcadofjcdoaaP21WatchSees
namespace Go.Proofs.Ytpilcadofjcdoaa
set_option linter.unusedSimpArgs false
set_option linter.unusedVariables false
open Go Go.Av
attribute [local irreducible] Go.Av.yQ Go.Av.zZ Go.Av.yG Go.Av.zT Go.Av.yH Go.Av.zY Go.Av.Con
theorem eqS_con (a b : List (List UInt8)) : zF Try.prog 27 [.p (.sl 1 (txs a)), .p (.sl 1 (txs b))] (.p (B (decide (a = b)))) := by
 refine zF.len ⟨Try.f27,Try.func27,rfl,rfl⟩ 0 _ _ rfl fun hlen=>?_
 simp only [txs_len] at hlen
 by_cases hl : a.length = b.length
 ·refine zG Try.tab Try.mixed Try.func27 rfl rfl Try.ntmps27 (by simp) (by simp) fun Q hr hn => ?_
  repeat' first|(refine hK _ ?_;clear hK)|(refine hK _ _ ?_;clear hK)|(clear hK;refine hK _ ?_;clear hK)|(clear hK;clear hK;refine hK _ ?_;clear hK)|(clear hK;clear hK;clear hK;refine hK _ ?_;clear hK)|(clear hK;clear hK;clear hK;clear hK;refine hK _ ?_;clear hK)|(refine zJ fun K hK=>?_)|((first | refine zH ?_ | refine zN rfl (by kernel_rfl) ?_ | refine zM ?_ | refine zK (by kernel_rfl) ?_);simp only [wJ,wI,strip])|((first | refine wIs fun K hK=>?_ | refine wOs fun K hK=>?_ | refine wQs fun K hK=>?_ | refine zU ?_ | refine zV ?_ | refine zW ?_ | refine zL ?_);simp [hl])|(refine wIn ?_;refine And.intro (by kernel_rfl) ?_;try simp only [zX])|(first | refine zQ ?_ | refine zS ?_)|((first | refine zI ?_ | refine zO ?_ | refine zP ?_);try simp)|((first | refine zR ?_ | refine wOn ?_ | refine wQn ?_);try simp only [zX])
  refine xS (fun N st=>∃ k,k + N = a.length /\ st.s 0 = .p (.sl 1 (txs a)) /\ st.s 1 = .p (.sl 1 (txs b)) /\ st.s 12 = .p (I a.length) /\ st.s 13 = .p (I k) /\ (a = b ↔ a.drop k = b.drop k)) a.length ⟨0,by simp [hl]⟩ fun K N st hL ⟨k,hk,g0,g1,g12,g13,hi⟩=>?_
  by_cases hlt : k < a.length
  ·have hlt' : k < b.length := by omega
   have hw:=xY k _ hlt hlen
   have h1:=txs_get hlt
   have h2:=txs_get hlt'
   rw [List.drop_eq_getElem_cons hlt,List.drop_eq_getElem_cons hlt',List.cons.injEq] at hi
   by_cases o : a[k] = b[k]
   ·simp only [o, true_and] at hi
    repeat' first|(refine hK _ ?_;clear hK)|(refine hK _ _ ?_;clear hK)|(clear hK;refine hK _ ?_;clear hK)|(clear hK;clear hK;refine hK _ ?_;clear hK)|(clear hK;clear hK;clear hK;refine hK _ ?_;clear hK)|(clear hK;clear hK;clear hK;clear hK;refine hK _ ?_;clear hK)|(refine zJ fun K hK=>?_)|((first | refine zH ?_ | refine zN rfl (by kernel_rfl) ?_ | refine zM ?_ | refine zK (by kernel_rfl) ?_);simp only [wJ,wI,strip])|((first | refine wIs fun K hK=>?_ | refine wOs fun K hK=>?_ | refine wQs fun K hK=>?_ | refine zU ?_ | refine zV ?_ | refine zW ?_ | refine zL ?_);simp [g0,g1,g12,g13,hlt,hlt',hw,h1,h2,o])|(refine wIn ?_;refine And.intro (by kernel_rfl) ?_;try simp only [zX])|(first | refine zQ ?_ | refine zS ?_)|((first | refine zI ?_ | refine zO ?_ | refine zP ?_);try simp)|((first | refine zR ?_ | refine wOn ?_ | refine wQn ?_);try simp only [zX])
    refine hL _ (N - 1) (by omega) ⟨k + 1,by omega,?_⟩
    simp [g0,g1,g12,g13,hw]
    exact hi
   ·rw [show decide (a = b) = false from decide_eq_false fun h => o (hi.1 h).1] at hr
    repeat' first|(refine hK _ ?_;clear hK)|(refine hK _ _ ?_;clear hK)|(clear hK;refine hK _ ?_;clear hK)|(clear hK;clear hK;refine hK _ ?_;clear hK)|(clear hK;clear hK;clear hK;refine hK _ ?_;clear hK)|(clear hK;clear hK;clear hK;clear hK;refine hK _ ?_;clear hK)|(refine zJ fun K hK=>?_)|((first | refine zH ?_ | refine zN rfl (by kernel_rfl) ?_ | refine zM ?_ | refine zK (by kernel_rfl) ?_);simp only [wJ,wI,strip])|((first | refine wIs fun K hK=>?_ | refine wOs fun K hK=>?_ | refine wQs fun K hK=>?_ | refine zU ?_ | refine zV ?_ | refine zW ?_ | refine zL ?_);simp [g0,g1,g12,g13,hlt,hlt',hw,h1,h2,o])|(refine wIn ?_;refine And.intro (by kernel_rfl) ?_;try simp only [zX])|(first | refine zQ ?_ | refine zS ?_)|((first | refine zI ?_ | refine zO ?_ | refine zP ?_);try simp)|((first | refine zR ?_ | refine wOn ?_ | refine wQn ?_);try simp only [zX])
    all_goals apply hr
    all_goals simp [Try.f27]
  ·rw [List.drop_of_length_le (by omega), List.drop_of_length_le (by omega)] at hi
   rw [show decide (a = b) = true from decide_eq_true (hi.2 rfl)] at hr
   repeat' first|(refine hK _ ?_;clear hK)|(refine hK _ _ ?_;clear hK)|(clear hK;refine hK _ ?_;clear hK)|(clear hK;clear hK;refine hK _ ?_;clear hK)|(clear hK;clear hK;clear hK;refine hK _ ?_;clear hK)|(clear hK;clear hK;clear hK;clear hK;refine hK _ ?_;clear hK)|(refine zJ fun K hK=>?_)|((first | refine zH ?_ | refine zN rfl (by kernel_rfl) ?_ | refine zM ?_ | refine zK (by kernel_rfl) ?_);simp only [wJ,wI,strip])|((first | refine wIs fun K hK=>?_ | refine wOs fun K hK=>?_ | refine wQs fun K hK=>?_ | refine zU ?_ | refine zV ?_ | refine zW ?_ | refine zL ?_);simp [g0,g1,g12,g13,hlt])|(refine wIn ?_;refine And.intro (by kernel_rfl) ?_;try simp only [zX])|(first | refine zQ ?_ | refine zS ?_)|((first | refine zI ?_ | refine zO ?_ | refine zP ?_);try simp)|((first | refine zR ?_ | refine wOn ?_ | refine wQn ?_);try simp only [zX])
   all_goals apply hr
   all_goals simp [Try.f27]
 ·have hl' : ¬ (a.length : Int) = b.length := by omega
  rw [show decide (a = b) = false from decide_eq_false fun h=>hl (by rw [h])]
  refine zG Try.tab Try.mixed Try.func27 rfl rfl Try.ntmps27 (by simp) (by simp) fun Q hr hn=>?_
  repeat' first|(refine hK _ ?_;clear hK)|(refine hK _ _ ?_;clear hK)|(clear hK;refine hK _ ?_;clear hK)|(clear hK;clear hK;refine hK _ ?_;clear hK)|(clear hK;clear hK;clear hK;refine hK _ ?_;clear hK)|(clear hK;clear hK;clear hK;clear hK;refine hK _ ?_;clear hK)|(refine zJ fun K hK=>?_)|((first | refine zH ?_ | refine zN rfl (by kernel_rfl) ?_ | refine zM ?_ | refine zK (by kernel_rfl) ?_);simp only [wJ,wI,strip])|((first | refine wIs fun K hK=>?_ | refine wOs fun K hK=>?_ | refine wQs fun K hK=>?_ | refine zU ?_ | refine zV ?_ | refine zW ?_ | refine zL ?_);simp [hl,hl'])|(refine wIn ?_;refine And.intro (by kernel_rfl) ?_;try simp only [zX])|(first | refine zQ ?_ | refine zS ?_)|((first | refine zI ?_ | refine zO ?_ | refine zP ?_);try simp)|((first | refine zR ?_ | refine wOn ?_ | refine wQn ?_);try simp only [zX])
  all_goals apply hr
  all_goals simp [Try.f27]
structure Wt where
 (s k : Int)
 (p : List UInt8)
 deriving DecidableEq
def Wt.c (w : Wt) : List PV := [I w.s, I w.k, SB w.p]
structure Ws where
 l : List Zn
 ss : List (List PV)
 ms : List (List PV)
 (nx e n k ae an : Int)
def Ws.c (s : Ws) : List PV := [.sl 5 (zns s.l), .sl 1 s.ss, I s.nx, I s.e, I s.n, I s.k, .sl 4 s.ms, I s.ae, I s.an]
def yV (k : Int) (x y : Zn) (b1 b2 eq : Bool) : Int :=
 if b1 = true /\ b2 = false then 3 else if b2 = true /\ b1 = false then 1 else if k = 2 /\ (¬ x.k = y.k \/ eq = false) then 4
 else if k = 1 /\ (¬ x.d = y.d \/ ¬ x.v = y.v \/ ¬ x.o = y.o) then 2 else 0
def told (w : Wt) (a b : Ws) : Int := yV w.k (fnd a.l w.p).1 (fnd b.l w.p).1 (fnd a.l w.p).2 (fnd b.l w.p).2 (decide (kds a.l w.p = kds b.l w.p))
set_option maxHeartbeats 4000000 in
theorem told_con (w : Wt) (a b : Ws) (ha : a.l.length <= 1000000) (hb : b.l.length <= 1000000) (hza : ∀ z ∈ a.l, long z) (hzb : ∀ z ∈ b.l, long z) : zF Try.prog 8 [.p (.agg w.c), .p (.agg a.c), .p (.agg b.c)] (.p (I (told w a b))) := by
 have c1:=find_con a.l w.p
 have c2:=find_con b.l w.p
 have c3:=kids_con a.l w.p ha hza
 have c4:=kids_con b.l w.p hb hzb
 have c5:=eqS_con (kds a.l w.p) (kds b.l w.p)
 unfold told
 generalize decide (kds a.l w.p = kds b.l w.p) = eq at c5 ⊢
 generalize kds a.l w.p = K1 at c3 c5
 generalize kds b.l w.p = K2 at c4 c5
 generalize fnd a.l w.p = r1 at c1 ⊢
 generalize fnd b.l w.p = r2 at c2 ⊢
 obtain ⟨x,b1⟩:=r1
 obtain ⟨y,b2⟩:=r2
 dsimp only at c1 c2 ⊢
 unfold Zn.c at c1 c2
 unfold Wt.c Ws.c
 generalize zns a.l = L1 at c1 c3 ⊢
 generalize zns b.l = L2 at c2 c4 ⊢
 cases b1 <;> cases b2
 ·by_cases k2 : w.k = 2
  ·by_cases q1 : x.k = y.k
   ·cases eq
    ·have hv : yV w.k x y false false false = 4 := by unfold yV; simp [k2, q1]
     rw [hv]
     refine zG Try.tab Try.mixed Try.func8 rfl rfl Try.ntmps8 (by simp) (by simp) fun Q hr hn=>?_
     repeat' first|(refine hK _ ?_;clear hK)|(refine hK _ _ ?_;clear hK)|(clear hK;refine hK _ ?_;clear hK)|(clear hK;clear hK;refine hK _ ?_;clear hK)|(clear hK;clear hK;clear hK;refine hK _ ?_;clear hK)|(clear hK;clear hK;clear hK;clear hK;refine hK _ ?_;clear hK)|(refine zJ fun K hK=>?_)|((first | refine zH ?_ | refine zN rfl (by kernel_rfl) ?_ | refine zM ?_ | refine zK (by kernel_rfl) ?_);simp only [wJ,wI,strip])|((first | refine wIs fun K hK=>?_ | refine wOs fun K hK=>?_ | refine wQs fun K hK=>?_ | refine zU ?_ | refine zV ?_ | refine zW ?_ | refine zL ?_);simp [k2,q1])|(refine wIn ?_;refine And.intro (by kernel_rfl) ?_;try simp only [zX])|(first | refine zQ ?_ | refine zS ?_)|((first | refine zI ?_ | refine zO ?_ | refine zP ?_);try simp)|((first | refine zR ?_ | refine wOn ?_ | refine wQn ?_);try simp only [zX])|(refine zZ.pure (c1) rfl ?_)|(refine zZ.lent (c1) rfl ?_)|(refine zT.pure (c1) rfl ?_)|(refine zT.lent (c1) rfl ?_)|(refine zZ.own (c1) ?_)|(refine zY.pure (c1) rfl ?_)|(refine zY.lent (c1) rfl ?_)|(refine zY.own (c1) ?_)|(refine zZ.pure (c2) rfl ?_)|(refine zZ.lent (c2) rfl ?_)|(refine zT.pure (c2) rfl ?_)|(refine zT.lent (c2) rfl ?_)|(refine zZ.own (c2) ?_)|(refine zY.pure (c2) rfl ?_)|(refine zY.lent (c2) rfl ?_)|(refine zY.own (c2) ?_)|(refine zZ.pure (c3) rfl ?_)|(refine zZ.lent (c3) rfl ?_)|(refine zT.pure (c3) rfl ?_)|(refine zT.lent (c3) rfl ?_)|(refine zZ.own (c3) ?_)|(refine zY.pure (c3) rfl ?_)|(refine zY.lent (c3) rfl ?_)|(refine zY.own (c3) ?_)|(refine zZ.pure (c4) rfl ?_)|(refine zZ.lent (c4) rfl ?_)|(refine zT.pure (c4) rfl ?_)|(refine zT.lent (c4) rfl ?_)|(refine zZ.own (c4) ?_)|(refine zY.pure (c4) rfl ?_)|(refine zY.lent (c4) rfl ?_)|(refine zY.own (c4) ?_)|(refine zZ.pure (c5) rfl ?_)|(refine zZ.lent (c5) rfl ?_)|(refine zT.pure (c5) rfl ?_)|(refine zT.lent (c5) rfl ?_)|(refine zZ.own (c5) ?_)|(refine zY.pure (c5) rfl ?_)|(refine zY.lent (c5) rfl ?_)|(refine zY.own (c5) ?_)
     all_goals apply hr
     all_goals simp [Try.f8]
    ·have k1 : ¬ w.k = 1 := by omega
     have hv : yV w.k x y false false true = 0:=by unfold yV;simp [k2,k1,q1]
     rw [hv]
     refine zG Try.tab Try.mixed Try.func8 rfl rfl Try.ntmps8 (by simp) (by simp) fun Q hr hn=>?_
     repeat' first|(refine hK _ ?_;clear hK)|(refine hK _ _ ?_;clear hK)|(clear hK;refine hK _ ?_;clear hK)|(clear hK;clear hK;refine hK _ ?_;clear hK)|(clear hK;clear hK;clear hK;refine hK _ ?_;clear hK)|(clear hK;clear hK;clear hK;clear hK;refine hK _ ?_;clear hK)|(refine zJ fun K hK=>?_)|((first | refine zH ?_ | refine zN rfl (by kernel_rfl) ?_ | refine zM ?_ | refine zK (by kernel_rfl) ?_);simp only [wJ,wI,strip])|((first | refine wIs fun K hK=>?_ | refine wOs fun K hK=>?_ | refine wQs fun K hK=>?_ | refine zU ?_ | refine zV ?_ | refine zW ?_ | refine zL ?_);simp [k2,k1,q1])|(refine wIn ?_;refine And.intro (by kernel_rfl) ?_;try simp only [zX])|(first | refine zQ ?_ | refine zS ?_)|((first | refine zI ?_ | refine zO ?_ | refine zP ?_);try simp)|((first | refine zR ?_ | refine wOn ?_ | refine wQn ?_);try simp only [zX])|(refine zZ.pure (c1) rfl ?_)|(refine zZ.lent (c1) rfl ?_)|(refine zT.pure (c1) rfl ?_)|(refine zT.lent (c1) rfl ?_)|(refine zZ.own (c1) ?_)|(refine zY.pure (c1) rfl ?_)|(refine zY.lent (c1) rfl ?_)|(refine zY.own (c1) ?_)|(refine zZ.pure (c2) rfl ?_)|(refine zZ.lent (c2) rfl ?_)|(refine zT.pure (c2) rfl ?_)|(refine zT.lent (c2) rfl ?_)|(refine zZ.own (c2) ?_)|(refine zY.pure (c2) rfl ?_)|(refine zY.lent (c2) rfl ?_)|(refine zY.own (c2) ?_)|(refine zZ.pure (c3) rfl ?_)|(refine zZ.lent (c3) rfl ?_)|(refine zT.pure (c3) rfl ?_)|(refine zT.lent (c3) rfl ?_)|(refine zZ.own (c3) ?_)|(refine zY.pure (c3) rfl ?_)|(refine zY.lent (c3) rfl ?_)|(refine zY.own (c3) ?_)|(refine zZ.pure (c4) rfl ?_)|(refine zZ.lent (c4) rfl ?_)|(refine zT.pure (c4) rfl ?_)|(refine zT.lent (c4) rfl ?_)|(refine zZ.own (c4) ?_)|(refine zY.pure (c4) rfl ?_)|(refine zY.lent (c4) rfl ?_)|(refine zY.own (c4) ?_)|(refine zZ.pure (c5) rfl ?_)|(refine zZ.lent (c5) rfl ?_)|(refine zT.pure (c5) rfl ?_)|(refine zT.lent (c5) rfl ?_)|(refine zZ.own (c5) ?_)|(refine zY.pure (c5) rfl ?_)|(refine zY.lent (c5) rfl ?_)|(refine zY.own (c5) ?_)
     all_goals apply hr
     all_goals simp [Try.f8]
   ·have hv : yV w.k x y false false eq = 4 := by unfold yV; simp [k2, q1]
    rw [hv]
    refine zG Try.tab Try.mixed Try.func8 rfl rfl Try.ntmps8 (by simp) (by simp) fun Q hr hn=>?_
    repeat' first|(refine hK _ ?_;clear hK)|(refine hK _ _ ?_;clear hK)|(clear hK;refine hK _ ?_;clear hK)|(clear hK;clear hK;refine hK _ ?_;clear hK)|(clear hK;clear hK;clear hK;refine hK _ ?_;clear hK)|(clear hK;clear hK;clear hK;clear hK;refine hK _ ?_;clear hK)|(refine zJ fun K hK=>?_)|((first | refine zH ?_ | refine zN rfl (by kernel_rfl) ?_ | refine zM ?_ | refine zK (by kernel_rfl) ?_);simp only [wJ,wI,strip])|((first | refine wIs fun K hK=>?_ | refine wOs fun K hK=>?_ | refine wQs fun K hK=>?_ | refine zU ?_ | refine zV ?_ | refine zW ?_ | refine zL ?_);simp [k2,q1])|(refine wIn ?_;refine And.intro (by kernel_rfl) ?_;try simp only [zX])|(first | refine zQ ?_ | refine zS ?_)|((first | refine zI ?_ | refine zO ?_ | refine zP ?_);try simp)|((first | refine zR ?_ | refine wOn ?_ | refine wQn ?_);try simp only [zX])|(refine zZ.pure (c1) rfl ?_)|(refine zZ.lent (c1) rfl ?_)|(refine zT.pure (c1) rfl ?_)|(refine zT.lent (c1) rfl ?_)|(refine zZ.own (c1) ?_)|(refine zY.pure (c1) rfl ?_)|(refine zY.lent (c1) rfl ?_)|(refine zY.own (c1) ?_)|(refine zZ.pure (c2) rfl ?_)|(refine zZ.lent (c2) rfl ?_)|(refine zT.pure (c2) rfl ?_)|(refine zT.lent (c2) rfl ?_)|(refine zZ.own (c2) ?_)|(refine zY.pure (c2) rfl ?_)|(refine zY.lent (c2) rfl ?_)|(refine zY.own (c2) ?_)|(refine zZ.pure (c3) rfl ?_)|(refine zZ.lent (c3) rfl ?_)|(refine zT.pure (c3) rfl ?_)|(refine zT.lent (c3) rfl ?_)|(refine zZ.own (c3) ?_)|(refine zY.pure (c3) rfl ?_)|(refine zY.lent (c3) rfl ?_)|(refine zY.own (c3) ?_)|(refine zZ.pure (c4) rfl ?_)|(refine zZ.lent (c4) rfl ?_)|(refine zT.pure (c4) rfl ?_)|(refine zT.lent (c4) rfl ?_)|(refine zZ.own (c4) ?_)|(refine zY.pure (c4) rfl ?_)|(refine zY.lent (c4) rfl ?_)|(refine zY.own (c4) ?_)|(refine zZ.pure (c5) rfl ?_)|(refine zZ.lent (c5) rfl ?_)|(refine zT.pure (c5) rfl ?_)|(refine zT.lent (c5) rfl ?_)|(refine zZ.own (c5) ?_)|(refine zY.pure (c5) rfl ?_)|(refine zY.lent (c5) rfl ?_)|(refine zY.own (c5) ?_)
    all_goals apply hr
    all_goals simp [Try.f8]
  ·by_cases k1 : w.k = 1
   ·by_cases q2 : x.d = y.d
    ·by_cases q3 : x.v = y.v
     ·by_cases q4 : x.o = y.o
      ·have hv : yV w.k x y false false eq = 0 := by unfold yV; simp [k2, k1, q2, q3, q4]
       rw [hv]
       refine zG Try.tab Try.mixed Try.func8 rfl rfl Try.ntmps8 (by simp) (by simp) fun Q hr hn=>?_
       repeat' first|(refine hK _ ?_;clear hK)|(refine hK _ _ ?_;clear hK)|(clear hK;refine hK _ ?_;clear hK)|(clear hK;clear hK;refine hK _ ?_;clear hK)|(clear hK;clear hK;clear hK;refine hK _ ?_;clear hK)|(clear hK;clear hK;clear hK;clear hK;refine hK _ ?_;clear hK)|(refine zJ fun K hK=>?_)|((first | refine zH ?_ | refine zN rfl (by kernel_rfl) ?_ | refine zM ?_ | refine zK (by kernel_rfl) ?_);simp only [wJ,wI,strip])|((first | refine wIs fun K hK=>?_ | refine wOs fun K hK=>?_ | refine wQs fun K hK=>?_ | refine zU ?_ | refine zV ?_ | refine zW ?_ | refine zL ?_);simp [k2,k1,q2,q3,q4])|(refine wIn ?_;refine And.intro (by kernel_rfl) ?_;try simp only [zX])|(first | refine zQ ?_ | refine zS ?_)|((first | refine zI ?_ | refine zO ?_ | refine zP ?_);try simp)|((first | refine zR ?_ | refine wOn ?_ | refine wQn ?_);try simp only [zX])|(refine zZ.pure (c1) rfl ?_)|(refine zZ.lent (c1) rfl ?_)|(refine zT.pure (c1) rfl ?_)|(refine zT.lent (c1) rfl ?_)|(refine zZ.own (c1) ?_)|(refine zY.pure (c1) rfl ?_)|(refine zY.lent (c1) rfl ?_)|(refine zY.own (c1) ?_)|(refine zZ.pure (c2) rfl ?_)|(refine zZ.lent (c2) rfl ?_)|(refine zT.pure (c2) rfl ?_)|(refine zT.lent (c2) rfl ?_)|(refine zZ.own (c2) ?_)|(refine zY.pure (c2) rfl ?_)|(refine zY.lent (c2) rfl ?_)|(refine zY.own (c2) ?_)|(refine zZ.pure (c3) rfl ?_)|(refine zZ.lent (c3) rfl ?_)|(refine zT.pure (c3) rfl ?_)|(refine zT.lent (c3) rfl ?_)|(refine zZ.own (c3) ?_)|(refine zY.pure (c3) rfl ?_)|(refine zY.lent (c3) rfl ?_)|(refine zY.own (c3) ?_)|(refine zZ.pure (c4) rfl ?_)|(refine zZ.lent (c4) rfl ?_)|(refine zT.pure (c4) rfl ?_)|(refine zT.lent (c4) rfl ?_)|(refine zZ.own (c4) ?_)|(refine zY.pure (c4) rfl ?_)|(refine zY.lent (c4) rfl ?_)|(refine zY.own (c4) ?_)|(refine zZ.pure (c5) rfl ?_)|(refine zZ.lent (c5) rfl ?_)|(refine zT.pure (c5) rfl ?_)|(refine zT.lent (c5) rfl ?_)|(refine zZ.own (c5) ?_)|(refine zY.pure (c5) rfl ?_)|(refine zY.lent (c5) rfl ?_)|(refine zY.own (c5) ?_)
       all_goals apply hr
       all_goals simp [Try.f8]
      ·have hv : yV w.k x y false false eq = 2 := by unfold yV; simp [k2, k1, q2, q3, q4]
       rw [hv]
       refine zG Try.tab Try.mixed Try.func8 rfl rfl Try.ntmps8 (by simp) (by simp) fun Q hr hn=>?_
       repeat' first|(refine hK _ ?_;clear hK)|(refine hK _ _ ?_;clear hK)|(clear hK;refine hK _ ?_;clear hK)|(clear hK;clear hK;refine hK _ ?_;clear hK)|(clear hK;clear hK;clear hK;refine hK _ ?_;clear hK)|(clear hK;clear hK;clear hK;clear hK;refine hK _ ?_;clear hK)|(refine zJ fun K hK=>?_)|((first | refine zH ?_ | refine zN rfl (by kernel_rfl) ?_ | refine zM ?_ | refine zK (by kernel_rfl) ?_);simp only [wJ,wI,strip])|((first | refine wIs fun K hK=>?_ | refine wOs fun K hK=>?_ | refine wQs fun K hK=>?_ | refine zU ?_ | refine zV ?_ | refine zW ?_ | refine zL ?_);simp [k2,k1,q2,q3,q4])|(refine wIn ?_;refine And.intro (by kernel_rfl) ?_;try simp only [zX])|(first | refine zQ ?_ | refine zS ?_)|((first | refine zI ?_ | refine zO ?_ | refine zP ?_);try simp)|((first | refine zR ?_ | refine wOn ?_ | refine wQn ?_);try simp only [zX])|(refine zZ.pure (c1) rfl ?_)|(refine zZ.lent (c1) rfl ?_)|(refine zT.pure (c1) rfl ?_)|(refine zT.lent (c1) rfl ?_)|(refine zZ.own (c1) ?_)|(refine zY.pure (c1) rfl ?_)|(refine zY.lent (c1) rfl ?_)|(refine zY.own (c1) ?_)|(refine zZ.pure (c2) rfl ?_)|(refine zZ.lent (c2) rfl ?_)|(refine zT.pure (c2) rfl ?_)|(refine zT.lent (c2) rfl ?_)|(refine zZ.own (c2) ?_)|(refine zY.pure (c2) rfl ?_)|(refine zY.lent (c2) rfl ?_)|(refine zY.own (c2) ?_)|(refine zZ.pure (c3) rfl ?_)|(refine zZ.lent (c3) rfl ?_)|(refine zT.pure (c3) rfl ?_)|(refine zT.lent (c3) rfl ?_)|(refine zZ.own (c3) ?_)|(refine zY.pure (c3) rfl ?_)|(refine zY.lent (c3) rfl ?_)|(refine zY.own (c3) ?_)|(refine zZ.pure (c4) rfl ?_)|(refine zZ.lent (c4) rfl ?_)|(refine zT.pure (c4) rfl ?_)|(refine zT.lent (c4) rfl ?_)|(refine zZ.own (c4) ?_)|(refine zY.pure (c4) rfl ?_)|(refine zY.lent (c4) rfl ?_)|(refine zY.own (c4) ?_)|(refine zZ.pure (c5) rfl ?_)|(refine zZ.lent (c5) rfl ?_)|(refine zT.pure (c5) rfl ?_)|(refine zT.lent (c5) rfl ?_)|(refine zZ.own (c5) ?_)|(refine zY.pure (c5) rfl ?_)|(refine zY.lent (c5) rfl ?_)|(refine zY.own (c5) ?_)
       all_goals apply hr
       all_goals simp [Try.f8]
     ·have hv : yV w.k x y false false eq = 2 := by unfold yV; simp [k2, k1, q2, q3]
      rw [hv]
      refine zG Try.tab Try.mixed Try.func8 rfl rfl Try.ntmps8 (by simp) (by simp) fun Q hr hn=>?_
      repeat' first|(refine hK _ ?_;clear hK)|(refine hK _ _ ?_;clear hK)|(clear hK;refine hK _ ?_;clear hK)|(clear hK;clear hK;refine hK _ ?_;clear hK)|(clear hK;clear hK;clear hK;refine hK _ ?_;clear hK)|(clear hK;clear hK;clear hK;clear hK;refine hK _ ?_;clear hK)|(refine zJ fun K hK=>?_)|((first | refine zH ?_ | refine zN rfl (by kernel_rfl) ?_ | refine zM ?_ | refine zK (by kernel_rfl) ?_);simp only [wJ,wI,strip])|((first | refine wIs fun K hK=>?_ | refine wOs fun K hK=>?_ | refine wQs fun K hK=>?_ | refine zU ?_ | refine zV ?_ | refine zW ?_ | refine zL ?_);simp [k2,k1,q2,q3])|(refine wIn ?_;refine And.intro (by kernel_rfl) ?_;try simp only [zX])|(first | refine zQ ?_ | refine zS ?_)|((first | refine zI ?_ | refine zO ?_ | refine zP ?_);try simp)|((first | refine zR ?_ | refine wOn ?_ | refine wQn ?_);try simp only [zX])|(refine zZ.pure (c1) rfl ?_)|(refine zZ.lent (c1) rfl ?_)|(refine zT.pure (c1) rfl ?_)|(refine zT.lent (c1) rfl ?_)|(refine zZ.own (c1) ?_)|(refine zY.pure (c1) rfl ?_)|(refine zY.lent (c1) rfl ?_)|(refine zY.own (c1) ?_)|(refine zZ.pure (c2) rfl ?_)|(refine zZ.lent (c2) rfl ?_)|(refine zT.pure (c2) rfl ?_)|(refine zT.lent (c2) rfl ?_)|(refine zZ.own (c2) ?_)|(refine zY.pure (c2) rfl ?_)|(refine zY.lent (c2) rfl ?_)|(refine zY.own (c2) ?_)|(refine zZ.pure (c3) rfl ?_)|(refine zZ.lent (c3) rfl ?_)|(refine zT.pure (c3) rfl ?_)|(refine zT.lent (c3) rfl ?_)|(refine zZ.own (c3) ?_)|(refine zY.pure (c3) rfl ?_)|(refine zY.lent (c3) rfl ?_)|(refine zY.own (c3) ?_)|(refine zZ.pure (c4) rfl ?_)|(refine zZ.lent (c4) rfl ?_)|(refine zT.pure (c4) rfl ?_)|(refine zT.lent (c4) rfl ?_)|(refine zZ.own (c4) ?_)|(refine zY.pure (c4) rfl ?_)|(refine zY.lent (c4) rfl ?_)|(refine zY.own (c4) ?_)|(refine zZ.pure (c5) rfl ?_)|(refine zZ.lent (c5) rfl ?_)|(refine zT.pure (c5) rfl ?_)|(refine zT.lent (c5) rfl ?_)|(refine zZ.own (c5) ?_)|(refine zY.pure (c5) rfl ?_)|(refine zY.lent (c5) rfl ?_)|(refine zY.own (c5) ?_)
      all_goals apply hr
      all_goals simp [Try.f8]
    ·have hv : yV w.k x y false false eq = 2 := by unfold yV; simp [k2, k1, q2]
     rw [hv]
     refine zG Try.tab Try.mixed Try.func8 rfl rfl Try.ntmps8 (by simp) (by simp) fun Q hr hn=>?_
     repeat' first|(refine hK _ ?_;clear hK)|(refine hK _ _ ?_;clear hK)|(clear hK;refine hK _ ?_;clear hK)|(clear hK;clear hK;refine hK _ ?_;clear hK)|(clear hK;clear hK;clear hK;refine hK _ ?_;clear hK)|(clear hK;clear hK;clear hK;clear hK;refine hK _ ?_;clear hK)|(refine zJ fun K hK=>?_)|((first | refine zH ?_ | refine zN rfl (by kernel_rfl) ?_ | refine zM ?_ | refine zK (by kernel_rfl) ?_);simp only [wJ,wI,strip])|((first | refine wIs fun K hK=>?_ | refine wOs fun K hK=>?_ | refine wQs fun K hK=>?_ | refine zU ?_ | refine zV ?_ | refine zW ?_ | refine zL ?_);simp [k2,k1,q2])|(refine wIn ?_;refine And.intro (by kernel_rfl) ?_;try simp only [zX])|(first | refine zQ ?_ | refine zS ?_)|((first | refine zI ?_ | refine zO ?_ | refine zP ?_);try simp)|((first | refine zR ?_ | refine wOn ?_ | refine wQn ?_);try simp only [zX])|(refine zZ.pure (c1) rfl ?_)|(refine zZ.lent (c1) rfl ?_)|(refine zT.pure (c1) rfl ?_)|(refine zT.lent (c1) rfl ?_)|(refine zZ.own (c1) ?_)|(refine zY.pure (c1) rfl ?_)|(refine zY.lent (c1) rfl ?_)|(refine zY.own (c1) ?_)|(refine zZ.pure (c2) rfl ?_)|(refine zZ.lent (c2) rfl ?_)|(refine zT.pure (c2) rfl ?_)|(refine zT.lent (c2) rfl ?_)|(refine zZ.own (c2) ?_)|(refine zY.pure (c2) rfl ?_)|(refine zY.lent (c2) rfl ?_)|(refine zY.own (c2) ?_)|(refine zZ.pure (c3) rfl ?_)|(refine zZ.lent (c3) rfl ?_)|(refine zT.pure (c3) rfl ?_)|(refine zT.lent (c3) rfl ?_)|(refine zZ.own (c3) ?_)|(refine zY.pure (c3) rfl ?_)|(refine zY.lent (c3) rfl ?_)|(refine zY.own (c3) ?_)|(refine zZ.pure (c4) rfl ?_)|(refine zZ.lent (c4) rfl ?_)|(refine zT.pure (c4) rfl ?_)|(refine zT.lent (c4) rfl ?_)|(refine zZ.own (c4) ?_)|(refine zY.pure (c4) rfl ?_)|(refine zY.lent (c4) rfl ?_)|(refine zY.own (c4) ?_)|(refine zZ.pure (c5) rfl ?_)|(refine zZ.lent (c5) rfl ?_)|(refine zT.pure (c5) rfl ?_)|(refine zT.lent (c5) rfl ?_)|(refine zZ.own (c5) ?_)|(refine zY.pure (c5) rfl ?_)|(refine zY.lent (c5) rfl ?_)|(refine zY.own (c5) ?_)
     all_goals apply hr
     all_goals simp [Try.f8]
   ·have hv : yV w.k x y false false eq = 0 := by unfold yV; simp [k2, k1]
    rw [hv]
    refine zG Try.tab Try.mixed Try.func8 rfl rfl Try.ntmps8 (by simp) (by simp) fun Q hr hn=>?_
    repeat' first|(refine hK _ ?_;clear hK)|(refine hK _ _ ?_;clear hK)|(clear hK;refine hK _ ?_;clear hK)|(clear hK;clear hK;refine hK _ ?_;clear hK)|(clear hK;clear hK;clear hK;refine hK _ ?_;clear hK)|(clear hK;clear hK;clear hK;clear hK;refine hK _ ?_;clear hK)|(refine zJ fun K hK=>?_)|((first | refine zH ?_ | refine zN rfl (by kernel_rfl) ?_ | refine zM ?_ | refine zK (by kernel_rfl) ?_);simp only [wJ,wI,strip])|((first | refine wIs fun K hK=>?_ | refine wOs fun K hK=>?_ | refine wQs fun K hK=>?_ | refine zU ?_ | refine zV ?_ | refine zW ?_ | refine zL ?_);simp [k2,k1])|(refine wIn ?_;refine And.intro (by kernel_rfl) ?_;try simp only [zX])|(first | refine zQ ?_ | refine zS ?_)|((first | refine zI ?_ | refine zO ?_ | refine zP ?_);try simp)|((first | refine zR ?_ | refine wOn ?_ | refine wQn ?_);try simp only [zX])|(refine zZ.pure (c1) rfl ?_)|(refine zZ.lent (c1) rfl ?_)|(refine zT.pure (c1) rfl ?_)|(refine zT.lent (c1) rfl ?_)|(refine zZ.own (c1) ?_)|(refine zY.pure (c1) rfl ?_)|(refine zY.lent (c1) rfl ?_)|(refine zY.own (c1) ?_)|(refine zZ.pure (c2) rfl ?_)|(refine zZ.lent (c2) rfl ?_)|(refine zT.pure (c2) rfl ?_)|(refine zT.lent (c2) rfl ?_)|(refine zZ.own (c2) ?_)|(refine zY.pure (c2) rfl ?_)|(refine zY.lent (c2) rfl ?_)|(refine zY.own (c2) ?_)|(refine zZ.pure (c3) rfl ?_)|(refine zZ.lent (c3) rfl ?_)|(refine zT.pure (c3) rfl ?_)|(refine zT.lent (c3) rfl ?_)|(refine zZ.own (c3) ?_)|(refine zY.pure (c3) rfl ?_)|(refine zY.lent (c3) rfl ?_)|(refine zY.own (c3) ?_)|(refine zZ.pure (c4) rfl ?_)|(refine zZ.lent (c4) rfl ?_)|(refine zT.pure (c4) rfl ?_)|(refine zT.lent (c4) rfl ?_)|(refine zZ.own (c4) ?_)|(refine zY.pure (c4) rfl ?_)|(refine zY.lent (c4) rfl ?_)|(refine zY.own (c4) ?_)|(refine zZ.pure (c5) rfl ?_)|(refine zZ.lent (c5) rfl ?_)|(refine zT.pure (c5) rfl ?_)|(refine zT.lent (c5) rfl ?_)|(refine zZ.own (c5) ?_)|(refine zY.pure (c5) rfl ?_)|(refine zY.lent (c5) rfl ?_)|(refine zY.own (c5) ?_)
    all_goals apply hr
    all_goals simp [Try.f8]
 ·have hv : yV w.k x y false true eq = 1 := by unfold yV; simp
  rw [hv]
  refine zG Try.tab Try.mixed Try.func8 rfl rfl Try.ntmps8 (by simp) (by simp) fun Q hr hn=>?_
  repeat' first|(refine hK _ ?_;clear hK)|(refine hK _ _ ?_;clear hK)|(clear hK;refine hK _ ?_;clear hK)|(clear hK;clear hK;refine hK _ ?_;clear hK)|(clear hK;clear hK;clear hK;refine hK _ ?_;clear hK)|(clear hK;clear hK;clear hK;clear hK;refine hK _ ?_;clear hK)|(refine zJ fun K hK=>?_)|((first | refine zH ?_ | refine zN rfl (by kernel_rfl) ?_ | refine zM ?_ | refine zK (by kernel_rfl) ?_);simp only [wJ,wI,strip])|((first | refine wIs fun K hK=>?_ | refine wOs fun K hK=>?_ | refine wQs fun K hK=>?_ | refine zU ?_ | refine zV ?_ | refine zW ?_ | refine zL ?_);simp)|(refine wIn ?_;refine And.intro (by kernel_rfl) ?_;try simp only [zX])|(first | refine zQ ?_ | refine zS ?_)|((first | refine zI ?_ | refine zO ?_ | refine zP ?_);try simp)|((first | refine zR ?_ | refine wOn ?_ | refine wQn ?_);try simp only [zX])|(refine zZ.pure (c1) rfl ?_)|(refine zZ.lent (c1) rfl ?_)|(refine zT.pure (c1) rfl ?_)|(refine zT.lent (c1) rfl ?_)|(refine zZ.own (c1) ?_)|(refine zY.pure (c1) rfl ?_)|(refine zY.lent (c1) rfl ?_)|(refine zY.own (c1) ?_)|(refine zZ.pure (c2) rfl ?_)|(refine zZ.lent (c2) rfl ?_)|(refine zT.pure (c2) rfl ?_)|(refine zT.lent (c2) rfl ?_)|(refine zZ.own (c2) ?_)|(refine zY.pure (c2) rfl ?_)|(refine zY.lent (c2) rfl ?_)|(refine zY.own (c2) ?_)|(refine zZ.pure (c3) rfl ?_)|(refine zZ.lent (c3) rfl ?_)|(refine zT.pure (c3) rfl ?_)|(refine zT.lent (c3) rfl ?_)|(refine zZ.own (c3) ?_)|(refine zY.pure (c3) rfl ?_)|(refine zY.lent (c3) rfl ?_)|(refine zY.own (c3) ?_)|(refine zZ.pure (c4) rfl ?_)|(refine zZ.lent (c4) rfl ?_)|(refine zT.pure (c4) rfl ?_)|(refine zT.lent (c4) rfl ?_)|(refine zZ.own (c4) ?_)|(refine zY.pure (c4) rfl ?_)|(refine zY.lent (c4) rfl ?_)|(refine zY.own (c4) ?_)|(refine zZ.pure (c5) rfl ?_)|(refine zZ.lent (c5) rfl ?_)|(refine zT.pure (c5) rfl ?_)|(refine zT.lent (c5) rfl ?_)|(refine zZ.own (c5) ?_)|(refine zY.pure (c5) rfl ?_)|(refine zY.lent (c5) rfl ?_)|(refine zY.own (c5) ?_)
  all_goals apply hr
  all_goals simp [Try.f8]
 ·have hv : yV w.k x y true false eq = 3 := by unfold yV; simp
  rw [hv]
  refine zG Try.tab Try.mixed Try.func8 rfl rfl Try.ntmps8 (by simp) (by simp) fun Q hr hn=>?_
  repeat' first|(refine hK _ ?_;clear hK)|(refine hK _ _ ?_;clear hK)|(clear hK;refine hK _ ?_;clear hK)|(clear hK;clear hK;refine hK _ ?_;clear hK)|(clear hK;clear hK;clear hK;refine hK _ ?_;clear hK)|(clear hK;clear hK;clear hK;clear hK;refine hK _ ?_;clear hK)|(refine zJ fun K hK=>?_)|((first | refine zH ?_ | refine zN rfl (by kernel_rfl) ?_ | refine zM ?_ | refine zK (by kernel_rfl) ?_);simp only [wJ,wI,strip])|((first | refine wIs fun K hK=>?_ | refine wOs fun K hK=>?_ | refine wQs fun K hK=>?_ | refine zU ?_ | refine zV ?_ | refine zW ?_ | refine zL ?_);simp)|(refine wIn ?_;refine And.intro (by kernel_rfl) ?_;try simp only [zX])|(first | refine zQ ?_ | refine zS ?_)|((first | refine zI ?_ | refine zO ?_ | refine zP ?_);try simp)|((first | refine zR ?_ | refine wOn ?_ | refine wQn ?_);try simp only [zX])|(refine zZ.pure (c1) rfl ?_)|(refine zZ.lent (c1) rfl ?_)|(refine zT.pure (c1) rfl ?_)|(refine zT.lent (c1) rfl ?_)|(refine zZ.own (c1) ?_)|(refine zY.pure (c1) rfl ?_)|(refine zY.lent (c1) rfl ?_)|(refine zY.own (c1) ?_)|(refine zZ.pure (c2) rfl ?_)|(refine zZ.lent (c2) rfl ?_)|(refine zT.pure (c2) rfl ?_)|(refine zT.lent (c2) rfl ?_)|(refine zZ.own (c2) ?_)|(refine zY.pure (c2) rfl ?_)|(refine zY.lent (c2) rfl ?_)|(refine zY.own (c2) ?_)|(refine zZ.pure (c3) rfl ?_)|(refine zZ.lent (c3) rfl ?_)|(refine zT.pure (c3) rfl ?_)|(refine zT.lent (c3) rfl ?_)|(refine zZ.own (c3) ?_)|(refine zY.pure (c3) rfl ?_)|(refine zY.lent (c3) rfl ?_)|(refine zY.own (c3) ?_)|(refine zZ.pure (c4) rfl ?_)|(refine zZ.lent (c4) rfl ?_)|(refine zT.pure (c4) rfl ?_)|(refine zT.lent (c4) rfl ?_)|(refine zZ.own (c4) ?_)|(refine zY.pure (c4) rfl ?_)|(refine zY.lent (c4) rfl ?_)|(refine zY.own (c4) ?_)|(refine zZ.pure (c5) rfl ?_)|(refine zZ.lent (c5) rfl ?_)|(refine zT.pure (c5) rfl ?_)|(refine zT.lent (c5) rfl ?_)|(refine zZ.own (c5) ?_)|(refine zY.pure (c5) rfl ?_)|(refine zY.lent (c5) rfl ?_)|(refine zY.own (c5) ?_)
  all_goals apply hr
  all_goals simp [Try.f8]
 ·by_cases k2 : w.k = 2
  ·by_cases q1 : x.k = y.k
   ·cases eq
    ·have hv : yV w.k x y true true false = 4 := by unfold yV; simp [k2, q1]
     rw [hv]
     refine zG Try.tab Try.mixed Try.func8 rfl rfl Try.ntmps8 (by simp) (by simp) fun Q hr hn=>?_
     repeat' first|(refine hK _ ?_;clear hK)|(refine hK _ _ ?_;clear hK)|(clear hK;refine hK _ ?_;clear hK)|(clear hK;clear hK;refine hK _ ?_;clear hK)|(clear hK;clear hK;clear hK;refine hK _ ?_;clear hK)|(clear hK;clear hK;clear hK;clear hK;refine hK _ ?_;clear hK)|(refine zJ fun K hK=>?_)|((first | refine zH ?_ | refine zN rfl (by kernel_rfl) ?_ | refine zM ?_ | refine zK (by kernel_rfl) ?_);simp only [wJ,wI,strip])|((first | refine wIs fun K hK=>?_ | refine wOs fun K hK=>?_ | refine wQs fun K hK=>?_ | refine zU ?_ | refine zV ?_ | refine zW ?_ | refine zL ?_);simp [k2,q1])|(refine wIn ?_;refine And.intro (by kernel_rfl) ?_;try simp only [zX])|(first | refine zQ ?_ | refine zS ?_)|((first | refine zI ?_ | refine zO ?_ | refine zP ?_);try simp)|((first | refine zR ?_ | refine wOn ?_ | refine wQn ?_);try simp only [zX])|(refine zZ.pure (c1) rfl ?_)|(refine zZ.lent (c1) rfl ?_)|(refine zT.pure (c1) rfl ?_)|(refine zT.lent (c1) rfl ?_)|(refine zZ.own (c1) ?_)|(refine zY.pure (c1) rfl ?_)|(refine zY.lent (c1) rfl ?_)|(refine zY.own (c1) ?_)|(refine zZ.pure (c2) rfl ?_)|(refine zZ.lent (c2) rfl ?_)|(refine zT.pure (c2) rfl ?_)|(refine zT.lent (c2) rfl ?_)|(refine zZ.own (c2) ?_)|(refine zY.pure (c2) rfl ?_)|(refine zY.lent (c2) rfl ?_)|(refine zY.own (c2) ?_)|(refine zZ.pure (c3) rfl ?_)|(refine zZ.lent (c3) rfl ?_)|(refine zT.pure (c3) rfl ?_)|(refine zT.lent (c3) rfl ?_)|(refine zZ.own (c3) ?_)|(refine zY.pure (c3) rfl ?_)|(refine zY.lent (c3) rfl ?_)|(refine zY.own (c3) ?_)|(refine zZ.pure (c4) rfl ?_)|(refine zZ.lent (c4) rfl ?_)|(refine zT.pure (c4) rfl ?_)|(refine zT.lent (c4) rfl ?_)|(refine zZ.own (c4) ?_)|(refine zY.pure (c4) rfl ?_)|(refine zY.lent (c4) rfl ?_)|(refine zY.own (c4) ?_)|(refine zZ.pure (c5) rfl ?_)|(refine zZ.lent (c5) rfl ?_)|(refine zT.pure (c5) rfl ?_)|(refine zT.lent (c5) rfl ?_)|(refine zZ.own (c5) ?_)|(refine zY.pure (c5) rfl ?_)|(refine zY.lent (c5) rfl ?_)|(refine zY.own (c5) ?_)
     all_goals apply hr
     all_goals simp [Try.f8]
    ·have k1 : ¬ w.k = 1 := by omega
     have hv : yV w.k x y true true true = 0:=by unfold yV;simp [k2,k1,q1]
     rw [hv]
     refine zG Try.tab Try.mixed Try.func8 rfl rfl Try.ntmps8 (by simp) (by simp) fun Q hr hn=>?_
     repeat' first|(refine hK _ ?_;clear hK)|(refine hK _ _ ?_;clear hK)|(clear hK;refine hK _ ?_;clear hK)|(clear hK;clear hK;refine hK _ ?_;clear hK)|(clear hK;clear hK;clear hK;refine hK _ ?_;clear hK)|(clear hK;clear hK;clear hK;clear hK;refine hK _ ?_;clear hK)|(refine zJ fun K hK=>?_)|((first | refine zH ?_ | refine zN rfl (by kernel_rfl) ?_ | refine zM ?_ | refine zK (by kernel_rfl) ?_);simp only [wJ,wI,strip])|((first | refine wIs fun K hK=>?_ | refine wOs fun K hK=>?_ | refine wQs fun K hK=>?_ | refine zU ?_ | refine zV ?_ | refine zW ?_ | refine zL ?_);simp [k2,k1,q1])|(refine wIn ?_;refine And.intro (by kernel_rfl) ?_;try simp only [zX])|(first | refine zQ ?_ | refine zS ?_)|((first | refine zI ?_ | refine zO ?_ | refine zP ?_);try simp)|((first | refine zR ?_ | refine wOn ?_ | refine wQn ?_);try simp only [zX])|(refine zZ.pure (c1) rfl ?_)|(refine zZ.lent (c1) rfl ?_)|(refine zT.pure (c1) rfl ?_)|(refine zT.lent (c1) rfl ?_)|(refine zZ.own (c1) ?_)|(refine zY.pure (c1) rfl ?_)|(refine zY.lent (c1) rfl ?_)|(refine zY.own (c1) ?_)|(refine zZ.pure (c2) rfl ?_)|(refine zZ.lent (c2) rfl ?_)|(refine zT.pure (c2) rfl ?_)|(refine zT.lent (c2) rfl ?_)|(refine zZ.own (c2) ?_)|(refine zY.pure (c2) rfl ?_)|(refine zY.lent (c2) rfl ?_)|(refine zY.own (c2) ?_)|(refine zZ.pure (c3) rfl ?_)|(refine zZ.lent (c3) rfl ?_)|(refine zT.pure (c3) rfl ?_)|(refine zT.lent (c3) rfl ?_)|(refine zZ.own (c3) ?_)|(refine zY.pure (c3) rfl ?_)|(refine zY.lent (c3) rfl ?_)|(refine zY.own (c3) ?_)|(refine zZ.pure (c4) rfl ?_)|(refine zZ.lent (c4) rfl ?_)|(refine zT.pure (c4) rfl ?_)|(refine zT.lent (c4) rfl ?_)|(refine zZ.own (c4) ?_)|(refine zY.pure (c4) rfl ?_)|(refine zY.lent (c4) rfl ?_)|(refine zY.own (c4) ?_)|(refine zZ.pure (c5) rfl ?_)|(refine zZ.lent (c5) rfl ?_)|(refine zT.pure (c5) rfl ?_)|(refine zT.lent (c5) rfl ?_)|(refine zZ.own (c5) ?_)|(refine zY.pure (c5) rfl ?_)|(refine zY.lent (c5) rfl ?_)|(refine zY.own (c5) ?_)
     all_goals apply hr
     all_goals simp [Try.f8]
   ·have hv : yV w.k x y true true eq = 4 := by unfold yV; simp [k2, q1]
    rw [hv]
    refine zG Try.tab Try.mixed Try.func8 rfl rfl Try.ntmps8 (by simp) (by simp) fun Q hr hn=>?_
    repeat' first|(refine hK _ ?_;clear hK)|(refine hK _ _ ?_;clear hK)|(clear hK;refine hK _ ?_;clear hK)|(clear hK;clear hK;refine hK _ ?_;clear hK)|(clear hK;clear hK;clear hK;refine hK _ ?_;clear hK)|(clear hK;clear hK;clear hK;clear hK;refine hK _ ?_;clear hK)|(refine zJ fun K hK=>?_)|((first | refine zH ?_ | refine zN rfl (by kernel_rfl) ?_ | refine zM ?_ | refine zK (by kernel_rfl) ?_);simp only [wJ,wI,strip])|((first | refine wIs fun K hK=>?_ | refine wOs fun K hK=>?_ | refine wQs fun K hK=>?_ | refine zU ?_ | refine zV ?_ | refine zW ?_ | refine zL ?_);simp [k2,q1])|(refine wIn ?_;refine And.intro (by kernel_rfl) ?_;try simp only [zX])|(first | refine zQ ?_ | refine zS ?_)|((first | refine zI ?_ | refine zO ?_ | refine zP ?_);try simp)|((first | refine zR ?_ | refine wOn ?_ | refine wQn ?_);try simp only [zX])|(refine zZ.pure (c1) rfl ?_)|(refine zZ.lent (c1) rfl ?_)|(refine zT.pure (c1) rfl ?_)|(refine zT.lent (c1) rfl ?_)|(refine zZ.own (c1) ?_)|(refine zY.pure (c1) rfl ?_)|(refine zY.lent (c1) rfl ?_)|(refine zY.own (c1) ?_)|(refine zZ.pure (c2) rfl ?_)|(refine zZ.lent (c2) rfl ?_)|(refine zT.pure (c2) rfl ?_)|(refine zT.lent (c2) rfl ?_)|(refine zZ.own (c2) ?_)|(refine zY.pure (c2) rfl ?_)|(refine zY.lent (c2) rfl ?_)|(refine zY.own (c2) ?_)|(refine zZ.pure (c3) rfl ?_)|(refine zZ.lent (c3) rfl ?_)|(refine zT.pure (c3) rfl ?_)|(refine zT.lent (c3) rfl ?_)|(refine zZ.own (c3) ?_)|(refine zY.pure (c3) rfl ?_)|(refine zY.lent (c3) rfl ?_)|(refine zY.own (c3) ?_)|(refine zZ.pure (c4) rfl ?_)|(refine zZ.lent (c4) rfl ?_)|(refine zT.pure (c4) rfl ?_)|(refine zT.lent (c4) rfl ?_)|(refine zZ.own (c4) ?_)|(refine zY.pure (c4) rfl ?_)|(refine zY.lent (c4) rfl ?_)|(refine zY.own (c4) ?_)|(refine zZ.pure (c5) rfl ?_)|(refine zZ.lent (c5) rfl ?_)|(refine zT.pure (c5) rfl ?_)|(refine zT.lent (c5) rfl ?_)|(refine zZ.own (c5) ?_)|(refine zY.pure (c5) rfl ?_)|(refine zY.lent (c5) rfl ?_)|(refine zY.own (c5) ?_)
    all_goals apply hr
    all_goals simp [Try.f8]
  ·by_cases k1 : w.k = 1
   ·by_cases q2 : x.d = y.d
    ·by_cases q3 : x.v = y.v
     ·by_cases q4 : x.o = y.o
      ·have hv : yV w.k x y true true eq = 0 := by unfold yV; simp [k2, k1, q2, q3, q4]
       rw [hv]
       refine zG Try.tab Try.mixed Try.func8 rfl rfl Try.ntmps8 (by simp) (by simp) fun Q hr hn=>?_
       repeat' first|(refine hK _ ?_;clear hK)|(refine hK _ _ ?_;clear hK)|(clear hK;refine hK _ ?_;clear hK)|(clear hK;clear hK;refine hK _ ?_;clear hK)|(clear hK;clear hK;clear hK;refine hK _ ?_;clear hK)|(clear hK;clear hK;clear hK;clear hK;refine hK _ ?_;clear hK)|(refine zJ fun K hK=>?_)|((first | refine zH ?_ | refine zN rfl (by kernel_rfl) ?_ | refine zM ?_ | refine zK (by kernel_rfl) ?_);simp only [wJ,wI,strip])|((first | refine wIs fun K hK=>?_ | refine wOs fun K hK=>?_ | refine wQs fun K hK=>?_ | refine zU ?_ | refine zV ?_ | refine zW ?_ | refine zL ?_);simp [k2,k1,q2,q3,q4])|(refine wIn ?_;refine And.intro (by kernel_rfl) ?_;try simp only [zX])|(first | refine zQ ?_ | refine zS ?_)|((first | refine zI ?_ | refine zO ?_ | refine zP ?_);try simp)|((first | refine zR ?_ | refine wOn ?_ | refine wQn ?_);try simp only [zX])|(refine zZ.pure (c1) rfl ?_)|(refine zZ.lent (c1) rfl ?_)|(refine zT.pure (c1) rfl ?_)|(refine zT.lent (c1) rfl ?_)|(refine zZ.own (c1) ?_)|(refine zY.pure (c1) rfl ?_)|(refine zY.lent (c1) rfl ?_)|(refine zY.own (c1) ?_)|(refine zZ.pure (c2) rfl ?_)|(refine zZ.lent (c2) rfl ?_)|(refine zT.pure (c2) rfl ?_)|(refine zT.lent (c2) rfl ?_)|(refine zZ.own (c2) ?_)|(refine zY.pure (c2) rfl ?_)|(refine zY.lent (c2) rfl ?_)|(refine zY.own (c2) ?_)|(refine zZ.pure (c3) rfl ?_)|(refine zZ.lent (c3) rfl ?_)|(refine zT.pure (c3) rfl ?_)|(refine zT.lent (c3) rfl ?_)|(refine zZ.own (c3) ?_)|(refine zY.pure (c3) rfl ?_)|(refine zY.lent (c3) rfl ?_)|(refine zY.own (c3) ?_)|(refine zZ.pure (c4) rfl ?_)|(refine zZ.lent (c4) rfl ?_)|(refine zT.pure (c4) rfl ?_)|(refine zT.lent (c4) rfl ?_)|(refine zZ.own (c4) ?_)|(refine zY.pure (c4) rfl ?_)|(refine zY.lent (c4) rfl ?_)|(refine zY.own (c4) ?_)|(refine zZ.pure (c5) rfl ?_)|(refine zZ.lent (c5) rfl ?_)|(refine zT.pure (c5) rfl ?_)|(refine zT.lent (c5) rfl ?_)|(refine zZ.own (c5) ?_)|(refine zY.pure (c5) rfl ?_)|(refine zY.lent (c5) rfl ?_)|(refine zY.own (c5) ?_)
       all_goals apply hr
       all_goals simp [Try.f8]
      ·have hv : yV w.k x y true true eq = 2 := by unfold yV; simp [k2, k1, q2, q3, q4]
       rw [hv]
       refine zG Try.tab Try.mixed Try.func8 rfl rfl Try.ntmps8 (by simp) (by simp) fun Q hr hn=>?_
       repeat' first|(refine hK _ ?_;clear hK)|(refine hK _ _ ?_;clear hK)|(clear hK;refine hK _ ?_;clear hK)|(clear hK;clear hK;refine hK _ ?_;clear hK)|(clear hK;clear hK;clear hK;refine hK _ ?_;clear hK)|(clear hK;clear hK;clear hK;clear hK;refine hK _ ?_;clear hK)|(refine zJ fun K hK=>?_)|((first | refine zH ?_ | refine zN rfl (by kernel_rfl) ?_ | refine zM ?_ | refine zK (by kernel_rfl) ?_);simp only [wJ,wI,strip])|((first | refine wIs fun K hK=>?_ | refine wOs fun K hK=>?_ | refine wQs fun K hK=>?_ | refine zU ?_ | refine zV ?_ | refine zW ?_ | refine zL ?_);simp [k2,k1,q2,q3,q4])|(refine wIn ?_;refine And.intro (by kernel_rfl) ?_;try simp only [zX])|(first | refine zQ ?_ | refine zS ?_)|((first | refine zI ?_ | refine zO ?_ | refine zP ?_);try simp)|((first | refine zR ?_ | refine wOn ?_ | refine wQn ?_);try simp only [zX])|(refine zZ.pure (c1) rfl ?_)|(refine zZ.lent (c1) rfl ?_)|(refine zT.pure (c1) rfl ?_)|(refine zT.lent (c1) rfl ?_)|(refine zZ.own (c1) ?_)|(refine zY.pure (c1) rfl ?_)|(refine zY.lent (c1) rfl ?_)|(refine zY.own (c1) ?_)|(refine zZ.pure (c2) rfl ?_)|(refine zZ.lent (c2) rfl ?_)|(refine zT.pure (c2) rfl ?_)|(refine zT.lent (c2) rfl ?_)|(refine zZ.own (c2) ?_)|(refine zY.pure (c2) rfl ?_)|(refine zY.lent (c2) rfl ?_)|(refine zY.own (c2) ?_)|(refine zZ.pure (c3) rfl ?_)|(refine zZ.lent (c3) rfl ?_)|(refine zT.pure (c3) rfl ?_)|(refine zT.lent (c3) rfl ?_)|(refine zZ.own (c3) ?_)|(refine zY.pure (c3) rfl ?_)|(refine zY.lent (c3) rfl ?_)|(refine zY.own (c3) ?_)|(refine zZ.pure (c4) rfl ?_)|(refine zZ.lent (c4) rfl ?_)|(refine zT.pure (c4) rfl ?_)|(refine zT.lent (c4) rfl ?_)|(refine zZ.own (c4) ?_)|(refine zY.pure (c4) rfl ?_)|(refine zY.lent (c4) rfl ?_)|(refine zY.own (c4) ?_)|(refine zZ.pure (c5) rfl ?_)|(refine zZ.lent (c5) rfl ?_)|(refine zT.pure (c5) rfl ?_)|(refine zT.lent (c5) rfl ?_)|(refine zZ.own (c5) ?_)|(refine zY.pure (c5) rfl ?_)|(refine zY.lent (c5) rfl ?_)|(refine zY.own (c5) ?_)
       all_goals apply hr
       all_goals simp [Try.f8]
     ·have hv : yV w.k x y true true eq = 2 := by unfold yV; simp [k2, k1, q2, q3]
      rw [hv]
      refine zG Try.tab Try.mixed Try.func8 rfl rfl Try.ntmps8 (by simp) (by simp) fun Q hr hn=>?_
      repeat' first|(refine hK _ ?_;clear hK)|(refine hK _ _ ?_;clear hK)|(clear hK;refine hK _ ?_;clear hK)|(clear hK;clear hK;refine hK _ ?_;clear hK)|(clear hK;clear hK;clear hK;refine hK _ ?_;clear hK)|(clear hK;clear hK;clear hK;clear hK;refine hK _ ?_;clear hK)|(refine zJ fun K hK=>?_)|((first | refine zH ?_ | refine zN rfl (by kernel_rfl) ?_ | refine zM ?_ | refine zK (by kernel_rfl) ?_);simp only [wJ,wI,strip])|((first | refine wIs fun K hK=>?_ | refine wOs fun K hK=>?_ | refine wQs fun K hK=>?_ | refine zU ?_ | refine zV ?_ | refine zW ?_ | refine zL ?_);simp [k2,k1,q2,q3])|(refine wIn ?_;refine And.intro (by kernel_rfl) ?_;try simp only [zX])|(first | refine zQ ?_ | refine zS ?_)|((first | refine zI ?_ | refine zO ?_ | refine zP ?_);try simp)|((first | refine zR ?_ | refine wOn ?_ | refine wQn ?_);try simp only [zX])|(refine zZ.pure (c1) rfl ?_)|(refine zZ.lent (c1) rfl ?_)|(refine zT.pure (c1) rfl ?_)|(refine zT.lent (c1) rfl ?_)|(refine zZ.own (c1) ?_)|(refine zY.pure (c1) rfl ?_)|(refine zY.lent (c1) rfl ?_)|(refine zY.own (c1) ?_)|(refine zZ.pure (c2) rfl ?_)|(refine zZ.lent (c2) rfl ?_)|(refine zT.pure (c2) rfl ?_)|(refine zT.lent (c2) rfl ?_)|(refine zZ.own (c2) ?_)|(refine zY.pure (c2) rfl ?_)|(refine zY.lent (c2) rfl ?_)|(refine zY.own (c2) ?_)|(refine zZ.pure (c3) rfl ?_)|(refine zZ.lent (c3) rfl ?_)|(refine zT.pure (c3) rfl ?_)|(refine zT.lent (c3) rfl ?_)|(refine zZ.own (c3) ?_)|(refine zY.pure (c3) rfl ?_)|(refine zY.lent (c3) rfl ?_)|(refine zY.own (c3) ?_)|(refine zZ.pure (c4) rfl ?_)|(refine zZ.lent (c4) rfl ?_)|(refine zT.pure (c4) rfl ?_)|(refine zT.lent (c4) rfl ?_)|(refine zZ.own (c4) ?_)|(refine zY.pure (c4) rfl ?_)|(refine zY.lent (c4) rfl ?_)|(refine zY.own (c4) ?_)|(refine zZ.pure (c5) rfl ?_)|(refine zZ.lent (c5) rfl ?_)|(refine zT.pure (c5) rfl ?_)|(refine zT.lent (c5) rfl ?_)|(refine zZ.own (c5) ?_)|(refine zY.pure (c5) rfl ?_)|(refine zY.lent (c5) rfl ?_)|(refine zY.own (c5) ?_)
      all_goals apply hr
      all_goals simp [Try.f8]
    ·have hv : yV w.k x y true true eq = 2 := by unfold yV; simp [k2, k1, q2]
     rw [hv]
     refine zG Try.tab Try.mixed Try.func8 rfl rfl Try.ntmps8 (by simp) (by simp) fun Q hr hn=>?_
     repeat' first|(refine hK _ ?_;clear hK)|(refine hK _ _ ?_;clear hK)|(clear hK;refine hK _ ?_;clear hK)|(clear hK;clear hK;refine hK _ ?_;clear hK)|(clear hK;clear hK;clear hK;refine hK _ ?_;clear hK)|(clear hK;clear hK;clear hK;clear hK;refine hK _ ?_;clear hK)|(refine zJ fun K hK=>?_)|((first | refine zH ?_ | refine zN rfl (by kernel_rfl) ?_ | refine zM ?_ | refine zK (by kernel_rfl) ?_);simp only [wJ,wI,strip])|((first | refine wIs fun K hK=>?_ | refine wOs fun K hK=>?_ | refine wQs fun K hK=>?_ | refine zU ?_ | refine zV ?_ | refine zW ?_ | refine zL ?_);simp [k2,k1,q2])|(refine wIn ?_;refine And.intro (by kernel_rfl) ?_;try simp only [zX])|(first | refine zQ ?_ | refine zS ?_)|((first | refine zI ?_ | refine zO ?_ | refine zP ?_);try simp)|((first | refine zR ?_ | refine wOn ?_ | refine wQn ?_);try simp only [zX])|(refine zZ.pure (c1) rfl ?_)|(refine zZ.lent (c1) rfl ?_)|(refine zT.pure (c1) rfl ?_)|(refine zT.lent (c1) rfl ?_)|(refine zZ.own (c1) ?_)|(refine zY.pure (c1) rfl ?_)|(refine zY.lent (c1) rfl ?_)|(refine zY.own (c1) ?_)|(refine zZ.pure (c2) rfl ?_)|(refine zZ.lent (c2) rfl ?_)|(refine zT.pure (c2) rfl ?_)|(refine zT.lent (c2) rfl ?_)|(refine zZ.own (c2) ?_)|(refine zY.pure (c2) rfl ?_)|(refine zY.lent (c2) rfl ?_)|(refine zY.own (c2) ?_)|(refine zZ.pure (c3) rfl ?_)|(refine zZ.lent (c3) rfl ?_)|(refine zT.pure (c3) rfl ?_)|(refine zT.lent (c3) rfl ?_)|(refine zZ.own (c3) ?_)|(refine zY.pure (c3) rfl ?_)|(refine zY.lent (c3) rfl ?_)|(refine zY.own (c3) ?_)|(refine zZ.pure (c4) rfl ?_)|(refine zZ.lent (c4) rfl ?_)|(refine zT.pure (c4) rfl ?_)|(refine zT.lent (c4) rfl ?_)|(refine zZ.own (c4) ?_)|(refine zY.pure (c4) rfl ?_)|(refine zY.lent (c4) rfl ?_)|(refine zY.own (c4) ?_)|(refine zZ.pure (c5) rfl ?_)|(refine zZ.lent (c5) rfl ?_)|(refine zT.pure (c5) rfl ?_)|(refine zT.lent (c5) rfl ?_)|(refine zZ.own (c5) ?_)|(refine zY.pure (c5) rfl ?_)|(refine zY.lent (c5) rfl ?_)|(refine zY.own (c5) ?_)
     all_goals apply hr
     all_goals simp [Try.f8]
   ·have hv : yV w.k x y true true eq = 0 := by unfold yV; simp [k2, k1]
    rw [hv]
    refine zG Try.tab Try.mixed Try.func8 rfl rfl Try.ntmps8 (by simp) (by simp) fun Q hr hn=>?_
    repeat' first|(refine hK _ ?_;clear hK)|(refine hK _ _ ?_;clear hK)|(clear hK;refine hK _ ?_;clear hK)|(clear hK;clear hK;refine hK _ ?_;clear hK)|(clear hK;clear hK;clear hK;refine hK _ ?_;clear hK)|(clear hK;clear hK;clear hK;clear hK;refine hK _ ?_;clear hK)|(refine zJ fun K hK=>?_)|((first | refine zH ?_ | refine zN rfl (by kernel_rfl) ?_ | refine zM ?_ | refine zK (by kernel_rfl) ?_);simp only [wJ,wI,strip])|((first | refine wIs fun K hK=>?_ | refine wOs fun K hK=>?_ | refine wQs fun K hK=>?_ | refine zU ?_ | refine zV ?_ | refine zW ?_ | refine zL ?_);simp [k2,k1])|(refine wIn ?_;refine And.intro (by kernel_rfl) ?_;try simp only [zX])|(first | refine zQ ?_ | refine zS ?_)|((first | refine zI ?_ | refine zO ?_ | refine zP ?_);try simp)|((first | refine zR ?_ | refine wOn ?_ | refine wQn ?_);try simp only [zX])|(refine zZ.pure (c1) rfl ?_)|(refine zZ.lent (c1) rfl ?_)|(refine zT.pure (c1) rfl ?_)|(refine zT.lent (c1) rfl ?_)|(refine zZ.own (c1) ?_)|(refine zY.pure (c1) rfl ?_)|(refine zY.lent (c1) rfl ?_)|(refine zY.own (c1) ?_)|(refine zZ.pure (c2) rfl ?_)|(refine zZ.lent (c2) rfl ?_)|(refine zT.pure (c2) rfl ?_)|(refine zT.lent (c2) rfl ?_)|(refine zZ.own (c2) ?_)|(refine zY.pure (c2) rfl ?_)|(refine zY.lent (c2) rfl ?_)|(refine zY.own (c2) ?_)|(refine zZ.pure (c3) rfl ?_)|(refine zZ.lent (c3) rfl ?_)|(refine zT.pure (c3) rfl ?_)|(refine zT.lent (c3) rfl ?_)|(refine zZ.own (c3) ?_)|(refine zY.pure (c3) rfl ?_)|(refine zY.lent (c3) rfl ?_)|(refine zY.own (c3) ?_)|(refine zZ.pure (c4) rfl ?_)|(refine zZ.lent (c4) rfl ?_)|(refine zT.pure (c4) rfl ?_)|(refine zT.lent (c4) rfl ?_)|(refine zZ.own (c4) ?_)|(refine zY.pure (c4) rfl ?_)|(refine zY.lent (c4) rfl ?_)|(refine zY.own (c4) ?_)|(refine zZ.pure (c5) rfl ?_)|(refine zZ.lent (c5) rfl ?_)|(refine zT.pure (c5) rfl ?_)|(refine zT.lent (c5) rfl ?_)|(refine zZ.own (c5) ?_)|(refine zY.pure (c5) rfl ?_)|(refine zY.lent (c5) rfl ?_)|(refine zY.own (c5) ?_)
    all_goals apply hr
    all_goals simp [Try.f8]
def wts (l : List Wt) : List (List PV) := l.map Wt.c
@[simp] theorem wts_len (l : List Wt) : (wts l).length = l.length := by simp [wts]
@[simp] theorem wts_getElem (l : List Wt) (k : Nat) (h : k < (wts l).length) : (wts l)[k] = [I (l[k]'(by simpa using h)).s, I (l[k]'(by simpa using h)).k, SB (l[k]'(by simpa using h)).p] := by simp [wts, Wt.c]
theorem wts_get {l : List Wt} {k : Nat} (h : k < l.length) : (wts l)[k]? = some [I l[k].s, I l[k].k, SB l[k].p] := by simp [wts, h, Wt.c]
theorem wts_snoc (l : List Wt) (w : Wt) : wts l ++ [[I w.s, I w.k, SB w.p]] = wts (l ++ [w]) := by simp [wts, Wt.c]
structure Nt where
 (s k : Int)
 (p : List UInt8)
 (r e n : Int)
def Nt.c (x : Nt) : List PV := [I x.s, I x.k, SB x.p, I x.r, I x.e, I x.n]
def nts (l : List Nt) : List (List PV) := l.map Nt.c
@[simp] theorem nts_len (l : List Nt) : (nts l).length = l.length := by simp [nts]
@[simp] theorem nts_getElem (l : List Nt) (k : Nat) (h : k < (nts l).length) : (nts l)[k] = [I (l[k]'(by simpa using h)).s, I (l[k]'(by simpa using h)).k, SB (l[k]'(by simpa using h)).p, I (l[k]'(by simpa using h)).r, I (l[k]'(by simpa using h)).e, I (l[k]'(by simpa using h)).n] := by simp [nts, Nt.c]
theorem nts_snoc (l : List Nt) (x : Nt) : nts l ++ [[I x.s, I x.k, SB x.p, I x.r, I x.e, I x.n]] = nts (l ++ [x]) := by simp [nts, Nt.c]
def note (a b : Ws) (w : Wt) : Nt := ⟨w.s, w.k, w.p, told w a b, b.ae, b.an⟩
def stay (a b : Ws) (l : List Wt) : List Wt := l.filter fun w => decide (told w a b = 0)
def wS (a b : Ws) (l : List Wt) : List Nt := (l.filter fun w => !decide (told w a b = 0)).map (note a b)
theorem stay_snoc (a b : Ws) {l : List Wt} {k : Nat} (h : k < l.length) : stay a b (l.take (k + 1)) = if told l[k] a b = 0 then stay a b (l.take k) ++ [l[k]] else stay a b (l.take k) := by
 rw [List.take_succ_eq_append_getElem h,stay,List.filter_append]
 by_cases g : told l[k] a b = 0 <;> simp [g,stay]
theorem tolds_snoc (a b : Ws) {l : List Wt} {k : Nat} (h : k < l.length) : wS a b (l.take (k + 1)) = if told l[k] a b = 0 then wS a b (l.take k) else wS a b (l.take k) ++ [note a b l[k]] := by
 rw [List.take_succ_eq_append_getElem h,wS,List.filter_append]
 by_cases g : told l[k] a b = 0 <;> simp [g,wS]
theorem stay_len (a b : Ws) (l : List Wt) (k : Nat) : (stay a b (l.take k)).length <= k := Nat.le_trans (List.length_filter_le _ _) (by simp; omega)
theorem tolds_len (a b : Ws) (l : List Wt) (k : Nat) : (wS a b (l.take k)).length <= k := by
 unfold wS
 rw [List.length_map]
 exact Nat.le_trans (List.length_filter_le _ _) (by simp;omega)
structure Fit (a : Ws) : Prop where
 len : a.l.length <= 1000000
 long : ∀ z ∈ a.l,long z
def xV (a : Ws) : Blk := .box 30 [.p (.sl 5 (zns a.l)), .p (.sl 1 a.ss), .p (I a.nx), .p (I a.e), .p (I a.n), .p (I a.k), .p (.sl 4 a.ms), .p (I a.ae), .p (I a.an)]
def nbx (v : V) : Blk := .box 61 [v]
theorem fire0_con (w : Wt) (a b : Ws) (ha : Fit a) (hb : Fit b) (h : told w a b = 0) : Con Try.prog 40 [.p (.agg w.c), .ptr 1024 0, .ptr 1025 0, .ptr 1026 0] [xV a, xV b, nbx (.nil 6)] (.ret (.p (B true)) [] [xV a, xV b, nbx (.nil 6)]) := by
 have c:=told_con w a b ha.len hb.len ha.long hb.long
 rw [h] at c
 unfold xV nbx Wt.c
 unfold Wt.c Ws.c at c
 generalize zns a.l = L1 at c ⊢
 generalize zns b.l = L2 at c ⊢
 refine wBodyG Try.tab Try.mixed Try.func40 rfl rfl Try.ntmps40 (by simp) (by simp) fun Q hr hn hp=>?_
 repeat' first|(refine hK _ ?_;clear hK)|(refine hK _ _ ?_;clear hK)|(clear hK;refine hK _ ?_;clear hK)|(clear hK;clear hK;refine hK _ ?_;clear hK)|(clear hK;clear hK;clear hK;refine hK _ ?_;clear hK)|(clear hK;clear hK;clear hK;clear hK;refine hK _ ?_;clear hK)|(refine zJ fun K hK=>?_)|((first | refine zH ?_ | refine zN rfl (by kernel_rfl) ?_ | refine zM ?_ | refine zK (by kernel_rfl) ?_);simp only [wJ,wI,strip])|((first | refine wIs fun K hK=>?_ | refine wOs fun K hK=>?_ | refine wQs fun K hK=>?_ | refine zU ?_ | refine zV ?_ | refine zW ?_ | refine zL ?_);simp)|(refine wIn ?_;refine And.intro (by kernel_rfl) ?_;try simp only [zX])|(first | refine zQ ?_ | refine zS ?_)|((first | refine zI ?_ | refine zO ?_ | refine zP ?_);try simp)|((first | refine zR ?_ | refine wOn ?_ | refine wQn ?_);try simp only [zX])|(refine zZ.pure (c) rfl ?_)|(refine zZ.lent (c) rfl ?_)|(refine zT.pure (c) rfl ?_)|(refine zT.lent (c) rfl ?_)|(refine zZ.own (c) ?_)|(refine zY.pure (c) rfl ?_)|(refine zY.lent (c) rfl ?_)|(refine zY.own (c) ?_)
 all_goals apply hr
 all_goals refine ⟨[],by simp,by simp,?_⟩
 all_goals simp [Try.f40,outR,outB,yX,gaN]
theorem fire1_con (w : Wt) (a b : Ws) (N : List Nt) (ha : Fit a) (hb : Fit b) (h : told w a b = 0) : Con Try.prog 40 [.p (.agg w.c), .ptr 1024 0, .ptr 1025 0, .ptr 1026 0] [xV a, xV b, nbx (.row 1027), .row 65 6 (nts N)] (.ret (.p (B true)) [] [xV a, xV b, nbx (.row 1027), .row 65 6 (nts N)]) := by
 have c:=told_con w a b ha.len hb.len ha.long hb.long
 rw [h] at c
 unfold xV nbx Wt.c
 unfold Wt.c Ws.c at c
 generalize zns a.l = L1 at c ⊢
 generalize zns b.l = L2 at c ⊢
 refine wBodyG Try.tab Try.mixed Try.func40 rfl rfl Try.ntmps40 (by simp) (by simp) fun Q hr hn hp=>?_
 repeat' first|(refine hK _ ?_;clear hK)|(refine hK _ _ ?_;clear hK)|(clear hK;refine hK _ ?_;clear hK)|(clear hK;clear hK;refine hK _ ?_;clear hK)|(clear hK;clear hK;clear hK;refine hK _ ?_;clear hK)|(clear hK;clear hK;clear hK;clear hK;refine hK _ ?_;clear hK)|(refine zJ fun K hK=>?_)|((first | refine zH ?_ | refine zN rfl (by kernel_rfl) ?_ | refine zM ?_ | refine zK (by kernel_rfl) ?_);simp only [wJ,wI,strip])|((first | refine wIs fun K hK=>?_ | refine wOs fun K hK=>?_ | refine wQs fun K hK=>?_ | refine zU ?_ | refine zV ?_ | refine zW ?_ | refine zL ?_);simp)|(refine wIn ?_;refine And.intro (by kernel_rfl) ?_;try simp only [zX])|(first | refine zQ ?_ | refine zS ?_)|((first | refine zI ?_ | refine zO ?_ | refine zP ?_);try simp)|((first | refine zR ?_ | refine wOn ?_ | refine wQn ?_);try simp only [zX])|(refine zZ.pure (c) rfl ?_)|(refine zZ.lent (c) rfl ?_)|(refine zT.pure (c) rfl ?_)|(refine zT.lent (c) rfl ?_)|(refine zZ.own (c) ?_)|(refine zY.pure (c) rfl ?_)|(refine zY.lent (c) rfl ?_)|(refine zY.own (c) ?_)
 all_goals apply hr
 all_goals refine ⟨[],by simp,by simp,?_⟩
 all_goals simp [Try.f40,outR,outB,yX,gaN]
theorem fire2_con (w : Wt) (a b : Ws) (ha : Fit a) (hb : Fit b) (h : ¬ told w a b = 0) : Con Try.prog 40 [.p (.agg w.c), .ptr 1024 0, .ptr 1025 0, .ptr 1026 0] [xV a, xV b, nbx (.nil 6)] (.ret (.p (B false)) [.row 65 6 (nts [note a b w])] [xV a, xV b, nbx (.row 2048)]) := by
 have c:=told_con w a b ha.len hb.len ha.long hb.long
 rw [show nts [note a b w] = [[I w.s,I w.k,SB w.p,I (told w a b),I b.ae,I b.an]] from rfl]
 generalize told w a b = r at c h ⊢
 unfold xV nbx Wt.c
 unfold Wt.c Ws.c at c
 generalize zns a.l = L1 at c ⊢
 generalize zns b.l = L2 at c ⊢
 refine wBodyG Try.tab Try.mixed Try.func40 rfl rfl Try.ntmps40 (by simp) (by simp) fun Q hr hn hp=>?_
 repeat' first|(refine hK _ ?_;clear hK)|(refine hK _ _ ?_;clear hK)|(clear hK;refine hK _ ?_;clear hK)|(clear hK;clear hK;refine hK _ ?_;clear hK)|(clear hK;clear hK;clear hK;refine hK _ ?_;clear hK)|(clear hK;clear hK;clear hK;clear hK;refine hK _ ?_;clear hK)|(refine zJ fun K hK=>?_)|((first | refine zH ?_ | refine zN rfl (by kernel_rfl) ?_ | refine zM ?_ | refine zK (by kernel_rfl) ?_);simp only [wJ,wI,strip])|((first | refine wIs fun K hK=>?_ | refine wOs fun K hK=>?_ | refine wQs fun K hK=>?_ | refine zU ?_ | refine zV ?_ | refine zW ?_ | refine zL ?_);simp [h])|(refine wIn ?_;refine And.intro (by kernel_rfl) ?_;try simp only [zX])|(first | refine zQ ?_ | refine zS ?_)|((first | refine zI ?_ | refine zO ?_ | refine zP ?_);try simp)|((first | refine zR ?_ | refine wOn ?_ | refine wQn ?_);try simp only [zX])|(refine zZ.pure (c) rfl ?_)|(refine zZ.lent (c) rfl ?_)|(refine zT.pure (c) rfl ?_)|(refine zT.lent (c) rfl ?_)|(refine zZ.own (c) ?_)|(refine zY.pure (c) rfl ?_)|(refine zY.lent (c) rfl ?_)|(refine zY.own (c) ?_)
 all_goals apply hr
 all_goals refine ⟨[25],by simp,by simp,?_⟩
 all_goals simp [Try.f40,outR,outB,yX,gaN]
theorem fire3_con (w : Wt) (a b : Ws) (N : List Nt) (ha : Fit a) (hb : Fit b) (hN : N.length <= 1000000) (h : ¬ told w a b = 0) : Con Try.prog 40 [.p (.agg w.c), .ptr 1024 0, .ptr 1025 0, .ptr 1026 0] [xV a, xV b, nbx (.row 1027), .row 65 6 (nts N)] (.ret (.p (B false)) [] [xV a, xV b, nbx (.row 1027), .row 65 6 (nts (N ++ [note a b w]))]) := by
 have c:=told_con w a b ha.len hb.len ha.long hb.long
 have hx:=nts_snoc N (note a b w)
 unfold note at hx ⊢
 dsimp only at hx
 have hl:=nts_len N
 rw [<- hx]
 generalize told w a b = r at c h ⊢
 unfold xV nbx Wt.c
 unfold Wt.c Ws.c at c
 generalize zns a.l = L1 at c ⊢
 generalize zns b.l = L2 at c ⊢
 refine wBodyG Try.tab Try.mixed Try.func40 rfl rfl Try.ntmps40 (by simp) (by simp) fun Q hr hn hp=>?_
 repeat' first|(refine And.intro (by (try simp);omega) ?_)|(refine hK _ ?_;clear hK)|(refine hK _ _ ?_;clear hK)|(clear hK;refine hK _ ?_;clear hK)|(clear hK;clear hK;refine hK _ ?_;clear hK)|(clear hK;clear hK;clear hK;refine hK _ ?_;clear hK)|(clear hK;clear hK;clear hK;clear hK;refine hK _ ?_;clear hK)|(refine zJ fun K hK=>?_)|((first | refine zH ?_ | refine zN rfl (by kernel_rfl) ?_ | refine zM ?_ | refine zK (by kernel_rfl) ?_);simp only [wJ,wI,strip])|((first | refine wIs fun K hK=>?_ | refine wOs fun K hK=>?_ | refine wQs fun K hK=>?_ | refine zU ?_ | refine zV ?_ | refine zW ?_ | refine zL ?_);simp [h])|(refine wIn ?_;refine And.intro (by kernel_rfl) ?_;try simp only [zX])|(first | refine zQ ?_ | refine zS ?_)|((first | refine zI ?_ | refine zO ?_ | refine zP ?_);try simp)|((first | refine zR ?_ | refine wOn ?_ | refine wQn ?_);try simp only [zX])|(refine zZ.pure (c) rfl ?_)|(refine zZ.lent (c) rfl ?_)|(refine zT.pure (c) rfl ?_)|(refine zT.lent (c) rfl ?_)|(refine zZ.own (c) ?_)|(refine zY.pure (c) rfl ?_)|(refine zY.lent (c) rfl ?_)|(refine zY.own (c) ?_)
 all_goals apply hr
 all_goals refine ⟨[],by simp,by simp,?_⟩
 all_goals simp [Try.f40,outR,outB,yX,gaN]
theorem wrapW (k n : Nat) (h : k < n) (hn : n <= 9223372036854775807) : IntKind.i64.wrap ((k : Int) + 1) = ((k + 1 : Nat) : Int) := by
 rw [yW] <;> omega
def sOut (a b : Ws) (l : List Wt) : Out := if wS a b l = [] then .ret (.row 2048) [.row 37 3 (wts (stay a b l))] [xV a, xV b, nbx (.nil 6)]
 else .ret (.row 2048) [.row 37 3 (wts (stay a b l)),.row 65 6 (nts (wS a b l))] [xV a,xV b,nbx (.row 2049)]
set_option maxHeartbeats 4000000 in
theorem sifted_con (l : List Wt) (a b : Ws) (ha : Fit a) (hb : Fit b) (hl : l.length <= 1000000) : Con Try.prog 39 [.p (.sl 3 (wts l)), .clo 40 [.box 1024, .box 1025, .box 1026]] [xV a, xV b, nbx (.nil 6)] (sOut a b l) := by
 refine wBodyG Try.tab Try.mixed Try.func39 rfl rfl Try.ntmps39 (by simp) (by simp) fun Q hr hn hp=>?_
 repeat' first|(refine hK _ ?_;clear hK)|(refine hK _ _ ?_;clear hK)|(clear hK;refine hK _ ?_;clear hK)|(clear hK;clear hK;refine hK _ ?_;clear hK)|(clear hK;clear hK;clear hK;refine hK _ ?_;clear hK)|(clear hK;clear hK;clear hK;clear hK;refine hK _ ?_;clear hK)|(refine zJ fun K hK=>?_)|((first | refine zH ?_ | refine zN rfl (by kernel_rfl) ?_ | refine zM ?_ | refine zK (by kernel_rfl) ?_);simp only [wJ,wI,strip])|((first | refine wIs fun K hK=>?_ | refine wOs fun K hK=>?_ | refine wQs fun K hK=>?_ | refine zU ?_ | refine zV ?_ | refine zW ?_ | refine zL ?_);simp)|(refine wIn ?_;refine And.intro (by kernel_rfl) ?_;try simp only [zX])|(first | refine zQ ?_ | refine zS ?_)|((first | refine zI ?_ | refine zO ?_ | refine zP ?_);try simp)|((first | refine zR ?_ | refine wOn ?_ | refine wQn ?_);try simp only [zX])
 refine wLoopG [.row 5 37 3] (fun N st => ∃ k, k + N = l.length /\ st.s 1 = .clo 40 [.box 1024, .box 1025, .box 1026] /\ st.s 8 = .p (.sl 3 (wts l)) /\ st.s 9 = .p (I l.length) /\ st.s 10 = .p (I k) /\ st.s 5 = .row 5 /\ st.b 5 = some (.row 37 3 (wts (stay a b (l.take k)))) /\ st.b 1024 = some (xV a) /\ st.b 1025 = some (xV b) ∧
  ((wS a b (l.take k) = [] /\ st.b 1026 = some (nbx (.nil 6))) \/ (¬ wS a b (l.take k) = [] /\ st.b 1026 = some (nbx (.row 500)) /\ st.b 500 = some (.row 65 6 (nts (wS a b (l.take k))))))) l.length ⟨0,by simp [stay,wS,wts,xV,nbx]⟩ fun K N st hL ⟨k,hk,g1,g8,g9,g10,g5,b5,e0,e1,hd⟩=>?_
 by_cases hlt : k < l.length
 ·have hw := wrapW k _ hlt (by omega)
  have he:=wts_get hlt
  have hs:=stay_snoc a b hlt
  have ht:=tolds_snoc a b hlt
  have hsl:=stay_len a b l k
  have htl:=tolds_len a b l k
  have hx:=wts_snoc (stay a b (l.take k)) l[k]
  generalize stay a b (l.take k) = S0 at hs b5 hsl hx
  generalize wS a b (l.take k) = T0 at ht htl hd
  unfold xV at e0 e1
  rcases hd with ⟨hT,e2⟩ | ⟨hT,e2,e3⟩
  ·unfold nbx at e2
   by_cases o : told l[k] a b = 0
   ·have c := fire0_con l[k] a b ha hb o
    unfold xV nbx Wt.c at c
    rw [if_pos o] at hs ht
    rw [<- hs] at hx
    repeat' first|(refine And.intro (by (try simp at hsl ⊢);omega) ?_)|(refine CallK_gen [1024,1025,1026] c (by decide) (by decide) (by simp [yO,inN,pos,yX,zB,e0,e1,e2]) (by simp [xN,argG,zB,inN,pos,yR,xD,toP,toPF] <;> rfl) ⟨[],by simp,by simp,?_⟩;simp [lv,ouN,kpI,kpR,pos,ren,zB,yX,xD,yR,g1,g8,g9,g10,g5,b5,e0,e1,e2])|(refine hK _ ?_;clear hK)|(refine hK _ _ ?_;clear hK)|(clear hK;refine hK _ ?_;clear hK)|(clear hK;clear hK;refine hK _ ?_;clear hK)|(clear hK;clear hK;clear hK;refine hK _ ?_;clear hK)|(clear hK;clear hK;clear hK;clear hK;refine hK _ ?_;clear hK)|(refine zJ fun K hK=>?_)|((first | refine zH ?_ | refine zN rfl (by kernel_rfl) ?_ | refine zM ?_ | refine zK (by kernel_rfl) ?_);simp only [wJ,wI,strip])|((first | refine wIs fun K hK=>?_ | refine wOs fun K hK=>?_ | refine wQs fun K hK=>?_ | refine zU ?_ | refine zV ?_ | refine zW ?_ | refine zL ?_);simp [lv,ouN,kpI,kpR,pos,ren,zB,yX,xD,yR,g1,g8,g9,g10,g5,b5,e0,e1,e2,hlt,hw,he])|(refine wIn ?_;refine And.intro (by kernel_rfl) ?_;try simp only [zX])|(first | refine zQ ?_ | refine zS ?_)|((first | refine zI ?_ | refine zO ?_ | refine zP ?_);try simp)|((first | refine zR ?_ | refine wOn ?_ | refine wQn ?_);try simp only [zX])
    refine hL _ (N - 1) (by omega) ⟨k + 1,by omega,?_⟩
    simp [lv,ouN,kpI,kpR,pos,ren,zB,yX,xD,yR,g1,g8,g9,g10,g5,b5,e0,e1,e2,hw,hx,ht,hT,xV,nbx]
   ·have c := fire2_con l[k] a b ha hb o
    unfold xV nbx Wt.c at c
    rw [if_neg o] at hs ht
    rw [hT,List.nil_append] at ht
    repeat' first|(refine CallK_gen [1024,1025,1026] c (by decide) (by decide) (by simp [yO,inN,pos,yX,zB,e0,e1,e2]) (by simp [xN,argG,zB,inN,pos,yR,xD,toP,toPF] <;> rfl) ⟨[500],by simp,by simp,?_⟩;simp [lv,ouN,kpI,kpR,pos,ren,zB,yX,xD,yR,g1,g8,g9,g10,g5,b5,e0,e1,e2])|(refine hK _ ?_;clear hK)|(refine hK _ _ ?_;clear hK)|(clear hK;refine hK _ ?_;clear hK)|(clear hK;clear hK;refine hK _ ?_;clear hK)|(clear hK;clear hK;clear hK;refine hK _ ?_;clear hK)|(clear hK;clear hK;clear hK;clear hK;refine hK _ ?_;clear hK)|(refine zJ fun K hK=>?_)|((first | refine zH ?_ | refine zN rfl (by kernel_rfl) ?_ | refine zM ?_ | refine zK (by kernel_rfl) ?_);simp only [wJ,wI,strip])|((first | refine wIs fun K hK=>?_ | refine wOs fun K hK=>?_ | refine wQs fun K hK=>?_ | refine zU ?_ | refine zV ?_ | refine zW ?_ | refine zL ?_);simp [lv,ouN,kpI,kpR,pos,ren,zB,yX,xD,yR,g1,g8,g9,g10,g5,b5,e0,e1,e2,hlt,hw,he])|(refine wIn ?_;refine And.intro (by kernel_rfl) ?_;try simp only [zX])|(first | refine zQ ?_ | refine zS ?_)|((first | refine zI ?_ | refine zO ?_ | refine zP ?_);try simp)|((first | refine zR ?_ | refine wOn ?_ | refine wQn ?_);try simp only [zX])
    refine hL _ (N - 1) (by omega) ⟨k + 1,by omega,?_⟩
    simp [lv,ouN,kpI,kpR,pos,ren,zB,yX,xD,yR,g1,g8,g9,g10,g5,b5,e0,e1,e2,hw,hs,ht,xV,nbx]
  ·unfold nbx at e2
   by_cases o : told l[k] a b = 0
   ·have c := fire1_con l[k] a b T0 ha hb o
    unfold xV nbx Wt.c at c
    rw [if_pos o] at hs ht
    rw [<- hs] at hx
    repeat' first|(refine And.intro (by (try simp at hsl ⊢);omega) ?_)|(refine CallK_gen [1024,1025,1026,500] c (by decide) (by decide) (by simp [yO,inN,pos,yX,zB,e0,e1,e2,e3]) (by simp [xN,argG,zB,inN,pos,yR,xD,toP,toPF] <;> rfl) ⟨[],by simp,by simp,?_⟩;simp [lv,ouN,kpI,kpR,pos,ren,zB,yX,xD,yR,g1,g8,g9,g10,g5,b5,e0,e1,e2,e3])|(refine hK _ ?_;clear hK)|(refine hK _ _ ?_;clear hK)|(clear hK;refine hK _ ?_;clear hK)|(clear hK;clear hK;refine hK _ ?_;clear hK)|(clear hK;clear hK;clear hK;refine hK _ ?_;clear hK)|(clear hK;clear hK;clear hK;clear hK;refine hK _ ?_;clear hK)|(refine zJ fun K hK=>?_)|((first | refine zH ?_ | refine zN rfl (by kernel_rfl) ?_ | refine zM ?_ | refine zK (by kernel_rfl) ?_);simp only [wJ,wI,strip])|((first | refine wIs fun K hK=>?_ | refine wOs fun K hK=>?_ | refine wQs fun K hK=>?_ | refine zU ?_ | refine zV ?_ | refine zW ?_ | refine zL ?_);simp [lv,ouN,kpI,kpR,pos,ren,zB,yX,xD,yR,g1,g8,g9,g10,g5,b5,e0,e1,e2,e3,hlt,hw,he])|(refine wIn ?_;refine And.intro (by kernel_rfl) ?_;try simp only [zX])|(first | refine zQ ?_ | refine zS ?_)|((first | refine zI ?_ | refine zO ?_ | refine zP ?_);try simp)|((first | refine zR ?_ | refine wOn ?_ | refine wQn ?_);try simp only [zX])
    refine hL _ (N - 1) (by omega) ⟨k + 1,by omega,?_⟩
    simp [lv,ouN,kpI,kpR,pos,ren,zB,yX,xD,yR,g1,g8,g9,g10,g5,b5,e0,e1,e2,e3,hw,hx,ht,hT,xV,nbx]
   ·have c := fire3_con l[k] a b T0 ha hb (by omega) o
    unfold xV nbx Wt.c at c
    rw [if_neg o] at hs ht
    rw [<- ht] at c
    have hT' : ¬ wS a b (l.take (k + 1)) = []:=by rw [ht];simp
    repeat' first|(refine CallK_gen [1024,1025,1026,500] c (by decide) (by decide) (by simp [yO,inN,pos,yX,zB,e0,e1,e2,e3]) (by simp [xN,argG,zB,inN,pos,yR,xD,toP,toPF] <;> rfl) ⟨[],by simp,by simp,?_⟩;simp [lv,ouN,kpI,kpR,pos,ren,zB,yX,xD,yR,g1,g8,g9,g10,g5,b5,e0,e1,e2,e3])|(refine hK _ ?_;clear hK)|(refine hK _ _ ?_;clear hK)|(clear hK;refine hK _ ?_;clear hK)|(clear hK;clear hK;refine hK _ ?_;clear hK)|(clear hK;clear hK;clear hK;refine hK _ ?_;clear hK)|(clear hK;clear hK;clear hK;clear hK;refine hK _ ?_;clear hK)|(refine zJ fun K hK=>?_)|((first | refine zH ?_ | refine zN rfl (by kernel_rfl) ?_ | refine zM ?_ | refine zK (by kernel_rfl) ?_);simp only [wJ,wI,strip])|((first | refine wIs fun K hK=>?_ | refine wOs fun K hK=>?_ | refine wQs fun K hK=>?_ | refine zU ?_ | refine zV ?_ | refine zW ?_ | refine zL ?_);simp [lv,ouN,kpI,kpR,pos,ren,zB,yX,xD,yR,g1,g8,g9,g10,g5,b5,e0,e1,e2,e3,hlt,hw,he])|(refine wIn ?_;refine And.intro (by kernel_rfl) ?_;try simp only [zX])|(first | refine zQ ?_ | refine zS ?_)|((first | refine zI ?_ | refine zO ?_ | refine zP ?_);try simp)|((first | refine zR ?_ | refine wOn ?_ | refine wQn ?_);try simp only [zX])
    refine hL _ (N - 1) (by omega) ⟨k + 1,by omega,?_⟩
    simp [lv,ouN,kpI,kpR,pos,ren,zB,yX,xD,yR,g1,g8,g9,g10,g5,b5,e0,e1,e2,e3,hw,hs,hT',xV,nbx]
 ·rw [List.take_of_length_le (by omega)] at b5 hd
  unfold sOut at hr hn
  rcases hd with ⟨hT,e2⟩ | ⟨hT,e2,e3⟩
  ·rw [if_pos hT] at hr hn
   repeat' first|(refine hK _ ?_;clear hK)|(refine hK _ _ ?_;clear hK)|(clear hK;refine hK _ ?_;clear hK)|(clear hK;clear hK;refine hK _ ?_;clear hK)|(clear hK;clear hK;clear hK;refine hK _ ?_;clear hK)|(clear hK;clear hK;clear hK;clear hK;refine hK _ ?_;clear hK)|(refine zJ fun K hK=>?_)|((first | refine zH ?_ | refine zN rfl (by kernel_rfl) ?_ | refine zM ?_ | refine zK (by kernel_rfl) ?_);simp only [wJ,wI,strip])|((first | refine wIs fun K hK=>?_ | refine wOs fun K hK=>?_ | refine wQs fun K hK=>?_ | refine zU ?_ | refine zV ?_ | refine zW ?_ | refine zL ?_);simp [g1,g8,g9,g10,g5,b5,e0,e1,e2,hlt])|(refine wIn ?_;refine And.intro (by kernel_rfl) ?_;try simp only [zX])|(first | refine zQ ?_ | refine zS ?_)|((first | refine zI ?_ | refine zO ?_ | refine zP ?_);try simp)|((first | refine zR ?_ | refine wOn ?_ | refine wQn ?_);try simp only [zX])
   all_goals apply hr
   all_goals refine ⟨[5],by simp,by simp,?_⟩
   all_goals simp [Try.f39,outR,outB,yX,gaN,g5,b5,e0,e1,e2,xV,nbx]
  ·rw [if_neg hT] at hr hn
   repeat' first|(refine hK _ ?_;clear hK)|(refine hK _ _ ?_;clear hK)|(clear hK;refine hK _ ?_;clear hK)|(clear hK;clear hK;refine hK _ ?_;clear hK)|(clear hK;clear hK;clear hK;refine hK _ ?_;clear hK)|(clear hK;clear hK;clear hK;clear hK;refine hK _ ?_;clear hK)|(refine zJ fun K hK=>?_)|((first | refine zH ?_ | refine zN rfl (by kernel_rfl) ?_ | refine zM ?_ | refine zK (by kernel_rfl) ?_);simp only [wJ,wI,strip])|((first | refine wIs fun K hK=>?_ | refine wOs fun K hK=>?_ | refine wQs fun K hK=>?_ | refine zU ?_ | refine zV ?_ | refine zW ?_ | refine zL ?_);simp [g1,g8,g9,g10,g5,b5,e0,e1,e2,e3,hlt])|(refine wIn ?_;refine And.intro (by kernel_rfl) ?_;try simp only [zX])|(first | refine zQ ?_ | refine zS ?_)|((first | refine zI ?_ | refine zO ?_ | refine zP ?_);try simp)|((first | refine zR ?_ | refine wOn ?_ | refine wQn ?_);try simp only [zX])
   all_goals apply hr
   all_goals refine ⟨[5,500],by simp,by simp,?_⟩
   all_goals simp [Try.f39,outR,outB,yX,gaN,g5,b5,e0,e1,e2,e3,xV,nbx]
set_option maxHeartbeats 2000000 in
theorem fire_con (l : List Wt) (a b : Ws) (ha : Fit a) (hb : Fit b) (hl : l.length <= 1000000) : zF Try.prog 15 [.p (.sl 3 (wts l)), .p (.agg a.c), .p (.agg b.c)] (.tup [.p (.sl 3 (wts (stay a b l))), .p (.sl 6 (nts (wS a b l)))]) := by
 have c:=sifted_con l a b ha hb hl
 unfold sOut xV nbx at c
 unfold Ws.c
 by_cases hT : wS a b l = []
 ·rw [if_pos hT] at c
  rw [hT,show nts [] = [] from rfl]
  generalize wts (stay a b l) = S at c ⊢
  generalize wts l = L at c ⊢
  refine zG Try.tab Try.mixed Try.func15 rfl rfl Try.ntmps15 (by simp) (by simp) fun Q hr hn=>?_
  repeat' first|(refine CallK_gen [4,5,8] c (by decide) (by decide) (by simp [yO,inN,pos,yX,zB]) (by simp [xN,argG,zB,inN,pos,yR,xD,toP,toPF] <;> rfl) ⟨[500],by simp,by simp,?_⟩;simp [lv,ouN,kpI,kpR,pos,ren,zB,yX,xD,yR])|(refine hK _ ?_;clear hK)|(refine hK _ _ ?_;clear hK)|(clear hK;refine hK _ ?_;clear hK)|(clear hK;clear hK;refine hK _ ?_;clear hK)|(clear hK;clear hK;clear hK;refine hK _ ?_;clear hK)|(clear hK;clear hK;clear hK;clear hK;refine hK _ ?_;clear hK)|(refine zJ fun K hK=>?_)|((first | refine zH ?_ | refine zN rfl (by kernel_rfl) ?_ | refine zM ?_ | refine zK (by kernel_rfl) ?_);simp only [wJ,wI,strip])|((first | refine wIs fun K hK=>?_ | refine wOs fun K hK=>?_ | refine wQs fun K hK=>?_ | refine zU ?_ | refine zV ?_ | refine zW ?_ | refine zL ?_);simp [lv,ouN,kpI,kpR,pos,ren,zB,yX,xD,yR])|(refine wIn ?_;refine And.intro (by kernel_rfl) ?_;try simp only [zX])|(first | refine zQ ?_ | refine zS ?_)|((first | refine zI ?_ | refine zO ?_ | refine zP ?_);try simp)|((first | refine zR ?_ | refine wOn ?_ | refine wQn ?_);try simp only [zX])
  all_goals apply hr
  all_goals simp [Try.f15,lv,ouN,kpI,kpR,pos,ren,zB,yX,xD,yR]
 ·rw [if_neg hT] at c
  generalize nts (wS a b l) = NN at c ⊢
  generalize wts (stay a b l) = S at c ⊢
  generalize wts l = L at c ⊢
  refine zG Try.tab Try.mixed Try.func15 rfl rfl Try.ntmps15 (by simp) (by simp) fun Q hr hn=>?_
  repeat' first|(refine CallK_gen [4,5,8] c (by decide) (by decide) (by simp [yO,inN,pos,yX,zB]) (by simp [xN,argG,zB,inN,pos,yR,xD,toP,toPF] <;> rfl) ⟨[500,501],by simp,by simp,?_⟩;simp [lv,ouN,kpI,kpR,pos,ren,zB,yX,xD,yR])|(refine hK _ ?_;clear hK)|(refine hK _ _ ?_;clear hK)|(clear hK;refine hK _ ?_;clear hK)|(clear hK;clear hK;refine hK _ ?_;clear hK)|(clear hK;clear hK;clear hK;refine hK _ ?_;clear hK)|(clear hK;clear hK;clear hK;clear hK;refine hK _ ?_;clear hK)|(refine zJ fun K hK=>?_)|((first | refine zH ?_ | refine zN rfl (by kernel_rfl) ?_ | refine zM ?_ | refine zK (by kernel_rfl) ?_);simp only [wJ,wI,strip])|((first | refine wIs fun K hK=>?_ | refine wOs fun K hK=>?_ | refine wQs fun K hK=>?_ | refine zU ?_ | refine zV ?_ | refine zW ?_ | refine zL ?_);simp [lv,ouN,kpI,kpR,pos,ren,zB,yX,xD,yR])|(refine wIn ?_;refine And.intro (by kernel_rfl) ?_;try simp only [zX])|(first | refine zQ ?_ | refine zS ?_)|((first | refine zI ?_ | refine zO ?_ | refine zP ?_);try simp)|((first | refine zR ?_ | refine wOn ?_ | refine wQn ?_);try simp only [zX])
  all_goals apply hr
  all_goals simp [Try.f15,lv,ouN,kpI,kpR,pos,ren,zB,yX,xD,yR]
end Go.Proofs.Ytpilcadofjcdoaa
