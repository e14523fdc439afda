/- States: the law StateSame. -/
import Derived.Test.YtpadfoaigbfekaaXK
import Derived.Test.YtpadfoaigbfekaaXI
import Derived.Test.YtpadfoaigbfekaaXF
namespace Go.Proofs.Ytpadfoaigbfekaa
set_option linter.unusedSimpArgs false
set_option linter.unusedVariables false
open Go Go.Av
attribute [local simp] Try.T1 Try.T2 Try.T3 Try.T4 Try.T5 Try.T9 Try.T12 Try.T21 Try.T22 Try.T24 Try.T25 Try.T26 Try.T27 Try.T28 Try.T29 Try.T30 Try.T31 Try.T33 Try.T34 Try.T35 Try.T36 Try.T37 Try.T38 Try.T39 Try.T41 Try.T42 Try.T43 Try.T44 Try.T46 Try.T47 Try.T49 Try.T51 Try.T52 Try.T53 Try.T54 Try.T56 Try.T57 Try.T58 Try.T59 Try.T60 Try.T62 Try.T64 Try.T65 Try.T66 Try.T67 Try.T68 Try.T69 Try.T70 Try.T71 Try.T72 Try.T73 Try.T75 Try.T76 Try.T77 Try.T78 Try.T79 Try.T80 Try.T82 Try.T83 Try.T84 Try.T85 Try.T87 Try.T88 Try.T89 Try.T90 Try.T91 Try.T92 Try.T93 Try.T94 Try.T95 Try.T96 Try.T97 Try.T98 Try.T99 Try.T100 Try.T102 Try.T103 Try.T104 Try.T105 Try.T106 Try.T107 Try.T109 Try.T110 Try.T111 Try.T112 Try.T113 Try.T114 Try.T115 Try.T116 Try.T117 Try.T123 Try.T126
attribute [local irreducible] Go.Av.CallK Go.Av.CallE Go.Av.CallQ Go.Av.CallF Go.Av.CallR Go.Av.CallH Go.Av.Con

theorem wDrwX [Glob] {P : Program} {T : TypeId → Option Ty} {N : Nat} {Q : AExit → St → Prop} {st : St} {id : Nat} {l : List Oper} (b : Nat) {e : TypeId} {cells : List V} {es : List PV} (hb : st.b b = some (.box e cells)) (hp : plC cells = some es) (h : WC P T N (.region id l.toArray true) Q (frzx st b es)) : WC P T N (.region id l.toArray true) Q st := by
  refine wDrwF [.bx b] ?_
  have e0 : frzL st [.bx b] = frzx st b es := by
    simp only [frzL, gh1, hb, hp]
  rw [e0]
  exact h
set_option maxHeartbeats 4000000 in
theorem stateSame_con (a b : Sv) (t u : Tx) : ACon Try.prog 10 [.p (.agg a.cells), .p (.agg b.cells), .p (.agg (t.cells ++ u.cells))] (.p (B true)) := by
  have f1 := farB_con (zns a.ns) (ints a.ss) (mbs a.c.ms) a.nx a.c.ep a.c.n a.c.kind a.ae a.an [t, u]
  have f2 := farB_con (zns b.ns) (ints b.ss) (mbs b.c.ms) b.nx b.c.ep b.c.n b.c.kind b.ae b.an []
  have ca := awake08
  have c1 := sameS_con a b
  have c2 := sameS08_con a b
  have c3 := sameT_con t u
  have c4 := sameT08_con t u
  have c5 := sameS_con a a
  have c6 := sameT_con t t
  rw [decide_eq_true rfl] at c5 c6
  generalize decide (a = b) = q1 at c1 c2
  generalize decide (t = u) = q2 at c3 c4
  have r2 : List.range 2 = [0, 1] := rfl
  simp only [txns, List.map_cons, List.map_nil] at f1 f2
  unfold Sv.cells at c1 c2 c5 ⊢
  unfold Tx.cells at f1 c3 c4 c6 ⊢
  simp only [List.cons_append, List.nil_append]
  generalize zns a.ns = A1 at *
  generalize ints a.ss = A2 at *
  generalize mbs a.c.ms = A3 at *
  generalize zns b.ns = B1 at *
  generalize ints b.ss = B2 at *
  generalize mbs b.c.ms = B3 at *
  generalize pts t.ps = T1 at *
  generalize pts u.ps = U1 at *
  generalize farB (far0 A1.length A2.length A3.length) [t, u] = F1 at f1
  generalize farB (far0 B1.length B2.length B3.length) [] = F2 at f2
  cases F1 <;> cases F2
  · refine wBody Try.tab Try.mixed Try.func10 rfl rfl Try.ntmps10 (by simp) (by simp) fun Q hr hn => ?_
    repeat' first | (refine wDrwX 5 rfl rfl ?_) | (refine hK _ ?_; clear hK) | (refine hK _ _ ?_; clear hK) | (clear hK; refine hK _ ?_; clear hK) | (clear hK; clear hK; refine hK _ ?_; clear hK) | (clear hK; clear hK; clear hK; refine hK _ ?_; clear hK) | (clear hK; clear hK; clear hK; clear hK; refine hK _ ?_; clear hK) | (refine wSeq fun K hK => ?_) | ((first | refine wReg ?_ | refine wDrwQ rfl (by kernel_rfl) ?_ | refine wDrwI ?_ | refine wDrw (by kernel_rfl) ?_); simp only [List.map_cons, List.map_nil, strip]) | ((first | refine wIs fun K hK => ?_ | refine wOs fun K hK => ?_ | refine wQs fun K hK => ?_ | refine CallK_plain ?_ | refine CallQ_plain ?_ | refine CallR_plain ?_ | refine wCond ?_); simp [r2]) | (refine wIn ?_; refine And.intro (by kernel_rfl) ?_; try simp only [thenA_n]) | (first | refine wBlock ?_ | refine wScope ?_) | ((first | refine wRet ?_ | refine wExit ?_ | refine wSkip ?_); try simp) | ((first | refine wLabel ?_ | refine wOn ?_ | refine wQn ?_); try simp only [thenA_n]) | (refine CallE.pure (f1) rfl ?_) | (refine CallE.lent (f1) rfl ?_) | (refine CallF.pure (f1) rfl ?_) | (refine CallF.lent (f1) rfl ?_) | (refine CallE.own (f1) ?_) | (refine CallH.pure (f1) rfl ?_) | (refine CallH.lent (f1) rfl ?_) | (refine CallH.own (f1) ?_) | (refine CallE.pure (f2) rfl ?_) | (refine CallE.lent (f2) rfl ?_) | (refine CallF.pure (f2) rfl ?_) | (refine CallF.lent (f2) rfl ?_) | (refine CallE.own (f2) ?_) | (refine CallH.pure (f2) rfl ?_) | (refine CallH.lent (f2) rfl ?_) | (refine CallH.own (f2) ?_) | (refine CallE.pure (c1) rfl ?_) | (refine CallE.lent (c1) rfl ?_) | (refine CallF.pure (c1) rfl ?_) | (refine CallF.lent (c1) rfl ?_) | (refine CallE.own (c1) ?_) | (refine CallH.pure (c1) rfl ?_) | (refine CallH.lent (c1) rfl ?_) | (refine CallH.own (c1) ?_) | (refine CallE.pure (c2) rfl ?_) | (refine CallE.lent (c2) rfl ?_) | (refine CallF.pure (c2) rfl ?_) | (refine CallF.lent (c2) rfl ?_) | (refine CallE.own (c2) ?_) | (refine CallH.pure (c2) rfl ?_) | (refine CallH.lent (c2) rfl ?_) | (refine CallH.own (c2) ?_) | (refine CallE.pure (c3) rfl ?_) | (refine CallE.lent (c3) rfl ?_) | (refine CallF.pure (c3) rfl ?_) | (refine CallF.lent (c3) rfl ?_) | (refine CallE.own (c3) ?_) | (refine CallH.pure (c3) rfl ?_) | (refine CallH.lent (c3) rfl ?_) | (refine CallH.own (c3) ?_) | (refine CallE.pure (c4) rfl ?_) | (refine CallE.lent (c4) rfl ?_) | (refine CallF.pure (c4) rfl ?_) | (refine CallF.lent (c4) rfl ?_) | (refine CallE.own (c4) ?_) | (refine CallH.pure (c4) rfl ?_) | (refine CallH.lent (c4) rfl ?_) | (refine CallH.own (c4) ?_) | (refine CallE.pure (c5) rfl ?_) | (refine CallE.lent (c5) rfl ?_) | (refine CallF.pure (c5) rfl ?_) | (refine CallF.lent (c5) rfl ?_) | (refine CallE.own (c5) ?_) | (refine CallH.pure (c5) rfl ?_) | (refine CallH.lent (c5) rfl ?_) | (refine CallH.own (c5) ?_) | (refine CallE.pure (c6) rfl ?_) | (refine CallE.lent (c6) rfl ?_) | (refine CallF.pure (c6) rfl ?_) | (refine CallF.lent (c6) rfl ?_) | (refine CallE.own (c6) ?_) | (refine CallH.pure (c6) rfl ?_) | (refine CallH.lent (c6) rfl ?_) | (refine CallH.own (c6) ?_) | (refine CallE.pure (ca) rfl ?_) | (refine CallE.lent (ca) rfl ?_) | (refine CallF.pure (ca) rfl ?_) | (refine CallF.lent (ca) rfl ?_) | (refine CallE.own (ca) ?_) | (refine CallH.pure (ca) rfl ?_) | (refine CallH.lent (ca) rfl ?_) | (refine CallH.own (ca) ?_)
    all_goals apply hr
    all_goals simp [Try.f10]
  all_goals
    refine wBody Try.tab Try.mixed Try.func10 rfl rfl Try.ntmps10 (by simp) (by simp) fun Q hr hn => ?_
    repeat' first | (refine wDrwX 5 rfl rfl ?_) | (refine hK _ ?_; clear hK) | (refine hK _ _ ?_; clear hK) | (clear hK; refine hK _ ?_; clear hK) | (clear hK; clear hK; refine hK _ ?_; clear hK) | (clear hK; clear hK; clear hK; refine hK _ ?_; clear hK) | (clear hK; clear hK; clear hK; clear hK; refine hK _ ?_; clear hK) | (refine wSeq fun K hK => ?_) | ((first | refine wReg ?_ | refine wDrwQ rfl (by kernel_rfl) ?_ | refine wDrwI ?_ | refine wDrw (by kernel_rfl) ?_); simp only [List.map_cons, List.map_nil, strip]) | ((first | refine wIs fun K hK => ?_ | refine wOs fun K hK => ?_ | refine wQs fun K hK => ?_ | refine CallK_plain ?_ | refine CallQ_plain ?_ | refine CallR_plain ?_ | refine wCond ?_); simp [r2]) | (refine wIn ?_; refine And.intro (by kernel_rfl) ?_; try simp only [thenA_n]) | (first | refine wBlock ?_ | refine wScope ?_) | ((first | refine wRet ?_ | refine wExit ?_ | refine wSkip ?_); try simp) | ((first | refine wLabel ?_ | refine wOn ?_ | refine wQn ?_); try simp only [thenA_n]) | (refine CallE.pure (f1) rfl ?_) | (refine CallE.lent (f1) rfl ?_) | (refine CallF.pure (f1) rfl ?_) | (refine CallF.lent (f1) rfl ?_) | (refine CallE.own (f1) ?_) | (refine CallH.pure (f1) rfl ?_) | (refine CallH.lent (f1) rfl ?_) | (refine CallH.own (f1) ?_) | (refine CallE.pure (f2) rfl ?_) | (refine CallE.lent (f2) rfl ?_) | (refine CallF.pure (f2) rfl ?_) | (refine CallF.lent (f2) rfl ?_) | (refine CallE.own (f2) ?_) | (refine CallH.pure (f2) rfl ?_) | (refine CallH.lent (f2) rfl ?_) | (refine CallH.own (f2) ?_) | (refine CallE.pure (ca) rfl ?_) | (refine CallE.lent (ca) rfl ?_) | (refine CallF.pure (ca) rfl ?_) | (refine CallF.lent (ca) rfl ?_) | (refine CallE.own (ca) ?_) | (refine CallH.pure (ca) rfl ?_) | (refine CallH.lent (ca) rfl ?_) | (refine CallH.own (ca) ?_)
    all_goals apply hr
    all_goals simp [Try.f10]
end Go.Proofs.Ytpadfoaigbfekaa
