/- The laws DeltaBack, DeltaOne. -/
import Derived.Test.YtiemabhnhgablaaDG
import Derived.Test.YtiemabhnhgablaaDF
namespace Go.Proofs.Ytiemabhnhgablaa
set_option linter.unusedSimpArgs false
set_option linter.unusedVariables false
open Go Go.Av
attribute [local simp] Try.T1 Try.T2 Try.T3 Try.T4 Try.T5 Try.T9 Try.T12 Try.T15 Try.T16 Try.T17 Try.T21 Try.T23 Try.T24 Try.T26 Try.T27 Try.T28 Try.T30 Try.T31 Try.T32 Try.T33 Try.T35 Try.T36 Try.T37 Try.T38 Try.T39 Try.T41 Try.T43 Try.T44 Try.T45 Try.T46 Try.T47 Try.T48 Try.T49 Try.T50 Try.T51 Try.T52 Try.T53 Try.T54 Try.T55 Try.T56 Try.T57 Try.T58 Try.T59 Try.T60 Try.T61 Try.T62 Try.T65 Try.T68 Try.T69 Try.T72 Try.T73
attribute [local irreducible] Go.Av.CallK Go.Av.CallE Go.Av.CallQ Go.Av.CallF Go.Av.CallR Go.Av.CallH Go.Av.Con

def farD (c : Cf) (d : Dl) : Bool := decide (100 < c.ms.length) || (decide (100 < d.put.length) || decide (100 < d.drop.length))
theorem far06_con (c : Cf) (d : Dl) : ACon Try.prog 5 [.p (.agg c.cells), .p (.agg d.cells)] (.p (B (farD c d))) := by
  obtain ⟨ep, n, kind, ms⟩ := c
  obtain ⟨dk, dp, dd⟩ := d
  simp only [Cf.cells, Dl.cells, farD]
  by_cases o1 : 100 < ms.length
  · have o1' : (100 : Int) < ms.length := by omega
    refine wBody Try.tab Try.mixed Try.func5 rfl rfl Try.ntmps5 (by simp) (by simp) fun Q hr hn => ?_
    repeat' first | (refine hK _ ?_; clear hK) | (refine hK _ _ ?_; clear hK) | (clear hK; refine hK _ ?_; clear hK) | (clear hK; clear hK; refine hK _ ?_; clear hK) | (clear hK; clear hK; clear hK; refine hK _ ?_; clear hK) | (clear hK; clear hK; clear hK; clear hK; refine hK _ ?_; clear hK) | (refine wSeq fun K hK => ?_) | ((first | refine wReg ?_ | refine wDrwQ rfl (by kernel_rfl) ?_ | refine wDrwI ?_ | refine wDrw (by kernel_rfl) ?_); simp only [List.map_cons, List.map_nil, strip]) | ((first | refine wIs fun K hK => ?_ | refine wOs fun K hK => ?_ | refine wQs fun K hK => ?_ | refine CallK_plain ?_ | refine CallQ_plain ?_ | refine CallR_plain ?_ | refine wCond ?_); simp [o1, o1']) | (refine wIn ?_; refine And.intro (by kernel_rfl) ?_; try simp only [thenA_n]) | (first | refine wBlock ?_ | refine wScope ?_) | ((first | refine wRet ?_ | refine wExit ?_ | refine wSkip ?_); try simp) | ((first | refine wLabel ?_ | refine wOn ?_ | refine wQn ?_); try simp only [thenA_n])
    all_goals apply hr
    all_goals simp [Try.f5, o1, o1']
  have o1' : ¬ (100 : Int) < ms.length := by omega
  by_cases o2 : 100 < dp.length
  · have o2' : (100 : Int) < dp.length := by omega
    refine wBody Try.tab Try.mixed Try.func5 rfl rfl Try.ntmps5 (by simp) (by simp) fun Q hr hn => ?_
    repeat' first | (refine hK _ ?_; clear hK) | (refine hK _ _ ?_; clear hK) | (clear hK; refine hK _ ?_; clear hK) | (clear hK; clear hK; refine hK _ ?_; clear hK) | (clear hK; clear hK; clear hK; refine hK _ ?_; clear hK) | (clear hK; clear hK; clear hK; clear hK; refine hK _ ?_; clear hK) | (refine wSeq fun K hK => ?_) | ((first | refine wReg ?_ | refine wDrwQ rfl (by kernel_rfl) ?_ | refine wDrwI ?_ | refine wDrw (by kernel_rfl) ?_); simp only [List.map_cons, List.map_nil, strip]) | ((first | refine wIs fun K hK => ?_ | refine wOs fun K hK => ?_ | refine wQs fun K hK => ?_ | refine CallK_plain ?_ | refine CallQ_plain ?_ | refine CallR_plain ?_ | refine wCond ?_); simp [o1, o1', o2, o2']) | (refine wIn ?_; refine And.intro (by kernel_rfl) ?_; try simp only [thenA_n]) | (first | refine wBlock ?_ | refine wScope ?_) | ((first | refine wRet ?_ | refine wExit ?_ | refine wSkip ?_); try simp) | ((first | refine wLabel ?_ | refine wOn ?_ | refine wQn ?_); try simp only [thenA_n])
    all_goals apply hr
    all_goals simp [Try.f5, o1, o1', o2, o2']
  have o2' : ¬ (100 : Int) < dp.length := by omega
  by_cases o3 : 100 < dd.length
  · have o3' : (100 : Int) < dd.length := by omega
    refine wBody Try.tab Try.mixed Try.func5 rfl rfl Try.ntmps5 (by simp) (by simp) fun Q hr hn => ?_
    repeat' first | (refine hK _ ?_; clear hK) | (refine hK _ _ ?_; clear hK) | (clear hK; refine hK _ ?_; clear hK) | (clear hK; clear hK; refine hK _ ?_; clear hK) | (clear hK; clear hK; clear hK; refine hK _ ?_; clear hK) | (clear hK; clear hK; clear hK; clear hK; refine hK _ ?_; clear hK) | (refine wSeq fun K hK => ?_) | ((first | refine wReg ?_ | refine wDrwQ rfl (by kernel_rfl) ?_ | refine wDrwI ?_ | refine wDrw (by kernel_rfl) ?_); simp only [List.map_cons, List.map_nil, strip]) | ((first | refine wIs fun K hK => ?_ | refine wOs fun K hK => ?_ | refine wQs fun K hK => ?_ | refine CallK_plain ?_ | refine CallQ_plain ?_ | refine CallR_plain ?_ | refine wCond ?_); simp [o1, o1', o2, o2', o3, o3']) | (refine wIn ?_; refine And.intro (by kernel_rfl) ?_; try simp only [thenA_n]) | (first | refine wBlock ?_ | refine wScope ?_) | ((first | refine wRet ?_ | refine wExit ?_ | refine wSkip ?_); try simp) | ((first | refine wLabel ?_ | refine wOn ?_ | refine wQn ?_); try simp only [thenA_n])
    all_goals apply hr
    all_goals simp [Try.f5, o1, o1', o2, o2', o3, o3']
  have o3' : ¬ (100 : Int) < dd.length := by omega
  refine wBody Try.tab Try.mixed Try.func5 rfl rfl Try.ntmps5 (by simp) (by simp) fun Q hr hn => ?_
  repeat' first | (refine hK _ ?_; clear hK) | (refine hK _ _ ?_; clear hK) | (clear hK; refine hK _ ?_; clear hK) | (clear hK; clear hK; refine hK _ ?_; clear hK) | (clear hK; clear hK; clear hK; refine hK _ ?_; clear hK) | (clear hK; clear hK; clear hK; clear hK; refine hK _ ?_; clear hK) | (refine wSeq fun K hK => ?_) | ((first | refine wReg ?_ | refine wDrwQ rfl (by kernel_rfl) ?_ | refine wDrwI ?_ | refine wDrw (by kernel_rfl) ?_); simp only [List.map_cons, List.map_nil, strip]) | ((first | refine wIs fun K hK => ?_ | refine wOs fun K hK => ?_ | refine wQs fun K hK => ?_ | refine CallK_plain ?_ | refine CallQ_plain ?_ | refine CallR_plain ?_ | refine wCond ?_); simp [o1, o1', o2, o2', o3, o3']) | (refine wIn ?_; refine And.intro (by kernel_rfl) ?_; try simp only [thenA_n]) | (first | refine wBlock ?_ | refine wScope ?_) | ((first | refine wRet ?_ | refine wExit ?_ | refine wSkip ?_); try simp) | ((first | refine wLabel ?_ | refine wOn ?_ | refine wQn ?_); try simp only [thenA_n])
  all_goals apply hr
  all_goals simp [Try.f5, o1, o1', o2, o2', o3, o3']

set_option maxHeartbeats 4000000 in
theorem deltaBack_con (a b : Cf) : ACon Try.prog 3 [.p (.agg a.cells), .p (.agg b.cells)] (.p (B true)) := by
  have f1 := far06_con a ⟨0, [], []⟩
  have f2 := far06_con b ⟨0, [], []⟩
  simp only [farD, List.length_nil] at f1 f2
  by_cases h1 : 100 < a.ms.length
  · rw [decide_eq_true h1, Bool.true_or] at f1
    obtain ⟨ae, an, ak, am⟩ := a
    obtain ⟨be, bn, bk, bm⟩ := b
    simp only [Cf.cells, Dl.cells, mbs, ints, List.map_nil] at *
    refine wBody Try.tab Try.mixed Try.func3 rfl rfl Try.ntmps3 (by simp) (by simp) fun Q hr hn => ?_
    repeat' first | (refine CallE.pure (f1) rfl ?_) | (refine CallE.lent (f1) rfl ?_) | (refine CallF.pure (f1) rfl ?_) | (refine CallF.lent (f1) rfl ?_) | (refine CallE.own (f1) ?_) | (refine CallH.pure (f1) rfl ?_) | (refine CallH.lent (f1) rfl ?_) | (refine CallH.own (f1) ?_) | (refine CallE.pure (f2) rfl ?_) | (refine CallE.lent (f2) rfl ?_) | (refine CallF.pure (f2) rfl ?_) | (refine CallF.lent (f2) rfl ?_) | (refine CallE.own (f2) ?_) | (refine CallH.pure (f2) rfl ?_) | (refine CallH.lent (f2) rfl ?_) | (refine CallH.own (f2) ?_) | (refine CallE.pure (awake06) rfl ?_) | (refine CallE.lent (awake06) rfl ?_) | (refine CallF.pure (awake06) rfl ?_) | (refine CallF.lent (awake06) rfl ?_) | (refine CallE.own (awake06) ?_) | (refine CallH.pure (awake06) rfl ?_) | (refine CallH.lent (awake06) rfl ?_) | (refine CallH.own (awake06) ?_) | (refine hK _ ?_; clear hK) | (refine hK _ _ ?_; clear hK) | (clear hK; refine hK _ ?_; clear hK) | (clear hK; clear hK; refine hK _ ?_; clear hK) | (clear hK; clear hK; clear hK; refine hK _ ?_; clear hK) | (clear hK; clear hK; clear hK; clear hK; refine hK _ ?_; clear hK) | (refine wSeq fun K hK => ?_) | ((first | refine wReg ?_ | refine wDrwQ rfl (by kernel_rfl) ?_ | refine wDrwI ?_ | refine wDrw (by kernel_rfl) ?_); simp only [List.map_cons, List.map_nil, strip]) | ((first | refine wIs fun K hK => ?_ | refine wOs fun K hK => ?_ | refine wQs fun K hK => ?_ | refine CallK_plain ?_ | refine CallQ_plain ?_ | refine CallR_plain ?_ | refine wCond ?_); simp) | (refine wIn ?_; refine And.intro (by kernel_rfl) ?_; try simp only [thenA_n]) | (first | refine wBlock ?_ | refine wScope ?_) | ((first | refine wRet ?_ | refine wExit ?_ | refine wSkip ?_); try simp) | ((first | refine wLabel ?_ | refine wOn ?_ | refine wQn ?_); try simp only [thenA_n])
    all_goals apply hr
    all_goals simp [Try.f3]
  rw [show (decide (100 < a.ms.length) || (decide (100 < 0) || decide (100 < 0))) = false by simp; omega] at f1
  by_cases h2 : 100 < b.ms.length
  · rw [decide_eq_true h2, Bool.true_or] at f2
    obtain ⟨ae, an, ak, am⟩ := a
    obtain ⟨be, bn, bk, bm⟩ := b
    simp only [Cf.cells, Dl.cells, mbs, ints, List.map_nil] at *
    refine wBody Try.tab Try.mixed Try.func3 rfl rfl Try.ntmps3 (by simp) (by simp) fun Q hr hn => ?_
    repeat' first | (refine CallE.pure (f1) rfl ?_) | (refine CallE.lent (f1) rfl ?_) | (refine CallF.pure (f1) rfl ?_) | (refine CallF.lent (f1) rfl ?_) | (refine CallE.own (f1) ?_) | (refine CallH.pure (f1) rfl ?_) | (refine CallH.lent (f1) rfl ?_) | (refine CallH.own (f1) ?_) | (refine CallE.pure (f2) rfl ?_) | (refine CallE.lent (f2) rfl ?_) | (refine CallF.pure (f2) rfl ?_) | (refine CallF.lent (f2) rfl ?_) | (refine CallE.own (f2) ?_) | (refine CallH.pure (f2) rfl ?_) | (refine CallH.lent (f2) rfl ?_) | (refine CallH.own (f2) ?_) | (refine CallE.pure (awake06) rfl ?_) | (refine CallE.lent (awake06) rfl ?_) | (refine CallF.pure (awake06) rfl ?_) | (refine CallF.lent (awake06) rfl ?_) | (refine CallE.own (awake06) ?_) | (refine CallH.pure (awake06) rfl ?_) | (refine CallH.lent (awake06) rfl ?_) | (refine CallH.own (awake06) ?_) | (refine hK _ ?_; clear hK) | (refine hK _ _ ?_; clear hK) | (clear hK; refine hK _ ?_; clear hK) | (clear hK; clear hK; refine hK _ ?_; clear hK) | (clear hK; clear hK; clear hK; refine hK _ ?_; clear hK) | (clear hK; clear hK; clear hK; clear hK; refine hK _ ?_; clear hK) | (refine wSeq fun K hK => ?_) | ((first | refine wReg ?_ | refine wDrwQ rfl (by kernel_rfl) ?_ | refine wDrwI ?_ | refine wDrw (by kernel_rfl) ?_); simp only [List.map_cons, List.map_nil, strip]) | ((first | refine wIs fun K hK => ?_ | refine wOs fun K hK => ?_ | refine wQs fun K hK => ?_ | refine CallK_plain ?_ | refine CallQ_plain ?_ | refine CallR_plain ?_ | refine wCond ?_); simp) | (refine wIn ?_; refine And.intro (by kernel_rfl) ?_; try simp only [thenA_n]) | (first | refine wBlock ?_ | refine wScope ?_) | ((first | refine wRet ?_ | refine wExit ?_ | refine wSkip ?_); try simp) | ((first | refine wLabel ?_ | refine wOn ?_ | refine wQn ?_); try simp only [thenA_n])
    all_goals apply hr
    all_goals simp [Try.f3]
  rw [show (decide (100 < b.ms.length) || (decide (100 < 0) || decide (100 < 0))) = false by simp; omega] at f2
  have k1 := check04_con a (by omega)
  have k2 := check04_con b (by omega)
  by_cases ha : check a = 0
  rotate_left
  · generalize check a = z at *
    obtain ⟨ae, an, ak, am⟩ := a
    obtain ⟨be, bn, bk, bm⟩ := b
    simp only [Cf.cells, Dl.cells, mbs, ints, List.map_nil] at *
    refine wBody Try.tab Try.mixed Try.func3 rfl rfl Try.ntmps3 (by simp) (by simp) fun Q hr hn => ?_
    repeat' first | (refine CallE.pure (f1) rfl ?_) | (refine CallE.lent (f1) rfl ?_) | (refine CallF.pure (f1) rfl ?_) | (refine CallF.lent (f1) rfl ?_) | (refine CallE.own (f1) ?_) | (refine CallH.pure (f1) rfl ?_) | (refine CallH.lent (f1) rfl ?_) | (refine CallH.own (f1) ?_) | (refine CallE.pure (f2) rfl ?_) | (refine CallE.lent (f2) rfl ?_) | (refine CallF.pure (f2) rfl ?_) | (refine CallF.lent (f2) rfl ?_) | (refine CallE.own (f2) ?_) | (refine CallH.pure (f2) rfl ?_) | (refine CallH.lent (f2) rfl ?_) | (refine CallH.own (f2) ?_) | (refine CallE.pure (k1) rfl ?_) | (refine CallE.lent (k1) rfl ?_) | (refine CallF.pure (k1) rfl ?_) | (refine CallF.lent (k1) rfl ?_) | (refine CallE.own (k1) ?_) | (refine CallH.pure (k1) rfl ?_) | (refine CallH.lent (k1) rfl ?_) | (refine CallH.own (k1) ?_) | (refine CallE.pure (awake06) rfl ?_) | (refine CallE.lent (awake06) rfl ?_) | (refine CallF.pure (awake06) rfl ?_) | (refine CallF.lent (awake06) rfl ?_) | (refine CallE.own (awake06) ?_) | (refine CallH.pure (awake06) rfl ?_) | (refine CallH.lent (awake06) rfl ?_) | (refine CallH.own (awake06) ?_) | (refine hK _ ?_; clear hK) | (refine hK _ _ ?_; clear hK) | (clear hK; refine hK _ ?_; clear hK) | (clear hK; clear hK; refine hK _ ?_; clear hK) | (clear hK; clear hK; clear hK; refine hK _ ?_; clear hK) | (clear hK; clear hK; clear hK; clear hK; refine hK _ ?_; clear hK) | (refine wSeq fun K hK => ?_) | ((first | refine wReg ?_ | refine wDrwQ rfl (by kernel_rfl) ?_ | refine wDrwI ?_ | refine wDrw (by kernel_rfl) ?_); simp only [List.map_cons, List.map_nil, strip]) | ((first | refine wIs fun K hK => ?_ | refine wOs fun K hK => ?_ | refine wQs fun K hK => ?_ | refine CallK_plain ?_ | refine CallQ_plain ?_ | refine CallR_plain ?_ | refine wCond ?_); simp [ha]) | (refine wIn ?_; refine And.intro (by kernel_rfl) ?_; try simp only [thenA_n]) | (first | refine wBlock ?_ | refine wScope ?_) | ((first | refine wRet ?_ | refine wExit ?_ | refine wSkip ?_); try simp) | ((first | refine wLabel ?_ | refine wOn ?_ | refine wQn ?_); try simp only [thenA_n])
    all_goals apply hr
    all_goals simp [Try.f3]
  by_cases hb : check b = 0
  rotate_left
  · rw [ha] at k1
    clear ha
    generalize check b = z at *
    obtain ⟨ae, an, ak, am⟩ := a
    obtain ⟨be, bn, bk, bm⟩ := b
    simp only [Cf.cells, Dl.cells, mbs, ints, List.map_nil] at *
    refine wBody Try.tab Try.mixed Try.func3 rfl rfl Try.ntmps3 (by simp) (by simp) fun Q hr hn => ?_
    repeat' first | (refine CallE.pure (f1) rfl ?_) | (refine CallE.lent (f1) rfl ?_) | (refine CallF.pure (f1) rfl ?_) | (refine CallF.lent (f1) rfl ?_) | (refine CallE.own (f1) ?_) | (refine CallH.pure (f1) rfl ?_) | (refine CallH.lent (f1) rfl ?_) | (refine CallH.own (f1) ?_) | (refine CallE.pure (f2) rfl ?_) | (refine CallE.lent (f2) rfl ?_) | (refine CallF.pure (f2) rfl ?_) | (refine CallF.lent (f2) rfl ?_) | (refine CallE.own (f2) ?_) | (refine CallH.pure (f2) rfl ?_) | (refine CallH.lent (f2) rfl ?_) | (refine CallH.own (f2) ?_) | (refine CallE.pure (k1) rfl ?_) | (refine CallE.lent (k1) rfl ?_) | (refine CallF.pure (k1) rfl ?_) | (refine CallF.lent (k1) rfl ?_) | (refine CallE.own (k1) ?_) | (refine CallH.pure (k1) rfl ?_) | (refine CallH.lent (k1) rfl ?_) | (refine CallH.own (k1) ?_) | (refine CallE.pure (k2) rfl ?_) | (refine CallE.lent (k2) rfl ?_) | (refine CallF.pure (k2) rfl ?_) | (refine CallF.lent (k2) rfl ?_) | (refine CallE.own (k2) ?_) | (refine CallH.pure (k2) rfl ?_) | (refine CallH.lent (k2) rfl ?_) | (refine CallH.own (k2) ?_) | (refine CallE.pure (awake06) rfl ?_) | (refine CallE.lent (awake06) rfl ?_) | (refine CallF.pure (awake06) rfl ?_) | (refine CallF.lent (awake06) rfl ?_) | (refine CallE.own (awake06) ?_) | (refine CallH.pure (awake06) rfl ?_) | (refine CallH.lent (awake06) rfl ?_) | (refine CallH.own (awake06) ?_) | (refine hK _ ?_; clear hK) | (refine hK _ _ ?_; clear hK) | (clear hK; refine hK _ ?_; clear hK) | (clear hK; clear hK; refine hK _ ?_; clear hK) | (clear hK; clear hK; clear hK; refine hK _ ?_; clear hK) | (clear hK; clear hK; clear hK; clear hK; refine hK _ ?_; clear hK) | (refine wSeq fun K hK => ?_) | ((first | refine wReg ?_ | refine wDrwQ rfl (by kernel_rfl) ?_ | refine wDrwI ?_ | refine wDrw (by kernel_rfl) ?_); simp only [List.map_cons, List.map_nil, strip]) | ((first | refine wIs fun K hK => ?_ | refine wOs fun K hK => ?_ | refine wQs fun K hK => ?_ | refine CallK_plain ?_ | refine CallQ_plain ?_ | refine CallR_plain ?_ | refine wCond ?_); simp [hb]) | (refine wIn ?_; refine And.intro (by kernel_rfl) ?_; try simp only [thenA_n]) | (first | refine wBlock ?_ | refine wScope ?_) | ((first | refine wRet ?_ | refine wExit ?_ | refine wSkip ?_); try simp) | ((first | refine wLabel ?_ | refine wOn ?_ | refine wQn ?_); try simp only [thenA_n])
    all_goals apply hr
    all_goals simp [Try.f3]
  have d1 := diff_con a b (by omega) (by omega)
  have d2 := diff_con b a (by omega) (by omega)
  have p1 := apply_con a (diff a b) b.ep b.n (fun _ _ => all_len ha hb) (by omega) (by have := dput_len a.ms b.ms; simp only [diff]; omega) (by have := ddrop_len a.ms b.ms; simp only [diff]; omega)
  have p2 := apply_con b (diff b a) a.ep a.n (fun _ _ => all_len hb ha) (by omega) (by have := dput_len b.ms a.ms; simp only [diff]; omega) (by have := ddrop_len b.ms a.ms; simp only [diff]; omega)
  rw [(app_diff ha hb).1, (app_diff ha hb).2] at p1
  rw [(app_diff hb ha).1, (app_diff hb ha).2] at p2
  have s1 := cfSame04_con b b
  have s2 := cfSame04_con a a
  rw [decide_eq_true rfl] at s1 s2
  rw [ha] at k1
  rw [hb] at k2
  clear ha hb h1 h2
  generalize diff a b = x at *
  generalize diff b a = y at *
  obtain ⟨ae, an, ak, am⟩ := a
  obtain ⟨be, bn, bk, bm⟩ := b
  obtain ⟨xk, xp, xd⟩ := x
  obtain ⟨yk, yp, yd⟩ := y
  simp only [Cf.cells, Dl.cells, mbs, ints, List.map_nil] at *
  refine wBody Try.tab Try.mixed Try.func3 rfl rfl Try.ntmps3 (by simp) (by simp) fun Q hr hn => ?_
  repeat' first | (refine CallE.pure (f1) rfl ?_) | (refine CallE.lent (f1) rfl ?_) | (refine CallF.pure (f1) rfl ?_) | (refine CallF.lent (f1) rfl ?_) | (refine CallE.own (f1) ?_) | (refine CallH.pure (f1) rfl ?_) | (refine CallH.lent (f1) rfl ?_) | (refine CallH.own (f1) ?_) | (refine CallE.pure (f2) rfl ?_) | (refine CallE.lent (f2) rfl ?_) | (refine CallF.pure (f2) rfl ?_) | (refine CallF.lent (f2) rfl ?_) | (refine CallE.own (f2) ?_) | (refine CallH.pure (f2) rfl ?_) | (refine CallH.lent (f2) rfl ?_) | (refine CallH.own (f2) ?_) | (refine CallE.pure (k1) rfl ?_) | (refine CallE.lent (k1) rfl ?_) | (refine CallF.pure (k1) rfl ?_) | (refine CallF.lent (k1) rfl ?_) | (refine CallE.own (k1) ?_) | (refine CallH.pure (k1) rfl ?_) | (refine CallH.lent (k1) rfl ?_) | (refine CallH.own (k1) ?_) | (refine CallE.pure (k2) rfl ?_) | (refine CallE.lent (k2) rfl ?_) | (refine CallF.pure (k2) rfl ?_) | (refine CallF.lent (k2) rfl ?_) | (refine CallE.own (k2) ?_) | (refine CallH.pure (k2) rfl ?_) | (refine CallH.lent (k2) rfl ?_) | (refine CallH.own (k2) ?_) | (refine CallE.pure (d1) rfl ?_) | (refine CallE.lent (d1) rfl ?_) | (refine CallF.pure (d1) rfl ?_) | (refine CallF.lent (d1) rfl ?_) | (refine CallE.own (d1) ?_) | (refine CallH.pure (d1) rfl ?_) | (refine CallH.lent (d1) rfl ?_) | (refine CallH.own (d1) ?_) | (refine CallE.pure (d2) rfl ?_) | (refine CallE.lent (d2) rfl ?_) | (refine CallF.pure (d2) rfl ?_) | (refine CallF.lent (d2) rfl ?_) | (refine CallE.own (d2) ?_) | (refine CallH.pure (d2) rfl ?_) | (refine CallH.lent (d2) rfl ?_) | (refine CallH.own (d2) ?_) | (refine CallE.pure (p1) rfl ?_) | (refine CallE.lent (p1) rfl ?_) | (refine CallF.pure (p1) rfl ?_) | (refine CallF.lent (p1) rfl ?_) | (refine CallE.own (p1) ?_) | (refine CallH.pure (p1) rfl ?_) | (refine CallH.lent (p1) rfl ?_) | (refine CallH.own (p1) ?_) | (refine CallE.pure (p2) rfl ?_) | (refine CallE.lent (p2) rfl ?_) | (refine CallF.pure (p2) rfl ?_) | (refine CallF.lent (p2) rfl ?_) | (refine CallE.own (p2) ?_) | (refine CallH.pure (p2) rfl ?_) | (refine CallH.lent (p2) rfl ?_) | (refine CallH.own (p2) ?_) | (refine CallE.pure (s1) rfl ?_) | (refine CallE.lent (s1) rfl ?_) | (refine CallF.pure (s1) rfl ?_) | (refine CallF.lent (s1) rfl ?_) | (refine CallE.own (s1) ?_) | (refine CallH.pure (s1) rfl ?_) | (refine CallH.lent (s1) rfl ?_) | (refine CallH.own (s1) ?_) | (refine CallE.pure (s2) rfl ?_) | (refine CallE.lent (s2) rfl ?_) | (refine CallF.pure (s2) rfl ?_) | (refine CallF.lent (s2) rfl ?_) | (refine CallE.own (s2) ?_) | (refine CallH.pure (s2) rfl ?_) | (refine CallH.lent (s2) rfl ?_) | (refine CallH.own (s2) ?_) | (refine CallE.pure (awake06) rfl ?_) | (refine CallE.lent (awake06) rfl ?_) | (refine CallF.pure (awake06) rfl ?_) | (refine CallF.lent (awake06) rfl ?_) | (refine CallE.own (awake06) ?_) | (refine CallH.pure (awake06) rfl ?_) | (refine CallH.lent (awake06) rfl ?_) | (refine CallH.own (awake06) ?_) | (refine hK _ ?_; clear hK) | (refine hK _ _ ?_; clear hK) | (clear hK; refine hK _ ?_; clear hK) | (clear hK; clear hK; refine hK _ ?_; clear hK) | (clear hK; clear hK; clear hK; refine hK _ ?_; clear hK) | (clear hK; clear hK; clear hK; clear hK; refine hK _ ?_; clear hK) | (refine wSeq fun K hK => ?_) | ((first | refine wReg ?_ | refine wDrwQ rfl (by kernel_rfl) ?_ | refine wDrwI ?_ | refine wDrw (by kernel_rfl) ?_); simp only [List.map_cons, List.map_nil, strip]) | ((first | refine wIs fun K hK => ?_ | refine wOs fun K hK => ?_ | refine wQs fun K hK => ?_ | refine CallK_plain ?_ | refine CallQ_plain ?_ | refine CallR_plain ?_ | refine wCond ?_); simp) | (refine wIn ?_; refine And.intro (by kernel_rfl) ?_; try simp only [thenA_n]) | (first | refine wBlock ?_ | refine wScope ?_) | ((first | refine wRet ?_ | refine wExit ?_ | refine wSkip ?_); try simp) | ((first | refine wLabel ?_ | refine wOn ?_ | refine wQn ?_); try simp only [thenA_n])
  all_goals apply hr
  all_goals simp [Try.f3]
end Go.Proofs.Ytiemabhnhgablaa
