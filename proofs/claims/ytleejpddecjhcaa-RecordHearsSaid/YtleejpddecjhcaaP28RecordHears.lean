/- Texts that the proof needs: RG6e RG8b RG7d RG9a RD1 RD2 RG4. -/
import Derived.Test.YtleejpddecjhcaaP25RecordHears
import Derived.Test.YtleejpddecjhcaaP26RecordHears
import Derived.Test.YtleejpddecjhcaaP24RecordHears
import Derived.Test.YtleejpddecjhcaaP27RecordHears
import Derived.Test.YtleejpddecjhcaaP19RecordHears
import Derived.Test.YtleejpddecjhcaaP20RecordHears
namespace Go.Proofs.Ytleejpddecjhcaa
set_option linter.unusedSimpArgs false
set_option linter.unusedVariables false
set_option maxRecDepth 8000
open Go Go.Av
attribute [local irreducible] Go.Av.CallK Go.Av.CallE Go.Av.CallQ Go.Av.CallF Go.Av.CallR Go.Av.CallH Go.Av.Con
set_option maxHeartbeats 4000000 in
theorem rPl : RCn 121 fPl := by
 intro b a hb
 generalize ho : rO b (vOf (fPl.rd b (0, a)).1) (fPl.rd b (0, a)).2 = out
 have c0 := rnum b a hb
 refine wBodyG Try.tab Try.mixed Try.func121 rfl rfl Try.ntmps121 (by simp) (by simp) fun Q hr hn hp => ?_
 repeat' first | (refine hK _ ?_; clear hK) | (refine hK _ _ ?_; clear hK) | (clear hK; refine hK _ ?_; clear hK) | (clear hK; clear hK; refine hK _ ?_; clear hK) | (clear hK; clear hK; clear hK; refine hK _ ?_; clear hK) | (clear hK; clear hK; clear hK; clear hK; refine hK _ ?_; clear hK) | (refine wSeq fun K hK => ?_) | ((first | refine wReg ?_ | refine wDrwQ rfl (by kernel_rfl) ?_ | refine wDrwI ?_ | refine wDrw (by kernel_rfl) ?_); simp only [List.map_cons, List.map_nil, strip]) | ((first | refine wIs fun K hK => ?_ | refine wOs fun K hK => ?_ | refine wQs fun K hK => ?_ | refine CallQ_plain ?_ | refine CallR_plain ?_ | refine wCond ?_); simp) | (refine wIn ?_; refine And.intro (by kernel_rfl) ?_; try simp only [thenA_n]) | (first | refine wBlock ?_ | refine wScope ?_) | ((first | refine wRet ?_ | refine wExit ?_ | refine wSkip ?_); try simp) | ((first | refine wLabel ?_ | refine wOn ?_ | refine wQn ?_); try simp only [thenA_n])
 obtain ⟨x0, ⟨q0, a0⟩, e0⟩ := foI_got b (0, a)
 rw [e0] at c0
 simp only [vOf1, vOf2] at c0
 by_cases z0 : q0 = 0
 rotate_left
 ·have hz : (fPl.rd b (0, a)).2 = (q0, a0) := by simp only [fPl, sq_rd, e0, fZx_L.stk b q0 a0 z0, fSt_L.stk b q0 a0 z0, (fl_L fTx_L 8).stk b q0 a0 z0]
  rw [hz, rO_err _ _ _ z0] at ho
  subst ho
  rw [rO_err _ _ _ z0] at c0
  refine CallK_gen [1024] c0 (by decide) (by decide) (by simp [blksOf, inN, pos, renB, ren0, ouN, lv, kpI, kpR]) (by simp [argsG, argG, ren0, inN, pos, renCs, renC]) ?_
  simp [GenK, lv, ouN, kpI, kpR, pos, ren, ren0, renB, renC, renCs]
  all_goals try simp only [thenA_p, blockA_p]
  all_goals apply hp
  all_goals simp [AResP, outB, renB, gaN, lv, ouN, kpI, kpR, pos, ren, ren0, renC, renCs]
 subst z0
 rw [rO_ok] at c0
 refine CallK_gen [1024] c0 (by decide) (by decide) (by simp [blksOf, inN, pos, renB, ren0, ouN, lv, kpI, kpR]) (by simp [argsG, argG, ren0, inN, pos, renCs, renC]) ⟨[], by simp, by simp, ?_⟩
 simp [lv, ouN, kpI, kpR, pos, ren, ren0, renB, renC, renCs]
 repeat' first | (refine hK _ ?_; clear hK) | (refine hK _ _ ?_; clear hK) | (clear hK; refine hK _ ?_; clear hK) | (clear hK; clear hK; refine hK _ ?_; clear hK) | (clear hK; clear hK; clear hK; refine hK _ ?_; clear hK) | (clear hK; clear hK; clear hK; clear hK; refine hK _ ?_; clear hK) | (refine wSeq fun K hK => ?_) | ((first | refine wReg ?_ | refine wDrwQ rfl (by kernel_rfl) ?_ | refine wDrwI ?_ | refine wDrw (by kernel_rfl) ?_); simp only [List.map_cons, List.map_nil, strip]) | ((first | refine wIs fun K hK => ?_ | refine wOs fun K hK => ?_ | refine wQs fun K hK => ?_ | refine CallQ_plain ?_ | refine CallR_plain ?_ | refine wCond ?_); simp [lv, ouN, kpI, kpR, pos, ren, ren0, renB, renC, renCs]) | (refine wIn ?_; refine And.intro (by kernel_rfl) ?_; try simp only [thenA_n]) | (first | refine wBlock ?_ | refine wScope ?_) | ((first | refine wRet ?_ | refine wExit ?_ | refine wSkip ?_); try simp) | ((first | refine wLabel ?_ | refine wOn ?_ | refine wQn ?_); try simp only [thenA_n])
 have c1 := rZx b a0 hb
 obtain ⟨x1, x2, ⟨q1, a1⟩, e1⟩ := fZx_got b (0, a0)
 rw [e1] at c1
 simp only [vOf1, vOf2] at c1
 by_cases z1 : q1 = 0
 rotate_left
 ·have hz : (fPl.rd b (0, a)).2 = (q1, a1) := by simp only [fPl, sq_rd, e0, e1, fSt_L.stk b q1 a1 z1, (fl_L fTx_L 8).stk b q1 a1 z1]
  rw [hz, rO_err _ _ _ z1] at ho
  subst ho
  rw [rO_err _ _ _ z1] at c1
  refine CallK_gen [1024] c1 (by decide) (by decide) (by simp [blksOf, inN, pos, renB, ren0, ouN, lv, kpI, kpR]) (by simp [argsG, argG, ren0, inN, pos, renCs, renC]) ?_
  simp [GenK, lv, ouN, kpI, kpR, pos, ren, ren0, renB, renC, renCs]
  all_goals try simp only [thenA_p, blockA_p]
  all_goals apply hp
  all_goals simp [AResP, outB, renB, gaN, lv, ouN, kpI, kpR, pos, ren, ren0, renC, renCs]
 subst z1
 rw [rO_ok] at c1
 refine CallK_gen [1024] c1 (by decide) (by decide) (by simp [blksOf, inN, pos, renB, ren0, ouN, lv, kpI, kpR]) (by simp [argsG, argG, ren0, inN, pos, renCs, renC]) ⟨[], by simp, by simp, ?_⟩
 simp [lv, ouN, kpI, kpR, pos, ren, ren0, renB, renC, renCs]
 repeat' first | (refine hK _ ?_; clear hK) | (refine hK _ _ ?_; clear hK) | (clear hK; refine hK _ ?_; clear hK) | (clear hK; clear hK; refine hK _ ?_; clear hK) | (clear hK; clear hK; clear hK; refine hK _ ?_; clear hK) | (clear hK; clear hK; clear hK; clear hK; refine hK _ ?_; clear hK) | (refine wSeq fun K hK => ?_) | ((first | refine wReg ?_ | refine wDrwQ rfl (by kernel_rfl) ?_ | refine wDrwI ?_ | refine wDrw (by kernel_rfl) ?_); simp only [List.map_cons, List.map_nil, strip]) | ((first | refine wIs fun K hK => ?_ | refine wOs fun K hK => ?_ | refine wQs fun K hK => ?_ | refine CallQ_plain ?_ | refine CallR_plain ?_ | refine wCond ?_); simp [lv, ouN, kpI, kpR, pos, ren, ren0, renB, renC, renCs]) | (refine wIn ?_; refine And.intro (by kernel_rfl) ?_; try simp only [thenA_n]) | (first | refine wBlock ?_ | refine wScope ?_) | ((first | refine wRet ?_ | refine wExit ?_ | refine wSkip ?_); try simp) | ((first | refine wLabel ?_ | refine wOn ?_ | refine wQn ?_); try simp only [thenA_n])
 have c2 := rSt b a1 hb
 obtain ⟨x3, x4, x5, x6, x7, x8, x9, x10, x11, ⟨q2, a2⟩, e2⟩ := fSt_got b (0, a1)
 rw [e2] at c2
 simp only [vOf1, vOf2] at c2
 by_cases z2 : q2 = 0
 rotate_left
 ·have hz : (fPl.rd b (0, a)).2 = (q2, a2) := by simp only [fPl, sq_rd, e0, e1, e2, (fl_L fTx_L 8).stk b q2 a2 z2]
  rw [hz, rO_err _ _ _ z2] at ho
  subst ho
  rw [rO_err _ _ _ z2] at c2
  refine CallK_gen [1024] c2 (by decide) (by decide) (by simp [blksOf, inN, pos, renB, ren0, ouN, lv, kpI, kpR]) (by simp [argsG, argG, ren0, inN, pos, renCs, renC]) ?_
  simp [GenK, lv, ouN, kpI, kpR, pos, ren, ren0, renB, renC, renCs]
  all_goals try simp only [thenA_p, blockA_p]
  all_goals apply hp
  all_goals simp [AResP, outB, renB, gaN, lv, ouN, kpI, kpR, pos, ren, ren0, renC, renCs]
 subst z2
 rw [rO_ok] at c2
 refine CallK_gen [1024] c2 (by decide) (by decide) (by simp [blksOf, inN, pos, renB, ren0, ouN, lv, kpI, kpR]) (by simp [argsG, argG, ren0, inN, pos, renCs, renC]) ⟨[], by simp, by simp, ?_⟩
 simp [lv, ouN, kpI, kpR, pos, ren, ren0, renB, renC, renCs]
 repeat' first | (refine hK _ ?_; clear hK) | (refine hK _ _ ?_; clear hK) | (clear hK; refine hK _ ?_; clear hK) | (clear hK; clear hK; refine hK _ ?_; clear hK) | (clear hK; clear hK; clear hK; refine hK _ ?_; clear hK) | (clear hK; clear hK; clear hK; clear hK; refine hK _ ?_; clear hK) | (refine wSeq fun K hK => ?_) | ((first | refine wReg ?_ | refine wDrwQ rfl (by kernel_rfl) ?_ | refine wDrwI ?_ | refine wDrw (by kernel_rfl) ?_); simp only [List.map_cons, List.map_nil, strip]) | ((first | refine wIs fun K hK => ?_ | refine wOs fun K hK => ?_ | refine wQs fun K hK => ?_ | refine CallQ_plain ?_ | refine CallR_plain ?_ | refine wCond ?_); simp [lv, ouN, kpI, kpR, pos, ren, ren0, renB, renC, renCs]) | (refine wIn ?_; refine And.intro (by kernel_rfl) ?_; try simp only [thenA_n]) | (first | refine wBlock ?_ | refine wScope ?_) | ((first | refine wRet ?_ | refine wExit ?_ | refine wSkip ?_); try simp) | ((first | refine wLabel ?_ | refine wOn ?_ | refine wQn ?_); try simp only [thenA_n])
 have c3 := rlTx b a2 hb
 obtain ⟨x12, ⟨q3, a3⟩, e3⟩ := fl_got 8 fTx b (0, a2)
 rw [e3] at c3
 simp only [vOf1, vOf2] at c3
 by_cases z3 : q3 = 0
 rotate_left
 ·have hz : (fPl.rd b (0, a)).2 = (q3, a3) := by simp only [fPl, sq_rd, e0, e1, e2, e3]
  rw [hz, rO_err _ _ _ z3] at ho
  subst ho
  rw [rO_err _ _ _ z3] at c3
  refine CallK_gen [1024] c3 (by decide) (by decide) (by simp [blksOf, inN, pos, renB, ren0, ouN, lv, kpI, kpR]) (by simp [argsG, argG, ren0, inN, pos, renCs, renC]) ?_
  simp [GenK, lv, ouN, kpI, kpR, pos, ren, ren0, renB, renC, renCs]
  all_goals try simp only [thenA_p, blockA_p]
  all_goals apply hp
  all_goals simp [AResP, outB, renB, gaN, lv, ouN, kpI, kpR, pos, ren, ren0, renC, renCs]
 subst z3
 rw [rO_ok] at c3
 refine CallK_gen [1024] c3 (by decide) (by decide) (by simp [blksOf, inN, pos, renB, ren0, ouN, lv, kpI, kpR]) (by simp [argsG, argG, ren0, inN, pos, renCs, renC]) ⟨[], by simp, by simp, ?_⟩
 simp [lv, ouN, kpI, kpR, pos, ren, ren0, renB, renC, renCs]
 repeat' first | (refine hK _ ?_; clear hK) | (refine hK _ _ ?_; clear hK) | (clear hK; refine hK _ ?_; clear hK) | (clear hK; clear hK; refine hK _ ?_; clear hK) | (clear hK; clear hK; clear hK; refine hK _ ?_; clear hK) | (clear hK; clear hK; clear hK; clear hK; refine hK _ ?_; clear hK) | (refine wSeq fun K hK => ?_) | ((first | refine wReg ?_ | refine wDrwQ rfl (by kernel_rfl) ?_ | refine wDrwI ?_ | refine wDrw (by kernel_rfl) ?_); simp only [List.map_cons, List.map_nil, strip]) | ((first | refine wIs fun K hK => ?_ | refine wOs fun K hK => ?_ | refine wQs fun K hK => ?_ | refine CallQ_plain ?_ | refine CallR_plain ?_ | refine wCond ?_); simp [lv, ouN, kpI, kpR, pos, ren, ren0, renB, renC, renCs]) | (refine wIn ?_; refine And.intro (by kernel_rfl) ?_; try simp only [thenA_n]) | (first | refine wBlock ?_ | refine wScope ?_) | ((first | refine wRet ?_ | refine wExit ?_ | refine wSkip ?_); try simp) | ((first | refine wLabel ?_ | refine wOn ?_ | refine wQn ?_); try simp only [thenA_n])
 have hz : fPl.rd b (0, a) = ([I x0, I x1, I x2, .sl 5 x3, .sl 1 x4, I x5, I x6, I x7, I x8, .sl 4 x9, I x10, I x11, .sl 8 x12], 0, a3) := by simp only [fPl, sq_rd, e0, e1, e2, e3, List.cons_append, List.nil_append]
 rw [hz] at ho
 simp only [rO_ok, vOf2] at ho
 subst ho
 all_goals first | apply hr
 all_goals refine ⟨[], by simp, by simp, ?_⟩
 all_goals simp [Try.f121, outR, outB, renB, gaN, lv, ouN, kpI, kpR, pos, ren, ren0, renC, renCs]
set_option maxHeartbeats 16000000 in
theorem rMs : RCn 75 fMs := by
 intro b a hb
 generalize ho : rO b (vOf (fMs.rd b (0, a)).1) (fMs.rd b (0, a)).2 = out
 have c0 := rnum b a hb
 refine wBodyG Try.tab Try.mixed Try.func75 rfl rfl Try.ntmps75 (by simp) (by simp) fun Q hr hn hp => ?_
 repeat' first | (refine hK _ ?_; clear hK) | (refine hK _ _ ?_; clear hK) | (clear hK; refine hK _ ?_; clear hK) | (clear hK; clear hK; refine hK _ ?_; clear hK) | (clear hK; clear hK; clear hK; refine hK _ ?_; clear hK) | (clear hK; clear hK; clear hK; clear hK; refine hK _ ?_; clear hK) | (refine wSeq fun K hK => ?_) | ((first | refine wReg ?_ | refine wDrwQ rfl (by kernel_rfl) ?_ | refine wDrwI ?_ | refine wDrw (by kernel_rfl) ?_); simp only [List.map_cons, List.map_nil, strip]) | ((first | refine wIs fun K hK => ?_ | refine wOs fun K hK => ?_ | refine wQs fun K hK => ?_ | refine CallQ_plain ?_ | refine CallR_plain ?_ | refine wCond ?_); simp) | (refine wIn ?_; refine And.intro (by kernel_rfl) ?_; try simp only [thenA_n]) | (first | refine wBlock ?_ | refine wScope ?_) | ((first | refine wRet ?_ | refine wExit ?_ | refine wSkip ?_); try simp) | ((first | refine wLabel ?_ | refine wOn ?_ | refine wQn ?_); try simp only [thenA_n])
 obtain ⟨x0, ⟨q0, a0⟩, e0⟩ := foI_got b (0, a)
 rw [e0] at c0
 simp only [vOf1, vOf2] at c0
 by_cases z0 : q0 = 0
 rotate_left
 ·have hz : (fMs.rd b (0, a)).2 = (q0, a0) := by simp only [fMs, sq_rd, e0, foI_L.stk b q0 a0 z0, fVt_L.stk b q0 a0 z0, fZx_L.stk b q0 a0 z0, (fl_L fZx_L 2).stk b q0 a0 z0, fPl_L.stk b q0 a0 z0, fTx_L.stk b q0 a0 z0, (fl_L foI_L 1).stk b q0 a0 z0, fRq_L.stk b q0 a0 z0]
  rw [hz, rO_err _ _ _ z0] at ho
  subst ho
  rw [rO_err _ _ _ z0] at c0
  refine CallK_gen [1024] c0 (by decide) (by decide) (by simp [blksOf, inN, pos, renB, ren0, ouN, lv, kpI, kpR]) (by simp [argsG, argG, ren0, inN, pos, renCs, renC]) ?_
  simp [GenK, lv, ouN, kpI, kpR, pos, ren, ren0, renB, renC, renCs]
  all_goals try simp only [thenA_p, blockA_p]
  all_goals apply hp
  all_goals simp [AResP, outB, renB, gaN, lv, ouN, kpI, kpR, pos, ren, ren0, renC, renCs]
 subst z0
 rw [rO_ok] at c0
 refine CallK_gen [1024] c0 (by decide) (by decide) (by simp [blksOf, inN, pos, renB, ren0, ouN, lv, kpI, kpR]) (by simp [argsG, argG, ren0, inN, pos, renCs, renC]) ⟨[], by simp, by simp, ?_⟩
 simp [lv, ouN, kpI, kpR, pos, ren, ren0, renB, renC, renCs]
 repeat' first | (refine hK _ ?_; clear hK) | (refine hK _ _ ?_; clear hK) | (clear hK; refine hK _ ?_; clear hK) | (clear hK; clear hK; refine hK _ ?_; clear hK) | (clear hK; clear hK; clear hK; refine hK _ ?_; clear hK) | (clear hK; clear hK; clear hK; clear hK; refine hK _ ?_; clear hK) | (refine wSeq fun K hK => ?_) | ((first | refine wReg ?_ | refine wDrwQ rfl (by kernel_rfl) ?_ | refine wDrwI ?_ | refine wDrw (by kernel_rfl) ?_); simp only [List.map_cons, List.map_nil, strip]) | ((first | refine wIs fun K hK => ?_ | refine wOs fun K hK => ?_ | refine wQs fun K hK => ?_ | refine CallQ_plain ?_ | refine CallR_plain ?_ | refine wCond ?_); simp [lv, ouN, kpI, kpR, pos, ren, ren0, renB, renC, renCs]) | (refine wIn ?_; refine And.intro (by kernel_rfl) ?_; try simp only [thenA_n]) | (first | refine wBlock ?_ | refine wScope ?_) | ((first | refine wRet ?_ | refine wExit ?_ | refine wSkip ?_); try simp) | ((first | refine wLabel ?_ | refine wOn ?_ | refine wQn ?_); try simp only [thenA_n])
 have c1 := rnum b a0 hb
 obtain ⟨x1, ⟨q1, a1⟩, e1⟩ := foI_got b (0, a0)
 rw [e1] at c1
 simp only [vOf1, vOf2] at c1
 by_cases z1 : q1 = 0
 rotate_left
 ·have hz : (fMs.rd b (0, a)).2 = (q1, a1) := by simp only [fMs, sq_rd, e0, e1, foI_L.stk b q1 a1 z1, fVt_L.stk b q1 a1 z1, fZx_L.stk b q1 a1 z1, (fl_L fZx_L 2).stk b q1 a1 z1, fPl_L.stk b q1 a1 z1, fTx_L.stk b q1 a1 z1, (fl_L foI_L 1).stk b q1 a1 z1, fRq_L.stk b q1 a1 z1]
  rw [hz, rO_err _ _ _ z1] at ho
  subst ho
  rw [rO_err _ _ _ z1] at c1
  refine CallK_gen [1024] c1 (by decide) (by decide) (by simp [blksOf, inN, pos, renB, ren0, ouN, lv, kpI, kpR]) (by simp [argsG, argG, ren0, inN, pos, renCs, renC]) ?_
  simp [GenK, lv, ouN, kpI, kpR, pos, ren, ren0, renB, renC, renCs]
  all_goals try simp only [thenA_p, blockA_p]
  all_goals apply hp
  all_goals simp [AResP, outB, renB, gaN, lv, ouN, kpI, kpR, pos, ren, ren0, renC, renCs]
 subst z1
 rw [rO_ok] at c1
 refine CallK_gen [1024] c1 (by decide) (by decide) (by simp [blksOf, inN, pos, renB, ren0, ouN, lv, kpI, kpR]) (by simp [argsG, argG, ren0, inN, pos, renCs, renC]) ⟨[], by simp, by simp, ?_⟩
 simp [lv, ouN, kpI, kpR, pos, ren, ren0, renB, renC, renCs]
 repeat' first | (refine hK _ ?_; clear hK) | (refine hK _ _ ?_; clear hK) | (clear hK; refine hK _ ?_; clear hK) | (clear hK; clear hK; refine hK _ ?_; clear hK) | (clear hK; clear hK; clear hK; refine hK _ ?_; clear hK) | (clear hK; clear hK; clear hK; clear hK; refine hK _ ?_; clear hK) | (refine wSeq fun K hK => ?_) | ((first | refine wReg ?_ | refine wDrwQ rfl (by kernel_rfl) ?_ | refine wDrwI ?_ | refine wDrw (by kernel_rfl) ?_); simp only [List.map_cons, List.map_nil, strip]) | ((first | refine wIs fun K hK => ?_ | refine wOs fun K hK => ?_ | refine wQs fun K hK => ?_ | refine CallQ_plain ?_ | refine CallR_plain ?_ | refine wCond ?_); simp [lv, ouN, kpI, kpR, pos, ren, ren0, renB, renC, renCs]) | (refine wIn ?_; refine And.intro (by kernel_rfl) ?_; try simp only [thenA_n]) | (first | refine wBlock ?_ | refine wScope ?_) | ((first | refine wRet ?_ | refine wExit ?_ | refine wSkip ?_); try simp) | ((first | refine wLabel ?_ | refine wOn ?_ | refine wQn ?_); try simp only [thenA_n])
 have c2 := rnum b a1 hb
 obtain ⟨x2, ⟨q2, a2⟩, e2⟩ := foI_got b (0, a1)
 rw [e2] at c2
 simp only [vOf1, vOf2] at c2
 by_cases z2 : q2 = 0
 rotate_left
 ·have hz : (fMs.rd b (0, a)).2 = (q2, a2) := by simp only [fMs, sq_rd, e0, e1, e2, fVt_L.stk b q2 a2 z2, foI_L.stk b q2 a2 z2, fZx_L.stk b q2 a2 z2, (fl_L fZx_L 2).stk b q2 a2 z2, fPl_L.stk b q2 a2 z2, fTx_L.stk b q2 a2 z2, (fl_L foI_L 1).stk b q2 a2 z2, fRq_L.stk b q2 a2 z2]
  rw [hz, rO_err _ _ _ z2] at ho
  subst ho
  rw [rO_err _ _ _ z2] at c2
  refine CallK_gen [1024] c2 (by decide) (by decide) (by simp [blksOf, inN, pos, renB, ren0, ouN, lv, kpI, kpR]) (by simp [argsG, argG, ren0, inN, pos, renCs, renC]) ?_
  simp [GenK, lv, ouN, kpI, kpR, pos, ren, ren0, renB, renC, renCs]
  all_goals try simp only [thenA_p, blockA_p]
  all_goals apply hp
  all_goals simp [AResP, outB, renB, gaN, lv, ouN, kpI, kpR, pos, ren, ren0, renC, renCs]
 subst z2
 rw [rO_ok] at c2
 refine CallK_gen [1024] c2 (by decide) (by decide) (by simp [blksOf, inN, pos, renB, ren0, ouN, lv, kpI, kpR]) (by simp [argsG, argG, ren0, inN, pos, renCs, renC]) ⟨[], by simp, by simp, ?_⟩
 simp [lv, ouN, kpI, kpR, pos, ren, ren0, renB, renC, renCs]
 repeat' first | (refine hK _ ?_; clear hK) | (refine hK _ _ ?_; clear hK) | (clear hK; refine hK _ ?_; clear hK) | (clear hK; clear hK; refine hK _ ?_; clear hK) | (clear hK; clear hK; clear hK; refine hK _ ?_; clear hK) | (clear hK; clear hK; clear hK; clear hK; refine hK _ ?_; clear hK) | (refine wSeq fun K hK => ?_) | ((first | refine wReg ?_ | refine wDrwQ rfl (by kernel_rfl) ?_ | refine wDrwI ?_ | refine wDrw (by kernel_rfl) ?_); simp only [List.map_cons, List.map_nil, strip]) | ((first | refine wIs fun K hK => ?_ | refine wOs fun K hK => ?_ | refine wQs fun K hK => ?_ | refine CallQ_plain ?_ | refine CallR_plain ?_ | refine wCond ?_); simp [lv, ouN, kpI, kpR, pos, ren, ren0, renB, renC, renCs]) | (refine wIn ?_; refine And.intro (by kernel_rfl) ?_; try simp only [thenA_n]) | (first | refine wBlock ?_ | refine wScope ?_) | ((first | refine wRet ?_ | refine wExit ?_ | refine wSkip ?_); try simp) | ((first | refine wLabel ?_ | refine wOn ?_ | refine wQn ?_); try simp only [thenA_n])
 have c3 := rVt b a2 hb
 obtain ⟨x3, x4, x5, x6, x7, x8, x9, ⟨q3, a3⟩, e3⟩ := fVt_got b (0, a2)
 rw [e3] at c3
 simp only [vOf1, vOf2] at c3
 by_cases z3 : q3 = 0
 rotate_left
 ·have hz : (fMs.rd b (0, a)).2 = (q3, a3) := by simp only [fMs, sq_rd, e0, e1, e2, e3, foI_L.stk b q3 a3 z3, fZx_L.stk b q3 a3 z3, (fl_L fZx_L 2).stk b q3 a3 z3, fPl_L.stk b q3 a3 z3, fTx_L.stk b q3 a3 z3, (fl_L foI_L 1).stk b q3 a3 z3, fRq_L.stk b q3 a3 z3]
  rw [hz, rO_err _ _ _ z3] at ho
  subst ho
  rw [rO_err _ _ _ z3] at c3
  refine CallK_gen [1024] c3 (by decide) (by decide) (by simp [blksOf, inN, pos, renB, ren0, ouN, lv, kpI, kpR]) (by simp [argsG, argG, ren0, inN, pos, renCs, renC]) ?_
  simp [GenK, lv, ouN, kpI, kpR, pos, ren, ren0, renB, renC, renCs]
  all_goals try simp only [thenA_p, blockA_p]
  all_goals apply hp
  all_goals simp [AResP, outB, renB, gaN, lv, ouN, kpI, kpR, pos, ren, ren0, renC, renCs]
 subst z3
 rw [rO_ok] at c3
 refine CallK_gen [1024] c3 (by decide) (by decide) (by simp [blksOf, inN, pos, renB, ren0, ouN, lv, kpI, kpR]) (by simp [argsG, argG, ren0, inN, pos, renCs, renC]) ⟨[], by simp, by simp, ?_⟩
 simp [lv, ouN, kpI, kpR, pos, ren, ren0, renB, renC, renCs]
 repeat' first | (refine hK _ ?_; clear hK) | (refine hK _ _ ?_; clear hK) | (clear hK; refine hK _ ?_; clear hK) | (clear hK; clear hK; refine hK _ ?_; clear hK) | (clear hK; clear hK; clear hK; refine hK _ ?_; clear hK) | (clear hK; clear hK; clear hK; clear hK; refine hK _ ?_; clear hK) | (refine wSeq fun K hK => ?_) | ((first | refine wReg ?_ | refine wDrwQ rfl (by kernel_rfl) ?_ | refine wDrwI ?_ | refine wDrw (by kernel_rfl) ?_); simp only [List.map_cons, List.map_nil, strip]) | ((first | refine wIs fun K hK => ?_ | refine wOs fun K hK => ?_ | refine wQs fun K hK => ?_ | refine CallQ_plain ?_ | refine CallR_plain ?_ | refine wCond ?_); simp [lv, ouN, kpI, kpR, pos, ren, ren0, renB, renC, renCs]) | (refine wIn ?_; refine And.intro (by kernel_rfl) ?_; try simp only [thenA_n]) | (first | refine wBlock ?_ | refine wScope ?_) | ((first | refine wRet ?_ | refine wExit ?_ | refine wSkip ?_); try simp) | ((first | refine wLabel ?_ | refine wOn ?_ | refine wQn ?_); try simp only [thenA_n])
 have c4 := rnum b a3 hb
 obtain ⟨x10, ⟨q4, a4⟩, e4⟩ := foI_got b (0, a3)
 rw [e4] at c4
 simp only [vOf1, vOf2] at c4
 by_cases z4 : q4 = 0
 rotate_left
 ·have hz : (fMs.rd b (0, a)).2 = (q4, a4) := by simp only [fMs, sq_rd, e0, e1, e2, e3, e4, foI_L.stk b q4 a4 z4, fZx_L.stk b q4 a4 z4, (fl_L fZx_L 2).stk b q4 a4 z4, fPl_L.stk b q4 a4 z4, fTx_L.stk b q4 a4 z4, (fl_L foI_L 1).stk b q4 a4 z4, fRq_L.stk b q4 a4 z4]
  rw [hz, rO_err _ _ _ z4] at ho
  subst ho
  rw [rO_err _ _ _ z4] at c4
  refine CallK_gen [1024] c4 (by decide) (by decide) (by simp [blksOf, inN, pos, renB, ren0, ouN, lv, kpI, kpR]) (by simp [argsG, argG, ren0, inN, pos, renCs, renC]) ?_
  simp [GenK, lv, ouN, kpI, kpR, pos, ren, ren0, renB, renC, renCs]
  all_goals try simp only [thenA_p, blockA_p]
  all_goals apply hp
  all_goals simp [AResP, outB, renB, gaN, lv, ouN, kpI, kpR, pos, ren, ren0, renC, renCs]
 subst z4
 rw [rO_ok] at c4
 refine CallK_gen [1024] c4 (by decide) (by decide) (by simp [blksOf, inN, pos, renB, ren0, ouN, lv, kpI, kpR]) (by simp [argsG, argG, ren0, inN, pos, renCs, renC]) ⟨[], by simp, by simp, ?_⟩
 simp [lv, ouN, kpI, kpR, pos, ren, ren0, renB, renC, renCs]
 repeat' first | (refine hK _ ?_; clear hK) | (refine hK _ _ ?_; clear hK) | (clear hK; refine hK _ ?_; clear hK) | (clear hK; clear hK; refine hK _ ?_; clear hK) | (clear hK; clear hK; clear hK; refine hK _ ?_; clear hK) | (clear hK; clear hK; clear hK; clear hK; refine hK _ ?_; clear hK) | (refine wSeq fun K hK => ?_) | ((first | refine wReg ?_ | refine wDrwQ rfl (by kernel_rfl) ?_ | refine wDrwI ?_ | refine wDrw (by kernel_rfl) ?_); simp only [List.map_cons, List.map_nil, strip]) | ((first | refine wIs fun K hK => ?_ | refine wOs fun K hK => ?_ | refine wQs fun K hK => ?_ | refine CallQ_plain ?_ | refine CallR_plain ?_ | refine wCond ?_); simp [lv, ouN, kpI, kpR, pos, ren, ren0, renB, renC, renCs]) | (refine wIn ?_; refine And.intro (by kernel_rfl) ?_; try simp only [thenA_n]) | (first | refine wBlock ?_ | refine wScope ?_) | ((first | refine wRet ?_ | refine wExit ?_ | refine wSkip ?_); try simp) | ((first | refine wLabel ?_ | refine wOn ?_ | refine wQn ?_); try simp only [thenA_n])
 have c5 := rnum b a4 hb
 obtain ⟨x11, ⟨q5, a5⟩, e5⟩ := foI_got b (0, a4)
 rw [e5] at c5
 simp only [vOf1, vOf2] at c5
 by_cases z5 : q5 = 0
 rotate_left
 ·have hz : (fMs.rd b (0, a)).2 = (q5, a5) := by simp only [fMs, sq_rd, e0, e1, e2, e3, e4, e5, fZx_L.stk b q5 a5 z5, (fl_L fZx_L 2).stk b q5 a5 z5, fPl_L.stk b q5 a5 z5, fTx_L.stk b q5 a5 z5, (fl_L foI_L 1).stk b q5 a5 z5, fRq_L.stk b q5 a5 z5]
  rw [hz, rO_err _ _ _ z5] at ho
  subst ho
  rw [rO_err _ _ _ z5] at c5
  refine CallK_gen [1024] c5 (by decide) (by decide) (by simp [blksOf, inN, pos, renB, ren0, ouN, lv, kpI, kpR]) (by simp [argsG, argG, ren0, inN, pos, renCs, renC]) ?_
  simp [GenK, lv, ouN, kpI, kpR, pos, ren, ren0, renB, renC, renCs]
  all_goals try simp only [thenA_p, blockA_p]
  all_goals apply hp
  all_goals simp [AResP, outB, renB, gaN, lv, ouN, kpI, kpR, pos, ren, ren0, renC, renCs]
 subst z5
 rw [rO_ok] at c5
 refine CallK_gen [1024] c5 (by decide) (by decide) (by simp [blksOf, inN, pos, renB, ren0, ouN, lv, kpI, kpR]) (by simp [argsG, argG, ren0, inN, pos, renCs, renC]) ⟨[], by simp, by simp, ?_⟩
 simp [lv, ouN, kpI, kpR, pos, ren, ren0, renB, renC, renCs]
 repeat' first | (refine hK _ ?_; clear hK) | (refine hK _ _ ?_; clear hK) | (clear hK; refine hK _ ?_; clear hK) | (clear hK; clear hK; refine hK _ ?_; clear hK) | (clear hK; clear hK; clear hK; refine hK _ ?_; clear hK) | (clear hK; clear hK; clear hK; clear hK; refine hK _ ?_; clear hK) | (refine wSeq fun K hK => ?_) | ((first | refine wReg ?_ | refine wDrwQ rfl (by kernel_rfl) ?_ | refine wDrwI ?_ | refine wDrw (by kernel_rfl) ?_); simp only [List.map_cons, List.map_nil, strip]) | ((first | refine wIs fun K hK => ?_ | refine wOs fun K hK => ?_ | refine wQs fun K hK => ?_ | refine CallQ_plain ?_ | refine CallR_plain ?_ | refine wCond ?_); simp [lv, ouN, kpI, kpR, pos, ren, ren0, renB, renC, renCs]) | (refine wIn ?_; refine And.intro (by kernel_rfl) ?_; try simp only [thenA_n]) | (first | refine wBlock ?_ | refine wScope ?_) | ((first | refine wRet ?_ | refine wExit ?_ | refine wSkip ?_); try simp) | ((first | refine wLabel ?_ | refine wOn ?_ | refine wQn ?_); try simp only [thenA_n])
 have c6 := rZx b a5 hb
 obtain ⟨x12, x13, ⟨q6, a6⟩, e6⟩ := fZx_got b (0, a5)
 rw [e6] at c6
 simp only [vOf1, vOf2] at c6
 by_cases z6 : q6 = 0
 rotate_left
 ·have hz : (fMs.rd b (0, a)).2 = (q6, a6) := by simp only [fMs, sq_rd, e0, e1, e2, e3, e4, e5, e6, (fl_L fZx_L 2).stk b q6 a6 z6, fPl_L.stk b q6 a6 z6, fTx_L.stk b q6 a6 z6, (fl_L foI_L 1).stk b q6 a6 z6, fRq_L.stk b q6 a6 z6]
  rw [hz, rO_err _ _ _ z6] at ho
  subst ho
  rw [rO_err _ _ _ z6] at c6
  refine CallK_gen [1024] c6 (by decide) (by decide) (by simp [blksOf, inN, pos, renB, ren0, ouN, lv, kpI, kpR]) (by simp [argsG, argG, ren0, inN, pos, renCs, renC]) ?_
  simp [GenK, lv, ouN, kpI, kpR, pos, ren, ren0, renB, renC, renCs]
  all_goals try simp only [thenA_p, blockA_p]
  all_goals apply hp
  all_goals simp [AResP, outB, renB, gaN, lv, ouN, kpI, kpR, pos, ren, ren0, renC, renCs]
 subst z6
 rw [rO_ok] at c6
 refine CallK_gen [1024] c6 (by decide) (by decide) (by simp [blksOf, inN, pos, renB, ren0, ouN, lv, kpI, kpR]) (by simp [argsG, argG, ren0, inN, pos, renCs, renC]) ⟨[], by simp, by simp, ?_⟩
 simp [lv, ouN, kpI, kpR, pos, ren, ren0, renB, renC, renCs]
 repeat' first | (refine hK _ ?_; clear hK) | (refine hK _ _ ?_; clear hK) | (clear hK; refine hK _ ?_; clear hK) | (clear hK; clear hK; refine hK _ ?_; clear hK) | (clear hK; clear hK; clear hK; refine hK _ ?_; clear hK) | (clear hK; clear hK; clear hK; clear hK; refine hK _ ?_; clear hK) | (refine wSeq fun K hK => ?_) | ((first | refine wReg ?_ | refine wDrwQ rfl (by kernel_rfl) ?_ | refine wDrwI ?_ | refine wDrw (by kernel_rfl) ?_); simp only [List.map_cons, List.map_nil, strip]) | ((first | refine wIs fun K hK => ?_ | refine wOs fun K hK => ?_ | refine wQs fun K hK => ?_ | refine CallQ_plain ?_ | refine CallR_plain ?_ | refine wCond ?_); simp [lv, ouN, kpI, kpR, pos, ren, ren0, renB, renC, renCs]) | (refine wIn ?_; refine And.intro (by kernel_rfl) ?_; try simp only [thenA_n]) | (first | refine wBlock ?_ | refine wScope ?_) | ((first | refine wRet ?_ | refine wExit ?_ | refine wSkip ?_); try simp) | ((first | refine wLabel ?_ | refine wOn ?_ | refine wQn ?_); try simp only [thenA_n])
 have c7 := rlZx b a6 hb
 obtain ⟨x14, ⟨q7, a7⟩, e7⟩ := fl_got 2 fZx b (0, a6)
 rw [e7] at c7
 simp only [vOf1, vOf2] at c7
 by_cases z7 : q7 = 0
 rotate_left
 ·have hz : (fMs.rd b (0, a)).2 = (q7, a7) := by simp only [fMs, sq_rd, e0, e1, e2, e3, e4, e5, e6, e7, fPl_L.stk b q7 a7 z7, fTx_L.stk b q7 a7 z7, (fl_L foI_L 1).stk b q7 a7 z7, fRq_L.stk b q7 a7 z7]
  rw [hz, rO_err _ _ _ z7] at ho
  subst ho
  rw [rO_err _ _ _ z7] at c7
  refine CallK_gen [1024] c7 (by decide) (by decide) (by simp [blksOf, inN, pos, renB, ren0, ouN, lv, kpI, kpR]) (by simp [argsG, argG, ren0, inN, pos, renCs, renC]) ?_
  simp [GenK, lv, ouN, kpI, kpR, pos, ren, ren0, renB, renC, renCs]
  all_goals try simp only [thenA_p, blockA_p]
  all_goals apply hp
  all_goals simp [AResP, outB, renB, gaN, lv, ouN, kpI, kpR, pos, ren, ren0, renC, renCs]
 subst z7
 rw [rO_ok] at c7
 refine CallK_gen [1024] c7 (by decide) (by decide) (by simp [blksOf, inN, pos, renB, ren0, ouN, lv, kpI, kpR]) (by simp [argsG, argG, ren0, inN, pos, renCs, renC]) ⟨[], by simp, by simp, ?_⟩
 simp [lv, ouN, kpI, kpR, pos, ren, ren0, renB, renC, renCs]
 repeat' first | (refine hK _ ?_; clear hK) | (refine hK _ _ ?_; clear hK) | (clear hK; refine hK _ ?_; clear hK) | (clear hK; clear hK; refine hK _ ?_; clear hK) | (clear hK; clear hK; clear hK; refine hK _ ?_; clear hK) | (clear hK; clear hK; clear hK; clear hK; refine hK _ ?_; clear hK) | (refine wSeq fun K hK => ?_) | ((first | refine wReg ?_ | refine wDrwQ rfl (by kernel_rfl) ?_ | refine wDrwI ?_ | refine wDrw (by kernel_rfl) ?_); simp only [List.map_cons, List.map_nil, strip]) | ((first | refine wIs fun K hK => ?_ | refine wOs fun K hK => ?_ | refine wQs fun K hK => ?_ | refine CallQ_plain ?_ | refine CallR_plain ?_ | refine wCond ?_); simp [lv, ouN, kpI, kpR, pos, ren, ren0, renB, renC, renCs]) | (refine wIn ?_; refine And.intro (by kernel_rfl) ?_; try simp only [thenA_n]) | (first | refine wBlock ?_ | refine wScope ?_) | ((first | refine wRet ?_ | refine wExit ?_ | refine wSkip ?_); try simp) | ((first | refine wLabel ?_ | refine wOn ?_ | refine wQn ?_); try simp only [thenA_n])
 have c8 := rPl b a7 hb
 obtain ⟨x15, x16, x17, x18, x19, x20, x21, x22, x23, x24, x25, x26, x27, ⟨q8, a8⟩, e8⟩ := fPl_got b (0, a7)
 rw [e8] at c8
 simp only [vOf1, vOf2] at c8
 by_cases z8 : q8 = 0
 rotate_left
 ·have hz : (fMs.rd b (0, a)).2 = (q8, a8) := by simp only [fMs, sq_rd, e0, e1, e2, e3, e4, e5, e6, e7, e8, fTx_L.stk b q8 a8 z8, (fl_L foI_L 1).stk b q8 a8 z8, fRq_L.stk b q8 a8 z8]
  rw [hz, rO_err _ _ _ z8] at ho
  subst ho
  rw [rO_err _ _ _ z8] at c8
  refine CallK_gen [1024] c8 (by decide) (by decide) (by simp [blksOf, inN, pos, renB, ren0, ouN, lv, kpI, kpR]) (by simp [argsG, argG, ren0, inN, pos, renCs, renC]) ?_
  simp [GenK, lv, ouN, kpI, kpR, pos, ren, ren0, renB, renC, renCs]
  all_goals try simp only [thenA_p, blockA_p]
  all_goals apply hp
  all_goals simp [AResP, outB, renB, gaN, lv, ouN, kpI, kpR, pos, ren, ren0, renC, renCs]
 subst z8
 rw [rO_ok] at c8
 refine CallK_gen [1024] c8 (by decide) (by decide) (by simp [blksOf, inN, pos, renB, ren0, ouN, lv, kpI, kpR]) (by simp [argsG, argG, ren0, inN, pos, renCs, renC]) ⟨[], by simp, by simp, ?_⟩
 simp [lv, ouN, kpI, kpR, pos, ren, ren0, renB, renC, renCs]
 repeat' first | (refine hK _ ?_; clear hK) | (refine hK _ _ ?_; clear hK) | (clear hK; refine hK _ ?_; clear hK) | (clear hK; clear hK; refine hK _ ?_; clear hK) | (clear hK; clear hK; clear hK; refine hK _ ?_; clear hK) | (clear hK; clear hK; clear hK; clear hK; refine hK _ ?_; clear hK) | (refine wSeq fun K hK => ?_) | ((first | refine wReg ?_ | refine wDrwQ rfl (by kernel_rfl) ?_ | refine wDrwI ?_ | refine wDrw (by kernel_rfl) ?_); simp only [List.map_cons, List.map_nil, strip]) | ((first | refine wIs fun K hK => ?_ | refine wOs fun K hK => ?_ | refine wQs fun K hK => ?_ | refine CallQ_plain ?_ | refine CallR_plain ?_ | refine wCond ?_); simp [lv, ouN, kpI, kpR, pos, ren, ren0, renB, renC, renCs]) | (refine wIn ?_; refine And.intro (by kernel_rfl) ?_; try simp only [thenA_n]) | (first | refine wBlock ?_ | refine wScope ?_) | ((first | refine wRet ?_ | refine wExit ?_ | refine wSkip ?_); try simp) | ((first | refine wLabel ?_ | refine wOn ?_ | refine wQn ?_); try simp only [thenA_n])
 have c9 := rTx b a8 hb
 obtain ⟨x28, x29, x30, x31, x32, x33, x34, x35, ⟨q9, a9⟩, e9⟩ := fTx_got b (0, a8)
 rw [e9] at c9
 simp only [vOf1, vOf2] at c9
 by_cases z9 : q9 = 0
 rotate_left
 ·have hz : (fMs.rd b (0, a)).2 = (q9, a9) := by simp only [fMs, sq_rd, e0, e1, e2, e3, e4, e5, e6, e7, e8, e9, (fl_L foI_L 1).stk b q9 a9 z9, fRq_L.stk b q9 a9 z9]
  rw [hz, rO_err _ _ _ z9] at ho
  subst ho
  rw [rO_err _ _ _ z9] at c9
  refine CallK_gen [1024] c9 (by decide) (by decide) (by simp [blksOf, inN, pos, renB, ren0, ouN, lv, kpI, kpR]) (by simp [argsG, argG, ren0, inN, pos, renCs, renC]) ?_
  simp [GenK, lv, ouN, kpI, kpR, pos, ren, ren0, renB, renC, renCs]
  all_goals try simp only [thenA_p, blockA_p]
  all_goals apply hp
  all_goals simp [AResP, outB, renB, gaN, lv, ouN, kpI, kpR, pos, ren, ren0, renC, renCs]
 subst z9
 rw [rO_ok] at c9
 refine CallK_gen [1024] c9 (by decide) (by decide) (by simp [blksOf, inN, pos, renB, ren0, ouN, lv, kpI, kpR]) (by simp [argsG, argG, ren0, inN, pos, renCs, renC]) ⟨[], by simp, by simp, ?_⟩
 simp [lv, ouN, kpI, kpR, pos, ren, ren0, renB, renC, renCs]
 repeat' first | (refine hK _ ?_; clear hK) | (refine hK _ _ ?_; clear hK) | (clear hK; refine hK _ ?_; clear hK) | (clear hK; clear hK; refine hK _ ?_; clear hK) | (clear hK; clear hK; clear hK; refine hK _ ?_; clear hK) | (clear hK; clear hK; clear hK; clear hK; refine hK _ ?_; clear hK) | (refine wSeq fun K hK => ?_) | ((first | refine wReg ?_ | refine wDrwQ rfl (by kernel_rfl) ?_ | refine wDrwI ?_ | refine wDrw (by kernel_rfl) ?_); simp only [List.map_cons, List.map_nil, strip]) | ((first | refine wIs fun K hK => ?_ | refine wOs fun K hK => ?_ | refine wQs fun K hK => ?_ | refine CallQ_plain ?_ | refine CallR_plain ?_ | refine wCond ?_); simp [lv, ouN, kpI, kpR, pos, ren, ren0, renB, renC, renCs]) | (refine wIn ?_; refine And.intro (by kernel_rfl) ?_; try simp only [thenA_n]) | (first | refine wBlock ?_ | refine wScope ?_) | ((first | refine wRet ?_ | refine wExit ?_ | refine wSkip ?_); try simp) | ((first | refine wLabel ?_ | refine wOn ?_ | refine wQn ?_); try simp only [thenA_n])
 have c10 := rlI b a9 hb
 obtain ⟨x36, ⟨q10, a10⟩, e10⟩ := fl_got 1 foI b (0, a9)
 rw [e10] at c10
 simp only [vOf1, vOf2] at c10
 by_cases z10 : q10 = 0
 rotate_left
 ·have hz : (fMs.rd b (0, a)).2 = (q10, a10) := by simp only [fMs, sq_rd, e0, e1, e2, e3, e4, e5, e6, e7, e8, e9, e10, fRq_L.stk b q10 a10 z10]
  rw [hz, rO_err _ _ _ z10] at ho
  subst ho
  rw [rO_err _ _ _ z10] at c10
  refine CallK_gen [1024] c10 (by decide) (by decide) (by simp [blksOf, inN, pos, renB, ren0, ouN, lv, kpI, kpR]) (by simp [argsG, argG, ren0, inN, pos, renCs, renC]) ?_
  simp [GenK, lv, ouN, kpI, kpR, pos, ren, ren0, renB, renC, renCs]
  all_goals try simp only [thenA_p, blockA_p]
  all_goals apply hp
  all_goals simp [AResP, outB, renB, gaN, lv, ouN, kpI, kpR, pos, ren, ren0, renC, renCs]
 subst z10
 rw [rO_ok] at c10
 refine CallK_gen [1024] c10 (by decide) (by decide) (by simp [blksOf, inN, pos, renB, ren0, ouN, lv, kpI, kpR]) (by simp [argsG, argG, ren0, inN, pos, renCs, renC]) ⟨[], by simp, by simp, ?_⟩
 simp [lv, ouN, kpI, kpR, pos, ren, ren0, renB, renC, renCs]
 repeat' first | (refine hK _ ?_; clear hK) | (refine hK _ _ ?_; clear hK) | (clear hK; refine hK _ ?_; clear hK) | (clear hK; clear hK; refine hK _ ?_; clear hK) | (clear hK; clear hK; clear hK; refine hK _ ?_; clear hK) | (clear hK; clear hK; clear hK; clear hK; refine hK _ ?_; clear hK) | (refine wSeq fun K hK => ?_) | ((first | refine wReg ?_ | refine wDrwQ rfl (by kernel_rfl) ?_ | refine wDrwI ?_ | refine wDrw (by kernel_rfl) ?_); simp only [List.map_cons, List.map_nil, strip]) | ((first | refine wIs fun K hK => ?_ | refine wOs fun K hK => ?_ | refine wQs fun K hK => ?_ | refine CallQ_plain ?_ | refine CallR_plain ?_ | refine wCond ?_); simp [lv, ouN, kpI, kpR, pos, ren, ren0, renB, renC, renCs]) | (refine wIn ?_; refine And.intro (by kernel_rfl) ?_; try simp only [thenA_n]) | (first | refine wBlock ?_ | refine wScope ?_) | ((first | refine wRet ?_ | refine wExit ?_ | refine wSkip ?_); try simp) | ((first | refine wLabel ?_ | refine wOn ?_ | refine wQn ?_); try simp only [thenA_n])
 have c11 := rRq b a10 hb
 obtain ⟨x37, x38, x39, x40, x41, x42, x43, x44, x45, ⟨q11, a11⟩, e11⟩ := fRq_got b (0, a10)
 rw [e11] at c11
 simp only [vOf1, vOf2] at c11
 by_cases z11 : q11 = 0
 rotate_left
 ·have hz : (fMs.rd b (0, a)).2 = (q11, a11) := by simp only [fMs, sq_rd, e0, e1, e2, e3, e4, e5, e6, e7, e8, e9, e10, e11]
  rw [hz, rO_err _ _ _ z11] at ho
  subst ho
  rw [rO_err _ _ _ z11] at c11
  refine CallK_gen [1024] c11 (by decide) (by decide) (by simp [blksOf, inN, pos, renB, ren0, ouN, lv, kpI, kpR]) (by simp [argsG, argG, ren0, inN, pos, renCs, renC]) ?_
  simp [GenK, lv, ouN, kpI, kpR, pos, ren, ren0, renB, renC, renCs]
  all_goals try simp only [thenA_p, blockA_p]
  all_goals apply hp
  all_goals simp [AResP, outB, renB, gaN, lv, ouN, kpI, kpR, pos, ren, ren0, renC, renCs]
 subst z11
 rw [rO_ok] at c11
 refine CallK_gen [1024] c11 (by decide) (by decide) (by simp [blksOf, inN, pos, renB, ren0, ouN, lv, kpI, kpR]) (by simp [argsG, argG, ren0, inN, pos, renCs, renC]) ⟨[], by simp, by simp, ?_⟩
 simp [lv, ouN, kpI, kpR, pos, ren, ren0, renB, renC, renCs]
 repeat' first | (refine hK _ ?_; clear hK) | (refine hK _ _ ?_; clear hK) | (clear hK; refine hK _ ?_; clear hK) | (clear hK; clear hK; refine hK _ ?_; clear hK) | (clear hK; clear hK; clear hK; refine hK _ ?_; clear hK) | (clear hK; clear hK; clear hK; clear hK; refine hK _ ?_; clear hK) | (refine wSeq fun K hK => ?_) | ((first | refine wReg ?_ | refine wDrwQ rfl (by kernel_rfl) ?_ | refine wDrwI ?_ | refine wDrw (by kernel_rfl) ?_); simp only [List.map_cons, List.map_nil, strip]) | ((first | refine wIs fun K hK => ?_ | refine wOs fun K hK => ?_ | refine wQs fun K hK => ?_ | refine CallQ_plain ?_ | refine CallR_plain ?_ | refine wCond ?_); simp [lv, ouN, kpI, kpR, pos, ren, ren0, renB, renC, renCs]) | (refine wIn ?_; refine And.intro (by kernel_rfl) ?_; try simp only [thenA_n]) | (first | refine wBlock ?_ | refine wScope ?_) | ((first | refine wRet ?_ | refine wExit ?_ | refine wSkip ?_); try simp) | ((first | refine wLabel ?_ | refine wOn ?_ | refine wQn ?_); try simp only [thenA_n])
 have hz : fMs.rd b (0, a) = ([I x0, I x1, I x2, I x3, I x4, I x5, I x6, I x7, I x8, I x9, I x10, I x11, I x12, I x13, .sl 2 x14, I x15, I x16, I x17, .sl 5 x18, .sl 1 x19, I x20, I x21, I x22, I x23, .sl 4 x24, I x25, I x26, .sl 8 x27, I x28, I x29, I x30, I x31, I x32, I x33, SB x34, .sl 11 x35, .sl 1 x36, I x37, I x38, I x39, .sl 6 x40, I x41, .sl 4 x42, .sl 1 x43, I x44, I x45], 0, a11) := by simp only [fMs, sq_rd, e0, e1, e2, e3, e4, e5, e6, e7, e8, e9, e10, e11, List.cons_append, List.nil_append]
 rw [hz] at ho
 simp only [rO_ok, vOf2] at ho
 subst ho
 all_goals first | apply hr
 all_goals refine ⟨[], by simp, by simp, ?_⟩
 all_goals simp [Try.f75, outR, outB, renB, gaN, lv, ouN, kpI, kpR, pos, ren, ren0, renC, renCs]
abbrev rbRq (b : List UInt8) (x : List V) (q : Int) : List Blk := [.box 129 [.p (.v (.func (.func 72) #[] #[]))], .box 116 [.ptr 1027 0], .box 55 x, .box 160 [.p (.sl 1 (by8 b)), .p (I q)]]
theorem fRq_ze : fRq.ze = [I 0, I 0, I 0, .sl 6 [], I 0, .sl 4 [], .sl 1 [], I 0, I 0] := rfl
set_option maxHeartbeats 4000000 in
theorem rcOkRq (b : List UInt8) (a q : Int) (x0 : Int) (x1 : Int) (x2 : Int) (x3 : List (List PV)) (x4 : Int) (x5 : List (List PV)) (x6 : List (List PV)) (x7 : Int) (x8 : Int)
 (hc : Con Try.prog 72 [.ptr 1024 0] (rB b a) (.ret (.p (.agg [I x0, I x1, I x2, .sl 6 x3, I x4, .sl 4 x5, .sl 1 x6, I x7, I x8])) [] (rB b q))) :
 Con Try.prog 114 [.ptr 1024 0, .ptr 1025 0, .ptr 1026 0] (rbRq b [.p (I 0), .p (I 0), .p (I 0), .nil 6, .p (I 0), .nil 4, .nil 1, .p (I 0), .p (I 0)] a) (.ret (.tup []) [] (rbRq b [.p (I x0), .p (I x1), .p (I x2), .p (.sl 6 x3), .p (I x4), .p (.sl 4 x5), .p (.sl 1 x6), .p (I x7), .p (I x8)] q)) := by
 refine wBodyG Try.tab Try.mixed Try.func114 rfl rfl Try.ntmps114 (by simp) (by simp) fun Q hr hn hp => ?_
 repeat' first | (refine CallK_gen [1027] (hc) (by decide) (by decide) (by simp [blksOf, inN, pos, renB, renC, renCs, ren0, lv, ouN, kpI, kpR]) (by simp [argsG, argG, ren0, inN, pos, renCs, renC]) ⟨[], by simp, by simp, ?_⟩; simp [lv, ouN, kpI, kpR, pos, ren, ren0, renB, renC, renCs, renF, renFs]) | (refine hK _ ?_; clear hK) | (refine hK _ _ ?_; clear hK) | (clear hK; refine hK _ ?_; clear hK) | (clear hK; clear hK; refine hK _ ?_; clear hK) | (clear hK; clear hK; clear hK; refine hK _ ?_; clear hK) | (clear hK; clear hK; clear hK; clear hK; refine hK _ ?_; clear hK) | (refine wSeq fun K hK => ?_) | ((first | refine wReg ?_ | refine wDrwQ rfl (by kernel_rfl) ?_ | refine wDrwI ?_ | refine wDrw (by kernel_rfl) ?_); simp only [List.map_cons, List.map_nil, strip]) | ((first | refine wIs fun K hK => ?_ | refine wOs fun K hK => ?_ | refine wQs fun K hK => ?_ | refine CallK_plain ?_ | refine CallQ_plain ?_ | refine CallR_plain ?_ | refine wCond ?_); simp [lv, ouN, kpI, kpR, pos, ren, ren0, renB, renC, renCs]) | (refine wIn ?_; refine And.intro (by kernel_rfl) ?_; try simp only [thenA_n]) | (first | refine wBlock ?_ | refine wScope ?_) | ((first | refine wRet ?_ | refine wExit ?_ | refine wSkip ?_); try simp) | ((first | refine wLabel ?_ | refine wOn ?_ | refine wQn ?_); try simp only [thenA_n])
 all_goals first | apply hr | apply hn
 all_goals refine ⟨[], by simp, by simp, ?_⟩
 all_goals simp [Try.f114, outR, outB, renB, gaN, lv, ouN, kpI, kpR, pos, ren, ren0, renC, renCs]
set_option maxHeartbeats 4000000 in
theorem rcPanRq (b : List UInt8) (a q e : Int)
 (hc : Con Try.prog 72 [.ptr 1024 0] (rB b a) (.pan (.iface 192 (.int .i64 e)) (rB b q))) :
 Con Try.prog 114 [.ptr 1024 0, .ptr 1025 0, .ptr 1026 0] (rbRq b [.p (I 0), .p (I 0), .p (I 0), .nil 6, .p (I 0), .nil 4, .nil 1, .p (I 0), .p (I 0)] a) (.pan (.iface 192 (.int .i64 e)) (rbRq b [.p (I 0), .p (I 0), .p (I 0), .nil 6, .p (I 0), .nil 4, .nil 1, .p (I 0), .p (I 0)] q)) := by
 refine wBodyG Try.tab Try.mixed Try.func114 rfl rfl Try.ntmps114 (by simp) (by simp) fun Q hr hn hp => ?_
 repeat' first | (refine CallK_gen [1027] hc (by decide) (by decide) (by simp [blksOf, inN, pos, renB, ren0]) (by simp [argsG, argG, ren0, inN, pos, renCs, renC]) ?_; simp [GenK, lv, ouN, kpI, kpR, pos, ren, ren0, renB, renC, renCs]) | (refine hK _ ?_; clear hK) | (refine hK _ _ ?_; clear hK) | (clear hK; refine hK _ ?_; clear hK) | (clear hK; clear hK; refine hK _ ?_; clear hK) | (clear hK; clear hK; clear hK; refine hK _ ?_; clear hK) | (clear hK; clear hK; clear hK; clear hK; refine hK _ ?_; clear hK) | (refine wSeq fun K hK => ?_) | ((first | refine wReg ?_ | refine wDrwQ rfl (by kernel_rfl) ?_ | refine wDrwI ?_ | refine wDrw (by kernel_rfl) ?_); simp only [List.map_cons, List.map_nil, strip]) | ((first | refine wIs fun K hK => ?_ | refine wOs fun K hK => ?_ | refine wQs fun K hK => ?_ | refine CallK_plain ?_ | refine CallQ_plain ?_ | refine CallR_plain ?_ | refine wCond ?_); simp [lv, ouN, kpI, kpR, pos, ren, ren0, renB, renC, renCs]) | (refine wIn ?_; refine And.intro (by kernel_rfl) ?_; try simp only [thenA_n]) | (first | refine wBlock ?_ | refine wScope ?_) | ((first | refine wRet ?_ | refine wExit ?_ | refine wSkip ?_); try simp) | ((first | refine wLabel ?_ | refine wOn ?_ | refine wQn ?_); try simp only [thenA_n])
 all_goals try simp only [thenA_p, blockA_p]
 all_goals apply hp
 all_goals simp [AResP, outB, renB, gaN, lv, ouN, kpI, kpR, pos, ren, ren0, renC, renCs]
set_option maxHeartbeats 4000000 in
theorem read0Rq (b : List UInt8) (a q : Int) (x0 : Int) (x1 : Int) (x2 : Int) (x3 : List (List PV)) (x4 : Int) (x5 : List (List PV)) (x6 : List (List PV)) (x7 : Int) (x8 : Int)
 (hc : Con Try.prog 72 [.ptr 1024 0] (rB b a) (.ret (.p (.agg [I x0, I x1, I x2, .sl 6 x3, I x4, .sl 4 x5, .sl 1 x6, I x7, I x8])) [] (rB b q))) :
 ACon Try.prog 71 [.p (.sl 1 (by8 b)), .p (I a), .p (.v (.func (.func 72) #[] #[]))] (.tup [.p (.agg [I x0, I x1, I x2, .sl 6 x3, I x4, .sl 4 x5, .sl 1 x6, I x7, I x8]), .p (I q), .p (I 0)]) := by
 have he0 : ByteArray.empty = bs [] := rfl
 have ct := try_con (caps := [.box 1024, .box 1025, .box 1026]) (rcOkRq b a q x0 x1 x2 x3 x4 x5 x6 x7 x8 hc) rfl
 refine wBody Try.tab Try.mixed Try.func71 rfl rfl Try.ntmps71 (by simp) (by simp) fun Q hr hn => ?_
 repeat' first | (refine CallK_gen [5, 11, 9, 16] ct (by decide) (by decide) (by simp [blksOf, inN, pos, renB, ren0, he0]) (by simp [argsG, argG, ren0, inN, pos, renCs, renC]) ⟨[], by simp, by simp, ?_⟩; simp [lv, ouN, kpI, kpR, pos, ren, ren0, renB, renC, renCs]) | (refine hK _ ?_; clear hK) | (refine hK _ _ ?_; clear hK) | (clear hK; refine hK _ ?_; clear hK) | (clear hK; clear hK; refine hK _ ?_; clear hK) | (clear hK; clear hK; clear hK; refine hK _ ?_; clear hK) | (clear hK; clear hK; clear hK; clear hK; refine hK _ ?_; clear hK) | (refine wSeq fun K hK => ?_) | ((first | refine wReg ?_ | refine wDrwQ rfl (by kernel_rfl) ?_ | refine wDrwI ?_ | refine wDrw (by kernel_rfl) ?_); simp only [List.map_cons, List.map_nil, strip]) | ((first | refine wIs fun K hK => ?_ | refine wOs fun K hK => ?_ | refine wQs fun K hK => ?_ | refine CallK_plain ?_ | refine CallQ_plain ?_ | refine CallR_plain ?_ | refine wCond ?_); simp [lv, ouN, kpI, kpR, pos, ren, ren0, renB, renC, renCs]) | (refine wIn ?_; refine And.intro (by kernel_rfl) ?_; try simp only [thenA_n]) | (first | refine wBlock ?_ | refine wScope ?_) | ((first | refine wRet ?_ | refine wExit ?_ | refine wSkip ?_); try simp) | ((first | refine wLabel ?_ | refine wOn ?_ | refine wQn ?_); try simp only [thenA_n])
 all_goals apply hr
 all_goals simp [Try.f71]
set_option maxHeartbeats 4000000 in
theorem readERq (b : List UInt8) (a q e : Int) (h0 : ¬ e = 0)
 (hc : Con Try.prog 72 [.ptr 1024 0] (rB b a) (.pan (.iface 192 (.int .i64 e)) (rB b q))) :
 ACon Try.prog 71 [.p (.sl 1 (by8 b)), .p (I a), .p (.v (.func (.func 72) #[] #[]))] (.tup [.p (.agg [I 0, I 0, I 0, .sl 6 [], I 0, .sl 4 [], .sl 1 [], I 0, I 0]), .p (I 0), .p (I e)]) := by
 have he0 : ByteArray.empty = bs [] := rfl
 have ct := try_con (n := e) (caps := [.box 1024, .box 1025, .box 1026]) (rcPanRq b a q e hc) rfl
 refine wBody Try.tab Try.mixed Try.func71 rfl rfl Try.ntmps71 (by simp) (by simp) fun Q hr hn => ?_
 repeat' first | (refine CallK_gen [5, 11, 9, 16] ct (by decide) (by decide) (by simp [blksOf, inN, pos, renB, ren0, he0]) (by simp [argsG, argG, ren0, inN, pos, renCs, renC]) ⟨[], by simp, by simp, ?_⟩; simp [lv, ouN, kpI, kpR, pos, ren, ren0, renB, renC, renCs]) | (refine hK _ ?_; clear hK) | (refine hK _ _ ?_; clear hK) | (clear hK; refine hK _ ?_; clear hK) | (clear hK; clear hK; refine hK _ ?_; clear hK) | (clear hK; clear hK; clear hK; refine hK _ ?_; clear hK) | (clear hK; clear hK; clear hK; clear hK; refine hK _ ?_; clear hK) | (refine wSeq fun K hK => ?_) | ((first | refine wReg ?_ | refine wDrwQ rfl (by kernel_rfl) ?_ | refine wDrwI ?_ | refine wDrw (by kernel_rfl) ?_); simp only [List.map_cons, List.map_nil, strip]) | ((first | refine wIs fun K hK => ?_ | refine wOs fun K hK => ?_ | refine wQs fun K hK => ?_ | refine CallK_plain ?_ | refine CallQ_plain ?_ | refine CallR_plain ?_ | refine wCond ?_); simp [h0, lv, ouN, kpI, kpR, pos, ren, ren0, renB, renC, renCs]) | (refine wIn ?_; refine And.intro (by kernel_rfl) ?_; try simp only [thenA_n]) | (first | refine wBlock ?_ | refine wScope ?_) | ((first | refine wRet ?_ | refine wExit ?_ | refine wSkip ?_); try simp) | ((first | refine wLabel ?_ | refine wOn ?_ | refine wQn ?_); try simp only [thenA_n])
 all_goals apply hr
 all_goals simp [Try.f71, he0]
set_option maxHeartbeats 4000000 in
theorem readRq (b : List UInt8) (a : Int) (hb : b.length <= 1000000000) : ACon Try.prog 34 [.p (.sl 1 (by8 b)), .p (I a)] (rT fRq b a) := by
 have c := rRq b a hb
 obtain ⟨x0, x1, x2, x3, x4, x5, x6, x7, x8, ⟨q, k⟩, he⟩ := fRq_got b (0, a)
 unfold rT
 rw [he] at c ⊢
 simp only [vOf2] at c ⊢
 have he0 : ByteArray.empty = bs [] := rfl
 by_cases h : q = 0
 ·subst h
  rw [rO_ok] at c
  rw [if_pos rfl]
  have c2 := read0Rq b a k x0 x1 x2 x3 x4 x5 x6 x7 x8 c
  clear c he
  refine wBody Try.tab Try.mixed Try.func34 rfl rfl Try.ntmps34 (by simp) (by simp) fun Q hr hn => ?_
  repeat' first | (refine hK _ ?_; clear hK) | (refine hK _ _ ?_; clear hK) | (clear hK; refine hK _ ?_; clear hK) | (clear hK; clear hK; refine hK _ ?_; clear hK) | (clear hK; clear hK; clear hK; refine hK _ ?_; clear hK) | (clear hK; clear hK; clear hK; clear hK; refine hK _ ?_; clear hK) | (refine wSeq fun K hK => ?_) | ((first | refine wReg ?_ | refine wDrwQ rfl (by kernel_rfl) ?_ | refine wDrwI ?_ | refine wDrw (by kernel_rfl) ?_); simp only [List.map_cons, List.map_nil, strip]) | ((first | refine wIs fun K hK => ?_ | refine wOs fun K hK => ?_ | refine wQs fun K hK => ?_ | refine CallK_plain ?_ | refine CallQ_plain ?_ | refine CallR_plain ?_ | refine wCond ?_); simp) | (refine wIn ?_; refine And.intro (by kernel_rfl) ?_; try simp only [thenA_n]) | (first | refine wBlock ?_ | refine wScope ?_) | ((first | refine wRet ?_ | refine wExit ?_ | refine wSkip ?_); try simp) | ((first | refine wLabel ?_ | refine wOn ?_ | refine wQn ?_); try simp only [thenA_n]) | (refine CallE.pure (c2) rfl ?_) | (refine CallE.lent (c2) rfl ?_) | (refine CallF.pure (c2) rfl ?_) | (refine CallF.lent (c2) rfl ?_) | (refine CallE.own (c2) ?_) | (refine CallH.pure (c2) rfl ?_) | (refine CallH.lent (c2) rfl ?_) | (refine CallH.own (c2) ?_)
  all_goals apply hr
  all_goals simp [Try.f34]
 ·rw [rO_err _ _ _ h] at c
  rw [if_neg h, fRq_ze]
  have c2 := readERq b a k q h c
  clear c he
  simp only [vOf2]
  refine wBody Try.tab Try.mixed Try.func34 rfl rfl Try.ntmps34 (by simp) (by simp) fun Q hr hn => ?_
  repeat' first | (refine hK _ ?_; clear hK) | (refine hK _ _ ?_; clear hK) | (clear hK; refine hK _ ?_; clear hK) | (clear hK; clear hK; refine hK _ ?_; clear hK) | (clear hK; clear hK; clear hK; refine hK _ ?_; clear hK) | (clear hK; clear hK; clear hK; clear hK; refine hK _ ?_; clear hK) | (refine wSeq fun K hK => ?_) | ((first | refine wReg ?_ | refine wDrwQ rfl (by kernel_rfl) ?_ | refine wDrwI ?_ | refine wDrw (by kernel_rfl) ?_); simp only [List.map_cons, List.map_nil, strip]) | ((first | refine wIs fun K hK => ?_ | refine wOs fun K hK => ?_ | refine wQs fun K hK => ?_ | refine CallK_plain ?_ | refine CallQ_plain ?_ | refine CallR_plain ?_ | refine wCond ?_); simp) | (refine wIn ?_; refine And.intro (by kernel_rfl) ?_; try simp only [thenA_n]) | (first | refine wBlock ?_ | refine wScope ?_) | ((first | refine wRet ?_ | refine wExit ?_ | refine wSkip ?_); try simp) | ((first | refine wLabel ?_ | refine wOn ?_ | refine wQn ?_); try simp only [thenA_n]) | (refine CallE.pure (c2) rfl ?_) | (refine CallE.lent (c2) rfl ?_) | (refine CallF.pure (c2) rfl ?_) | (refine CallF.lent (c2) rfl ?_) | (refine CallE.own (c2) ?_) | (refine CallH.pure (c2) rfl ?_) | (refine CallH.lent (c2) rfl ?_) | (refine CallH.own (c2) ?_)
  all_goals apply hr
  all_goals simp [Try.f34]
abbrev rbMs (b : List UInt8) (x : List V) (q : Int) : List Blk := [.box 132 [.p (.v (.func (.func 75) #[] #[]))], .box 116 [.ptr 1027 0], .box 57 x, .box 160 [.p (.sl 1 (by8 b)), .p (I q)]]
theorem fMs_ze : fMs.ze = [I 0, I 0, I 0, I 0, I 0, I 0, I 0, I 0, I 0, I 0, I 0, I 0, I 0, I 0, .sl 2 [], I 0, I 0, I 0, .sl 5 [], .sl 1 [], I 0, I 0, I 0, I 0, .sl 4 [], I 0, I 0, .sl 8 [], I 0, I 0, I 0, I 0, I 0, I 0, SB [], .sl 11 [], .sl 1 [], I 0, I 0, I 0, .sl 6 [], I 0, .sl 4 [], .sl 1 [], I 0, I 0] := rfl
set_option maxHeartbeats 16000000 in
theorem rcOkMs (b : List UInt8) (a q : Int) (x0 : Int) (x1 : Int) (x2 : Int) (x3 : Int) (x4 : Int) (x5 : Int) (x6 : Int) (x7 : Int) (x8 : Int) (x9 : Int) (x10 : Int) (x11 : Int) (x12 : Int) (x13 : Int) (x14 : List (List PV)) (x15 : Int) (x16 : Int) (x17 : Int) (x18 : List (List PV)) (x19 : List (List PV)) (x20 : Int) (x21 : Int) (x22 : Int) (x23 : Int) (x24 : List (List PV)) (x25 : Int) (x26 : Int) (x27 : List (List PV)) (x28 : Int) (x29 : Int) (x30 : Int) (x31 : Int) (x32 : Int) (x33 : Int) (x34 : List UInt8) (x35 : List (List PV)) (x36 : List (List PV)) (x37 : Int) (x38 : Int) (x39 : Int) (x40 : List (List PV)) (x41 : Int) (x42 : List (List PV)) (x43 : List (List PV)) (x44 : Int) (x45 : Int)
 (hc : Con Try.prog 75 [.ptr 1024 0] (rB b a) (.ret (.p (.agg [I x0, I x1, I x2, I x3, I x4, I x5, I x6, I x7, I x8, I x9, I x10, I x11, I x12, I x13, .sl 2 x14, I x15, I x16, I x17, .sl 5 x18, .sl 1 x19, I x20, I x21, I x22, I x23, .sl 4 x24, I x25, I x26, .sl 8 x27, I x28, I x29, I x30, I x31, I x32, I x33, SB x34, .sl 11 x35, .sl 1 x36, I x37, I x38, I x39, .sl 6 x40, I x41, .sl 4 x42, .sl 1 x43, I x44, I x45])) [] (rB b q))) :
 Con Try.prog 118 [.ptr 1024 0, .ptr 1025 0, .ptr 1026 0] (rbMs b [.p (I 0), .p (I 0), .p (I 0), .p (I 0), .p (I 0), .p (I 0), .p (I 0), .p (I 0), .p (I 0), .p (I 0), .p (I 0), .p (I 0), .p (I 0), .p (I 0), .nil 2, .p (I 0), .p (I 0), .p (I 0), .nil 5, .nil 1, .p (I 0), .p (I 0), .p (I 0), .p (I 0), .nil 4, .p (I 0), .p (I 0), .nil 8, .p (I 0), .p (I 0), .p (I 0), .p (I 0), .p (I 0), .p (I 0), .p (SB []), .nil 11, .nil 1, .p (I 0), .p (I 0), .p (I 0), .nil 6, .p (I 0), .nil 4, .nil 1, .p (I 0), .p (I 0)] a) (.ret (.tup []) [] (rbMs b [.p (I x0), .p (I x1), .p (I x2), .p (I x3), .p (I x4), .p (I x5), .p (I x6), .p (I x7), .p (I x8), .p (I x9), .p (I x10), .p (I x11), .p (I x12), .p (I x13), .p (.sl 2 x14), .p (I x15), .p (I x16), .p (I x17), .p (.sl 5 x18), .p (.sl 1 x19), .p (I x20), .p (I x21), .p (I x22), .p (I x23), .p (.sl 4 x24), .p (I x25), .p (I x26), .p (.sl 8 x27), .p (I x28), .p (I x29), .p (I x30), .p (I x31), .p (I x32), .p (I x33), .p (SB x34), .p (.sl 11 x35), .p (.sl 1 x36), .p (I x37), .p (I x38), .p (I x39), .p (.sl 6 x40), .p (I x41), .p (.sl 4 x42), .p (.sl 1 x43), .p (I x44), .p (I x45)] q)) := by
 refine wBodyG Try.tab Try.mixed Try.func118 rfl rfl Try.ntmps118 (by simp) (by simp) fun Q hr hn hp => ?_
 repeat' first | (refine CallK_gen [1027] (hc) (by decide) (by decide) (by simp [blksOf, inN, pos, renB, renC, renCs, ren0, lv, ouN, kpI, kpR]) (by simp [argsG, argG, ren0, inN, pos, renCs, renC]) ⟨[], by simp, by simp, ?_⟩; simp [lv, ouN, kpI, kpR, pos, ren, ren0, renB, renC, renCs, renF, renFs]) | (refine hK _ ?_; clear hK) | (refine hK _ _ ?_; clear hK) | (clear hK; refine hK _ ?_; clear hK) | (clear hK; clear hK; refine hK _ ?_; clear hK) | (clear hK; clear hK; clear hK; refine hK _ ?_; clear hK) | (clear hK; clear hK; clear hK; clear hK; refine hK _ ?_; clear hK) | (refine wSeq fun K hK => ?_) | ((first | refine wReg ?_ | refine wDrwQ rfl (by kernel_rfl) ?_ | refine wDrwI ?_ | refine wDrw (by kernel_rfl) ?_); simp only [List.map_cons, List.map_nil, strip]) | ((first | refine wIs fun K hK => ?_ | refine wOs fun K hK => ?_ | refine wQs fun K hK => ?_ | refine CallK_plain ?_ | refine CallQ_plain ?_ | refine CallR_plain ?_ | refine wCond ?_); simp [lv, ouN, kpI, kpR, pos, ren, ren0, renB, renC, renCs]) | (refine wIn ?_; refine And.intro (by kernel_rfl) ?_; try simp only [thenA_n]) | (first | refine wBlock ?_ | refine wScope ?_) | ((first | refine wRet ?_ | refine wExit ?_ | refine wSkip ?_); try simp) | ((first | refine wLabel ?_ | refine wOn ?_ | refine wQn ?_); try simp only [thenA_n])
 all_goals first | apply hr | apply hn
 all_goals refine ⟨[], by simp, by simp, ?_⟩
 all_goals simp [Try.f118, outR, outB, renB, gaN, lv, ouN, kpI, kpR, pos, ren, ren0, renC, renCs]
set_option maxHeartbeats 16000000 in
theorem rcPanMs (b : List UInt8) (a q e : Int)
 (hc : Con Try.prog 75 [.ptr 1024 0] (rB b a) (.pan (.iface 192 (.int .i64 e)) (rB b q))) :
 Con Try.prog 118 [.ptr 1024 0, .ptr 1025 0, .ptr 1026 0] (rbMs b [.p (I 0), .p (I 0), .p (I 0), .p (I 0), .p (I 0), .p (I 0), .p (I 0), .p (I 0), .p (I 0), .p (I 0), .p (I 0), .p (I 0), .p (I 0), .p (I 0), .nil 2, .p (I 0), .p (I 0), .p (I 0), .nil 5, .nil 1, .p (I 0), .p (I 0), .p (I 0), .p (I 0), .nil 4, .p (I 0), .p (I 0), .nil 8, .p (I 0), .p (I 0), .p (I 0), .p (I 0), .p (I 0), .p (I 0), .p (SB []), .nil 11, .nil 1, .p (I 0), .p (I 0), .p (I 0), .nil 6, .p (I 0), .nil 4, .nil 1, .p (I 0), .p (I 0)] a) (.pan (.iface 192 (.int .i64 e)) (rbMs b [.p (I 0), .p (I 0), .p (I 0), .p (I 0), .p (I 0), .p (I 0), .p (I 0), .p (I 0), .p (I 0), .p (I 0), .p (I 0), .p (I 0), .p (I 0), .p (I 0), .nil 2, .p (I 0), .p (I 0), .p (I 0), .nil 5, .nil 1, .p (I 0), .p (I 0), .p (I 0), .p (I 0), .nil 4, .p (I 0), .p (I 0), .nil 8, .p (I 0), .p (I 0), .p (I 0), .p (I 0), .p (I 0), .p (I 0), .p (SB []), .nil 11, .nil 1, .p (I 0), .p (I 0), .p (I 0), .nil 6, .p (I 0), .nil 4, .nil 1, .p (I 0), .p (I 0)] q)) := by
 refine wBodyG Try.tab Try.mixed Try.func118 rfl rfl Try.ntmps118 (by simp) (by simp) fun Q hr hn hp => ?_
 repeat' first | (refine CallK_gen [1027] hc (by decide) (by decide) (by simp [blksOf, inN, pos, renB, ren0]) (by simp [argsG, argG, ren0, inN, pos, renCs, renC]) ?_; simp [GenK, lv, ouN, kpI, kpR, pos, ren, ren0, renB, renC, renCs]) | (refine hK _ ?_; clear hK) | (refine hK _ _ ?_; clear hK) | (clear hK; refine hK _ ?_; clear hK) | (clear hK; clear hK; refine hK _ ?_; clear hK) | (clear hK; clear hK; clear hK; refine hK _ ?_; clear hK) | (clear hK; clear hK; clear hK; clear hK; refine hK _ ?_; clear hK) | (refine wSeq fun K hK => ?_) | ((first | refine wReg ?_ | refine wDrwQ rfl (by kernel_rfl) ?_ | refine wDrwI ?_ | refine wDrw (by kernel_rfl) ?_); simp only [List.map_cons, List.map_nil, strip]) | ((first | refine wIs fun K hK => ?_ | refine wOs fun K hK => ?_ | refine wQs fun K hK => ?_ | refine CallK_plain ?_ | refine CallQ_plain ?_ | refine CallR_plain ?_ | refine wCond ?_); simp [lv, ouN, kpI, kpR, pos, ren, ren0, renB, renC, renCs]) | (refine wIn ?_; refine And.intro (by kernel_rfl) ?_; try simp only [thenA_n]) | (first | refine wBlock ?_ | refine wScope ?_) | ((first | refine wRet ?_ | refine wExit ?_ | refine wSkip ?_); try simp) | ((first | refine wLabel ?_ | refine wOn ?_ | refine wQn ?_); try simp only [thenA_n])
 all_goals try simp only [thenA_p, blockA_p]
 all_goals apply hp
 all_goals simp [AResP, outB, renB, gaN, lv, ouN, kpI, kpR, pos, ren, ren0, renC, renCs]
set_option maxHeartbeats 16000000 in
theorem read0Ms (b : List UInt8) (a q : Int) (x0 : Int) (x1 : Int) (x2 : Int) (x3 : Int) (x4 : Int) (x5 : Int) (x6 : Int) (x7 : Int) (x8 : Int) (x9 : Int) (x10 : Int) (x11 : Int) (x12 : Int) (x13 : Int) (x14 : List (List PV)) (x15 : Int) (x16 : Int) (x17 : Int) (x18 : List (List PV)) (x19 : List (List PV)) (x20 : Int) (x21 : Int) (x22 : Int) (x23 : Int) (x24 : List (List PV)) (x25 : Int) (x26 : Int) (x27 : List (List PV)) (x28 : Int) (x29 : Int) (x30 : Int) (x31 : Int) (x32 : Int) (x33 : Int) (x34 : List UInt8) (x35 : List (List PV)) (x36 : List (List PV)) (x37 : Int) (x38 : Int) (x39 : Int) (x40 : List (List PV)) (x41 : Int) (x42 : List (List PV)) (x43 : List (List PV)) (x44 : Int) (x45 : Int)
 (hc : Con Try.prog 75 [.ptr 1024 0] (rB b a) (.ret (.p (.agg [I x0, I x1, I x2, I x3, I x4, I x5, I x6, I x7, I x8, I x9, I x10, I x11, I x12, I x13, .sl 2 x14, I x15, I x16, I x17, .sl 5 x18, .sl 1 x19, I x20, I x21, I x22, I x23, .sl 4 x24, I x25, I x26, .sl 8 x27, I x28, I x29, I x30, I x31, I x32, I x33, SB x34, .sl 11 x35, .sl 1 x36, I x37, I x38, I x39, .sl 6 x40, I x41, .sl 4 x42, .sl 1 x43, I x44, I x45])) [] (rB b q))) :
 ACon Try.prog 74 [.p (.sl 1 (by8 b)), .p (I a), .p (.v (.func (.func 75) #[] #[]))] (.tup [.p (.agg [I x0, I x1, I x2, I x3, I x4, I x5, I x6, I x7, I x8, I x9, I x10, I x11, I x12, I x13, .sl 2 x14, I x15, I x16, I x17, .sl 5 x18, .sl 1 x19, I x20, I x21, I x22, I x23, .sl 4 x24, I x25, I x26, .sl 8 x27, I x28, I x29, I x30, I x31, I x32, I x33, SB x34, .sl 11 x35, .sl 1 x36, I x37, I x38, I x39, .sl 6 x40, I x41, .sl 4 x42, .sl 1 x43, I x44, I x45]), .p (I q), .p (I 0)]) := by
 have he0 : ByteArray.empty = bs [] := rfl
 have ct := try_con (caps := [.box 1024, .box 1025, .box 1026]) (rcOkMs b a q x0 x1 x2 x3 x4 x5 x6 x7 x8 x9 x10 x11 x12 x13 x14 x15 x16 x17 x18 x19 x20 x21 x22 x23 x24 x25 x26 x27 x28 x29 x30 x31 x32 x33 x34 x35 x36 x37 x38 x39 x40 x41 x42 x43 x44 x45 hc) rfl
 refine wBody Try.tab Try.mixed Try.func74 rfl rfl Try.ntmps74 (by simp) (by simp) fun Q hr hn => ?_
 repeat' first | (refine CallK_gen [5, 11, 9, 16] ct (by decide) (by decide) (by simp [blksOf, inN, pos, renB, ren0, he0]) (by simp [argsG, argG, ren0, inN, pos, renCs, renC]) ⟨[], by simp, by simp, ?_⟩; simp [lv, ouN, kpI, kpR, pos, ren, ren0, renB, renC, renCs]) | (refine hK _ ?_; clear hK) | (refine hK _ _ ?_; clear hK) | (clear hK; refine hK _ ?_; clear hK) | (clear hK; clear hK; refine hK _ ?_; clear hK) | (clear hK; clear hK; clear hK; refine hK _ ?_; clear hK) | (clear hK; clear hK; clear hK; clear hK; refine hK _ ?_; clear hK) | (refine wSeq fun K hK => ?_) | ((first | refine wReg ?_ | refine wDrwQ rfl (by kernel_rfl) ?_ | refine wDrwI ?_ | refine wDrw (by kernel_rfl) ?_); simp only [List.map_cons, List.map_nil, strip]) | ((first | refine wIs fun K hK => ?_ | refine wOs fun K hK => ?_ | refine wQs fun K hK => ?_ | refine CallK_plain ?_ | refine CallQ_plain ?_ | refine CallR_plain ?_ | refine wCond ?_); simp [lv, ouN, kpI, kpR, pos, ren, ren0, renB, renC, renCs]) | (refine wIn ?_; refine And.intro (by kernel_rfl) ?_; try simp only [thenA_n]) | (first | refine wBlock ?_ | refine wScope ?_) | ((first | refine wRet ?_ | refine wExit ?_ | refine wSkip ?_); try simp) | ((first | refine wLabel ?_ | refine wOn ?_ | refine wQn ?_); try simp only [thenA_n])
 all_goals apply hr
 all_goals simp [Try.f74]
set_option maxHeartbeats 16000000 in
theorem readEMs (b : List UInt8) (a q e : Int) (h0 : ¬ e = 0)
 (hc : Con Try.prog 75 [.ptr 1024 0] (rB b a) (.pan (.iface 192 (.int .i64 e)) (rB b q))) :
 ACon Try.prog 74 [.p (.sl 1 (by8 b)), .p (I a), .p (.v (.func (.func 75) #[] #[]))] (.tup [.p (.agg [I 0, I 0, I 0, I 0, I 0, I 0, I 0, I 0, I 0, I 0, I 0, I 0, I 0, I 0, .sl 2 [], I 0, I 0, I 0, .sl 5 [], .sl 1 [], I 0, I 0, I 0, I 0, .sl 4 [], I 0, I 0, .sl 8 [], I 0, I 0, I 0, I 0, I 0, I 0, SB [], .sl 11 [], .sl 1 [], I 0, I 0, I 0, .sl 6 [], I 0, .sl 4 [], .sl 1 [], I 0, I 0]), .p (I 0), .p (I e)]) := by
 have he0 : ByteArray.empty = bs [] := rfl
 have ct := try_con (n := e) (caps := [.box 1024, .box 1025, .box 1026]) (rcPanMs b a q e hc) rfl
 refine wBody Try.tab Try.mixed Try.func74 rfl rfl Try.ntmps74 (by simp) (by simp) fun Q hr hn => ?_
 repeat' first | (refine CallK_gen [5, 11, 9, 16] ct (by decide) (by decide) (by simp [blksOf, inN, pos, renB, ren0, he0]) (by simp [argsG, argG, ren0, inN, pos, renCs, renC]) ⟨[], by simp, by simp, ?_⟩; simp [lv, ouN, kpI, kpR, pos, ren, ren0, renB, renC, renCs]) | (refine hK _ ?_; clear hK) | (refine hK _ _ ?_; clear hK) | (clear hK; refine hK _ ?_; clear hK) | (clear hK; clear hK; refine hK _ ?_; clear hK) | (clear hK; clear hK; clear hK; refine hK _ ?_; clear hK) | (clear hK; clear hK; clear hK; clear hK; refine hK _ ?_; clear hK) | (refine wSeq fun K hK => ?_) | ((first | refine wReg ?_ | refine wDrwQ rfl (by kernel_rfl) ?_ | refine wDrwI ?_ | refine wDrw (by kernel_rfl) ?_); simp only [List.map_cons, List.map_nil, strip]) | ((first | refine wIs fun K hK => ?_ | refine wOs fun K hK => ?_ | refine wQs fun K hK => ?_ | refine CallK_plain ?_ | refine CallQ_plain ?_ | refine CallR_plain ?_ | refine wCond ?_); simp [h0, lv, ouN, kpI, kpR, pos, ren, ren0, renB, renC, renCs]) | (refine wIn ?_; refine And.intro (by kernel_rfl) ?_; try simp only [thenA_n]) | (first | refine wBlock ?_ | refine wScope ?_) | ((first | refine wRet ?_ | refine wExit ?_ | refine wSkip ?_); try simp) | ((first | refine wLabel ?_ | refine wOn ?_ | refine wQn ?_); try simp only [thenA_n])
 all_goals apply hr
 all_goals simp [Try.f74, he0]
set_option maxHeartbeats 16000000 in
theorem readMs (b : List UInt8) (a : Int) (hb : b.length <= 1000000000) : ACon Try.prog 36 [.p (.sl 1 (by8 b)), .p (I a)] (rT fMs b a) := by
 have c := rMs b a hb
 obtain ⟨x0, x1, x2, x3, x4, x5, x6, x7, x8, x9, x10, x11, x12, x13, x14, x15, x16, x17, x18, x19, x20, x21, x22, x23, x24, x25, x26, x27, x28, x29, x30, x31, x32, x33, x34, x35, x36, x37, x38, x39, x40, x41, x42, x43, x44, x45, ⟨q, k⟩, he⟩ := fMs_got b (0, a)
 unfold rT
 rw [he] at c ⊢
 simp only [vOf2] at c ⊢
 have he0 : ByteArray.empty = bs [] := rfl
 by_cases h : q = 0
 ·subst h
  rw [rO_ok] at c
  rw [if_pos rfl]
  have c2 := read0Ms b a k x0 x1 x2 x3 x4 x5 x6 x7 x8 x9 x10 x11 x12 x13 x14 x15 x16 x17 x18 x19 x20 x21 x22 x23 x24 x25 x26 x27 x28 x29 x30 x31 x32 x33 x34 x35 x36 x37 x38 x39 x40 x41 x42 x43 x44 x45 c
  clear c he
  refine wBody Try.tab Try.mixed Try.func36 rfl rfl Try.ntmps36 (by simp) (by simp) fun Q hr hn => ?_
  repeat' first | (refine hK _ ?_; clear hK) | (refine hK _ _ ?_; clear hK) | (clear hK; refine hK _ ?_; clear hK) | (clear hK; clear hK; refine hK _ ?_; clear hK) | (clear hK; clear hK; clear hK; refine hK _ ?_; clear hK) | (clear hK; clear hK; clear hK; clear hK; refine hK _ ?_; clear hK) | (refine wSeq fun K hK => ?_) | ((first | refine wReg ?_ | refine wDrwQ rfl (by kernel_rfl) ?_ | refine wDrwI ?_ | refine wDrw (by kernel_rfl) ?_); simp only [List.map_cons, List.map_nil, strip]) | ((first | refine wIs fun K hK => ?_ | refine wOs fun K hK => ?_ | refine wQs fun K hK => ?_ | refine CallK_plain ?_ | refine CallQ_plain ?_ | refine CallR_plain ?_ | refine wCond ?_); simp) | (refine wIn ?_; refine And.intro (by kernel_rfl) ?_; try simp only [thenA_n]) | (first | refine wBlock ?_ | refine wScope ?_) | ((first | refine wRet ?_ | refine wExit ?_ | refine wSkip ?_); try simp) | ((first | refine wLabel ?_ | refine wOn ?_ | refine wQn ?_); try simp only [thenA_n]) | (refine CallE.pure (c2) rfl ?_) | (refine CallE.lent (c2) rfl ?_) | (refine CallF.pure (c2) rfl ?_) | (refine CallF.lent (c2) rfl ?_) | (refine CallE.own (c2) ?_) | (refine CallH.pure (c2) rfl ?_) | (refine CallH.lent (c2) rfl ?_) | (refine CallH.own (c2) ?_)
  all_goals apply hr
  all_goals simp [Try.f36]
 ·rw [rO_err _ _ _ h] at c
  rw [if_neg h, fMs_ze]
  have c2 := readEMs b a k q h c
  clear c he
  simp only [vOf2]
  refine wBody Try.tab Try.mixed Try.func36 rfl rfl Try.ntmps36 (by simp) (by simp) fun Q hr hn => ?_
  repeat' first | (refine hK _ ?_; clear hK) | (refine hK _ _ ?_; clear hK) | (clear hK; refine hK _ ?_; clear hK) | (clear hK; clear hK; refine hK _ ?_; clear hK) | (clear hK; clear hK; clear hK; refine hK _ ?_; clear hK) | (clear hK; clear hK; clear hK; clear hK; refine hK _ ?_; clear hK) | (refine wSeq fun K hK => ?_) | ((first | refine wReg ?_ | refine wDrwQ rfl (by kernel_rfl) ?_ | refine wDrwI ?_ | refine wDrw (by kernel_rfl) ?_); simp only [List.map_cons, List.map_nil, strip]) | ((first | refine wIs fun K hK => ?_ | refine wOs fun K hK => ?_ | refine wQs fun K hK => ?_ | refine CallK_plain ?_ | refine CallQ_plain ?_ | refine CallR_plain ?_ | refine wCond ?_); simp) | (refine wIn ?_; refine And.intro (by kernel_rfl) ?_; try simp only [thenA_n]) | (first | refine wBlock ?_ | refine wScope ?_) | ((first | refine wRet ?_ | refine wExit ?_ | refine wSkip ?_); try simp) | ((first | refine wLabel ?_ | refine wOn ?_ | refine wQn ?_); try simp only [thenA_n]) | (refine CallE.pure (c2) rfl ?_) | (refine CallE.lent (c2) rfl ?_) | (refine CallF.pure (c2) rfl ?_) | (refine CallF.lent (c2) rfl ?_) | (refine CallE.own (c2) ?_) | (refine CallH.pure (c2) rfl ?_) | (refine CallH.lent (c2) rfl ?_) | (refine CallH.own (c2) ?_)
  all_goals apply hr
  all_goals simp [Try.f36]
set_option maxHeartbeats 16000000 in
theorem iMs : IRn 76 fMs := by
 intro b st hb
 have c0 := inum b st hb
 obtain ⟨x0, s0, e0⟩ := foI_got b st
 rw [e0] at c0
 simp only [vOf1, vOf2] at c0
 have c1 := inum b s0 hb
 obtain ⟨x1, s1, e1⟩ := foI_got b s0
 rw [e1] at c1
 simp only [vOf1, vOf2] at c1
 have c2 := inum b s1 hb
 obtain ⟨x2, s2, e2⟩ := foI_got b s1
 rw [e2] at c2
 simp only [vOf1, vOf2] at c2
 have c3 := inum b s2 hb
 obtain ⟨x3, s3, e3⟩ := foI_got b s2
 rw [e3] at c3
 simp only [vOf1, vOf2] at c3
 have c4 := inum b s3 hb
 obtain ⟨x4, s4, e4⟩ := foI_got b s3
 rw [e4] at c4
 simp only [vOf1, vOf2] at c4
 have c5 := inum b s4 hb
 obtain ⟨x5, s5, e5⟩ := foI_got b s4
 rw [e5] at c5
 simp only [vOf1, vOf2] at c5
 have c6 := iZx b s5 hb
 obtain ⟨x6, x7, s6, e6⟩ := fZx_got b s5
 rw [e6] at c6
 simp only [vOf1, vOf2] at c6
 have c7 := inum b s6 hb
 obtain ⟨x8, s7, e7⟩ := foI_got b s6
 rw [e7] at c7
 simp only [vOf1, vOf2] at c7
 have c8 := inum b s7 hb
 obtain ⟨x9, s8, e8⟩ := foI_got b s7
 rw [e8] at c8
 simp only [vOf1, vOf2] at c8
 have c9 := inum b s8 hb
 obtain ⟨x10, s9, e9⟩ := foI_got b s8
 rw [e9] at c9
 simp only [vOf1, vOf2] at c9
 have c10 := inum b s9 hb
 obtain ⟨x11, s10, e10⟩ := foI_got b s9
 rw [e10] at c10
 simp only [vOf1, vOf2] at c10
 have c11 := iZx b s10 hb
 obtain ⟨x12, x13, s11, e11⟩ := fZx_got b s10
 rw [e11] at c11
 simp only [vOf1, vOf2] at c11
 have c12 := ilZx b s11 hb
 obtain ⟨x14, s12, e12⟩ := fl_got 2 fZx b s11
 rw [e12] at c12
 simp only [vOf1, vOf2] at c12
 have c13 := inum b s12 hb
 obtain ⟨x15, s13, e13⟩ := foI_got b s12
 rw [e13] at c13
 simp only [vOf1, vOf2] at c13
 have c14 := iZx b s13 hb
 obtain ⟨x16, x17, s14, e14⟩ := fZx_got b s13
 rw [e14] at c14
 simp only [vOf1, vOf2] at c14
 have c15 := iSt b s14 hb
 obtain ⟨x18, x19, x20, x21, x22, x23, x24, x25, x26, s15, e15⟩ := fSt_got b s14
 rw [e15] at c15
 simp only [vOf1, vOf2] at c15
 have c16 := ilTx b s15 hb
 obtain ⟨x27, s16, e16⟩ := fl_got 8 fTx b s15
 rw [e16] at c16
 simp only [vOf1, vOf2] at c16
 have c17 := iTx b s16 hb
 obtain ⟨x28, x29, x30, x31, x32, x33, x34, x35, s17, e17⟩ := fTx_got b s16
 rw [e17] at c17
 simp only [vOf1, vOf2] at c17
 have c18 := ilI b s17 hb
 obtain ⟨x36, s18, e18⟩ := fl_got 1 foI b s17
 rw [e18] at c18
 simp only [vOf1, vOf2] at c18
 have c19 := iRq b s18 hb
 obtain ⟨x37, x38, x39, x40, x41, x42, x43, x44, x45, s19, e19⟩ := fRq_got b s18
 rw [e19] at c19
 simp only [vOf1, vOf2] at c19
 have hz : fMs.rd b st = ([I x0, I x1, I x2, I x3, I x4, I x5, I x6, I x7, I x8, I x9, I x10, I x11, I x12, I x13, .sl 2 x14, I x15, I x16, I x17, .sl 5 x18, .sl 1 x19, I x20, I x21, I x22, I x23, .sl 4 x24, I x25, I x26, .sl 8 x27, I x28, I x29, I x30, I x31, I x32, I x33, SB x34, .sl 11 x35, .sl 1 x36, I x37, I x38, I x39, .sl 6 x40, I x41, .sl 4 x42, .sl 1 x43, I x44, I x45], s19) := by simp only [fMs, fVt, fPl, sq_rd, e0, e1, e2, e3, e4, e5, e6, e7, e8, e9, e10, e11, e12, e13, e14, e15, e16, e17, e18, e19, List.cons_append, List.nil_append]
 rw [hz]
 clear e0 e1 e2 e3 e4 e5 e6 e7 e8 e9 e10 e11 e12 e13 e14 e15 e16 e17 e18 e19 hz
 simp only [vOf2]
 refine wBodyG Try.tab Try.mixed Try.func76 rfl rfl Try.ntmps76 (by simp) (by simp) fun Q hr hn hp => ?_
 repeat' first | (refine CallK_gen [1024] c0 (by decide) (by decide) (by simp [blksOf, inN, pos, renB, ren0, ouN, lv, kpI, kpR]) (by simp [argsG, argG, ren0, inN, pos, renCs, renC]) ⟨[], by simp, by simp, ?_⟩; simp [lv, ouN, kpI, kpR, pos, ren, ren0, renB, renC, renCs]; clear c0) | (refine CallK_gen [1024] c1 (by decide) (by decide) (by simp [blksOf, inN, pos, renB, ren0, ouN, lv, kpI, kpR]) (by simp [argsG, argG, ren0, inN, pos, renCs, renC]) ⟨[], by simp, by simp, ?_⟩; simp [lv, ouN, kpI, kpR, pos, ren, ren0, renB, renC, renCs]; clear c1) | (refine CallK_gen [1024] c2 (by decide) (by decide) (by simp [blksOf, inN, pos, renB, ren0, ouN, lv, kpI, kpR]) (by simp [argsG, argG, ren0, inN, pos, renCs, renC]) ⟨[], by simp, by simp, ?_⟩; simp [lv, ouN, kpI, kpR, pos, ren, ren0, renB, renC, renCs]; clear c2) | (refine CallK_gen [1024] c3 (by decide) (by decide) (by simp [blksOf, inN, pos, renB, ren0, ouN, lv, kpI, kpR]) (by simp [argsG, argG, ren0, inN, pos, renCs, renC]) ⟨[], by simp, by simp, ?_⟩; simp [lv, ouN, kpI, kpR, pos, ren, ren0, renB, renC, renCs]; clear c3) | (refine CallK_gen [1024] c4 (by decide) (by decide) (by simp [blksOf, inN, pos, renB, ren0, ouN, lv, kpI, kpR]) (by simp [argsG, argG, ren0, inN, pos, renCs, renC]) ⟨[], by simp, by simp, ?_⟩; simp [lv, ouN, kpI, kpR, pos, ren, ren0, renB, renC, renCs]; clear c4) | (refine CallK_gen [1024] c5 (by decide) (by decide) (by simp [blksOf, inN, pos, renB, ren0, ouN, lv, kpI, kpR]) (by simp [argsG, argG, ren0, inN, pos, renCs, renC]) ⟨[], by simp, by simp, ?_⟩; simp [lv, ouN, kpI, kpR, pos, ren, ren0, renB, renC, renCs]; clear c5) | (refine CallK_gen [1024] c6 (by decide) (by decide) (by simp [blksOf, inN, pos, renB, ren0, ouN, lv, kpI, kpR]) (by simp [argsG, argG, ren0, inN, pos, renCs, renC]) ⟨[], by simp, by simp, ?_⟩; simp [lv, ouN, kpI, kpR, pos, ren, ren0, renB, renC, renCs]; clear c6) | (refine CallK_gen [1024] c7 (by decide) (by decide) (by simp [blksOf, inN, pos, renB, ren0, ouN, lv, kpI, kpR]) (by simp [argsG, argG, ren0, inN, pos, renCs, renC]) ⟨[], by simp, by simp, ?_⟩; simp [lv, ouN, kpI, kpR, pos, ren, ren0, renB, renC, renCs]; clear c7) | (refine CallK_gen [1024] c8 (by decide) (by decide) (by simp [blksOf, inN, pos, renB, ren0, ouN, lv, kpI, kpR]) (by simp [argsG, argG, ren0, inN, pos, renCs, renC]) ⟨[], by simp, by simp, ?_⟩; simp [lv, ouN, kpI, kpR, pos, ren, ren0, renB, renC, renCs]; clear c8) | (refine CallK_gen [1024] c9 (by decide) (by decide) (by simp [blksOf, inN, pos, renB, ren0, ouN, lv, kpI, kpR]) (by simp [argsG, argG, ren0, inN, pos, renCs, renC]) ⟨[], by simp, by simp, ?_⟩; simp [lv, ouN, kpI, kpR, pos, ren, ren0, renB, renC, renCs]; clear c9) | (refine CallK_gen [1024] c10 (by decide) (by decide) (by simp [blksOf, inN, pos, renB, ren0, ouN, lv, kpI, kpR]) (by simp [argsG, argG, ren0, inN, pos, renCs, renC]) ⟨[], by simp, by simp, ?_⟩; simp [lv, ouN, kpI, kpR, pos, ren, ren0, renB, renC, renCs]; clear c10) | (refine CallK_gen [1024] c11 (by decide) (by decide) (by simp [blksOf, inN, pos, renB, ren0, ouN, lv, kpI, kpR]) (by simp [argsG, argG, ren0, inN, pos, renCs, renC]) ⟨[], by simp, by simp, ?_⟩; simp [lv, ouN, kpI, kpR, pos, ren, ren0, renB, renC, renCs]; clear c11) | (refine CallK_gen [1024] c12 (by decide) (by decide) (by simp [blksOf, inN, pos, renB, ren0, ouN, lv, kpI, kpR]) (by simp [argsG, argG, ren0, inN, pos, renCs, renC]) ⟨[], by simp, by simp, ?_⟩; simp [lv, ouN, kpI, kpR, pos, ren, ren0, renB, renC, renCs]; clear c12) | (refine CallK_gen [1024] c13 (by decide) (by decide) (by simp [blksOf, inN, pos, renB, ren0, ouN, lv, kpI, kpR]) (by simp [argsG, argG, ren0, inN, pos, renCs, renC]) ⟨[], by simp, by simp, ?_⟩; simp [lv, ouN, kpI, kpR, pos, ren, ren0, renB, renC, renCs]; clear c13) | (refine CallK_gen [1024] c14 (by decide) (by decide) (by simp [blksOf, inN, pos, renB, ren0, ouN, lv, kpI, kpR]) (by simp [argsG, argG, ren0, inN, pos, renCs, renC]) ⟨[], by simp, by simp, ?_⟩; simp [lv, ouN, kpI, kpR, pos, ren, ren0, renB, renC, renCs]; clear c14) | (refine CallK_gen [1024] c15 (by decide) (by decide) (by simp [blksOf, inN, pos, renB, ren0, ouN, lv, kpI, kpR]) (by simp [argsG, argG, ren0, inN, pos, renCs, renC]) ⟨[], by simp, by simp, ?_⟩; simp [lv, ouN, kpI, kpR, pos, ren, ren0, renB, renC, renCs]; clear c15) | (refine CallK_gen [1024] c16 (by decide) (by decide) (by simp [blksOf, inN, pos, renB, ren0, ouN, lv, kpI, kpR]) (by simp [argsG, argG, ren0, inN, pos, renCs, renC]) ⟨[], by simp, by simp, ?_⟩; simp [lv, ouN, kpI, kpR, pos, ren, ren0, renB, renC, renCs]; clear c16) | (refine CallK_gen [1024] c17 (by decide) (by decide) (by simp [blksOf, inN, pos, renB, ren0, ouN, lv, kpI, kpR]) (by simp [argsG, argG, ren0, inN, pos, renCs, renC]) ⟨[], by simp, by simp, ?_⟩; simp [lv, ouN, kpI, kpR, pos, ren, ren0, renB, renC, renCs]; clear c17) | (refine CallK_gen [1024] c18 (by decide) (by decide) (by simp [blksOf, inN, pos, renB, ren0, ouN, lv, kpI, kpR]) (by simp [argsG, argG, ren0, inN, pos, renCs, renC]) ⟨[], by simp, by simp, ?_⟩; simp [lv, ouN, kpI, kpR, pos, ren, ren0, renB, renC, renCs]; clear c18) | (refine CallK_gen [1024] c19 (by decide) (by decide) (by simp [blksOf, inN, pos, renB, ren0, ouN, lv, kpI, kpR]) (by simp [argsG, argG, ren0, inN, pos, renCs, renC]) ⟨[], by simp, by simp, ?_⟩; simp [lv, ouN, kpI, kpR, pos, ren, ren0, renB, renC, renCs]; clear c19) | (refine hK _ ?_; clear hK) | (refine hK _ _ ?_; clear hK) | (clear hK; refine hK _ ?_; clear hK) | (clear hK; clear hK; refine hK _ ?_; clear hK) | (clear hK; clear hK; clear hK; refine hK _ ?_; clear hK) | (clear hK; clear hK; clear hK; clear hK; refine hK _ ?_; clear hK) | (refine wSeq fun K hK => ?_) | ((first | refine wReg ?_ | refine wDrwQ rfl (by kernel_rfl) ?_ | refine wDrwI ?_ | refine wDrw (by kernel_rfl) ?_); simp only [List.map_cons, List.map_nil, strip]) | ((first | refine wIs fun K hK => ?_ | refine wOs fun K hK => ?_ | refine wQs fun K hK => ?_ | refine CallK_plain ?_ | refine CallQ_plain ?_ | refine CallR_plain ?_ | refine wCond ?_); simp [lv, ouN, kpI, kpR, pos, ren, ren0, renB, renC, renCs]) | (refine wIn ?_; refine And.intro (by kernel_rfl) ?_; try simp only [thenA_n]) | (first | refine wBlock ?_ | refine wScope ?_) | ((first | refine wRet ?_ | refine wExit ?_ | refine wSkip ?_); try simp) | ((first | refine wLabel ?_ | refine wOn ?_ | refine wQn ?_); try simp only [thenA_n])
 all_goals first | apply hr
 all_goals refine ⟨[], by simp, by simp, ?_⟩
 all_goals simp [Try.f76, outR, outB, renB, gaN, lv, ouN, kpI, kpR, pos, ren, ren0, renC, renCs]
set_option maxHeartbeats 16000000 in
theorem read12Ms (b : List UInt8) (a : Int) (hb : b.length <= 1000000000) : ACon Try.prog 37 [.p (.sl 1 (by8 b)), .p (I a)] (rT fMs b a) := by
 have c := iMs b (0, a) hb
 obtain ⟨x0, x1, x2, x3, x4, x5, x6, x7, x8, x9, x10, x11, x12, x13, x14, x15, x16, x17, x18, x19, x20, x21, x22, x23, x24, x25, x26, x27, x28, x29, x30, x31, x32, x33, x34, x35, x36, x37, x38, x39, x40, x41, x42, x43, x44, x45, ⟨q, k⟩, he⟩ := fMs_got b (0, a)
 unfold rT
 rw [he] at c ⊢
 simp only [vOf2] at c ⊢
 have he0 : ByteArray.empty = bs [] := rfl
 by_cases h : q = 0
 ·subst h
  rw [if_pos rfl]
  clear he
  refine wBody Try.tab Try.mixed Try.func37 rfl rfl Try.ntmps37 (by simp) (by simp) fun Q hr hn => ?_
  repeat' first | (refine CallK_gen [12] (c) (by decide) (by decide) (by simp [blksOf, inN, pos, renB, renC, renCs, ren0, lv, ouN, kpI, kpR]) (by simp [argsG, argG, ren0, inN, pos, renCs, renC]) ⟨[], by simp, by simp, ?_⟩; simp [lv, ouN, kpI, kpR, pos, ren, ren0, renB, renC, renCs, renF, renFs]) | (refine hK _ ?_; clear hK) | (refine hK _ _ ?_; clear hK) | (clear hK; refine hK _ ?_; clear hK) | (clear hK; clear hK; refine hK _ ?_; clear hK) | (clear hK; clear hK; clear hK; refine hK _ ?_; clear hK) | (clear hK; clear hK; clear hK; clear hK; refine hK _ ?_; clear hK) | (refine wSeq fun K hK => ?_) | ((first | refine wReg ?_ | refine wDrwQ rfl (by kernel_rfl) ?_ | refine wDrwI ?_ | refine wDrw (by kernel_rfl) ?_); simp only [List.map_cons, List.map_nil, strip]) | ((first | refine wIs fun K hK => ?_ | refine wOs fun K hK => ?_ | refine wQs fun K hK => ?_ | refine CallK_plain ?_ | refine CallQ_plain ?_ | refine CallR_plain ?_ | refine wCond ?_); simp [lv, ouN, kpI, kpR, pos, ren, ren0, renB, renC, renCs]) | (refine wIn ?_; refine And.intro (by kernel_rfl) ?_; try simp only [thenA_n]) | (first | refine wBlock ?_ | refine wScope ?_) | ((first | refine wRet ?_ | refine wExit ?_ | refine wSkip ?_); try simp) | ((first | refine wLabel ?_ | refine wOn ?_ | refine wQn ?_); try simp only [thenA_n])
  all_goals apply hr
  all_goals simp [Try.f37]
 ·rw [if_neg h, show fMs.ze = [I 0, I 0, I 0, I 0, I 0, I 0, I 0, I 0, I 0, I 0, I 0, I 0, I 0, I 0, .sl 2 [], I 0, I 0, I 0, .sl 5 [], .sl 1 [], I 0, I 0, I 0, I 0, .sl 4 [], I 0, I 0, .sl 8 [], I 0, I 0, I 0, I 0, I 0, I 0, SB [], .sl 11 [], .sl 1 [], I 0, I 0, I 0, .sl 6 [], I 0, .sl 4 [], .sl 1 [], I 0, I 0] from rfl]
  clear he
  simp only [vOf2]
  refine wBody Try.tab Try.mixed Try.func37 rfl rfl Try.ntmps37 (by simp) (by simp) fun Q hr hn => ?_
  repeat' first | (refine CallK_gen [12] (c) (by decide) (by decide) (by simp [blksOf, inN, pos, renB, renC, renCs, ren0, lv, ouN, kpI, kpR]) (by simp [argsG, argG, ren0, inN, pos, renCs, renC]) ⟨[], by simp, by simp, ?_⟩; simp [lv, ouN, kpI, kpR, pos, ren, ren0, renB, renC, renCs, renF, renFs]) | (refine hK _ ?_; clear hK) | (refine hK _ _ ?_; clear hK) | (clear hK; refine hK _ ?_; clear hK) | (clear hK; clear hK; refine hK _ ?_; clear hK) | (clear hK; clear hK; clear hK; refine hK _ ?_; clear hK) | (clear hK; clear hK; clear hK; clear hK; refine hK _ ?_; clear hK) | (refine wSeq fun K hK => ?_) | ((first | refine wReg ?_ | refine wDrwQ rfl (by kernel_rfl) ?_ | refine wDrwI ?_ | refine wDrw (by kernel_rfl) ?_); simp only [List.map_cons, List.map_nil, strip]) | ((first | refine wIs fun K hK => ?_ | refine wOs fun K hK => ?_ | refine wQs fun K hK => ?_ | refine CallK_plain ?_ | refine CallQ_plain ?_ | refine CallR_plain ?_ | refine wCond ?_); simp [h, lv, ouN, kpI, kpR, pos, ren, ren0, renB, renC, renCs]) | (refine wIn ?_; refine And.intro (by kernel_rfl) ?_; try simp only [thenA_n]) | (first | refine wBlock ?_ | refine wScope ?_) | ((first | refine wRet ?_ | refine wExit ?_ | refine wSkip ?_); try simp) | ((first | refine wLabel ?_ | refine wOn ?_ | refine wQn ?_); try simp only [thenA_n])
  all_goals apply hr
  all_goals simp [Try.f37, he0]
def catZ (l : List Int) : List UInt8 := (l.map fun n => enc (zz n)).flatten
theorem catZ_take {l : List Int} {k : Nat} (h : k < l.length) : catZ (l.take (k + 1)) = catZ (l.take k) ++ enc (zz l[k]) := by
 unfold catZ; rw [List.take_succ_eq_append_getElem h, List.map_append, List.flatten_append]; simp
theorem catZ_len {l : List Int} (h : ∀ n ∈ l, okI n) : ∀ k, (catZ (l.take k)).length <= 10 * k := by
 intro k
 induction k with
 | zero => simp [catZ]
 | succ k ih =>
  by_cases hk : k < l.length
  ·rw [catZ_take hk, List.length_append]
   have := enc_len10 (zz_lt (h _ (List.getElem_mem hk)))
   omega
  ·rw [List.take_of_length_le (by omega)] at ih ⊢
   omega
set_option maxHeartbeats 1000000 in
theorem nums12_con (b : List UInt8) (l : List Int) (h : ∀ n ∈ l, okI n) (hl : l.length <= 1000000) (hb : b.length <= 50000000) : ACon Try.prog 41 [.p (.sl 1 (by8 b)), .p (.sl 1 (ints l))] (.p (.sl 1 (by8 (b ++ catZ l)))) := by
 refine wBody Try.tab Try.mixed Try.func41 rfl rfl Try.ntmps41 (by simp) (by simp) fun Q hr hn => ?_
 repeat' first | (refine hK _ ?_; clear hK) | (refine hK _ _ ?_; clear hK) | (clear hK; refine hK _ ?_; clear hK) | (clear hK; clear hK; refine hK _ ?_; clear hK) | (clear hK; clear hK; clear hK; refine hK _ ?_; clear hK) | (clear hK; clear hK; clear hK; clear hK; refine hK _ ?_; clear hK) | (refine wSeq fun K hK => ?_) | ((first | refine wReg ?_ | refine wDrwQ rfl (by kernel_rfl) ?_ | refine wDrwI ?_ | refine wDrw (by kernel_rfl) ?_); simp only [List.map_cons, List.map_nil, strip]) | ((first | refine wIs fun K hK => ?_ | refine wOs fun K hK => ?_ | refine wQs fun K hK => ?_ | refine CallK_plain ?_ | refine CallQ_plain ?_ | refine CallR_plain ?_ | refine wCond ?_); simp) | (refine wIn ?_; refine And.intro (by kernel_rfl) ?_; try simp only [thenA_n]) | (first | refine wBlock ?_ | refine wScope ?_) | ((first | refine wRet ?_ | refine wExit ?_ | refine wSkip ?_); try simp) | ((first | refine wLabel ?_ | refine wOn ?_ | refine wQn ?_); try simp only [thenA_n])
 refine wLoop (fun N st => ∃ k, k + N = l.length /\ st.s 0 = .p (.sl 1 (by8 (b ++ catZ (l.take k)))) /\ st.s 7 = .p (.sl 1 (ints l)) /\ st.s 8 = .p (I l.length) /\ st.s 9 = .p (I k)) l.length ⟨0, by simp [catZ]⟩ fun K N st hL ⟨k, hk, g0, g7, g8, g9⟩ => ?_
 by_cases hlt : k < l.length
 ·have hlt' : (k : Int) < l.length := by omega
  have hw := wrapS k _ hlt (by omega)
  have he := ints_get hlt
  have hln := catZ_len h k
  have c := (putInt01_con (b ++ catZ (l.take k)) l[k] (h _ (List.getElem_mem hlt)) (by rw [List.length_append]; omega)).toPure
  rw [List.append_assoc, <- catZ_take hlt] at c
  repeat' first | (refine hK _ ?_; clear hK) | (refine hK _ _ ?_; clear hK) | (clear hK; refine hK _ ?_; clear hK) | (clear hK; clear hK; refine hK _ ?_; clear hK) | (clear hK; clear hK; clear hK; refine hK _ ?_; clear hK) | (clear hK; clear hK; clear hK; clear hK; refine hK _ ?_; clear hK) | (refine wSeq fun K hK => ?_) | ((first | refine wReg ?_ | refine wDrwQ rfl (by kernel_rfl) ?_ | refine wDrwI ?_ | refine wDrw (by kernel_rfl) ?_); simp only [List.map_cons, List.map_nil, strip]) | ((first | refine wIs fun K hK => ?_ | refine wOs fun K hK => ?_ | refine wQs fun K hK => ?_ | refine CallK_plain ?_ | refine CallQ_plain ?_ | refine CallR_plain ?_ | refine wCond ?_); simp [g0, g7, g8, g9, hlt, hlt', hw, he]) | (refine wIn ?_; refine And.intro (by kernel_rfl) ?_; try simp only [thenA_n]) | (first | refine wBlock ?_ | refine wScope ?_) | ((first | refine wRet ?_ | refine wExit ?_ | refine wSkip ?_); try simp) | ((first | refine wLabel ?_ | refine wOn ?_ | refine wQn ?_); try simp only [thenA_n]) | (refine CallE.pure (c) rfl ?_) | (refine CallE.lent (c) rfl ?_) | (refine CallF.pure (c) rfl ?_) | (refine CallF.lent (c) rfl ?_) | (refine CallE.own (c) ?_) | (refine CallH.pure (c) rfl ?_) | (refine CallH.lent (c) rfl ?_) | (refine CallH.own (c) ?_)
  refine hL _ (N - 1) (by omega) ⟨k + 1, by omega, ?_⟩
  simp [g0, g7, g8, g9, hw]
 ·have hlt' : ¬ (k : Int) < l.length := by omega
  rw [List.take_of_length_le (by omega)] at g0
  repeat' first | (refine hK _ ?_; clear hK) | (refine hK _ _ ?_; clear hK) | (clear hK; refine hK _ ?_; clear hK) | (clear hK; clear hK; refine hK _ ?_; clear hK) | (clear hK; clear hK; clear hK; refine hK _ ?_; clear hK) | (clear hK; clear hK; clear hK; clear hK; refine hK _ ?_; clear hK) | (refine wSeq fun K hK => ?_) | ((first | refine wReg ?_ | refine wDrwQ rfl (by kernel_rfl) ?_ | refine wDrwI ?_ | refine wDrw (by kernel_rfl) ?_); simp only [List.map_cons, List.map_nil, strip]) | ((first | refine wIs fun K hK => ?_ | refine wOs fun K hK => ?_ | refine wQs fun K hK => ?_ | refine CallK_plain ?_ | refine CallQ_plain ?_ | refine CallR_plain ?_ | refine wCond ?_); simp [g0, g7, g8, g9, hlt, hlt']) | (refine wIn ?_; refine And.intro (by kernel_rfl) ?_; try simp only [thenA_n]) | (first | refine wBlock ?_ | refine wScope ?_) | ((first | refine wRet ?_ | refine wExit ?_ | refine wSkip ?_); try simp) | ((first | refine wLabel ?_ | refine wOn ?_ | refine wQn ?_); try simp only [thenA_n])
  all_goals apply hr
  all_goals simp [Try.f41, g0]
theorem zxid12_con (b : List UInt8) (e n : Int) (he : okI e) (hn' : okI n) (hb : b.length <= 50000000) : ACon Try.prog 19 [.p (.sl 1 (by8 b)), .p (.agg [I e, I n])] (.p (.sl 1 (by8 (b ++ catZ [e, n])))) := by
 have h1 := enc_len10 (zz_lt he)
 have c1 := (putInt01_con b e he (by omega)).toPure
 have c2 := (putInt01_con (b ++ enc (zz e)) n hn' (by rw [List.length_append]; omega)).toPure
 rw [List.append_assoc, show enc (zz e) ++ enc (zz n) = catZ [e, n] by simp [catZ]] at c2
 generalize b ++ catZ [e, n] = r at *
 generalize b ++ enc (zz e) = x at *
 refine wBody Try.tab Try.mixed Try.func19 rfl rfl Try.ntmps19 (by simp) (by simp) fun Q hr hn => ?_
 repeat' first | (refine hK _ ?_; clear hK) | (refine hK _ _ ?_; clear hK) | (clear hK; refine hK _ ?_; clear hK) | (clear hK; clear hK; refine hK _ ?_; clear hK) | (clear hK; clear hK; clear hK; refine hK _ ?_; clear hK) | (clear hK; clear hK; clear hK; clear hK; refine hK _ ?_; clear hK) | (refine wSeq fun K hK => ?_) | ((first | refine wReg ?_ | refine wDrwQ rfl (by kernel_rfl) ?_ | refine wDrwI ?_ | refine wDrw (by kernel_rfl) ?_); simp only [List.map_cons, List.map_nil, strip]) | ((first | refine wIs fun K hK => ?_ | refine wOs fun K hK => ?_ | refine wQs fun K hK => ?_ | refine CallK_plain ?_ | refine CallQ_plain ?_ | refine CallR_plain ?_ | refine wCond ?_); simp) | (refine wIn ?_; refine And.intro (by kernel_rfl) ?_; try simp only [thenA_n]) | (first | refine wBlock ?_ | refine wScope ?_) | ((first | refine wRet ?_ | refine wExit ?_ | refine wSkip ?_); try simp) | ((first | refine wLabel ?_ | refine wOn ?_ | refine wQn ?_); try simp only [thenA_n]) | (refine CallE.pure (c1) rfl ?_) | (refine CallE.lent (c1) rfl ?_) | (refine CallF.pure (c1) rfl ?_) | (refine CallF.lent (c1) rfl ?_) | (refine CallE.own (c1) ?_) | (refine CallH.pure (c1) rfl ?_) | (refine CallH.lent (c1) rfl ?_) | (refine CallH.own (c1) ?_) | (refine CallE.pure (c2) rfl ?_) | (refine CallE.lent (c2) rfl ?_) | (refine CallF.pure (c2) rfl ?_) | (refine CallF.lent (c2) rfl ?_) | (refine CallE.own (c2) ?_) | (refine CallH.pure (c2) rfl ?_) | (refine CallH.lent (c2) rfl ?_) | (refine CallH.own (c2) ?_)
 all_goals apply hr
 all_goals simp [Try.f19]
theorem ints12_con (b : List UInt8) (l : List Int) (h : ∀ n ∈ l, okI n) (hl : l.length <= 1000000) (hb : b.length <= 40000000) : ACon Try.prog 47 [.p (.sl 1 (by8 b)), .p (.sl 1 (ints l))] (.p (.sl 1 (by8 (b ++ catZ ((l.length : Int) :: l))))) := by
 have h0 : okI (l.length : Int) := ⟨by omega, by omega⟩
 have h1 := enc_len10 (zz_lt h0)
 have c1 := (putInt01_con b l.length h0 (by omega)).toPure
 have c2 := nums12_con (b ++ enc (zz l.length)) l h hl (by rw [List.length_append]; omega)
 rw [List.append_assoc, show enc (zz (l.length : Int)) ++ catZ l = catZ ((l.length : Int) :: l) by simp [catZ]] at c2
 generalize b ++ catZ ((l.length : Int) :: l) = r at *
 generalize b ++ enc (zz (l.length : Int)) = x at *
 have hl' : l.length < 9223372036854775808 := by omega
 refine wBody Try.tab Try.mixed Try.func47 rfl rfl Try.ntmps47 (by simp) (by simp) fun Q hr hn => ?_
 repeat' first | (refine hK _ ?_; clear hK) | (refine hK _ _ ?_; clear hK) | (clear hK; refine hK _ ?_; clear hK) | (clear hK; clear hK; refine hK _ ?_; clear hK) | (clear hK; clear hK; clear hK; refine hK _ ?_; clear hK) | (clear hK; clear hK; clear hK; clear hK; refine hK _ ?_; clear hK) | (refine wSeq fun K hK => ?_) | ((first | refine wReg ?_ | refine wDrwQ rfl (by kernel_rfl) ?_ | refine wDrwI ?_ | refine wDrw (by kernel_rfl) ?_); simp only [List.map_cons, List.map_nil, strip]) | ((first | refine wIs fun K hK => ?_ | refine wOs fun K hK => ?_ | refine wQs fun K hK => ?_ | refine CallK_plain ?_ | refine CallQ_plain ?_ | refine CallR_plain ?_ | refine wCond ?_); simp [hl']) | (refine wIn ?_; refine And.intro (by kernel_rfl) ?_; try simp only [thenA_n]) | (first | refine wBlock ?_ | refine wScope ?_) | ((first | refine wRet ?_ | refine wExit ?_ | refine wSkip ?_); try simp) | ((first | refine wLabel ?_ | refine wOn ?_ | refine wQn ?_); try simp only [thenA_n]) | (refine CallE.pure (c1) rfl ?_) | (refine CallE.lent (c1) rfl ?_) | (refine CallF.pure (c1) rfl ?_) | (refine CallF.lent (c1) rfl ?_) | (refine CallE.own (c1) ?_) | (refine CallH.pure (c1) rfl ?_) | (refine CallH.lent (c1) rfl ?_) | (refine CallH.own (c1) ?_) | (refine CallE.pure (c2) rfl ?_) | (refine CallE.lent (c2) rfl ?_) | (refine CallF.pure (c2) rfl ?_) | (refine CallF.lent (c2) rfl ?_) | (refine CallE.own (c2) ?_) | (refine CallH.pure (c2) rfl ?_) | (refine CallH.lent (c2) rfl ?_) | (refine CallH.own (c2) ?_)
 all_goals apply hr
 all_goals simp [Try.f47]
theorem flag12_con (b : Bool) : ACon Try.prog 59 [.p (B b)] (.p (I (if b = true then 1 else 0))) := by
 cases b
 all_goals
  refine wBody Try.tab Try.mixed Try.func59 rfl rfl Try.ntmps59 (by simp) (by simp) fun Q hr hn => ?_
  repeat' first | (refine hK _ ?_; clear hK) | (refine hK _ _ ?_; clear hK) | (clear hK; refine hK _ ?_; clear hK) | (clear hK; clear hK; refine hK _ ?_; clear hK) | (clear hK; clear hK; clear hK; refine hK _ ?_; clear hK) | (clear hK; clear hK; clear hK; clear hK; refine hK _ ?_; clear hK) | (refine wSeq fun K hK => ?_) | ((first | refine wReg ?_ | refine wDrwQ rfl (by kernel_rfl) ?_ | refine wDrwI ?_ | refine wDrw (by kernel_rfl) ?_); simp only [List.map_cons, List.map_nil, strip]) | ((first | refine wIs fun K hK => ?_ | refine wOs fun K hK => ?_ | refine wQs fun K hK => ?_ | refine CallK_plain ?_ | refine CallQ_plain ?_ | refine CallR_plain ?_ | refine wCond ?_); simp) | (refine wIn ?_; refine And.intro (by kernel_rfl) ?_; try simp only [thenA_n]) | (first | refine wBlock ?_ | refine wScope ?_) | ((first | refine wRet ?_ | refine wExit ?_ | refine wSkip ?_); try simp) | ((first | refine wLabel ?_ | refine wOn ?_ | refine wQn ?_); try simp only [thenA_n])
  all_goals apply hr
  all_goals simp [Try.f59]
theorem zzl (n : Nat) (h : n <= 1000000000) : okI (n : Int) := ⟨by omega, by omega⟩
theorem putText12_con (b s : List UInt8) (h : b.length <= 100000000) (hs : s.length <= 100000000) : BCon 43 [.p (.sl 1 (by8 b)), .p (SB s)] (b ++ (enc (zz s.length) ++ s)) := by
 have c1 := putInt01_con b s.length (zzl _ (by omega)) (by omega)
 have hel := enc_len10 (zz_lt (zzl s.length (by omega)))
 have hx := by8_app (b ++ enc (zz s.length)) s
 have hbm : (s.map fun b => [PV.v (.int .u8 b.toNat)]) = by8 s := rfl
 rw [List.append_assoc] at hx
 generalize enc (zz s.length) = z at c1 hel hx ⊢
 refine wBodyR Try.tab Try.mixed Try.func43 rfl rfl Try.ntmps43 rfl (by simp) (by simp) fun Q hr hn => ?_
 repeat' first | (refine And.intro (by omega) ?_) | (refine hK _ ?_; clear hK) | (refine hK _ _ ?_; clear hK) | (clear hK; refine hK _ ?_; clear hK) | (clear hK; clear hK; refine hK _ ?_; clear hK) | (clear hK; clear hK; clear hK; refine hK _ ?_; clear hK) | (clear hK; clear hK; clear hK; clear hK; refine hK _ ?_; clear hK) | (refine wSeq fun K hK => ?_) | ((first | refine wReg ?_ | refine wDrwQ rfl (by kernel_rfl) ?_ | refine wDrwI ?_ | refine wDrw (by kernel_rfl) ?_); simp only [List.map_cons, List.map_nil, strip]) | ((first | refine wIs fun K hK => ?_ | refine wOs fun K hK => ?_ | refine wQs fun K hK => ?_ | refine CallK_plain ?_ | refine CallQ_plain ?_ | refine CallR_plain ?_ | refine wCond ?_); simp) | (refine wIn ?_; refine And.intro (by kernel_rfl) ?_; try simp only [thenA_n]) | (first | refine wBlock ?_ | refine wScope ?_) | ((first | refine wRet ?_ | refine wExit ?_ | refine wSkip ?_); try simp) | ((first | refine wLabel ?_ | refine wOn ?_ | refine wQn ?_); try simp only [thenA_n]) | (refine CallE.pure (c1) rfl ?_) | (refine CallE.lent (c1) rfl ?_) | (refine CallF.pure (c1) rfl ?_) | (refine CallF.lent (c1) rfl ?_) | (refine CallE.own (c1) ?_) | (refine CallH.pure (c1) rfl ?_) | (refine CallH.lent (c1) rfl ?_) | (refine CallH.own (c1) ?_)
 all_goals refine hr _ 8 ?_ ?_ (by omega)
 all_goals simp [Try.f43, hbm, hx]
def txB (s : List UInt8) : List UInt8 := enc (zz s.length) ++ s
theorem text12_con (b s : List UInt8) (h : b.length <= 100000000) (hs : s.length <= 100000000) : ACon Try.prog 43 [.p (.sl 1 (by8 b)), .p (SB s)] (.p (.sl 1 (by8 (b ++ txB s)))) := (putText12_con b s h hs).toPure
structure OkM (m : Mb) : Prop where
 i : okI m.i
 r : okI m.r
 w : okI m.w
 g : okI m.g
theorem catZ2 (a b : Int) : catZ [a, b] = foI.en [I a] ++ foI.en [I b] := by simp [catZ]
theorem catZ3 (a b c : Int) : catZ [a, b, c] = foI.en [I a] ++ (foI.en [I b] ++ foI.en [I c]) := by simp [catZ]
def flO (x : Bool) : Int := if x = true then 1 else 0
theorem flO_ok (x : Bool) : okI (flO x) := by cases x <;> exact ⟨by decide, by decide⟩
theorem catZ4 (a b c d : Int) : catZ [a, b, c, d] = foI.en [I a] ++ (foI.en [I b] ++ (foI.en [I c] ++ foI.en [I d])) := by simp [catZ]
theorem catZ6 (a b c d e f : Int) : catZ [a, b, c, d, e, f] = foI.en [I a] ++ (foI.en [I b] ++ (foI.en [I c] ++ (foI.en [I d] ++ (foI.en [I e] ++ foI.en [I f])))) := by simp [catZ]
abbrev DCon (g : FuncId) (b : List UInt8) (v : V) (r : List UInt8) : Prop := ACon Try.prog g [.p (.sl 1 (by8 b)), v] (.p (.sl 1 (by8 r)))
theorem dLen (b : List UInt8) (n : Nat) (ho : okI (n : Int)) (h : (b ++ enc (zz (n : Int))).length <= 1000000) : DCon 42 b (.p (I n)) (b ++ enc (zz (n : Int))) :=
 (putInt01_con b n ho (by rw [List.length_append] at h; omega)).toPure
theorem dInt (b : List UInt8) (n : Int) (ho : foI.ok [I n]) (h : (b ++ foI.en [I n]).length <= 1000000) : DCon 42 b (.p (I n)) (b ++ foI.en [I n]) :=
 (putInt01_con b n (foI_ok.1 ho) (by rw [List.length_append] at h; omega)).toPure
theorem dText (b s : List UInt8) (ho : foS.ok [SB s]) (h : (b ++ foS.en [SB s]).length <= 1000000) : DCon 43 b (.p (SB s)) (b ++ foS.en [SB s]) := by
 rw [foS_en] at h ⊢
 simp only [List.length_append] at h
 exact text12_con b s (by omega) (by omega)
theorem dNums (b : List UInt8) (l : List Int) (ho : ∀ n ∈ l, okI n) (hl : l.length <= 1000) (h : (b ++ catZ l).length <= 1000000) : DCon 41 b (.p (.sl 1 (ints l))) (b ++ catZ l) :=
 nums12_con b l ho (by omega) (by rw [List.length_append] at h; omega)
theorem dZx (b : List UInt8) (cs : List PV) (hk : fZx.ok cs) (h : (b ++ fZx.en cs).length <= 1000000) : DCon 19 b (vOf cs) (b ++ fZx.en cs) := by
 obtain ⟨e, n, rfl, k0, k1⟩ := fZx_sh hk
 rw [fZx_en, <- catZ2] at h ⊢
 exact zxid12_con b e n (foI_ok.1 k0) (foI_ok.1 k1) (by rw [List.length_append] at h; omega)
theorem rows_ints {rows : List (List PV)} (h : ∀ r ∈ rows, foI.ok r) : ∃ l, rows = ints l /\ ∀ n ∈ l, okI n := by
 induction rows with
 | nil => exact ⟨[], rfl, by simp⟩
 | cons r rows ih =>
  obtain ⟨l, rfl, hl⟩ := ih fun x hx => h x (List.mem_cons_of_mem _ hx)
  obtain ⟨n, rfl, hn⟩ := h r List.mem_cons_self
  refine ⟨n :: l, rfl, fun m hm => ?_⟩
  rcases List.mem_cons.1 hm with rfl | hm
  ·exact hn
  ·exact hl m hm
theorem catZ_ge (l : List Int) : l.length <= (catZ l).length := by
 induction l with
 | nil => simp
 | cons n l ih =>
  have := enc_pos (zz n)
  show _ <= (enc (zz n) ++ catZ l).length
  rw [List.length_append, List.length_cons]; omega
theorem dlI (b : List UInt8) (rows : List (List PV)) (hk : (fl 1 foI).ok [.sl 1 rows]) (h : (b ++ (fl 1 foI).en [.sl 1 rows]).length <= 1000000) : DCon 47 b (.p (.sl 1 rows)) (b ++ (fl 1 foI).en [.sl 1 rows]) := by
 obtain ⟨hl, ho⟩ := fl_ok hk
 obtain ⟨l, rfl, hl2⟩ := rows_ints ho
 have he : (fl 1 foI).en [.sl 1 (ints l)] = catZ ((l.length : Int) :: l) := by
  rw [fl_en, ints_len]
  show _ = enc (zz (l.length : Int)) ++ catZ l
  congr 1
  have : ∀ l : List Int, (ints l).flatMap foI.en = catZ l := by
   intro l
   induction l with
   | nil => rfl
   | cons n l ih => show foI.en [I n] ++ (ints l).flatMap foI.en = enc (zz n) ++ catZ l; rw [ih]; rfl
  exact this l
 rw [he] at h ⊢
 have hg : l.length <= (catZ l).length := catZ_ge l
 have h2 : (catZ ((l.length : Int) :: l)).length = (enc (zz (l.length : Int))).length + (catZ l).length := by show (enc (zz (l.length : Int)) ++ catZ l).length = _; rw [List.length_append]
 rw [List.length_append, h2] at h
 exact ints12_con b l hl2 (by omega) (by omega)
set_option maxHeartbeats 4000000 in
theorem dlMb (b : List UInt8) (rows : List (List PV)) (hk : (fl 4 fMb).ok [.sl 4 rows]) (h : (b ++ (fl 4 fMb).en [.sl 4 rows]).length <= 1000000) : ACon Try.prog 50 [.p (.sl 1 (by8 b)), .p (.sl 4 rows)] (.p (.sl 1 (by8 (b ++ (fl 4 fMb).en [.sl 4 rows])))) := by
 obtain ⟨hl, ho⟩ := fl_ok hk
 have hL : okI (rows.length : Int) := ⟨by omega, by omega⟩
 have hres : b ++ (fl 4 fMb).en [.sl 4 rows] = b ++ enc (zz (rows.length : Int)) ++ rows.flatMap fMb.en := by simp only [fl_en, catZ2, catZ3, catZ4, catZ6, foI_en, List.append_assoc]
 rw [hres] at h ⊢
 clear hres
 have c0 := dLen b _ hL (by simp only [List.length_append] at h ⊢; omega)
 have hM : (b ++ enc (zz (rows.length : Int)) ++ rows.flatMap fMb.en).length <= 1000000 := by simp only [List.length_append] at h ⊢; omega
 generalize hX : b ++ enc (zz (rows.length : Int)) = X at *
 clear hX
 have hl' : rows.length < 9223372036854775808 := by omega
 try simp only [ints, List.map_cons, List.map_nil] at *
 refine wBody Try.tab Try.mixed Try.func50 rfl rfl Try.ntmps50 (by simp) (by simp) fun Q hr hn => ?_
 repeat' first | (refine hK _ ?_; clear hK) | (refine hK _ _ ?_; clear hK) | (clear hK; refine hK _ ?_; clear hK) | (clear hK; clear hK; refine hK _ ?_; clear hK) | (clear hK; clear hK; clear hK; refine hK _ ?_; clear hK) | (clear hK; clear hK; clear hK; clear hK; refine hK _ ?_; clear hK) | (refine wSeq fun K hK => ?_) | ((first | refine wReg ?_ | refine wDrwQ rfl (by kernel_rfl) ?_ | refine wDrwI ?_ | refine wDrw (by kernel_rfl) ?_); simp only [List.map_cons, List.map_nil, strip]) | ((first | refine wIs fun K hK => ?_ | refine wOs fun K hK => ?_ | refine wQs fun K hK => ?_ | refine CallK_plain ?_ | refine CallQ_plain ?_ | refine CallR_plain ?_ | refine wCond ?_); simp [hl']) | (refine wIn ?_; refine And.intro (by kernel_rfl) ?_; try simp only [thenA_n]) | (first | refine wBlock ?_ | refine wScope ?_) | ((first | refine wRet ?_ | refine wExit ?_ | refine wSkip ?_); try simp) | ((first | refine wLabel ?_ | refine wOn ?_ | refine wQn ?_); try simp only [thenA_n]) | (refine CallE.pure (c0) rfl ?_) | (refine CallE.lent (c0) rfl ?_) | (refine CallF.pure (c0) rfl ?_) | (refine CallF.lent (c0) rfl ?_) | (refine CallE.own (c0) ?_) | (refine CallH.pure (c0) rfl ?_) | (refine CallH.lent (c0) rfl ?_) | (refine CallH.own (c0) ?_)
 refine wLoop (fun N st => ∃ k, k + N = rows.length /\ st.s 0 = .p (.sl 1 (by8 (X ++ (rows.take k).flatMap fMb.en))) /\ st.s 11 = .p (.sl 4 rows) /\ st.s 12 = .p (I rows.length) /\ st.s 13 = .p (I k)) rows.length ⟨0, by simp⟩ fun K N st hL2 ⟨k, hk, g0, gl, gn, gi⟩ => ?_
 by_cases hlt : k < rows.length
 ·have hlt' : (k : Int) < rows.length := by omega
  have hw := wrapS k _ hlt (by omega)
  have hok := ho rows[k] (List.getElem_mem hlt)
  have hgoal : X ++ (rows.take (k + 1)).flatMap fMb.en = X ++ (rows.take k).flatMap fMb.en ++ fMb.en rows[k] := by rw [flatMap_snoc hlt, List.append_assoc]
  have hpl2 : (X ++ (rows.take k).flatMap fMb.en ++ fMb.en rows[k]).length <= 1000000 := by rw [<- hgoal]; have := flatMap_take_le fMb.en rows (k + 1); simp only [List.length_append] at hM ⊢; omega
  have he : rows[k]? = some rows[k] := List.getElem?_eq_getElem hlt
  generalize hQ : rows[k] = r at *
  generalize X ++ (rows.take k).flatMap fMb.en = Y at *
  obtain ⟨z0, z1, z2, z3, rfl, m0, m1, m2, m3⟩ := fMb_sh hok
  have hin : Y ++ fMb.en [I z0, I z1, I z2, I z3] = Y ++ catZ [z0, z1, z2, z3] := by rw [fMb_en]; simp only [catZ3, catZ4, foI_en, foB_en, flO, List.append_assoc]
  rw [hin] at hgoal hpl2
  clear hin
  have d0 := dNums Y [z0, z1, z2, z3] (by intro n hn; simp at hn; rcases hn with rfl | rfl | rfl | rfl <;> first | exact hL | exact flO_ok _ | (simp only [<- foI_ok]; assumption)) (by simp) (by simp only [List.length_append] at hpl2 ⊢; omega)
  generalize Y ++ catZ [z0, z1, z2, z3] = Y1 at *
  try simp only [vOf2, ints, List.map_cons, List.map_nil] at *
  repeat' first | (refine hK _ ?_; clear hK) | (refine hK _ _ ?_; clear hK) | (clear hK; refine hK _ ?_; clear hK) | (clear hK; clear hK; refine hK _ ?_; clear hK) | (clear hK; clear hK; clear hK; refine hK _ ?_; clear hK) | (clear hK; clear hK; clear hK; clear hK; refine hK _ ?_; clear hK) | (refine wSeq fun K hK => ?_) | ((first | refine wReg ?_ | refine wDrwQ rfl (by kernel_rfl) ?_ | refine wDrwI ?_ | refine wDrw (by kernel_rfl) ?_); simp only [List.map_cons, List.map_nil, strip]) | ((first | refine wIs fun K hK => ?_ | refine wOs fun K hK => ?_ | refine wQs fun K hK => ?_ | refine CallK_plain ?_ | refine CallQ_plain ?_ | refine CallR_plain ?_ | refine wCond ?_); simp [g0, gl, gn, gi, hlt, hlt', hw, he, hQ]) | (refine wIn ?_; refine And.intro (by kernel_rfl) ?_; try simp only [thenA_n]) | (first | refine wBlock ?_ | refine wScope ?_) | ((first | refine wRet ?_ | refine wExit ?_ | refine wSkip ?_); try simp) | ((first | refine wLabel ?_ | refine wOn ?_ | refine wQn ?_); try simp only [thenA_n]) | (refine CallE.pure (d0) rfl ?_) | (refine CallE.lent (d0) rfl ?_) | (refine CallF.pure (d0) rfl ?_) | (refine CallF.lent (d0) rfl ?_) | (refine CallE.own (d0) ?_) | (refine CallH.pure (d0) rfl ?_) | (refine CallH.lent (d0) rfl ?_) | (refine CallH.own (d0) ?_)
  refine hL2 _ (N - 1) (by omega) ⟨k + 1, by omega, ?_⟩
  rw [hgoal]
  simp [g0, gl, gn, gi, hw]
 ·have hlt' : ¬ (k : Int) < rows.length := by omega
  rw [List.take_of_length_le (by omega)] at g0
  repeat' first | (refine hK _ ?_; clear hK) | (refine hK _ _ ?_; clear hK) | (clear hK; refine hK _ ?_; clear hK) | (clear hK; clear hK; refine hK _ ?_; clear hK) | (clear hK; clear hK; clear hK; refine hK _ ?_; clear hK) | (clear hK; clear hK; clear hK; clear hK; refine hK _ ?_; clear hK) | (refine wSeq fun K hK => ?_) | ((first | refine wReg ?_ | refine wDrwQ rfl (by kernel_rfl) ?_ | refine wDrwI ?_ | refine wDrw (by kernel_rfl) ?_); simp only [List.map_cons, List.map_nil, strip]) | ((first | refine wIs fun K hK => ?_ | refine wOs fun K hK => ?_ | refine wQs fun K hK => ?_ | refine CallK_plain ?_ | refine CallQ_plain ?_ | refine CallR_plain ?_ | refine wCond ?_); simp [g0, gl, gn, gi, hlt, hlt']) | (refine wIn ?_; refine And.intro (by kernel_rfl) ?_; try simp only [thenA_n]) | (first | refine wBlock ?_ | refine wScope ?_) | ((first | refine wRet ?_ | refine wExit ?_ | refine wSkip ?_); try simp) | ((first | refine wLabel ?_ | refine wOn ?_ | refine wQn ?_); try simp only [thenA_n])
  all_goals apply hr
  all_goals simp [Try.f50, g0]
set_option maxHeartbeats 2000000 in
theorem dCf (b : List UInt8) (cs : List PV) (hk : fCf.ok cs) (h : (b ++ fCf.en cs).length <= 1000000) : ACon Try.prog 17 [.p (.sl 1 (by8 b)), vOf cs] (.p (.sl 1 (by8 (b ++ fCf.en cs)))) := by
 obtain ⟨x0, x1, x2, x3, rfl, k0, k1, k2⟩ := fCf_sh hk
 have hres : b ++ fCf.en [I x0, I x1, I x2, .sl 4 x3] = b ++ fZx.en [I x0, I x1] ++ foI.en [I x2] ++ (fl 4 fMb).en [.sl 4 x3] := by rw [fCf_en]; simp only [catZ3, catZ4, List.append_assoc]
 rw [hres] at h ⊢
 clear hres
 have c0 := dZx b _ k0 (by simp only [List.length_append] at h ⊢; omega)
 have c1 := dInt (b ++ fZx.en [I x0, I x1]) _ k1 (by simp only [List.length_append] at h ⊢; omega)
 have c2 := dlMb (b ++ fZx.en [I x0, I x1] ++ foI.en [I x2]) _ k2 (by simp only [List.length_append] at h ⊢; omega)
 generalize b ++ fZx.en [I x0, I x1] ++ foI.en [I x2] ++ (fl 4 fMb).en [.sl 4 x3] = y3 at *
 generalize b ++ fZx.en [I x0, I x1] ++ foI.en [I x2] = y2 at *
 generalize b ++ fZx.en [I x0, I x1] = y1 at *
 simp only [vOf2, ints, List.map_cons, List.map_nil] at *
 refine wBody Try.tab Try.mixed Try.func17 rfl rfl Try.ntmps17 (by simp) (by simp) fun Q hr hn => ?_
 repeat' first | (refine hK _ ?_; clear hK) | (refine hK _ _ ?_; clear hK) | (clear hK; refine hK _ ?_; clear hK) | (clear hK; clear hK; refine hK _ ?_; clear hK) | (clear hK; clear hK; clear hK; refine hK _ ?_; clear hK) | (clear hK; clear hK; clear hK; clear hK; refine hK _ ?_; clear hK) | (refine wSeq fun K hK => ?_) | ((first | refine wReg ?_ | refine wDrwQ rfl (by kernel_rfl) ?_ | refine wDrwI ?_ | refine wDrw (by kernel_rfl) ?_); simp only [List.map_cons, List.map_nil, strip]) | ((first | refine wIs fun K hK => ?_ | refine wOs fun K hK => ?_ | refine wQs fun K hK => ?_ | refine CallK_plain ?_ | refine CallQ_plain ?_ | refine CallR_plain ?_ | refine wCond ?_); simp) | (refine wIn ?_; refine And.intro (by kernel_rfl) ?_; try simp only [thenA_n]) | (first | refine wBlock ?_ | refine wScope ?_) | ((first | refine wRet ?_ | refine wExit ?_ | refine wSkip ?_); try simp) | ((first | refine wLabel ?_ | refine wOn ?_ | refine wQn ?_); try simp only [thenA_n]) | (refine CallE.pure (c0) rfl ?_) | (refine CallE.lent (c0) rfl ?_) | (refine CallF.pure (c0) rfl ?_) | (refine CallF.lent (c0) rfl ?_) | (refine CallE.own (c0) ?_) | (refine CallH.pure (c0) rfl ?_) | (refine CallH.lent (c0) rfl ?_) | (refine CallH.own (c0) ?_) | (refine CallE.pure (c1) rfl ?_) | (refine CallE.lent (c1) rfl ?_) | (refine CallF.pure (c1) rfl ?_) | (refine CallF.lent (c1) rfl ?_) | (refine CallE.own (c1) ?_) | (refine CallH.pure (c1) rfl ?_) | (refine CallH.lent (c1) rfl ?_) | (refine CallH.own (c1) ?_) | (refine CallE.pure (c2) rfl ?_) | (refine CallE.lent (c2) rfl ?_) | (refine CallF.pure (c2) rfl ?_) | (refine CallF.lent (c2) rfl ?_) | (refine CallE.own (c2) ?_) | (refine CallH.pure (c2) rfl ?_) | (refine CallH.lent (c2) rfl ?_) | (refine CallH.own (c2) ?_)
 all_goals apply hr
 all_goals simp [Try.f17]
set_option maxHeartbeats 2000000 in
theorem dNd (b : List UInt8) (cs : List PV) (hk : fNd.ok cs) (h : (b ++ fNd.en cs).length <= 1000000) : ACon Try.prog 44 [.p (.sl 1 (by8 b)), vOf cs] (.p (.sl 1 (by8 (b ++ fNd.en cs)))) := by
 obtain ⟨x0, x1, x2, x3, x4, rfl, k0, k1, k2, k3, k4⟩ := fNd_sh hk
 have hres : b ++ fNd.en [SB x0, SB x1, I x2, I x3, I x4] = b ++ foS.en [SB x0] ++ foS.en [SB x1] ++ catZ [x2, x3, x4] := by rw [fNd_en]; simp only [catZ3, catZ4, List.append_assoc]
 rw [hres] at h ⊢
 clear hres
 have c0 := dText b _ k0 (by simp only [List.length_append] at h ⊢; omega)
 have c1 := dText (b ++ foS.en [SB x0]) _ k1 (by simp only [List.length_append] at h ⊢; omega)
 have c2 := dNums (b ++ foS.en [SB x0] ++ foS.en [SB x1]) [x2, x3, x4] (by intro n hn; simp at hn; rcases hn with rfl | rfl | rfl <;> first | exact hL | exact flO_ok _ | (simp only [<- foI_ok]; assumption)) (by simp) (by simp only [List.length_append] at h ⊢; omega)
 generalize b ++ foS.en [SB x0] ++ foS.en [SB x1] ++ catZ [x2, x3, x4] = y3 at *
 generalize b ++ foS.en [SB x0] ++ foS.en [SB x1] = y2 at *
 generalize b ++ foS.en [SB x0] = y1 at *
 simp only [vOf2, ints, List.map_cons, List.map_nil] at *
 refine wBody Try.tab Try.mixed Try.func44 rfl rfl Try.ntmps44 (by simp) (by simp) fun Q hr hn => ?_
 repeat' first | (refine hK _ ?_; clear hK) | (refine hK _ _ ?_; clear hK) | (clear hK; refine hK _ ?_; clear hK) | (clear hK; clear hK; refine hK _ ?_; clear hK) | (clear hK; clear hK; clear hK; refine hK _ ?_; clear hK) | (clear hK; clear hK; clear hK; clear hK; refine hK _ ?_; clear hK) | (refine wSeq fun K hK => ?_) | ((first | refine wReg ?_ | refine wDrwQ rfl (by kernel_rfl) ?_ | refine wDrwI ?_ | refine wDrw (by kernel_rfl) ?_); simp only [List.map_cons, List.map_nil, strip]) | ((first | refine wIs fun K hK => ?_ | refine wOs fun K hK => ?_ | refine wQs fun K hK => ?_ | refine CallK_plain ?_ | refine CallQ_plain ?_ | refine CallR_plain ?_ | refine wCond ?_); simp) | (refine wIn ?_; refine And.intro (by kernel_rfl) ?_; try simp only [thenA_n]) | (first | refine wBlock ?_ | refine wScope ?_) | ((first | refine wRet ?_ | refine wExit ?_ | refine wSkip ?_); try simp) | ((first | refine wLabel ?_ | refine wOn ?_ | refine wQn ?_); try simp only [thenA_n]) | (refine CallE.pure (c0) rfl ?_) | (refine CallE.lent (c0) rfl ?_) | (refine CallF.pure (c0) rfl ?_) | (refine CallF.lent (c0) rfl ?_) | (refine CallE.own (c0) ?_) | (refine CallH.pure (c0) rfl ?_) | (refine CallH.lent (c0) rfl ?_) | (refine CallH.own (c0) ?_) | (refine CallE.pure (c1) rfl ?_) | (refine CallE.lent (c1) rfl ?_) | (refine CallF.pure (c1) rfl ?_) | (refine CallF.lent (c1) rfl ?_) | (refine CallE.own (c1) ?_) | (refine CallH.pure (c1) rfl ?_) | (refine CallH.lent (c1) rfl ?_) | (refine CallH.own (c1) ?_) | (refine CallE.pure (c2) rfl ?_) | (refine CallE.lent (c2) rfl ?_) | (refine CallF.pure (c2) rfl ?_) | (refine CallF.lent (c2) rfl ?_) | (refine CallE.own (c2) ?_) | (refine CallH.pure (c2) rfl ?_) | (refine CallH.lent (c2) rfl ?_) | (refine CallH.own (c2) ?_)
 all_goals apply hr
 all_goals simp [Try.f44]
end Go.Proofs.Ytleejpddecjhcaa
