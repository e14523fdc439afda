/- Texts that the proof needs: RG7a RG7b RG7c RG9 RGF. -/
import Derived.Test.YtleejpddecjhcaaP26RecordHears
import Derived.Test.YtleejpddecjhcaaP24RecordHears
import Derived.Test.YtleejpddecjhcaaP20RecordHears
namespace Go.Proofs.Ytleejpddecjhcaa
set_option linter.unusedSimpArgs false
set_option linter.unusedVariables false
set_option maxRecDepth 8000
open Go Go.Av
attribute [local irreducible] Go.Av.CallK Go.Av.CallE Go.Av.CallQ Go.Av.CallF Go.Av.CallR Go.Av.CallH Go.Av.Con
set_option maxHeartbeats 8000000 in
theorem ilMb : IRn 101 (fl 4 fMb) := by
 intro b st hb
 have c0 := icount b st hb
 have hL : (fl 4 fMb).rd b st = ([.sl 4 (rdL fMb.rd b (rdC b st).1.toNat (rdC b st).2).1], (rdL fMb.rd b (rdC b st).1.toNat (rdC b st).2).2) := rfl
 have hbd := rdC_bd b st
 rw [hL, vOf1]
 generalize rdC b st = r at *
 obtain ⟨n, s0⟩ := r
 simp only at *
 obtain ⟨m, rfl⟩ : ∃ m : Nat, n = m := ⟨n.toNat, by omega⟩
 simp only [Int.toNat_natCast]
 clear hL
 refine wBodyG Try.tab Try.mixed Try.func101 rfl rfl Try.ntmps101 (by simp) (by simp) fun Q hr hn hp => ?_
 repeat' first | (refine CallK_gen [1024] c0 (by decide) (by decide) (by simp [blksOf, inN, pos, renB, ren0, ouN, lv, kpI, kpR]) (by simp [argsG, argG, ren0, inN, pos, renCs, renC]) ⟨[], by simp, by simp, ?_⟩; simp [lv, ouN, kpI, kpR, pos, ren, ren0, renB, renC, renCs]) | (refine hK _ ?_; clear hK) | (refine hK _ _ ?_; clear hK) | (clear hK; refine hK _ ?_; clear hK) | (clear hK; clear hK; refine hK _ ?_; clear hK) | (clear hK; clear hK; clear hK; refine hK _ ?_; clear hK) | (clear hK; clear hK; clear hK; clear hK; refine hK _ ?_; clear hK) | (refine wSeq fun K hK => ?_) | ((first | refine wReg ?_ | refine wDrwQ rfl (by kernel_rfl) ?_ | refine wDrwI ?_ | refine wDrw (by kernel_rfl) ?_); simp only [List.map_cons, List.map_nil, strip]) | ((first | refine wIs fun K hK => ?_ | refine wOs fun K hK => ?_ | refine wQs fun K hK => ?_ | refine CallK_plain ?_ | refine CallQ_plain ?_ | refine CallR_plain ?_ | refine wCond ?_); simp [lv, ouN, kpI, kpR, pos, ren, ren0, renB, renC, renCs]) | (refine wIn ?_; refine And.intro (by kernel_rfl) ?_; try simp only [thenA_n]) | (first | refine wBlock ?_ | refine wScope ?_) | ((first | refine wRet ?_ | refine wExit ?_ | refine wSkip ?_); try simp) | ((first | refine wLabel ?_ | refine wOn ?_ | refine wQn ?_); try simp only [thenA_n])
 generalize hF : rdL fMb.rd b m s0 = full at *
 refine wLoopG [.row 3 82 4] (fun N st => ∃ k s2 acc, k + N = m /\ acc.length = k /\ full = (acc ++ (rdL fMb.rd b N s2).1, (rdL fMb.rd b N s2).2) /\ st.s 0 = .ptr 1024 0 /\ st.s 3 = .row 3 /\ st.s 4 = .p (I m) /\ st.s 5 = .p (I k) /\ st.b 1024 = some (.box 119 [.p (.sl 1 (by8 b)), .p (I s2.2), .p (I s2.1)]) /\ st.b 3 = some (.row 82 4 acc)) m ⟨0, s0, [], by simp [hF, lv, ouN, kpI, kpR, pos, ren, ren0, renB, renC, renCs]⟩ fun K N st hL ⟨k, s2, acc, hk, hac, hfu, g0, g3, g4, g5, b0, b3⟩ => ?_
 by_cases hgo : k < m /\ s2.1 = 0
 ·obtain ⟨hlt, z⟩ := hgo
  have hlt' : (k : Int) < (m : Int) := by omega
  have hw := wrapS k m hlt (by omega)
  obtain ⟨M, rfl⟩ : ∃ M, N = M + 1 := ⟨N - 1, by omega⟩
  rw [rdL, if_pos z] at hfu
  have c := iMb b s2 hb
  obtain ⟨x0, x1, x2, x3, s3, he⟩ := fMb_got b s2
  rw [he] at c hfu
  try simp only [vOf1, vOf2] at c
  simp only at hfu
  obtain ⟨q2, a2⟩ := s2
  simp only at z
  subst z
  simp only at b0
  repeat' first | (refine CallK_gen [1024] c (by decide) (by decide) (by simp [blksOf, inN, pos, renB, ren0, b0]) (by simp [argsG, argG, ren0, inN, pos, renCs, renC]) ⟨[], by simp, by simp, ?_⟩; simp [lv, ouN, kpI, kpR, pos, ren, ren0, renB, renC, renCs, b0]) | (refine And.intro (by omega) ?_) | (refine hK _ ?_; clear hK) | (refine hK _ _ ?_; clear hK) | (clear hK; refine hK _ ?_; clear hK) | (clear hK; clear hK; refine hK _ ?_; clear hK) | (clear hK; clear hK; clear hK; refine hK _ ?_; clear hK) | (clear hK; clear hK; clear hK; clear hK; refine hK _ ?_; clear hK) | (refine wSeq fun K hK => ?_) | ((first | refine wReg ?_ | refine wDrwQ rfl (by kernel_rfl) ?_ | refine wDrwI ?_ | refine wDrw (by kernel_rfl) ?_); simp only [List.map_cons, List.map_nil, strip]) | ((first | refine wIs fun K hK => ?_ | refine wOs fun K hK => ?_ | refine wQs fun K hK => ?_ | refine CallK_plain ?_ | refine CallQ_plain ?_ | refine CallR_plain ?_ | refine wCond ?_); simp [g0, g3, g4, g5, b0, b3, hlt, hlt', hw, lv, ouN, kpI, kpR, pos, ren, ren0, renB, renC, renCs]) | (refine wIn ?_; refine And.intro (by kernel_rfl) ?_; try simp only [thenA_n]) | (first | refine wBlock ?_ | refine wScope ?_) | ((first | refine wRet ?_ | refine wExit ?_ | refine wSkip ?_); try simp) | ((first | refine wLabel ?_ | refine wOn ?_ | refine wQn ?_); try simp only [thenA_n])
  refine hL _ M (by omega) ⟨k + 1, s3, acc ++ [[I x0, I x1, I x2, I x3]], by omega, by simp [hac], by rw [hfu]; simp, ?_⟩
  simp [g0, g3, g4, g5, b0, b3, hw, lv, ouN, kpI, kpR, pos, ren, ren0, renB, renC, renCs]
 ·have hend : full = (acc, s2) := by
   rw [hfu]
   by_cases z : s2.1 = 0
   ·obtain rfl : N = 0 := by have : ¬ k < m := fun h => hgo ⟨h, z⟩; omega
    simp [rdL]
   ·obtain ⟨q2, a2⟩ := s2
    rw [rdL_stk _ _ _ _ z]; simp
  rw [hend] at hr
  clear hfu hend
  have f3 : (Av.frz st 3 4 acc).s 3 = .p (.sl 4 acc) := by simp [Av.frz, sub, sub0, g3]
  have f0 : (Av.frz st 3 4 acc).b 1024 = some (.box 119 [.p (.sl 1 (by8 b)), .p (I s2.2), .p (I s2.1)]) := by simp [Av.frz, sub, sub0, subB, b0]
  by_cases hlt : k < m
  ·have hlt' : (k : Int) < (m : Int) := by omega
   have z : (s2.1 = 0) = False := eq_false fun z => hgo ⟨hlt, z⟩
   have f4 : (Av.frz st 3 4 acc).s 4 = .p (I m) := by simp [Av.frz, sub, sub0, g4]
   have f5 : (Av.frz st 3 4 acc).s 5 = .p (I k) := by simp [Av.frz, sub, sub0, g5]
   have f00 : (Av.frz st 3 4 acc).s 0 = .ptr 1024 0 := by simp [Av.frz, sub, sub0, g0]
   repeat' first | (refine wFrzR 3 acc b3 ?_; generalize Av.frz st 3 4 acc = st2 at f3 f0 f4 f5 f00 ⊢) | (refine hK _ ?_; clear hK) | (refine hK _ _ ?_; clear hK) | (clear hK; refine hK _ ?_; clear hK) | (clear hK; clear hK; refine hK _ ?_; clear hK) | (clear hK; clear hK; clear hK; refine hK _ ?_; clear hK) | (clear hK; clear hK; clear hK; clear hK; refine hK _ ?_; clear hK) | (refine wSeq fun K hK => ?_) | ((first | refine wReg ?_ | refine wDrwQ rfl (by kernel_rfl) ?_ | refine wDrwI ?_ | refine wDrw (by kernel_rfl) ?_); simp only [List.map_cons, List.map_nil, strip]) | ((first | refine wIs fun K hK => ?_ | refine wOs fun K hK => ?_ | refine wQs fun K hK => ?_ | refine CallK_plain ?_ | refine CallQ_plain ?_ | refine CallR_plain ?_ | refine wCond ?_); simp [f3, f0, f4, f5, f00, g0, g4, g5, b0, hlt, hlt', z]) | (refine wIn ?_; refine And.intro (by kernel_rfl) ?_; try simp only [thenA_n]) | (first | refine wBlock ?_ | refine wScope ?_) | ((first | refine wRet ?_ | refine wExit ?_ | refine wSkip ?_); try simp) | ((first | refine wLabel ?_ | refine wOn ?_ | refine wQn ?_); try simp only [thenA_n])
   all_goals first | apply hr
   all_goals refine ⟨[], by simp, by simp, ?_⟩
   all_goals simp [Try.f101, outR, outB, renB, gaN, f3, f0]
  ·have hlt' : ¬ (k : Int) < (m : Int) := by omega
   have f4 : (Av.frz st 3 4 acc).s 4 = .p (I m) := by simp [Av.frz, sub, sub0, g4]
   have f5 : (Av.frz st 3 4 acc).s 5 = .p (I k) := by simp [Av.frz, sub, sub0, g5]
   have f00 : (Av.frz st 3 4 acc).s 0 = .ptr 1024 0 := by simp [Av.frz, sub, sub0, g0]
   repeat' first | (refine wFrzR 3 acc b3 ?_; generalize Av.frz st 3 4 acc = st2 at f3 f0 f4 f5 f00 ⊢) | (refine hK _ ?_; clear hK) | (refine hK _ _ ?_; clear hK) | (clear hK; refine hK _ ?_; clear hK) | (clear hK; clear hK; refine hK _ ?_; clear hK) | (clear hK; clear hK; clear hK; refine hK _ ?_; clear hK) | (clear hK; clear hK; clear hK; clear hK; refine hK _ ?_; clear hK) | (refine wSeq fun K hK => ?_) | ((first | refine wReg ?_ | refine wDrwQ rfl (by kernel_rfl) ?_ | refine wDrwI ?_ | refine wDrw (by kernel_rfl) ?_); simp only [List.map_cons, List.map_nil, strip]) | ((first | refine wIs fun K hK => ?_ | refine wOs fun K hK => ?_ | refine wQs fun K hK => ?_ | refine CallK_plain ?_ | refine CallQ_plain ?_ | refine CallR_plain ?_ | refine wCond ?_); simp [f3, f0, f4, f5, f00, g0, g4, g5, b0, hlt, hlt']) | (refine wIn ?_; refine And.intro (by kernel_rfl) ?_; try simp only [thenA_n]) | (first | refine wBlock ?_ | refine wScope ?_) | ((first | refine wRet ?_ | refine wExit ?_ | refine wSkip ?_); try simp) | ((first | refine wLabel ?_ | refine wOn ?_ | refine wQn ?_); try simp only [thenA_n])
   all_goals first | apply hr
   all_goals refine ⟨[], by simp, by simp, ?_⟩
   all_goals simp [Try.f101, outR, outB, renB, gaN, f3, f0]
set_option maxHeartbeats 4000000 in
theorem iCf : IRn 62 fCf := by
 intro b st hb
 have c0 := iZx b st hb
 obtain ⟨x0, x1, s0, e0⟩ := fZx_got b st
 rw [e0] at c0
 simp only [vOf1, vOf2] at c0
 have c1 := inum b s0 hb
 obtain ⟨x2, s1, e1⟩ := foI_got b s0
 rw [e1] at c1
 simp only [vOf1, vOf2] at c1
 have c2 := ilMb b s1 hb
 obtain ⟨x3, s2, e2⟩ := fl_got 4 fMb b s1
 rw [e2] at c2
 simp only [vOf1, vOf2] at c2
 have hz : fCf.rd b st = ([I x0, I x1, I x2, .sl 4 x3], s2) := by simp only [fCf, sq_rd, e0, e1, e2, List.cons_append, List.nil_append]
 rw [hz]
 clear e0 e1 e2 hz
 simp only [vOf2]
 refine wBodyG Try.tab Try.mixed Try.func62 rfl rfl Try.ntmps62 (by simp) (by simp) fun Q hr hn hp => ?_
 repeat' first | (refine CallK_gen [1024] c0 (by decide) (by decide) (by simp [blksOf, inN, pos, renB, ren0, ouN, lv, kpI, kpR]) (by simp [argsG, argG, ren0, inN, pos, renCs, renC]) ⟨[], by simp, by simp, ?_⟩; simp [lv, ouN, kpI, kpR, pos, ren, ren0, renB, renC, renCs]; clear c0) | (refine CallK_gen [1024] c1 (by decide) (by decide) (by simp [blksOf, inN, pos, renB, ren0, ouN, lv, kpI, kpR]) (by simp [argsG, argG, ren0, inN, pos, renCs, renC]) ⟨[], by simp, by simp, ?_⟩; simp [lv, ouN, kpI, kpR, pos, ren, ren0, renB, renC, renCs]; clear c1) | (refine CallK_gen [1024] c2 (by decide) (by decide) (by simp [blksOf, inN, pos, renB, ren0, ouN, lv, kpI, kpR]) (by simp [argsG, argG, ren0, inN, pos, renCs, renC]) ⟨[], by simp, by simp, ?_⟩; simp [lv, ouN, kpI, kpR, pos, ren, ren0, renB, renC, renCs]; clear c2) | (refine hK _ ?_; clear hK) | (refine hK _ _ ?_; clear hK) | (clear hK; refine hK _ ?_; clear hK) | (clear hK; clear hK; refine hK _ ?_; clear hK) | (clear hK; clear hK; clear hK; refine hK _ ?_; clear hK) | (clear hK; clear hK; clear hK; clear hK; refine hK _ ?_; clear hK) | (refine wSeq fun K hK => ?_) | ((first | refine wReg ?_ | refine wDrwQ rfl (by kernel_rfl) ?_ | refine wDrwI ?_ | refine wDrw (by kernel_rfl) ?_); simp only [List.map_cons, List.map_nil, strip]) | ((first | refine wIs fun K hK => ?_ | refine wOs fun K hK => ?_ | refine wQs fun K hK => ?_ | refine CallK_plain ?_ | refine CallQ_plain ?_ | refine CallR_plain ?_ | refine wCond ?_); simp [lv, ouN, kpI, kpR, pos, ren, ren0, renB, renC, renCs]) | (refine wIn ?_; refine And.intro (by kernel_rfl) ?_; try simp only [thenA_n]) | (first | refine wBlock ?_ | refine wScope ?_) | ((first | refine wRet ?_ | refine wExit ?_ | refine wSkip ?_); try simp) | ((first | refine wLabel ?_ | refine wOn ?_ | refine wQn ?_); try simp only [thenA_n])
 all_goals first | apply hr
 all_goals refine ⟨[], by simp, by simp, ?_⟩
 all_goals simp [Try.f62, outR, outB, renB, gaN, lv, ouN, kpI, kpR, pos, ren, ren0, renC, renCs]
set_option maxHeartbeats 4000000 in
theorem iNd : IRn 137 fNd := by
 intro b st hb
 have c0 := itext b st hb
 obtain ⟨x0, s0, e0⟩ := foS_got b st
 rw [e0] at c0
 simp only [vOf1, vOf2] at c0
 have c1 := itext b s0 hb
 obtain ⟨x1, s1, e1⟩ := foS_got b s0
 rw [e1] at c1
 simp only [vOf1, vOf2] at c1
 have c2 := inum b s1 hb
 obtain ⟨x2, s2, e2⟩ := foI_got b s1
 rw [e2] at c2
 simp only [vOf1, vOf2] at c2
 have c3 := inum b s2 hb
 obtain ⟨x3, s3, e3⟩ := foI_got b s2
 rw [e3] at c3
 simp only [vOf1, vOf2] at c3
 have c4 := inum b s3 hb
 obtain ⟨x4, s4, e4⟩ := foI_got b s3
 rw [e4] at c4
 simp only [vOf1, vOf2] at c4
 have hz : fNd.rd b st = ([SB x0, SB x1, I x2, I x3, I x4], s4) := by simp only [fNd, sq_rd, e0, e1, e2, e3, e4, List.cons_append, List.nil_append]
 rw [hz]
 clear e0 e1 e2 e3 e4 hz
 simp only [vOf2]
 refine wBodyG Try.tab Try.mixed Try.func137 rfl rfl Try.ntmps137 (by simp) (by simp) fun Q hr hn hp => ?_
 repeat' first | (refine CallK_gen [1024] c0 (by decide) (by decide) (by simp [blksOf, inN, pos, renB, ren0, ouN, lv, kpI, kpR]) (by simp [argsG, argG, ren0, inN, pos, renCs, renC]) ⟨[], by simp, by simp, ?_⟩; simp [lv, ouN, kpI, kpR, pos, ren, ren0, renB, renC, renCs]; clear c0) | (refine CallK_gen [1024] c1 (by decide) (by decide) (by simp [blksOf, inN, pos, renB, ren0, ouN, lv, kpI, kpR]) (by simp [argsG, argG, ren0, inN, pos, renCs, renC]) ⟨[], by simp, by simp, ?_⟩; simp [lv, ouN, kpI, kpR, pos, ren, ren0, renB, renC, renCs]; clear c1) | (refine CallK_gen [1024] c2 (by decide) (by decide) (by simp [blksOf, inN, pos, renB, ren0, ouN, lv, kpI, kpR]) (by simp [argsG, argG, ren0, inN, pos, renCs, renC]) ⟨[], by simp, by simp, ?_⟩; simp [lv, ouN, kpI, kpR, pos, ren, ren0, renB, renC, renCs]; clear c2) | (refine CallK_gen [1024] c3 (by decide) (by decide) (by simp [blksOf, inN, pos, renB, ren0, ouN, lv, kpI, kpR]) (by simp [argsG, argG, ren0, inN, pos, renCs, renC]) ⟨[], by simp, by simp, ?_⟩; simp [lv, ouN, kpI, kpR, pos, ren, ren0, renB, renC, renCs]; clear c3) | (refine CallK_gen [1024] c4 (by decide) (by decide) (by simp [blksOf, inN, pos, renB, ren0, ouN, lv, kpI, kpR]) (by simp [argsG, argG, ren0, inN, pos, renCs, renC]) ⟨[], by simp, by simp, ?_⟩; simp [lv, ouN, kpI, kpR, pos, ren, ren0, renB, renC, renCs]; clear c4) | (refine hK _ ?_; clear hK) | (refine hK _ _ ?_; clear hK) | (clear hK; refine hK _ ?_; clear hK) | (clear hK; clear hK; refine hK _ ?_; clear hK) | (clear hK; clear hK; clear hK; refine hK _ ?_; clear hK) | (clear hK; clear hK; clear hK; clear hK; refine hK _ ?_; clear hK) | (refine wSeq fun K hK => ?_) | ((first | refine wReg ?_ | refine wDrwQ rfl (by kernel_rfl) ?_ | refine wDrwI ?_ | refine wDrw (by kernel_rfl) ?_); simp only [List.map_cons, List.map_nil, strip]) | ((first | refine wIs fun K hK => ?_ | refine wOs fun K hK => ?_ | refine wQs fun K hK => ?_ | refine CallK_plain ?_ | refine CallQ_plain ?_ | refine CallR_plain ?_ | refine wCond ?_); simp [lv, ouN, kpI, kpR, pos, ren, ren0, renB, renC, renCs]) | (refine wIn ?_; refine And.intro (by kernel_rfl) ?_; try simp only [thenA_n]) | (first | refine wBlock ?_ | refine wScope ?_) | ((first | refine wRet ?_ | refine wExit ?_ | refine wSkip ?_); try simp) | ((first | refine wLabel ?_ | refine wOn ?_ | refine wQn ?_); try simp only [thenA_n])
 all_goals first | apply hr
 all_goals refine ⟨[], by simp, by simp, ?_⟩
 all_goals simp [Try.f137, outR, outB, renB, gaN, lv, ouN, kpI, kpR, pos, ren, ren0, renC, renCs]
set_option maxHeartbeats 4000000 in
theorem iOp : IRn 139 fOp := by
 intro b st hb
 have c0 := inum b st hb
 obtain ⟨x0, s0, e0⟩ := foI_got b st
 rw [e0] at c0
 simp only [vOf1, vOf2] at c0
 have c1 := itext b s0 hb
 obtain ⟨x1, s1, e1⟩ := foS_got b s0
 rw [e1] at c1
 simp only [vOf1, vOf2] at c1
 have c2 := itext b s1 hb
 obtain ⟨x2, s2, e2⟩ := foS_got b s1
 rw [e2] at c2
 simp only [vOf1, vOf2] at c2
 have c3 := inum b s2 hb
 obtain ⟨x3, s3, e3⟩ := foI_got b s2
 rw [e3] at c3
 simp only [vOf1, vOf2] at c3
 have c4 := iflag b s3 hb
 obtain ⟨x4, s4, e4⟩ := foB_got b s3
 rw [e4] at c4
 simp only [vOf1, vOf2] at c4
 have c5 := iflag b s4 hb
 obtain ⟨x5, s5, e5⟩ := foB_got b s4
 rw [e5] at c5
 simp only [vOf1, vOf2] at c5
 have hz : fOp.rd b st = ([I x0, SB x1, SB x2, I x3, B x4, B x5], s5) := by simp only [fOp, sq_rd, e0, e1, e2, e3, e4, e5, List.cons_append, List.nil_append]
 rw [hz]
 clear e0 e1 e2 e3 e4 e5 hz
 simp only [vOf2]
 refine wBodyG Try.tab Try.mixed Try.func139 rfl rfl Try.ntmps139 (by simp) (by simp) fun Q hr hn hp => ?_
 repeat' first | (refine CallK_gen [1024] c0 (by decide) (by decide) (by simp [blksOf, inN, pos, renB, ren0, ouN, lv, kpI, kpR]) (by simp [argsG, argG, ren0, inN, pos, renCs, renC]) ⟨[], by simp, by simp, ?_⟩; simp [lv, ouN, kpI, kpR, pos, ren, ren0, renB, renC, renCs]; clear c0) | (refine CallK_gen [1024] c1 (by decide) (by decide) (by simp [blksOf, inN, pos, renB, ren0, ouN, lv, kpI, kpR]) (by simp [argsG, argG, ren0, inN, pos, renCs, renC]) ⟨[], by simp, by simp, ?_⟩; simp [lv, ouN, kpI, kpR, pos, ren, ren0, renB, renC, renCs]; clear c1) | (refine CallK_gen [1024] c2 (by decide) (by decide) (by simp [blksOf, inN, pos, renB, ren0, ouN, lv, kpI, kpR]) (by simp [argsG, argG, ren0, inN, pos, renCs, renC]) ⟨[], by simp, by simp, ?_⟩; simp [lv, ouN, kpI, kpR, pos, ren, ren0, renB, renC, renCs]; clear c2) | (refine CallK_gen [1024] c3 (by decide) (by decide) (by simp [blksOf, inN, pos, renB, ren0, ouN, lv, kpI, kpR]) (by simp [argsG, argG, ren0, inN, pos, renCs, renC]) ⟨[], by simp, by simp, ?_⟩; simp [lv, ouN, kpI, kpR, pos, ren, ren0, renB, renC, renCs]; clear c3) | (refine CallK_gen [1024] c4 (by decide) (by decide) (by simp [blksOf, inN, pos, renB, ren0, ouN, lv, kpI, kpR]) (by simp [argsG, argG, ren0, inN, pos, renCs, renC]) ⟨[], by simp, by simp, ?_⟩; simp [lv, ouN, kpI, kpR, pos, ren, ren0, renB, renC, renCs]; clear c4) | (refine CallK_gen [1024] c5 (by decide) (by decide) (by simp [blksOf, inN, pos, renB, ren0, ouN, lv, kpI, kpR]) (by simp [argsG, argG, ren0, inN, pos, renCs, renC]) ⟨[], by simp, by simp, ?_⟩; simp [lv, ouN, kpI, kpR, pos, ren, ren0, renB, renC, renCs]; clear c5) | (refine hK _ ?_; clear hK) | (refine hK _ _ ?_; clear hK) | (clear hK; refine hK _ ?_; clear hK) | (clear hK; clear hK; refine hK _ ?_; clear hK) | (clear hK; clear hK; clear hK; refine hK _ ?_; clear hK) | (clear hK; clear hK; clear hK; clear hK; refine hK _ ?_; clear hK) | (refine wSeq fun K hK => ?_) | ((first | refine wReg ?_ | refine wDrwQ rfl (by kernel_rfl) ?_ | refine wDrwI ?_ | refine wDrw (by kernel_rfl) ?_); simp only [List.map_cons, List.map_nil, strip]) | ((first | refine wIs fun K hK => ?_ | refine wOs fun K hK => ?_ | refine wQs fun K hK => ?_ | refine CallK_plain ?_ | refine CallQ_plain ?_ | refine CallR_plain ?_ | refine wCond ?_); simp [lv, ouN, kpI, kpR, pos, ren, ren0, renB, renC, renCs]) | (refine wIn ?_; refine And.intro (by kernel_rfl) ?_; try simp only [thenA_n]) | (first | refine wBlock ?_ | refine wScope ?_) | ((first | refine wRet ?_ | refine wExit ?_ | refine wSkip ?_); try simp) | ((first | refine wLabel ?_ | refine wOn ?_ | refine wQn ?_); try simp only [thenA_n])
 all_goals first | apply hr
 all_goals refine ⟨[], by simp, by simp, ?_⟩
 all_goals simp [Try.f139, outR, outB, renB, gaN, lv, ouN, kpI, kpR, pos, ren, ren0, renC, renCs]
set_option maxHeartbeats 4000000 in
theorem iPt : IRn 136 fPt := by
 intro b st hb
 have c0 := inum b st hb
 obtain ⟨x0, s0, e0⟩ := foI_got b st
 rw [e0] at c0
 simp only [vOf1, vOf2] at c0
 have c1 := iNd b s0 hb
 obtain ⟨x1, x2, x3, x4, x5, s1, e1⟩ := fNd_got b s0
 rw [e1] at c1
 simp only [vOf1, vOf2] at c1
 have c2 := inum b s1 hb
 obtain ⟨x6, s2, e2⟩ := foI_got b s1
 rw [e2] at c2
 simp only [vOf1, vOf2] at c2
 have c3 := iCf b s2 hb
 obtain ⟨x7, x8, x9, x10, s3, e3⟩ := fCf_got b s2
 rw [e3] at c3
 simp only [vOf1, vOf2] at c3
 have hz : fPt.rd b st = ([I x0, SB x1, SB x2, I x3, I x4, I x5, I x6, I x7, I x8, I x9, .sl 4 x10], s3) := by simp only [fPt, sq_rd, e0, e1, e2, e3, List.cons_append, List.nil_append]
 rw [hz]
 clear e0 e1 e2 e3 hz
 simp only [vOf2]
 refine wBodyG Try.tab Try.mixed Try.func136 rfl rfl Try.ntmps136 (by simp) (by simp) fun Q hr hn hp => ?_
 repeat' first | (refine CallK_gen [1024] c0 (by decide) (by decide) (by simp [blksOf, inN, pos, renB, ren0, ouN, lv, kpI, kpR]) (by simp [argsG, argG, ren0, inN, pos, renCs, renC]) ⟨[], by simp, by simp, ?_⟩; simp [lv, ouN, kpI, kpR, pos, ren, ren0, renB, renC, renCs]; clear c0) | (refine CallK_gen [1024] c1 (by decide) (by decide) (by simp [blksOf, inN, pos, renB, ren0, ouN, lv, kpI, kpR]) (by simp [argsG, argG, ren0, inN, pos, renCs, renC]) ⟨[], by simp, by simp, ?_⟩; simp [lv, ouN, kpI, kpR, pos, ren, ren0, renB, renC, renCs]; clear c1) | (refine CallK_gen [1024] c2 (by decide) (by decide) (by simp [blksOf, inN, pos, renB, ren0, ouN, lv, kpI, kpR]) (by simp [argsG, argG, ren0, inN, pos, renCs, renC]) ⟨[], by simp, by simp, ?_⟩; simp [lv, ouN, kpI, kpR, pos, ren, ren0, renB, renC, renCs]; clear c2) | (refine CallK_gen [1024] c3 (by decide) (by decide) (by simp [blksOf, inN, pos, renB, ren0, ouN, lv, kpI, kpR]) (by simp [argsG, argG, ren0, inN, pos, renCs, renC]) ⟨[], by simp, by simp, ?_⟩; simp [lv, ouN, kpI, kpR, pos, ren, ren0, renB, renC, renCs]; clear c3) | (refine hK _ ?_; clear hK) | (refine hK _ _ ?_; clear hK) | (clear hK; refine hK _ ?_; clear hK) | (clear hK; clear hK; refine hK _ ?_; clear hK) | (clear hK; clear hK; clear hK; refine hK _ ?_; clear hK) | (clear hK; clear hK; clear hK; clear hK; refine hK _ ?_; clear hK) | (refine wSeq fun K hK => ?_) | ((first | refine wReg ?_ | refine wDrwQ rfl (by kernel_rfl) ?_ | refine wDrwI ?_ | refine wDrw (by kernel_rfl) ?_); simp only [List.map_cons, List.map_nil, strip]) | ((first | refine wIs fun K hK => ?_ | refine wOs fun K hK => ?_ | refine wQs fun K hK => ?_ | refine CallK_plain ?_ | refine CallQ_plain ?_ | refine CallR_plain ?_ | refine wCond ?_); simp [lv, ouN, kpI, kpR, pos, ren, ren0, renB, renC, renCs]) | (refine wIn ?_; refine And.intro (by kernel_rfl) ?_; try simp only [thenA_n]) | (first | refine wBlock ?_ | refine wScope ?_) | ((first | refine wRet ?_ | refine wExit ?_ | refine wSkip ?_); try simp) | ((first | refine wLabel ?_ | refine wOn ?_ | refine wQn ?_); try simp only [thenA_n])
 all_goals first | apply hr
 all_goals refine ⟨[], by simp, by simp, ?_⟩
 all_goals simp [Try.f136, outR, outB, renB, gaN, lv, ouN, kpI, kpR, pos, ren, ren0, renC, renCs]
set_option maxHeartbeats 8000000 in
theorem ilPt : IRn 107 (fl 11 fPt) := by
 intro b st hb
 have c0 := icount b st hb
 have hL : (fl 11 fPt).rd b st = ([.sl 11 (rdL fPt.rd b (rdC b st).1.toNat (rdC b st).2).1], (rdL fPt.rd b (rdC b st).1.toNat (rdC b st).2).2) := rfl
 have hbd := rdC_bd b st
 rw [hL, vOf1]
 generalize rdC b st = r at *
 obtain ⟨n, s0⟩ := r
 simp only at *
 obtain ⟨m, rfl⟩ : ∃ m : Nat, n = m := ⟨n.toNat, by omega⟩
 simp only [Int.toNat_natCast]
 clear hL
 refine wBodyG Try.tab Try.mixed Try.func107 rfl rfl Try.ntmps107 (by simp) (by simp) fun Q hr hn hp => ?_
 repeat' first | (refine CallK_gen [1024] c0 (by decide) (by decide) (by simp [blksOf, inN, pos, renB, ren0, ouN, lv, kpI, kpR]) (by simp [argsG, argG, ren0, inN, pos, renCs, renC]) ⟨[], by simp, by simp, ?_⟩; simp [lv, ouN, kpI, kpR, pos, ren, ren0, renB, renC, renCs]) | (refine hK _ ?_; clear hK) | (refine hK _ _ ?_; clear hK) | (clear hK; refine hK _ ?_; clear hK) | (clear hK; clear hK; refine hK _ ?_; clear hK) | (clear hK; clear hK; clear hK; refine hK _ ?_; clear hK) | (clear hK; clear hK; clear hK; clear hK; refine hK _ ?_; clear hK) | (refine wSeq fun K hK => ?_) | ((first | refine wReg ?_ | refine wDrwQ rfl (by kernel_rfl) ?_ | refine wDrwI ?_ | refine wDrw (by kernel_rfl) ?_); simp only [List.map_cons, List.map_nil, strip]) | ((first | refine wIs fun K hK => ?_ | refine wOs fun K hK => ?_ | refine wQs fun K hK => ?_ | refine CallK_plain ?_ | refine CallQ_plain ?_ | refine CallR_plain ?_ | refine wCond ?_); simp [lv, ouN, kpI, kpR, pos, ren, ren0, renB, renC, renCs]) | (refine wIn ?_; refine And.intro (by kernel_rfl) ?_; try simp only [thenA_n]) | (first | refine wBlock ?_ | refine wScope ?_) | ((first | refine wRet ?_ | refine wExit ?_ | refine wSkip ?_); try simp) | ((first | refine wLabel ?_ | refine wOn ?_ | refine wQn ?_); try simp only [thenA_n])
 generalize hF : rdL fPt.rd b m s0 = full at *
 refine wLoopG [.row 3 80 11] (fun N st => ∃ k s2 acc, k + N = m /\ acc.length = k /\ full = (acc ++ (rdL fPt.rd b N s2).1, (rdL fPt.rd b N s2).2) /\ st.s 0 = .ptr 1024 0 /\ st.s 3 = .row 3 /\ st.s 4 = .p (I m) /\ st.s 5 = .p (I k) /\ st.b 1024 = some (.box 119 [.p (.sl 1 (by8 b)), .p (I s2.2), .p (I s2.1)]) /\ st.b 3 = some (.row 80 11 acc)) m ⟨0, s0, [], by simp [hF, lv, ouN, kpI, kpR, pos, ren, ren0, renB, renC, renCs]⟩ fun K N st hL ⟨k, s2, acc, hk, hac, hfu, g0, g3, g4, g5, b0, b3⟩ => ?_
 by_cases hgo : k < m /\ s2.1 = 0
 ·obtain ⟨hlt, z⟩ := hgo
  have hlt' : (k : Int) < (m : Int) := by omega
  have hw := wrapS k m hlt (by omega)
  obtain ⟨M, rfl⟩ : ∃ M, N = M + 1 := ⟨N - 1, by omega⟩
  rw [rdL, if_pos z] at hfu
  have c := iPt b s2 hb
  obtain ⟨x0, x1, x2, x3, x4, x5, x6, x7, x8, x9, x10, s3, he⟩ := fPt_got b s2
  rw [he] at c hfu
  try simp only [vOf1, vOf2] at c
  simp only at hfu
  obtain ⟨q2, a2⟩ := s2
  simp only at z
  subst z
  simp only at b0
  repeat' first | (refine CallK_gen [1024] c (by decide) (by decide) (by simp [blksOf, inN, pos, renB, ren0, b0]) (by simp [argsG, argG, ren0, inN, pos, renCs, renC]) ⟨[], by simp, by simp, ?_⟩; simp [lv, ouN, kpI, kpR, pos, ren, ren0, renB, renC, renCs, b0]) | (refine And.intro (by omega) ?_) | (refine hK _ ?_; clear hK) | (refine hK _ _ ?_; clear hK) | (clear hK; refine hK _ ?_; clear hK) | (clear hK; clear hK; refine hK _ ?_; clear hK) | (clear hK; clear hK; clear hK; refine hK _ ?_; clear hK) | (clear hK; clear hK; clear hK; clear hK; refine hK _ ?_; clear hK) | (refine wSeq fun K hK => ?_) | ((first | refine wReg ?_ | refine wDrwQ rfl (by kernel_rfl) ?_ | refine wDrwI ?_ | refine wDrw (by kernel_rfl) ?_); simp only [List.map_cons, List.map_nil, strip]) | ((first | refine wIs fun K hK => ?_ | refine wOs fun K hK => ?_ | refine wQs fun K hK => ?_ | refine CallK_plain ?_ | refine CallQ_plain ?_ | refine CallR_plain ?_ | refine wCond ?_); simp [g0, g3, g4, g5, b0, b3, hlt, hlt', hw, lv, ouN, kpI, kpR, pos, ren, ren0, renB, renC, renCs]) | (refine wIn ?_; refine And.intro (by kernel_rfl) ?_; try simp only [thenA_n]) | (first | refine wBlock ?_ | refine wScope ?_) | ((first | refine wRet ?_ | refine wExit ?_ | refine wSkip ?_); try simp) | ((first | refine wLabel ?_ | refine wOn ?_ | refine wQn ?_); try simp only [thenA_n])
  refine hL _ M (by omega) ⟨k + 1, s3, acc ++ [[I x0, SB x1, SB x2, I x3, I x4, I x5, I x6, I x7, I x8, I x9, .sl 4 x10]], by omega, by simp [hac], by rw [hfu]; simp, ?_⟩
  simp [g0, g3, g4, g5, b0, b3, hw, lv, ouN, kpI, kpR, pos, ren, ren0, renB, renC, renCs]
 ·have hend : full = (acc, s2) := by
   rw [hfu]
   by_cases z : s2.1 = 0
   ·obtain rfl : N = 0 := by have : ¬ k < m := fun h => hgo ⟨h, z⟩; omega
    simp [rdL]
   ·obtain ⟨q2, a2⟩ := s2
    rw [rdL_stk _ _ _ _ z]; simp
  rw [hend] at hr
  clear hfu hend
  have f3 : (Av.frz st 3 11 acc).s 3 = .p (.sl 11 acc) := by simp [Av.frz, sub, sub0, g3]
  have f0 : (Av.frz st 3 11 acc).b 1024 = some (.box 119 [.p (.sl 1 (by8 b)), .p (I s2.2), .p (I s2.1)]) := by simp [Av.frz, sub, sub0, subB, b0]
  by_cases hlt : k < m
  ·have hlt' : (k : Int) < (m : Int) := by omega
   have z : (s2.1 = 0) = False := eq_false fun z => hgo ⟨hlt, z⟩
   have f4 : (Av.frz st 3 11 acc).s 4 = .p (I m) := by simp [Av.frz, sub, sub0, g4]
   have f5 : (Av.frz st 3 11 acc).s 5 = .p (I k) := by simp [Av.frz, sub, sub0, g5]
   have f00 : (Av.frz st 3 11 acc).s 0 = .ptr 1024 0 := by simp [Av.frz, sub, sub0, g0]
   repeat' first | (refine wFrzR 3 acc b3 ?_; generalize Av.frz st 3 11 acc = st2 at f3 f0 f4 f5 f00 ⊢) | (refine hK _ ?_; clear hK) | (refine hK _ _ ?_; clear hK) | (clear hK; refine hK _ ?_; clear hK) | (clear hK; clear hK; refine hK _ ?_; clear hK) | (clear hK; clear hK; clear hK; refine hK _ ?_; clear hK) | (clear hK; clear hK; clear hK; clear hK; refine hK _ ?_; clear hK) | (refine wSeq fun K hK => ?_) | ((first | refine wReg ?_ | refine wDrwQ rfl (by kernel_rfl) ?_ | refine wDrwI ?_ | refine wDrw (by kernel_rfl) ?_); simp only [List.map_cons, List.map_nil, strip]) | ((first | refine wIs fun K hK => ?_ | refine wOs fun K hK => ?_ | refine wQs fun K hK => ?_ | refine CallK_plain ?_ | refine CallQ_plain ?_ | refine CallR_plain ?_ | refine wCond ?_); simp [f3, f0, f4, f5, f00, g0, g4, g5, b0, hlt, hlt', z]) | (refine wIn ?_; refine And.intro (by kernel_rfl) ?_; try simp only [thenA_n]) | (first | refine wBlock ?_ | refine wScope ?_) | ((first | refine wRet ?_ | refine wExit ?_ | refine wSkip ?_); try simp) | ((first | refine wLabel ?_ | refine wOn ?_ | refine wQn ?_); try simp only [thenA_n])
   all_goals first | apply hr
   all_goals refine ⟨[], by simp, by simp, ?_⟩
   all_goals simp [Try.f107, outR, outB, renB, gaN, f3, f0]
  ·have hlt' : ¬ (k : Int) < (m : Int) := by omega
   have f4 : (Av.frz st 3 11 acc).s 4 = .p (I m) := by simp [Av.frz, sub, sub0, g4]
   have f5 : (Av.frz st 3 11 acc).s 5 = .p (I k) := by simp [Av.frz, sub, sub0, g5]
   have f00 : (Av.frz st 3 11 acc).s 0 = .ptr 1024 0 := by simp [Av.frz, sub, sub0, g0]
   repeat' first | (refine wFrzR 3 acc b3 ?_; generalize Av.frz st 3 11 acc = st2 at f3 f0 f4 f5 f00 ⊢) | (refine hK _ ?_; clear hK) | (refine hK _ _ ?_; clear hK) | (clear hK; refine hK _ ?_; clear hK) | (clear hK; clear hK; refine hK _ ?_; clear hK) | (clear hK; clear hK; clear hK; refine hK _ ?_; clear hK) | (clear hK; clear hK; clear hK; clear hK; refine hK _ ?_; clear hK) | (refine wSeq fun K hK => ?_) | ((first | refine wReg ?_ | refine wDrwQ rfl (by kernel_rfl) ?_ | refine wDrwI ?_ | refine wDrw (by kernel_rfl) ?_); simp only [List.map_cons, List.map_nil, strip]) | ((first | refine wIs fun K hK => ?_ | refine wOs fun K hK => ?_ | refine wQs fun K hK => ?_ | refine CallK_plain ?_ | refine CallQ_plain ?_ | refine CallR_plain ?_ | refine wCond ?_); simp [f3, f0, f4, f5, f00, g0, g4, g5, b0, hlt, hlt']) | (refine wIn ?_; refine And.intro (by kernel_rfl) ?_; try simp only [thenA_n]) | (first | refine wBlock ?_ | refine wScope ?_) | ((first | refine wRet ?_ | refine wExit ?_ | refine wSkip ?_); try simp) | ((first | refine wLabel ?_ | refine wOn ?_ | refine wQn ?_); try simp only [thenA_n])
   all_goals first | apply hr
   all_goals refine ⟨[], by simp, by simp, ?_⟩
   all_goals simp [Try.f107, outR, outB, renB, gaN, f3, f0]
set_option maxHeartbeats 4000000 in
theorem iTx : IRn 65 fTx := by
 intro b st hb
 have c0 := iZx b st hb
 obtain ⟨x0, x1, s0, e0⟩ := fZx_got b st
 rw [e0] at c0
 simp only [vOf1, vOf2] at c0
 have c1 := inum b s0 hb
 obtain ⟨x2, s1, e1⟩ := foI_got b s0
 rw [e1] at c1
 simp only [vOf1, vOf2] at c1
 have c2 := inum b s1 hb
 obtain ⟨x3, s2, e2⟩ := foI_got b s1
 rw [e2] at c2
 simp only [vOf1, vOf2] at c2
 have c3 := inum b s2 hb
 obtain ⟨x4, s3, e3⟩ := foI_got b s2
 rw [e3] at c3
 simp only [vOf1, vOf2] at c3
 have c4 := inum b s3 hb
 obtain ⟨x5, s4, e4⟩ := foI_got b s3
 rw [e4] at c4
 simp only [vOf1, vOf2] at c4
 have c5 := itext b s4 hb
 obtain ⟨x6, s5, e5⟩ := foS_got b s4
 rw [e5] at c5
 simp only [vOf1, vOf2] at c5
 have c6 := ilPt b s5 hb
 obtain ⟨x7, s6, e6⟩ := fl_got 11 fPt b s5
 rw [e6] at c6
 simp only [vOf1, vOf2] at c6
 have hz : fTx.rd b st = ([I x0, I x1, I x2, I x3, I x4, I x5, SB x6, .sl 11 x7], s6) := by simp only [fTx, sq_rd, e0, e1, e2, e3, e4, e5, e6, List.cons_append, List.nil_append]
 rw [hz]
 clear e0 e1 e2 e3 e4 e5 e6 hz
 simp only [vOf2]
 refine wBodyG Try.tab Try.mixed Try.func65 rfl rfl Try.ntmps65 (by simp) (by simp) fun Q hr hn hp => ?_
 repeat' first | (refine CallK_gen [1024] c0 (by decide) (by decide) (by simp [blksOf, inN, pos, renB, ren0, ouN, lv, kpI, kpR]) (by simp [argsG, argG, ren0, inN, pos, renCs, renC]) ⟨[], by simp, by simp, ?_⟩; simp [lv, ouN, kpI, kpR, pos, ren, ren0, renB, renC, renCs]; clear c0) | (refine CallK_gen [1024] c1 (by decide) (by decide) (by simp [blksOf, inN, pos, renB, ren0, ouN, lv, kpI, kpR]) (by simp [argsG, argG, ren0, inN, pos, renCs, renC]) ⟨[], by simp, by simp, ?_⟩; simp [lv, ouN, kpI, kpR, pos, ren, ren0, renB, renC, renCs]; clear c1) | (refine CallK_gen [1024] c2 (by decide) (by decide) (by simp [blksOf, inN, pos, renB, ren0, ouN, lv, kpI, kpR]) (by simp [argsG, argG, ren0, inN, pos, renCs, renC]) ⟨[], by simp, by simp, ?_⟩; simp [lv, ouN, kpI, kpR, pos, ren, ren0, renB, renC, renCs]; clear c2) | (refine CallK_gen [1024] c3 (by decide) (by decide) (by simp [blksOf, inN, pos, renB, ren0, ouN, lv, kpI, kpR]) (by simp [argsG, argG, ren0, inN, pos, renCs, renC]) ⟨[], by simp, by simp, ?_⟩; simp [lv, ouN, kpI, kpR, pos, ren, ren0, renB, renC, renCs]; clear c3) | (refine CallK_gen [1024] c4 (by decide) (by decide) (by simp [blksOf, inN, pos, renB, ren0, ouN, lv, kpI, kpR]) (by simp [argsG, argG, ren0, inN, pos, renCs, renC]) ⟨[], by simp, by simp, ?_⟩; simp [lv, ouN, kpI, kpR, pos, ren, ren0, renB, renC, renCs]; clear c4) | (refine CallK_gen [1024] c5 (by decide) (by decide) (by simp [blksOf, inN, pos, renB, ren0, ouN, lv, kpI, kpR]) (by simp [argsG, argG, ren0, inN, pos, renCs, renC]) ⟨[], by simp, by simp, ?_⟩; simp [lv, ouN, kpI, kpR, pos, ren, ren0, renB, renC, renCs]; clear c5) | (refine CallK_gen [1024] c6 (by decide) (by decide) (by simp [blksOf, inN, pos, renB, ren0, ouN, lv, kpI, kpR]) (by simp [argsG, argG, ren0, inN, pos, renCs, renC]) ⟨[], by simp, by simp, ?_⟩; simp [lv, ouN, kpI, kpR, pos, ren, ren0, renB, renC, renCs]; clear c6) | (refine hK _ ?_; clear hK) | (refine hK _ _ ?_; clear hK) | (clear hK; refine hK _ ?_; clear hK) | (clear hK; clear hK; refine hK _ ?_; clear hK) | (clear hK; clear hK; clear hK; refine hK _ ?_; clear hK) | (clear hK; clear hK; clear hK; clear hK; refine hK _ ?_; clear hK) | (refine wSeq fun K hK => ?_) | ((first | refine wReg ?_ | refine wDrwQ rfl (by kernel_rfl) ?_ | refine wDrwI ?_ | refine wDrw (by kernel_rfl) ?_); simp only [List.map_cons, List.map_nil, strip]) | ((first | refine wIs fun K hK => ?_ | refine wOs fun K hK => ?_ | refine wQs fun K hK => ?_ | refine CallK_plain ?_ | refine CallQ_plain ?_ | refine CallR_plain ?_ | refine wCond ?_); simp [lv, ouN, kpI, kpR, pos, ren, ren0, renB, renC, renCs]) | (refine wIn ?_; refine And.intro (by kernel_rfl) ?_; try simp only [thenA_n]) | (first | refine wBlock ?_ | refine wScope ?_) | ((first | refine wRet ?_ | refine wExit ?_ | refine wSkip ?_); try simp) | ((first | refine wLabel ?_ | refine wOn ?_ | refine wQn ?_); try simp only [thenA_n])
 all_goals first | apply hr
 all_goals refine ⟨[], by simp, by simp, ?_⟩
 all_goals simp [Try.f65, outR, outB, renB, gaN, lv, ouN, kpI, kpR, pos, ren, ren0, renC, renCs]
set_option maxHeartbeats 8000000 in
theorem ilTx : IRn 123 (fl 8 fTx) := by
 intro b st hb
 have c0 := icount b st hb
 have hL : (fl 8 fTx).rd b st = ([.sl 8 (rdL fTx.rd b (rdC b st).1.toNat (rdC b st).2).1], (rdL fTx.rd b (rdC b st).1.toNat (rdC b st).2).2) := rfl
 have hbd := rdC_bd b st
 rw [hL, vOf1]
 generalize rdC b st = r at *
 obtain ⟨n, s0⟩ := r
 simp only at *
 obtain ⟨m, rfl⟩ : ∃ m : Nat, n = m := ⟨n.toNat, by omega⟩
 simp only [Int.toNat_natCast]
 clear hL
 refine wBodyG Try.tab Try.mixed Try.func123 rfl rfl Try.ntmps123 (by simp) (by simp) fun Q hr hn hp => ?_
 repeat' first | (refine CallK_gen [1024] c0 (by decide) (by decide) (by simp [blksOf, inN, pos, renB, ren0, ouN, lv, kpI, kpR]) (by simp [argsG, argG, ren0, inN, pos, renCs, renC]) ⟨[], by simp, by simp, ?_⟩; simp [lv, ouN, kpI, kpR, pos, ren, ren0, renB, renC, renCs]) | (refine hK _ ?_; clear hK) | (refine hK _ _ ?_; clear hK) | (clear hK; refine hK _ ?_; clear hK) | (clear hK; clear hK; refine hK _ ?_; clear hK) | (clear hK; clear hK; clear hK; refine hK _ ?_; clear hK) | (clear hK; clear hK; clear hK; clear hK; refine hK _ ?_; clear hK) | (refine wSeq fun K hK => ?_) | ((first | refine wReg ?_ | refine wDrwQ rfl (by kernel_rfl) ?_ | refine wDrwI ?_ | refine wDrw (by kernel_rfl) ?_); simp only [List.map_cons, List.map_nil, strip]) | ((first | refine wIs fun K hK => ?_ | refine wOs fun K hK => ?_ | refine wQs fun K hK => ?_ | refine CallK_plain ?_ | refine CallQ_plain ?_ | refine CallR_plain ?_ | refine wCond ?_); simp [lv, ouN, kpI, kpR, pos, ren, ren0, renB, renC, renCs]) | (refine wIn ?_; refine And.intro (by kernel_rfl) ?_; try simp only [thenA_n]) | (first | refine wBlock ?_ | refine wScope ?_) | ((first | refine wRet ?_ | refine wExit ?_ | refine wSkip ?_); try simp) | ((first | refine wLabel ?_ | refine wOn ?_ | refine wQn ?_); try simp only [thenA_n])
 generalize hF : rdL fTx.rd b m s0 = full at *
 refine wLoopG [.row 3 28 8] (fun N st => ∃ k s2 acc, k + N = m /\ acc.length = k /\ full = (acc ++ (rdL fTx.rd b N s2).1, (rdL fTx.rd b N s2).2) /\ st.s 0 = .ptr 1024 0 /\ st.s 3 = .row 3 /\ st.s 4 = .p (I m) /\ st.s 5 = .p (I k) /\ st.b 1024 = some (.box 119 [.p (.sl 1 (by8 b)), .p (I s2.2), .p (I s2.1)]) /\ st.b 3 = some (.row 28 8 acc)) m ⟨0, s0, [], by simp [hF, lv, ouN, kpI, kpR, pos, ren, ren0, renB, renC, renCs]⟩ fun K N st hL ⟨k, s2, acc, hk, hac, hfu, g0, g3, g4, g5, b0, b3⟩ => ?_
 by_cases hgo : k < m /\ s2.1 = 0
 ·obtain ⟨hlt, z⟩ := hgo
  have hlt' : (k : Int) < (m : Int) := by omega
  have hw := wrapS k m hlt (by omega)
  obtain ⟨M, rfl⟩ : ∃ M, N = M + 1 := ⟨N - 1, by omega⟩
  rw [rdL, if_pos z] at hfu
  have c := iTx b s2 hb
  obtain ⟨x0, x1, x2, x3, x4, x5, x6, x7, s3, he⟩ := fTx_got b s2
  rw [he] at c hfu
  try simp only [vOf1, vOf2] at c
  simp only at hfu
  obtain ⟨q2, a2⟩ := s2
  simp only at z
  subst z
  simp only at b0
  repeat' first | (refine CallK_gen [1024] c (by decide) (by decide) (by simp [blksOf, inN, pos, renB, ren0, b0]) (by simp [argsG, argG, ren0, inN, pos, renCs, renC]) ⟨[], by simp, by simp, ?_⟩; simp [lv, ouN, kpI, kpR, pos, ren, ren0, renB, renC, renCs, b0]) | (refine And.intro (by omega) ?_) | (refine hK _ ?_; clear hK) | (refine hK _ _ ?_; clear hK) | (clear hK; refine hK _ ?_; clear hK) | (clear hK; clear hK; refine hK _ ?_; clear hK) | (clear hK; clear hK; clear hK; refine hK _ ?_; clear hK) | (clear hK; clear hK; clear hK; clear hK; refine hK _ ?_; clear hK) | (refine wSeq fun K hK => ?_) | ((first | refine wReg ?_ | refine wDrwQ rfl (by kernel_rfl) ?_ | refine wDrwI ?_ | refine wDrw (by kernel_rfl) ?_); simp only [List.map_cons, List.map_nil, strip]) | ((first | refine wIs fun K hK => ?_ | refine wOs fun K hK => ?_ | refine wQs fun K hK => ?_ | refine CallK_plain ?_ | refine CallQ_plain ?_ | refine CallR_plain ?_ | refine wCond ?_); simp [g0, g3, g4, g5, b0, b3, hlt, hlt', hw, lv, ouN, kpI, kpR, pos, ren, ren0, renB, renC, renCs]) | (refine wIn ?_; refine And.intro (by kernel_rfl) ?_; try simp only [thenA_n]) | (first | refine wBlock ?_ | refine wScope ?_) | ((first | refine wRet ?_ | refine wExit ?_ | refine wSkip ?_); try simp) | ((first | refine wLabel ?_ | refine wOn ?_ | refine wQn ?_); try simp only [thenA_n])
  refine hL _ M (by omega) ⟨k + 1, s3, acc ++ [[I x0, I x1, I x2, I x3, I x4, I x5, SB x6, .sl 11 x7]], by omega, by simp [hac], by rw [hfu]; simp, ?_⟩
  simp [g0, g3, g4, g5, b0, b3, hw, lv, ouN, kpI, kpR, pos, ren, ren0, renB, renC, renCs]
 ·have hend : full = (acc, s2) := by
   rw [hfu]
   by_cases z : s2.1 = 0
   ·obtain rfl : N = 0 := by have : ¬ k < m := fun h => hgo ⟨h, z⟩; omega
    simp [rdL]
   ·obtain ⟨q2, a2⟩ := s2
    rw [rdL_stk _ _ _ _ z]; simp
  rw [hend] at hr
  clear hfu hend
  have f3 : (Av.frz st 3 8 acc).s 3 = .p (.sl 8 acc) := by simp [Av.frz, sub, sub0, g3]
  have f0 : (Av.frz st 3 8 acc).b 1024 = some (.box 119 [.p (.sl 1 (by8 b)), .p (I s2.2), .p (I s2.1)]) := by simp [Av.frz, sub, sub0, subB, b0]
  by_cases hlt : k < m
  ·have hlt' : (k : Int) < (m : Int) := by omega
   have z : (s2.1 = 0) = False := eq_false fun z => hgo ⟨hlt, z⟩
   have f4 : (Av.frz st 3 8 acc).s 4 = .p (I m) := by simp [Av.frz, sub, sub0, g4]
   have f5 : (Av.frz st 3 8 acc).s 5 = .p (I k) := by simp [Av.frz, sub, sub0, g5]
   have f00 : (Av.frz st 3 8 acc).s 0 = .ptr 1024 0 := by simp [Av.frz, sub, sub0, g0]
   repeat' first | (refine wFrzR 3 acc b3 ?_; generalize Av.frz st 3 8 acc = st2 at f3 f0 f4 f5 f00 ⊢) | (refine hK _ ?_; clear hK) | (refine hK _ _ ?_; clear hK) | (clear hK; refine hK _ ?_; clear hK) | (clear hK; clear hK; refine hK _ ?_; clear hK) | (clear hK; clear hK; clear hK; refine hK _ ?_; clear hK) | (clear hK; clear hK; clear hK; clear hK; refine hK _ ?_; clear hK) | (refine wSeq fun K hK => ?_) | ((first | refine wReg ?_ | refine wDrwQ rfl (by kernel_rfl) ?_ | refine wDrwI ?_ | refine wDrw (by kernel_rfl) ?_); simp only [List.map_cons, List.map_nil, strip]) | ((first | refine wIs fun K hK => ?_ | refine wOs fun K hK => ?_ | refine wQs fun K hK => ?_ | refine CallK_plain ?_ | refine CallQ_plain ?_ | refine CallR_plain ?_ | refine wCond ?_); simp [f3, f0, f4, f5, f00, g0, g4, g5, b0, hlt, hlt', z]) | (refine wIn ?_; refine And.intro (by kernel_rfl) ?_; try simp only [thenA_n]) | (first | refine wBlock ?_ | refine wScope ?_) | ((first | refine wRet ?_ | refine wExit ?_ | refine wSkip ?_); try simp) | ((first | refine wLabel ?_ | refine wOn ?_ | refine wQn ?_); try simp only [thenA_n])
   all_goals first | apply hr
   all_goals refine ⟨[], by simp, by simp, ?_⟩
   all_goals simp [Try.f123, outR, outB, renB, gaN, f3, f0]
  ·have hlt' : ¬ (k : Int) < (m : Int) := by omega
   have f4 : (Av.frz st 3 8 acc).s 4 = .p (I m) := by simp [Av.frz, sub, sub0, g4]
   have f5 : (Av.frz st 3 8 acc).s 5 = .p (I k) := by simp [Av.frz, sub, sub0, g5]
   have f00 : (Av.frz st 3 8 acc).s 0 = .ptr 1024 0 := by simp [Av.frz, sub, sub0, g0]
   repeat' first | (refine wFrzR 3 acc b3 ?_; generalize Av.frz st 3 8 acc = st2 at f3 f0 f4 f5 f00 ⊢) | (refine hK _ ?_; clear hK) | (refine hK _ _ ?_; clear hK) | (clear hK; refine hK _ ?_; clear hK) | (clear hK; clear hK; refine hK _ ?_; clear hK) | (clear hK; clear hK; clear hK; refine hK _ ?_; clear hK) | (clear hK; clear hK; clear hK; clear hK; refine hK _ ?_; clear hK) | (refine wSeq fun K hK => ?_) | ((first | refine wReg ?_ | refine wDrwQ rfl (by kernel_rfl) ?_ | refine wDrwI ?_ | refine wDrw (by kernel_rfl) ?_); simp only [List.map_cons, List.map_nil, strip]) | ((first | refine wIs fun K hK => ?_ | refine wOs fun K hK => ?_ | refine wQs fun K hK => ?_ | refine CallK_plain ?_ | refine CallQ_plain ?_ | refine CallR_plain ?_ | refine wCond ?_); simp [f3, f0, f4, f5, f00, g0, g4, g5, b0, hlt, hlt']) | (refine wIn ?_; refine And.intro (by kernel_rfl) ?_; try simp only [thenA_n]) | (first | refine wBlock ?_ | refine wScope ?_) | ((first | refine wRet ?_ | refine wExit ?_ | refine wSkip ?_); try simp) | ((first | refine wLabel ?_ | refine wOn ?_ | refine wQn ?_); try simp only [thenA_n])
   all_goals first | apply hr
   all_goals refine ⟨[], by simp, by simp, ?_⟩
   all_goals simp [Try.f123, outR, outB, renB, gaN, f3, f0]
set_option maxHeartbeats 8000000 in
theorem ilNd : IRn 112 (fl 5 fNd) := by
 intro b st hb
 have c0 := icount b st hb
 have hL : (fl 5 fNd).rd b st = ([.sl 5 (rdL fNd.rd b (rdC b st).1.toNat (rdC b st).2).1], (rdL fNd.rd b (rdC b st).1.toNat (rdC b st).2).2) := rfl
 have hbd := rdC_bd b st
 rw [hL, vOf1]
 generalize rdC b st = r at *
 obtain ⟨n, s0⟩ := r
 simp only at *
 obtain ⟨m, rfl⟩ : ∃ m : Nat, n = m := ⟨n.toNat, by omega⟩
 simp only [Int.toNat_natCast]
 clear hL
 refine wBodyG Try.tab Try.mixed Try.func112 rfl rfl Try.ntmps112 (by simp) (by simp) fun Q hr hn hp => ?_
 repeat' first | (refine CallK_gen [1024] c0 (by decide) (by decide) (by simp [blksOf, inN, pos, renB, ren0, ouN, lv, kpI, kpR]) (by simp [argsG, argG, ren0, inN, pos, renCs, renC]) ⟨[], by simp, by simp, ?_⟩; simp [lv, ouN, kpI, kpR, pos, ren, ren0, renB, renC, renCs]) | (refine hK _ ?_; clear hK) | (refine hK _ _ ?_; clear hK) | (clear hK; refine hK _ ?_; clear hK) | (clear hK; clear hK; refine hK _ ?_; clear hK) | (clear hK; clear hK; clear hK; refine hK _ ?_; clear hK) | (clear hK; clear hK; clear hK; clear hK; refine hK _ ?_; clear hK) | (refine wSeq fun K hK => ?_) | ((first | refine wReg ?_ | refine wDrwQ rfl (by kernel_rfl) ?_ | refine wDrwI ?_ | refine wDrw (by kernel_rfl) ?_); simp only [List.map_cons, List.map_nil, strip]) | ((first | refine wIs fun K hK => ?_ | refine wOs fun K hK => ?_ | refine wQs fun K hK => ?_ | refine CallK_plain ?_ | refine CallQ_plain ?_ | refine CallR_plain ?_ | refine wCond ?_); simp [lv, ouN, kpI, kpR, pos, ren, ren0, renB, renC, renCs]) | (refine wIn ?_; refine And.intro (by kernel_rfl) ?_; try simp only [thenA_n]) | (first | refine wBlock ?_ | refine wScope ?_) | ((first | refine wRet ?_ | refine wExit ?_ | refine wSkip ?_); try simp) | ((first | refine wLabel ?_ | refine wOn ?_ | refine wQn ?_); try simp only [thenA_n])
 generalize hF : rdL fNd.rd b m s0 = full at *
 refine wLoopG [.row 3 78 5] (fun N st => ∃ k s2 acc, k + N = m /\ acc.length = k /\ full = (acc ++ (rdL fNd.rd b N s2).1, (rdL fNd.rd b N s2).2) /\ st.s 0 = .ptr 1024 0 /\ st.s 3 = .row 3 /\ st.s 4 = .p (I m) /\ st.s 5 = .p (I k) /\ st.b 1024 = some (.box 119 [.p (.sl 1 (by8 b)), .p (I s2.2), .p (I s2.1)]) /\ st.b 3 = some (.row 78 5 acc)) m ⟨0, s0, [], by simp [hF, lv, ouN, kpI, kpR, pos, ren, ren0, renB, renC, renCs]⟩ fun K N st hL ⟨k, s2, acc, hk, hac, hfu, g0, g3, g4, g5, b0, b3⟩ => ?_
 by_cases hgo : k < m /\ s2.1 = 0
 ·obtain ⟨hlt, z⟩ := hgo
  have hlt' : (k : Int) < (m : Int) := by omega
  have hw := wrapS k m hlt (by omega)
  obtain ⟨M, rfl⟩ : ∃ M, N = M + 1 := ⟨N - 1, by omega⟩
  rw [rdL, if_pos z] at hfu
  have c := iNd b s2 hb
  obtain ⟨x0, x1, x2, x3, x4, s3, he⟩ := fNd_got b s2
  rw [he] at c hfu
  try simp only [vOf1, vOf2] at c
  simp only at hfu
  obtain ⟨q2, a2⟩ := s2
  simp only at z
  subst z
  simp only at b0
  repeat' first | (refine CallK_gen [1024] c (by decide) (by decide) (by simp [blksOf, inN, pos, renB, ren0, b0]) (by simp [argsG, argG, ren0, inN, pos, renCs, renC]) ⟨[], by simp, by simp, ?_⟩; simp [lv, ouN, kpI, kpR, pos, ren, ren0, renB, renC, renCs, b0]) | (refine And.intro (by omega) ?_) | (refine hK _ ?_; clear hK) | (refine hK _ _ ?_; clear hK) | (clear hK; refine hK _ ?_; clear hK) | (clear hK; clear hK; refine hK _ ?_; clear hK) | (clear hK; clear hK; clear hK; refine hK _ ?_; clear hK) | (clear hK; clear hK; clear hK; clear hK; refine hK _ ?_; clear hK) | (refine wSeq fun K hK => ?_) | ((first | refine wReg ?_ | refine wDrwQ rfl (by kernel_rfl) ?_ | refine wDrwI ?_ | refine wDrw (by kernel_rfl) ?_); simp only [List.map_cons, List.map_nil, strip]) | ((first | refine wIs fun K hK => ?_ | refine wOs fun K hK => ?_ | refine wQs fun K hK => ?_ | refine CallK_plain ?_ | refine CallQ_plain ?_ | refine CallR_plain ?_ | refine wCond ?_); simp [g0, g3, g4, g5, b0, b3, hlt, hlt', hw, lv, ouN, kpI, kpR, pos, ren, ren0, renB, renC, renCs]) | (refine wIn ?_; refine And.intro (by kernel_rfl) ?_; try simp only [thenA_n]) | (first | refine wBlock ?_ | refine wScope ?_) | ((first | refine wRet ?_ | refine wExit ?_ | refine wSkip ?_); try simp) | ((first | refine wLabel ?_ | refine wOn ?_ | refine wQn ?_); try simp only [thenA_n])
  refine hL _ M (by omega) ⟨k + 1, s3, acc ++ [[SB x0, SB x1, I x2, I x3, I x4]], by omega, by simp [hac], by rw [hfu]; simp, ?_⟩
  simp [g0, g3, g4, g5, b0, b3, hw, lv, ouN, kpI, kpR, pos, ren, ren0, renB, renC, renCs]
 ·have hend : full = (acc, s2) := by
   rw [hfu]
   by_cases z : s2.1 = 0
   ·obtain rfl : N = 0 := by have : ¬ k < m := fun h => hgo ⟨h, z⟩; omega
    simp [rdL]
   ·obtain ⟨q2, a2⟩ := s2
    rw [rdL_stk _ _ _ _ z]; simp
  rw [hend] at hr
  clear hfu hend
  have f3 : (Av.frz st 3 5 acc).s 3 = .p (.sl 5 acc) := by simp [Av.frz, sub, sub0, g3]
  have f0 : (Av.frz st 3 5 acc).b 1024 = some (.box 119 [.p (.sl 1 (by8 b)), .p (I s2.2), .p (I s2.1)]) := by simp [Av.frz, sub, sub0, subB, b0]
  by_cases hlt : k < m
  ·have hlt' : (k : Int) < (m : Int) := by omega
   have z : (s2.1 = 0) = False := eq_false fun z => hgo ⟨hlt, z⟩
   have f4 : (Av.frz st 3 5 acc).s 4 = .p (I m) := by simp [Av.frz, sub, sub0, g4]
   have f5 : (Av.frz st 3 5 acc).s 5 = .p (I k) := by simp [Av.frz, sub, sub0, g5]
   have f00 : (Av.frz st 3 5 acc).s 0 = .ptr 1024 0 := by simp [Av.frz, sub, sub0, g0]
   repeat' first | (refine wFrzR 3 acc b3 ?_; generalize Av.frz st 3 5 acc = st2 at f3 f0 f4 f5 f00 ⊢) | (refine hK _ ?_; clear hK) | (refine hK _ _ ?_; clear hK) | (clear hK; refine hK _ ?_; clear hK) | (clear hK; clear hK; refine hK _ ?_; clear hK) | (clear hK; clear hK; clear hK; refine hK _ ?_; clear hK) | (clear hK; clear hK; clear hK; clear hK; refine hK _ ?_; clear hK) | (refine wSeq fun K hK => ?_) | ((first | refine wReg ?_ | refine wDrwQ rfl (by kernel_rfl) ?_ | refine wDrwI ?_ | refine wDrw (by kernel_rfl) ?_); simp only [List.map_cons, List.map_nil, strip]) | ((first | refine wIs fun K hK => ?_ | refine wOs fun K hK => ?_ | refine wQs fun K hK => ?_ | refine CallK_plain ?_ | refine CallQ_plain ?_ | refine CallR_plain ?_ | refine wCond ?_); simp [f3, f0, f4, f5, f00, g0, g4, g5, b0, hlt, hlt', z]) | (refine wIn ?_; refine And.intro (by kernel_rfl) ?_; try simp only [thenA_n]) | (first | refine wBlock ?_ | refine wScope ?_) | ((first | refine wRet ?_ | refine wExit ?_ | refine wSkip ?_); try simp) | ((first | refine wLabel ?_ | refine wOn ?_ | refine wQn ?_); try simp only [thenA_n])
   all_goals first | apply hr
   all_goals refine ⟨[], by simp, by simp, ?_⟩
   all_goals simp [Try.f112, outR, outB, renB, gaN, f3, f0]
  ·have hlt' : ¬ (k : Int) < (m : Int) := by omega
   have f4 : (Av.frz st 3 5 acc).s 4 = .p (I m) := by simp [Av.frz, sub, sub0, g4]
   have f5 : (Av.frz st 3 5 acc).s 5 = .p (I k) := by simp [Av.frz, sub, sub0, g5]
   have f00 : (Av.frz st 3 5 acc).s 0 = .ptr 1024 0 := by simp [Av.frz, sub, sub0, g0]
   repeat' first | (refine wFrzR 3 acc b3 ?_; generalize Av.frz st 3 5 acc = st2 at f3 f0 f4 f5 f00 ⊢) | (refine hK _ ?_; clear hK) | (refine hK _ _ ?_; clear hK) | (clear hK; refine hK _ ?_; clear hK) | (clear hK; clear hK; refine hK _ ?_; clear hK) | (clear hK; clear hK; clear hK; refine hK _ ?_; clear hK) | (clear hK; clear hK; clear hK; clear hK; refine hK _ ?_; clear hK) | (refine wSeq fun K hK => ?_) | ((first | refine wReg ?_ | refine wDrwQ rfl (by kernel_rfl) ?_ | refine wDrwI ?_ | refine wDrw (by kernel_rfl) ?_); simp only [List.map_cons, List.map_nil, strip]) | ((first | refine wIs fun K hK => ?_ | refine wOs fun K hK => ?_ | refine wQs fun K hK => ?_ | refine CallK_plain ?_ | refine CallQ_plain ?_ | refine CallR_plain ?_ | refine wCond ?_); simp [f3, f0, f4, f5, f00, g0, g4, g5, b0, hlt, hlt']) | (refine wIn ?_; refine And.intro (by kernel_rfl) ?_; try simp only [thenA_n]) | (first | refine wBlock ?_ | refine wScope ?_) | ((first | refine wRet ?_ | refine wExit ?_ | refine wSkip ?_); try simp) | ((first | refine wLabel ?_ | refine wOn ?_ | refine wQn ?_); try simp only [thenA_n])
   all_goals first | apply hr
   all_goals refine ⟨[], by simp, by simp, ?_⟩
   all_goals simp [Try.f112, outR, outB, renB, gaN, f3, f0]
set_option maxHeartbeats 4000000 in
theorem iSt : IRn 68 fSt := by
 intro b st hb
 have c0 := ilNd b st hb
 obtain ⟨x0, s0, e0⟩ := fl_got 5 fNd b st
 rw [e0] at c0
 simp only [vOf1, vOf2] at c0
 have c1 := ilI b s0 hb
 obtain ⟨x1, s1, e1⟩ := fl_got 1 foI b s0
 rw [e1] at c1
 simp only [vOf1, vOf2] at c1
 have c2 := inum b s1 hb
 obtain ⟨x2, s2, e2⟩ := foI_got b s1
 rw [e2] at c2
 simp only [vOf1, vOf2] at c2
 have c3 := iCf b s2 hb
 obtain ⟨x3, x4, x5, x6, s3, e3⟩ := fCf_got b s2
 rw [e3] at c3
 simp only [vOf1, vOf2] at c3
 have c4 := iZx b s3 hb
 obtain ⟨x7, x8, s4, e4⟩ := fZx_got b s3
 rw [e4] at c4
 simp only [vOf1, vOf2] at c4
 have hz : fSt.rd b st = ([.sl 5 x0, .sl 1 x1, I x2, I x3, I x4, I x5, .sl 4 x6, I x7, I x8], s4) := by simp only [fSt, sq_rd, e0, e1, e2, e3, e4, List.cons_append, List.nil_append]
 rw [hz]
 clear e0 e1 e2 e3 e4 hz
 simp only [vOf2]
 refine wBodyG Try.tab Try.mixed Try.func68 rfl rfl Try.ntmps68 (by simp) (by simp) fun Q hr hn hp => ?_
 repeat' first | (refine CallK_gen [1024] c0 (by decide) (by decide) (by simp [blksOf, inN, pos, renB, ren0, ouN, lv, kpI, kpR]) (by simp [argsG, argG, ren0, inN, pos, renCs, renC]) ⟨[], by simp, by simp, ?_⟩; simp [lv, ouN, kpI, kpR, pos, ren, ren0, renB, renC, renCs]; clear c0) | (refine CallK_gen [1024] c1 (by decide) (by decide) (by simp [blksOf, inN, pos, renB, ren0, ouN, lv, kpI, kpR]) (by simp [argsG, argG, ren0, inN, pos, renCs, renC]) ⟨[], by simp, by simp, ?_⟩; simp [lv, ouN, kpI, kpR, pos, ren, ren0, renB, renC, renCs]; clear c1) | (refine CallK_gen [1024] c2 (by decide) (by decide) (by simp [blksOf, inN, pos, renB, ren0, ouN, lv, kpI, kpR]) (by simp [argsG, argG, ren0, inN, pos, renCs, renC]) ⟨[], by simp, by simp, ?_⟩; simp [lv, ouN, kpI, kpR, pos, ren, ren0, renB, renC, renCs]; clear c2) | (refine CallK_gen [1024] c3 (by decide) (by decide) (by simp [blksOf, inN, pos, renB, ren0, ouN, lv, kpI, kpR]) (by simp [argsG, argG, ren0, inN, pos, renCs, renC]) ⟨[], by simp, by simp, ?_⟩; simp [lv, ouN, kpI, kpR, pos, ren, ren0, renB, renC, renCs]; clear c3) | (refine CallK_gen [1024] c4 (by decide) (by decide) (by simp [blksOf, inN, pos, renB, ren0, ouN, lv, kpI, kpR]) (by simp [argsG, argG, ren0, inN, pos, renCs, renC]) ⟨[], by simp, by simp, ?_⟩; simp [lv, ouN, kpI, kpR, pos, ren, ren0, renB, renC, renCs]; clear c4) | (refine hK _ ?_; clear hK) | (refine hK _ _ ?_; clear hK) | (clear hK; refine hK _ ?_; clear hK) | (clear hK; clear hK; refine hK _ ?_; clear hK) | (clear hK; clear hK; clear hK; refine hK _ ?_; clear hK) | (clear hK; clear hK; clear hK; clear hK; refine hK _ ?_; clear hK) | (refine wSeq fun K hK => ?_) | ((first | refine wReg ?_ | refine wDrwQ rfl (by kernel_rfl) ?_ | refine wDrwI ?_ | refine wDrw (by kernel_rfl) ?_); simp only [List.map_cons, List.map_nil, strip]) | ((first | refine wIs fun K hK => ?_ | refine wOs fun K hK => ?_ | refine wQs fun K hK => ?_ | refine CallK_plain ?_ | refine CallQ_plain ?_ | refine CallR_plain ?_ | refine wCond ?_); simp [lv, ouN, kpI, kpR, pos, ren, ren0, renB, renC, renCs]) | (refine wIn ?_; refine And.intro (by kernel_rfl) ?_; try simp only [thenA_n]) | (first | refine wBlock ?_ | refine wScope ?_) | ((first | refine wRet ?_ | refine wExit ?_ | refine wSkip ?_); try simp) | ((first | refine wLabel ?_ | refine wOn ?_ | refine wQn ?_); try simp only [thenA_n])
 all_goals first | apply hr
 all_goals refine ⟨[], by simp, by simp, ?_⟩
 all_goals simp [Try.f68, outR, outB, renB, gaN, lv, ouN, kpI, kpR, pos, ren, ren0, renC, renCs]
set_option maxHeartbeats 8000000 in
theorem ilOp : IRn 117 (fl 6 fOp) := by
 intro b st hb
 have c0 := icount b st hb
 have hL : (fl 6 fOp).rd b st = ([.sl 6 (rdL fOp.rd b (rdC b st).1.toNat (rdC b st).2).1], (rdL fOp.rd b (rdC b st).1.toNat (rdC b st).2).2) := rfl
 have hbd := rdC_bd b st
 rw [hL, vOf1]
 generalize rdC b st = r at *
 obtain ⟨n, s0⟩ := r
 simp only at *
 obtain ⟨m, rfl⟩ : ∃ m : Nat, n = m := ⟨n.toNat, by omega⟩
 simp only [Int.toNat_natCast]
 clear hL
 refine wBodyG Try.tab Try.mixed Try.func117 rfl rfl Try.ntmps117 (by simp) (by simp) fun Q hr hn hp => ?_
 repeat' first | (refine CallK_gen [1024] c0 (by decide) (by decide) (by simp [blksOf, inN, pos, renB, ren0, ouN, lv, kpI, kpR]) (by simp [argsG, argG, ren0, inN, pos, renCs, renC]) ⟨[], by simp, by simp, ?_⟩; simp [lv, ouN, kpI, kpR, pos, ren, ren0, renB, renC, renCs]) | (refine hK _ ?_; clear hK) | (refine hK _ _ ?_; clear hK) | (clear hK; refine hK _ ?_; clear hK) | (clear hK; clear hK; refine hK _ ?_; clear hK) | (clear hK; clear hK; clear hK; refine hK _ ?_; clear hK) | (clear hK; clear hK; clear hK; clear hK; refine hK _ ?_; clear hK) | (refine wSeq fun K hK => ?_) | ((first | refine wReg ?_ | refine wDrwQ rfl (by kernel_rfl) ?_ | refine wDrwI ?_ | refine wDrw (by kernel_rfl) ?_); simp only [List.map_cons, List.map_nil, strip]) | ((first | refine wIs fun K hK => ?_ | refine wOs fun K hK => ?_ | refine wQs fun K hK => ?_ | refine CallK_plain ?_ | refine CallQ_plain ?_ | refine CallR_plain ?_ | refine wCond ?_); simp [lv, ouN, kpI, kpR, pos, ren, ren0, renB, renC, renCs]) | (refine wIn ?_; refine And.intro (by kernel_rfl) ?_; try simp only [thenA_n]) | (first | refine wBlock ?_ | refine wScope ?_) | ((first | refine wRet ?_ | refine wExit ?_ | refine wSkip ?_); try simp) | ((first | refine wLabel ?_ | refine wOn ?_ | refine wQn ?_); try simp only [thenA_n])
 generalize hF : rdL fOp.rd b m s0 = full at *
 refine wLoopG [.row 3 111 6] (fun N st => ∃ k s2 acc, k + N = m /\ acc.length = k /\ full = (acc ++ (rdL fOp.rd b N s2).1, (rdL fOp.rd b N s2).2) /\ st.s 0 = .ptr 1024 0 /\ st.s 3 = .row 3 /\ st.s 4 = .p (I m) /\ st.s 5 = .p (I k) /\ st.b 1024 = some (.box 119 [.p (.sl 1 (by8 b)), .p (I s2.2), .p (I s2.1)]) /\ st.b 3 = some (.row 111 6 acc)) m ⟨0, s0, [], by simp [hF, lv, ouN, kpI, kpR, pos, ren, ren0, renB, renC, renCs]⟩ fun K N st hL ⟨k, s2, acc, hk, hac, hfu, g0, g3, g4, g5, b0, b3⟩ => ?_
 by_cases hgo : k < m /\ s2.1 = 0
 ·obtain ⟨hlt, z⟩ := hgo
  have hlt' : (k : Int) < (m : Int) := by omega
  have hw := wrapS k m hlt (by omega)
  obtain ⟨M, rfl⟩ : ∃ M, N = M + 1 := ⟨N - 1, by omega⟩
  rw [rdL, if_pos z] at hfu
  have c := iOp b s2 hb
  obtain ⟨x0, x1, x2, x3, x4, x5, s3, he⟩ := fOp_got b s2
  rw [he] at c hfu
  try simp only [vOf1, vOf2] at c
  simp only at hfu
  obtain ⟨q2, a2⟩ := s2
  simp only at z
  subst z
  simp only at b0
  repeat' first | (refine CallK_gen [1024] c (by decide) (by decide) (by simp [blksOf, inN, pos, renB, ren0, b0]) (by simp [argsG, argG, ren0, inN, pos, renCs, renC]) ⟨[], by simp, by simp, ?_⟩; simp [lv, ouN, kpI, kpR, pos, ren, ren0, renB, renC, renCs, b0]) | (refine And.intro (by omega) ?_) | (refine hK _ ?_; clear hK) | (refine hK _ _ ?_; clear hK) | (clear hK; refine hK _ ?_; clear hK) | (clear hK; clear hK; refine hK _ ?_; clear hK) | (clear hK; clear hK; clear hK; refine hK _ ?_; clear hK) | (clear hK; clear hK; clear hK; clear hK; refine hK _ ?_; clear hK) | (refine wSeq fun K hK => ?_) | ((first | refine wReg ?_ | refine wDrwQ rfl (by kernel_rfl) ?_ | refine wDrwI ?_ | refine wDrw (by kernel_rfl) ?_); simp only [List.map_cons, List.map_nil, strip]) | ((first | refine wIs fun K hK => ?_ | refine wOs fun K hK => ?_ | refine wQs fun K hK => ?_ | refine CallK_plain ?_ | refine CallQ_plain ?_ | refine CallR_plain ?_ | refine wCond ?_); simp [g0, g3, g4, g5, b0, b3, hlt, hlt', hw, lv, ouN, kpI, kpR, pos, ren, ren0, renB, renC, renCs]) | (refine wIn ?_; refine And.intro (by kernel_rfl) ?_; try simp only [thenA_n]) | (first | refine wBlock ?_ | refine wScope ?_) | ((first | refine wRet ?_ | refine wExit ?_ | refine wSkip ?_); try simp) | ((first | refine wLabel ?_ | refine wOn ?_ | refine wQn ?_); try simp only [thenA_n])
  refine hL _ M (by omega) ⟨k + 1, s3, acc ++ [[I x0, SB x1, SB x2, I x3, B x4, B x5]], by omega, by simp [hac], by rw [hfu]; simp, ?_⟩
  simp [g0, g3, g4, g5, b0, b3, hw, lv, ouN, kpI, kpR, pos, ren, ren0, renB, renC, renCs]
 ·have hend : full = (acc, s2) := by
   rw [hfu]
   by_cases z : s2.1 = 0
   ·obtain rfl : N = 0 := by have : ¬ k < m := fun h => hgo ⟨h, z⟩; omega
    simp [rdL]
   ·obtain ⟨q2, a2⟩ := s2
    rw [rdL_stk _ _ _ _ z]; simp
  rw [hend] at hr
  clear hfu hend
  have f3 : (Av.frz st 3 6 acc).s 3 = .p (.sl 6 acc) := by simp [Av.frz, sub, sub0, g3]
  have f0 : (Av.frz st 3 6 acc).b 1024 = some (.box 119 [.p (.sl 1 (by8 b)), .p (I s2.2), .p (I s2.1)]) := by simp [Av.frz, sub, sub0, subB, b0]
  by_cases hlt : k < m
  ·have hlt' : (k : Int) < (m : Int) := by omega
   have z : (s2.1 = 0) = False := eq_false fun z => hgo ⟨hlt, z⟩
   have f4 : (Av.frz st 3 6 acc).s 4 = .p (I m) := by simp [Av.frz, sub, sub0, g4]
   have f5 : (Av.frz st 3 6 acc).s 5 = .p (I k) := by simp [Av.frz, sub, sub0, g5]
   have f00 : (Av.frz st 3 6 acc).s 0 = .ptr 1024 0 := by simp [Av.frz, sub, sub0, g0]
   repeat' first | (refine wFrzR 3 acc b3 ?_; generalize Av.frz st 3 6 acc = st2 at f3 f0 f4 f5 f00 ⊢) | (refine hK _ ?_; clear hK) | (refine hK _ _ ?_; clear hK) | (clear hK; refine hK _ ?_; clear hK) | (clear hK; clear hK; refine hK _ ?_; clear hK) | (clear hK; clear hK; clear hK; refine hK _ ?_; clear hK) | (clear hK; clear hK; clear hK; clear hK; refine hK _ ?_; clear hK) | (refine wSeq fun K hK => ?_) | ((first | refine wReg ?_ | refine wDrwQ rfl (by kernel_rfl) ?_ | refine wDrwI ?_ | refine wDrw (by kernel_rfl) ?_); simp only [List.map_cons, List.map_nil, strip]) | ((first | refine wIs fun K hK => ?_ | refine wOs fun K hK => ?_ | refine wQs fun K hK => ?_ | refine CallK_plain ?_ | refine CallQ_plain ?_ | refine CallR_plain ?_ | refine wCond ?_); simp [f3, f0, f4, f5, f00, g0, g4, g5, b0, hlt, hlt', z]) | (refine wIn ?_; refine And.intro (by kernel_rfl) ?_; try simp only [thenA_n]) | (first | refine wBlock ?_ | refine wScope ?_) | ((first | refine wRet ?_ | refine wExit ?_ | refine wSkip ?_); try simp) | ((first | refine wLabel ?_ | refine wOn ?_ | refine wQn ?_); try simp only [thenA_n])
   all_goals first | apply hr
   all_goals refine ⟨[], by simp, by simp, ?_⟩
   all_goals simp [Try.f117, outR, outB, renB, gaN, f3, f0]
  ·have hlt' : ¬ (k : Int) < (m : Int) := by omega
   have f4 : (Av.frz st 3 6 acc).s 4 = .p (I m) := by simp [Av.frz, sub, sub0, g4]
   have f5 : (Av.frz st 3 6 acc).s 5 = .p (I k) := by simp [Av.frz, sub, sub0, g5]
   have f00 : (Av.frz st 3 6 acc).s 0 = .ptr 1024 0 := by simp [Av.frz, sub, sub0, g0]
   repeat' first | (refine wFrzR 3 acc b3 ?_; generalize Av.frz st 3 6 acc = st2 at f3 f0 f4 f5 f00 ⊢) | (refine hK _ ?_; clear hK) | (refine hK _ _ ?_; clear hK) | (clear hK; refine hK _ ?_; clear hK) | (clear hK; clear hK; refine hK _ ?_; clear hK) | (clear hK; clear hK; clear hK; refine hK _ ?_; clear hK) | (clear hK; clear hK; clear hK; clear hK; refine hK _ ?_; clear hK) | (refine wSeq fun K hK => ?_) | ((first | refine wReg ?_ | refine wDrwQ rfl (by kernel_rfl) ?_ | refine wDrwI ?_ | refine wDrw (by kernel_rfl) ?_); simp only [List.map_cons, List.map_nil, strip]) | ((first | refine wIs fun K hK => ?_ | refine wOs fun K hK => ?_ | refine wQs fun K hK => ?_ | refine CallK_plain ?_ | refine CallQ_plain ?_ | refine CallR_plain ?_ | refine wCond ?_); simp [f3, f0, f4, f5, f00, g0, g4, g5, b0, hlt, hlt']) | (refine wIn ?_; refine And.intro (by kernel_rfl) ?_; try simp only [thenA_n]) | (first | refine wBlock ?_ | refine wScope ?_) | ((first | refine wRet ?_ | refine wExit ?_ | refine wSkip ?_); try simp) | ((first | refine wLabel ?_ | refine wOn ?_ | refine wQn ?_); try simp only [thenA_n])
   all_goals first | apply hr
   all_goals refine ⟨[], by simp, by simp, ?_⟩
   all_goals simp [Try.f117, outR, outB, renB, gaN, f3, f0]
set_option maxHeartbeats 4000000 in
theorem iRq : IRn 73 fRq := by
 intro b st hb
 have c0 := inum b st hb
 obtain ⟨x0, s0, e0⟩ := foI_got b st
 rw [e0] at c0
 simp only [vOf1, vOf2] at c0
 have c1 := inum b s0 hb
 obtain ⟨x1, s1, e1⟩ := foI_got b s0
 rw [e1] at c1
 simp only [vOf1, vOf2] at c1
 have c2 := inum b s1 hb
 obtain ⟨x2, s2, e2⟩ := foI_got b s1
 rw [e2] at c2
 simp only [vOf1, vOf2] at c2
 have c3 := ilOp b s2 hb
 obtain ⟨x3, s3, e3⟩ := fl_got 6 fOp b s2
 rw [e3] at c3
 simp only [vOf1, vOf2] at c3
 have c4 := inum b s3 hb
 obtain ⟨x4, s4, e4⟩ := foI_got b s3
 rw [e4] at c4
 simp only [vOf1, vOf2] at c4
 have c5 := ilMb b s4 hb
 obtain ⟨x5, s5, e5⟩ := fl_got 4 fMb b s4
 rw [e5] at c5
 simp only [vOf1, vOf2] at c5
 have c6 := ilI b s5 hb
 obtain ⟨x6, s6, e6⟩ := fl_got 1 foI b s5
 rw [e6] at c6
 simp only [vOf1, vOf2] at c6
 have c7 := iZx b s6 hb
 obtain ⟨x7, x8, s7, e7⟩ := fZx_got b s6
 rw [e7] at c7
 simp only [vOf1, vOf2] at c7
 have hz : fRq.rd b st = ([I x0, I x1, I x2, .sl 6 x3, I x4, .sl 4 x5, .sl 1 x6, I x7, I x8], s7) := by simp only [fRq, sq_rd, e0, e1, e2, e3, e4, e5, e6, e7, List.cons_append, List.nil_append]
 rw [hz]
 clear e0 e1 e2 e3 e4 e5 e6 e7 hz
 simp only [vOf2]
 refine wBodyG Try.tab Try.mixed Try.func73 rfl rfl Try.ntmps73 (by simp) (by simp) fun Q hr hn hp => ?_
 repeat' first | (refine CallK_gen [1024] c0 (by decide) (by decide) (by simp [blksOf, inN, pos, renB, ren0, ouN, lv, kpI, kpR]) (by simp [argsG, argG, ren0, inN, pos, renCs, renC]) ⟨[], by simp, by simp, ?_⟩; simp [lv, ouN, kpI, kpR, pos, ren, ren0, renB, renC, renCs]; clear c0) | (refine CallK_gen [1024] c1 (by decide) (by decide) (by simp [blksOf, inN, pos, renB, ren0, ouN, lv, kpI, kpR]) (by simp [argsG, argG, ren0, inN, pos, renCs, renC]) ⟨[], by simp, by simp, ?_⟩; simp [lv, ouN, kpI, kpR, pos, ren, ren0, renB, renC, renCs]; clear c1) | (refine CallK_gen [1024] c2 (by decide) (by decide) (by simp [blksOf, inN, pos, renB, ren0, ouN, lv, kpI, kpR]) (by simp [argsG, argG, ren0, inN, pos, renCs, renC]) ⟨[], by simp, by simp, ?_⟩; simp [lv, ouN, kpI, kpR, pos, ren, ren0, renB, renC, renCs]; clear c2) | (refine CallK_gen [1024] c3 (by decide) (by decide) (by simp [blksOf, inN, pos, renB, ren0, ouN, lv, kpI, kpR]) (by simp [argsG, argG, ren0, inN, pos, renCs, renC]) ⟨[], by simp, by simp, ?_⟩; simp [lv, ouN, kpI, kpR, pos, ren, ren0, renB, renC, renCs]; clear c3) | (refine CallK_gen [1024] c4 (by decide) (by decide) (by simp [blksOf, inN, pos, renB, ren0, ouN, lv, kpI, kpR]) (by simp [argsG, argG, ren0, inN, pos, renCs, renC]) ⟨[], by simp, by simp, ?_⟩; simp [lv, ouN, kpI, kpR, pos, ren, ren0, renB, renC, renCs]; clear c4) | (refine CallK_gen [1024] c5 (by decide) (by decide) (by simp [blksOf, inN, pos, renB, ren0, ouN, lv, kpI, kpR]) (by simp [argsG, argG, ren0, inN, pos, renCs, renC]) ⟨[], by simp, by simp, ?_⟩; simp [lv, ouN, kpI, kpR, pos, ren, ren0, renB, renC, renCs]; clear c5) | (refine CallK_gen [1024] c6 (by decide) (by decide) (by simp [blksOf, inN, pos, renB, ren0, ouN, lv, kpI, kpR]) (by simp [argsG, argG, ren0, inN, pos, renCs, renC]) ⟨[], by simp, by simp, ?_⟩; simp [lv, ouN, kpI, kpR, pos, ren, ren0, renB, renC, renCs]; clear c6) | (refine CallK_gen [1024] c7 (by decide) (by decide) (by simp [blksOf, inN, pos, renB, ren0, ouN, lv, kpI, kpR]) (by simp [argsG, argG, ren0, inN, pos, renCs, renC]) ⟨[], by simp, by simp, ?_⟩; simp [lv, ouN, kpI, kpR, pos, ren, ren0, renB, renC, renCs]; clear c7) | (refine hK _ ?_; clear hK) | (refine hK _ _ ?_; clear hK) | (clear hK; refine hK _ ?_; clear hK) | (clear hK; clear hK; refine hK _ ?_; clear hK) | (clear hK; clear hK; clear hK; refine hK _ ?_; clear hK) | (clear hK; clear hK; clear hK; clear hK; refine hK _ ?_; clear hK) | (refine wSeq fun K hK => ?_) | ((first | refine wReg ?_ | refine wDrwQ rfl (by kernel_rfl) ?_ | refine wDrwI ?_ | refine wDrw (by kernel_rfl) ?_); simp only [List.map_cons, List.map_nil, strip]) | ((first | refine wIs fun K hK => ?_ | refine wOs fun K hK => ?_ | refine wQs fun K hK => ?_ | refine CallK_plain ?_ | refine CallQ_plain ?_ | refine CallR_plain ?_ | refine wCond ?_); simp [lv, ouN, kpI, kpR, pos, ren, ren0, renB, renC, renCs]) | (refine wIn ?_; refine And.intro (by kernel_rfl) ?_; try simp only [thenA_n]) | (first | refine wBlock ?_ | refine wScope ?_) | ((first | refine wRet ?_ | refine wExit ?_ | refine wSkip ?_); try simp) | ((first | refine wLabel ?_ | refine wOn ?_ | refine wQn ?_); try simp only [thenA_n])
 all_goals first | apply hr
 all_goals refine ⟨[], by simp, by simp, ?_⟩
 all_goals simp [Try.f73, outR, outB, renB, gaN, lv, ouN, kpI, kpR, pos, ren, ren0, renC, renCs]
set_option maxHeartbeats 8000000 in
theorem ilZx : IRn 122 (fl 2 fZx) := by
 intro b st hb
 have c0 := icount b st hb
 have hL : (fl 2 fZx).rd b st = ([.sl 2 (rdL fZx.rd b (rdC b st).1.toNat (rdC b st).2).1], (rdL fZx.rd b (rdC b st).1.toNat (rdC b st).2).2) := rfl
 have hbd := rdC_bd b st
 rw [hL, vOf1]
 generalize rdC b st = r at *
 obtain ⟨n, s0⟩ := r
 simp only at *
 obtain ⟨m, rfl⟩ : ∃ m : Nat, n = m := ⟨n.toNat, by omega⟩
 simp only [Int.toNat_natCast]
 clear hL
 refine wBodyG Try.tab Try.mixed Try.func122 rfl rfl Try.ntmps122 (by simp) (by simp) fun Q hr hn hp => ?_
 repeat' first | (refine CallK_gen [1024] c0 (by decide) (by decide) (by simp [blksOf, inN, pos, renB, ren0, ouN, lv, kpI, kpR]) (by simp [argsG, argG, ren0, inN, pos, renCs, renC]) ⟨[], by simp, by simp, ?_⟩; simp [lv, ouN, kpI, kpR, pos, ren, ren0, renB, renC, renCs]) | (refine hK _ ?_; clear hK) | (refine hK _ _ ?_; clear hK) | (clear hK; refine hK _ ?_; clear hK) | (clear hK; clear hK; refine hK _ ?_; clear hK) | (clear hK; clear hK; clear hK; refine hK _ ?_; clear hK) | (clear hK; clear hK; clear hK; clear hK; refine hK _ ?_; clear hK) | (refine wSeq fun K hK => ?_) | ((first | refine wReg ?_ | refine wDrwQ rfl (by kernel_rfl) ?_ | refine wDrwI ?_ | refine wDrw (by kernel_rfl) ?_); simp only [List.map_cons, List.map_nil, strip]) | ((first | refine wIs fun K hK => ?_ | refine wOs fun K hK => ?_ | refine wQs fun K hK => ?_ | refine CallK_plain ?_ | refine CallQ_plain ?_ | refine CallR_plain ?_ | refine wCond ?_); simp [lv, ouN, kpI, kpR, pos, ren, ren0, renB, renC, renCs]) | (refine wIn ?_; refine And.intro (by kernel_rfl) ?_; try simp only [thenA_n]) | (first | refine wBlock ?_ | refine wScope ?_) | ((first | refine wRet ?_ | refine wExit ?_ | refine wSkip ?_); try simp) | ((first | refine wLabel ?_ | refine wOn ?_ | refine wQn ?_); try simp only [thenA_n])
 generalize hF : rdL fZx.rd b m s0 = full at *
 refine wLoopG [.row 3 24 2] (fun N st => ∃ k s2 acc, k + N = m /\ acc.length = k /\ full = (acc ++ (rdL fZx.rd b N s2).1, (rdL fZx.rd b N s2).2) /\ st.s 0 = .ptr 1024 0 /\ st.s 3 = .row 3 /\ st.s 4 = .p (I m) /\ st.s 5 = .p (I k) /\ st.b 1024 = some (.box 119 [.p (.sl 1 (by8 b)), .p (I s2.2), .p (I s2.1)]) /\ st.b 3 = some (.row 24 2 acc)) m ⟨0, s0, [], by simp [hF, lv, ouN, kpI, kpR, pos, ren, ren0, renB, renC, renCs]⟩ fun K N st hL ⟨k, s2, acc, hk, hac, hfu, g0, g3, g4, g5, b0, b3⟩ => ?_
 by_cases hgo : k < m /\ s2.1 = 0
 ·obtain ⟨hlt, z⟩ := hgo
  have hlt' : (k : Int) < (m : Int) := by omega
  have hw := wrapS k m hlt (by omega)
  obtain ⟨M, rfl⟩ : ∃ M, N = M + 1 := ⟨N - 1, by omega⟩
  rw [rdL, if_pos z] at hfu
  have c := iZx b s2 hb
  obtain ⟨x0, x1, s3, he⟩ := fZx_got b s2
  rw [he] at c hfu
  try simp only [vOf1, vOf2] at c
  simp only at hfu
  obtain ⟨q2, a2⟩ := s2
  simp only at z
  subst z
  simp only at b0
  repeat' first | (refine CallK_gen [1024] c (by decide) (by decide) (by simp [blksOf, inN, pos, renB, ren0, b0]) (by simp [argsG, argG, ren0, inN, pos, renCs, renC]) ⟨[], by simp, by simp, ?_⟩; simp [lv, ouN, kpI, kpR, pos, ren, ren0, renB, renC, renCs, b0]) | (refine And.intro (by omega) ?_) | (refine hK _ ?_; clear hK) | (refine hK _ _ ?_; clear hK) | (clear hK; refine hK _ ?_; clear hK) | (clear hK; clear hK; refine hK _ ?_; clear hK) | (clear hK; clear hK; clear hK; refine hK _ ?_; clear hK) | (clear hK; clear hK; clear hK; clear hK; refine hK _ ?_; clear hK) | (refine wSeq fun K hK => ?_) | ((first | refine wReg ?_ | refine wDrwQ rfl (by kernel_rfl) ?_ | refine wDrwI ?_ | refine wDrw (by kernel_rfl) ?_); simp only [List.map_cons, List.map_nil, strip]) | ((first | refine wIs fun K hK => ?_ | refine wOs fun K hK => ?_ | refine wQs fun K hK => ?_ | refine CallK_plain ?_ | refine CallQ_plain ?_ | refine CallR_plain ?_ | refine wCond ?_); simp [g0, g3, g4, g5, b0, b3, hlt, hlt', hw, lv, ouN, kpI, kpR, pos, ren, ren0, renB, renC, renCs]) | (refine wIn ?_; refine And.intro (by kernel_rfl) ?_; try simp only [thenA_n]) | (first | refine wBlock ?_ | refine wScope ?_) | ((first | refine wRet ?_ | refine wExit ?_ | refine wSkip ?_); try simp) | ((first | refine wLabel ?_ | refine wOn ?_ | refine wQn ?_); try simp only [thenA_n])
  refine hL _ M (by omega) ⟨k + 1, s3, acc ++ [[I x0, I x1]], by omega, by simp [hac], by rw [hfu]; simp, ?_⟩
  simp [g0, g3, g4, g5, b0, b3, hw, lv, ouN, kpI, kpR, pos, ren, ren0, renB, renC, renCs]
 ·have hend : full = (acc, s2) := by
   rw [hfu]
   by_cases z : s2.1 = 0
   ·obtain rfl : N = 0 := by have : ¬ k < m := fun h => hgo ⟨h, z⟩; omega
    simp [rdL]
   ·obtain ⟨q2, a2⟩ := s2
    rw [rdL_stk _ _ _ _ z]; simp
  rw [hend] at hr
  clear hfu hend
  have f3 : (Av.frz st 3 2 acc).s 3 = .p (.sl 2 acc) := by simp [Av.frz, sub, sub0, g3]
  have f0 : (Av.frz st 3 2 acc).b 1024 = some (.box 119 [.p (.sl 1 (by8 b)), .p (I s2.2), .p (I s2.1)]) := by simp [Av.frz, sub, sub0, subB, b0]
  by_cases hlt : k < m
  ·have hlt' : (k : Int) < (m : Int) := by omega
   have z : (s2.1 = 0) = False := eq_false fun z => hgo ⟨hlt, z⟩
   have f4 : (Av.frz st 3 2 acc).s 4 = .p (I m) := by simp [Av.frz, sub, sub0, g4]
   have f5 : (Av.frz st 3 2 acc).s 5 = .p (I k) := by simp [Av.frz, sub, sub0, g5]
   have f00 : (Av.frz st 3 2 acc).s 0 = .ptr 1024 0 := by simp [Av.frz, sub, sub0, g0]
   repeat' first | (refine wFrzR 3 acc b3 ?_; generalize Av.frz st 3 2 acc = st2 at f3 f0 f4 f5 f00 ⊢) | (refine hK _ ?_; clear hK) | (refine hK _ _ ?_; clear hK) | (clear hK; refine hK _ ?_; clear hK) | (clear hK; clear hK; refine hK _ ?_; clear hK) | (clear hK; clear hK; clear hK; refine hK _ ?_; clear hK) | (clear hK; clear hK; clear hK; clear hK; refine hK _ ?_; clear hK) | (refine wSeq fun K hK => ?_) | ((first | refine wReg ?_ | refine wDrwQ rfl (by kernel_rfl) ?_ | refine wDrwI ?_ | refine wDrw (by kernel_rfl) ?_); simp only [List.map_cons, List.map_nil, strip]) | ((first | refine wIs fun K hK => ?_ | refine wOs fun K hK => ?_ | refine wQs fun K hK => ?_ | refine CallK_plain ?_ | refine CallQ_plain ?_ | refine CallR_plain ?_ | refine wCond ?_); simp [f3, f0, f4, f5, f00, g0, g4, g5, b0, hlt, hlt', z]) | (refine wIn ?_; refine And.intro (by kernel_rfl) ?_; try simp only [thenA_n]) | (first | refine wBlock ?_ | refine wScope ?_) | ((first | refine wRet ?_ | refine wExit ?_ | refine wSkip ?_); try simp) | ((first | refine wLabel ?_ | refine wOn ?_ | refine wQn ?_); try simp only [thenA_n])
   all_goals first | apply hr
   all_goals refine ⟨[], by simp, by simp, ?_⟩
   all_goals simp [Try.f122, outR, outB, renB, gaN, f3, f0]
  ·have hlt' : ¬ (k : Int) < (m : Int) := by omega
   have f4 : (Av.frz st 3 2 acc).s 4 = .p (I m) := by simp [Av.frz, sub, sub0, g4]
   have f5 : (Av.frz st 3 2 acc).s 5 = .p (I k) := by simp [Av.frz, sub, sub0, g5]
   have f00 : (Av.frz st 3 2 acc).s 0 = .ptr 1024 0 := by simp [Av.frz, sub, sub0, g0]
   repeat' first | (refine wFrzR 3 acc b3 ?_; generalize Av.frz st 3 2 acc = st2 at f3 f0 f4 f5 f00 ⊢) | (refine hK _ ?_; clear hK) | (refine hK _ _ ?_; clear hK) | (clear hK; refine hK _ ?_; clear hK) | (clear hK; clear hK; refine hK _ ?_; clear hK) | (clear hK; clear hK; clear hK; refine hK _ ?_; clear hK) | (clear hK; clear hK; clear hK; clear hK; refine hK _ ?_; clear hK) | (refine wSeq fun K hK => ?_) | ((first | refine wReg ?_ | refine wDrwQ rfl (by kernel_rfl) ?_ | refine wDrwI ?_ | refine wDrw (by kernel_rfl) ?_); simp only [List.map_cons, List.map_nil, strip]) | ((first | refine wIs fun K hK => ?_ | refine wOs fun K hK => ?_ | refine wQs fun K hK => ?_ | refine CallK_plain ?_ | refine CallQ_plain ?_ | refine CallR_plain ?_ | refine wCond ?_); simp [f3, f0, f4, f5, f00, g0, g4, g5, b0, hlt, hlt']) | (refine wIn ?_; refine And.intro (by kernel_rfl) ?_; try simp only [thenA_n]) | (first | refine wBlock ?_ | refine wScope ?_) | ((first | refine wRet ?_ | refine wExit ?_ | refine wSkip ?_); try simp) | ((first | refine wLabel ?_ | refine wOn ?_ | refine wQn ?_); try simp only [thenA_n])
   all_goals first | apply hr
   all_goals refine ⟨[], by simp, by simp, ?_⟩
   all_goals simp [Try.f122, outR, outB, renB, gaN, f3, f0]
set_option maxHeartbeats 4000000 in
theorem read12Rq (b : List UInt8) (a : Int) (hb : b.length <= 1000000000) : ACon Try.prog 35 [.p (.sl 1 (by8 b)), .p (I a)] (rT fRq b a) := by
 have c := iRq b (0, a) hb
 obtain ⟨x0, x1, x2, x3, x4, x5, x6, x7, x8, ⟨q, k⟩, he⟩ := fRq_got b (0, a)
 unfold rT
 rw [he] at c ⊢
 simp only [vOf2] at c ⊢
 have he0 : ByteArray.empty = bs [] := rfl
 by_cases h : q = 0
 ·subst h
  rw [if_pos rfl]
  clear he
  refine wBody Try.tab Try.mixed Try.func35 rfl rfl Try.ntmps35 (by simp) (by simp) fun Q hr hn => ?_
  repeat' first | (refine CallK_gen [12] (c) (by decide) (by decide) (by simp [blksOf, inN, pos, renB, renC, renCs, ren0, lv, ouN, kpI, kpR]) (by simp [argsG, argG, ren0, inN, pos, renCs, renC]) ⟨[], by simp, by simp, ?_⟩; simp [lv, ouN, kpI, kpR, pos, ren, ren0, renB, renC, renCs, renF, renFs]) | (refine hK _ ?_; clear hK) | (refine hK _ _ ?_; clear hK) | (clear hK; refine hK _ ?_; clear hK) | (clear hK; clear hK; refine hK _ ?_; clear hK) | (clear hK; clear hK; clear hK; refine hK _ ?_; clear hK) | (clear hK; clear hK; clear hK; clear hK; refine hK _ ?_; clear hK) | (refine wSeq fun K hK => ?_) | ((first | refine wReg ?_ | refine wDrwQ rfl (by kernel_rfl) ?_ | refine wDrwI ?_ | refine wDrw (by kernel_rfl) ?_); simp only [List.map_cons, List.map_nil, strip]) | ((first | refine wIs fun K hK => ?_ | refine wOs fun K hK => ?_ | refine wQs fun K hK => ?_ | refine CallK_plain ?_ | refine CallQ_plain ?_ | refine CallR_plain ?_ | refine wCond ?_); simp [lv, ouN, kpI, kpR, pos, ren, ren0, renB, renC, renCs]) | (refine wIn ?_; refine And.intro (by kernel_rfl) ?_; try simp only [thenA_n]) | (first | refine wBlock ?_ | refine wScope ?_) | ((first | refine wRet ?_ | refine wExit ?_ | refine wSkip ?_); try simp) | ((first | refine wLabel ?_ | refine wOn ?_ | refine wQn ?_); try simp only [thenA_n])
  all_goals apply hr
  all_goals simp [Try.f35]
 ·rw [if_neg h, show fRq.ze = [I 0, I 0, I 0, .sl 6 [], I 0, .sl 4 [], .sl 1 [], I 0, I 0] from rfl]
  clear he
  simp only [vOf2]
  refine wBody Try.tab Try.mixed Try.func35 rfl rfl Try.ntmps35 (by simp) (by simp) fun Q hr hn => ?_
  repeat' first | (refine CallK_gen [12] (c) (by decide) (by decide) (by simp [blksOf, inN, pos, renB, renC, renCs, ren0, lv, ouN, kpI, kpR]) (by simp [argsG, argG, ren0, inN, pos, renCs, renC]) ⟨[], by simp, by simp, ?_⟩; simp [lv, ouN, kpI, kpR, pos, ren, ren0, renB, renC, renCs, renF, renFs]) | (refine hK _ ?_; clear hK) | (refine hK _ _ ?_; clear hK) | (clear hK; refine hK _ ?_; clear hK) | (clear hK; clear hK; refine hK _ ?_; clear hK) | (clear hK; clear hK; clear hK; refine hK _ ?_; clear hK) | (clear hK; clear hK; clear hK; clear hK; refine hK _ ?_; clear hK) | (refine wSeq fun K hK => ?_) | ((first | refine wReg ?_ | refine wDrwQ rfl (by kernel_rfl) ?_ | refine wDrwI ?_ | refine wDrw (by kernel_rfl) ?_); simp only [List.map_cons, List.map_nil, strip]) | ((first | refine wIs fun K hK => ?_ | refine wOs fun K hK => ?_ | refine wQs fun K hK => ?_ | refine CallK_plain ?_ | refine CallQ_plain ?_ | refine CallR_plain ?_ | refine wCond ?_); simp [h, lv, ouN, kpI, kpR, pos, ren, ren0, renB, renC, renCs]) | (refine wIn ?_; refine And.intro (by kernel_rfl) ?_; try simp only [thenA_n]) | (first | refine wBlock ?_ | refine wScope ?_) | ((first | refine wRet ?_ | refine wExit ?_ | refine wSkip ?_); try simp) | ((first | refine wLabel ?_ | refine wOn ?_ | refine wQn ?_); try simp only [thenA_n])
  all_goals apply hr
  all_goals simp [Try.f35, he0]
theorem rT_open {f : Fo} (hf : FoL f) (b : List UInt8) (a : Int) : ∃ cs k e, f.ok cs /\ rT f b a = .tup [vOf cs, .p (I k), .p (I e)] /\ ((f.en cs).length <= b.length \/ (f.en cs).length <= f.sz f.ze) /\ (e = 0 -> 0 <= a /\ a <= k /\ k <= b.length /\ b.take a.toNat ++ f.en cs = b.take k.toNat) := by
 unfold rT
 obtain ⟨cs, e, k, h⟩ : ∃ cs e k, f.rd b (0, a) = (cs, e, k) := ⟨_, _, _, rfl⟩
 have hok := hf.rok b (0, a)
 rw [h] at hok ⊢
 simp only at hok ⊢
 by_cases h0 : e = 0
 ·subst h0
  rw [if_pos rfl]
  have ht := hf.took b a cs k h
  refine ⟨cs, k, 0, hok, rfl, .inl ?_, fun _ => ht⟩
  have := congrArg List.length ht.2.2.2
  rw [List.length_append, List.length_take, List.length_take] at this
  omega
 ·rw [if_neg h0]
  exact ⟨f.ze, 0, e, hf.zok, rfl, .inr (hf.szl _ hf.zok), fun h => absurd h h0⟩
end Go.Proofs.Ytleejpddecjhcaa
