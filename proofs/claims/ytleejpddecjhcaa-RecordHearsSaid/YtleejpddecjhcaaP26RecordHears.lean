/- Texts that the proof needs: RG6d RG8a RG7. -/
import Derived.Test.YtleejpddecjhcaaP24RecordHears
import Derived.Test.YtleejpddecjhcaaP25RecordHears
import Derived.Test.YtleejpddecjhcaaP20RecordHears
namespace Go.Proofs.Ytleejpddecjhcaa
set_option linter.unusedSimpArgs false
set_option linter.unusedVariables false
set_option maxRecDepth 8000
open Go Go.Av
attribute [local irreducible] Go.Av.CallK Go.Av.CallE Go.Av.CallQ Go.Av.CallF Go.Av.CallR Go.Av.CallH Go.Av.Con
set_option maxHeartbeats 8000000 in
theorem rlNd (b : List UInt8) (a : Int) (hb : b.length <= 1000000000) : Con Try.prog 109 [.ptr 1024 0, .p (.v (.func (.func 110) #[] #[]))] (rB b a) (rO b (vOf ((fl 5 fNd).rd b (0, a)).1) ((fl 5 fNd).rd b (0, a)).2) := by
 generalize ho : rO b (vOf ((fl 5 fNd).rd b (0, a)).1) ((fl 5 fNd).rd b (0, a)).2 = out
 have c0 := rnum b a hb
 obtain ⟨Y, hY⟩ : ∃ Y, Y = rdC b (0, a) := ⟨_, rfl⟩
 have hC := hY
 unfold rdC at hC
 change Con _ _ _ _ (rO b (.p (I (rdN b (0, a)).1)) (rdN b (0, a)).2) at c0
 obtain ⟨n, q, a1, hN⟩ : ∃ n q a1, rdN b (0, a) = (n, q, a1) := ⟨_, _, _, rfl⟩
 rw [hN] at c0 hC
 simp only at c0 hC
 have hL : (fl 5 fNd).rd b (0, a) = ([.sl 5 (rdL fNd.rd b (rdC b (0, a)).1.toNat (rdC b (0, a)).2).1], (rdL fNd.rd b (rdC b (0, a)).1.toNat (rdC b (0, a)).2).2) := rfl
 rw [hL, <- hY, hC] at ho
 clear hL hC hY
 refine wBodyG Try.tab Try.mixed Try.func109 rfl rfl Try.ntmps109 (by simp) (by simp) fun Q hr hn hp => ?_
 repeat' first | (refine hK _ ?_; clear hK) | (refine hK _ _ ?_; clear hK) | (clear hK; refine hK _ ?_; clear hK) | (clear hK; clear hK; refine hK _ ?_; clear hK) | (clear hK; clear hK; clear hK; refine hK _ ?_; clear hK) | (clear hK; clear hK; clear hK; clear hK; refine hK _ ?_; clear hK) | (refine wSeq fun K hK => ?_) | ((first | refine wReg ?_ | refine wDrwQ rfl (by kernel_rfl) ?_ | refine wDrwI ?_ | refine wDrw (by kernel_rfl) ?_); simp only [List.map_cons, List.map_nil, strip]) | ((first | refine wIs fun K hK => ?_ | refine wOs fun K hK => ?_ | refine wQs fun K hK => ?_ | refine CallQ_plain ?_ | refine CallR_plain ?_ | refine wCond ?_); simp) | (refine wIn ?_; refine And.intro (by kernel_rfl) ?_; try simp only [thenA_n]) | (first | refine wBlock ?_ | refine wScope ?_) | ((first | refine wRet ?_ | refine wExit ?_ | refine wSkip ?_); try simp) | ((first | refine wLabel ?_ | refine wOn ?_ | refine wQn ?_); try simp only [thenA_n])
 by_cases hq : q = 0
 rotate_left
 ·rw [if_pos hq] at ho
  simp only [rdL_stk _ _ _ _ hq] at ho
  rw [rO_err _ _ _ hq] at ho c0
  subst ho
  refine CallK_gen [1024] c0 (by decide) (by decide) (by simp [blksOf, inN, pos, renB, ren0, ouN, lv, kpI, kpR]) (by simp [argsG, argG, ren0, inN, pos, renCs, renC]) ?_
  simp [GenK, lv, ouN, kpI, kpR, pos, ren, ren0, renB, renC, renCs]
  all_goals try simp only [thenA_p, blockA_p]
  all_goals apply hp
  all_goals simp [AResP, outB, renB, gaN, lv, ouN, kpI, kpR, pos, ren, ren0, renC, renCs]
 subst hq
 rw [if_neg (by simp)] at ho
 rw [rO_ok] at c0
 refine CallK_gen [1024] c0 (by decide) (by decide) (by simp [blksOf, inN, pos, renB, ren0, ouN, lv, kpI, kpR]) (by simp [argsG, argG, ren0, inN, pos, renCs, renC]) ⟨[], by simp, by simp, ?_⟩
 simp [lv, ouN, kpI, kpR, pos, ren, ren0, renB, renC, renCs]
 by_cases h1 : n < 0
 ·have e3 := give_con 3 (by decide)
  rw [if_pos h1] at ho
  simp only [rdL_stk fNd.rd b _ (e := 3) a1 (by decide)] at ho
  rw [rO_err _ _ _ (by decide)] at ho
  subst ho
  repeat' first | (refine CallE.pan e3 ?_) | (refine hK _ ?_; clear hK) | (refine hK _ _ ?_; clear hK) | (clear hK; refine hK _ ?_; clear hK) | (clear hK; clear hK; refine hK _ ?_; clear hK) | (clear hK; clear hK; clear hK; refine hK _ ?_; clear hK) | (clear hK; clear hK; clear hK; clear hK; refine hK _ ?_; clear hK) | (refine wSeq fun K hK => ?_) | ((first | refine wReg ?_ | refine wDrwQ rfl (by kernel_rfl) ?_ | refine wDrwI ?_ | refine wDrw (by kernel_rfl) ?_); simp only [List.map_cons, List.map_nil, strip]) | ((first | refine wIs fun K hK => ?_ | refine wOs fun K hK => ?_ | refine wQs fun K hK => ?_ | refine CallK_plain ?_ | refine CallQ_plain ?_ | refine CallR_plain ?_ | refine wCond ?_); simp [h1, lv, ouN, kpI, kpR, pos, ren, ren0, renB, renC, renCs]) | (refine wIn ?_; refine And.intro (by kernel_rfl) ?_; try simp only [thenA_n]) | (first | refine wBlock ?_ | refine wScope ?_) | ((first | refine wRet ?_ | refine wExit ?_ | refine wSkip ?_); try simp) | ((first | refine wLabel ?_ | refine wOn ?_ | refine wQn ?_); try simp only [thenA_n])
  all_goals try simp only [thenA_p, blockA_p]
  all_goals apply hp
  all_goals simp [AResP, outB, renB, gaN, lv, ouN, kpI, kpR, pos, ren, ren0, renC, renCs]
 rw [if_neg h1] at ho
 by_cases h2 : 1000 < n
 ·have e5 := give_con 5 (by decide)
  rw [if_pos h2] at ho
  simp only [rdL_stk fNd.rd b _ (e := 5) a1 (by decide)] at ho
  rw [rO_err _ _ _ (by decide)] at ho
  subst ho
  repeat' first | (refine CallE.pan e5 ?_) | (refine hK _ ?_; clear hK) | (refine hK _ _ ?_; clear hK) | (clear hK; refine hK _ ?_; clear hK) | (clear hK; clear hK; refine hK _ ?_; clear hK) | (clear hK; clear hK; clear hK; refine hK _ ?_; clear hK) | (clear hK; clear hK; clear hK; clear hK; refine hK _ ?_; clear hK) | (refine wSeq fun K hK => ?_) | ((first | refine wReg ?_ | refine wDrwQ rfl (by kernel_rfl) ?_ | refine wDrwI ?_ | refine wDrw (by kernel_rfl) ?_); simp only [List.map_cons, List.map_nil, strip]) | ((first | refine wIs fun K hK => ?_ | refine wOs fun K hK => ?_ | refine wQs fun K hK => ?_ | refine CallK_plain ?_ | refine CallQ_plain ?_ | refine CallR_plain ?_ | refine wCond ?_); simp [h1, h2, lv, ouN, kpI, kpR, pos, ren, ren0, renB, renC, renCs]) | (refine wIn ?_; refine And.intro (by kernel_rfl) ?_; try simp only [thenA_n]) | (first | refine wBlock ?_ | refine wScope ?_) | ((first | refine wRet ?_ | refine wExit ?_ | refine wSkip ?_); try simp) | ((first | refine wLabel ?_ | refine wOn ?_ | refine wQn ?_); try simp only [thenA_n])
  all_goals try simp only [thenA_p, blockA_p]
  all_goals apply hp
  all_goals simp [AResP, outB, renB, gaN, lv, ouN, kpI, kpR, pos, ren, ren0, renC, renCs]
 rw [if_neg h2] at ho
 simp only at ho
 obtain ⟨m, rfl⟩ : ∃ m : Nat, n = m := ⟨n.toNat, by omega⟩
 simp only [Int.toNat_natCast] at ho
 have hm : m <= 1000 := by omega
 repeat' first | (refine hK _ ?_; clear hK) | (refine hK _ _ ?_; clear hK) | (clear hK; refine hK _ ?_; clear hK) | (clear hK; clear hK; refine hK _ ?_; clear hK) | (clear hK; clear hK; clear hK; refine hK _ ?_; clear hK) | (clear hK; clear hK; clear hK; clear hK; refine hK _ ?_; clear hK) | (refine wSeq fun K hK => ?_) | ((first | refine wReg ?_ | refine wDrwQ rfl (by kernel_rfl) ?_ | refine wDrwI ?_ | refine wDrw (by kernel_rfl) ?_); simp only [List.map_cons, List.map_nil, strip]) | ((first | refine wIs fun K hK => ?_ | refine wOs fun K hK => ?_ | refine wQs fun K hK => ?_ | refine CallQ_plain ?_ | refine CallR_plain ?_ | refine wCond ?_); simp [h1, h2, lv, ouN, kpI, kpR, pos, ren, ren0, renB, renC, renCs]) | (refine wIn ?_; refine And.intro (by kernel_rfl) ?_; try simp only [thenA_n]) | (first | refine wBlock ?_ | refine wScope ?_) | ((first | refine wRet ?_ | refine wExit ?_ | refine wSkip ?_); try simp) | ((first | refine wLabel ?_ | refine wOn ?_ | refine wQn ?_); try simp only [thenA_n])
 generalize hF : rdL fNd.rd b m (0, a1) = full at ho
 refine wLoopG [.row 6 78 5] (fun N st => ∃ k a2 acc, k + N = m /\ acc.length = k /\ full = (acc ++ (rdL fNd.rd b N (0, a2)).1, (rdL fNd.rd b N (0, a2)).2) /\ st.s 0 = .ptr 1024 0 /\ st.s 1 = .p (.v (.func (.func 110) #[] #[])) /\ st.s 6 = .row 6 /\ st.s 17 = .p (I m) /\ st.s 18 = .p (I k) /\ st.b 1024 = some (.box 160 [.p (.sl 1 (by8 b)), .p (I a2)]) /\ st.b 6 = some (.row 78 5 acc)) m ⟨0, a1, [], by simp [hF, lv, ouN, kpI, kpR, pos, ren, ren0, renB, renC, renCs]⟩ fun K N st hL ⟨k, a2, acc, hk, hac, hfu, g0, g1, g6, g17, g18, b0, b6⟩ => ?_
 by_cases hlt : k < m
 ·have hlt' : (k : Int) < (m : Int) := by omega
  have hw := wrapS k m hlt (by omega)
  obtain ⟨M, rfl⟩ : ∃ M, N = M + 1 := ⟨N - 1, by omega⟩
  rw [rdL, if_pos rfl] at hfu
  have c := rNd b a2 hb
  obtain ⟨x0, x1, x2, x3, x4, ⟨q, a3⟩, he⟩ := fNd_got b (0, a2)
  rw [he] at c hfu
  try simp only [vOf1, vOf2] at c
  simp only at hfu
  by_cases z : q = 0
  ·subst z
   rw [rO_ok] at c
   repeat' first | (refine CallK_gen [1024] c (by decide) (by decide) (by simp [blksOf, inN, pos, renB, ren0, b0]) (by simp [argsG, argG, ren0, inN, pos, renCs, renC]) ⟨[], by simp, by simp, ?_⟩; simp [lv, ouN, kpI, kpR, pos, ren, ren0, renB, renC, renCs, b0]) | (refine And.intro (by omega) ?_) | (refine hK _ ?_; clear hK) | (refine hK _ _ ?_; clear hK) | (clear hK; refine hK _ ?_; clear hK) | (clear hK; clear hK; refine hK _ ?_; clear hK) | (clear hK; clear hK; clear hK; refine hK _ ?_; clear hK) | (clear hK; clear hK; clear hK; clear hK; refine hK _ ?_; clear hK) | (refine wSeq fun K hK => ?_) | ((first | refine wReg ?_ | refine wDrwQ rfl (by kernel_rfl) ?_ | refine wDrwI ?_ | refine wDrw (by kernel_rfl) ?_); simp only [List.map_cons, List.map_nil, strip]) | ((first | refine wIs fun K hK => ?_ | refine wOs fun K hK => ?_ | refine wQs fun K hK => ?_ | refine CallK_plain ?_ | refine CallQ_plain ?_ | refine CallR_plain ?_ | refine wCond ?_); simp [g0, g1, g6, g17, g18, b0, b6, hlt, hlt', hw, lv, ouN, kpI, kpR, pos, ren, ren0, renB, renC, renCs]) | (refine wIn ?_; refine And.intro (by kernel_rfl) ?_; try simp only [thenA_n]) | (first | refine wBlock ?_ | refine wScope ?_) | ((first | refine wRet ?_ | refine wExit ?_ | refine wSkip ?_); try simp) | ((first | refine wLabel ?_ | refine wOn ?_ | refine wQn ?_); try simp only [thenA_n])
   refine hL _ M (by omega) ⟨k + 1, a3, acc ++ [[SB x0, SB x1, I x2, I x3, I x4]], by omega, by simp [hac], by rw [hfu]; simp, ?_⟩
   simp [g0, g1, g6, g17, g18, b0, b6, hw, lv, ouN, kpI, kpR, pos, ren, ren0, renB, renC, renCs]
  ·rw [rdL_stk _ _ _ _ z] at hfu
   simp only at hfu
   rw [hfu, rO_err _ _ _ z] at ho
   rw [rO_err _ _ _ z] at c
   subst ho
   repeat' first | (refine CallK_gen [1024] c (by decide) (by decide) (by simp [blksOf, inN, pos, renB, ren0, b0]) (by simp [argsG, argG, ren0, inN, pos, renCs, renC]) ?_; simp [GenK, lv, ouN, kpI, kpR, pos, ren, ren0, renB, renC, renCs, b0]) | (refine hK _ ?_; clear hK) | (refine hK _ _ ?_; clear hK) | (clear hK; refine hK _ ?_; clear hK) | (clear hK; clear hK; refine hK _ ?_; clear hK) | (clear hK; clear hK; clear hK; refine hK _ ?_; clear hK) | (clear hK; clear hK; clear hK; clear hK; refine hK _ ?_; clear hK) | (refine wSeq fun K hK => ?_) | ((first | refine wReg ?_ | refine wDrwQ rfl (by kernel_rfl) ?_ | refine wDrwI ?_ | refine wDrw (by kernel_rfl) ?_); simp only [List.map_cons, List.map_nil, strip]) | ((first | refine wIs fun K hK => ?_ | refine wOs fun K hK => ?_ | refine wQs fun K hK => ?_ | refine CallK_plain ?_ | refine CallQ_plain ?_ | refine CallR_plain ?_ | refine wCond ?_); simp [g0, g1, g6, g17, g18, b0, b6, hlt, hlt', hw, lv, ouN, kpI, kpR, pos, ren, ren0, renB, renC, renCs]) | (refine wIn ?_; refine And.intro (by kernel_rfl) ?_; try simp only [thenA_n]) | (first | refine wBlock ?_ | refine wScope ?_) | ((first | refine wRet ?_ | refine wExit ?_ | refine wSkip ?_); try simp) | ((first | refine wLabel ?_ | refine wOn ?_ | refine wQn ?_); try simp only [thenA_n])
   all_goals try simp only [thenA_p, blockA_p]
   all_goals apply hp
   all_goals simp [AResP, outB, renB, gaN, lv, ouN, kpI, kpR, pos, ren, ren0, renC, renCs, b0]
 ·have hlt' : ¬ (k : Int) < (m : Int) := by omega
  obtain rfl : N = 0 := by omega
  simp only [rdL, List.append_nil] at hfu
  rw [hfu, rO_ok, vOf1] at ho
  subst ho
  have f6 : (Av.frz st 6 5 acc).s 6 = .p (.sl 5 acc) := by simp [Av.frz, sub, sub0, g6]
  have f18 : (Av.frz st 6 5 acc).s 18 = .p (I k) := by simp [Av.frz, sub, sub0, g18]
  have f17 : (Av.frz st 6 5 acc).s 17 = .p (I m) := by simp [Av.frz, sub, sub0, g17]
  have f0 : (Av.frz st 6 5 acc).b 1024 = some (.box 160 [.p (.sl 1 (by8 b)), .p (I a2)]) := by simp [Av.frz, sub, sub0, subB, b0]
  repeat' first | (refine wFrzR 6 acc b6 ?_; generalize Av.frz st 6 5 acc = st2 at f6 f0 f17 f18 ⊢) | (refine hK _ ?_; clear hK) | (refine hK _ _ ?_; clear hK) | (clear hK; refine hK _ ?_; clear hK) | (clear hK; clear hK; refine hK _ ?_; clear hK) | (clear hK; clear hK; clear hK; refine hK _ ?_; clear hK) | (clear hK; clear hK; clear hK; clear hK; refine hK _ ?_; clear hK) | (refine wSeq fun K hK => ?_) | ((first | refine wReg ?_ | refine wDrwQ rfl (by kernel_rfl) ?_ | refine wDrwI ?_ | refine wDrw (by kernel_rfl) ?_); simp only [List.map_cons, List.map_nil, strip]) | ((first | refine wIs fun K hK => ?_ | refine wOs fun K hK => ?_ | refine wQs fun K hK => ?_ | refine CallK_plain ?_ | refine CallQ_plain ?_ | refine CallR_plain ?_ | refine wCond ?_); simp [f6, f0, f17, f18, hlt, hlt']) | (refine wIn ?_; refine And.intro (by kernel_rfl) ?_; try simp only [thenA_n]) | (first | refine wBlock ?_ | refine wScope ?_) | ((first | refine wRet ?_ | refine wExit ?_ | refine wSkip ?_); try simp) | ((first | refine wLabel ?_ | refine wOn ?_ | refine wQn ?_); try simp only [thenA_n])
  all_goals first | apply hr
  all_goals refine ⟨[], by simp, by simp, ?_⟩
  all_goals simp [Try.f109, outR, outB, renB, gaN, f6, f0]
set_option maxHeartbeats 4000000 in
theorem rSt : RCn 67 fSt := by
 intro b a hb
 generalize ho : rO b (vOf (fSt.rd b (0, a)).1) (fSt.rd b (0, a)).2 = out
 have c0 := rlNd b a hb
 refine wBodyG Try.tab Try.mixed Try.func67 rfl rfl Try.ntmps67 (by simp) (by simp) fun Q hr hn hp => ?_
 repeat' first | (refine hK _ ?_; clear hK) | (refine hK _ _ ?_; clear hK) | (clear hK; refine hK _ ?_; clear hK) | (clear hK; clear hK; refine hK _ ?_; clear hK) | (clear hK; clear hK; clear hK; refine hK _ ?_; clear hK) | (clear hK; clear hK; clear hK; clear hK; refine hK _ ?_; clear hK) | (refine wSeq fun K hK => ?_) | ((first | refine wReg ?_ | refine wDrwQ rfl (by kernel_rfl) ?_ | refine wDrwI ?_ | refine wDrw (by kernel_rfl) ?_); simp only [List.map_cons, List.map_nil, strip]) | ((first | refine wIs fun K hK => ?_ | refine wOs fun K hK => ?_ | refine wQs fun K hK => ?_ | refine CallQ_plain ?_ | refine CallR_plain ?_ | refine wCond ?_); simp) | (refine wIn ?_; refine And.intro (by kernel_rfl) ?_; try simp only [thenA_n]) | (first | refine wBlock ?_ | refine wScope ?_) | ((first | refine wRet ?_ | refine wExit ?_ | refine wSkip ?_); try simp) | ((first | refine wLabel ?_ | refine wOn ?_ | refine wQn ?_); try simp only [thenA_n])
 obtain ⟨x0, ⟨q0, a0⟩, e0⟩ := fl_got 5 fNd b (0, a)
 rw [e0] at c0
 simp only [vOf1, vOf2] at c0
 by_cases z0 : q0 = 0
 rotate_left
 ·have hz : (fSt.rd b (0, a)).2 = (q0, a0) := by simp only [fSt, sq_rd, e0, (fl_L foI_L 1).stk b q0 a0 z0, foI_L.stk b q0 a0 z0, fCf_L.stk b q0 a0 z0, fZx_L.stk b q0 a0 z0]
  rw [hz, rO_err _ _ _ z0] at ho
  subst ho
  rw [rO_err _ _ _ z0] at c0
  refine CallK_gen [1024] c0 (by decide) (by decide) (by simp [blksOf, inN, pos, renB, ren0, ouN, lv, kpI, kpR]) (by simp [argsG, argG, ren0, inN, pos, renCs, renC]) ?_
  simp [GenK, lv, ouN, kpI, kpR, pos, ren, ren0, renB, renC, renCs]
  all_goals try simp only [thenA_p, blockA_p]
  all_goals apply hp
  all_goals simp [AResP, outB, renB, gaN, lv, ouN, kpI, kpR, pos, ren, ren0, renC, renCs]
 subst z0
 rw [rO_ok] at c0
 refine CallK_gen [1024] c0 (by decide) (by decide) (by simp [blksOf, inN, pos, renB, ren0, ouN, lv, kpI, kpR]) (by simp [argsG, argG, ren0, inN, pos, renCs, renC]) ⟨[], by simp, by simp, ?_⟩
 simp [lv, ouN, kpI, kpR, pos, ren, ren0, renB, renC, renCs]
 repeat' first | (refine hK _ ?_; clear hK) | (refine hK _ _ ?_; clear hK) | (clear hK; refine hK _ ?_; clear hK) | (clear hK; clear hK; refine hK _ ?_; clear hK) | (clear hK; clear hK; clear hK; refine hK _ ?_; clear hK) | (clear hK; clear hK; clear hK; clear hK; refine hK _ ?_; clear hK) | (refine wSeq fun K hK => ?_) | ((first | refine wReg ?_ | refine wDrwQ rfl (by kernel_rfl) ?_ | refine wDrwI ?_ | refine wDrw (by kernel_rfl) ?_); simp only [List.map_cons, List.map_nil, strip]) | ((first | refine wIs fun K hK => ?_ | refine wOs fun K hK => ?_ | refine wQs fun K hK => ?_ | refine CallQ_plain ?_ | refine CallR_plain ?_ | refine wCond ?_); simp [lv, ouN, kpI, kpR, pos, ren, ren0, renB, renC, renCs]) | (refine wIn ?_; refine And.intro (by kernel_rfl) ?_; try simp only [thenA_n]) | (first | refine wBlock ?_ | refine wScope ?_) | ((first | refine wRet ?_ | refine wExit ?_ | refine wSkip ?_); try simp) | ((first | refine wLabel ?_ | refine wOn ?_ | refine wQn ?_); try simp only [thenA_n])
 have c1 := rlI b a0 hb
 obtain ⟨x1, ⟨q1, a1⟩, e1⟩ := fl_got 1 foI b (0, a0)
 rw [e1] at c1
 simp only [vOf1, vOf2] at c1
 by_cases z1 : q1 = 0
 rotate_left
 ·have hz : (fSt.rd b (0, a)).2 = (q1, a1) := by simp only [fSt, sq_rd, e0, e1, foI_L.stk b q1 a1 z1, fCf_L.stk b q1 a1 z1, fZx_L.stk b q1 a1 z1]
  rw [hz, rO_err _ _ _ z1] at ho
  subst ho
  rw [rO_err _ _ _ z1] at c1
  refine CallK_gen [1024] c1 (by decide) (by decide) (by simp [blksOf, inN, pos, renB, ren0, ouN, lv, kpI, kpR]) (by simp [argsG, argG, ren0, inN, pos, renCs, renC]) ?_
  simp [GenK, lv, ouN, kpI, kpR, pos, ren, ren0, renB, renC, renCs]
  all_goals try simp only [thenA_p, blockA_p]
  all_goals apply hp
  all_goals simp [AResP, outB, renB, gaN, lv, ouN, kpI, kpR, pos, ren, ren0, renC, renCs]
 subst z1
 rw [rO_ok] at c1
 refine CallK_gen [1024] c1 (by decide) (by decide) (by simp [blksOf, inN, pos, renB, ren0, ouN, lv, kpI, kpR]) (by simp [argsG, argG, ren0, inN, pos, renCs, renC]) ⟨[], by simp, by simp, ?_⟩
 simp [lv, ouN, kpI, kpR, pos, ren, ren0, renB, renC, renCs]
 repeat' first | (refine hK _ ?_; clear hK) | (refine hK _ _ ?_; clear hK) | (clear hK; refine hK _ ?_; clear hK) | (clear hK; clear hK; refine hK _ ?_; clear hK) | (clear hK; clear hK; clear hK; refine hK _ ?_; clear hK) | (clear hK; clear hK; clear hK; clear hK; refine hK _ ?_; clear hK) | (refine wSeq fun K hK => ?_) | ((first | refine wReg ?_ | refine wDrwQ rfl (by kernel_rfl) ?_ | refine wDrwI ?_ | refine wDrw (by kernel_rfl) ?_); simp only [List.map_cons, List.map_nil, strip]) | ((first | refine wIs fun K hK => ?_ | refine wOs fun K hK => ?_ | refine wQs fun K hK => ?_ | refine CallQ_plain ?_ | refine CallR_plain ?_ | refine wCond ?_); simp [lv, ouN, kpI, kpR, pos, ren, ren0, renB, renC, renCs]) | (refine wIn ?_; refine And.intro (by kernel_rfl) ?_; try simp only [thenA_n]) | (first | refine wBlock ?_ | refine wScope ?_) | ((first | refine wRet ?_ | refine wExit ?_ | refine wSkip ?_); try simp) | ((first | refine wLabel ?_ | refine wOn ?_ | refine wQn ?_); try simp only [thenA_n])
 have c2 := rnum b a1 hb
 obtain ⟨x2, ⟨q2, a2⟩, e2⟩ := foI_got b (0, a1)
 rw [e2] at c2
 simp only [vOf1, vOf2] at c2
 by_cases z2 : q2 = 0
 rotate_left
 ·have hz : (fSt.rd b (0, a)).2 = (q2, a2) := by simp only [fSt, sq_rd, e0, e1, e2, fCf_L.stk b q2 a2 z2, fZx_L.stk b q2 a2 z2]
  rw [hz, rO_err _ _ _ z2] at ho
  subst ho
  rw [rO_err _ _ _ z2] at c2
  refine CallK_gen [1024] c2 (by decide) (by decide) (by simp [blksOf, inN, pos, renB, ren0, ouN, lv, kpI, kpR]) (by simp [argsG, argG, ren0, inN, pos, renCs, renC]) ?_
  simp [GenK, lv, ouN, kpI, kpR, pos, ren, ren0, renB, renC, renCs]
  all_goals try simp only [thenA_p, blockA_p]
  all_goals apply hp
  all_goals simp [AResP, outB, renB, gaN, lv, ouN, kpI, kpR, pos, ren, ren0, renC, renCs]
 subst z2
 rw [rO_ok] at c2
 refine CallK_gen [1024] c2 (by decide) (by decide) (by simp [blksOf, inN, pos, renB, ren0, ouN, lv, kpI, kpR]) (by simp [argsG, argG, ren0, inN, pos, renCs, renC]) ⟨[], by simp, by simp, ?_⟩
 simp [lv, ouN, kpI, kpR, pos, ren, ren0, renB, renC, renCs]
 repeat' first | (refine hK _ ?_; clear hK) | (refine hK _ _ ?_; clear hK) | (clear hK; refine hK _ ?_; clear hK) | (clear hK; clear hK; refine hK _ ?_; clear hK) | (clear hK; clear hK; clear hK; refine hK _ ?_; clear hK) | (clear hK; clear hK; clear hK; clear hK; refine hK _ ?_; clear hK) | (refine wSeq fun K hK => ?_) | ((first | refine wReg ?_ | refine wDrwQ rfl (by kernel_rfl) ?_ | refine wDrwI ?_ | refine wDrw (by kernel_rfl) ?_); simp only [List.map_cons, List.map_nil, strip]) | ((first | refine wIs fun K hK => ?_ | refine wOs fun K hK => ?_ | refine wQs fun K hK => ?_ | refine CallQ_plain ?_ | refine CallR_plain ?_ | refine wCond ?_); simp [lv, ouN, kpI, kpR, pos, ren, ren0, renB, renC, renCs]) | (refine wIn ?_; refine And.intro (by kernel_rfl) ?_; try simp only [thenA_n]) | (first | refine wBlock ?_ | refine wScope ?_) | ((first | refine wRet ?_ | refine wExit ?_ | refine wSkip ?_); try simp) | ((first | refine wLabel ?_ | refine wOn ?_ | refine wQn ?_); try simp only [thenA_n])
 have c3 := rCf b a2 hb
 obtain ⟨x3, x4, x5, x6, ⟨q3, a3⟩, e3⟩ := fCf_got b (0, a2)
 rw [e3] at c3
 simp only [vOf1, vOf2] at c3
 by_cases z3 : q3 = 0
 rotate_left
 ·have hz : (fSt.rd b (0, a)).2 = (q3, a3) := by simp only [fSt, sq_rd, e0, e1, e2, e3, fZx_L.stk b q3 a3 z3]
  rw [hz, rO_err _ _ _ z3] at ho
  subst ho
  rw [rO_err _ _ _ z3] at c3
  refine CallK_gen [1024] c3 (by decide) (by decide) (by simp [blksOf, inN, pos, renB, ren0, ouN, lv, kpI, kpR]) (by simp [argsG, argG, ren0, inN, pos, renCs, renC]) ?_
  simp [GenK, lv, ouN, kpI, kpR, pos, ren, ren0, renB, renC, renCs]
  all_goals try simp only [thenA_p, blockA_p]
  all_goals apply hp
  all_goals simp [AResP, outB, renB, gaN, lv, ouN, kpI, kpR, pos, ren, ren0, renC, renCs]
 subst z3
 rw [rO_ok] at c3
 refine CallK_gen [1024] c3 (by decide) (by decide) (by simp [blksOf, inN, pos, renB, ren0, ouN, lv, kpI, kpR]) (by simp [argsG, argG, ren0, inN, pos, renCs, renC]) ⟨[], by simp, by simp, ?_⟩
 simp [lv, ouN, kpI, kpR, pos, ren, ren0, renB, renC, renCs]
 repeat' first | (refine hK _ ?_; clear hK) | (refine hK _ _ ?_; clear hK) | (clear hK; refine hK _ ?_; clear hK) | (clear hK; clear hK; refine hK _ ?_; clear hK) | (clear hK; clear hK; clear hK; refine hK _ ?_; clear hK) | (clear hK; clear hK; clear hK; clear hK; refine hK _ ?_; clear hK) | (refine wSeq fun K hK => ?_) | ((first | refine wReg ?_ | refine wDrwQ rfl (by kernel_rfl) ?_ | refine wDrwI ?_ | refine wDrw (by kernel_rfl) ?_); simp only [List.map_cons, List.map_nil, strip]) | ((first | refine wIs fun K hK => ?_ | refine wOs fun K hK => ?_ | refine wQs fun K hK => ?_ | refine CallQ_plain ?_ | refine CallR_plain ?_ | refine wCond ?_); simp [lv, ouN, kpI, kpR, pos, ren, ren0, renB, renC, renCs]) | (refine wIn ?_; refine And.intro (by kernel_rfl) ?_; try simp only [thenA_n]) | (first | refine wBlock ?_ | refine wScope ?_) | ((first | refine wRet ?_ | refine wExit ?_ | refine wSkip ?_); try simp) | ((first | refine wLabel ?_ | refine wOn ?_ | refine wQn ?_); try simp only [thenA_n])
 have c4 := rZx b a3 hb
 obtain ⟨x7, x8, ⟨q4, a4⟩, e4⟩ := fZx_got b (0, a3)
 rw [e4] at c4
 simp only [vOf1, vOf2] at c4
 by_cases z4 : q4 = 0
 rotate_left
 ·have hz : (fSt.rd b (0, a)).2 = (q4, a4) := by simp only [fSt, sq_rd, e0, e1, e2, e3, e4]
  rw [hz, rO_err _ _ _ z4] at ho
  subst ho
  rw [rO_err _ _ _ z4] at c4
  refine CallK_gen [1024] c4 (by decide) (by decide) (by simp [blksOf, inN, pos, renB, ren0, ouN, lv, kpI, kpR]) (by simp [argsG, argG, ren0, inN, pos, renCs, renC]) ?_
  simp [GenK, lv, ouN, kpI, kpR, pos, ren, ren0, renB, renC, renCs]
  all_goals try simp only [thenA_p, blockA_p]
  all_goals apply hp
  all_goals simp [AResP, outB, renB, gaN, lv, ouN, kpI, kpR, pos, ren, ren0, renC, renCs]
 subst z4
 rw [rO_ok] at c4
 refine CallK_gen [1024] c4 (by decide) (by decide) (by simp [blksOf, inN, pos, renB, ren0, ouN, lv, kpI, kpR]) (by simp [argsG, argG, ren0, inN, pos, renCs, renC]) ⟨[], by simp, by simp, ?_⟩
 simp [lv, ouN, kpI, kpR, pos, ren, ren0, renB, renC, renCs]
 repeat' first | (refine hK _ ?_; clear hK) | (refine hK _ _ ?_; clear hK) | (clear hK; refine hK _ ?_; clear hK) | (clear hK; clear hK; refine hK _ ?_; clear hK) | (clear hK; clear hK; clear hK; refine hK _ ?_; clear hK) | (clear hK; clear hK; clear hK; clear hK; refine hK _ ?_; clear hK) | (refine wSeq fun K hK => ?_) | ((first | refine wReg ?_ | refine wDrwQ rfl (by kernel_rfl) ?_ | refine wDrwI ?_ | refine wDrw (by kernel_rfl) ?_); simp only [List.map_cons, List.map_nil, strip]) | ((first | refine wIs fun K hK => ?_ | refine wOs fun K hK => ?_ | refine wQs fun K hK => ?_ | refine CallQ_plain ?_ | refine CallR_plain ?_ | refine wCond ?_); simp [lv, ouN, kpI, kpR, pos, ren, ren0, renB, renC, renCs]) | (refine wIn ?_; refine And.intro (by kernel_rfl) ?_; try simp only [thenA_n]) | (first | refine wBlock ?_ | refine wScope ?_) | ((first | refine wRet ?_ | refine wExit ?_ | refine wSkip ?_); try simp) | ((first | refine wLabel ?_ | refine wOn ?_ | refine wQn ?_); try simp only [thenA_n])
 have hz : fSt.rd b (0, a) = ([.sl 5 x0, .sl 1 x1, I x2, I x3, I x4, I x5, .sl 4 x6, I x7, I x8], 0, a4) := by simp only [fSt, sq_rd, e0, e1, e2, e3, e4, List.cons_append, List.nil_append]
 rw [hz] at ho
 simp only [rO_ok, vOf2] at ho
 subst ho
 all_goals first | apply hr
 all_goals refine ⟨[], by simp, by simp, ?_⟩
 all_goals simp [Try.f67, outR, outB, renB, gaN, lv, ouN, kpI, kpR, pos, ren, ren0, renC, renCs]
set_option maxHeartbeats 8000000 in
theorem rlOp (b : List UInt8) (a : Int) (hb : b.length <= 1000000000) : Con Try.prog 115 [.ptr 1024 0, .p (.v (.func (.func 116) #[] #[]))] (rB b a) (rO b (vOf ((fl 6 fOp).rd b (0, a)).1) ((fl 6 fOp).rd b (0, a)).2) := by
 generalize ho : rO b (vOf ((fl 6 fOp).rd b (0, a)).1) ((fl 6 fOp).rd b (0, a)).2 = out
 have c0 := rnum b a hb
 obtain ⟨Y, hY⟩ : ∃ Y, Y = rdC b (0, a) := ⟨_, rfl⟩
 have hC := hY
 unfold rdC at hC
 change Con _ _ _ _ (rO b (.p (I (rdN b (0, a)).1)) (rdN b (0, a)).2) at c0
 obtain ⟨n, q, a1, hN⟩ : ∃ n q a1, rdN b (0, a) = (n, q, a1) := ⟨_, _, _, rfl⟩
 rw [hN] at c0 hC
 simp only at c0 hC
 have hL : (fl 6 fOp).rd b (0, a) = ([.sl 6 (rdL fOp.rd b (rdC b (0, a)).1.toNat (rdC b (0, a)).2).1], (rdL fOp.rd b (rdC b (0, a)).1.toNat (rdC b (0, a)).2).2) := rfl
 rw [hL, <- hY, hC] at ho
 clear hL hC hY
 refine wBodyG Try.tab Try.mixed Try.func115 rfl rfl Try.ntmps115 (by simp) (by simp) fun Q hr hn hp => ?_
 repeat' first | (refine hK _ ?_; clear hK) | (refine hK _ _ ?_; clear hK) | (clear hK; refine hK _ ?_; clear hK) | (clear hK; clear hK; refine hK _ ?_; clear hK) | (clear hK; clear hK; clear hK; refine hK _ ?_; clear hK) | (clear hK; clear hK; clear hK; clear hK; refine hK _ ?_; clear hK) | (refine wSeq fun K hK => ?_) | ((first | refine wReg ?_ | refine wDrwQ rfl (by kernel_rfl) ?_ | refine wDrwI ?_ | refine wDrw (by kernel_rfl) ?_); simp only [List.map_cons, List.map_nil, strip]) | ((first | refine wIs fun K hK => ?_ | refine wOs fun K hK => ?_ | refine wQs fun K hK => ?_ | refine CallQ_plain ?_ | refine CallR_plain ?_ | refine wCond ?_); simp) | (refine wIn ?_; refine And.intro (by kernel_rfl) ?_; try simp only [thenA_n]) | (first | refine wBlock ?_ | refine wScope ?_) | ((first | refine wRet ?_ | refine wExit ?_ | refine wSkip ?_); try simp) | ((first | refine wLabel ?_ | refine wOn ?_ | refine wQn ?_); try simp only [thenA_n])
 by_cases hq : q = 0
 rotate_left
 ·rw [if_pos hq] at ho
  simp only [rdL_stk _ _ _ _ hq] at ho
  rw [rO_err _ _ _ hq] at ho c0
  subst ho
  refine CallK_gen [1024] c0 (by decide) (by decide) (by simp [blksOf, inN, pos, renB, ren0, ouN, lv, kpI, kpR]) (by simp [argsG, argG, ren0, inN, pos, renCs, renC]) ?_
  simp [GenK, lv, ouN, kpI, kpR, pos, ren, ren0, renB, renC, renCs]
  all_goals try simp only [thenA_p, blockA_p]
  all_goals apply hp
  all_goals simp [AResP, outB, renB, gaN, lv, ouN, kpI, kpR, pos, ren, ren0, renC, renCs]
 subst hq
 rw [if_neg (by simp)] at ho
 rw [rO_ok] at c0
 refine CallK_gen [1024] c0 (by decide) (by decide) (by simp [blksOf, inN, pos, renB, ren0, ouN, lv, kpI, kpR]) (by simp [argsG, argG, ren0, inN, pos, renCs, renC]) ⟨[], by simp, by simp, ?_⟩
 simp [lv, ouN, kpI, kpR, pos, ren, ren0, renB, renC, renCs]
 by_cases h1 : n < 0
 ·have e3 := give_con 3 (by decide)
  rw [if_pos h1] at ho
  simp only [rdL_stk fOp.rd b _ (e := 3) a1 (by decide)] at ho
  rw [rO_err _ _ _ (by decide)] at ho
  subst ho
  repeat' first | (refine CallE.pan e3 ?_) | (refine hK _ ?_; clear hK) | (refine hK _ _ ?_; clear hK) | (clear hK; refine hK _ ?_; clear hK) | (clear hK; clear hK; refine hK _ ?_; clear hK) | (clear hK; clear hK; clear hK; refine hK _ ?_; clear hK) | (clear hK; clear hK; clear hK; clear hK; refine hK _ ?_; clear hK) | (refine wSeq fun K hK => ?_) | ((first | refine wReg ?_ | refine wDrwQ rfl (by kernel_rfl) ?_ | refine wDrwI ?_ | refine wDrw (by kernel_rfl) ?_); simp only [List.map_cons, List.map_nil, strip]) | ((first | refine wIs fun K hK => ?_ | refine wOs fun K hK => ?_ | refine wQs fun K hK => ?_ | refine CallK_plain ?_ | refine CallQ_plain ?_ | refine CallR_plain ?_ | refine wCond ?_); simp [h1, lv, ouN, kpI, kpR, pos, ren, ren0, renB, renC, renCs]) | (refine wIn ?_; refine And.intro (by kernel_rfl) ?_; try simp only [thenA_n]) | (first | refine wBlock ?_ | refine wScope ?_) | ((first | refine wRet ?_ | refine wExit ?_ | refine wSkip ?_); try simp) | ((first | refine wLabel ?_ | refine wOn ?_ | refine wQn ?_); try simp only [thenA_n])
  all_goals try simp only [thenA_p, blockA_p]
  all_goals apply hp
  all_goals simp [AResP, outB, renB, gaN, lv, ouN, kpI, kpR, pos, ren, ren0, renC, renCs]
 rw [if_neg h1] at ho
 by_cases h2 : 1000 < n
 ·have e5 := give_con 5 (by decide)
  rw [if_pos h2] at ho
  simp only [rdL_stk fOp.rd b _ (e := 5) a1 (by decide)] at ho
  rw [rO_err _ _ _ (by decide)] at ho
  subst ho
  repeat' first | (refine CallE.pan e5 ?_) | (refine hK _ ?_; clear hK) | (refine hK _ _ ?_; clear hK) | (clear hK; refine hK _ ?_; clear hK) | (clear hK; clear hK; refine hK _ ?_; clear hK) | (clear hK; clear hK; clear hK; refine hK _ ?_; clear hK) | (clear hK; clear hK; clear hK; clear hK; refine hK _ ?_; clear hK) | (refine wSeq fun K hK => ?_) | ((first | refine wReg ?_ | refine wDrwQ rfl (by kernel_rfl) ?_ | refine wDrwI ?_ | refine wDrw (by kernel_rfl) ?_); simp only [List.map_cons, List.map_nil, strip]) | ((first | refine wIs fun K hK => ?_ | refine wOs fun K hK => ?_ | refine wQs fun K hK => ?_ | refine CallK_plain ?_ | refine CallQ_plain ?_ | refine CallR_plain ?_ | refine wCond ?_); simp [h1, h2, lv, ouN, kpI, kpR, pos, ren, ren0, renB, renC, renCs]) | (refine wIn ?_; refine And.intro (by kernel_rfl) ?_; try simp only [thenA_n]) | (first | refine wBlock ?_ | refine wScope ?_) | ((first | refine wRet ?_ | refine wExit ?_ | refine wSkip ?_); try simp) | ((first | refine wLabel ?_ | refine wOn ?_ | refine wQn ?_); try simp only [thenA_n])
  all_goals try simp only [thenA_p, blockA_p]
  all_goals apply hp
  all_goals simp [AResP, outB, renB, gaN, lv, ouN, kpI, kpR, pos, ren, ren0, renC, renCs]
 rw [if_neg h2] at ho
 simp only at ho
 obtain ⟨m, rfl⟩ : ∃ m : Nat, n = m := ⟨n.toNat, by omega⟩
 simp only [Int.toNat_natCast] at ho
 have hm : m <= 1000 := by omega
 repeat' first | (refine hK _ ?_; clear hK) | (refine hK _ _ ?_; clear hK) | (clear hK; refine hK _ ?_; clear hK) | (clear hK; clear hK; refine hK _ ?_; clear hK) | (clear hK; clear hK; clear hK; refine hK _ ?_; clear hK) | (clear hK; clear hK; clear hK; clear hK; refine hK _ ?_; clear hK) | (refine wSeq fun K hK => ?_) | ((first | refine wReg ?_ | refine wDrwQ rfl (by kernel_rfl) ?_ | refine wDrwI ?_ | refine wDrw (by kernel_rfl) ?_); simp only [List.map_cons, List.map_nil, strip]) | ((first | refine wIs fun K hK => ?_ | refine wOs fun K hK => ?_ | refine wQs fun K hK => ?_ | refine CallQ_plain ?_ | refine CallR_plain ?_ | refine wCond ?_); simp [h1, h2, lv, ouN, kpI, kpR, pos, ren, ren0, renB, renC, renCs]) | (refine wIn ?_; refine And.intro (by kernel_rfl) ?_; try simp only [thenA_n]) | (first | refine wBlock ?_ | refine wScope ?_) | ((first | refine wRet ?_ | refine wExit ?_ | refine wSkip ?_); try simp) | ((first | refine wLabel ?_ | refine wOn ?_ | refine wQn ?_); try simp only [thenA_n])
 generalize hF : rdL fOp.rd b m (0, a1) = full at ho
 refine wLoopG [.row 6 111 6] (fun N st => ∃ k a2 acc, k + N = m /\ acc.length = k /\ full = (acc ++ (rdL fOp.rd b N (0, a2)).1, (rdL fOp.rd b N (0, a2)).2) /\ st.s 0 = .ptr 1024 0 /\ st.s 1 = .p (.v (.func (.func 116) #[] #[])) /\ st.s 6 = .row 6 /\ st.s 17 = .p (I m) /\ st.s 18 = .p (I k) /\ st.b 1024 = some (.box 160 [.p (.sl 1 (by8 b)), .p (I a2)]) /\ st.b 6 = some (.row 111 6 acc)) m ⟨0, a1, [], by simp [hF, lv, ouN, kpI, kpR, pos, ren, ren0, renB, renC, renCs]⟩ fun K N st hL ⟨k, a2, acc, hk, hac, hfu, g0, g1, g6, g17, g18, b0, b6⟩ => ?_
 by_cases hlt : k < m
 ·have hlt' : (k : Int) < (m : Int) := by omega
  have hw := wrapS k m hlt (by omega)
  obtain ⟨M, rfl⟩ : ∃ M, N = M + 1 := ⟨N - 1, by omega⟩
  rw [rdL, if_pos rfl] at hfu
  have c := rOp b a2 hb
  obtain ⟨x0, x1, x2, x3, x4, x5, ⟨q, a3⟩, he⟩ := fOp_got b (0, a2)
  rw [he] at c hfu
  try simp only [vOf1, vOf2] at c
  simp only at hfu
  by_cases z : q = 0
  ·subst z
   rw [rO_ok] at c
   repeat' first | (refine CallK_gen [1024] c (by decide) (by decide) (by simp [blksOf, inN, pos, renB, ren0, b0]) (by simp [argsG, argG, ren0, inN, pos, renCs, renC]) ⟨[], by simp, by simp, ?_⟩; simp [lv, ouN, kpI, kpR, pos, ren, ren0, renB, renC, renCs, b0]) | (refine And.intro (by omega) ?_) | (refine hK _ ?_; clear hK) | (refine hK _ _ ?_; clear hK) | (clear hK; refine hK _ ?_; clear hK) | (clear hK; clear hK; refine hK _ ?_; clear hK) | (clear hK; clear hK; clear hK; refine hK _ ?_; clear hK) | (clear hK; clear hK; clear hK; clear hK; refine hK _ ?_; clear hK) | (refine wSeq fun K hK => ?_) | ((first | refine wReg ?_ | refine wDrwQ rfl (by kernel_rfl) ?_ | refine wDrwI ?_ | refine wDrw (by kernel_rfl) ?_); simp only [List.map_cons, List.map_nil, strip]) | ((first | refine wIs fun K hK => ?_ | refine wOs fun K hK => ?_ | refine wQs fun K hK => ?_ | refine CallK_plain ?_ | refine CallQ_plain ?_ | refine CallR_plain ?_ | refine wCond ?_); simp [g0, g1, g6, g17, g18, b0, b6, hlt, hlt', hw, lv, ouN, kpI, kpR, pos, ren, ren0, renB, renC, renCs]) | (refine wIn ?_; refine And.intro (by kernel_rfl) ?_; try simp only [thenA_n]) | (first | refine wBlock ?_ | refine wScope ?_) | ((first | refine wRet ?_ | refine wExit ?_ | refine wSkip ?_); try simp) | ((first | refine wLabel ?_ | refine wOn ?_ | refine wQn ?_); try simp only [thenA_n])
   refine hL _ M (by omega) ⟨k + 1, a3, acc ++ [[I x0, SB x1, SB x2, I x3, B x4, B x5]], by omega, by simp [hac], by rw [hfu]; simp, ?_⟩
   simp [g0, g1, g6, g17, g18, b0, b6, hw, lv, ouN, kpI, kpR, pos, ren, ren0, renB, renC, renCs]
  ·rw [rdL_stk _ _ _ _ z] at hfu
   simp only at hfu
   rw [hfu, rO_err _ _ _ z] at ho
   rw [rO_err _ _ _ z] at c
   subst ho
   repeat' first | (refine CallK_gen [1024] c (by decide) (by decide) (by simp [blksOf, inN, pos, renB, ren0, b0]) (by simp [argsG, argG, ren0, inN, pos, renCs, renC]) ?_; simp [GenK, lv, ouN, kpI, kpR, pos, ren, ren0, renB, renC, renCs, b0]) | (refine hK _ ?_; clear hK) | (refine hK _ _ ?_; clear hK) | (clear hK; refine hK _ ?_; clear hK) | (clear hK; clear hK; refine hK _ ?_; clear hK) | (clear hK; clear hK; clear hK; refine hK _ ?_; clear hK) | (clear hK; clear hK; clear hK; clear hK; refine hK _ ?_; clear hK) | (refine wSeq fun K hK => ?_) | ((first | refine wReg ?_ | refine wDrwQ rfl (by kernel_rfl) ?_ | refine wDrwI ?_ | refine wDrw (by kernel_rfl) ?_); simp only [List.map_cons, List.map_nil, strip]) | ((first | refine wIs fun K hK => ?_ | refine wOs fun K hK => ?_ | refine wQs fun K hK => ?_ | refine CallK_plain ?_ | refine CallQ_plain ?_ | refine CallR_plain ?_ | refine wCond ?_); simp [g0, g1, g6, g17, g18, b0, b6, hlt, hlt', hw, lv, ouN, kpI, kpR, pos, ren, ren0, renB, renC, renCs]) | (refine wIn ?_; refine And.intro (by kernel_rfl) ?_; try simp only [thenA_n]) | (first | refine wBlock ?_ | refine wScope ?_) | ((first | refine wRet ?_ | refine wExit ?_ | refine wSkip ?_); try simp) | ((first | refine wLabel ?_ | refine wOn ?_ | refine wQn ?_); try simp only [thenA_n])
   all_goals try simp only [thenA_p, blockA_p]
   all_goals apply hp
   all_goals simp [AResP, outB, renB, gaN, lv, ouN, kpI, kpR, pos, ren, ren0, renC, renCs, b0]
 ·have hlt' : ¬ (k : Int) < (m : Int) := by omega
  obtain rfl : N = 0 := by omega
  simp only [rdL, List.append_nil] at hfu
  rw [hfu, rO_ok, vOf1] at ho
  subst ho
  have f6 : (Av.frz st 6 6 acc).s 6 = .p (.sl 6 acc) := by simp [Av.frz, sub, sub0, g6]
  have f18 : (Av.frz st 6 6 acc).s 18 = .p (I k) := by simp [Av.frz, sub, sub0, g18]
  have f17 : (Av.frz st 6 6 acc).s 17 = .p (I m) := by simp [Av.frz, sub, sub0, g17]
  have f0 : (Av.frz st 6 6 acc).b 1024 = some (.box 160 [.p (.sl 1 (by8 b)), .p (I a2)]) := by simp [Av.frz, sub, sub0, subB, b0]
  repeat' first | (refine wFrzR 6 acc b6 ?_; generalize Av.frz st 6 6 acc = st2 at f6 f0 f17 f18 ⊢) | (refine hK _ ?_; clear hK) | (refine hK _ _ ?_; clear hK) | (clear hK; refine hK _ ?_; clear hK) | (clear hK; clear hK; refine hK _ ?_; clear hK) | (clear hK; clear hK; clear hK; refine hK _ ?_; clear hK) | (clear hK; clear hK; clear hK; clear hK; refine hK _ ?_; clear hK) | (refine wSeq fun K hK => ?_) | ((first | refine wReg ?_ | refine wDrwQ rfl (by kernel_rfl) ?_ | refine wDrwI ?_ | refine wDrw (by kernel_rfl) ?_); simp only [List.map_cons, List.map_nil, strip]) | ((first | refine wIs fun K hK => ?_ | refine wOs fun K hK => ?_ | refine wQs fun K hK => ?_ | refine CallK_plain ?_ | refine CallQ_plain ?_ | refine CallR_plain ?_ | refine wCond ?_); simp [f6, f0, f17, f18, hlt, hlt']) | (refine wIn ?_; refine And.intro (by kernel_rfl) ?_; try simp only [thenA_n]) | (first | refine wBlock ?_ | refine wScope ?_) | ((first | refine wRet ?_ | refine wExit ?_ | refine wSkip ?_); try simp) | ((first | refine wLabel ?_ | refine wOn ?_ | refine wQn ?_); try simp only [thenA_n])
  all_goals first | apply hr
  all_goals refine ⟨[], by simp, by simp, ?_⟩
  all_goals simp [Try.f115, outR, outB, renB, gaN, f6, f0]
set_option maxHeartbeats 4000000 in
theorem rRq : RCn 72 fRq := by
 intro b a hb
 generalize ho : rO b (vOf (fRq.rd b (0, a)).1) (fRq.rd b (0, a)).2 = out
 have c0 := rnum b a hb
 refine wBodyG Try.tab Try.mixed Try.func72 rfl rfl Try.ntmps72 (by simp) (by simp) fun Q hr hn hp => ?_
 repeat' first | (refine hK _ ?_; clear hK) | (refine hK _ _ ?_; clear hK) | (clear hK; refine hK _ ?_; clear hK) | (clear hK; clear hK; refine hK _ ?_; clear hK) | (clear hK; clear hK; clear hK; refine hK _ ?_; clear hK) | (clear hK; clear hK; clear hK; clear hK; refine hK _ ?_; clear hK) | (refine wSeq fun K hK => ?_) | ((first | refine wReg ?_ | refine wDrwQ rfl (by kernel_rfl) ?_ | refine wDrwI ?_ | refine wDrw (by kernel_rfl) ?_); simp only [List.map_cons, List.map_nil, strip]) | ((first | refine wIs fun K hK => ?_ | refine wOs fun K hK => ?_ | refine wQs fun K hK => ?_ | refine CallQ_plain ?_ | refine CallR_plain ?_ | refine wCond ?_); simp) | (refine wIn ?_; refine And.intro (by kernel_rfl) ?_; try simp only [thenA_n]) | (first | refine wBlock ?_ | refine wScope ?_) | ((first | refine wRet ?_ | refine wExit ?_ | refine wSkip ?_); try simp) | ((first | refine wLabel ?_ | refine wOn ?_ | refine wQn ?_); try simp only [thenA_n])
 obtain ⟨x0, ⟨q0, a0⟩, e0⟩ := foI_got b (0, a)
 rw [e0] at c0
 simp only [vOf1, vOf2] at c0
 by_cases z0 : q0 = 0
 rotate_left
 ·have hz : (fRq.rd b (0, a)).2 = (q0, a0) := by simp only [fRq, sq_rd, e0, foI_L.stk b q0 a0 z0, (fl_L fOp_L 6).stk b q0 a0 z0, (fl_L fMb_L 4).stk b q0 a0 z0, (fl_L foI_L 1).stk b q0 a0 z0, fZx_L.stk b q0 a0 z0]
  rw [hz, rO_err _ _ _ z0] at ho
  subst ho
  rw [rO_err _ _ _ z0] at c0
  refine CallK_gen [1024] c0 (by decide) (by decide) (by simp [blksOf, inN, pos, renB, ren0, ouN, lv, kpI, kpR]) (by simp [argsG, argG, ren0, inN, pos, renCs, renC]) ?_
  simp [GenK, lv, ouN, kpI, kpR, pos, ren, ren0, renB, renC, renCs]
  all_goals try simp only [thenA_p, blockA_p]
  all_goals apply hp
  all_goals simp [AResP, outB, renB, gaN, lv, ouN, kpI, kpR, pos, ren, ren0, renC, renCs]
 subst z0
 rw [rO_ok] at c0
 refine CallK_gen [1024] c0 (by decide) (by decide) (by simp [blksOf, inN, pos, renB, ren0, ouN, lv, kpI, kpR]) (by simp [argsG, argG, ren0, inN, pos, renCs, renC]) ⟨[], by simp, by simp, ?_⟩
 simp [lv, ouN, kpI, kpR, pos, ren, ren0, renB, renC, renCs]
 repeat' first | (refine hK _ ?_; clear hK) | (refine hK _ _ ?_; clear hK) | (clear hK; refine hK _ ?_; clear hK) | (clear hK; clear hK; refine hK _ ?_; clear hK) | (clear hK; clear hK; clear hK; refine hK _ ?_; clear hK) | (clear hK; clear hK; clear hK; clear hK; refine hK _ ?_; clear hK) | (refine wSeq fun K hK => ?_) | ((first | refine wReg ?_ | refine wDrwQ rfl (by kernel_rfl) ?_ | refine wDrwI ?_ | refine wDrw (by kernel_rfl) ?_); simp only [List.map_cons, List.map_nil, strip]) | ((first | refine wIs fun K hK => ?_ | refine wOs fun K hK => ?_ | refine wQs fun K hK => ?_ | refine CallQ_plain ?_ | refine CallR_plain ?_ | refine wCond ?_); simp [lv, ouN, kpI, kpR, pos, ren, ren0, renB, renC, renCs]) | (refine wIn ?_; refine And.intro (by kernel_rfl) ?_; try simp only [thenA_n]) | (first | refine wBlock ?_ | refine wScope ?_) | ((first | refine wRet ?_ | refine wExit ?_ | refine wSkip ?_); try simp) | ((first | refine wLabel ?_ | refine wOn ?_ | refine wQn ?_); try simp only [thenA_n])
 have c1 := rnum b a0 hb
 obtain ⟨x1, ⟨q1, a1⟩, e1⟩ := foI_got b (0, a0)
 rw [e1] at c1
 simp only [vOf1, vOf2] at c1
 by_cases z1 : q1 = 0
 rotate_left
 ·have hz : (fRq.rd b (0, a)).2 = (q1, a1) := by simp only [fRq, sq_rd, e0, e1, foI_L.stk b q1 a1 z1, (fl_L fOp_L 6).stk b q1 a1 z1, (fl_L fMb_L 4).stk b q1 a1 z1, (fl_L foI_L 1).stk b q1 a1 z1, fZx_L.stk b q1 a1 z1]
  rw [hz, rO_err _ _ _ z1] at ho
  subst ho
  rw [rO_err _ _ _ z1] at c1
  refine CallK_gen [1024] c1 (by decide) (by decide) (by simp [blksOf, inN, pos, renB, ren0, ouN, lv, kpI, kpR]) (by simp [argsG, argG, ren0, inN, pos, renCs, renC]) ?_
  simp [GenK, lv, ouN, kpI, kpR, pos, ren, ren0, renB, renC, renCs]
  all_goals try simp only [thenA_p, blockA_p]
  all_goals apply hp
  all_goals simp [AResP, outB, renB, gaN, lv, ouN, kpI, kpR, pos, ren, ren0, renC, renCs]
 subst z1
 rw [rO_ok] at c1
 refine CallK_gen [1024] c1 (by decide) (by decide) (by simp [blksOf, inN, pos, renB, ren0, ouN, lv, kpI, kpR]) (by simp [argsG, argG, ren0, inN, pos, renCs, renC]) ⟨[], by simp, by simp, ?_⟩
 simp [lv, ouN, kpI, kpR, pos, ren, ren0, renB, renC, renCs]
 repeat' first | (refine hK _ ?_; clear hK) | (refine hK _ _ ?_; clear hK) | (clear hK; refine hK _ ?_; clear hK) | (clear hK; clear hK; refine hK _ ?_; clear hK) | (clear hK; clear hK; clear hK; refine hK _ ?_; clear hK) | (clear hK; clear hK; clear hK; clear hK; refine hK _ ?_; clear hK) | (refine wSeq fun K hK => ?_) | ((first | refine wReg ?_ | refine wDrwQ rfl (by kernel_rfl) ?_ | refine wDrwI ?_ | refine wDrw (by kernel_rfl) ?_); simp only [List.map_cons, List.map_nil, strip]) | ((first | refine wIs fun K hK => ?_ | refine wOs fun K hK => ?_ | refine wQs fun K hK => ?_ | refine CallQ_plain ?_ | refine CallR_plain ?_ | refine wCond ?_); simp [lv, ouN, kpI, kpR, pos, ren, ren0, renB, renC, renCs]) | (refine wIn ?_; refine And.intro (by kernel_rfl) ?_; try simp only [thenA_n]) | (first | refine wBlock ?_ | refine wScope ?_) | ((first | refine wRet ?_ | refine wExit ?_ | refine wSkip ?_); try simp) | ((first | refine wLabel ?_ | refine wOn ?_ | refine wQn ?_); try simp only [thenA_n])
 have c2 := rnum b a1 hb
 obtain ⟨x2, ⟨q2, a2⟩, e2⟩ := foI_got b (0, a1)
 rw [e2] at c2
 simp only [vOf1, vOf2] at c2
 by_cases z2 : q2 = 0
 rotate_left
 ·have hz : (fRq.rd b (0, a)).2 = (q2, a2) := by simp only [fRq, sq_rd, e0, e1, e2, (fl_L fOp_L 6).stk b q2 a2 z2, foI_L.stk b q2 a2 z2, (fl_L fMb_L 4).stk b q2 a2 z2, (fl_L foI_L 1).stk b q2 a2 z2, fZx_L.stk b q2 a2 z2]
  rw [hz, rO_err _ _ _ z2] at ho
  subst ho
  rw [rO_err _ _ _ z2] at c2
  refine CallK_gen [1024] c2 (by decide) (by decide) (by simp [blksOf, inN, pos, renB, ren0, ouN, lv, kpI, kpR]) (by simp [argsG, argG, ren0, inN, pos, renCs, renC]) ?_
  simp [GenK, lv, ouN, kpI, kpR, pos, ren, ren0, renB, renC, renCs]
  all_goals try simp only [thenA_p, blockA_p]
  all_goals apply hp
  all_goals simp [AResP, outB, renB, gaN, lv, ouN, kpI, kpR, pos, ren, ren0, renC, renCs]
 subst z2
 rw [rO_ok] at c2
 refine CallK_gen [1024] c2 (by decide) (by decide) (by simp [blksOf, inN, pos, renB, ren0, ouN, lv, kpI, kpR]) (by simp [argsG, argG, ren0, inN, pos, renCs, renC]) ⟨[], by simp, by simp, ?_⟩
 simp [lv, ouN, kpI, kpR, pos, ren, ren0, renB, renC, renCs]
 repeat' first | (refine hK _ ?_; clear hK) | (refine hK _ _ ?_; clear hK) | (clear hK; refine hK _ ?_; clear hK) | (clear hK; clear hK; refine hK _ ?_; clear hK) | (clear hK; clear hK; clear hK; refine hK _ ?_; clear hK) | (clear hK; clear hK; clear hK; clear hK; refine hK _ ?_; clear hK) | (refine wSeq fun K hK => ?_) | ((first | refine wReg ?_ | refine wDrwQ rfl (by kernel_rfl) ?_ | refine wDrwI ?_ | refine wDrw (by kernel_rfl) ?_); simp only [List.map_cons, List.map_nil, strip]) | ((first | refine wIs fun K hK => ?_ | refine wOs fun K hK => ?_ | refine wQs fun K hK => ?_ | refine CallQ_plain ?_ | refine CallR_plain ?_ | refine wCond ?_); simp [lv, ouN, kpI, kpR, pos, ren, ren0, renB, renC, renCs]) | (refine wIn ?_; refine And.intro (by kernel_rfl) ?_; try simp only [thenA_n]) | (first | refine wBlock ?_ | refine wScope ?_) | ((first | refine wRet ?_ | refine wExit ?_ | refine wSkip ?_); try simp) | ((first | refine wLabel ?_ | refine wOn ?_ | refine wQn ?_); try simp only [thenA_n])
 have c3 := rlOp b a2 hb
 obtain ⟨x3, ⟨q3, a3⟩, e3⟩ := fl_got 6 fOp b (0, a2)
 rw [e3] at c3
 simp only [vOf1, vOf2] at c3
 by_cases z3 : q3 = 0
 rotate_left
 ·have hz : (fRq.rd b (0, a)).2 = (q3, a3) := by simp only [fRq, sq_rd, e0, e1, e2, e3, foI_L.stk b q3 a3 z3, (fl_L fMb_L 4).stk b q3 a3 z3, (fl_L foI_L 1).stk b q3 a3 z3, fZx_L.stk b q3 a3 z3]
  rw [hz, rO_err _ _ _ z3] at ho
  subst ho
  rw [rO_err _ _ _ z3] at c3
  refine CallK_gen [1024] c3 (by decide) (by decide) (by simp [blksOf, inN, pos, renB, ren0, ouN, lv, kpI, kpR]) (by simp [argsG, argG, ren0, inN, pos, renCs, renC]) ?_
  simp [GenK, lv, ouN, kpI, kpR, pos, ren, ren0, renB, renC, renCs]
  all_goals try simp only [thenA_p, blockA_p]
  all_goals apply hp
  all_goals simp [AResP, outB, renB, gaN, lv, ouN, kpI, kpR, pos, ren, ren0, renC, renCs]
 subst z3
 rw [rO_ok] at c3
 refine CallK_gen [1024] c3 (by decide) (by decide) (by simp [blksOf, inN, pos, renB, ren0, ouN, lv, kpI, kpR]) (by simp [argsG, argG, ren0, inN, pos, renCs, renC]) ⟨[], by simp, by simp, ?_⟩
 simp [lv, ouN, kpI, kpR, pos, ren, ren0, renB, renC, renCs]
 repeat' first | (refine hK _ ?_; clear hK) | (refine hK _ _ ?_; clear hK) | (clear hK; refine hK _ ?_; clear hK) | (clear hK; clear hK; refine hK _ ?_; clear hK) | (clear hK; clear hK; clear hK; refine hK _ ?_; clear hK) | (clear hK; clear hK; clear hK; clear hK; refine hK _ ?_; clear hK) | (refine wSeq fun K hK => ?_) | ((first | refine wReg ?_ | refine wDrwQ rfl (by kernel_rfl) ?_ | refine wDrwI ?_ | refine wDrw (by kernel_rfl) ?_); simp only [List.map_cons, List.map_nil, strip]) | ((first | refine wIs fun K hK => ?_ | refine wOs fun K hK => ?_ | refine wQs fun K hK => ?_ | refine CallQ_plain ?_ | refine CallR_plain ?_ | refine wCond ?_); simp [lv, ouN, kpI, kpR, pos, ren, ren0, renB, renC, renCs]) | (refine wIn ?_; refine And.intro (by kernel_rfl) ?_; try simp only [thenA_n]) | (first | refine wBlock ?_ | refine wScope ?_) | ((first | refine wRet ?_ | refine wExit ?_ | refine wSkip ?_); try simp) | ((first | refine wLabel ?_ | refine wOn ?_ | refine wQn ?_); try simp only [thenA_n])
 have c4 := rnum b a3 hb
 obtain ⟨x4, ⟨q4, a4⟩, e4⟩ := foI_got b (0, a3)
 rw [e4] at c4
 simp only [vOf1, vOf2] at c4
 by_cases z4 : q4 = 0
 rotate_left
 ·have hz : (fRq.rd b (0, a)).2 = (q4, a4) := by simp only [fRq, sq_rd, e0, e1, e2, e3, e4, (fl_L fMb_L 4).stk b q4 a4 z4, (fl_L foI_L 1).stk b q4 a4 z4, fZx_L.stk b q4 a4 z4]
  rw [hz, rO_err _ _ _ z4] at ho
  subst ho
  rw [rO_err _ _ _ z4] at c4
  refine CallK_gen [1024] c4 (by decide) (by decide) (by simp [blksOf, inN, pos, renB, ren0, ouN, lv, kpI, kpR]) (by simp [argsG, argG, ren0, inN, pos, renCs, renC]) ?_
  simp [GenK, lv, ouN, kpI, kpR, pos, ren, ren0, renB, renC, renCs]
  all_goals try simp only [thenA_p, blockA_p]
  all_goals apply hp
  all_goals simp [AResP, outB, renB, gaN, lv, ouN, kpI, kpR, pos, ren, ren0, renC, renCs]
 subst z4
 rw [rO_ok] at c4
 refine CallK_gen [1024] c4 (by decide) (by decide) (by simp [blksOf, inN, pos, renB, ren0, ouN, lv, kpI, kpR]) (by simp [argsG, argG, ren0, inN, pos, renCs, renC]) ⟨[], by simp, by simp, ?_⟩
 simp [lv, ouN, kpI, kpR, pos, ren, ren0, renB, renC, renCs]
 repeat' first | (refine hK _ ?_; clear hK) | (refine hK _ _ ?_; clear hK) | (clear hK; refine hK _ ?_; clear hK) | (clear hK; clear hK; refine hK _ ?_; clear hK) | (clear hK; clear hK; clear hK; refine hK _ ?_; clear hK) | (clear hK; clear hK; clear hK; clear hK; refine hK _ ?_; clear hK) | (refine wSeq fun K hK => ?_) | ((first | refine wReg ?_ | refine wDrwQ rfl (by kernel_rfl) ?_ | refine wDrwI ?_ | refine wDrw (by kernel_rfl) ?_); simp only [List.map_cons, List.map_nil, strip]) | ((first | refine wIs fun K hK => ?_ | refine wOs fun K hK => ?_ | refine wQs fun K hK => ?_ | refine CallQ_plain ?_ | refine CallR_plain ?_ | refine wCond ?_); simp [lv, ouN, kpI, kpR, pos, ren, ren0, renB, renC, renCs]) | (refine wIn ?_; refine And.intro (by kernel_rfl) ?_; try simp only [thenA_n]) | (first | refine wBlock ?_ | refine wScope ?_) | ((first | refine wRet ?_ | refine wExit ?_ | refine wSkip ?_); try simp) | ((first | refine wLabel ?_ | refine wOn ?_ | refine wQn ?_); try simp only [thenA_n])
 have c5 := rlMb b a4 hb
 obtain ⟨x5, ⟨q5, a5⟩, e5⟩ := fl_got 4 fMb b (0, a4)
 rw [e5] at c5
 simp only [vOf1, vOf2] at c5
 by_cases z5 : q5 = 0
 rotate_left
 ·have hz : (fRq.rd b (0, a)).2 = (q5, a5) := by simp only [fRq, sq_rd, e0, e1, e2, e3, e4, e5, (fl_L foI_L 1).stk b q5 a5 z5, fZx_L.stk b q5 a5 z5]
  rw [hz, rO_err _ _ _ z5] at ho
  subst ho
  rw [rO_err _ _ _ z5] at c5
  refine CallK_gen [1024] c5 (by decide) (by decide) (by simp [blksOf, inN, pos, renB, ren0, ouN, lv, kpI, kpR]) (by simp [argsG, argG, ren0, inN, pos, renCs, renC]) ?_
  simp [GenK, lv, ouN, kpI, kpR, pos, ren, ren0, renB, renC, renCs]
  all_goals try simp only [thenA_p, blockA_p]
  all_goals apply hp
  all_goals simp [AResP, outB, renB, gaN, lv, ouN, kpI, kpR, pos, ren, ren0, renC, renCs]
 subst z5
 rw [rO_ok] at c5
 refine CallK_gen [1024] c5 (by decide) (by decide) (by simp [blksOf, inN, pos, renB, ren0, ouN, lv, kpI, kpR]) (by simp [argsG, argG, ren0, inN, pos, renCs, renC]) ⟨[], by simp, by simp, ?_⟩
 simp [lv, ouN, kpI, kpR, pos, ren, ren0, renB, renC, renCs]
 repeat' first | (refine hK _ ?_; clear hK) | (refine hK _ _ ?_; clear hK) | (clear hK; refine hK _ ?_; clear hK) | (clear hK; clear hK; refine hK _ ?_; clear hK) | (clear hK; clear hK; clear hK; refine hK _ ?_; clear hK) | (clear hK; clear hK; clear hK; clear hK; refine hK _ ?_; clear hK) | (refine wSeq fun K hK => ?_) | ((first | refine wReg ?_ | refine wDrwQ rfl (by kernel_rfl) ?_ | refine wDrwI ?_ | refine wDrw (by kernel_rfl) ?_); simp only [List.map_cons, List.map_nil, strip]) | ((first | refine wIs fun K hK => ?_ | refine wOs fun K hK => ?_ | refine wQs fun K hK => ?_ | refine CallQ_plain ?_ | refine CallR_plain ?_ | refine wCond ?_); simp [lv, ouN, kpI, kpR, pos, ren, ren0, renB, renC, renCs]) | (refine wIn ?_; refine And.intro (by kernel_rfl) ?_; try simp only [thenA_n]) | (first | refine wBlock ?_ | refine wScope ?_) | ((first | refine wRet ?_ | refine wExit ?_ | refine wSkip ?_); try simp) | ((first | refine wLabel ?_ | refine wOn ?_ | refine wQn ?_); try simp only [thenA_n])
 have c6 := rlI b a5 hb
 obtain ⟨x6, ⟨q6, a6⟩, e6⟩ := fl_got 1 foI b (0, a5)
 rw [e6] at c6
 simp only [vOf1, vOf2] at c6
 by_cases z6 : q6 = 0
 rotate_left
 ·have hz : (fRq.rd b (0, a)).2 = (q6, a6) := by simp only [fRq, sq_rd, e0, e1, e2, e3, e4, e5, e6, fZx_L.stk b q6 a6 z6]
  rw [hz, rO_err _ _ _ z6] at ho
  subst ho
  rw [rO_err _ _ _ z6] at c6
  refine CallK_gen [1024] c6 (by decide) (by decide) (by simp [blksOf, inN, pos, renB, ren0, ouN, lv, kpI, kpR]) (by simp [argsG, argG, ren0, inN, pos, renCs, renC]) ?_
  simp [GenK, lv, ouN, kpI, kpR, pos, ren, ren0, renB, renC, renCs]
  all_goals try simp only [thenA_p, blockA_p]
  all_goals apply hp
  all_goals simp [AResP, outB, renB, gaN, lv, ouN, kpI, kpR, pos, ren, ren0, renC, renCs]
 subst z6
 rw [rO_ok] at c6
 refine CallK_gen [1024] c6 (by decide) (by decide) (by simp [blksOf, inN, pos, renB, ren0, ouN, lv, kpI, kpR]) (by simp [argsG, argG, ren0, inN, pos, renCs, renC]) ⟨[], by simp, by simp, ?_⟩
 simp [lv, ouN, kpI, kpR, pos, ren, ren0, renB, renC, renCs]
 repeat' first | (refine hK _ ?_; clear hK) | (refine hK _ _ ?_; clear hK) | (clear hK; refine hK _ ?_; clear hK) | (clear hK; clear hK; refine hK _ ?_; clear hK) | (clear hK; clear hK; clear hK; refine hK _ ?_; clear hK) | (clear hK; clear hK; clear hK; clear hK; refine hK _ ?_; clear hK) | (refine wSeq fun K hK => ?_) | ((first | refine wReg ?_ | refine wDrwQ rfl (by kernel_rfl) ?_ | refine wDrwI ?_ | refine wDrw (by kernel_rfl) ?_); simp only [List.map_cons, List.map_nil, strip]) | ((first | refine wIs fun K hK => ?_ | refine wOs fun K hK => ?_ | refine wQs fun K hK => ?_ | refine CallQ_plain ?_ | refine CallR_plain ?_ | refine wCond ?_); simp [lv, ouN, kpI, kpR, pos, ren, ren0, renB, renC, renCs]) | (refine wIn ?_; refine And.intro (by kernel_rfl) ?_; try simp only [thenA_n]) | (first | refine wBlock ?_ | refine wScope ?_) | ((first | refine wRet ?_ | refine wExit ?_ | refine wSkip ?_); try simp) | ((first | refine wLabel ?_ | refine wOn ?_ | refine wQn ?_); try simp only [thenA_n])
 have c7 := rZx b a6 hb
 obtain ⟨x7, x8, ⟨q7, a7⟩, e7⟩ := fZx_got b (0, a6)
 rw [e7] at c7
 simp only [vOf1, vOf2] at c7
 by_cases z7 : q7 = 0
 rotate_left
 ·have hz : (fRq.rd b (0, a)).2 = (q7, a7) := by simp only [fRq, sq_rd, e0, e1, e2, e3, e4, e5, e6, e7]
  rw [hz, rO_err _ _ _ z7] at ho
  subst ho
  rw [rO_err _ _ _ z7] at c7
  refine CallK_gen [1024] c7 (by decide) (by decide) (by simp [blksOf, inN, pos, renB, ren0, ouN, lv, kpI, kpR]) (by simp [argsG, argG, ren0, inN, pos, renCs, renC]) ?_
  simp [GenK, lv, ouN, kpI, kpR, pos, ren, ren0, renB, renC, renCs]
  all_goals try simp only [thenA_p, blockA_p]
  all_goals apply hp
  all_goals simp [AResP, outB, renB, gaN, lv, ouN, kpI, kpR, pos, ren, ren0, renC, renCs]
 subst z7
 rw [rO_ok] at c7
 refine CallK_gen [1024] c7 (by decide) (by decide) (by simp [blksOf, inN, pos, renB, ren0, ouN, lv, kpI, kpR]) (by simp [argsG, argG, ren0, inN, pos, renCs, renC]) ⟨[], by simp, by simp, ?_⟩
 simp [lv, ouN, kpI, kpR, pos, ren, ren0, renB, renC, renCs]
 repeat' first | (refine hK _ ?_; clear hK) | (refine hK _ _ ?_; clear hK) | (clear hK; refine hK _ ?_; clear hK) | (clear hK; clear hK; refine hK _ ?_; clear hK) | (clear hK; clear hK; clear hK; refine hK _ ?_; clear hK) | (clear hK; clear hK; clear hK; clear hK; refine hK _ ?_; clear hK) | (refine wSeq fun K hK => ?_) | ((first | refine wReg ?_ | refine wDrwQ rfl (by kernel_rfl) ?_ | refine wDrwI ?_ | refine wDrw (by kernel_rfl) ?_); simp only [List.map_cons, List.map_nil, strip]) | ((first | refine wIs fun K hK => ?_ | refine wOs fun K hK => ?_ | refine wQs fun K hK => ?_ | refine CallQ_plain ?_ | refine CallR_plain ?_ | refine wCond ?_); simp [lv, ouN, kpI, kpR, pos, ren, ren0, renB, renC, renCs]) | (refine wIn ?_; refine And.intro (by kernel_rfl) ?_; try simp only [thenA_n]) | (first | refine wBlock ?_ | refine wScope ?_) | ((first | refine wRet ?_ | refine wExit ?_ | refine wSkip ?_); try simp) | ((first | refine wLabel ?_ | refine wOn ?_ | refine wQn ?_); try simp only [thenA_n])
 have hz : fRq.rd b (0, a) = ([I x0, I x1, I x2, .sl 6 x3, I x4, .sl 4 x5, .sl 1 x6, I x7, I x8], 0, a7) := by simp only [fRq, sq_rd, e0, e1, e2, e3, e4, e5, e6, e7, List.cons_append, List.nil_append]
 rw [hz] at ho
 simp only [rO_ok, vOf2] at ho
 subst ho
 all_goals first | apply hr
 all_goals refine ⟨[], by simp, by simp, ?_⟩
 all_goals simp [Try.f72, outR, outB, renB, gaN, lv, ouN, kpI, kpR, pos, ren, ren0, renC, renCs]
set_option maxHeartbeats 8000000 in
theorem rlZx (b : List UInt8) (a : Int) (hb : b.length <= 1000000000) : Con Try.prog 120 [.ptr 1024 0, .p (.v (.func (.func 95) #[] #[]))] (rB b a) (rO b (vOf ((fl 2 fZx).rd b (0, a)).1) ((fl 2 fZx).rd b (0, a)).2) := by
 generalize ho : rO b (vOf ((fl 2 fZx).rd b (0, a)).1) ((fl 2 fZx).rd b (0, a)).2 = out
 have c0 := rnum b a hb
 obtain ⟨Y, hY⟩ : ∃ Y, Y = rdC b (0, a) := ⟨_, rfl⟩
 have hC := hY
 unfold rdC at hC
 change Con _ _ _ _ (rO b (.p (I (rdN b (0, a)).1)) (rdN b (0, a)).2) at c0
 obtain ⟨n, q, a1, hN⟩ : ∃ n q a1, rdN b (0, a) = (n, q, a1) := ⟨_, _, _, rfl⟩
 rw [hN] at c0 hC
 simp only at c0 hC
 have hL : (fl 2 fZx).rd b (0, a) = ([.sl 2 (rdL fZx.rd b (rdC b (0, a)).1.toNat (rdC b (0, a)).2).1], (rdL fZx.rd b (rdC b (0, a)).1.toNat (rdC b (0, a)).2).2) := rfl
 rw [hL, <- hY, hC] at ho
 clear hL hC hY
 refine wBodyG Try.tab Try.mixed Try.func120 rfl rfl Try.ntmps120 (by simp) (by simp) fun Q hr hn hp => ?_
 repeat' first | (refine hK _ ?_; clear hK) | (refine hK _ _ ?_; clear hK) | (clear hK; refine hK _ ?_; clear hK) | (clear hK; clear hK; refine hK _ ?_; clear hK) | (clear hK; clear hK; clear hK; refine hK _ ?_; clear hK) | (clear hK; clear hK; clear hK; clear hK; refine hK _ ?_; clear hK) | (refine wSeq fun K hK => ?_) | ((first | refine wReg ?_ | refine wDrwQ rfl (by kernel_rfl) ?_ | refine wDrwI ?_ | refine wDrw (by kernel_rfl) ?_); simp only [List.map_cons, List.map_nil, strip]) | ((first | refine wIs fun K hK => ?_ | refine wOs fun K hK => ?_ | refine wQs fun K hK => ?_ | refine CallQ_plain ?_ | refine CallR_plain ?_ | refine wCond ?_); simp) | (refine wIn ?_; refine And.intro (by kernel_rfl) ?_; try simp only [thenA_n]) | (first | refine wBlock ?_ | refine wScope ?_) | ((first | refine wRet ?_ | refine wExit ?_ | refine wSkip ?_); try simp) | ((first | refine wLabel ?_ | refine wOn ?_ | refine wQn ?_); try simp only [thenA_n])
 by_cases hq : q = 0
 rotate_left
 ·rw [if_pos hq] at ho
  simp only [rdL_stk _ _ _ _ hq] at ho
  rw [rO_err _ _ _ hq] at ho c0
  subst ho
  refine CallK_gen [1024] c0 (by decide) (by decide) (by simp [blksOf, inN, pos, renB, ren0, ouN, lv, kpI, kpR]) (by simp [argsG, argG, ren0, inN, pos, renCs, renC]) ?_
  simp [GenK, lv, ouN, kpI, kpR, pos, ren, ren0, renB, renC, renCs]
  all_goals try simp only [thenA_p, blockA_p]
  all_goals apply hp
  all_goals simp [AResP, outB, renB, gaN, lv, ouN, kpI, kpR, pos, ren, ren0, renC, renCs]
 subst hq
 rw [if_neg (by simp)] at ho
 rw [rO_ok] at c0
 refine CallK_gen [1024] c0 (by decide) (by decide) (by simp [blksOf, inN, pos, renB, ren0, ouN, lv, kpI, kpR]) (by simp [argsG, argG, ren0, inN, pos, renCs, renC]) ⟨[], by simp, by simp, ?_⟩
 simp [lv, ouN, kpI, kpR, pos, ren, ren0, renB, renC, renCs]
 by_cases h1 : n < 0
 ·have e3 := give_con 3 (by decide)
  rw [if_pos h1] at ho
  simp only [rdL_stk fZx.rd b _ (e := 3) a1 (by decide)] at ho
  rw [rO_err _ _ _ (by decide)] at ho
  subst ho
  repeat' first | (refine CallE.pan e3 ?_) | (refine hK _ ?_; clear hK) | (refine hK _ _ ?_; clear hK) | (clear hK; refine hK _ ?_; clear hK) | (clear hK; clear hK; refine hK _ ?_; clear hK) | (clear hK; clear hK; clear hK; refine hK _ ?_; clear hK) | (clear hK; clear hK; clear hK; clear hK; refine hK _ ?_; clear hK) | (refine wSeq fun K hK => ?_) | ((first | refine wReg ?_ | refine wDrwQ rfl (by kernel_rfl) ?_ | refine wDrwI ?_ | refine wDrw (by kernel_rfl) ?_); simp only [List.map_cons, List.map_nil, strip]) | ((first | refine wIs fun K hK => ?_ | refine wOs fun K hK => ?_ | refine wQs fun K hK => ?_ | refine CallK_plain ?_ | refine CallQ_plain ?_ | refine CallR_plain ?_ | refine wCond ?_); simp [h1, lv, ouN, kpI, kpR, pos, ren, ren0, renB, renC, renCs]) | (refine wIn ?_; refine And.intro (by kernel_rfl) ?_; try simp only [thenA_n]) | (first | refine wBlock ?_ | refine wScope ?_) | ((first | refine wRet ?_ | refine wExit ?_ | refine wSkip ?_); try simp) | ((first | refine wLabel ?_ | refine wOn ?_ | refine wQn ?_); try simp only [thenA_n])
  all_goals try simp only [thenA_p, blockA_p]
  all_goals apply hp
  all_goals simp [AResP, outB, renB, gaN, lv, ouN, kpI, kpR, pos, ren, ren0, renC, renCs]
 rw [if_neg h1] at ho
 by_cases h2 : 1000 < n
 ·have e5 := give_con 5 (by decide)
  rw [if_pos h2] at ho
  simp only [rdL_stk fZx.rd b _ (e := 5) a1 (by decide)] at ho
  rw [rO_err _ _ _ (by decide)] at ho
  subst ho
  repeat' first | (refine CallE.pan e5 ?_) | (refine hK _ ?_; clear hK) | (refine hK _ _ ?_; clear hK) | (clear hK; refine hK _ ?_; clear hK) | (clear hK; clear hK; refine hK _ ?_; clear hK) | (clear hK; clear hK; clear hK; refine hK _ ?_; clear hK) | (clear hK; clear hK; clear hK; clear hK; refine hK _ ?_; clear hK) | (refine wSeq fun K hK => ?_) | ((first | refine wReg ?_ | refine wDrwQ rfl (by kernel_rfl) ?_ | refine wDrwI ?_ | refine wDrw (by kernel_rfl) ?_); simp only [List.map_cons, List.map_nil, strip]) | ((first | refine wIs fun K hK => ?_ | refine wOs fun K hK => ?_ | refine wQs fun K hK => ?_ | refine CallK_plain ?_ | refine CallQ_plain ?_ | refine CallR_plain ?_ | refine wCond ?_); simp [h1, h2, lv, ouN, kpI, kpR, pos, ren, ren0, renB, renC, renCs]) | (refine wIn ?_; refine And.intro (by kernel_rfl) ?_; try simp only [thenA_n]) | (first | refine wBlock ?_ | refine wScope ?_) | ((first | refine wRet ?_ | refine wExit ?_ | refine wSkip ?_); try simp) | ((first | refine wLabel ?_ | refine wOn ?_ | refine wQn ?_); try simp only [thenA_n])
  all_goals try simp only [thenA_p, blockA_p]
  all_goals apply hp
  all_goals simp [AResP, outB, renB, gaN, lv, ouN, kpI, kpR, pos, ren, ren0, renC, renCs]
 rw [if_neg h2] at ho
 simp only at ho
 obtain ⟨m, rfl⟩ : ∃ m : Nat, n = m := ⟨n.toNat, by omega⟩
 simp only [Int.toNat_natCast] at ho
 have hm : m <= 1000 := by omega
 repeat' first | (refine hK _ ?_; clear hK) | (refine hK _ _ ?_; clear hK) | (clear hK; refine hK _ ?_; clear hK) | (clear hK; clear hK; refine hK _ ?_; clear hK) | (clear hK; clear hK; clear hK; refine hK _ ?_; clear hK) | (clear hK; clear hK; clear hK; clear hK; refine hK _ ?_; clear hK) | (refine wSeq fun K hK => ?_) | ((first | refine wReg ?_ | refine wDrwQ rfl (by kernel_rfl) ?_ | refine wDrwI ?_ | refine wDrw (by kernel_rfl) ?_); simp only [List.map_cons, List.map_nil, strip]) | ((first | refine wIs fun K hK => ?_ | refine wOs fun K hK => ?_ | refine wQs fun K hK => ?_ | refine CallQ_plain ?_ | refine CallR_plain ?_ | refine wCond ?_); simp [h1, h2, lv, ouN, kpI, kpR, pos, ren, ren0, renB, renC, renCs]) | (refine wIn ?_; refine And.intro (by kernel_rfl) ?_; try simp only [thenA_n]) | (first | refine wBlock ?_ | refine wScope ?_) | ((first | refine wRet ?_ | refine wExit ?_ | refine wSkip ?_); try simp) | ((first | refine wLabel ?_ | refine wOn ?_ | refine wQn ?_); try simp only [thenA_n])
 generalize hF : rdL fZx.rd b m (0, a1) = full at ho
 refine wLoopG [.row 6 24 2] (fun N st => ∃ k a2 acc, k + N = m /\ acc.length = k /\ full = (acc ++ (rdL fZx.rd b N (0, a2)).1, (rdL fZx.rd b N (0, a2)).2) /\ st.s 0 = .ptr 1024 0 /\ st.s 1 = .p (.v (.func (.func 95) #[] #[])) /\ st.s 6 = .row 6 /\ st.s 17 = .p (I m) /\ st.s 18 = .p (I k) /\ st.b 1024 = some (.box 160 [.p (.sl 1 (by8 b)), .p (I a2)]) /\ st.b 6 = some (.row 24 2 acc)) m ⟨0, a1, [], by simp [hF, lv, ouN, kpI, kpR, pos, ren, ren0, renB, renC, renCs]⟩ fun K N st hL ⟨k, a2, acc, hk, hac, hfu, g0, g1, g6, g17, g18, b0, b6⟩ => ?_
 by_cases hlt : k < m
 ·have hlt' : (k : Int) < (m : Int) := by omega
  have hw := wrapS k m hlt (by omega)
  obtain ⟨M, rfl⟩ : ∃ M, N = M + 1 := ⟨N - 1, by omega⟩
  rw [rdL, if_pos rfl] at hfu
  have c := rZx b a2 hb
  obtain ⟨x0, x1, ⟨q, a3⟩, he⟩ := fZx_got b (0, a2)
  rw [he] at c hfu
  try simp only [vOf1, vOf2] at c
  simp only at hfu
  by_cases z : q = 0
  ·subst z
   rw [rO_ok] at c
   repeat' first | (refine CallK_gen [1024] c (by decide) (by decide) (by simp [blksOf, inN, pos, renB, ren0, b0]) (by simp [argsG, argG, ren0, inN, pos, renCs, renC]) ⟨[], by simp, by simp, ?_⟩; simp [lv, ouN, kpI, kpR, pos, ren, ren0, renB, renC, renCs, b0]) | (refine And.intro (by omega) ?_) | (refine hK _ ?_; clear hK) | (refine hK _ _ ?_; clear hK) | (clear hK; refine hK _ ?_; clear hK) | (clear hK; clear hK; refine hK _ ?_; clear hK) | (clear hK; clear hK; clear hK; refine hK _ ?_; clear hK) | (clear hK; clear hK; clear hK; clear hK; refine hK _ ?_; clear hK) | (refine wSeq fun K hK => ?_) | ((first | refine wReg ?_ | refine wDrwQ rfl (by kernel_rfl) ?_ | refine wDrwI ?_ | refine wDrw (by kernel_rfl) ?_); simp only [List.map_cons, List.map_nil, strip]) | ((first | refine wIs fun K hK => ?_ | refine wOs fun K hK => ?_ | refine wQs fun K hK => ?_ | refine CallK_plain ?_ | refine CallQ_plain ?_ | refine CallR_plain ?_ | refine wCond ?_); simp [g0, g1, g6, g17, g18, b0, b6, hlt, hlt', hw, lv, ouN, kpI, kpR, pos, ren, ren0, renB, renC, renCs]) | (refine wIn ?_; refine And.intro (by kernel_rfl) ?_; try simp only [thenA_n]) | (first | refine wBlock ?_ | refine wScope ?_) | ((first | refine wRet ?_ | refine wExit ?_ | refine wSkip ?_); try simp) | ((first | refine wLabel ?_ | refine wOn ?_ | refine wQn ?_); try simp only [thenA_n])
   refine hL _ M (by omega) ⟨k + 1, a3, acc ++ [[I x0, I x1]], by omega, by simp [hac], by rw [hfu]; simp, ?_⟩
   simp [g0, g1, g6, g17, g18, b0, b6, hw, lv, ouN, kpI, kpR, pos, ren, ren0, renB, renC, renCs]
  ·rw [rdL_stk _ _ _ _ z] at hfu
   simp only at hfu
   rw [hfu, rO_err _ _ _ z] at ho
   rw [rO_err _ _ _ z] at c
   subst ho
   repeat' first | (refine CallK_gen [1024] c (by decide) (by decide) (by simp [blksOf, inN, pos, renB, ren0, b0]) (by simp [argsG, argG, ren0, inN, pos, renCs, renC]) ?_; simp [GenK, lv, ouN, kpI, kpR, pos, ren, ren0, renB, renC, renCs, b0]) | (refine hK _ ?_; clear hK) | (refine hK _ _ ?_; clear hK) | (clear hK; refine hK _ ?_; clear hK) | (clear hK; clear hK; refine hK _ ?_; clear hK) | (clear hK; clear hK; clear hK; refine hK _ ?_; clear hK) | (clear hK; clear hK; clear hK; clear hK; refine hK _ ?_; clear hK) | (refine wSeq fun K hK => ?_) | ((first | refine wReg ?_ | refine wDrwQ rfl (by kernel_rfl) ?_ | refine wDrwI ?_ | refine wDrw (by kernel_rfl) ?_); simp only [List.map_cons, List.map_nil, strip]) | ((first | refine wIs fun K hK => ?_ | refine wOs fun K hK => ?_ | refine wQs fun K hK => ?_ | refine CallK_plain ?_ | refine CallQ_plain ?_ | refine CallR_plain ?_ | refine wCond ?_); simp [g0, g1, g6, g17, g18, b0, b6, hlt, hlt', hw, lv, ouN, kpI, kpR, pos, ren, ren0, renB, renC, renCs]) | (refine wIn ?_; refine And.intro (by kernel_rfl) ?_; try simp only [thenA_n]) | (first | refine wBlock ?_ | refine wScope ?_) | ((first | refine wRet ?_ | refine wExit ?_ | refine wSkip ?_); try simp) | ((first | refine wLabel ?_ | refine wOn ?_ | refine wQn ?_); try simp only [thenA_n])
   all_goals try simp only [thenA_p, blockA_p]
   all_goals apply hp
   all_goals simp [AResP, outB, renB, gaN, lv, ouN, kpI, kpR, pos, ren, ren0, renC, renCs, b0]
 ·have hlt' : ¬ (k : Int) < (m : Int) := by omega
  obtain rfl : N = 0 := by omega
  simp only [rdL, List.append_nil] at hfu
  rw [hfu, rO_ok, vOf1] at ho
  subst ho
  have f6 : (Av.frz st 6 2 acc).s 6 = .p (.sl 2 acc) := by simp [Av.frz, sub, sub0, g6]
  have f18 : (Av.frz st 6 2 acc).s 18 = .p (I k) := by simp [Av.frz, sub, sub0, g18]
  have f17 : (Av.frz st 6 2 acc).s 17 = .p (I m) := by simp [Av.frz, sub, sub0, g17]
  have f0 : (Av.frz st 6 2 acc).b 1024 = some (.box 160 [.p (.sl 1 (by8 b)), .p (I a2)]) := by simp [Av.frz, sub, sub0, subB, b0]
  repeat' first | (refine wFrzR 6 acc b6 ?_; generalize Av.frz st 6 2 acc = st2 at f6 f0 f17 f18 ⊢) | (refine hK _ ?_; clear hK) | (refine hK _ _ ?_; clear hK) | (clear hK; refine hK _ ?_; clear hK) | (clear hK; clear hK; refine hK _ ?_; clear hK) | (clear hK; clear hK; clear hK; refine hK _ ?_; clear hK) | (clear hK; clear hK; clear hK; clear hK; refine hK _ ?_; clear hK) | (refine wSeq fun K hK => ?_) | ((first | refine wReg ?_ | refine wDrwQ rfl (by kernel_rfl) ?_ | refine wDrwI ?_ | refine wDrw (by kernel_rfl) ?_); simp only [List.map_cons, List.map_nil, strip]) | ((first | refine wIs fun K hK => ?_ | refine wOs fun K hK => ?_ | refine wQs fun K hK => ?_ | refine CallK_plain ?_ | refine CallQ_plain ?_ | refine CallR_plain ?_ | refine wCond ?_); simp [f6, f0, f17, f18, hlt, hlt']) | (refine wIn ?_; refine And.intro (by kernel_rfl) ?_; try simp only [thenA_n]) | (first | refine wBlock ?_ | refine wScope ?_) | ((first | refine wRet ?_ | refine wExit ?_ | refine wSkip ?_); try simp) | ((first | refine wLabel ?_ | refine wOn ?_ | refine wQn ?_); try simp only [thenA_n])
  all_goals first | apply hr
  all_goals refine ⟨[], by simp, by simp, ?_⟩
  all_goals simp [Try.f120, outR, outB, renB, gaN, f6, f0]
abbrev iB (b : List UInt8) (st : RS) : List Blk := [.box 119 [.p (.sl 1 (by8 b)), .p (I st.2), .p (I st.1)]]
abbrev IRn (g : FuncId) (f : Fo) : Prop := ∀ (b : List UInt8) (st : RS), b.length <= 1000000000 -> Con Try.prog g [.ptr 1024 0] (iB b st) (.ret (vOf (f.rd b st).1) [] (iB b (f.rd b st).2))
theorem inum : IRn 100 foI := by
 intro b st hb
 show Con _ _ _ _ (.ret (.p (I (rdN b st).1)) [] (iB b (rdN b st).2))
 obtain ⟨e, a⟩ := st
 have c := int01_con b a hb
 rw [intT_eq] at c
 unfold rdN
 by_cases h0 : e = 0
 ·subst h0
  rw [if_pos rfl]
  simp only
  generalize intP b a = r at *
  obtain ⟨n, k, e⟩ := r
  simp only at c ⊢
  by_cases h : e = 0
  ·subst h
   rw [if_pos rfl]
   refine wBodyG Try.tab Try.mixed Try.func100 rfl rfl Try.ntmps100 (by simp) (by simp) fun Q hr hn hp => ?_
   repeat' first | (refine hK _ ?_; clear hK) | (refine hK _ _ ?_; clear hK) | (clear hK; refine hK _ ?_; clear hK) | (clear hK; clear hK; refine hK _ ?_; clear hK) | (clear hK; clear hK; clear hK; refine hK _ ?_; clear hK) | (clear hK; clear hK; clear hK; clear hK; refine hK _ ?_; clear hK) | (refine wSeq fun K hK => ?_) | ((first | refine wReg ?_ | refine wDrwQ rfl (by kernel_rfl) ?_ | refine wDrwI ?_ | refine wDrw (by kernel_rfl) ?_); simp only [List.map_cons, List.map_nil, strip]) | ((first | refine wIs fun K hK => ?_ | refine wOs fun K hK => ?_ | refine wQs fun K hK => ?_ | refine CallK_plain ?_ | refine CallQ_plain ?_ | refine CallR_plain ?_ | refine wCond ?_); simp) | (refine wIn ?_; refine And.intro (by kernel_rfl) ?_; try simp only [thenA_n]) | (first | refine wBlock ?_ | refine wScope ?_) | ((first | refine wRet ?_ | refine wExit ?_ | refine wSkip ?_); try simp) | ((first | refine wLabel ?_ | refine wOn ?_ | refine wQn ?_); try simp only [thenA_n]) | (refine CallE.pure (c) rfl ?_) | (refine CallE.lent (c) rfl ?_) | (refine CallF.pure (c) rfl ?_) | (refine CallF.lent (c) rfl ?_) | (refine CallE.own (c) ?_) | (refine CallH.pure (c) rfl ?_) | (refine CallH.lent (c) rfl ?_) | (refine CallH.own (c) ?_)
   all_goals first | apply hr
   all_goals refine ⟨[], by simp, by simp, ?_⟩
   all_goals simp [Try.f100, outR, outB, renB, gaN]
  ·rw [if_neg h]
   refine wBodyG Try.tab Try.mixed Try.func100 rfl rfl Try.ntmps100 (by simp) (by simp) fun Q hr hn hp => ?_
   repeat' first | (refine hK _ ?_; clear hK) | (refine hK _ _ ?_; clear hK) | (clear hK; refine hK _ ?_; clear hK) | (clear hK; clear hK; refine hK _ ?_; clear hK) | (clear hK; clear hK; clear hK; refine hK _ ?_; clear hK) | (clear hK; clear hK; clear hK; clear hK; refine hK _ ?_; clear hK) | (refine wSeq fun K hK => ?_) | ((first | refine wReg ?_ | refine wDrwQ rfl (by kernel_rfl) ?_ | refine wDrwI ?_ | refine wDrw (by kernel_rfl) ?_); simp only [List.map_cons, List.map_nil, strip]) | ((first | refine wIs fun K hK => ?_ | refine wOs fun K hK => ?_ | refine wQs fun K hK => ?_ | refine CallK_plain ?_ | refine CallQ_plain ?_ | refine CallR_plain ?_ | refine wCond ?_); simp [h]) | (refine wIn ?_; refine And.intro (by kernel_rfl) ?_; try simp only [thenA_n]) | (first | refine wBlock ?_ | refine wScope ?_) | ((first | refine wRet ?_ | refine wExit ?_ | refine wSkip ?_); try simp) | ((first | refine wLabel ?_ | refine wOn ?_ | refine wQn ?_); try simp only [thenA_n]) | (refine CallE.pure (c) rfl ?_) | (refine CallE.lent (c) rfl ?_) | (refine CallF.pure (c) rfl ?_) | (refine CallF.lent (c) rfl ?_) | (refine CallE.own (c) ?_) | (refine CallH.pure (c) rfl ?_) | (refine CallH.lent (c) rfl ?_) | (refine CallH.own (c) ?_)
   all_goals first | apply hr
   all_goals refine ⟨[], by simp, by simp, ?_⟩
   all_goals simp [Try.f100, outR, outB, renB, gaN, h, show ByteArray.empty = bs [] from rfl]
 ·rw [if_neg h0]
  refine wBodyG Try.tab Try.mixed Try.func100 rfl rfl Try.ntmps100 (by simp) (by simp) fun Q hr hn hp => ?_
  repeat' first | (refine hK _ ?_; clear hK) | (refine hK _ _ ?_; clear hK) | (clear hK; refine hK _ ?_; clear hK) | (clear hK; clear hK; refine hK _ ?_; clear hK) | (clear hK; clear hK; clear hK; refine hK _ ?_; clear hK) | (clear hK; clear hK; clear hK; clear hK; refine hK _ ?_; clear hK) | (refine wSeq fun K hK => ?_) | ((first | refine wReg ?_ | refine wDrwQ rfl (by kernel_rfl) ?_ | refine wDrwI ?_ | refine wDrw (by kernel_rfl) ?_); simp only [List.map_cons, List.map_nil, strip]) | ((first | refine wIs fun K hK => ?_ | refine wOs fun K hK => ?_ | refine wQs fun K hK => ?_ | refine CallK_plain ?_ | refine CallQ_plain ?_ | refine CallR_plain ?_ | refine wCond ?_); simp [h0]) | (refine wIn ?_; refine And.intro (by kernel_rfl) ?_; try simp only [thenA_n]) | (first | refine wBlock ?_ | refine wScope ?_) | ((first | refine wRet ?_ | refine wExit ?_ | refine wSkip ?_); try simp) | ((first | refine wLabel ?_ | refine wOn ?_ | refine wQn ?_); try simp only [thenA_n])
  all_goals first | apply hr
  all_goals refine ⟨[], by simp, by simp, ?_⟩
  all_goals simp [Try.f100, outR, outB, renB, gaN, h0, show ByteArray.empty = bs [] from rfl]
theorem itext : IRn 106 foS := by
 intro b st hb
 show Con _ _ _ _ (.ret (.p (SB (rdS b st).1)) [] (iB b (rdS b st).2))
 obtain ⟨e, a⟩ := st
 have c := text01_con b a hb
 rw [textT_eq] at c
 unfold rdS
 by_cases h0 : e = 0
 ·subst h0
  rw [if_pos rfl]
  simp only
  generalize textP b a = r at *
  obtain ⟨n, k, e⟩ := r
  simp only at c ⊢
  by_cases h : e = 0
  ·subst h
   rw [if_pos rfl]
   refine wBodyG Try.tab Try.mixed Try.func106 rfl rfl Try.ntmps106 (by simp) (by simp) fun Q hr hn hp => ?_
   repeat' first | (refine hK _ ?_; clear hK) | (refine hK _ _ ?_; clear hK) | (clear hK; refine hK _ ?_; clear hK) | (clear hK; clear hK; refine hK _ ?_; clear hK) | (clear hK; clear hK; clear hK; refine hK _ ?_; clear hK) | (clear hK; clear hK; clear hK; clear hK; refine hK _ ?_; clear hK) | (refine wSeq fun K hK => ?_) | ((first | refine wReg ?_ | refine wDrwQ rfl (by kernel_rfl) ?_ | refine wDrwI ?_ | refine wDrw (by kernel_rfl) ?_); simp only [List.map_cons, List.map_nil, strip]) | ((first | refine wIs fun K hK => ?_ | refine wOs fun K hK => ?_ | refine wQs fun K hK => ?_ | refine CallK_plain ?_ | refine CallQ_plain ?_ | refine CallR_plain ?_ | refine wCond ?_); simp) | (refine wIn ?_; refine And.intro (by kernel_rfl) ?_; try simp only [thenA_n]) | (first | refine wBlock ?_ | refine wScope ?_) | ((first | refine wRet ?_ | refine wExit ?_ | refine wSkip ?_); try simp) | ((first | refine wLabel ?_ | refine wOn ?_ | refine wQn ?_); try simp only [thenA_n]) | (refine CallE.pure (c) rfl ?_) | (refine CallE.lent (c) rfl ?_) | (refine CallF.pure (c) rfl ?_) | (refine CallF.lent (c) rfl ?_) | (refine CallE.own (c) ?_) | (refine CallH.pure (c) rfl ?_) | (refine CallH.lent (c) rfl ?_) | (refine CallH.own (c) ?_)
   all_goals first | apply hr
   all_goals refine ⟨[], by simp, by simp, ?_⟩
   all_goals simp [Try.f106, outR, outB, renB, gaN]
  ·rw [if_neg h]
   refine wBodyG Try.tab Try.mixed Try.func106 rfl rfl Try.ntmps106 (by simp) (by simp) fun Q hr hn hp => ?_
   repeat' first | (refine hK _ ?_; clear hK) | (refine hK _ _ ?_; clear hK) | (clear hK; refine hK _ ?_; clear hK) | (clear hK; clear hK; refine hK _ ?_; clear hK) | (clear hK; clear hK; clear hK; refine hK _ ?_; clear hK) | (clear hK; clear hK; clear hK; clear hK; refine hK _ ?_; clear hK) | (refine wSeq fun K hK => ?_) | ((first | refine wReg ?_ | refine wDrwQ rfl (by kernel_rfl) ?_ | refine wDrwI ?_ | refine wDrw (by kernel_rfl) ?_); simp only [List.map_cons, List.map_nil, strip]) | ((first | refine wIs fun K hK => ?_ | refine wOs fun K hK => ?_ | refine wQs fun K hK => ?_ | refine CallK_plain ?_ | refine CallQ_plain ?_ | refine CallR_plain ?_ | refine wCond ?_); simp [h]) | (refine wIn ?_; refine And.intro (by kernel_rfl) ?_; try simp only [thenA_n]) | (first | refine wBlock ?_ | refine wScope ?_) | ((first | refine wRet ?_ | refine wExit ?_ | refine wSkip ?_); try simp) | ((first | refine wLabel ?_ | refine wOn ?_ | refine wQn ?_); try simp only [thenA_n]) | (refine CallE.pure (c) rfl ?_) | (refine CallE.lent (c) rfl ?_) | (refine CallF.pure (c) rfl ?_) | (refine CallF.lent (c) rfl ?_) | (refine CallE.own (c) ?_) | (refine CallH.pure (c) rfl ?_) | (refine CallH.lent (c) rfl ?_) | (refine CallH.own (c) ?_)
   all_goals first | apply hr
   all_goals refine ⟨[], by simp, by simp, ?_⟩
   all_goals simp [Try.f106, outR, outB, renB, gaN, h, show ByteArray.empty = bs [] from rfl]
 ·rw [if_neg h0]
  refine wBodyG Try.tab Try.mixed Try.func106 rfl rfl Try.ntmps106 (by simp) (by simp) fun Q hr hn hp => ?_
  repeat' first | (refine hK _ ?_; clear hK) | (refine hK _ _ ?_; clear hK) | (clear hK; refine hK _ ?_; clear hK) | (clear hK; clear hK; refine hK _ ?_; clear hK) | (clear hK; clear hK; clear hK; refine hK _ ?_; clear hK) | (clear hK; clear hK; clear hK; clear hK; refine hK _ ?_; clear hK) | (refine wSeq fun K hK => ?_) | ((first | refine wReg ?_ | refine wDrwQ rfl (by kernel_rfl) ?_ | refine wDrwI ?_ | refine wDrw (by kernel_rfl) ?_); simp only [List.map_cons, List.map_nil, strip]) | ((first | refine wIs fun K hK => ?_ | refine wOs fun K hK => ?_ | refine wQs fun K hK => ?_ | refine CallK_plain ?_ | refine CallQ_plain ?_ | refine CallR_plain ?_ | refine wCond ?_); simp [h0]) | (refine wIn ?_; refine And.intro (by kernel_rfl) ?_; try simp only [thenA_n]) | (first | refine wBlock ?_ | refine wScope ?_) | ((first | refine wRet ?_ | refine wExit ?_ | refine wSkip ?_); try simp) | ((first | refine wLabel ?_ | refine wOn ?_ | refine wQn ?_); try simp only [thenA_n])
  all_goals first | apply hr
  all_goals refine ⟨[], by simp, by simp, ?_⟩
  all_goals simp [Try.f106, outR, outB, renB, gaN, h0, show ByteArray.empty = bs [] from rfl]
theorem iflag : IRn 147 foB := by
 intro b st hb
 show Con _ _ _ _ (.ret (.p (B (rdB b st).1)) [] (iB b (rdB b st).2))
 have c := inum b st hb
 change Con _ _ _ _ (.ret (.p (I (rdN b st).1)) [] (iB b (rdN b st).2)) at c
 unfold rdB
 generalize rdN b st = r at *
 obtain ⟨n, e, k⟩ := r
 simp only at c ⊢
 have h1' : (n = 1) = decide (n = 1) := by simp
 by_cases h : e = 0
 rotate_left
 ·rw [if_neg (by simp [h])]
  refine wBodyG Try.tab Try.mixed Try.func147 rfl rfl Try.ntmps147 (by simp) (by simp) fun Q hr hn hp => ?_
  repeat' first | (refine CallK_gen [1024] (c) (by decide) (by decide) (by simp [blksOf, inN, pos, renB, renC, renCs, ren0, lv, ouN, kpI, kpR]) (by simp [argsG, argG, ren0, inN, pos, renCs, renC]) ⟨[], by simp, by simp, ?_⟩; simp [lv, ouN, kpI, kpR, pos, ren, ren0, renB, renC, renCs, renF, renFs]) | (refine hK _ ?_; clear hK) | (refine hK _ _ ?_; clear hK) | (clear hK; refine hK _ ?_; clear hK) | (clear hK; clear hK; refine hK _ ?_; clear hK) | (clear hK; clear hK; clear hK; refine hK _ ?_; clear hK) | (clear hK; clear hK; clear hK; clear hK; refine hK _ ?_; clear hK) | (refine wSeq fun K hK => ?_) | ((first | refine wReg ?_ | refine wDrwQ rfl (by kernel_rfl) ?_ | refine wDrwI ?_ | refine wDrw (by kernel_rfl) ?_); simp only [List.map_cons, List.map_nil, strip]) | ((first | refine wIs fun K hK => ?_ | refine wOs fun K hK => ?_ | refine wQs fun K hK => ?_ | refine CallK_plain ?_ | refine CallQ_plain ?_ | refine CallR_plain ?_ | refine wCond ?_); simp [h, lv, ouN, kpI, kpR, pos, ren, ren0, renB, renC, renCs]) | (refine wIn ?_; refine And.intro (by kernel_rfl) ?_; try simp only [thenA_n]) | (first | refine wBlock ?_ | refine wScope ?_) | ((first | refine wRet ?_ | refine wExit ?_ | refine wSkip ?_); try simp) | ((first | refine wLabel ?_ | refine wOn ?_ | refine wQn ?_); try simp only [thenA_n])
  all_goals first | apply hr
  all_goals refine ⟨[], by simp, by simp, ?_⟩
  all_goals simp [Try.f147, h, show (n == 1) = decide (n = 1) from rfl, outR, outB, renB, gaN, lv, ouN, kpI, kpR, pos, ren, ren0, renC, renCs]
 subst h
 by_cases h0 : n = 0
 ·have h0' : (n = 0) = True := eq_true h0
  have h1' : (n = 1) = False := eq_false (by omega)
  rw [if_neg (by simp [h0]), show decide (n = 1) = false from decide_eq_false (by omega)]
  clear h0
  refine wBodyG Try.tab Try.mixed Try.func147 rfl rfl Try.ntmps147 (by simp) (by simp) fun Q hr hn hp => ?_
  repeat' first | (refine CallK_gen [1024] (c) (by decide) (by decide) (by simp [blksOf, inN, pos, renB, renC, renCs, ren0, lv, ouN, kpI, kpR]) (by simp [argsG, argG, ren0, inN, pos, renCs, renC]) ⟨[], by simp, by simp, ?_⟩; simp [lv, ouN, kpI, kpR, pos, ren, ren0, renB, renC, renCs, renF, renFs]) | (refine hK _ ?_; clear hK) | (refine hK _ _ ?_; clear hK) | (clear hK; refine hK _ ?_; clear hK) | (clear hK; clear hK; refine hK _ ?_; clear hK) | (clear hK; clear hK; clear hK; refine hK _ ?_; clear hK) | (clear hK; clear hK; clear hK; clear hK; refine hK _ ?_; clear hK) | (refine wSeq fun K hK => ?_) | ((first | refine wReg ?_ | refine wDrwQ rfl (by kernel_rfl) ?_ | refine wDrwI ?_ | refine wDrw (by kernel_rfl) ?_); simp only [List.map_cons, List.map_nil, strip]) | ((first | refine wIs fun K hK => ?_ | refine wOs fun K hK => ?_ | refine wQs fun K hK => ?_ | refine CallK_plain ?_ | refine CallQ_plain ?_ | refine CallR_plain ?_ | refine wCond ?_); simp [h0', h1', lv, ouN, kpI, kpR, pos, ren, ren0, renB, renC, renCs]) | (refine wIn ?_; refine And.intro (by kernel_rfl) ?_; try simp only [thenA_n]) | (first | refine wBlock ?_ | refine wScope ?_) | ((first | refine wRet ?_ | refine wExit ?_ | refine wSkip ?_); try simp) | ((first | refine wLabel ?_ | refine wOn ?_ | refine wQn ?_); try simp only [thenA_n])
  all_goals first | apply hr
  all_goals refine ⟨[], by simp, by simp, ?_⟩
  all_goals simp [Try.f147, h0', h1', outR, outB, renB, gaN, lv, ouN, kpI, kpR, pos, ren, ren0, renC, renCs]
 by_cases h1 : n = 1
 ·have h0' : (n = 0) = False := eq_false h0
  have h1' : (n = 1) = True := eq_true h1
  rw [if_neg (by simp [h1]), show decide (n = 1) = true from decide_eq_true h1]
  clear h0 h1
  refine wBodyG Try.tab Try.mixed Try.func147 rfl rfl Try.ntmps147 (by simp) (by simp) fun Q hr hn hp => ?_
  repeat' first | (refine CallK_gen [1024] (c) (by decide) (by decide) (by simp [blksOf, inN, pos, renB, renC, renCs, ren0, lv, ouN, kpI, kpR]) (by simp [argsG, argG, ren0, inN, pos, renCs, renC]) ⟨[], by simp, by simp, ?_⟩; simp [lv, ouN, kpI, kpR, pos, ren, ren0, renB, renC, renCs, renF, renFs]) | (refine hK _ ?_; clear hK) | (refine hK _ _ ?_; clear hK) | (clear hK; refine hK _ ?_; clear hK) | (clear hK; clear hK; refine hK _ ?_; clear hK) | (clear hK; clear hK; clear hK; refine hK _ ?_; clear hK) | (clear hK; clear hK; clear hK; clear hK; refine hK _ ?_; clear hK) | (refine wSeq fun K hK => ?_) | ((first | refine wReg ?_ | refine wDrwQ rfl (by kernel_rfl) ?_ | refine wDrwI ?_ | refine wDrw (by kernel_rfl) ?_); simp only [List.map_cons, List.map_nil, strip]) | ((first | refine wIs fun K hK => ?_ | refine wOs fun K hK => ?_ | refine wQs fun K hK => ?_ | refine CallK_plain ?_ | refine CallQ_plain ?_ | refine CallR_plain ?_ | refine wCond ?_); simp [h0', h1', lv, ouN, kpI, kpR, pos, ren, ren0, renB, renC, renCs]) | (refine wIn ?_; refine And.intro (by kernel_rfl) ?_; try simp only [thenA_n]) | (first | refine wBlock ?_ | refine wScope ?_) | ((first | refine wRet ?_ | refine wExit ?_ | refine wSkip ?_); try simp) | ((first | refine wLabel ?_ | refine wOn ?_ | refine wQn ?_); try simp only [thenA_n])
  all_goals first | apply hr
  all_goals refine ⟨[], by simp, by simp, ?_⟩
  all_goals simp [Try.f147, h0', h1', outR, outB, renB, gaN, lv, ouN, kpI, kpR, pos, ren, ren0, renC, renCs]
 ·have h0' : (n = 0) = False := eq_false h0
  have h1' : (n = 1) = False := eq_false h1
  rw [if_pos (by simp [h0, h1])]
  clear h0 h1
  refine wBodyG Try.tab Try.mixed Try.func147 rfl rfl Try.ntmps147 (by simp) (by simp) fun Q hr hn hp => ?_
  repeat' first | (refine CallK_gen [1024] (c) (by decide) (by decide) (by simp [blksOf, inN, pos, renB, renC, renCs, ren0, lv, ouN, kpI, kpR]) (by simp [argsG, argG, ren0, inN, pos, renCs, renC]) ⟨[], by simp, by simp, ?_⟩; simp [lv, ouN, kpI, kpR, pos, ren, ren0, renB, renC, renCs, renF, renFs]) | (refine hK _ ?_; clear hK) | (refine hK _ _ ?_; clear hK) | (clear hK; refine hK _ ?_; clear hK) | (clear hK; clear hK; refine hK _ ?_; clear hK) | (clear hK; clear hK; clear hK; refine hK _ ?_; clear hK) | (clear hK; clear hK; clear hK; clear hK; refine hK _ ?_; clear hK) | (refine wSeq fun K hK => ?_) | ((first | refine wReg ?_ | refine wDrwQ rfl (by kernel_rfl) ?_ | refine wDrwI ?_ | refine wDrw (by kernel_rfl) ?_); simp only [List.map_cons, List.map_nil, strip]) | ((first | refine wIs fun K hK => ?_ | refine wOs fun K hK => ?_ | refine wQs fun K hK => ?_ | refine CallK_plain ?_ | refine CallQ_plain ?_ | refine CallR_plain ?_ | refine wCond ?_); simp [h0', h1', lv, ouN, kpI, kpR, pos, ren, ren0, renB, renC, renCs]) | (refine wIn ?_; refine And.intro (by kernel_rfl) ?_; try simp only [thenA_n]) | (first | refine wBlock ?_ | refine wScope ?_) | ((first | refine wRet ?_ | refine wExit ?_ | refine wSkip ?_); try simp) | ((first | refine wLabel ?_ | refine wOn ?_ | refine wQn ?_); try simp only [thenA_n])
  all_goals first | apply hr
  all_goals refine ⟨[], by simp, by simp, ?_⟩
  all_goals simp [Try.f147, h0', h1', outR, outB, renB, gaN, lv, ouN, kpI, kpR, pos, ren, ren0, renC, renCs]
theorem icount (b : List UInt8) (st : RS) (hb : b.length <= 1000000000) : Con Try.prog 132 [.ptr 1024 0] (iB b st) (.ret (.p (I (rdC b st).1)) [] (iB b (rdC b st).2)) := by
 have c := inum b st hb
 change Con _ _ _ _ (.ret (.p (I (rdN b st).1)) [] (iB b (rdN b st).2)) at c
 unfold rdC
 generalize rdN b st = r at *
 obtain ⟨n, e, k⟩ := r
 simp only at c ⊢
 by_cases h : e = 0
 rotate_left
 ·rw [if_pos h]
  refine wBodyG Try.tab Try.mixed Try.func132 rfl rfl Try.ntmps132 (by simp) (by simp) fun Q hr hn hp => ?_
  repeat' first | (refine CallK_gen [1024] (c) (by decide) (by decide) (by simp [blksOf, inN, pos, renB, renC, renCs, ren0, lv, ouN, kpI, kpR]) (by simp [argsG, argG, ren0, inN, pos, renCs, renC]) ⟨[], by simp, by simp, ?_⟩; simp [lv, ouN, kpI, kpR, pos, ren, ren0, renB, renC, renCs, renF, renFs]) | (refine hK _ ?_; clear hK) | (refine hK _ _ ?_; clear hK) | (clear hK; refine hK _ ?_; clear hK) | (clear hK; clear hK; refine hK _ ?_; clear hK) | (clear hK; clear hK; clear hK; refine hK _ ?_; clear hK) | (clear hK; clear hK; clear hK; clear hK; refine hK _ ?_; clear hK) | (refine wSeq fun K hK => ?_) | ((first | refine wReg ?_ | refine wDrwQ rfl (by kernel_rfl) ?_ | refine wDrwI ?_ | refine wDrw (by kernel_rfl) ?_); simp only [List.map_cons, List.map_nil, strip]) | ((first | refine wIs fun K hK => ?_ | refine wOs fun K hK => ?_ | refine wQs fun K hK => ?_ | refine CallK_plain ?_ | refine CallQ_plain ?_ | refine CallR_plain ?_ | refine wCond ?_); simp [h, lv, ouN, kpI, kpR, pos, ren, ren0, renB, renC, renCs]) | (refine wIn ?_; refine And.intro (by kernel_rfl) ?_; try simp only [thenA_n]) | (first | refine wBlock ?_ | refine wScope ?_) | ((first | refine wRet ?_ | refine wExit ?_ | refine wSkip ?_); try simp) | ((first | refine wLabel ?_ | refine wOn ?_ | refine wQn ?_); try simp only [thenA_n])
  all_goals first | apply hr
  all_goals refine ⟨[], by simp, by simp, ?_⟩
  all_goals simp [Try.f132, h, outR, outB, renB, gaN, lv, ouN, kpI, kpR, pos, ren, ren0, renC, renCs]
 subst h
 rw [if_neg (by simp)]
 by_cases h1 : n < 0
 ·rw [if_pos h1]
  refine wBodyG Try.tab Try.mixed Try.func132 rfl rfl Try.ntmps132 (by simp) (by simp) fun Q hr hn hp => ?_
  repeat' first | (refine CallK_gen [1024] (c) (by decide) (by decide) (by simp [blksOf, inN, pos, renB, renC, renCs, ren0, lv, ouN, kpI, kpR]) (by simp [argsG, argG, ren0, inN, pos, renCs, renC]) ⟨[], by simp, by simp, ?_⟩; simp [lv, ouN, kpI, kpR, pos, ren, ren0, renB, renC, renCs, renF, renFs]) | (refine hK _ ?_; clear hK) | (refine hK _ _ ?_; clear hK) | (clear hK; refine hK _ ?_; clear hK) | (clear hK; clear hK; refine hK _ ?_; clear hK) | (clear hK; clear hK; clear hK; refine hK _ ?_; clear hK) | (clear hK; clear hK; clear hK; clear hK; refine hK _ ?_; clear hK) | (refine wSeq fun K hK => ?_) | ((first | refine wReg ?_ | refine wDrwQ rfl (by kernel_rfl) ?_ | refine wDrwI ?_ | refine wDrw (by kernel_rfl) ?_); simp only [List.map_cons, List.map_nil, strip]) | ((first | refine wIs fun K hK => ?_ | refine wOs fun K hK => ?_ | refine wQs fun K hK => ?_ | refine CallK_plain ?_ | refine CallQ_plain ?_ | refine CallR_plain ?_ | refine wCond ?_); simp [h1, lv, ouN, kpI, kpR, pos, ren, ren0, renB, renC, renCs]) | (refine wIn ?_; refine And.intro (by kernel_rfl) ?_; try simp only [thenA_n]) | (first | refine wBlock ?_ | refine wScope ?_) | ((first | refine wRet ?_ | refine wExit ?_ | refine wSkip ?_); try simp) | ((first | refine wLabel ?_ | refine wOn ?_ | refine wQn ?_); try simp only [thenA_n])
  all_goals first | apply hr
  all_goals refine ⟨[], by simp, by simp, ?_⟩
  all_goals simp [Try.f132, h1, outR, outB, renB, gaN, lv, ouN, kpI, kpR, pos, ren, ren0, renC, renCs]
 rw [if_neg h1]
 by_cases h2 : 1000 < n
 ·rw [if_pos h2]
  refine wBodyG Try.tab Try.mixed Try.func132 rfl rfl Try.ntmps132 (by simp) (by simp) fun Q hr hn hp => ?_
  repeat' first | (refine CallK_gen [1024] (c) (by decide) (by decide) (by simp [blksOf, inN, pos, renB, renC, renCs, ren0, lv, ouN, kpI, kpR]) (by simp [argsG, argG, ren0, inN, pos, renCs, renC]) ⟨[], by simp, by simp, ?_⟩; simp [lv, ouN, kpI, kpR, pos, ren, ren0, renB, renC, renCs, renF, renFs]) | (refine hK _ ?_; clear hK) | (refine hK _ _ ?_; clear hK) | (clear hK; refine hK _ ?_; clear hK) | (clear hK; clear hK; refine hK _ ?_; clear hK) | (clear hK; clear hK; clear hK; refine hK _ ?_; clear hK) | (clear hK; clear hK; clear hK; clear hK; refine hK _ ?_; clear hK) | (refine wSeq fun K hK => ?_) | ((first | refine wReg ?_ | refine wDrwQ rfl (by kernel_rfl) ?_ | refine wDrwI ?_ | refine wDrw (by kernel_rfl) ?_); simp only [List.map_cons, List.map_nil, strip]) | ((first | refine wIs fun K hK => ?_ | refine wOs fun K hK => ?_ | refine wQs fun K hK => ?_ | refine CallK_plain ?_ | refine CallQ_plain ?_ | refine CallR_plain ?_ | refine wCond ?_); simp [h1, h2, lv, ouN, kpI, kpR, pos, ren, ren0, renB, renC, renCs]) | (refine wIn ?_; refine And.intro (by kernel_rfl) ?_; try simp only [thenA_n]) | (first | refine wBlock ?_ | refine wScope ?_) | ((first | refine wRet ?_ | refine wExit ?_ | refine wSkip ?_); try simp) | ((first | refine wLabel ?_ | refine wOn ?_ | refine wQn ?_); try simp only [thenA_n])
  all_goals first | apply hr
  all_goals refine ⟨[], by simp, by simp, ?_⟩
  all_goals simp [Try.f132, h1, h2, outR, outB, renB, gaN, lv, ouN, kpI, kpR, pos, ren, ren0, renC, renCs]
 ·rw [if_neg h2]
  refine wBodyG Try.tab Try.mixed Try.func132 rfl rfl Try.ntmps132 (by simp) (by simp) fun Q hr hn hp => ?_
  repeat' first | (refine CallK_gen [1024] (c) (by decide) (by decide) (by simp [blksOf, inN, pos, renB, renC, renCs, ren0, lv, ouN, kpI, kpR]) (by simp [argsG, argG, ren0, inN, pos, renCs, renC]) ⟨[], by simp, by simp, ?_⟩; simp [lv, ouN, kpI, kpR, pos, ren, ren0, renB, renC, renCs, renF, renFs]) | (refine hK _ ?_; clear hK) | (refine hK _ _ ?_; clear hK) | (clear hK; refine hK _ ?_; clear hK) | (clear hK; clear hK; refine hK _ ?_; clear hK) | (clear hK; clear hK; clear hK; refine hK _ ?_; clear hK) | (clear hK; clear hK; clear hK; clear hK; refine hK _ ?_; clear hK) | (refine wSeq fun K hK => ?_) | ((first | refine wReg ?_ | refine wDrwQ rfl (by kernel_rfl) ?_ | refine wDrwI ?_ | refine wDrw (by kernel_rfl) ?_); simp only [List.map_cons, List.map_nil, strip]) | ((first | refine wIs fun K hK => ?_ | refine wOs fun K hK => ?_ | refine wQs fun K hK => ?_ | refine CallK_plain ?_ | refine CallQ_plain ?_ | refine CallR_plain ?_ | refine wCond ?_); simp [h1, h2, lv, ouN, kpI, kpR, pos, ren, ren0, renB, renC, renCs]) | (refine wIn ?_; refine And.intro (by kernel_rfl) ?_; try simp only [thenA_n]) | (first | refine wBlock ?_ | refine wScope ?_) | ((first | refine wRet ?_ | refine wExit ?_ | refine wSkip ?_); try simp) | ((first | refine wLabel ?_ | refine wOn ?_ | refine wQn ?_); try simp only [thenA_n])
  all_goals first | apply hr
  all_goals refine ⟨[], by simp, by simp, ?_⟩
  all_goals simp [Try.f132, h1, h2, outR, outB, renB, gaN, lv, ouN, kpI, kpR, pos, ren, ren0, renC, renCs]
set_option maxHeartbeats 4000000 in
theorem iZx : IRn 99 fZx := by
 intro b st hb
 have c0 := inum b st hb
 obtain ⟨x0, s0, e0⟩ := foI_got b st
 rw [e0] at c0
 simp only [vOf1, vOf2] at c0
 have c1 := inum b s0 hb
 obtain ⟨x1, s1, e1⟩ := foI_got b s0
 rw [e1] at c1
 simp only [vOf1, vOf2] at c1
 have hz : fZx.rd b st = ([I x0, I x1], s1) := by simp only [fZx, sq_rd, e0, e1, List.cons_append, List.nil_append]
 rw [hz]
 clear e0 e1 hz
 simp only [vOf2]
 refine wBodyG Try.tab Try.mixed Try.func99 rfl rfl Try.ntmps99 (by simp) (by simp) fun Q hr hn hp => ?_
 repeat' first | (refine CallK_gen [1024] c0 (by decide) (by decide) (by simp [blksOf, inN, pos, renB, ren0, ouN, lv, kpI, kpR]) (by simp [argsG, argG, ren0, inN, pos, renCs, renC]) ⟨[], by simp, by simp, ?_⟩; simp [lv, ouN, kpI, kpR, pos, ren, ren0, renB, renC, renCs]; clear c0) | (refine CallK_gen [1024] c1 (by decide) (by decide) (by simp [blksOf, inN, pos, renB, ren0, ouN, lv, kpI, kpR]) (by simp [argsG, argG, ren0, inN, pos, renCs, renC]) ⟨[], by simp, by simp, ?_⟩; simp [lv, ouN, kpI, kpR, pos, ren, ren0, renB, renC, renCs]; clear c1) | (refine hK _ ?_; clear hK) | (refine hK _ _ ?_; clear hK) | (clear hK; refine hK _ ?_; clear hK) | (clear hK; clear hK; refine hK _ ?_; clear hK) | (clear hK; clear hK; clear hK; refine hK _ ?_; clear hK) | (clear hK; clear hK; clear hK; clear hK; refine hK _ ?_; clear hK) | (refine wSeq fun K hK => ?_) | ((first | refine wReg ?_ | refine wDrwQ rfl (by kernel_rfl) ?_ | refine wDrwI ?_ | refine wDrw (by kernel_rfl) ?_); simp only [List.map_cons, List.map_nil, strip]) | ((first | refine wIs fun K hK => ?_ | refine wOs fun K hK => ?_ | refine wQs fun K hK => ?_ | refine CallK_plain ?_ | refine CallQ_plain ?_ | refine CallR_plain ?_ | refine wCond ?_); simp [lv, ouN, kpI, kpR, pos, ren, ren0, renB, renC, renCs]) | (refine wIn ?_; refine And.intro (by kernel_rfl) ?_; try simp only [thenA_n]) | (first | refine wBlock ?_ | refine wScope ?_) | ((first | refine wRet ?_ | refine wExit ?_ | refine wSkip ?_); try simp) | ((first | refine wLabel ?_ | refine wOn ?_ | refine wQn ?_); try simp only [thenA_n])
 all_goals first | apply hr
 all_goals refine ⟨[], by simp, by simp, ?_⟩
 all_goals simp [Try.f99, outR, outB, renB, gaN, lv, ouN, kpI, kpR, pos, ren, ren0, renC, renCs]
set_option maxHeartbeats 4000000 in
theorem iMb : IRn 133 fMb := by
 intro b st hb
 have c0 := inum b st hb
 obtain ⟨x0, s0, e0⟩ := foI_got b st
 rw [e0] at c0
 simp only [vOf1, vOf2] at c0
 have c1 := inum b s0 hb
 obtain ⟨x1, s1, e1⟩ := foI_got b s0
 rw [e1] at c1
 simp only [vOf1, vOf2] at c1
 have c2 := inum b s1 hb
 obtain ⟨x2, s2, e2⟩ := foI_got b s1
 rw [e2] at c2
 simp only [vOf1, vOf2] at c2
 have c3 := inum b s2 hb
 obtain ⟨x3, s3, e3⟩ := foI_got b s2
 rw [e3] at c3
 simp only [vOf1, vOf2] at c3
 have hz : fMb.rd b st = ([I x0, I x1, I x2, I x3], s3) := by simp only [fMb, sq_rd, e0, e1, e2, e3, List.cons_append, List.nil_append]
 rw [hz]
 clear e0 e1 e2 e3 hz
 simp only [vOf2]
 refine wBodyG Try.tab Try.mixed Try.func133 rfl rfl Try.ntmps133 (by simp) (by simp) fun Q hr hn hp => ?_
 repeat' first | (refine CallK_gen [1024] c0 (by decide) (by decide) (by simp [blksOf, inN, pos, renB, ren0, ouN, lv, kpI, kpR]) (by simp [argsG, argG, ren0, inN, pos, renCs, renC]) ⟨[], by simp, by simp, ?_⟩; simp [lv, ouN, kpI, kpR, pos, ren, ren0, renB, renC, renCs]; clear c0) | (refine CallK_gen [1024] c1 (by decide) (by decide) (by simp [blksOf, inN, pos, renB, ren0, ouN, lv, kpI, kpR]) (by simp [argsG, argG, ren0, inN, pos, renCs, renC]) ⟨[], by simp, by simp, ?_⟩; simp [lv, ouN, kpI, kpR, pos, ren, ren0, renB, renC, renCs]; clear c1) | (refine CallK_gen [1024] c2 (by decide) (by decide) (by simp [blksOf, inN, pos, renB, ren0, ouN, lv, kpI, kpR]) (by simp [argsG, argG, ren0, inN, pos, renCs, renC]) ⟨[], by simp, by simp, ?_⟩; simp [lv, ouN, kpI, kpR, pos, ren, ren0, renB, renC, renCs]; clear c2) | (refine CallK_gen [1024] c3 (by decide) (by decide) (by simp [blksOf, inN, pos, renB, ren0, ouN, lv, kpI, kpR]) (by simp [argsG, argG, ren0, inN, pos, renCs, renC]) ⟨[], by simp, by simp, ?_⟩; simp [lv, ouN, kpI, kpR, pos, ren, ren0, renB, renC, renCs]; clear c3) | (refine hK _ ?_; clear hK) | (refine hK _ _ ?_; clear hK) | (clear hK; refine hK _ ?_; clear hK) | (clear hK; clear hK; refine hK _ ?_; clear hK) | (clear hK; clear hK; clear hK; refine hK _ ?_; clear hK) | (clear hK; clear hK; clear hK; clear hK; refine hK _ ?_; clear hK) | (refine wSeq fun K hK => ?_) | ((first | refine wReg ?_ | refine wDrwQ rfl (by kernel_rfl) ?_ | refine wDrwI ?_ | refine wDrw (by kernel_rfl) ?_); simp only [List.map_cons, List.map_nil, strip]) | ((first | refine wIs fun K hK => ?_ | refine wOs fun K hK => ?_ | refine wQs fun K hK => ?_ | refine CallK_plain ?_ | refine CallQ_plain ?_ | refine CallR_plain ?_ | refine wCond ?_); simp [lv, ouN, kpI, kpR, pos, ren, ren0, renB, renC, renCs]) | (refine wIn ?_; refine And.intro (by kernel_rfl) ?_; try simp only [thenA_n]) | (first | refine wBlock ?_ | refine wScope ?_) | ((first | refine wRet ?_ | refine wExit ?_ | refine wSkip ?_); try simp) | ((first | refine wLabel ?_ | refine wOn ?_ | refine wQn ?_); try simp only [thenA_n])
 all_goals first | apply hr
 all_goals refine ⟨[], by simp, by simp, ?_⟩
 all_goals simp [Try.f133, outR, outB, renB, gaN, lv, ouN, kpI, kpR, pos, ren, ren0, renC, renCs]
set_option maxHeartbeats 8000000 in
theorem ilI : IRn 113 (fl 1 foI) := by
 intro b st hb
 have c0 := icount b st hb
 have hL : (fl 1 foI).rd b st = ([.sl 1 (rdL foI.rd b (rdC b st).1.toNat (rdC b st).2).1], (rdL foI.rd b (rdC b st).1.toNat (rdC b st).2).2) := rfl
 have hbd := rdC_bd b st
 rw [hL, vOf1]
 generalize rdC b st = r at *
 obtain ⟨n, s0⟩ := r
 simp only at *
 obtain ⟨m, rfl⟩ : ∃ m : Nat, n = m := ⟨n.toNat, by omega⟩
 simp only [Int.toNat_natCast]
 clear hL
 refine wBodyG Try.tab Try.mixed Try.func113 rfl rfl Try.ntmps113 (by simp) (by simp) fun Q hr hn hp => ?_
 repeat' first | (refine CallK_gen [1024] c0 (by decide) (by decide) (by simp [blksOf, inN, pos, renB, ren0, ouN, lv, kpI, kpR]) (by simp [argsG, argG, ren0, inN, pos, renCs, renC]) ⟨[], by simp, by simp, ?_⟩; simp [lv, ouN, kpI, kpR, pos, ren, ren0, renB, renC, renCs]) | (refine hK _ ?_; clear hK) | (refine hK _ _ ?_; clear hK) | (clear hK; refine hK _ ?_; clear hK) | (clear hK; clear hK; refine hK _ ?_; clear hK) | (clear hK; clear hK; clear hK; refine hK _ ?_; clear hK) | (clear hK; clear hK; clear hK; clear hK; refine hK _ ?_; clear hK) | (refine wSeq fun K hK => ?_) | ((first | refine wReg ?_ | refine wDrwQ rfl (by kernel_rfl) ?_ | refine wDrwI ?_ | refine wDrw (by kernel_rfl) ?_); simp only [List.map_cons, List.map_nil, strip]) | ((first | refine wIs fun K hK => ?_ | refine wOs fun K hK => ?_ | refine wQs fun K hK => ?_ | refine CallK_plain ?_ | refine CallQ_plain ?_ | refine CallR_plain ?_ | refine wCond ?_); simp [lv, ouN, kpI, kpR, pos, ren, ren0, renB, renC, renCs]) | (refine wIn ?_; refine And.intro (by kernel_rfl) ?_; try simp only [thenA_n]) | (first | refine wBlock ?_ | refine wScope ?_) | ((first | refine wRet ?_ | refine wExit ?_ | refine wSkip ?_); try simp) | ((first | refine wLabel ?_ | refine wOn ?_ | refine wQn ?_); try simp only [thenA_n])
 generalize hF : rdL foI.rd b m s0 = full at *
 refine wLoopG [.row 3 3 1] (fun N st => ∃ k s2 acc, k + N = m /\ acc.length = k /\ full = (acc ++ (rdL foI.rd b N s2).1, (rdL foI.rd b N s2).2) /\ st.s 0 = .ptr 1024 0 /\ st.s 3 = .row 3 /\ st.s 4 = .p (I m) /\ st.s 5 = .p (I k) /\ st.b 1024 = some (.box 119 [.p (.sl 1 (by8 b)), .p (I s2.2), .p (I s2.1)]) /\ st.b 3 = some (.row 3 1 acc)) m ⟨0, s0, [], by simp [hF, lv, ouN, kpI, kpR, pos, ren, ren0, renB, renC, renCs]⟩ fun K N st hL ⟨k, s2, acc, hk, hac, hfu, g0, g3, g4, g5, b0, b3⟩ => ?_
 by_cases hgo : k < m /\ s2.1 = 0
 ·obtain ⟨hlt, z⟩ := hgo
  have hlt' : (k : Int) < (m : Int) := by omega
  have hw := wrapS k m hlt (by omega)
  obtain ⟨M, rfl⟩ : ∃ M, N = M + 1 := ⟨N - 1, by omega⟩
  rw [rdL, if_pos z] at hfu
  have c := inum b s2 hb
  obtain ⟨x0, s3, he⟩ := foI_got b s2
  rw [he] at c hfu
  try simp only [vOf1, vOf2] at c
  simp only at hfu
  obtain ⟨q2, a2⟩ := s2
  simp only at z
  subst z
  simp only at b0
  repeat' first | (refine CallK_gen [1024] c (by decide) (by decide) (by simp [blksOf, inN, pos, renB, ren0, b0]) (by simp [argsG, argG, ren0, inN, pos, renCs, renC]) ⟨[], by simp, by simp, ?_⟩; simp [lv, ouN, kpI, kpR, pos, ren, ren0, renB, renC, renCs, b0]) | (refine And.intro (by omega) ?_) | (refine hK _ ?_; clear hK) | (refine hK _ _ ?_; clear hK) | (clear hK; refine hK _ ?_; clear hK) | (clear hK; clear hK; refine hK _ ?_; clear hK) | (clear hK; clear hK; clear hK; refine hK _ ?_; clear hK) | (clear hK; clear hK; clear hK; clear hK; refine hK _ ?_; clear hK) | (refine wSeq fun K hK => ?_) | ((first | refine wReg ?_ | refine wDrwQ rfl (by kernel_rfl) ?_ | refine wDrwI ?_ | refine wDrw (by kernel_rfl) ?_); simp only [List.map_cons, List.map_nil, strip]) | ((first | refine wIs fun K hK => ?_ | refine wOs fun K hK => ?_ | refine wQs fun K hK => ?_ | refine CallK_plain ?_ | refine CallQ_plain ?_ | refine CallR_plain ?_ | refine wCond ?_); simp [g0, g3, g4, g5, b0, b3, hlt, hlt', hw, lv, ouN, kpI, kpR, pos, ren, ren0, renB, renC, renCs]) | (refine wIn ?_; refine And.intro (by kernel_rfl) ?_; try simp only [thenA_n]) | (first | refine wBlock ?_ | refine wScope ?_) | ((first | refine wRet ?_ | refine wExit ?_ | refine wSkip ?_); try simp) | ((first | refine wLabel ?_ | refine wOn ?_ | refine wQn ?_); try simp only [thenA_n])
  refine hL _ M (by omega) ⟨k + 1, s3, acc ++ [[I x0]], by omega, by simp [hac], by rw [hfu]; simp, ?_⟩
  simp [g0, g3, g4, g5, b0, b3, hw, lv, ouN, kpI, kpR, pos, ren, ren0, renB, renC, renCs]
 ·have hend : full = (acc, s2) := by
   rw [hfu]
   by_cases z : s2.1 = 0
   ·obtain rfl : N = 0 := by have : ¬ k < m := fun h => hgo ⟨h, z⟩; omega
    simp [rdL]
   ·obtain ⟨q2, a2⟩ := s2
    rw [rdL_stk _ _ _ _ z]; simp
  rw [hend] at hr
  clear hfu hend
  have f3 : (Av.frz st 3 1 acc).s 3 = .p (.sl 1 acc) := by simp [Av.frz, sub, sub0, g3]
  have f0 : (Av.frz st 3 1 acc).b 1024 = some (.box 119 [.p (.sl 1 (by8 b)), .p (I s2.2), .p (I s2.1)]) := by simp [Av.frz, sub, sub0, subB, b0]
  by_cases hlt : k < m
  ·have hlt' : (k : Int) < (m : Int) := by omega
   have z : (s2.1 = 0) = False := eq_false fun z => hgo ⟨hlt, z⟩
   have f4 : (Av.frz st 3 1 acc).s 4 = .p (I m) := by simp [Av.frz, sub, sub0, g4]
   have f5 : (Av.frz st 3 1 acc).s 5 = .p (I k) := by simp [Av.frz, sub, sub0, g5]
   have f00 : (Av.frz st 3 1 acc).s 0 = .ptr 1024 0 := by simp [Av.frz, sub, sub0, g0]
   repeat' first | (refine wFrzR 3 acc b3 ?_; generalize Av.frz st 3 1 acc = st2 at f3 f0 f4 f5 f00 ⊢) | (refine hK _ ?_; clear hK) | (refine hK _ _ ?_; clear hK) | (clear hK; refine hK _ ?_; clear hK) | (clear hK; clear hK; refine hK _ ?_; clear hK) | (clear hK; clear hK; clear hK; refine hK _ ?_; clear hK) | (clear hK; clear hK; clear hK; clear hK; refine hK _ ?_; clear hK) | (refine wSeq fun K hK => ?_) | ((first | refine wReg ?_ | refine wDrwQ rfl (by kernel_rfl) ?_ | refine wDrwI ?_ | refine wDrw (by kernel_rfl) ?_); simp only [List.map_cons, List.map_nil, strip]) | ((first | refine wIs fun K hK => ?_ | refine wOs fun K hK => ?_ | refine wQs fun K hK => ?_ | refine CallK_plain ?_ | refine CallQ_plain ?_ | refine CallR_plain ?_ | refine wCond ?_); simp [f3, f0, f4, f5, f00, g0, g4, g5, b0, hlt, hlt', z]) | (refine wIn ?_; refine And.intro (by kernel_rfl) ?_; try simp only [thenA_n]) | (first | refine wBlock ?_ | refine wScope ?_) | ((first | refine wRet ?_ | refine wExit ?_ | refine wSkip ?_); try simp) | ((first | refine wLabel ?_ | refine wOn ?_ | refine wQn ?_); try simp only [thenA_n])
   all_goals first | apply hr
   all_goals refine ⟨[], by simp, by simp, ?_⟩
   all_goals simp [Try.f113, outR, outB, renB, gaN, f3, f0]
  ·have hlt' : ¬ (k : Int) < (m : Int) := by omega
   have f4 : (Av.frz st 3 1 acc).s 4 = .p (I m) := by simp [Av.frz, sub, sub0, g4]
   have f5 : (Av.frz st 3 1 acc).s 5 = .p (I k) := by simp [Av.frz, sub, sub0, g5]
   have f00 : (Av.frz st 3 1 acc).s 0 = .ptr 1024 0 := by simp [Av.frz, sub, sub0, g0]
   repeat' first | (refine wFrzR 3 acc b3 ?_; generalize Av.frz st 3 1 acc = st2 at f3 f0 f4 f5 f00 ⊢) | (refine hK _ ?_; clear hK) | (refine hK _ _ ?_; clear hK) | (clear hK; refine hK _ ?_; clear hK) | (clear hK; clear hK; refine hK _ ?_; clear hK) | (clear hK; clear hK; clear hK; refine hK _ ?_; clear hK) | (clear hK; clear hK; clear hK; clear hK; refine hK _ ?_; clear hK) | (refine wSeq fun K hK => ?_) | ((first | refine wReg ?_ | refine wDrwQ rfl (by kernel_rfl) ?_ | refine wDrwI ?_ | refine wDrw (by kernel_rfl) ?_); simp only [List.map_cons, List.map_nil, strip]) | ((first | refine wIs fun K hK => ?_ | refine wOs fun K hK => ?_ | refine wQs fun K hK => ?_ | refine CallK_plain ?_ | refine CallQ_plain ?_ | refine CallR_plain ?_ | refine wCond ?_); simp [f3, f0, f4, f5, f00, g0, g4, g5, b0, hlt, hlt']) | (refine wIn ?_; refine And.intro (by kernel_rfl) ?_; try simp only [thenA_n]) | (first | refine wBlock ?_ | refine wScope ?_) | ((first | refine wRet ?_ | refine wExit ?_ | refine wSkip ?_); try simp) | ((first | refine wLabel ?_ | refine wOn ?_ | refine wQn ?_); try simp only [thenA_n])
   all_goals first | apply hr
   all_goals refine ⟨[], by simp, by simp, ?_⟩
   all_goals simp [Try.f113, outR, outB, renB, gaN, f3, f0]
end Go.Proofs.Ytleejpddecjhcaa
