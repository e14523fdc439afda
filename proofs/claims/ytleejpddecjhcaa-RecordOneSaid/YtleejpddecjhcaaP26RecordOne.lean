/- Texts that the proof needs: RG6d RG8a RG7 RG7a RG7b RG7c RG9 RGF. -/
import Derived.Test.YtleejpddecjhcaaP24RecordOne
import Derived.Test.YtleejpddecjhcaaP25RecordOne
import Derived.Test.YtleejpddecjhcaaP20RecordOne
/- Records read: states, requests. -/
namespace Go.Proofs.Ytleejpddecjhcaa
set_option linter.unusedSimpArgs false
set_option linter.unusedVariables false
set_option maxRecDepth 8000
open Go Go.Av
attribute [local simp] Try.T1 Try.T2 Try.T3 Try.T4 Try.T5 Try.T9 Try.T12 Try.T15 Try.T16 Try.T17 Try.T21 Try.T22 Try.T24 Try.T25 Try.T26 Try.T28 Try.T29 Try.T30 Try.T31 Try.T33 Try.T35 Try.T36 Try.T37 Try.T38 Try.T39 Try.T40 Try.T41 Try.T42 Try.T43 Try.T44 Try.T45 Try.T47 Try.T48 Try.T50 Try.T51 Try.T53 Try.T55 Try.T57 Try.T58 Try.T59 Try.T60 Try.T61 Try.T63 Try.T64 Try.T66 Try.T67 Try.T69 Try.T70 Try.T71 Try.T73 Try.T75 Try.T76 Try.T78 Try.T80 Try.T82 Try.T83 Try.T84 Try.T85 Try.T86 Try.T87 Try.T88 Try.T89 Try.T90 Try.T91 Try.T92 Try.T93 Try.T94 Try.T95 Try.T96 Try.T97 Try.T98 Try.T99 Try.T100 Try.T101 Try.T102 Try.T103 Try.T104 Try.T105 Try.T106 Try.T107 Try.T108 Try.T109 Try.T111 Try.T112 Try.T113 Try.T114 Try.T115 Try.T116 Try.T117 Try.T119 Try.T120 Try.T121 Try.T122 Try.T123 Try.T124 Try.T125 Try.T126 Try.T127 Try.T128 Try.T129 Try.T130 Try.T131 Try.T132 Try.T133 Try.T134 Try.T136 Try.T137 Try.T138 Try.T139 Try.T140 Try.T141 Try.T142 Try.T143 Try.T144 Try.T145 Try.T146 Try.T147 Try.T148 Try.T149 Try.T150 Try.T151 Try.T152 Try.T153 Try.T154 Try.T155 Try.T156 Try.T157 Try.T158 Try.T160 Try.T161 Try.T162 Try.T163 Try.T164 Try.T165 Try.T166 Try.T167 Try.T168 Try.T169 Try.T170 Try.T171 Try.T172 Try.T173 Try.T174 Try.T175 Try.T176 Try.T177 Try.T178 Try.T179 Try.T180 Try.T181 Try.T182 Try.T183 Try.T184 Try.T185 Try.T186 Try.T187 Try.T188 Try.T189 Try.T190 Try.T191 Try.T192 Try.T194 Try.T195 Try.T197 Try.T198 Try.T199 Try.T200 Try.T201 Try.T202 Try.T203 Try.T205 Try.T206 Try.T209 Try.T212 Try.T215 Try.T216
attribute [local irreducible] Go.Av.CallK Go.Av.CallE Go.Av.CallQ Go.Av.CallF Go.Av.CallR Go.Av.CallH Go.Av.Con
set_option maxHeartbeats 8000000 in
theorem rlNd (b : List UInt8) (a : Int) (hb : b.length ≤ 1000000000) : Con Try.prog 109 [.ptr 1024 0, .p (.v (.func (.func 110) #[] #[]))] (rB b a) (rO b (vOf ((fl 5 fNd).rd b (0, a)).1) ((fl 5 fNd).rd b (0, a)).2) := by
  generalize ho : rO b (vOf ((fl 5 fNd).rd b (0, a)).1) ((fl 5 fNd).rd b (0, a)).2 = out
  have c0 := rnum b a hb
  obtain ⟨Y, hY⟩ : ∃ Y, Y = rdC b (0, a) := ⟨_, rfl⟩
  have hC := hY
  unfold rdC at hC
  change Con _ _ _ _ (rO b (.p (I (rdN b (0, a)).1)) (rdN b (0, a)).2) at c0
  obtain ⟨n, q, a1, hN⟩ : ∃ n q a1, rdN b (0, a) = (n, q, a1) := ⟨_, _, _, rfl⟩
  rw [hN] at c0 hC
  simp only at c0 hC
  have hL : (fl 5 fNd).rd b (0, a) = ([.sl 5 (rdL fNd.rd b (rdC b (0, a)).1.toNat (rdC b (0, a)).2).1], (rdL fNd.rd b (rdC b (0, a)).1.toNat (rdC b (0, a)).2).2) := rfl
  rw [hL, ← hY, hC] at ho
  clear hL hC hY
  refine wBodyG Try.tab Try.mixed Try.func109 rfl rfl Try.ntmps109 (by simp) (by simp) fun Q hr hn hp => ?_
  repeat' first | (refine hK _ ?_; clear hK) | (refine hK _ _ ?_; clear hK) | (clear hK; refine hK _ ?_; clear hK) | (clear hK; clear hK; refine hK _ ?_; clear hK) | (clear hK; clear hK; clear hK; refine hK _ ?_; clear hK) | (clear hK; clear hK; clear hK; clear hK; refine hK _ ?_; clear hK) | (refine wSeq fun K hK => ?_) | ((first | refine wReg ?_ | refine wDrwQ rfl (by kernel_rfl) ?_ | refine wDrwI ?_ | refine wDrw (by kernel_rfl) ?_); simp only [List.map_cons, List.map_nil, strip]) | ((first | refine wIs fun K hK => ?_ | refine wOs fun K hK => ?_ | refine wQs fun K hK => ?_ | refine CallQ_plain ?_ | refine CallR_plain ?_ | refine wCond ?_); simp) | (refine wIn ?_; refine And.intro (by kernel_rfl) ?_; try simp only [thenA_n]) | (first | refine wBlock ?_ | refine wScope ?_) | ((first | refine wRet ?_ | refine wExit ?_ | refine wSkip ?_); try simp) | ((first | refine wLabel ?_ | refine wOn ?_ | refine wQn ?_); try simp only [thenA_n])
  by_cases hq : q = 0
  rotate_left
  · rw [if_pos hq] at ho
    simp only [rdL_stk _ _ _ _ hq] at ho
    rw [rO_err _ _ _ hq] at ho c0
    subst ho
    refine CallK_gen [1024] c0 (by decide) (by decide) (by simp [blksOf, inN, pos, renB, ren0, ouN, lv, kpI, kpR]) (by simp [argsG, argG, ren0, inN, pos, renCs, renC]) ?_
    simp [GenK, lv, ouN, kpI, kpR, pos, ren, ren0, renB, renC, renCs]
    all_goals try simp only [thenA_p, blockA_p]
    all_goals apply hp
    all_goals simp [AResP, outB, renB, gaN, lv, ouN, kpI, kpR, pos, ren, ren0, renC, renCs]
  subst hq
  rw [if_neg (by simp)] at ho
  rw [rO_ok] at c0
  refine CallK_gen [1024] c0 (by decide) (by decide) (by simp [blksOf, inN, pos, renB, ren0, ouN, lv, kpI, kpR]) (by simp [argsG, argG, ren0, inN, pos, renCs, renC]) ⟨[], by simp, by simp, ?_⟩
  simp [lv, ouN, kpI, kpR, pos, ren, ren0, renB, renC, renCs]
  by_cases h1 : n < 0
  · have e3 := give_con 3 (by decide)
    rw [if_pos h1] at ho
    simp only [rdL_stk fNd.rd b _ (e := 3) a1 (by decide)] at ho
    rw [rO_err _ _ _ (by decide)] at ho
    subst ho
    repeat' first | (refine CallE.pan e3 ?_) | (refine hK _ ?_; clear hK) | (refine hK _ _ ?_; clear hK) | (clear hK; refine hK _ ?_; clear hK) | (clear hK; clear hK; refine hK _ ?_; clear hK) | (clear hK; clear hK; clear hK; refine hK _ ?_; clear hK) | (clear hK; clear hK; clear hK; clear hK; refine hK _ ?_; clear hK) | (refine wSeq fun K hK => ?_) | ((first | refine wReg ?_ | refine wDrwQ rfl (by kernel_rfl) ?_ | refine wDrwI ?_ | refine wDrw (by kernel_rfl) ?_); simp only [List.map_cons, List.map_nil, strip]) | ((first | refine wIs fun K hK => ?_ | refine wOs fun K hK => ?_ | refine wQs fun K hK => ?_ | refine CallK_plain ?_ | refine CallQ_plain ?_ | refine CallR_plain ?_ | refine wCond ?_); simp [h1, lv, ouN, kpI, kpR, pos, ren, ren0, renB, renC, renCs]) | (refine wIn ?_; refine And.intro (by kernel_rfl) ?_; try simp only [thenA_n]) | (first | refine wBlock ?_ | refine wScope ?_) | ((first | refine wRet ?_ | refine wExit ?_ | refine wSkip ?_); try simp) | ((first | refine wLabel ?_ | refine wOn ?_ | refine wQn ?_); try simp only [thenA_n])
    all_goals try simp only [thenA_p, blockA_p]
    all_goals apply hp
    all_goals simp [AResP, outB, renB, gaN, lv, ouN, kpI, kpR, pos, ren, ren0, renC, renCs]
  rw [if_neg h1] at ho
  by_cases h2 : 1000 < n
  · have e5 := give_con 5 (by decide)
    rw [if_pos h2] at ho
    simp only [rdL_stk fNd.rd b _ (e := 5) a1 (by decide)] at ho
    rw [rO_err _ _ _ (by decide)] at ho
    subst ho
    repeat' first | (refine CallE.pan e5 ?_) | (refine hK _ ?_; clear hK) | (refine hK _ _ ?_; clear hK) | (clear hK; refine hK _ ?_; clear hK) | (clear hK; clear hK; refine hK _ ?_; clear hK) | (clear hK; clear hK; clear hK; refine hK _ ?_; clear hK) | (clear hK; clear hK; clear hK; clear hK; refine hK _ ?_; clear hK) | (refine wSeq fun K hK => ?_) | ((first | refine wReg ?_ | refine wDrwQ rfl (by kernel_rfl) ?_ | refine wDrwI ?_ | refine wDrw (by kernel_rfl) ?_); simp only [List.map_cons, List.map_nil, strip]) | ((first | refine wIs fun K hK => ?_ | refine wOs fun K hK => ?_ | refine wQs fun K hK => ?_ | refine CallK_plain ?_ | refine CallQ_plain ?_ | refine CallR_plain ?_ | refine wCond ?_); simp [h1, h2, lv, ouN, kpI, kpR, pos, ren, ren0, renB, renC, renCs]) | (refine wIn ?_; refine And.intro (by kernel_rfl) ?_; try simp only [thenA_n]) | (first | refine wBlock ?_ | refine wScope ?_) | ((first | refine wRet ?_ | refine wExit ?_ | refine wSkip ?_); try simp) | ((first | refine wLabel ?_ | refine wOn ?_ | refine wQn ?_); try simp only [thenA_n])
    all_goals try simp only [thenA_p, blockA_p]
    all_goals apply hp
    all_goals simp [AResP, outB, renB, gaN, lv, ouN, kpI, kpR, pos, ren, ren0, renC, renCs]
  rw [if_neg h2] at ho
  simp only at ho
  obtain ⟨m, rfl⟩ : ∃ m : Nat, n = m := ⟨n.toNat, by omega⟩
  simp only [Int.toNat_natCast] at ho
  have hm : m ≤ 1000 := by omega
  repeat' first | (refine hK _ ?_; clear hK) | (refine hK _ _ ?_; clear hK) | (clear hK; refine hK _ ?_; clear hK) | (clear hK; clear hK; refine hK _ ?_; clear hK) | (clear hK; clear hK; clear hK; refine hK _ ?_; clear hK) | (clear hK; clear hK; clear hK; clear hK; refine hK _ ?_; clear hK) | (refine wSeq fun K hK => ?_) | ((first | refine wReg ?_ | refine wDrwQ rfl (by kernel_rfl) ?_ | refine wDrwI ?_ | refine wDrw (by kernel_rfl) ?_); simp only [List.map_cons, List.map_nil, strip]) | ((first | refine wIs fun K hK => ?_ | refine wOs fun K hK => ?_ | refine wQs fun K hK => ?_ | refine CallQ_plain ?_ | refine CallR_plain ?_ | refine wCond ?_); simp [h1, h2, lv, ouN, kpI, kpR, pos, ren, ren0, renB, renC, renCs]) | (refine wIn ?_; refine And.intro (by kernel_rfl) ?_; try simp only [thenA_n]) | (first | refine wBlock ?_ | refine wScope ?_) | ((first | refine wRet ?_ | refine wExit ?_ | refine wSkip ?_); try simp) | ((first | refine wLabel ?_ | refine wOn ?_ | refine wQn ?_); try simp only [thenA_n])
  generalize hF : rdL fNd.rd b m (0, a1) = full at ho
  refine wLoopG [.row 6 78 5] (fun N st => ∃ k a2 acc, k + N = m ∧ acc.length = k ∧ full = (acc ++ (rdL fNd.rd b N (0, a2)).1, (rdL fNd.rd b N (0, a2)).2) ∧ st.s 0 = .ptr 1024 0 ∧ st.s 1 = .p (.v (.func (.func 110) #[] #[])) ∧ st.s 6 = .row 6 ∧ st.s 17 = .p (I m) ∧ st.s 18 = .p (I k) ∧ st.b 1024 = some (.box 160 [.p (.sl 1 (by8 b)), .p (I a2)]) ∧ st.b 6 = some (.row 78 5 acc)) m ⟨0, a1, [], by simp [hF, lv, ouN, kpI, kpR, pos, ren, ren0, renB, renC, renCs]⟩ fun K N st hL ⟨k, a2, acc, hk, hac, hfu, g0, g1, g6, g17, g18, b0, b6⟩ => ?_
  by_cases hlt : k < m
  · have hlt' : (k : Int) < (m : Int) := by omega
    have hw := wrapS k m hlt (by omega)
    obtain ⟨M, rfl⟩ : ∃ M, N = M + 1 := ⟨N - 1, by omega⟩
    rw [rdL, if_pos rfl] at hfu
    have c := rNd b a2 hb
    obtain ⟨x0, x1, x2, x3, x4, ⟨q, a3⟩, he⟩ := fNd_got b (0, a2)
    rw [he] at c hfu
    try simp only [vOf1, vOf2] at c
    simp only at hfu
    by_cases z : q = 0
    · subst z
      rw [rO_ok] at c
      repeat' first | (refine CallK_gen [1024] c (by decide) (by decide) (by simp [blksOf, inN, pos, renB, ren0, b0]) (by simp [argsG, argG, ren0, inN, pos, renCs, renC]) ⟨[], by simp, by simp, ?_⟩; simp [lv, ouN, kpI, kpR, pos, ren, ren0, renB, renC, renCs, b0]) | (refine And.intro (by omega) ?_) | (refine hK _ ?_; clear hK) | (refine hK _ _ ?_; clear hK) | (clear hK; refine hK _ ?_; clear hK) | (clear hK; clear hK; refine hK _ ?_; clear hK) | (clear hK; clear hK; clear hK; refine hK _ ?_; clear hK) | (clear hK; clear hK; clear hK; clear hK; refine hK _ ?_; clear hK) | (refine wSeq fun K hK => ?_) | ((first | refine wReg ?_ | refine wDrwQ rfl (by kernel_rfl) ?_ | refine wDrwI ?_ | refine wDrw (by kernel_rfl) ?_); simp only [List.map_cons, List.map_nil, strip]) | ((first | refine wIs fun K hK => ?_ | refine wOs fun K hK => ?_ | refine wQs fun K hK => ?_ | refine CallK_plain ?_ | refine CallQ_plain ?_ | refine CallR_plain ?_ | refine wCond ?_); simp [g0, g1, g6, g17, g18, b0, b6, hlt, hlt', hw, lv, ouN, kpI, kpR, pos, ren, ren0, renB, renC, renCs]) | (refine wIn ?_; refine And.intro (by kernel_rfl) ?_; try simp only [thenA_n]) | (first | refine wBlock ?_ | refine wScope ?_) | ((first | refine wRet ?_ | refine wExit ?_ | refine wSkip ?_); try simp) | ((first | refine wLabel ?_ | refine wOn ?_ | refine wQn ?_); try simp only [thenA_n])
      refine hL _ M (by omega) ⟨k + 1, a3, acc ++ [[SB x0, SB x1, I x2, I x3, I x4]], by omega, by simp [hac], by rw [hfu]; simp, ?_⟩
      simp [g0, g1, g6, g17, g18, b0, b6, hw, lv, ouN, kpI, kpR, pos, ren, ren0, renB, renC, renCs]
    · rw [rdL_stk _ _ _ _ z] at hfu
      simp only at hfu
      rw [hfu, rO_err _ _ _ z] at ho
      rw [rO_err _ _ _ z] at c
      subst ho
      repeat' first | (refine CallK_gen [1024] c (by decide) (by decide) (by simp [blksOf, inN, pos, renB, ren0, b0]) (by simp [argsG, argG, ren0, inN, pos, renCs, renC]) ?_; simp [GenK, lv, ouN, kpI, kpR, pos, ren, ren0, renB, renC, renCs, b0]) | (refine hK _ ?_; clear hK) | (refine hK _ _ ?_; clear hK) | (clear hK; refine hK _ ?_; clear hK) | (clear hK; clear hK; refine hK _ ?_; clear hK) | (clear hK; clear hK; clear hK; refine hK _ ?_; clear hK) | (clear hK; clear hK; clear hK; clear hK; refine hK _ ?_; clear hK) | (refine wSeq fun K hK => ?_) | ((first | refine wReg ?_ | refine wDrwQ rfl (by kernel_rfl) ?_ | refine wDrwI ?_ | refine wDrw (by kernel_rfl) ?_); simp only [List.map_cons, List.map_nil, strip]) | ((first | refine wIs fun K hK => ?_ | refine wOs fun K hK => ?_ | refine wQs fun K hK => ?_ | refine CallK_plain ?_ | refine CallQ_plain ?_ | refine CallR_plain ?_ | refine wCond ?_); simp [g0, g1, g6, g17, g18, b0, b6, hlt, hlt', hw, lv, ouN, kpI, kpR, pos, ren, ren0, renB, renC, renCs]) | (refine wIn ?_; refine And.intro (by kernel_rfl) ?_; try simp only [thenA_n]) | (first | refine wBlock ?_ | refine wScope ?_) | ((first | refine wRet ?_ | refine wExit ?_ | refine wSkip ?_); try simp) | ((first | refine wLabel ?_ | refine wOn ?_ | refine wQn ?_); try simp only [thenA_n])
      all_goals try simp only [thenA_p, blockA_p]
      all_goals apply hp
      all_goals simp [AResP, outB, renB, gaN, lv, ouN, kpI, kpR, pos, ren, ren0, renC, renCs, b0]
  · have hlt' : ¬ (k : Int) < (m : Int) := by omega
    obtain rfl : N = 0 := by omega
    simp only [rdL, List.append_nil] at hfu
    rw [hfu, rO_ok, vOf1] at ho
    subst ho
    have f6 : (Av.frz st 6 5 acc).s 6 = .p (.sl 5 acc) := by simp [Av.frz, sub, sub0, g6]
    have f18 : (Av.frz st 6 5 acc).s 18 = .p (I k) := by simp [Av.frz, sub, sub0, g18]
    have f17 : (Av.frz st 6 5 acc).s 17 = .p (I m) := by simp [Av.frz, sub, sub0, g17]
    have f0 : (Av.frz st 6 5 acc).b 1024 = some (.box 160 [.p (.sl 1 (by8 b)), .p (I a2)]) := by simp [Av.frz, sub, sub0, subB, b0]
    repeat' first | (refine wFrzR 6 acc b6 ?_; generalize Av.frz st 6 5 acc = st2 at f6 f0 f17 f18 ⊢) | (refine hK _ ?_; clear hK) | (refine hK _ _ ?_; clear hK) | (clear hK; refine hK _ ?_; clear hK) | (clear hK; clear hK; refine hK _ ?_; clear hK) | (clear hK; clear hK; clear hK; refine hK _ ?_; clear hK) | (clear hK; clear hK; clear hK; clear hK; refine hK _ ?_; clear hK) | (refine wSeq fun K hK => ?_) | ((first | refine wReg ?_ | refine wDrwQ rfl (by kernel_rfl) ?_ | refine wDrwI ?_ | refine wDrw (by kernel_rfl) ?_); simp only [List.map_cons, List.map_nil, strip]) | ((first | refine wIs fun K hK => ?_ | refine wOs fun K hK => ?_ | refine wQs fun K hK => ?_ | refine CallK_plain ?_ | refine CallQ_plain ?_ | refine CallR_plain ?_ | refine wCond ?_); simp [f6, f0, f17, f18, hlt, hlt']) | (refine wIn ?_; refine And.intro (by kernel_rfl) ?_; try simp only [thenA_n]) | (first | refine wBlock ?_ | refine wScope ?_) | ((first | refine wRet ?_ | refine wExit ?_ | refine wSkip ?_); try simp) | ((first | refine wLabel ?_ | refine wOn ?_ | refine wQn ?_); try simp only [thenA_n])
    all_goals first | apply hr
    all_goals refine ⟨[], by simp, by simp, ?_⟩
    all_goals simp [Try.f109, outR, outB, renB, gaN, f6, f0]
set_option maxHeartbeats 4000000 in
theorem rSt : RCn 67 fSt := by
  intro b a hb
  generalize ho : rO b (vOf (fSt.rd b (0, a)).1) (fSt.rd b (0, a)).2 = out
  have c0 := rlNd b a hb
  refine wBodyG Try.tab Try.mixed Try.func67 rfl rfl Try.ntmps67 (by simp) (by simp) fun Q hr hn hp => ?_
  repeat' first | (refine hK _ ?_; clear hK) | (refine hK _ _ ?_; clear hK) | (clear hK; refine hK _ ?_; clear hK) | (clear hK; clear hK; refine hK _ ?_; clear hK) | (clear hK; clear hK; clear hK; refine hK _ ?_; clear hK) | (clear hK; clear hK; clear hK; clear hK; refine hK _ ?_; clear hK) | (refine wSeq fun K hK => ?_) | ((first | refine wReg ?_ | refine wDrwQ rfl (by kernel_rfl) ?_ | refine wDrwI ?_ | refine wDrw (by kernel_rfl) ?_); simp only [List.map_cons, List.map_nil, strip]) | ((first | refine wIs fun K hK => ?_ | refine wOs fun K hK => ?_ | refine wQs fun K hK => ?_ | refine CallQ_plain ?_ | refine CallR_plain ?_ | refine wCond ?_); simp) | (refine wIn ?_; refine And.intro (by kernel_rfl) ?_; try simp only [thenA_n]) | (first | refine wBlock ?_ | refine wScope ?_) | ((first | refine wRet ?_ | refine wExit ?_ | refine wSkip ?_); try simp) | ((first | refine wLabel ?_ | refine wOn ?_ | refine wQn ?_); try simp only [thenA_n])
  obtain ⟨x0, ⟨q0, a0⟩, e0⟩ := fl_got 5 fNd b (0, a)
  rw [e0] at c0
  simp only [vOf1, vOf2] at c0
  by_cases z0 : q0 = 0
  rotate_left
  · have hz : (fSt.rd b (0, a)).2 = (q0, a0) := by simp only [fSt, sq_rd, e0, (fl_L foI_L 1).stk b q0 a0 z0, foI_L.stk b q0 a0 z0, fCf_L.stk b q0 a0 z0, fZx_L.stk b q0 a0 z0]
    rw [hz, rO_err _ _ _ z0] at ho
    subst ho
    rw [rO_err _ _ _ z0] at c0
    refine CallK_gen [1024] c0 (by decide) (by decide) (by simp [blksOf, inN, pos, renB, ren0, ouN, lv, kpI, kpR]) (by simp [argsG, argG, ren0, inN, pos, renCs, renC]) ?_
    simp [GenK, lv, ouN, kpI, kpR, pos, ren, ren0, renB, renC, renCs]
    all_goals try simp only [thenA_p, blockA_p]
    all_goals apply hp
    all_goals simp [AResP, outB, renB, gaN, lv, ouN, kpI, kpR, pos, ren, ren0, renC, renCs]
  subst z0
  rw [rO_ok] at c0
  refine CallK_gen [1024] c0 (by decide) (by decide) (by simp [blksOf, inN, pos, renB, ren0, ouN, lv, kpI, kpR]) (by simp [argsG, argG, ren0, inN, pos, renCs, renC]) ⟨[], by simp, by simp, ?_⟩
  simp [lv, ouN, kpI, kpR, pos, ren, ren0, renB, renC, renCs]
  repeat' first | (refine hK _ ?_; clear hK) | (refine hK _ _ ?_; clear hK) | (clear hK; refine hK _ ?_; clear hK) | (clear hK; clear hK; refine hK _ ?_; clear hK) | (clear hK; clear hK; clear hK; refine hK _ ?_; clear hK) | (clear hK; clear hK; clear hK; clear hK; refine hK _ ?_; clear hK) | (refine wSeq fun K hK => ?_) | ((first | refine wReg ?_ | refine wDrwQ rfl (by kernel_rfl) ?_ | refine wDrwI ?_ | refine wDrw (by kernel_rfl) ?_); simp only [List.map_cons, List.map_nil, strip]) | ((first | refine wIs fun K hK => ?_ | refine wOs fun K hK => ?_ | refine wQs fun K hK => ?_ | refine CallQ_plain ?_ | refine CallR_plain ?_ | refine wCond ?_); simp [lv, ouN, kpI, kpR, pos, ren, ren0, renB, renC, renCs]) | (refine wIn ?_; refine And.intro (by kernel_rfl) ?_; try simp only [thenA_n]) | (first | refine wBlock ?_ | refine wScope ?_) | ((first | refine wRet ?_ | refine wExit ?_ | refine wSkip ?_); try simp) | ((first | refine wLabel ?_ | refine wOn ?_ | refine wQn ?_); try simp only [thenA_n])
  have c1 := rlI b a0 hb
  obtain ⟨x1, ⟨q1, a1⟩, e1⟩ := fl_got 1 foI b (0, a0)
  rw [e1] at c1
  simp only [vOf1, vOf2] at c1
  by_cases z1 : q1 = 0
  rotate_left
  · have hz : (fSt.rd b (0, a)).2 = (q1, a1) := by simp only [fSt, sq_rd, e0, e1, foI_L.stk b q1 a1 z1, fCf_L.stk b q1 a1 z1, fZx_L.stk b q1 a1 z1]
    rw [hz, rO_err _ _ _ z1] at ho
    subst ho
    rw [rO_err _ _ _ z1] at c1
    refine CallK_gen [1024] c1 (by decide) (by decide) (by simp [blksOf, inN, pos, renB, ren0, ouN, lv, kpI, kpR]) (by simp [argsG, argG, ren0, inN, pos, renCs, renC]) ?_
    simp [GenK, lv, ouN, kpI, kpR, pos, ren, ren0, renB, renC, renCs]
    all_goals try simp only [thenA_p, blockA_p]
    all_goals apply hp
    all_goals simp [AResP, outB, renB, gaN, lv, ouN, kpI, kpR, pos, ren, ren0, renC, renCs]
  subst z1
  rw [rO_ok] at c1
  refine CallK_gen [1024] c1 (by decide) (by decide) (by simp [blksOf, inN, pos, renB, ren0, ouN, lv, kpI, kpR]) (by simp [argsG, argG, ren0, inN, pos, renCs, renC]) ⟨[], by simp, by simp, ?_⟩
  simp [lv, ouN, kpI, kpR, pos, ren, ren0, renB, renC, renCs]
  repeat' first | (refine hK _ ?_; clear hK) | (refine hK _ _ ?_; clear hK) | (clear hK; refine hK _ ?_; clear hK) | (clear hK; clear hK; refine hK _ ?_; clear hK) | (clear hK; clear hK; clear hK; refine hK _ ?_; clear hK) | (clear hK; clear hK; clear hK; clear hK; refine hK _ ?_; clear hK) | (refine wSeq fun K hK => ?_) | ((first | refine wReg ?_ | refine wDrwQ rfl (by kernel_rfl) ?_ | refine wDrwI ?_ | refine wDrw (by kernel_rfl) ?_); simp only [List.map_cons, List.map_nil, strip]) | ((first | refine wIs fun K hK => ?_ | refine wOs fun K hK => ?_ | refine wQs fun K hK => ?_ | refine CallQ_plain ?_ | refine CallR_plain ?_ | refine wCond ?_); simp [lv, ouN, kpI, kpR, pos, ren, ren0, renB, renC, renCs]) | (refine wIn ?_; refine And.intro (by kernel_rfl) ?_; try simp only [thenA_n]) | (first | refine wBlock ?_ | refine wScope ?_) | ((first | refine wRet ?_ | refine wExit ?_ | refine wSkip ?_); try simp) | ((first | refine wLabel ?_ | refine wOn ?_ | refine wQn ?_); try simp only [thenA_n])
  have c2 := rnum b a1 hb
  obtain ⟨x2, ⟨q2, a2⟩, e2⟩ := foI_got b (0, a1)
  rw [e2] at c2
  simp only [vOf1, vOf2] at c2
  by_cases z2 : q2 = 0
  rotate_left
  · have hz : (fSt.rd b (0, a)).2 = (q2, a2) := by simp only [fSt, sq_rd, e0, e1, e2, fCf_L.stk b q2 a2 z2, fZx_L.stk b q2 a2 z2]
    rw [hz, rO_err _ _ _ z2] at ho
    subst ho
    rw [rO_err _ _ _ z2] at c2
    refine CallK_gen [1024] c2 (by decide) (by decide) (by simp [blksOf, inN, pos, renB, ren0, ouN, lv, kpI, kpR]) (by simp [argsG, argG, ren0, inN, pos, renCs, renC]) ?_
    simp [GenK, lv, ouN, kpI, kpR, pos, ren, ren0, renB, renC, renCs]
    all_goals try simp only [thenA_p, blockA_p]
    all_goals apply hp
    all_goals simp [AResP, outB, renB, gaN, lv, ouN, kpI, kpR, pos, ren, ren0, renC, renCs]
  subst z2
  rw [rO_ok] at c2
  refine CallK_gen [1024] c2 (by decide) (by decide) (by simp [blksOf, inN, pos, renB, ren0, ouN, lv, kpI, kpR]) (by simp [argsG, argG, ren0, inN, pos, renCs, renC]) ⟨[], by simp, by simp, ?_⟩
  simp [lv, ouN, kpI, kpR, pos, ren, ren0, renB, renC, renCs]
  repeat' first | (refine hK _ ?_; clear hK) | (refine hK _ _ ?_; clear hK) | (clear hK; refine hK _ ?_; clear hK) | (clear hK; clear hK; refine hK _ ?_; clear hK) | (clear hK; clear hK; clear hK; refine hK _ ?_; clear hK) | (clear hK; clear hK; clear hK; clear hK; refine hK _ ?_; clear hK) | (refine wSeq fun K hK => ?_) | ((first | refine wReg ?_ | refine wDrwQ rfl (by kernel_rfl) ?_ | refine wDrwI ?_ | refine wDrw (by kernel_rfl) ?_); simp only [List.map_cons, List.map_nil, strip]) | ((first | refine wIs fun K hK => ?_ | refine wOs fun K hK => ?_ | refine wQs fun K hK => ?_ | refine CallQ_plain ?_ | refine CallR_plain ?_ | refine wCond ?_); simp [lv, ouN, kpI, kpR, pos, ren, ren0, renB, renC, renCs]) | (refine wIn ?_; refine And.intro (by kernel_rfl) ?_; try simp only [thenA_n]) | (first | refine wBlock ?_ | refine wScope ?_) | ((first | refine wRet ?_ | refine wExit ?_ | refine wSkip ?_); try simp) | ((first | refine wLabel ?_ | refine wOn ?_ | refine wQn ?_); try simp only [thenA_n])
  have c3 := rCf b a2 hb
  obtain ⟨x3, x4, x5, x6, ⟨q3, a3⟩, e3⟩ := fCf_got b (0, a2)
  rw [e3] at c3
  simp only [vOf1, vOf2] at c3
  by_cases z3 : q3 = 0
  rotate_left
  · have hz : (fSt.rd b (0, a)).2 = (q3, a3) := by simp only [fSt, sq_rd, e0, e1, e2, e3, fZx_L.stk b q3 a3 z3]
    rw [hz, rO_err _ _ _ z3] at ho
    subst ho
    rw [rO_err _ _ _ z3] at c3
    refine CallK_gen [1024] c3 (by decide) (by decide) (by simp [blksOf, inN, pos, renB, ren0, ouN, lv, kpI, kpR]) (by simp [argsG, argG, ren0, inN, pos, renCs, renC]) ?_
    simp [GenK, lv, ouN, kpI, kpR, pos, ren, ren0, renB, renC, renCs]
    all_goals try simp only [thenA_p, blockA_p]
    all_goals apply hp
    all_goals simp [AResP, outB, renB, gaN, lv, ouN, kpI, kpR, pos, ren, ren0, renC, renCs]
  subst z3
  rw [rO_ok] at c3
  refine CallK_gen [1024] c3 (by decide) (by decide) (by simp [blksOf, inN, pos, renB, ren0, ouN, lv, kpI, kpR]) (by simp [argsG, argG, ren0, inN, pos, renCs, renC]) ⟨[], by simp, by simp, ?_⟩
  simp [lv, ouN, kpI, kpR, pos, ren, ren0, renB, renC, renCs]
  repeat' first | (refine hK _ ?_; clear hK) | (refine hK _ _ ?_; clear hK) | (clear hK; refine hK _ ?_; clear hK) | (clear hK; clear hK; refine hK _ ?_; clear hK) | (clear hK; clear hK; clear hK; refine hK _ ?_; clear hK) | (clear hK; clear hK; clear hK; clear hK; refine hK _ ?_; clear hK) | (refine wSeq fun K hK => ?_) | ((first | refine wReg ?_ | refine wDrwQ rfl (by kernel_rfl) ?_ | refine wDrwI ?_ | refine wDrw (by kernel_rfl) ?_); simp only [List.map_cons, List.map_nil, strip]) | ((first | refine wIs fun K hK => ?_ | refine wOs fun K hK => ?_ | refine wQs fun K hK => ?_ | refine CallQ_plain ?_ | refine CallR_plain ?_ | refine wCond ?_); simp [lv, ouN, kpI, kpR, pos, ren, ren0, renB, renC, renCs]) | (refine wIn ?_; refine And.intro (by kernel_rfl) ?_; try simp only [thenA_n]) | (first | refine wBlock ?_ | refine wScope ?_) | ((first | refine wRet ?_ | refine wExit ?_ | refine wSkip ?_); try simp) | ((first | refine wLabel ?_ | refine wOn ?_ | refine wQn ?_); try simp only [thenA_n])
  have c4 := rZx b a3 hb
  obtain ⟨x7, x8, ⟨q4, a4⟩, e4⟩ := fZx_got b (0, a3)
  rw [e4] at c4
  simp only [vOf1, vOf2] at c4
  by_cases z4 : q4 = 0
  rotate_left
  · have hz : (fSt.rd b (0, a)).2 = (q4, a4) := by simp only [fSt, sq_rd, e0, e1, e2, e3, e4]
    rw [hz, rO_err _ _ _ z4] at ho
    subst ho
    rw [rO_err _ _ _ z4] at c4
    refine CallK_gen [1024] c4 (by decide) (by decide) (by simp [blksOf, inN, pos, renB, ren0, ouN, lv, kpI, kpR]) (by simp [argsG, argG, ren0, inN, pos, renCs, renC]) ?_
    simp [GenK, lv, ouN, kpI, kpR, pos, ren, ren0, renB, renC, renCs]
    all_goals try simp only [thenA_p, blockA_p]
    all_goals apply hp
    all_goals simp [AResP, outB, renB, gaN, lv, ouN, kpI, kpR, pos, ren, ren0, renC, renCs]
  subst z4
  rw [rO_ok] at c4
  refine CallK_gen [1024] c4 (by decide) (by decide) (by simp [blksOf, inN, pos, renB, ren0, ouN, lv, kpI, kpR]) (by simp [argsG, argG, ren0, inN, pos, renCs, renC]) ⟨[], by simp, by simp, ?_⟩
  simp [lv, ouN, kpI, kpR, pos, ren, ren0, renB, renC, renCs]
  repeat' first | (refine hK _ ?_; clear hK) | (refine hK _ _ ?_; clear hK) | (clear hK; refine hK _ ?_; clear hK) | (clear hK; clear hK; refine hK _ ?_; clear hK) | (clear hK; clear hK; clear hK; refine hK _ ?_; clear hK) | (clear hK; clear hK; clear hK; clear hK; refine hK _ ?_; clear hK) | (refine wSeq fun K hK => ?_) | ((first | refine wReg ?_ | refine wDrwQ rfl (by kernel_rfl) ?_ | refine wDrwI ?_ | refine wDrw (by kernel_rfl) ?_); simp only [List.map_cons, List.map_nil, strip]) | ((first | refine wIs fun K hK => ?_ | refine wOs fun K hK => ?_ | refine wQs fun K hK => ?_ | refine CallQ_plain ?_ | refine CallR_plain ?_ | refine wCond ?_); simp [lv, ouN, kpI, kpR, pos, ren, ren0, renB, renC, renCs]) | (refine wIn ?_; refine And.intro (by kernel_rfl) ?_; try simp only [thenA_n]) | (first | refine wBlock ?_ | refine wScope ?_) | ((first | refine wRet ?_ | refine wExit ?_ | refine wSkip ?_); try simp) | ((first | refine wLabel ?_ | refine wOn ?_ | refine wQn ?_); try simp only [thenA_n])
  have hz : fSt.rd b (0, a) = ([.sl 5 x0, .sl 1 x1, I x2, I x3, I x4, I x5, .sl 4 x6, I x7, I x8], 0, a4) := by simp only [fSt, sq_rd, e0, e1, e2, e3, e4, List.cons_append, List.nil_append]
  rw [hz] at ho
  simp only [rO_ok, vOf2] at ho
  subst ho
  all_goals first | apply hr
  all_goals refine ⟨[], by simp, by simp, ?_⟩
  all_goals simp [Try.f67, outR, outB, renB, gaN, lv, ouN, kpI, kpR, pos, ren, ren0, renC, renCs]
set_option maxHeartbeats 8000000 in
theorem rlOp (b : List UInt8) (a : Int) (hb : b.length ≤ 1000000000) : Con Try.prog 115 [.ptr 1024 0, .p (.v (.func (.func 116) #[] #[]))] (rB b a) (rO b (vOf ((fl 6 fOp).rd b (0, a)).1) ((fl 6 fOp).rd b (0, a)).2) := by
  generalize ho : rO b (vOf ((fl 6 fOp).rd b (0, a)).1) ((fl 6 fOp).rd b (0, a)).2 = out
  have c0 := rnum b a hb
  obtain ⟨Y, hY⟩ : ∃ Y, Y = rdC b (0, a) := ⟨_, rfl⟩
  have hC := hY
  unfold rdC at hC
  change Con _ _ _ _ (rO b (.p (I (rdN b (0, a)).1)) (rdN b (0, a)).2) at c0
  obtain ⟨n, q, a1, hN⟩ : ∃ n q a1, rdN b (0, a) = (n, q, a1) := ⟨_, _, _, rfl⟩
  rw [hN] at c0 hC
  simp only at c0 hC
  have hL : (fl 6 fOp).rd b (0, a) = ([.sl 6 (rdL fOp.rd b (rdC b (0, a)).1.toNat (rdC b (0, a)).2).1], (rdL fOp.rd b (rdC b (0, a)).1.toNat (rdC b (0, a)).2).2) := rfl
  rw [hL, ← hY, hC] at ho
  clear hL hC hY
  refine wBodyG Try.tab Try.mixed Try.func115 rfl rfl Try.ntmps115 (by simp) (by simp) fun Q hr hn hp => ?_
  repeat' first | (refine hK _ ?_; clear hK) | (refine hK _ _ ?_; clear hK) | (clear hK; refine hK _ ?_; clear hK) | (clear hK; clear hK; refine hK _ ?_; clear hK) | (clear hK; clear hK; clear hK; refine hK _ ?_; clear hK) | (clear hK; clear hK; clear hK; clear hK; refine hK _ ?_; clear hK) | (refine wSeq fun K hK => ?_) | ((first | refine wReg ?_ | refine wDrwQ rfl (by kernel_rfl) ?_ | refine wDrwI ?_ | refine wDrw (by kernel_rfl) ?_); simp only [List.map_cons, List.map_nil, strip]) | ((first | refine wIs fun K hK => ?_ | refine wOs fun K hK => ?_ | refine wQs fun K hK => ?_ | refine CallQ_plain ?_ | refine CallR_plain ?_ | refine wCond ?_); simp) | (refine wIn ?_; refine And.intro (by kernel_rfl) ?_; try simp only [thenA_n]) | (first | refine wBlock ?_ | refine wScope ?_) | ((first | refine wRet ?_ | refine wExit ?_ | refine wSkip ?_); try simp) | ((first | refine wLabel ?_ | refine wOn ?_ | refine wQn ?_); try simp only [thenA_n])
  by_cases hq : q = 0
  rotate_left
  · rw [if_pos hq] at ho
    simp only [rdL_stk _ _ _ _ hq] at ho
    rw [rO_err _ _ _ hq] at ho c0
    subst ho
    refine CallK_gen [1024] c0 (by decide) (by decide) (by simp [blksOf, inN, pos, renB, ren0, ouN, lv, kpI, kpR]) (by simp [argsG, argG, ren0, inN, pos, renCs, renC]) ?_
    simp [GenK, lv, ouN, kpI, kpR, pos, ren, ren0, renB, renC, renCs]
    all_goals try simp only [thenA_p, blockA_p]
    all_goals apply hp
    all_goals simp [AResP, outB, renB, gaN, lv, ouN, kpI, kpR, pos, ren, ren0, renC, renCs]
  subst hq
  rw [if_neg (by simp)] at ho
  rw [rO_ok] at c0
  refine CallK_gen [1024] c0 (by decide) (by decide) (by simp [blksOf, inN, pos, renB, ren0, ouN, lv, kpI, kpR]) (by simp [argsG, argG, ren0, inN, pos, renCs, renC]) ⟨[], by simp, by simp, ?_⟩
  simp [lv, ouN, kpI, kpR, pos, ren, ren0, renB, renC, renCs]
  by_cases h1 : n < 0
  · have e3 := give_con 3 (by decide)
    rw [if_pos h1] at ho
    simp only [rdL_stk fOp.rd b _ (e := 3) a1 (by decide)] at ho
    rw [rO_err _ _ _ (by decide)] at ho
    subst ho
    repeat' first | (refine CallE.pan e3 ?_) | (refine hK _ ?_; clear hK) | (refine hK _ _ ?_; clear hK) | (clear hK; refine hK _ ?_; clear hK) | (clear hK; clear hK; refine hK _ ?_; clear hK) | (clear hK; clear hK; clear hK; refine hK _ ?_; clear hK) | (clear hK; clear hK; clear hK; clear hK; refine hK _ ?_; clear hK) | (refine wSeq fun K hK => ?_) | ((first | refine wReg ?_ | refine wDrwQ rfl (by kernel_rfl) ?_ | refine wDrwI ?_ | refine wDrw (by kernel_rfl) ?_); simp only [List.map_cons, List.map_nil, strip]) | ((first | refine wIs fun K hK => ?_ | refine wOs fun K hK => ?_ | refine wQs fun K hK => ?_ | refine CallK_plain ?_ | refine CallQ_plain ?_ | refine CallR_plain ?_ | refine wCond ?_); simp [h1, lv, ouN, kpI, kpR, pos, ren, ren0, renB, renC, renCs]) | (refine wIn ?_; refine And.intro (by kernel_rfl) ?_; try simp only [thenA_n]) | (first | refine wBlock ?_ | refine wScope ?_) | ((first | refine wRet ?_ | refine wExit ?_ | refine wSkip ?_); try simp) | ((first | refine wLabel ?_ | refine wOn ?_ | refine wQn ?_); try simp only [thenA_n])
    all_goals try simp only [thenA_p, blockA_p]
    all_goals apply hp
    all_goals simp [AResP, outB, renB, gaN, lv, ouN, kpI, kpR, pos, ren, ren0, renC, renCs]
  rw [if_neg h1] at ho
  by_cases h2 : 1000 < n
  · have e5 := give_con 5 (by decide)
    rw [if_pos h2] at ho
    simp only [rdL_stk fOp.rd b _ (e := 5) a1 (by decide)] at ho
    rw [rO_err _ _ _ (by decide)] at ho
    subst ho
    repeat' first | (refine CallE.pan e5 ?_) | (refine hK _ ?_; clear hK) | (refine hK _ _ ?_; clear hK) | (clear hK; refine hK _ ?_; clear hK) | (clear hK; clear hK; refine hK _ ?_; clear hK) | (clear hK; clear hK; clear hK; refine hK _ ?_; clear hK) | (clear hK; clear hK; clear hK; clear hK; refine hK _ ?_; clear hK) | (refine wSeq fun K hK => ?_) | ((first | refine wReg ?_ | refine wDrwQ rfl (by kernel_rfl) ?_ | refine wDrwI ?_ | refine wDrw (by kernel_rfl) ?_); simp only [List.map_cons, List.map_nil, strip]) | ((first | refine wIs fun K hK => ?_ | refine wOs fun K hK => ?_ | refine wQs fun K hK => ?_ | refine CallK_plain ?_ | refine CallQ_plain ?_ | refine CallR_plain ?_ | refine wCond ?_); simp [h1, h2, lv, ouN, kpI, kpR, pos, ren, ren0, renB, renC, renCs]) | (refine wIn ?_; refine And.intro (by kernel_rfl) ?_; try simp only [thenA_n]) | (first | refine wBlock ?_ | refine wScope ?_) | ((first | refine wRet ?_ | refine wExit ?_ | refine wSkip ?_); try simp) | ((first | refine wLabel ?_ | refine wOn ?_ | refine wQn ?_); try simp only [thenA_n])
    all_goals try simp only [thenA_p, blockA_p]
    all_goals apply hp
    all_goals simp [AResP, outB, renB, gaN, lv, ouN, kpI, kpR, pos, ren, ren0, renC, renCs]
  rw [if_neg h2] at ho
  simp only at ho
  obtain ⟨m, rfl⟩ : ∃ m : Nat, n = m := ⟨n.toNat, by omega⟩
  simp only [Int.toNat_natCast] at ho
  have hm : m ≤ 1000 := by omega
  repeat' first | (refine hK _ ?_; clear hK) | (refine hK _ _ ?_; clear hK) | (clear hK; refine hK _ ?_; clear hK) | (clear hK; clear hK; refine hK _ ?_; clear hK) | (clear hK; clear hK; clear hK; refine hK _ ?_; clear hK) | (clear hK; clear hK; clear hK; clear hK; refine hK _ ?_; clear hK) | (refine wSeq fun K hK => ?_) | ((first | refine wReg ?_ | refine wDrwQ rfl (by kernel_rfl) ?_ | refine wDrwI ?_ | refine wDrw (by kernel_rfl) ?_); simp only [List.map_cons, List.map_nil, strip]) | ((first | refine wIs fun K hK => ?_ | refine wOs fun K hK => ?_ | refine wQs fun K hK => ?_ | refine CallQ_plain ?_ | refine CallR_plain ?_ | refine wCond ?_); simp [h1, h2, lv, ouN, kpI, kpR, pos, ren, ren0, renB, renC, renCs]) | (refine wIn ?_; refine And.intro (by kernel_rfl) ?_; try simp only [thenA_n]) | (first | refine wBlock ?_ | refine wScope ?_) | ((first | refine wRet ?_ | refine wExit ?_ | refine wSkip ?_); try simp) | ((first | refine wLabel ?_ | refine wOn ?_ | refine wQn ?_); try simp only [thenA_n])
  generalize hF : rdL fOp.rd b m (0, a1) = full at ho
  refine wLoopG [.row 6 111 6] (fun N st => ∃ k a2 acc, k + N = m ∧ acc.length = k ∧ full = (acc ++ (rdL fOp.rd b N (0, a2)).1, (rdL fOp.rd b N (0, a2)).2) ∧ st.s 0 = .ptr 1024 0 ∧ st.s 1 = .p (.v (.func (.func 116) #[] #[])) ∧ st.s 6 = .row 6 ∧ st.s 17 = .p (I m) ∧ st.s 18 = .p (I k) ∧ st.b 1024 = some (.box 160 [.p (.sl 1 (by8 b)), .p (I a2)]) ∧ st.b 6 = some (.row 111 6 acc)) m ⟨0, a1, [], by simp [hF, lv, ouN, kpI, kpR, pos, ren, ren0, renB, renC, renCs]⟩ fun K N st hL ⟨k, a2, acc, hk, hac, hfu, g0, g1, g6, g17, g18, b0, b6⟩ => ?_
  by_cases hlt : k < m
  · have hlt' : (k : Int) < (m : Int) := by omega
    have hw := wrapS k m hlt (by omega)
    obtain ⟨M, rfl⟩ : ∃ M, N = M + 1 := ⟨N - 1, by omega⟩
    rw [rdL, if_pos rfl] at hfu
    have c := rOp b a2 hb
    obtain ⟨x0, x1, x2, x3, x4, x5, ⟨q, a3⟩, he⟩ := fOp_got b (0, a2)
    rw [he] at c hfu
    try simp only [vOf1, vOf2] at c
    simp only at hfu
    by_cases z : q = 0
    · subst z
      rw [rO_ok] at c
      repeat' first | (refine CallK_gen [1024] c (by decide) (by decide) (by simp [blksOf, inN, pos, renB, ren0, b0]) (by simp [argsG, argG, ren0, inN, pos, renCs, renC]) ⟨[], by simp, by simp, ?_⟩; simp [lv, ouN, kpI, kpR, pos, ren, ren0, renB, renC, renCs, b0]) | (refine And.intro (by omega) ?_) | (refine hK _ ?_; clear hK) | (refine hK _ _ ?_; clear hK) | (clear hK; refine hK _ ?_; clear hK) | (clear hK; clear hK; refine hK _ ?_; clear hK) | (clear hK; clear hK; clear hK; refine hK _ ?_; clear hK) | (clear hK; clear hK; clear hK; clear hK; refine hK _ ?_; clear hK) | (refine wSeq fun K hK => ?_) | ((first | refine wReg ?_ | refine wDrwQ rfl (by kernel_rfl) ?_ | refine wDrwI ?_ | refine wDrw (by kernel_rfl) ?_); simp only [List.map_cons, List.map_nil, strip]) | ((first | refine wIs fun K hK => ?_ | refine wOs fun K hK => ?_ | refine wQs fun K hK => ?_ | refine CallK_plain ?_ | refine CallQ_plain ?_ | refine CallR_plain ?_ | refine wCond ?_); simp [g0, g1, g6, g17, g18, b0, b6, hlt, hlt', hw, lv, ouN, kpI, kpR, pos, ren, ren0, renB, renC, renCs]) | (refine wIn ?_; refine And.intro (by kernel_rfl) ?_; try simp only [thenA_n]) | (first | refine wBlock ?_ | refine wScope ?_) | ((first | refine wRet ?_ | refine wExit ?_ | refine wSkip ?_); try simp) | ((first | refine wLabel ?_ | refine wOn ?_ | refine wQn ?_); try simp only [thenA_n])
      refine hL _ M (by omega) ⟨k + 1, a3, acc ++ [[I x0, SB x1, SB x2, I x3, B x4, B x5]], by omega, by simp [hac], by rw [hfu]; simp, ?_⟩
      simp [g0, g1, g6, g17, g18, b0, b6, hw, lv, ouN, kpI, kpR, pos, ren, ren0, renB, renC, renCs]
    · rw [rdL_stk _ _ _ _ z] at hfu
      simp only at hfu
      rw [hfu, rO_err _ _ _ z] at ho
      rw [rO_err _ _ _ z] at c
      subst ho
      repeat' first | (refine CallK_gen [1024] c (by decide) (by decide) (by simp [blksOf, inN, pos, renB, ren0, b0]) (by simp [argsG, argG, ren0, inN, pos, renCs, renC]) ?_; simp [GenK, lv, ouN, kpI, kpR, pos, ren, ren0, renB, renC, renCs, b0]) | (refine hK _ ?_; clear hK) | (refine hK _ _ ?_; clear hK) | (clear hK; refine hK _ ?_; clear hK) | (clear hK; clear hK; refine hK _ ?_; clear hK) | (clear hK; clear hK; clear hK; refine hK _ ?_; clear hK) | (clear hK; clear hK; clear hK; clear hK; refine hK _ ?_; clear hK) | (refine wSeq fun K hK => ?_) | ((first | refine wReg ?_ | refine wDrwQ rfl (by kernel_rfl) ?_ | refine wDrwI ?_ | refine wDrw (by kernel_rfl) ?_); simp only [List.map_cons, List.map_nil, strip]) | ((first | refine wIs fun K hK => ?_ | refine wOs fun K hK => ?_ | refine wQs fun K hK => ?_ | refine CallK_plain ?_ | refine CallQ_plain ?_ | refine CallR_plain ?_ | refine wCond ?_); simp [g0, g1, g6, g17, g18, b0, b6, hlt, hlt', hw, lv, ouN, kpI, kpR, pos, ren, ren0, renB, renC, renCs]) | (refine wIn ?_; refine And.intro (by kernel_rfl) ?_; try simp only [thenA_n]) | (first | refine wBlock ?_ | refine wScope ?_) | ((first | refine wRet ?_ | refine wExit ?_ | refine wSkip ?_); try simp) | ((first | refine wLabel ?_ | refine wOn ?_ | refine wQn ?_); try simp only [thenA_n])
      all_goals try simp only [thenA_p, blockA_p]
      all_goals apply hp
      all_goals simp [AResP, outB, renB, gaN, lv, ouN, kpI, kpR, pos, ren, ren0, renC, renCs, b0]
  · have hlt' : ¬ (k : Int) < (m : Int) := by omega
    obtain rfl : N = 0 := by omega
    simp only [rdL, List.append_nil] at hfu
    rw [hfu, rO_ok, vOf1] at ho
    subst ho
    have f6 : (Av.frz st 6 6 acc).s 6 = .p (.sl 6 acc) := by simp [Av.frz, sub, sub0, g6]
    have f18 : (Av.frz st 6 6 acc).s 18 = .p (I k) := by simp [Av.frz, sub, sub0, g18]
    have f17 : (Av.frz st 6 6 acc).s 17 = .p (I m) := by simp [Av.frz, sub, sub0, g17]
    have f0 : (Av.frz st 6 6 acc).b 1024 = some (.box 160 [.p (.sl 1 (by8 b)), .p (I a2)]) := by simp [Av.frz, sub, sub0, subB, b0]
    repeat' first | (refine wFrzR 6 acc b6 ?_; generalize Av.frz st 6 6 acc = st2 at f6 f0 f17 f18 ⊢) | (refine hK _ ?_; clear hK) | (refine hK _ _ ?_; clear hK) | (clear hK; refine hK _ ?_; clear hK) | (clear hK; clear hK; refine hK _ ?_; clear hK) | (clear hK; clear hK; clear hK; refine hK _ ?_; clear hK) | (clear hK; clear hK; clear hK; clear hK; refine hK _ ?_; clear hK) | (refine wSeq fun K hK => ?_) | ((first | refine wReg ?_ | refine wDrwQ rfl (by kernel_rfl) ?_ | refine wDrwI ?_ | refine wDrw (by kernel_rfl) ?_); simp only [List.map_cons, List.map_nil, strip]) | ((first | refine wIs fun K hK => ?_ | refine wOs fun K hK => ?_ | refine wQs fun K hK => ?_ | refine CallK_plain ?_ | refine CallQ_plain ?_ | refine CallR_plain ?_ | refine wCond ?_); simp [f6, f0, f17, f18, hlt, hlt']) | (refine wIn ?_; refine And.intro (by kernel_rfl) ?_; try simp only [thenA_n]) | (first | refine wBlock ?_ | refine wScope ?_) | ((first | refine wRet ?_ | refine wExit ?_ | refine wSkip ?_); try simp) | ((first | refine wLabel ?_ | refine wOn ?_ | refine wQn ?_); try simp only [thenA_n])
    all_goals first | apply hr
    all_goals refine ⟨[], by simp, by simp, ?_⟩
    all_goals simp [Try.f115, outR, outB, renB, gaN, f6, f0]
set_option maxHeartbeats 4000000 in
theorem rRq : RCn 72 fRq := by
  intro b a hb
  generalize ho : rO b (vOf (fRq.rd b (0, a)).1) (fRq.rd b (0, a)).2 = out
  have c0 := rnum b a hb
  refine wBodyG Try.tab Try.mixed Try.func72 rfl rfl Try.ntmps72 (by simp) (by simp) fun Q hr hn hp => ?_
  repeat' first | (refine hK _ ?_; clear hK) | (refine hK _ _ ?_; clear hK) | (clear hK; refine hK _ ?_; clear hK) | (clear hK; clear hK; refine hK _ ?_; clear hK) | (clear hK; clear hK; clear hK; refine hK _ ?_; clear hK) | (clear hK; clear hK; clear hK; clear hK; refine hK _ ?_; clear hK) | (refine wSeq fun K hK => ?_) | ((first | refine wReg ?_ | refine wDrwQ rfl (by kernel_rfl) ?_ | refine wDrwI ?_ | refine wDrw (by kernel_rfl) ?_); simp only [List.map_cons, List.map_nil, strip]) | ((first | refine wIs fun K hK => ?_ | refine wOs fun K hK => ?_ | refine wQs fun K hK => ?_ | refine CallQ_plain ?_ | refine CallR_plain ?_ | refine wCond ?_); simp) | (refine wIn ?_; refine And.intro (by kernel_rfl) ?_; try simp only [thenA_n]) | (first | refine wBlock ?_ | refine wScope ?_) | ((first | refine wRet ?_ | refine wExit ?_ | refine wSkip ?_); try simp) | ((first | refine wLabel ?_ | refine wOn ?_ | refine wQn ?_); try simp only [thenA_n])
  obtain ⟨x0, ⟨q0, a0⟩, e0⟩ := foI_got b (0, a)
  rw [e0] at c0
  simp only [vOf1, vOf2] at c0
  by_cases z0 : q0 = 0
  rotate_left
  · have hz : (fRq.rd b (0, a)).2 = (q0, a0) := by simp only [fRq, sq_rd, e0, foI_L.stk b q0 a0 z0, (fl_L fOp_L 6).stk b q0 a0 z0, (fl_L fMb_L 4).stk b q0 a0 z0, (fl_L foI_L 1).stk b q0 a0 z0, fZx_L.stk b q0 a0 z0]
    rw [hz, rO_err _ _ _ z0] at ho
    subst ho
    rw [rO_err _ _ _ z0] at c0
    refine CallK_gen [1024] c0 (by decide) (by decide) (by simp [blksOf, inN, pos, renB, ren0, ouN, lv, kpI, kpR]) (by simp [argsG, argG, ren0, inN, pos, renCs, renC]) ?_
    simp [GenK, lv, ouN, kpI, kpR, pos, ren, ren0, renB, renC, renCs]
    all_goals try simp only [thenA_p, blockA_p]
    all_goals apply hp
    all_goals simp [AResP, outB, renB, gaN, lv, ouN, kpI, kpR, pos, ren, ren0, renC, renCs]
  subst z0
  rw [rO_ok] at c0
  refine CallK_gen [1024] c0 (by decide) (by decide) (by simp [blksOf, inN, pos, renB, ren0, ouN, lv, kpI, kpR]) (by simp [argsG, argG, ren0, inN, pos, renCs, renC]) ⟨[], by simp, by simp, ?_⟩
  simp [lv, ouN, kpI, kpR, pos, ren, ren0, renB, renC, renCs]
  repeat' first | (refine hK _ ?_; clear hK) | (refine hK _ _ ?_; clear hK) | (clear hK; refine hK _ ?_; clear hK) | (clear hK; clear hK; refine hK _ ?_; clear hK) | (clear hK; clear hK; clear hK; refine hK _ ?_; clear hK) | (clear hK; clear hK; clear hK; clear hK; refine hK _ ?_; clear hK) | (refine wSeq fun K hK => ?_) | ((first | refine wReg ?_ | refine wDrwQ rfl (by kernel_rfl) ?_ | refine wDrwI ?_ | refine wDrw (by kernel_rfl) ?_); simp only [List.map_cons, List.map_nil, strip]) | ((first | refine wIs fun K hK => ?_ | refine wOs fun K hK => ?_ | refine wQs fun K hK => ?_ | refine CallQ_plain ?_ | refine CallR_plain ?_ | refine wCond ?_); simp [lv, ouN, kpI, kpR, pos, ren, ren0, renB, renC, renCs]) | (refine wIn ?_; refine And.intro (by kernel_rfl) ?_; try simp only [thenA_n]) | (first | refine wBlock ?_ | refine wScope ?_) | ((first | refine wRet ?_ | refine wExit ?_ | refine wSkip ?_); try simp) | ((first | refine wLabel ?_ | refine wOn ?_ | refine wQn ?_); try simp only [thenA_n])
  have c1 := rnum b a0 hb
  obtain ⟨x1, ⟨q1, a1⟩, e1⟩ := foI_got b (0, a0)
  rw [e1] at c1
  simp only [vOf1, vOf2] at c1
  by_cases z1 : q1 = 0
  rotate_left
  · have hz : (fRq.rd b (0, a)).2 = (q1, a1) := by simp only [fRq, sq_rd, e0, e1, foI_L.stk b q1 a1 z1, (fl_L fOp_L 6).stk b q1 a1 z1, (fl_L fMb_L 4).stk b q1 a1 z1, (fl_L foI_L 1).stk b q1 a1 z1, fZx_L.stk b q1 a1 z1]
    rw [hz, rO_err _ _ _ z1] at ho
    subst ho
    rw [rO_err _ _ _ z1] at c1
    refine CallK_gen [1024] c1 (by decide) (by decide) (by simp [blksOf, inN, pos, renB, ren0, ouN, lv, kpI, kpR]) (by simp [argsG, argG, ren0, inN, pos, renCs, renC]) ?_
    simp [GenK, lv, ouN, kpI, kpR, pos, ren, ren0, renB, renC, renCs]
    all_goals try simp only [thenA_p, blockA_p]
    all_goals apply hp
    all_goals simp [AResP, outB, renB, gaN, lv, ouN, kpI, kpR, pos, ren, ren0, renC, renCs]
  subst z1
  rw [rO_ok] at c1
  refine CallK_gen [1024] c1 (by decide) (by decide) (by simp [blksOf, inN, pos, renB, ren0, ouN, lv, kpI, kpR]) (by simp [argsG, argG, ren0, inN, pos, renCs, renC]) ⟨[], by simp, by simp, ?_⟩
  simp [lv, ouN, kpI, kpR, pos, ren, ren0, renB, renC, renCs]
  repeat' first | (refine hK _ ?_; clear hK) | (refine hK _ _ ?_; clear hK) | (clear hK; refine hK _ ?_; clear hK) | (clear hK; clear hK; refine hK _ ?_; clear hK) | (clear hK; clear hK; clear hK; refine hK _ ?_; clear hK) | (clear hK; clear hK; clear hK; clear hK; refine hK _ ?_; clear hK) | (refine wSeq fun K hK => ?_) | ((first | refine wReg ?_ | refine wDrwQ rfl (by kernel_rfl) ?_ | refine wDrwI ?_ | refine wDrw (by kernel_rfl) ?_); simp only [List.map_cons, List.map_nil, strip]) | ((first | refine wIs fun K hK => ?_ | refine wOs fun K hK => ?_ | refine wQs fun K hK => ?_ | refine CallQ_plain ?_ | refine CallR_plain ?_ | refine wCond ?_); simp [lv, ouN, kpI, kpR, pos, ren, ren0, renB, renC, renCs]) | (refine wIn ?_; refine And.intro (by kernel_rfl) ?_; try simp only [thenA_n]) | (first | refine wBlock ?_ | refine wScope ?_) | ((first | refine wRet ?_ | refine wExit ?_ | refine wSkip ?_); try simp) | ((first | refine wLabel ?_ | refine wOn ?_ | refine wQn ?_); try simp only [thenA_n])
  have c2 := rnum b a1 hb
  obtain ⟨x2, ⟨q2, a2⟩, e2⟩ := foI_got b (0, a1)
  rw [e2] at c2
  simp only [vOf1, vOf2] at c2
  by_cases z2 : q2 = 0
  rotate_left
  · have hz : (fRq.rd b (0, a)).2 = (q2, a2) := by simp only [fRq, sq_rd, e0, e1, e2, (fl_L fOp_L 6).stk b q2 a2 z2, foI_L.stk b q2 a2 z2, (fl_L fMb_L 4).stk b q2 a2 z2, (fl_L foI_L 1).stk b q2 a2 z2, fZx_L.stk b q2 a2 z2]
    rw [hz, rO_err _ _ _ z2] at ho
    subst ho
    rw [rO_err _ _ _ z2] at c2
    refine CallK_gen [1024] c2 (by decide) (by decide) (by simp [blksOf, inN, pos, renB, ren0, ouN, lv, kpI, kpR]) (by simp [argsG, argG, ren0, inN, pos, renCs, renC]) ?_
    simp [GenK, lv, ouN, kpI, kpR, pos, ren, ren0, renB, renC, renCs]
    all_goals try simp only [thenA_p, blockA_p]
    all_goals apply hp
    all_goals simp [AResP, outB, renB, gaN, lv, ouN, kpI, kpR, pos, ren, ren0, renC, renCs]
  subst z2
  rw [rO_ok] at c2
  refine CallK_gen [1024] c2 (by decide) (by decide) (by simp [blksOf, inN, pos, renB, ren0, ouN, lv, kpI, kpR]) (by simp [argsG, argG, ren0, inN, pos, renCs, renC]) ⟨[], by simp, by simp, ?_⟩
  simp [lv, ouN, kpI, kpR, pos, ren, ren0, renB, renC, renCs]
  repeat' first | (refine hK _ ?_; clear hK) | (refine hK _ _ ?_; clear hK) | (clear hK; refine hK _ ?_; clear hK) | (clear hK; clear hK; refine hK _ ?_; clear hK) | (clear hK; clear hK; clear hK; refine hK _ ?_; clear hK) | (clear hK; clear hK; clear hK; clear hK; refine hK _ ?_; clear hK) | (refine wSeq fun K hK => ?_) | ((first | refine wReg ?_ | refine wDrwQ rfl (by kernel_rfl) ?_ | refine wDrwI ?_ | refine wDrw (by kernel_rfl) ?_); simp only [List.map_cons, List.map_nil, strip]) | ((first | refine wIs fun K hK => ?_ | refine wOs fun K hK => ?_ | refine wQs fun K hK => ?_ | refine CallQ_plain ?_ | refine CallR_plain ?_ | refine wCond ?_); simp [lv, ouN, kpI, kpR, pos, ren, ren0, renB, renC, renCs]) | (refine wIn ?_; refine And.intro (by kernel_rfl) ?_; try simp only [thenA_n]) | (first | refine wBlock ?_ | refine wScope ?_) | ((first | refine wRet ?_ | refine wExit ?_ | refine wSkip ?_); try simp) | ((first | refine wLabel ?_ | refine wOn ?_ | refine wQn ?_); try simp only [thenA_n])
  have c3 := rlOp b a2 hb
  obtain ⟨x3, ⟨q3, a3⟩, e3⟩ := fl_got 6 fOp b (0, a2)
  rw [e3] at c3
  simp only [vOf1, vOf2] at c3
  by_cases z3 : q3 = 0
  rotate_left
  · have hz : (fRq.rd b (0, a)).2 = (q3, a3) := by simp only [fRq, sq_rd, e0, e1, e2, e3, foI_L.stk b q3 a3 z3, (fl_L fMb_L 4).stk b q3 a3 z3, (fl_L foI_L 1).stk b q3 a3 z3, fZx_L.stk b q3 a3 z3]
    rw [hz, rO_err _ _ _ z3] at ho
    subst ho
    rw [rO_err _ _ _ z3] at c3
    refine CallK_gen [1024] c3 (by decide) (by decide) (by simp [blksOf, inN, pos, renB, ren0, ouN, lv, kpI, kpR]) (by simp [argsG, argG, ren0, inN, pos, renCs, renC]) ?_
    simp [GenK, lv, ouN, kpI, kpR, pos, ren, ren0, renB, renC, renCs]
    all_goals try simp only [thenA_p, blockA_p]
    all_goals apply hp
    all_goals simp [AResP, outB, renB, gaN, lv, ouN, kpI, kpR, pos, ren, ren0, renC, renCs]
  subst z3
  rw [rO_ok] at c3
  refine CallK_gen [1024] c3 (by decide) (by decide) (by simp [blksOf, inN, pos, renB, ren0, ouN, lv, kpI, kpR]) (by simp [argsG, argG, ren0, inN, pos, renCs, renC]) ⟨[], by simp, by simp, ?_⟩
  simp [lv, ouN, kpI, kpR, pos, ren, ren0, renB, renC, renCs]
  repeat' first | (refine hK _ ?_; clear hK) | (refine hK _ _ ?_; clear hK) | (clear hK; refine hK _ ?_; clear hK) | (clear hK; clear hK; refine hK _ ?_; clear hK) | (clear hK; clear hK; clear hK; refine hK _ ?_; clear hK) | (clear hK; clear hK; clear hK; clear hK; refine hK _ ?_; clear hK) | (refine wSeq fun K hK => ?_) | ((first | refine wReg ?_ | refine wDrwQ rfl (by kernel_rfl) ?_ | refine wDrwI ?_ | refine wDrw (by kernel_rfl) ?_); simp only [List.map_cons, List.map_nil, strip]) | ((first | refine wIs fun K hK => ?_ | refine wOs fun K hK => ?_ | refine wQs fun K hK => ?_ | refine CallQ_plain ?_ | refine CallR_plain ?_ | refine wCond ?_); simp [lv, ouN, kpI, kpR, pos, ren, ren0, renB, renC, renCs]) | (refine wIn ?_; refine And.intro (by kernel_rfl) ?_; try simp only [thenA_n]) | (first | refine wBlock ?_ | refine wScope ?_) | ((first | refine wRet ?_ | refine wExit ?_ | refine wSkip ?_); try simp) | ((first | refine wLabel ?_ | refine wOn ?_ | refine wQn ?_); try simp only [thenA_n])
  have c4 := rnum b a3 hb
  obtain ⟨x4, ⟨q4, a4⟩, e4⟩ := foI_got b (0, a3)
  rw [e4] at c4
  simp only [vOf1, vOf2] at c4
  by_cases z4 : q4 = 0
  rotate_left
  · have hz : (fRq.rd b (0, a)).2 = (q4, a4) := by simp only [fRq, sq_rd, e0, e1, e2, e3, e4, (fl_L fMb_L 4).stk b q4 a4 z4, (fl_L foI_L 1).stk b q4 a4 z4, fZx_L.stk b q4 a4 z4]
    rw [hz, rO_err _ _ _ z4] at ho
    subst ho
    rw [rO_err _ _ _ z4] at c4
    refine CallK_gen [1024] c4 (by decide) (by decide) (by simp [blksOf, inN, pos, renB, ren0, ouN, lv, kpI, kpR]) (by simp [argsG, argG, ren0, inN, pos, renCs, renC]) ?_
    simp [GenK, lv, ouN, kpI, kpR, pos, ren, ren0, renB, renC, renCs]
    all_goals try simp only [thenA_p, blockA_p]
    all_goals apply hp
    all_goals simp [AResP, outB, renB, gaN, lv, ouN, kpI, kpR, pos, ren, ren0, renC, renCs]
  subst z4
  rw [rO_ok] at c4
  refine CallK_gen [1024] c4 (by decide) (by decide) (by simp [blksOf, inN, pos, renB, ren0, ouN, lv, kpI, kpR]) (by simp [argsG, argG, ren0, inN, pos, renCs, renC]) ⟨[], by simp, by simp, ?_⟩
  simp [lv, ouN, kpI, kpR, pos, ren, ren0, renB, renC, renCs]
  repeat' first | (refine hK _ ?_; clear hK) | (refine hK _ _ ?_; clear hK) | (clear hK; refine hK _ ?_; clear hK) | (clear hK; clear hK; refine hK _ ?_; clear hK) | (clear hK; clear hK; clear hK; refine hK _ ?_; clear hK) | (clear hK; clear hK; clear hK; clear hK; refine hK _ ?_; clear hK) | (refine wSeq fun K hK => ?_) | ((first | refine wReg ?_ | refine wDrwQ rfl (by kernel_rfl) ?_ | refine wDrwI ?_ | refine wDrw (by kernel_rfl) ?_); simp only [List.map_cons, List.map_nil, strip]) | ((first | refine wIs fun K hK => ?_ | refine wOs fun K hK => ?_ | refine wQs fun K hK => ?_ | refine CallQ_plain ?_ | refine CallR_plain ?_ | refine wCond ?_); simp [lv, ouN, kpI, kpR, pos, ren, ren0, renB, renC, renCs]) | (refine wIn ?_; refine And.intro (by kernel_rfl) ?_; try simp only [thenA_n]) | (first | refine wBlock ?_ | refine wScope ?_) | ((first | refine wRet ?_ | refine wExit ?_ | refine wSkip ?_); try simp) | ((first | refine wLabel ?_ | refine wOn ?_ | refine wQn ?_); try simp only [thenA_n])
  have c5 := rlMb b a4 hb
  obtain ⟨x5, ⟨q5, a5⟩, e5⟩ := fl_got 4 fMb b (0, a4)
  rw [e5] at c5
  simp only [vOf1, vOf2] at c5
  by_cases z5 : q5 = 0
  rotate_left
  · have hz : (fRq.rd b (0, a)).2 = (q5, a5) := by simp only [fRq, sq_rd, e0, e1, e2, e3, e4, e5, (fl_L foI_L 1).stk b q5 a5 z5, fZx_L.stk b q5 a5 z5]
    rw [hz, rO_err _ _ _ z5] at ho
    subst ho
    rw [rO_err _ _ _ z5] at c5
    refine CallK_gen [1024] c5 (by decide) (by decide) (by simp [blksOf, inN, pos, renB, ren0, ouN, lv, kpI, kpR]) (by simp [argsG, argG, ren0, inN, pos, renCs, renC]) ?_
    simp [GenK, lv, ouN, kpI, kpR, pos, ren, ren0, renB, renC, renCs]
    all_goals try simp only [thenA_p, blockA_p]
    all_goals apply hp
    all_goals simp [AResP, outB, renB, gaN, lv, ouN, kpI, kpR, pos, ren, ren0, renC, renCs]
  subst z5
  rw [rO_ok] at c5
  refine CallK_gen [1024] c5 (by decide) (by decide) (by simp [blksOf, inN, pos, renB, ren0, ouN, lv, kpI, kpR]) (by simp [argsG, argG, ren0, inN, pos, renCs, renC]) ⟨[], by simp, by simp, ?_⟩
  simp [lv, ouN, kpI, kpR, pos, ren, ren0, renB, renC, renCs]
  repeat' first | (refine hK _ ?_; clear hK) | (refine hK _ _ ?_; clear hK) | (clear hK; refine hK _ ?_; clear hK) | (clear hK; clear hK; refine hK _ ?_; clear hK) | (clear hK; clear hK; clear hK; refine hK _ ?_; clear hK) | (clear hK; clear hK; clear hK; clear hK; refine hK _ ?_; clear hK) | (refine wSeq fun K hK => ?_) | ((first | refine wReg ?_ | refine wDrwQ rfl (by kernel_rfl) ?_ | refine wDrwI ?_ | refine wDrw (by kernel_rfl) ?_); simp only [List.map_cons, List.map_nil, strip]) | ((first | refine wIs fun K hK => ?_ | refine wOs fun K hK => ?_ | refine wQs fun K hK => ?_ | refine CallQ_plain ?_ | refine CallR_plain ?_ | refine wCond ?_); simp [lv, ouN, kpI, kpR, pos, ren, ren0, renB, renC, renCs]) | (refine wIn ?_; refine And.intro (by kernel_rfl) ?_; try simp only [thenA_n]) | (first | refine wBlock ?_ | refine wScope ?_) | ((first | refine wRet ?_ | refine wExit ?_ | refine wSkip ?_); try simp) | ((first | refine wLabel ?_ | refine wOn ?_ | refine wQn ?_); try simp only [thenA_n])
  have c6 := rlI b a5 hb
  obtain ⟨x6, ⟨q6, a6⟩, e6⟩ := fl_got 1 foI b (0, a5)
  rw [e6] at c6
  simp only [vOf1, vOf2] at c6
  by_cases z6 : q6 = 0
  rotate_left
  · have hz : (fRq.rd b (0, a)).2 = (q6, a6) := by simp only [fRq, sq_rd, e0, e1, e2, e3, e4, e5, e6, fZx_L.stk b q6 a6 z6]
    rw [hz, rO_err _ _ _ z6] at ho
    subst ho
    rw [rO_err _ _ _ z6] at c6
    refine CallK_gen [1024] c6 (by decide) (by decide) (by simp [blksOf, inN, pos, renB, ren0, ouN, lv, kpI, kpR]) (by simp [argsG, argG, ren0, inN, pos, renCs, renC]) ?_
    simp [GenK, lv, ouN, kpI, kpR, pos, ren, ren0, renB, renC, renCs]
    all_goals try simp only [thenA_p, blockA_p]
    all_goals apply hp
    all_goals simp [AResP, outB, renB, gaN, lv, ouN, kpI, kpR, pos, ren, ren0, renC, renCs]
  subst z6
  rw [rO_ok] at c6
  refine CallK_gen [1024] c6 (by decide) (by decide) (by simp [blksOf, inN, pos, renB, ren0, ouN, lv, kpI, kpR]) (by simp [argsG, argG, ren0, inN, pos, renCs, renC]) ⟨[], by simp, by simp, ?_⟩
  simp [lv, ouN, kpI, kpR, pos, ren, ren0, renB, renC, renCs]
  repeat' first | (refine hK _ ?_; clear hK) | (refine hK _ _ ?_; clear hK) | (clear hK; refine hK _ ?_; clear hK) | (clear hK; clear hK; refine hK _ ?_; clear hK) | (clear hK; clear hK; clear hK; refine hK _ ?_; clear hK) | (clear hK; clear hK; clear hK; clear hK; refine hK _ ?_; clear hK) | (refine wSeq fun K hK => ?_) | ((first | refine wReg ?_ | refine wDrwQ rfl (by kernel_rfl) ?_ | refine wDrwI ?_ | refine wDrw (by kernel_rfl) ?_); simp only [List.map_cons, List.map_nil, strip]) | ((first | refine wIs fun K hK => ?_ | refine wOs fun K hK => ?_ | refine wQs fun K hK => ?_ | refine CallQ_plain ?_ | refine CallR_plain ?_ | refine wCond ?_); simp [lv, ouN, kpI, kpR, pos, ren, ren0, renB, renC, renCs]) | (refine wIn ?_; refine And.intro (by kernel_rfl) ?_; try simp only [thenA_n]) | (first | refine wBlock ?_ | refine wScope ?_) | ((first | refine wRet ?_ | refine wExit ?_ | refine wSkip ?_); try simp) | ((first | refine wLabel ?_ | refine wOn ?_ | refine wQn ?_); try simp only [thenA_n])
  have c7 := rZx b a6 hb
  obtain ⟨x7, x8, ⟨q7, a7⟩, e7⟩ := fZx_got b (0, a6)
  rw [e7] at c7
  simp only [vOf1, vOf2] at c7
  by_cases z7 : q7 = 0
  rotate_left
  · have hz : (fRq.rd b (0, a)).2 = (q7, a7) := by simp only [fRq, sq_rd, e0, e1, e2, e3, e4, e5, e6, e7]
    rw [hz, rO_err _ _ _ z7] at ho
    subst ho
    rw [rO_err _ _ _ z7] at c7
    refine CallK_gen [1024] c7 (by decide) (by decide) (by simp [blksOf, inN, pos, renB, ren0, ouN, lv, kpI, kpR]) (by simp [argsG, argG, ren0, inN, pos, renCs, renC]) ?_
    simp [GenK, lv, ouN, kpI, kpR, pos, ren, ren0, renB, renC, renCs]
    all_goals try simp only [thenA_p, blockA_p]
    all_goals apply hp
    all_goals simp [AResP, outB, renB, gaN, lv, ouN, kpI, kpR, pos, ren, ren0, renC, renCs]
  subst z7
  rw [rO_ok] at c7
  refine CallK_gen [1024] c7 (by decide) (by decide) (by simp [blksOf, inN, pos, renB, ren0, ouN, lv, kpI, kpR]) (by simp [argsG, argG, ren0, inN, pos, renCs, renC]) ⟨[], by simp, by simp, ?_⟩
  simp [lv, ouN, kpI, kpR, pos, ren, ren0, renB, renC, renCs]
  repeat' first | (refine hK _ ?_; clear hK) | (refine hK _ _ ?_; clear hK) | (clear hK; refine hK _ ?_; clear hK) | (clear hK; clear hK; refine hK _ ?_; clear hK) | (clear hK; clear hK; clear hK; refine hK _ ?_; clear hK) | (clear hK; clear hK; clear hK; clear hK; refine hK _ ?_; clear hK) | (refine wSeq fun K hK => ?_) | ((first | refine wReg ?_ | refine wDrwQ rfl (by kernel_rfl) ?_ | refine wDrwI ?_ | refine wDrw (by kernel_rfl) ?_); simp only [List.map_cons, List.map_nil, strip]) | ((first | refine wIs fun K hK => ?_ | refine wOs fun K hK => ?_ | refine wQs fun K hK => ?_ | refine CallQ_plain ?_ | refine CallR_plain ?_ | refine wCond ?_); simp [lv, ouN, kpI, kpR, pos, ren, ren0, renB, renC, renCs]) | (refine wIn ?_; refine And.intro (by kernel_rfl) ?_; try simp only [thenA_n]) | (first | refine wBlock ?_ | refine wScope ?_) | ((first | refine wRet ?_ | refine wExit ?_ | refine wSkip ?_); try simp) | ((first | refine wLabel ?_ | refine wOn ?_ | refine wQn ?_); try simp only [thenA_n])
  have hz : fRq.rd b (0, a) = ([I x0, I x1, I x2, .sl 6 x3, I x4, .sl 4 x5, .sl 1 x6, I x7, I x8], 0, a7) := by simp only [fRq, sq_rd, e0, e1, e2, e3, e4, e5, e6, e7, List.cons_append, List.nil_append]
  rw [hz] at ho
  simp only [rO_ok, vOf2] at ho
  subst ho
  all_goals first | apply hr
  all_goals refine ⟨[], by simp, by simp, ?_⟩
  all_goals simp [Try.f72, outR, outB, renB, gaN, lv, ouN, kpI, kpR, pos, ren, ren0, renC, renCs]
set_option maxHeartbeats 8000000 in
theorem rlZx (b : List UInt8) (a : Int) (hb : b.length ≤ 1000000000) : Con Try.prog 120 [.ptr 1024 0, .p (.v (.func (.func 95) #[] #[]))] (rB b a) (rO b (vOf ((fl 2 fZx).rd b (0, a)).1) ((fl 2 fZx).rd b (0, a)).2) := by
  generalize ho : rO b (vOf ((fl 2 fZx).rd b (0, a)).1) ((fl 2 fZx).rd b (0, a)).2 = out
  have c0 := rnum b a hb
  obtain ⟨Y, hY⟩ : ∃ Y, Y = rdC b (0, a) := ⟨_, rfl⟩
  have hC := hY
  unfold rdC at hC
  change Con _ _ _ _ (rO b (.p (I (rdN b (0, a)).1)) (rdN b (0, a)).2) at c0
  obtain ⟨n, q, a1, hN⟩ : ∃ n q a1, rdN b (0, a) = (n, q, a1) := ⟨_, _, _, rfl⟩
  rw [hN] at c0 hC
  simp only at c0 hC
  have hL : (fl 2 fZx).rd b (0, a) = ([.sl 2 (rdL fZx.rd b (rdC b (0, a)).1.toNat (rdC b (0, a)).2).1], (rdL fZx.rd b (rdC b (0, a)).1.toNat (rdC b (0, a)).2).2) := rfl
  rw [hL, ← hY, hC] at ho
  clear hL hC hY
  refine wBodyG Try.tab Try.mixed Try.func120 rfl rfl Try.ntmps120 (by simp) (by simp) fun Q hr hn hp => ?_
  repeat' first | (refine hK _ ?_; clear hK) | (refine hK _ _ ?_; clear hK) | (clear hK; refine hK _ ?_; clear hK) | (clear hK; clear hK; refine hK _ ?_; clear hK) | (clear hK; clear hK; clear hK; refine hK _ ?_; clear hK) | (clear hK; clear hK; clear hK; clear hK; refine hK _ ?_; clear hK) | (refine wSeq fun K hK => ?_) | ((first | refine wReg ?_ | refine wDrwQ rfl (by kernel_rfl) ?_ | refine wDrwI ?_ | refine wDrw (by kernel_rfl) ?_); simp only [List.map_cons, List.map_nil, strip]) | ((first | refine wIs fun K hK => ?_ | refine wOs fun K hK => ?_ | refine wQs fun K hK => ?_ | refine CallQ_plain ?_ | refine CallR_plain ?_ | refine wCond ?_); simp) | (refine wIn ?_; refine And.intro (by kernel_rfl) ?_; try simp only [thenA_n]) | (first | refine wBlock ?_ | refine wScope ?_) | ((first | refine wRet ?_ | refine wExit ?_ | refine wSkip ?_); try simp) | ((first | refine wLabel ?_ | refine wOn ?_ | refine wQn ?_); try simp only [thenA_n])
  by_cases hq : q = 0
  rotate_left
  · rw [if_pos hq] at ho
    simp only [rdL_stk _ _ _ _ hq] at ho
    rw [rO_err _ _ _ hq] at ho c0
    subst ho
    refine CallK_gen [1024] c0 (by decide) (by decide) (by simp [blksOf, inN, pos, renB, ren0, ouN, lv, kpI, kpR]) (by simp [argsG, argG, ren0, inN, pos, renCs, renC]) ?_
    simp [GenK, lv, ouN, kpI, kpR, pos, ren, ren0, renB, renC, renCs]
    all_goals try simp only [thenA_p, blockA_p]
    all_goals apply hp
    all_goals simp [AResP, outB, renB, gaN, lv, ouN, kpI, kpR, pos, ren, ren0, renC, renCs]
  subst hq
  rw [if_neg (by simp)] at ho
  rw [rO_ok] at c0
  refine CallK_gen [1024] c0 (by decide) (by decide) (by simp [blksOf, inN, pos, renB, ren0, ouN, lv, kpI, kpR]) (by simp [argsG, argG, ren0, inN, pos, renCs, renC]) ⟨[], by simp, by simp, ?_⟩
  simp [lv, ouN, kpI, kpR, pos, ren, ren0, renB, renC, renCs]
  by_cases h1 : n < 0
  · have e3 := give_con 3 (by decide)
    rw [if_pos h1] at ho
    simp only [rdL_stk fZx.rd b _ (e := 3) a1 (by decide)] at ho
    rw [rO_err _ _ _ (by decide)] at ho
    subst ho
    repeat' first | (refine CallE.pan e3 ?_) | (refine hK _ ?_; clear hK) | (refine hK _ _ ?_; clear hK) | (clear hK; refine hK _ ?_; clear hK) | (clear hK; clear hK; refine hK _ ?_; clear hK) | (clear hK; clear hK; clear hK; refine hK _ ?_; clear hK) | (clear hK; clear hK; clear hK; clear hK; refine hK _ ?_; clear hK) | (refine wSeq fun K hK => ?_) | ((first | refine wReg ?_ | refine wDrwQ rfl (by kernel_rfl) ?_ | refine wDrwI ?_ | refine wDrw (by kernel_rfl) ?_); simp only [List.map_cons, List.map_nil, strip]) | ((first | refine wIs fun K hK => ?_ | refine wOs fun K hK => ?_ | refine wQs fun K hK => ?_ | refine CallK_plain ?_ | refine CallQ_plain ?_ | refine CallR_plain ?_ | refine wCond ?_); simp [h1, lv, ouN, kpI, kpR, pos, ren, ren0, renB, renC, renCs]) | (refine wIn ?_; refine And.intro (by kernel_rfl) ?_; try simp only [thenA_n]) | (first | refine wBlock ?_ | refine wScope ?_) | ((first | refine wRet ?_ | refine wExit ?_ | refine wSkip ?_); try simp) | ((first | refine wLabel ?_ | refine wOn ?_ | refine wQn ?_); try simp only [thenA_n])
    all_goals try simp only [thenA_p, blockA_p]
    all_goals apply hp
    all_goals simp [AResP, outB, renB, gaN, lv, ouN, kpI, kpR, pos, ren, ren0, renC, renCs]
  rw [if_neg h1] at ho
  by_cases h2 : 1000 < n
  · have e5 := give_con 5 (by decide)
    rw [if_pos h2] at ho
    simp only [rdL_stk fZx.rd b _ (e := 5) a1 (by decide)] at ho
    rw [rO_err _ _ _ (by decide)] at ho
    subst ho
    repeat' first | (refine CallE.pan e5 ?_) | (refine hK _ ?_; clear hK) | (refine hK _ _ ?_; clear hK) | (clear hK; refine hK _ ?_; clear hK) | (clear hK; clear hK; refine hK _ ?_; clear hK) | (clear hK; clear hK; clear hK; refine hK _ ?_; clear hK) | (clear hK; clear hK; clear hK; clear hK; refine hK _ ?_; clear hK) | (refine wSeq fun K hK => ?_) | ((first | refine wReg ?_ | refine wDrwQ rfl (by kernel_rfl) ?_ | refine wDrwI ?_ | refine wDrw (by kernel_rfl) ?_); simp only [List.map_cons, List.map_nil, strip]) | ((first | refine wIs fun K hK => ?_ | refine wOs fun K hK => ?_ | refine wQs fun K hK => ?_ | refine CallK_plain ?_ | refine CallQ_plain ?_ | refine CallR_plain ?_ | refine wCond ?_); simp [h1, h2, lv, ouN, kpI, kpR, pos, ren, ren0, renB, renC, renCs]) | (refine wIn ?_; refine And.intro (by kernel_rfl) ?_; try simp only [thenA_n]) | (first | refine wBlock ?_ | refine wScope ?_) | ((first | refine wRet ?_ | refine wExit ?_ | refine wSkip ?_); try simp) | ((first | refine wLabel ?_ | refine wOn ?_ | refine wQn ?_); try simp only [thenA_n])
    all_goals try simp only [thenA_p, blockA_p]
    all_goals apply hp
    all_goals simp [AResP, outB, renB, gaN, lv, ouN, kpI, kpR, pos, ren, ren0, renC, renCs]
  rw [if_neg h2] at ho
  simp only at ho
  obtain ⟨m, rfl⟩ : ∃ m : Nat, n = m := ⟨n.toNat, by omega⟩
  simp only [Int.toNat_natCast] at ho
  have hm : m ≤ 1000 := by omega
  repeat' first | (refine hK _ ?_; clear hK) | (refine hK _ _ ?_; clear hK) | (clear hK; refine hK _ ?_; clear hK) | (clear hK; clear hK; refine hK _ ?_; clear hK) | (clear hK; clear hK; clear hK; refine hK _ ?_; clear hK) | (clear hK; clear hK; clear hK; clear hK; refine hK _ ?_; clear hK) | (refine wSeq fun K hK => ?_) | ((first | refine wReg ?_ | refine wDrwQ rfl (by kernel_rfl) ?_ | refine wDrwI ?_ | refine wDrw (by kernel_rfl) ?_); simp only [List.map_cons, List.map_nil, strip]) | ((first | refine wIs fun K hK => ?_ | refine wOs fun K hK => ?_ | refine wQs fun K hK => ?_ | refine CallQ_plain ?_ | refine CallR_plain ?_ | refine wCond ?_); simp [h1, h2, lv, ouN, kpI, kpR, pos, ren, ren0, renB, renC, renCs]) | (refine wIn ?_; refine And.intro (by kernel_rfl) ?_; try simp only [thenA_n]) | (first | refine wBlock ?_ | refine wScope ?_) | ((first | refine wRet ?_ | refine wExit ?_ | refine wSkip ?_); try simp) | ((first | refine wLabel ?_ | refine wOn ?_ | refine wQn ?_); try simp only [thenA_n])
  generalize hF : rdL fZx.rd b m (0, a1) = full at ho
  refine wLoopG [.row 6 24 2] (fun N st => ∃ k a2 acc, k + N = m ∧ acc.length = k ∧ full = (acc ++ (rdL fZx.rd b N (0, a2)).1, (rdL fZx.rd b N (0, a2)).2) ∧ st.s 0 = .ptr 1024 0 ∧ st.s 1 = .p (.v (.func (.func 95) #[] #[])) ∧ st.s 6 = .row 6 ∧ st.s 17 = .p (I m) ∧ st.s 18 = .p (I k) ∧ st.b 1024 = some (.box 160 [.p (.sl 1 (by8 b)), .p (I a2)]) ∧ st.b 6 = some (.row 24 2 acc)) m ⟨0, a1, [], by simp [hF, lv, ouN, kpI, kpR, pos, ren, ren0, renB, renC, renCs]⟩ fun K N st hL ⟨k, a2, acc, hk, hac, hfu, g0, g1, g6, g17, g18, b0, b6⟩ => ?_
  by_cases hlt : k < m
  · have hlt' : (k : Int) < (m : Int) := by omega
    have hw := wrapS k m hlt (by omega)
    obtain ⟨M, rfl⟩ : ∃ M, N = M + 1 := ⟨N - 1, by omega⟩
    rw [rdL, if_pos rfl] at hfu
    have c := rZx b a2 hb
    obtain ⟨x0, x1, ⟨q, a3⟩, he⟩ := fZx_got b (0, a2)
    rw [he] at c hfu
    try simp only [vOf1, vOf2] at c
    simp only at hfu
    by_cases z : q = 0
    · subst z
      rw [rO_ok] at c
      repeat' first | (refine CallK_gen [1024] c (by decide) (by decide) (by simp [blksOf, inN, pos, renB, ren0, b0]) (by simp [argsG, argG, ren0, inN, pos, renCs, renC]) ⟨[], by simp, by simp, ?_⟩; simp [lv, ouN, kpI, kpR, pos, ren, ren0, renB, renC, renCs, b0]) | (refine And.intro (by omega) ?_) | (refine hK _ ?_; clear hK) | (refine hK _ _ ?_; clear hK) | (clear hK; refine hK _ ?_; clear hK) | (clear hK; clear hK; refine hK _ ?_; clear hK) | (clear hK; clear hK; clear hK; refine hK _ ?_; clear hK) | (clear hK; clear hK; clear hK; clear hK; refine hK _ ?_; clear hK) | (refine wSeq fun K hK => ?_) | ((first | refine wReg ?_ | refine wDrwQ rfl (by kernel_rfl) ?_ | refine wDrwI ?_ | refine wDrw (by kernel_rfl) ?_); simp only [List.map_cons, List.map_nil, strip]) | ((first | refine wIs fun K hK => ?_ | refine wOs fun K hK => ?_ | refine wQs fun K hK => ?_ | refine CallK_plain ?_ | refine CallQ_plain ?_ | refine CallR_plain ?_ | refine wCond ?_); simp [g0, g1, g6, g17, g18, b0, b6, hlt, hlt', hw, lv, ouN, kpI, kpR, pos, ren, ren0, renB, renC, renCs]) | (refine wIn ?_; refine And.intro (by kernel_rfl) ?_; try simp only [thenA_n]) | (first | refine wBlock ?_ | refine wScope ?_) | ((first | refine wRet ?_ | refine wExit ?_ | refine wSkip ?_); try simp) | ((first | refine wLabel ?_ | refine wOn ?_ | refine wQn ?_); try simp only [thenA_n])
      refine hL _ M (by omega) ⟨k + 1, a3, acc ++ [[I x0, I x1]], by omega, by simp [hac], by rw [hfu]; simp, ?_⟩
      simp [g0, g1, g6, g17, g18, b0, b6, hw, lv, ouN, kpI, kpR, pos, ren, ren0, renB, renC, renCs]
    · rw [rdL_stk _ _ _ _ z] at hfu
      simp only at hfu
      rw [hfu, rO_err _ _ _ z] at ho
      rw [rO_err _ _ _ z] at c
      subst ho
      repeat' first | (refine CallK_gen [1024] c (by decide) (by decide) (by simp [blksOf, inN, pos, renB, ren0, b0]) (by simp [argsG, argG, ren0, inN, pos, renCs, renC]) ?_; simp [GenK, lv, ouN, kpI, kpR, pos, ren, ren0, renB, renC, renCs, b0]) | (refine hK _ ?_; clear hK) | (refine hK _ _ ?_; clear hK) | (clear hK; refine hK _ ?_; clear hK) | (clear hK; clear hK; refine hK _ ?_; clear hK) | (clear hK; clear hK; clear hK; refine hK _ ?_; clear hK) | (clear hK; clear hK; clear hK; clear hK; refine hK _ ?_; clear hK) | (refine wSeq fun K hK => ?_) | ((first | refine wReg ?_ | refine wDrwQ rfl (by kernel_rfl) ?_ | refine wDrwI ?_ | refine wDrw (by kernel_rfl) ?_); simp only [List.map_cons, List.map_nil, strip]) | ((first | refine wIs fun K hK => ?_ | refine wOs fun K hK => ?_ | refine wQs fun K hK => ?_ | refine CallK_plain ?_ | refine CallQ_plain ?_ | refine CallR_plain ?_ | refine wCond ?_); simp [g0, g1, g6, g17, g18, b0, b6, hlt, hlt', hw, lv, ouN, kpI, kpR, pos, ren, ren0, renB, renC, renCs]) | (refine wIn ?_; refine And.intro (by kernel_rfl) ?_; try simp only [thenA_n]) | (first | refine wBlock ?_ | refine wScope ?_) | ((first | refine wRet ?_ | refine wExit ?_ | refine wSkip ?_); try simp) | ((first | refine wLabel ?_ | refine wOn ?_ | refine wQn ?_); try simp only [thenA_n])
      all_goals try simp only [thenA_p, blockA_p]
      all_goals apply hp
      all_goals simp [AResP, outB, renB, gaN, lv, ouN, kpI, kpR, pos, ren, ren0, renC, renCs, b0]
  · have hlt' : ¬ (k : Int) < (m : Int) := by omega
    obtain rfl : N = 0 := by omega
    simp only [rdL, List.append_nil] at hfu
    rw [hfu, rO_ok, vOf1] at ho
    subst ho
    have f6 : (Av.frz st 6 2 acc).s 6 = .p (.sl 2 acc) := by simp [Av.frz, sub, sub0, g6]
    have f18 : (Av.frz st 6 2 acc).s 18 = .p (I k) := by simp [Av.frz, sub, sub0, g18]
    have f17 : (Av.frz st 6 2 acc).s 17 = .p (I m) := by simp [Av.frz, sub, sub0, g17]
    have f0 : (Av.frz st 6 2 acc).b 1024 = some (.box 160 [.p (.sl 1 (by8 b)), .p (I a2)]) := by simp [Av.frz, sub, sub0, subB, b0]
    repeat' first | (refine wFrzR 6 acc b6 ?_; generalize Av.frz st 6 2 acc = st2 at f6 f0 f17 f18 ⊢) | (refine hK _ ?_; clear hK) | (refine hK _ _ ?_; clear hK) | (clear hK; refine hK _ ?_; clear hK) | (clear hK; clear hK; refine hK _ ?_; clear hK) | (clear hK; clear hK; clear hK; refine hK _ ?_; clear hK) | (clear hK; clear hK; clear hK; clear hK; refine hK _ ?_; clear hK) | (refine wSeq fun K hK => ?_) | ((first | refine wReg ?_ | refine wDrwQ rfl (by kernel_rfl) ?_ | refine wDrwI ?_ | refine wDrw (by kernel_rfl) ?_); simp only [List.map_cons, List.map_nil, strip]) | ((first | refine wIs fun K hK => ?_ | refine wOs fun K hK => ?_ | refine wQs fun K hK => ?_ | refine CallK_plain ?_ | refine CallQ_plain ?_ | refine CallR_plain ?_ | refine wCond ?_); simp [f6, f0, f17, f18, hlt, hlt']) | (refine wIn ?_; refine And.intro (by kernel_rfl) ?_; try simp only [thenA_n]) | (first | refine wBlock ?_ | refine wScope ?_) | ((first | refine wRet ?_ | refine wExit ?_ | refine wSkip ?_); try simp) | ((first | refine wLabel ?_ | refine wOn ?_ | refine wQn ?_); try simp only [thenA_n])
    all_goals first | apply hr
    all_goals refine ⟨[], by simp, by simp, ?_⟩
    all_goals simp [Try.f120, outR, outB, renB, gaN, f6, f0]
/- Records read: transactions, states. -/
abbrev rbTx (b : List UInt8) (x : List V) (q : Int) : List Blk := [.box 121 [.p (.v (.func (.func 64) #[] #[]))], .box 116 [.ptr 1027 0], .box 28 x, .box 160 [.p (.sl 1 (by8 b)), .p (I q)]]
theorem fTx_ze : fTx.ze = [I 0, I 0, I 0, I 0, I 0, I 0, SB [], .sl 11 []] := rfl
set_option maxHeartbeats 4000000 in
theorem rcOkTx (b : List UInt8) (a q : Int) (x0 : Int) (x1 : Int) (x2 : Int) (x3 : Int) (x4 : Int) (x5 : Int) (x6 : List UInt8) (x7 : List (List PV))
    (hc : Con Try.prog 64 [.ptr 1024 0] (rB b a) (.ret (.p (.agg [I x0, I x1, I x2, I x3, I x4, I x5, SB x6, .sl 11 x7])) [] (rB b q))) :
    Con Try.prog 102 [.ptr 1024 0, .ptr 1025 0, .ptr 1026 0] (rbTx b [.p (I 0), .p (I 0), .p (I 0), .p (I 0), .p (I 0), .p (I 0), .p (SB []), .nil 11] a) (.ret (.tup []) [] (rbTx b [.p (I x0), .p (I x1), .p (I x2), .p (I x3), .p (I x4), .p (I x5), .p (SB x6), .p (.sl 11 x7)] q)) := by
  refine wBodyG Try.tab Try.mixed Try.func102 rfl rfl Try.ntmps102 (by simp) (by simp) fun Q hr hn hp => ?_
  repeat' first | (refine CallK_gen [1027] (hc) (by decide) (by decide) (by simp [blksOf, inN, pos, renB, renC, renCs, ren0, lv, ouN, kpI, kpR]) (by simp [argsG, argG, ren0, inN, pos, renCs, renC]) ⟨[], by simp, by simp, ?_⟩; simp [lv, ouN, kpI, kpR, pos, ren, ren0, renB, renC, renCs, renF, renFs]) | (refine hK _ ?_; clear hK) | (refine hK _ _ ?_; clear hK) | (clear hK; refine hK _ ?_; clear hK) | (clear hK; clear hK; refine hK _ ?_; clear hK) | (clear hK; clear hK; clear hK; refine hK _ ?_; clear hK) | (clear hK; clear hK; clear hK; clear hK; refine hK _ ?_; clear hK) | (refine wSeq fun K hK => ?_) | ((first | refine wReg ?_ | refine wDrwQ rfl (by kernel_rfl) ?_ | refine wDrwI ?_ | refine wDrw (by kernel_rfl) ?_); simp only [List.map_cons, List.map_nil, strip]) | ((first | refine wIs fun K hK => ?_ | refine wOs fun K hK => ?_ | refine wQs fun K hK => ?_ | refine CallK_plain ?_ | refine CallQ_plain ?_ | refine CallR_plain ?_ | refine wCond ?_); simp [lv, ouN, kpI, kpR, pos, ren, ren0, renB, renC, renCs]) | (refine wIn ?_; refine And.intro (by kernel_rfl) ?_; try simp only [thenA_n]) | (first | refine wBlock ?_ | refine wScope ?_) | ((first | refine wRet ?_ | refine wExit ?_ | refine wSkip ?_); try simp) | ((first | refine wLabel ?_ | refine wOn ?_ | refine wQn ?_); try simp only [thenA_n])
  all_goals first | apply hr | apply hn
  all_goals refine ⟨[], by simp, by simp, ?_⟩
  all_goals simp [Try.f102, outR, outB, renB, gaN, lv, ouN, kpI, kpR, pos, ren, ren0, renC, renCs]
set_option maxHeartbeats 4000000 in
theorem rcPanTx (b : List UInt8) (a q e : Int)
    (hc : Con Try.prog 64 [.ptr 1024 0] (rB b a) (.pan (.iface 192 (.int .i64 e)) (rB b q))) :
    Con Try.prog 102 [.ptr 1024 0, .ptr 1025 0, .ptr 1026 0] (rbTx b [.p (I 0), .p (I 0), .p (I 0), .p (I 0), .p (I 0), .p (I 0), .p (SB []), .nil 11] a) (.pan (.iface 192 (.int .i64 e)) (rbTx b [.p (I 0), .p (I 0), .p (I 0), .p (I 0), .p (I 0), .p (I 0), .p (SB []), .nil 11] q)) := by
  refine wBodyG Try.tab Try.mixed Try.func102 rfl rfl Try.ntmps102 (by simp) (by simp) fun Q hr hn hp => ?_
  repeat' first | (refine CallK_gen [1027] hc (by decide) (by decide) (by simp [blksOf, inN, pos, renB, ren0]) (by simp [argsG, argG, ren0, inN, pos, renCs, renC]) ?_; simp [GenK, lv, ouN, kpI, kpR, pos, ren, ren0, renB, renC, renCs]) | (refine hK _ ?_; clear hK) | (refine hK _ _ ?_; clear hK) | (clear hK; refine hK _ ?_; clear hK) | (clear hK; clear hK; refine hK _ ?_; clear hK) | (clear hK; clear hK; clear hK; refine hK _ ?_; clear hK) | (clear hK; clear hK; clear hK; clear hK; refine hK _ ?_; clear hK) | (refine wSeq fun K hK => ?_) | ((first | refine wReg ?_ | refine wDrwQ rfl (by kernel_rfl) ?_ | refine wDrwI ?_ | refine wDrw (by kernel_rfl) ?_); simp only [List.map_cons, List.map_nil, strip]) | ((first | refine wIs fun K hK => ?_ | refine wOs fun K hK => ?_ | refine wQs fun K hK => ?_ | refine CallK_plain ?_ | refine CallQ_plain ?_ | refine CallR_plain ?_ | refine wCond ?_); simp [lv, ouN, kpI, kpR, pos, ren, ren0, renB, renC, renCs]) | (refine wIn ?_; refine And.intro (by kernel_rfl) ?_; try simp only [thenA_n]) | (first | refine wBlock ?_ | refine wScope ?_) | ((first | refine wRet ?_ | refine wExit ?_ | refine wSkip ?_); try simp) | ((first | refine wLabel ?_ | refine wOn ?_ | refine wQn ?_); try simp only [thenA_n])
  all_goals try simp only [thenA_p, blockA_p]
  all_goals apply hp
  all_goals simp [AResP, outB, renB, gaN, lv, ouN, kpI, kpR, pos, ren, ren0, renC, renCs]
set_option maxHeartbeats 4000000 in
theorem read0Tx (b : List UInt8) (a q : Int) (x0 : Int) (x1 : Int) (x2 : Int) (x3 : Int) (x4 : Int) (x5 : Int) (x6 : List UInt8) (x7 : List (List PV))
    (hc : Con Try.prog 64 [.ptr 1024 0] (rB b a) (.ret (.p (.agg [I x0, I x1, I x2, I x3, I x4, I x5, SB x6, .sl 11 x7])) [] (rB b q))) :
    ACon Try.prog 63 [.p (.sl 1 (by8 b)), .p (I a), .p (.v (.func (.func 64) #[] #[]))] (.tup [.p (.agg [I x0, I x1, I x2, I x3, I x4, I x5, SB x6, .sl 11 x7]), .p (I q), .p (I 0)]) := by
  have he0 : ByteArray.empty = bs [] := rfl
  have ct := try_con (caps := [.box 1024, .box 1025, .box 1026]) (rcOkTx b a q x0 x1 x2 x3 x4 x5 x6 x7 hc) rfl
  refine wBody Try.tab Try.mixed Try.func63 rfl rfl Try.ntmps63 (by simp) (by simp) fun Q hr hn => ?_
  repeat' first | (refine CallK_gen [5, 11, 9, 16] ct (by decide) (by decide) (by simp [blksOf, inN, pos, renB, ren0, he0]) (by simp [argsG, argG, ren0, inN, pos, renCs, renC]) ⟨[], by simp, by simp, ?_⟩; simp [lv, ouN, kpI, kpR, pos, ren, ren0, renB, renC, renCs]) | (refine hK _ ?_; clear hK) | (refine hK _ _ ?_; clear hK) | (clear hK; refine hK _ ?_; clear hK) | (clear hK; clear hK; refine hK _ ?_; clear hK) | (clear hK; clear hK; clear hK; refine hK _ ?_; clear hK) | (clear hK; clear hK; clear hK; clear hK; refine hK _ ?_; clear hK) | (refine wSeq fun K hK => ?_) | ((first | refine wReg ?_ | refine wDrwQ rfl (by kernel_rfl) ?_ | refine wDrwI ?_ | refine wDrw (by kernel_rfl) ?_); simp only [List.map_cons, List.map_nil, strip]) | ((first | refine wIs fun K hK => ?_ | refine wOs fun K hK => ?_ | refine wQs fun K hK => ?_ | refine CallK_plain ?_ | refine CallQ_plain ?_ | refine CallR_plain ?_ | refine wCond ?_); simp [lv, ouN, kpI, kpR, pos, ren, ren0, renB, renC, renCs]) | (refine wIn ?_; refine And.intro (by kernel_rfl) ?_; try simp only [thenA_n]) | (first | refine wBlock ?_ | refine wScope ?_) | ((first | refine wRet ?_ | refine wExit ?_ | refine wSkip ?_); try simp) | ((first | refine wLabel ?_ | refine wOn ?_ | refine wQn ?_); try simp only [thenA_n])
  all_goals apply hr
  all_goals simp [Try.f63]
set_option maxHeartbeats 4000000 in
theorem readETx (b : List UInt8) (a q e : Int) (h0 : ¬ e = 0)
    (hc : Con Try.prog 64 [.ptr 1024 0] (rB b a) (.pan (.iface 192 (.int .i64 e)) (rB b q))) :
    ACon Try.prog 63 [.p (.sl 1 (by8 b)), .p (I a), .p (.v (.func (.func 64) #[] #[]))] (.tup [.p (.agg [I 0, I 0, I 0, I 0, I 0, I 0, SB [], .sl 11 []]), .p (I 0), .p (I e)]) := by
  have he0 : ByteArray.empty = bs [] := rfl
  have ct := try_con (n := e) (caps := [.box 1024, .box 1025, .box 1026]) (rcPanTx b a q e hc) rfl
  refine wBody Try.tab Try.mixed Try.func63 rfl rfl Try.ntmps63 (by simp) (by simp) fun Q hr hn => ?_
  repeat' first | (refine CallK_gen [5, 11, 9, 16] ct (by decide) (by decide) (by simp [blksOf, inN, pos, renB, ren0, he0]) (by simp [argsG, argG, ren0, inN, pos, renCs, renC]) ⟨[], by simp, by simp, ?_⟩; simp [lv, ouN, kpI, kpR, pos, ren, ren0, renB, renC, renCs]) | (refine hK _ ?_; clear hK) | (refine hK _ _ ?_; clear hK) | (clear hK; refine hK _ ?_; clear hK) | (clear hK; clear hK; refine hK _ ?_; clear hK) | (clear hK; clear hK; clear hK; refine hK _ ?_; clear hK) | (clear hK; clear hK; clear hK; clear hK; refine hK _ ?_; clear hK) | (refine wSeq fun K hK => ?_) | ((first | refine wReg ?_ | refine wDrwQ rfl (by kernel_rfl) ?_ | refine wDrwI ?_ | refine wDrw (by kernel_rfl) ?_); simp only [List.map_cons, List.map_nil, strip]) | ((first | refine wIs fun K hK => ?_ | refine wOs fun K hK => ?_ | refine wQs fun K hK => ?_ | refine CallK_plain ?_ | refine CallQ_plain ?_ | refine CallR_plain ?_ | refine wCond ?_); simp [h0, lv, ouN, kpI, kpR, pos, ren, ren0, renB, renC, renCs]) | (refine wIn ?_; refine And.intro (by kernel_rfl) ?_; try simp only [thenA_n]) | (first | refine wBlock ?_ | refine wScope ?_) | ((first | refine wRet ?_ | refine wExit ?_ | refine wSkip ?_); try simp) | ((first | refine wLabel ?_ | refine wOn ?_ | refine wQn ?_); try simp only [thenA_n])
  all_goals apply hr
  all_goals simp [Try.f63, he0]
set_option maxHeartbeats 4000000 in
theorem readTx (b : List UInt8) (a : Int) (hb : b.length ≤ 1000000000) : ACon Try.prog 28 [.p (.sl 1 (by8 b)), .p (I a)] (rT fTx b a) := by
  have c := rTx b a hb
  obtain ⟨x0, x1, x2, x3, x4, x5, x6, x7, ⟨q, k⟩, he⟩ := fTx_got b (0, a)
  unfold rT
  rw [he] at c ⊢
  simp only [vOf2] at c ⊢
  have he0 : ByteArray.empty = bs [] := rfl
  by_cases h : q = 0
  · subst h
    rw [rO_ok] at c
    rw [if_pos rfl]
    have c2 := read0Tx b a k x0 x1 x2 x3 x4 x5 x6 x7 c
    clear c he
    refine wBody Try.tab Try.mixed Try.func28 rfl rfl Try.ntmps28 (by simp) (by simp) fun Q hr hn => ?_
    repeat' first | (refine hK _ ?_; clear hK) | (refine hK _ _ ?_; clear hK) | (clear hK; refine hK _ ?_; clear hK) | (clear hK; clear hK; refine hK _ ?_; clear hK) | (clear hK; clear hK; clear hK; refine hK _ ?_; clear hK) | (clear hK; clear hK; clear hK; clear hK; refine hK _ ?_; clear hK) | (refine wSeq fun K hK => ?_) | ((first | refine wReg ?_ | refine wDrwQ rfl (by kernel_rfl) ?_ | refine wDrwI ?_ | refine wDrw (by kernel_rfl) ?_); simp only [List.map_cons, List.map_nil, strip]) | ((first | refine wIs fun K hK => ?_ | refine wOs fun K hK => ?_ | refine wQs fun K hK => ?_ | refine CallK_plain ?_ | refine CallQ_plain ?_ | refine CallR_plain ?_ | refine wCond ?_); simp) | (refine wIn ?_; refine And.intro (by kernel_rfl) ?_; try simp only [thenA_n]) | (first | refine wBlock ?_ | refine wScope ?_) | ((first | refine wRet ?_ | refine wExit ?_ | refine wSkip ?_); try simp) | ((first | refine wLabel ?_ | refine wOn ?_ | refine wQn ?_); try simp only [thenA_n]) | (refine CallE.pure (c2) rfl ?_) | (refine CallE.lent (c2) rfl ?_) | (refine CallF.pure (c2) rfl ?_) | (refine CallF.lent (c2) rfl ?_) | (refine CallE.own (c2) ?_) | (refine CallH.pure (c2) rfl ?_) | (refine CallH.lent (c2) rfl ?_) | (refine CallH.own (c2) ?_)
    all_goals apply hr
    all_goals simp [Try.f28]
  · rw [rO_err _ _ _ h] at c
    rw [if_neg h, fTx_ze]
    have c2 := readETx b a k q h c
    clear c he
    simp only [vOf2]
    refine wBody Try.tab Try.mixed Try.func28 rfl rfl Try.ntmps28 (by simp) (by simp) fun Q hr hn => ?_
    repeat' first | (refine hK _ ?_; clear hK) | (refine hK _ _ ?_; clear hK) | (clear hK; refine hK _ ?_; clear hK) | (clear hK; clear hK; refine hK _ ?_; clear hK) | (clear hK; clear hK; clear hK; refine hK _ ?_; clear hK) | (clear hK; clear hK; clear hK; clear hK; refine hK _ ?_; clear hK) | (refine wSeq fun K hK => ?_) | ((first | refine wReg ?_ | refine wDrwQ rfl (by kernel_rfl) ?_ | refine wDrwI ?_ | refine wDrw (by kernel_rfl) ?_); simp only [List.map_cons, List.map_nil, strip]) | ((first | refine wIs fun K hK => ?_ | refine wOs fun K hK => ?_ | refine wQs fun K hK => ?_ | refine CallK_plain ?_ | refine CallQ_plain ?_ | refine CallR_plain ?_ | refine wCond ?_); simp) | (refine wIn ?_; refine And.intro (by kernel_rfl) ?_; try simp only [thenA_n]) | (first | refine wBlock ?_ | refine wScope ?_) | ((first | refine wRet ?_ | refine wExit ?_ | refine wSkip ?_); try simp) | ((first | refine wLabel ?_ | refine wOn ?_ | refine wQn ?_); try simp only [thenA_n]) | (refine CallE.pure (c2) rfl ?_) | (refine CallE.lent (c2) rfl ?_) | (refine CallF.pure (c2) rfl ?_) | (refine CallF.lent (c2) rfl ?_) | (refine CallE.own (c2) ?_) | (refine CallH.pure (c2) rfl ?_) | (refine CallH.lent (c2) rfl ?_) | (refine CallH.own (c2) ?_)
    all_goals apply hr
    all_goals simp [Try.f28]
abbrev rbSt (b : List UInt8) (x : List V) (q : Int) : List Blk := [.box 124 [.p (.v (.func (.func 67) #[] #[]))], .box 116 [.ptr 1027 0], .box 35 x, .box 160 [.p (.sl 1 (by8 b)), .p (I q)]]
theorem fSt_ze : fSt.ze = [.sl 5 [], .sl 1 [], I 0, I 0, I 0, I 0, .sl 4 [], I 0, I 0] := rfl
set_option maxHeartbeats 4000000 in
theorem rcOkSt (b : List UInt8) (a q : Int) (x0 : List (List PV)) (x1 : List (List PV)) (x2 : Int) (x3 : Int) (x4 : Int) (x5 : Int) (x6 : List (List PV)) (x7 : Int) (x8 : Int)
    (hc : Con Try.prog 67 [.ptr 1024 0] (rB b a) (.ret (.p (.agg [.sl 5 x0, .sl 1 x1, I x2, I x3, I x4, I x5, .sl 4 x6, I x7, I x8])) [] (rB b q))) :
    Con Try.prog 108 [.ptr 1024 0, .ptr 1025 0, .ptr 1026 0] (rbSt b [.nil 5, .nil 1, .p (I 0), .p (I 0), .p (I 0), .p (I 0), .nil 4, .p (I 0), .p (I 0)] a) (.ret (.tup []) [] (rbSt b [.p (.sl 5 x0), .p (.sl 1 x1), .p (I x2), .p (I x3), .p (I x4), .p (I x5), .p (.sl 4 x6), .p (I x7), .p (I x8)] q)) := by
  refine wBodyG Try.tab Try.mixed Try.func108 rfl rfl Try.ntmps108 (by simp) (by simp) fun Q hr hn hp => ?_
  repeat' first | (refine CallK_gen [1027] (hc) (by decide) (by decide) (by simp [blksOf, inN, pos, renB, renC, renCs, ren0, lv, ouN, kpI, kpR]) (by simp [argsG, argG, ren0, inN, pos, renCs, renC]) ⟨[], by simp, by simp, ?_⟩; simp [lv, ouN, kpI, kpR, pos, ren, ren0, renB, renC, renCs, renF, renFs]) | (refine hK _ ?_; clear hK) | (refine hK _ _ ?_; clear hK) | (clear hK; refine hK _ ?_; clear hK) | (clear hK; clear hK; refine hK _ ?_; clear hK) | (clear hK; clear hK; clear hK; refine hK _ ?_; clear hK) | (clear hK; clear hK; clear hK; clear hK; refine hK _ ?_; clear hK) | (refine wSeq fun K hK => ?_) | ((first | refine wReg ?_ | refine wDrwQ rfl (by kernel_rfl) ?_ | refine wDrwI ?_ | refine wDrw (by kernel_rfl) ?_); simp only [List.map_cons, List.map_nil, strip]) | ((first | refine wIs fun K hK => ?_ | refine wOs fun K hK => ?_ | refine wQs fun K hK => ?_ | refine CallK_plain ?_ | refine CallQ_plain ?_ | refine CallR_plain ?_ | refine wCond ?_); simp [lv, ouN, kpI, kpR, pos, ren, ren0, renB, renC, renCs]) | (refine wIn ?_; refine And.intro (by kernel_rfl) ?_; try simp only [thenA_n]) | (first | refine wBlock ?_ | refine wScope ?_) | ((first | refine wRet ?_ | refine wExit ?_ | refine wSkip ?_); try simp) | ((first | refine wLabel ?_ | refine wOn ?_ | refine wQn ?_); try simp only [thenA_n])
  all_goals first | apply hr | apply hn
  all_goals refine ⟨[], by simp, by simp, ?_⟩
  all_goals simp [Try.f108, outR, outB, renB, gaN, lv, ouN, kpI, kpR, pos, ren, ren0, renC, renCs]
set_option maxHeartbeats 4000000 in
theorem rcPanSt (b : List UInt8) (a q e : Int)
    (hc : Con Try.prog 67 [.ptr 1024 0] (rB b a) (.pan (.iface 192 (.int .i64 e)) (rB b q))) :
    Con Try.prog 108 [.ptr 1024 0, .ptr 1025 0, .ptr 1026 0] (rbSt b [.nil 5, .nil 1, .p (I 0), .p (I 0), .p (I 0), .p (I 0), .nil 4, .p (I 0), .p (I 0)] a) (.pan (.iface 192 (.int .i64 e)) (rbSt b [.nil 5, .nil 1, .p (I 0), .p (I 0), .p (I 0), .p (I 0), .nil 4, .p (I 0), .p (I 0)] q)) := by
  refine wBodyG Try.tab Try.mixed Try.func108 rfl rfl Try.ntmps108 (by simp) (by simp) fun Q hr hn hp => ?_
  repeat' first | (refine CallK_gen [1027] hc (by decide) (by decide) (by simp [blksOf, inN, pos, renB, ren0]) (by simp [argsG, argG, ren0, inN, pos, renCs, renC]) ?_; simp [GenK, lv, ouN, kpI, kpR, pos, ren, ren0, renB, renC, renCs]) | (refine hK _ ?_; clear hK) | (refine hK _ _ ?_; clear hK) | (clear hK; refine hK _ ?_; clear hK) | (clear hK; clear hK; refine hK _ ?_; clear hK) | (clear hK; clear hK; clear hK; refine hK _ ?_; clear hK) | (clear hK; clear hK; clear hK; clear hK; refine hK _ ?_; clear hK) | (refine wSeq fun K hK => ?_) | ((first | refine wReg ?_ | refine wDrwQ rfl (by kernel_rfl) ?_ | refine wDrwI ?_ | refine wDrw (by kernel_rfl) ?_); simp only [List.map_cons, List.map_nil, strip]) | ((first | refine wIs fun K hK => ?_ | refine wOs fun K hK => ?_ | refine wQs fun K hK => ?_ | refine CallK_plain ?_ | refine CallQ_plain ?_ | refine CallR_plain ?_ | refine wCond ?_); simp [lv, ouN, kpI, kpR, pos, ren, ren0, renB, renC, renCs]) | (refine wIn ?_; refine And.intro (by kernel_rfl) ?_; try simp only [thenA_n]) | (first | refine wBlock ?_ | refine wScope ?_) | ((first | refine wRet ?_ | refine wExit ?_ | refine wSkip ?_); try simp) | ((first | refine wLabel ?_ | refine wOn ?_ | refine wQn ?_); try simp only [thenA_n])
  all_goals try simp only [thenA_p, blockA_p]
  all_goals apply hp
  all_goals simp [AResP, outB, renB, gaN, lv, ouN, kpI, kpR, pos, ren, ren0, renC, renCs]
set_option maxHeartbeats 4000000 in
theorem read0St (b : List UInt8) (a q : Int) (x0 : List (List PV)) (x1 : List (List PV)) (x2 : Int) (x3 : Int) (x4 : Int) (x5 : Int) (x6 : List (List PV)) (x7 : Int) (x8 : Int)
    (hc : Con Try.prog 67 [.ptr 1024 0] (rB b a) (.ret (.p (.agg [.sl 5 x0, .sl 1 x1, I x2, I x3, I x4, I x5, .sl 4 x6, I x7, I x8])) [] (rB b q))) :
    ACon Try.prog 66 [.p (.sl 1 (by8 b)), .p (I a), .p (.v (.func (.func 67) #[] #[]))] (.tup [.p (.agg [.sl 5 x0, .sl 1 x1, I x2, I x3, I x4, I x5, .sl 4 x6, I x7, I x8]), .p (I q), .p (I 0)]) := by
  have he0 : ByteArray.empty = bs [] := rfl
  have ct := try_con (caps := [.box 1024, .box 1025, .box 1026]) (rcOkSt b a q x0 x1 x2 x3 x4 x5 x6 x7 x8 hc) rfl
  refine wBody Try.tab Try.mixed Try.func66 rfl rfl Try.ntmps66 (by simp) (by simp) fun Q hr hn => ?_
  repeat' first | (refine CallK_gen [5, 11, 9, 16] ct (by decide) (by decide) (by simp [blksOf, inN, pos, renB, ren0, he0]) (by simp [argsG, argG, ren0, inN, pos, renCs, renC]) ⟨[], by simp, by simp, ?_⟩; simp [lv, ouN, kpI, kpR, pos, ren, ren0, renB, renC, renCs]) | (refine hK _ ?_; clear hK) | (refine hK _ _ ?_; clear hK) | (clear hK; refine hK _ ?_; clear hK) | (clear hK; clear hK; refine hK _ ?_; clear hK) | (clear hK; clear hK; clear hK; refine hK _ ?_; clear hK) | (clear hK; clear hK; clear hK; clear hK; refine hK _ ?_; clear hK) | (refine wSeq fun K hK => ?_) | ((first | refine wReg ?_ | refine wDrwQ rfl (by kernel_rfl) ?_ | refine wDrwI ?_ | refine wDrw (by kernel_rfl) ?_); simp only [List.map_cons, List.map_nil, strip]) | ((first | refine wIs fun K hK => ?_ | refine wOs fun K hK => ?_ | refine wQs fun K hK => ?_ | refine CallK_plain ?_ | refine CallQ_plain ?_ | refine CallR_plain ?_ | refine wCond ?_); simp [lv, ouN, kpI, kpR, pos, ren, ren0, renB, renC, renCs]) | (refine wIn ?_; refine And.intro (by kernel_rfl) ?_; try simp only [thenA_n]) | (first | refine wBlock ?_ | refine wScope ?_) | ((first | refine wRet ?_ | refine wExit ?_ | refine wSkip ?_); try simp) | ((first | refine wLabel ?_ | refine wOn ?_ | refine wQn ?_); try simp only [thenA_n])
  all_goals apply hr
  all_goals simp [Try.f66]
set_option maxHeartbeats 4000000 in
theorem readESt (b : List UInt8) (a q e : Int) (h0 : ¬ e = 0)
    (hc : Con Try.prog 67 [.ptr 1024 0] (rB b a) (.pan (.iface 192 (.int .i64 e)) (rB b q))) :
    ACon Try.prog 66 [.p (.sl 1 (by8 b)), .p (I a), .p (.v (.func (.func 67) #[] #[]))] (.tup [.p (.agg [.sl 5 [], .sl 1 [], I 0, I 0, I 0, I 0, .sl 4 [], I 0, I 0]), .p (I 0), .p (I e)]) := by
  have he0 : ByteArray.empty = bs [] := rfl
  have ct := try_con (n := e) (caps := [.box 1024, .box 1025, .box 1026]) (rcPanSt b a q e hc) rfl
  refine wBody Try.tab Try.mixed Try.func66 rfl rfl Try.ntmps66 (by simp) (by simp) fun Q hr hn => ?_
  repeat' first | (refine CallK_gen [5, 11, 9, 16] ct (by decide) (by decide) (by simp [blksOf, inN, pos, renB, ren0, he0]) (by simp [argsG, argG, ren0, inN, pos, renCs, renC]) ⟨[], by simp, by simp, ?_⟩; simp [lv, ouN, kpI, kpR, pos, ren, ren0, renB, renC, renCs]) | (refine hK _ ?_; clear hK) | (refine hK _ _ ?_; clear hK) | (clear hK; refine hK _ ?_; clear hK) | (clear hK; clear hK; refine hK _ ?_; clear hK) | (clear hK; clear hK; clear hK; refine hK _ ?_; clear hK) | (clear hK; clear hK; clear hK; clear hK; refine hK _ ?_; clear hK) | (refine wSeq fun K hK => ?_) | ((first | refine wReg ?_ | refine wDrwQ rfl (by kernel_rfl) ?_ | refine wDrwI ?_ | refine wDrw (by kernel_rfl) ?_); simp only [List.map_cons, List.map_nil, strip]) | ((first | refine wIs fun K hK => ?_ | refine wOs fun K hK => ?_ | refine wQs fun K hK => ?_ | refine CallK_plain ?_ | refine CallQ_plain ?_ | refine CallR_plain ?_ | refine wCond ?_); simp [h0, lv, ouN, kpI, kpR, pos, ren, ren0, renB, renC, renCs]) | (refine wIn ?_; refine And.intro (by kernel_rfl) ?_; try simp only [thenA_n]) | (first | refine wBlock ?_ | refine wScope ?_) | ((first | refine wRet ?_ | refine wExit ?_ | refine wSkip ?_); try simp) | ((first | refine wLabel ?_ | refine wOn ?_ | refine wQn ?_); try simp only [thenA_n])
  all_goals apply hr
  all_goals simp [Try.f66, he0]
set_option maxHeartbeats 4000000 in
theorem readSt (b : List UInt8) (a : Int) (hb : b.length ≤ 1000000000) : ACon Try.prog 31 [.p (.sl 1 (by8 b)), .p (I a)] (rT fSt b a) := by
  have c := rSt b a hb
  obtain ⟨x0, x1, x2, x3, x4, x5, x6, x7, x8, ⟨q, k⟩, he⟩ := fSt_got b (0, a)
  unfold rT
  rw [he] at c ⊢
  simp only [vOf2] at c ⊢
  have he0 : ByteArray.empty = bs [] := rfl
  by_cases h : q = 0
  · subst h
    rw [rO_ok] at c
    rw [if_pos rfl]
    have c2 := read0St b a k x0 x1 x2 x3 x4 x5 x6 x7 x8 c
    clear c he
    refine wBody Try.tab Try.mixed Try.func31 rfl rfl Try.ntmps31 (by simp) (by simp) fun Q hr hn => ?_
    repeat' first | (refine hK _ ?_; clear hK) | (refine hK _ _ ?_; clear hK) | (clear hK; refine hK _ ?_; clear hK) | (clear hK; clear hK; refine hK _ ?_; clear hK) | (clear hK; clear hK; clear hK; refine hK _ ?_; clear hK) | (clear hK; clear hK; clear hK; clear hK; refine hK _ ?_; clear hK) | (refine wSeq fun K hK => ?_) | ((first | refine wReg ?_ | refine wDrwQ rfl (by kernel_rfl) ?_ | refine wDrwI ?_ | refine wDrw (by kernel_rfl) ?_); simp only [List.map_cons, List.map_nil, strip]) | ((first | refine wIs fun K hK => ?_ | refine wOs fun K hK => ?_ | refine wQs fun K hK => ?_ | refine CallK_plain ?_ | refine CallQ_plain ?_ | refine CallR_plain ?_ | refine wCond ?_); simp) | (refine wIn ?_; refine And.intro (by kernel_rfl) ?_; try simp only [thenA_n]) | (first | refine wBlock ?_ | refine wScope ?_) | ((first | refine wRet ?_ | refine wExit ?_ | refine wSkip ?_); try simp) | ((first | refine wLabel ?_ | refine wOn ?_ | refine wQn ?_); try simp only [thenA_n]) | (refine CallE.pure (c2) rfl ?_) | (refine CallE.lent (c2) rfl ?_) | (refine CallF.pure (c2) rfl ?_) | (refine CallF.lent (c2) rfl ?_) | (refine CallE.own (c2) ?_) | (refine CallH.pure (c2) rfl ?_) | (refine CallH.lent (c2) rfl ?_) | (refine CallH.own (c2) ?_)
    all_goals apply hr
    all_goals simp [Try.f31]
  · rw [rO_err _ _ _ h] at c
    rw [if_neg h, fSt_ze]
    have c2 := readESt b a k q h c
    clear c he
    simp only [vOf2]
    refine wBody Try.tab Try.mixed Try.func31 rfl rfl Try.ntmps31 (by simp) (by simp) fun Q hr hn => ?_
    repeat' first | (refine hK _ ?_; clear hK) | (refine hK _ _ ?_; clear hK) | (clear hK; refine hK _ ?_; clear hK) | (clear hK; clear hK; refine hK _ ?_; clear hK) | (clear hK; clear hK; clear hK; refine hK _ ?_; clear hK) | (clear hK; clear hK; clear hK; clear hK; refine hK _ ?_; clear hK) | (refine wSeq fun K hK => ?_) | ((first | refine wReg ?_ | refine wDrwQ rfl (by kernel_rfl) ?_ | refine wDrwI ?_ | refine wDrw (by kernel_rfl) ?_); simp only [List.map_cons, List.map_nil, strip]) | ((first | refine wIs fun K hK => ?_ | refine wOs fun K hK => ?_ | refine wQs fun K hK => ?_ | refine CallK_plain ?_ | refine CallQ_plain ?_ | refine CallR_plain ?_ | refine wCond ?_); simp) | (refine wIn ?_; refine And.intro (by kernel_rfl) ?_; try simp only [thenA_n]) | (first | refine wBlock ?_ | refine wScope ?_) | ((first | refine wRet ?_ | refine wExit ?_ | refine wSkip ?_); try simp) | ((first | refine wLabel ?_ | refine wOn ?_ | refine wQn ?_); try simp only [thenA_n]) | (refine CallE.pure (c2) rfl ?_) | (refine CallE.lent (c2) rfl ?_) | (refine CallF.pure (c2) rfl ?_) | (refine CallF.lent (c2) rfl ?_) | (refine CallE.own (c2) ?_) | (refine CallH.pure (c2) rfl ?_) | (refine CallH.lent (c2) rfl ?_) | (refine CallH.own (c2) ?_)
    all_goals apply hr
    all_goals simp [Try.f31]
/- Records read, the document's: numbers, texts, flags, places, members, lists of numbers. -/
/- Records read, the document's: configs, nodes, ops. -/
/- Records read, the document's: transactions. -/
/- Records read, the document's: states, requests. -/
/- Records read, the document's: what reading tells. -/
/- Records: the law RecordReads. -/
/-- What reading tells, opened: of it the bytes are few. -/
theorem rT_open {f : Fo} (hf : FoL f) (b : List UInt8) (a : Int) : ∃ cs k e, f.ok cs ∧ rT f b a = .tup [vOf cs, .p (I k), .p (I e)] ∧ ((f.en cs).length ≤ b.length ∨ (f.en cs).length ≤ f.sz f.ze) ∧ (e = 0 → 0 ≤ a ∧ a ≤ k ∧ k ≤ b.length ∧ b.take a.toNat ++ f.en cs = b.take k.toNat) := by
  unfold rT
  obtain ⟨cs, e, k, h⟩ : ∃ cs e k, f.rd b (0, a) = (cs, e, k) := ⟨_, _, _, rfl⟩
  have hok := hf.rok b (0, a)
  rw [h] at hok ⊢
  simp only at hok ⊢
  by_cases h0 : e = 0
  · subst h0
    rw [if_pos rfl]
    have ht := hf.took b a cs k h
    refine ⟨cs, k, 0, hok, rfl, .inl ?_, fun _ => ht⟩
    have := congrArg List.length ht.2.2.2
    rw [List.length_append, List.length_take, List.length_take] at this
    omega
  · rw [if_neg h0]
    exact ⟨f.ze, 0, e, hf.zok, rfl, .inr (hf.szl _ hf.zok), fun h => absurd h h0⟩
end Go.Proofs.Ytleejpddecjhcaa
