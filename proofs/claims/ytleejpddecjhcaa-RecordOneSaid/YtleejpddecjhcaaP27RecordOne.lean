/- Texts that the proof needs: RG6e RG8b RG3d RGBa RGH. -/
import Derived.Test.YtleejpddecjhcaaP25RecordOne
import Derived.Test.YtleejpddecjhcaaP26RecordOne
import Derived.Test.YtleejpddecjhcaaP23RecordOne
/- Records read: plans, messages. -/
namespace Go.Proofs.Ytleejpddecjhcaa
set_option linter.unusedSimpArgs false
set_option linter.unusedVariables false
set_option maxRecDepth 8000
open Go Go.Av
attribute [local simp] Try.T1 Try.T2 Try.T3 Try.T4 Try.T5 Try.T9 Try.T12 Try.T15 Try.T16 Try.T17 Try.T21 Try.T22 Try.T24 Try.T25 Try.T26 Try.T28 Try.T29 Try.T30 Try.T31 Try.T33 Try.T35 Try.T36 Try.T37 Try.T38 Try.T39 Try.T40 Try.T41 Try.T42 Try.T43 Try.T44 Try.T45 Try.T47 Try.T48 Try.T50 Try.T51 Try.T53 Try.T55 Try.T57 Try.T58 Try.T59 Try.T60 Try.T61 Try.T63 Try.T64 Try.T66 Try.T67 Try.T69 Try.T70 Try.T71 Try.T73 Try.T75 Try.T76 Try.T78 Try.T80 Try.T82 Try.T83 Try.T84 Try.T85 Try.T86 Try.T87 Try.T88 Try.T89 Try.T90 Try.T91 Try.T92 Try.T93 Try.T94 Try.T95 Try.T96 Try.T97 Try.T98 Try.T99 Try.T100 Try.T101 Try.T102 Try.T103 Try.T104 Try.T105 Try.T106 Try.T107 Try.T108 Try.T109 Try.T111 Try.T112 Try.T113 Try.T114 Try.T115 Try.T116 Try.T117 Try.T119 Try.T120 Try.T121 Try.T122 Try.T123 Try.T124 Try.T125 Try.T126 Try.T127 Try.T128 Try.T129 Try.T130 Try.T131 Try.T132 Try.T133 Try.T134 Try.T136 Try.T137 Try.T138 Try.T139 Try.T140 Try.T141 Try.T142 Try.T143 Try.T144 Try.T145 Try.T146 Try.T147 Try.T148 Try.T149 Try.T150 Try.T151 Try.T152 Try.T153 Try.T154 Try.T155 Try.T156 Try.T157 Try.T158 Try.T160 Try.T161 Try.T162 Try.T163 Try.T164 Try.T165 Try.T166 Try.T167 Try.T168 Try.T169 Try.T170 Try.T171 Try.T172 Try.T173 Try.T174 Try.T175 Try.T176 Try.T177 Try.T178 Try.T179 Try.T180 Try.T181 Try.T182 Try.T183 Try.T184 Try.T185 Try.T186 Try.T187 Try.T188 Try.T189 Try.T190 Try.T191 Try.T192 Try.T194 Try.T195 Try.T197 Try.T198 Try.T199 Try.T200 Try.T201 Try.T202 Try.T203 Try.T205 Try.T206 Try.T209 Try.T212 Try.T215 Try.T216
attribute [local irreducible] Go.Av.CallK Go.Av.CallE Go.Av.CallQ Go.Av.CallF Go.Av.CallR Go.Av.CallH Go.Av.Con
set_option maxHeartbeats 4000000 in
theorem rPl : RCn 121 fPl := by
  intro b a hb
  generalize ho : rO b (vOf (fPl.rd b (0, a)).1) (fPl.rd b (0, a)).2 = out
  have c0 := rnum b a hb
  refine wBodyG Try.tab Try.mixed Try.func121 rfl rfl Try.ntmps121 (by simp) (by simp) fun Q hr hn hp => ?_
  repeat' first | (refine hK _ ?_; clear hK) | (refine hK _ _ ?_; clear hK) | (clear hK; refine hK _ ?_; clear hK) | (clear hK; clear hK; refine hK _ ?_; clear hK) | (clear hK; clear hK; clear hK; refine hK _ ?_; clear hK) | (clear hK; clear hK; clear hK; clear hK; refine hK _ ?_; clear hK) | (refine wSeq fun K hK => ?_) | ((first | refine wReg ?_ | refine wDrwQ rfl (by kernel_rfl) ?_ | refine wDrwI ?_ | refine wDrw (by kernel_rfl) ?_); simp only [List.map_cons, List.map_nil, strip]) | ((first | refine wIs fun K hK => ?_ | refine wOs fun K hK => ?_ | refine wQs fun K hK => ?_ | refine CallQ_plain ?_ | refine CallR_plain ?_ | refine wCond ?_); simp) | (refine wIn ?_; refine And.intro (by kernel_rfl) ?_; try simp only [thenA_n]) | (first | refine wBlock ?_ | refine wScope ?_) | ((first | refine wRet ?_ | refine wExit ?_ | refine wSkip ?_); try simp) | ((first | refine wLabel ?_ | refine wOn ?_ | refine wQn ?_); try simp only [thenA_n])
  obtain ⟨x0, ⟨q0, a0⟩, e0⟩ := foI_got b (0, a)
  rw [e0] at c0
  simp only [vOf1, vOf2] at c0
  by_cases z0 : q0 = 0
  rotate_left
  · have hz : (fPl.rd b (0, a)).2 = (q0, a0) := by simp only [fPl, sq_rd, e0, fZx_L.stk b q0 a0 z0, fSt_L.stk b q0 a0 z0, (fl_L fTx_L 8).stk b q0 a0 z0]
    rw [hz, rO_err _ _ _ z0] at ho
    subst ho
    rw [rO_err _ _ _ z0] at c0
    refine CallK_gen [1024] c0 (by decide) (by decide) (by simp [blksOf, inN, pos, renB, ren0, ouN, lv, kpI, kpR]) (by simp [argsG, argG, ren0, inN, pos, renCs, renC]) ?_
    simp [GenK, lv, ouN, kpI, kpR, pos, ren, ren0, renB, renC, renCs]
    all_goals try simp only [thenA_p, blockA_p]
    all_goals apply hp
    all_goals simp [AResP, outB, renB, gaN, lv, ouN, kpI, kpR, pos, ren, ren0, renC, renCs]
  subst z0
  rw [rO_ok] at c0
  refine CallK_gen [1024] c0 (by decide) (by decide) (by simp [blksOf, inN, pos, renB, ren0, ouN, lv, kpI, kpR]) (by simp [argsG, argG, ren0, inN, pos, renCs, renC]) ⟨[], by simp, by simp, ?_⟩
  simp [lv, ouN, kpI, kpR, pos, ren, ren0, renB, renC, renCs]
  repeat' first | (refine hK _ ?_; clear hK) | (refine hK _ _ ?_; clear hK) | (clear hK; refine hK _ ?_; clear hK) | (clear hK; clear hK; refine hK _ ?_; clear hK) | (clear hK; clear hK; clear hK; refine hK _ ?_; clear hK) | (clear hK; clear hK; clear hK; clear hK; refine hK _ ?_; clear hK) | (refine wSeq fun K hK => ?_) | ((first | refine wReg ?_ | refine wDrwQ rfl (by kernel_rfl) ?_ | refine wDrwI ?_ | refine wDrw (by kernel_rfl) ?_); simp only [List.map_cons, List.map_nil, strip]) | ((first | refine wIs fun K hK => ?_ | refine wOs fun K hK => ?_ | refine wQs fun K hK => ?_ | refine CallQ_plain ?_ | refine CallR_plain ?_ | refine wCond ?_); simp [lv, ouN, kpI, kpR, pos, ren, ren0, renB, renC, renCs]) | (refine wIn ?_; refine And.intro (by kernel_rfl) ?_; try simp only [thenA_n]) | (first | refine wBlock ?_ | refine wScope ?_) | ((first | refine wRet ?_ | refine wExit ?_ | refine wSkip ?_); try simp) | ((first | refine wLabel ?_ | refine wOn ?_ | refine wQn ?_); try simp only [thenA_n])
  have c1 := rZx b a0 hb
  obtain ⟨x1, x2, ⟨q1, a1⟩, e1⟩ := fZx_got b (0, a0)
  rw [e1] at c1
  simp only [vOf1, vOf2] at c1
  by_cases z1 : q1 = 0
  rotate_left
  · have hz : (fPl.rd b (0, a)).2 = (q1, a1) := by simp only [fPl, sq_rd, e0, e1, fSt_L.stk b q1 a1 z1, (fl_L fTx_L 8).stk b q1 a1 z1]
    rw [hz, rO_err _ _ _ z1] at ho
    subst ho
    rw [rO_err _ _ _ z1] at c1
    refine CallK_gen [1024] c1 (by decide) (by decide) (by simp [blksOf, inN, pos, renB, ren0, ouN, lv, kpI, kpR]) (by simp [argsG, argG, ren0, inN, pos, renCs, renC]) ?_
    simp [GenK, lv, ouN, kpI, kpR, pos, ren, ren0, renB, renC, renCs]
    all_goals try simp only [thenA_p, blockA_p]
    all_goals apply hp
    all_goals simp [AResP, outB, renB, gaN, lv, ouN, kpI, kpR, pos, ren, ren0, renC, renCs]
  subst z1
  rw [rO_ok] at c1
  refine CallK_gen [1024] c1 (by decide) (by decide) (by simp [blksOf, inN, pos, renB, ren0, ouN, lv, kpI, kpR]) (by simp [argsG, argG, ren0, inN, pos, renCs, renC]) ⟨[], by simp, by simp, ?_⟩
  simp [lv, ouN, kpI, kpR, pos, ren, ren0, renB, renC, renCs]
  repeat' first | (refine hK _ ?_; clear hK) | (refine hK _ _ ?_; clear hK) | (clear hK; refine hK _ ?_; clear hK) | (clear hK; clear hK; refine hK _ ?_; clear hK) | (clear hK; clear hK; clear hK; refine hK _ ?_; clear hK) | (clear hK; clear hK; clear hK; clear hK; refine hK _ ?_; clear hK) | (refine wSeq fun K hK => ?_) | ((first | refine wReg ?_ | refine wDrwQ rfl (by kernel_rfl) ?_ | refine wDrwI ?_ | refine wDrw (by kernel_rfl) ?_); simp only [List.map_cons, List.map_nil, strip]) | ((first | refine wIs fun K hK => ?_ | refine wOs fun K hK => ?_ | refine wQs fun K hK => ?_ | refine CallQ_plain ?_ | refine CallR_plain ?_ | refine wCond ?_); simp [lv, ouN, kpI, kpR, pos, ren, ren0, renB, renC, renCs]) | (refine wIn ?_; refine And.intro (by kernel_rfl) ?_; try simp only [thenA_n]) | (first | refine wBlock ?_ | refine wScope ?_) | ((first | refine wRet ?_ | refine wExit ?_ | refine wSkip ?_); try simp) | ((first | refine wLabel ?_ | refine wOn ?_ | refine wQn ?_); try simp only [thenA_n])
  have c2 := rSt b a1 hb
  obtain ⟨x3, x4, x5, x6, x7, x8, x9, x10, x11, ⟨q2, a2⟩, e2⟩ := fSt_got b (0, a1)
  rw [e2] at c2
  simp only [vOf1, vOf2] at c2
  by_cases z2 : q2 = 0
  rotate_left
  · have hz : (fPl.rd b (0, a)).2 = (q2, a2) := by simp only [fPl, sq_rd, e0, e1, e2, (fl_L fTx_L 8).stk b q2 a2 z2]
    rw [hz, rO_err _ _ _ z2] at ho
    subst ho
    rw [rO_err _ _ _ z2] at c2
    refine CallK_gen [1024] c2 (by decide) (by decide) (by simp [blksOf, inN, pos, renB, ren0, ouN, lv, kpI, kpR]) (by simp [argsG, argG, ren0, inN, pos, renCs, renC]) ?_
    simp [GenK, lv, ouN, kpI, kpR, pos, ren, ren0, renB, renC, renCs]
    all_goals try simp only [thenA_p, blockA_p]
    all_goals apply hp
    all_goals simp [AResP, outB, renB, gaN, lv, ouN, kpI, kpR, pos, ren, ren0, renC, renCs]
  subst z2
  rw [rO_ok] at c2
  refine CallK_gen [1024] c2 (by decide) (by decide) (by simp [blksOf, inN, pos, renB, ren0, ouN, lv, kpI, kpR]) (by simp [argsG, argG, ren0, inN, pos, renCs, renC]) ⟨[], by simp, by simp, ?_⟩
  simp [lv, ouN, kpI, kpR, pos, ren, ren0, renB, renC, renCs]
  repeat' first | (refine hK _ ?_; clear hK) | (refine hK _ _ ?_; clear hK) | (clear hK; refine hK _ ?_; clear hK) | (clear hK; clear hK; refine hK _ ?_; clear hK) | (clear hK; clear hK; clear hK; refine hK _ ?_; clear hK) | (clear hK; clear hK; clear hK; clear hK; refine hK _ ?_; clear hK) | (refine wSeq fun K hK => ?_) | ((first | refine wReg ?_ | refine wDrwQ rfl (by kernel_rfl) ?_ | refine wDrwI ?_ | refine wDrw (by kernel_rfl) ?_); simp only [List.map_cons, List.map_nil, strip]) | ((first | refine wIs fun K hK => ?_ | refine wOs fun K hK => ?_ | refine wQs fun K hK => ?_ | refine CallQ_plain ?_ | refine CallR_plain ?_ | refine wCond ?_); simp [lv, ouN, kpI, kpR, pos, ren, ren0, renB, renC, renCs]) | (refine wIn ?_; refine And.intro (by kernel_rfl) ?_; try simp only [thenA_n]) | (first | refine wBlock ?_ | refine wScope ?_) | ((first | refine wRet ?_ | refine wExit ?_ | refine wSkip ?_); try simp) | ((first | refine wLabel ?_ | refine wOn ?_ | refine wQn ?_); try simp only [thenA_n])
  have c3 := rlTx b a2 hb
  obtain ⟨x12, ⟨q3, a3⟩, e3⟩ := fl_got 8 fTx b (0, a2)
  rw [e3] at c3
  simp only [vOf1, vOf2] at c3
  by_cases z3 : q3 = 0
  rotate_left
  · have hz : (fPl.rd b (0, a)).2 = (q3, a3) := by simp only [fPl, sq_rd, e0, e1, e2, e3]
    rw [hz, rO_err _ _ _ z3] at ho
    subst ho
    rw [rO_err _ _ _ z3] at c3
    refine CallK_gen [1024] c3 (by decide) (by decide) (by simp [blksOf, inN, pos, renB, ren0, ouN, lv, kpI, kpR]) (by simp [argsG, argG, ren0, inN, pos, renCs, renC]) ?_
    simp [GenK, lv, ouN, kpI, kpR, pos, ren, ren0, renB, renC, renCs]
    all_goals try simp only [thenA_p, blockA_p]
    all_goals apply hp
    all_goals simp [AResP, outB, renB, gaN, lv, ouN, kpI, kpR, pos, ren, ren0, renC, renCs]
  subst z3
  rw [rO_ok] at c3
  refine CallK_gen [1024] c3 (by decide) (by decide) (by simp [blksOf, inN, pos, renB, ren0, ouN, lv, kpI, kpR]) (by simp [argsG, argG, ren0, inN, pos, renCs, renC]) ⟨[], by simp, by simp, ?_⟩
  simp [lv, ouN, kpI, kpR, pos, ren, ren0, renB, renC, renCs]
  repeat' first | (refine hK _ ?_; clear hK) | (refine hK _ _ ?_; clear hK) | (clear hK; refine hK _ ?_; clear hK) | (clear hK; clear hK; refine hK _ ?_; clear hK) | (clear hK; clear hK; clear hK; refine hK _ ?_; clear hK) | (clear hK; clear hK; clear hK; clear hK; refine hK _ ?_; clear hK) | (refine wSeq fun K hK => ?_) | ((first | refine wReg ?_ | refine wDrwQ rfl (by kernel_rfl) ?_ | refine wDrwI ?_ | refine wDrw (by kernel_rfl) ?_); simp only [List.map_cons, List.map_nil, strip]) | ((first | refine wIs fun K hK => ?_ | refine wOs fun K hK => ?_ | refine wQs fun K hK => ?_ | refine CallQ_plain ?_ | refine CallR_plain ?_ | refine wCond ?_); simp [lv, ouN, kpI, kpR, pos, ren, ren0, renB, renC, renCs]) | (refine wIn ?_; refine And.intro (by kernel_rfl) ?_; try simp only [thenA_n]) | (first | refine wBlock ?_ | refine wScope ?_) | ((first | refine wRet ?_ | refine wExit ?_ | refine wSkip ?_); try simp) | ((first | refine wLabel ?_ | refine wOn ?_ | refine wQn ?_); try simp only [thenA_n])
  have hz : fPl.rd b (0, a) = ([I x0, I x1, I x2, .sl 5 x3, .sl 1 x4, I x5, I x6, I x7, I x8, .sl 4 x9, I x10, I x11, .sl 8 x12], 0, a3) := by simp only [fPl, sq_rd, e0, e1, e2, e3, List.cons_append, List.nil_append]
  rw [hz] at ho
  simp only [rO_ok, vOf2] at ho
  subst ho
  all_goals first | apply hr
  all_goals refine ⟨[], by simp, by simp, ?_⟩
  all_goals simp [Try.f121, outR, outB, renB, gaN, lv, ouN, kpI, kpR, pos, ren, ren0, renC, renCs]
set_option maxHeartbeats 16000000 in
theorem rMs : RCn 75 fMs := by
  intro b a hb
  generalize ho : rO b (vOf (fMs.rd b (0, a)).1) (fMs.rd b (0, a)).2 = out
  have c0 := rnum b a hb
  refine wBodyG Try.tab Try.mixed Try.func75 rfl rfl Try.ntmps75 (by simp) (by simp) fun Q hr hn hp => ?_
  repeat' first | (refine hK _ ?_; clear hK) | (refine hK _ _ ?_; clear hK) | (clear hK; refine hK _ ?_; clear hK) | (clear hK; clear hK; refine hK _ ?_; clear hK) | (clear hK; clear hK; clear hK; refine hK _ ?_; clear hK) | (clear hK; clear hK; clear hK; clear hK; refine hK _ ?_; clear hK) | (refine wSeq fun K hK => ?_) | ((first | refine wReg ?_ | refine wDrwQ rfl (by kernel_rfl) ?_ | refine wDrwI ?_ | refine wDrw (by kernel_rfl) ?_); simp only [List.map_cons, List.map_nil, strip]) | ((first | refine wIs fun K hK => ?_ | refine wOs fun K hK => ?_ | refine wQs fun K hK => ?_ | refine CallQ_plain ?_ | refine CallR_plain ?_ | refine wCond ?_); simp) | (refine wIn ?_; refine And.intro (by kernel_rfl) ?_; try simp only [thenA_n]) | (first | refine wBlock ?_ | refine wScope ?_) | ((first | refine wRet ?_ | refine wExit ?_ | refine wSkip ?_); try simp) | ((first | refine wLabel ?_ | refine wOn ?_ | refine wQn ?_); try simp only [thenA_n])
  obtain ⟨x0, ⟨q0, a0⟩, e0⟩ := foI_got b (0, a)
  rw [e0] at c0
  simp only [vOf1, vOf2] at c0
  by_cases z0 : q0 = 0
  rotate_left
  · have hz : (fMs.rd b (0, a)).2 = (q0, a0) := by simp only [fMs, sq_rd, e0, foI_L.stk b q0 a0 z0, fVt_L.stk b q0 a0 z0, fZx_L.stk b q0 a0 z0, (fl_L fZx_L 2).stk b q0 a0 z0, fPl_L.stk b q0 a0 z0, fTx_L.stk b q0 a0 z0, (fl_L foI_L 1).stk b q0 a0 z0, fRq_L.stk b q0 a0 z0]
    rw [hz, rO_err _ _ _ z0] at ho
    subst ho
    rw [rO_err _ _ _ z0] at c0
    refine CallK_gen [1024] c0 (by decide) (by decide) (by simp [blksOf, inN, pos, renB, ren0, ouN, lv, kpI, kpR]) (by simp [argsG, argG, ren0, inN, pos, renCs, renC]) ?_
    simp [GenK, lv, ouN, kpI, kpR, pos, ren, ren0, renB, renC, renCs]
    all_goals try simp only [thenA_p, blockA_p]
    all_goals apply hp
    all_goals simp [AResP, outB, renB, gaN, lv, ouN, kpI, kpR, pos, ren, ren0, renC, renCs]
  subst z0
  rw [rO_ok] at c0
  refine CallK_gen [1024] c0 (by decide) (by decide) (by simp [blksOf, inN, pos, renB, ren0, ouN, lv, kpI, kpR]) (by simp [argsG, argG, ren0, inN, pos, renCs, renC]) ⟨[], by simp, by simp, ?_⟩
  simp [lv, ouN, kpI, kpR, pos, ren, ren0, renB, renC, renCs]
  repeat' first | (refine hK _ ?_; clear hK) | (refine hK _ _ ?_; clear hK) | (clear hK; refine hK _ ?_; clear hK) | (clear hK; clear hK; refine hK _ ?_; clear hK) | (clear hK; clear hK; clear hK; refine hK _ ?_; clear hK) | (clear hK; clear hK; clear hK; clear hK; refine hK _ ?_; clear hK) | (refine wSeq fun K hK => ?_) | ((first | refine wReg ?_ | refine wDrwQ rfl (by kernel_rfl) ?_ | refine wDrwI ?_ | refine wDrw (by kernel_rfl) ?_); simp only [List.map_cons, List.map_nil, strip]) | ((first | refine wIs fun K hK => ?_ | refine wOs fun K hK => ?_ | refine wQs fun K hK => ?_ | refine CallQ_plain ?_ | refine CallR_plain ?_ | refine wCond ?_); simp [lv, ouN, kpI, kpR, pos, ren, ren0, renB, renC, renCs]) | (refine wIn ?_; refine And.intro (by kernel_rfl) ?_; try simp only [thenA_n]) | (first | refine wBlock ?_ | refine wScope ?_) | ((first | refine wRet ?_ | refine wExit ?_ | refine wSkip ?_); try simp) | ((first | refine wLabel ?_ | refine wOn ?_ | refine wQn ?_); try simp only [thenA_n])
  have c1 := rnum b a0 hb
  obtain ⟨x1, ⟨q1, a1⟩, e1⟩ := foI_got b (0, a0)
  rw [e1] at c1
  simp only [vOf1, vOf2] at c1
  by_cases z1 : q1 = 0
  rotate_left
  · have hz : (fMs.rd b (0, a)).2 = (q1, a1) := by simp only [fMs, sq_rd, e0, e1, foI_L.stk b q1 a1 z1, fVt_L.stk b q1 a1 z1, fZx_L.stk b q1 a1 z1, (fl_L fZx_L 2).stk b q1 a1 z1, fPl_L.stk b q1 a1 z1, fTx_L.stk b q1 a1 z1, (fl_L foI_L 1).stk b q1 a1 z1, fRq_L.stk b q1 a1 z1]
    rw [hz, rO_err _ _ _ z1] at ho
    subst ho
    rw [rO_err _ _ _ z1] at c1
    refine CallK_gen [1024] c1 (by decide) (by decide) (by simp [blksOf, inN, pos, renB, ren0, ouN, lv, kpI, kpR]) (by simp [argsG, argG, ren0, inN, pos, renCs, renC]) ?_
    simp [GenK, lv, ouN, kpI, kpR, pos, ren, ren0, renB, renC, renCs]
    all_goals try simp only [thenA_p, blockA_p]
    all_goals apply hp
    all_goals simp [AResP, outB, renB, gaN, lv, ouN, kpI, kpR, pos, ren, ren0, renC, renCs]
  subst z1
  rw [rO_ok] at c1
  refine CallK_gen [1024] c1 (by decide) (by decide) (by simp [blksOf, inN, pos, renB, ren0, ouN, lv, kpI, kpR]) (by simp [argsG, argG, ren0, inN, pos, renCs, renC]) ⟨[], by simp, by simp, ?_⟩
  simp [lv, ouN, kpI, kpR, pos, ren, ren0, renB, renC, renCs]
  repeat' first | (refine hK _ ?_; clear hK) | (refine hK _ _ ?_; clear hK) | (clear hK; refine hK _ ?_; clear hK) | (clear hK; clear hK; refine hK _ ?_; clear hK) | (clear hK; clear hK; clear hK; refine hK _ ?_; clear hK) | (clear hK; clear hK; clear hK; clear hK; refine hK _ ?_; clear hK) | (refine wSeq fun K hK => ?_) | ((first | refine wReg ?_ | refine wDrwQ rfl (by kernel_rfl) ?_ | refine wDrwI ?_ | refine wDrw (by kernel_rfl) ?_); simp only [List.map_cons, List.map_nil, strip]) | ((first | refine wIs fun K hK => ?_ | refine wOs fun K hK => ?_ | refine wQs fun K hK => ?_ | refine CallQ_plain ?_ | refine CallR_plain ?_ | refine wCond ?_); simp [lv, ouN, kpI, kpR, pos, ren, ren0, renB, renC, renCs]) | (refine wIn ?_; refine And.intro (by kernel_rfl) ?_; try simp only [thenA_n]) | (first | refine wBlock ?_ | refine wScope ?_) | ((first | refine wRet ?_ | refine wExit ?_ | refine wSkip ?_); try simp) | ((first | refine wLabel ?_ | refine wOn ?_ | refine wQn ?_); try simp only [thenA_n])
  have c2 := rnum b a1 hb
  obtain ⟨x2, ⟨q2, a2⟩, e2⟩ := foI_got b (0, a1)
  rw [e2] at c2
  simp only [vOf1, vOf2] at c2
  by_cases z2 : q2 = 0
  rotate_left
  · have hz : (fMs.rd b (0, a)).2 = (q2, a2) := by simp only [fMs, sq_rd, e0, e1, e2, fVt_L.stk b q2 a2 z2, foI_L.stk b q2 a2 z2, fZx_L.stk b q2 a2 z2, (fl_L fZx_L 2).stk b q2 a2 z2, fPl_L.stk b q2 a2 z2, fTx_L.stk b q2 a2 z2, (fl_L foI_L 1).stk b q2 a2 z2, fRq_L.stk b q2 a2 z2]
    rw [hz, rO_err _ _ _ z2] at ho
    subst ho
    rw [rO_err _ _ _ z2] at c2
    refine CallK_gen [1024] c2 (by decide) (by decide) (by simp [blksOf, inN, pos, renB, ren0, ouN, lv, kpI, kpR]) (by simp [argsG, argG, ren0, inN, pos, renCs, renC]) ?_
    simp [GenK, lv, ouN, kpI, kpR, pos, ren, ren0, renB, renC, renCs]
    all_goals try simp only [thenA_p, blockA_p]
    all_goals apply hp
    all_goals simp [AResP, outB, renB, gaN, lv, ouN, kpI, kpR, pos, ren, ren0, renC, renCs]
  subst z2
  rw [rO_ok] at c2
  refine CallK_gen [1024] c2 (by decide) (by decide) (by simp [blksOf, inN, pos, renB, ren0, ouN, lv, kpI, kpR]) (by simp [argsG, argG, ren0, inN, pos, renCs, renC]) ⟨[], by simp, by simp, ?_⟩
  simp [lv, ouN, kpI, kpR, pos, ren, ren0, renB, renC, renCs]
  repeat' first | (refine hK _ ?_; clear hK) | (refine hK _ _ ?_; clear hK) | (clear hK; refine hK _ ?_; clear hK) | (clear hK; clear hK; refine hK _ ?_; clear hK) | (clear hK; clear hK; clear hK; refine hK _ ?_; clear hK) | (clear hK; clear hK; clear hK; clear hK; refine hK _ ?_; clear hK) | (refine wSeq fun K hK => ?_) | ((first | refine wReg ?_ | refine wDrwQ rfl (by kernel_rfl) ?_ | refine wDrwI ?_ | refine wDrw (by kernel_rfl) ?_); simp only [List.map_cons, List.map_nil, strip]) | ((first | refine wIs fun K hK => ?_ | refine wOs fun K hK => ?_ | refine wQs fun K hK => ?_ | refine CallQ_plain ?_ | refine CallR_plain ?_ | refine wCond ?_); simp [lv, ouN, kpI, kpR, pos, ren, ren0, renB, renC, renCs]) | (refine wIn ?_; refine And.intro (by kernel_rfl) ?_; try simp only [thenA_n]) | (first | refine wBlock ?_ | refine wScope ?_) | ((first | refine wRet ?_ | refine wExit ?_ | refine wSkip ?_); try simp) | ((first | refine wLabel ?_ | refine wOn ?_ | refine wQn ?_); try simp only [thenA_n])
  have c3 := rVt b a2 hb
  obtain ⟨x3, x4, x5, x6, x7, x8, x9, ⟨q3, a3⟩, e3⟩ := fVt_got b (0, a2)
  rw [e3] at c3
  simp only [vOf1, vOf2] at c3
  by_cases z3 : q3 = 0
  rotate_left
  · have hz : (fMs.rd b (0, a)).2 = (q3, a3) := by simp only [fMs, sq_rd, e0, e1, e2, e3, foI_L.stk b q3 a3 z3, fZx_L.stk b q3 a3 z3, (fl_L fZx_L 2).stk b q3 a3 z3, fPl_L.stk b q3 a3 z3, fTx_L.stk b q3 a3 z3, (fl_L foI_L 1).stk b q3 a3 z3, fRq_L.stk b q3 a3 z3]
    rw [hz, rO_err _ _ _ z3] at ho
    subst ho
    rw [rO_err _ _ _ z3] at c3
    refine CallK_gen [1024] c3 (by decide) (by decide) (by simp [blksOf, inN, pos, renB, ren0, ouN, lv, kpI, kpR]) (by simp [argsG, argG, ren0, inN, pos, renCs, renC]) ?_
    simp [GenK, lv, ouN, kpI, kpR, pos, ren, ren0, renB, renC, renCs]
    all_goals try simp only [thenA_p, blockA_p]
    all_goals apply hp
    all_goals simp [AResP, outB, renB, gaN, lv, ouN, kpI, kpR, pos, ren, ren0, renC, renCs]
  subst z3
  rw [rO_ok] at c3
  refine CallK_gen [1024] c3 (by decide) (by decide) (by simp [blksOf, inN, pos, renB, ren0, ouN, lv, kpI, kpR]) (by simp [argsG, argG, ren0, inN, pos, renCs, renC]) ⟨[], by simp, by simp, ?_⟩
  simp [lv, ouN, kpI, kpR, pos, ren, ren0, renB, renC, renCs]
  repeat' first | (refine hK _ ?_; clear hK) | (refine hK _ _ ?_; clear hK) | (clear hK; refine hK _ ?_; clear hK) | (clear hK; clear hK; refine hK _ ?_; clear hK) | (clear hK; clear hK; clear hK; refine hK _ ?_; clear hK) | (clear hK; clear hK; clear hK; clear hK; refine hK _ ?_; clear hK) | (refine wSeq fun K hK => ?_) | ((first | refine wReg ?_ | refine wDrwQ rfl (by kernel_rfl) ?_ | refine wDrwI ?_ | refine wDrw (by kernel_rfl) ?_); simp only [List.map_cons, List.map_nil, strip]) | ((first | refine wIs fun K hK => ?_ | refine wOs fun K hK => ?_ | refine wQs fun K hK => ?_ | refine CallQ_plain ?_ | refine CallR_plain ?_ | refine wCond ?_); simp [lv, ouN, kpI, kpR, pos, ren, ren0, renB, renC, renCs]) | (refine wIn ?_; refine And.intro (by kernel_rfl) ?_; try simp only [thenA_n]) | (first | refine wBlock ?_ | refine wScope ?_) | ((first | refine wRet ?_ | refine wExit ?_ | refine wSkip ?_); try simp) | ((first | refine wLabel ?_ | refine wOn ?_ | refine wQn ?_); try simp only [thenA_n])
  have c4 := rnum b a3 hb
  obtain ⟨x10, ⟨q4, a4⟩, e4⟩ := foI_got b (0, a3)
  rw [e4] at c4
  simp only [vOf1, vOf2] at c4
  by_cases z4 : q4 = 0
  rotate_left
  · have hz : (fMs.rd b (0, a)).2 = (q4, a4) := by simp only [fMs, sq_rd, e0, e1, e2, e3, e4, foI_L.stk b q4 a4 z4, fZx_L.stk b q4 a4 z4, (fl_L fZx_L 2).stk b q4 a4 z4, fPl_L.stk b q4 a4 z4, fTx_L.stk b q4 a4 z4, (fl_L foI_L 1).stk b q4 a4 z4, fRq_L.stk b q4 a4 z4]
    rw [hz, rO_err _ _ _ z4] at ho
    subst ho
    rw [rO_err _ _ _ z4] at c4
    refine CallK_gen [1024] c4 (by decide) (by decide) (by simp [blksOf, inN, pos, renB, ren0, ouN, lv, kpI, kpR]) (by simp [argsG, argG, ren0, inN, pos, renCs, renC]) ?_
    simp [GenK, lv, ouN, kpI, kpR, pos, ren, ren0, renB, renC, renCs]
    all_goals try simp only [thenA_p, blockA_p]
    all_goals apply hp
    all_goals simp [AResP, outB, renB, gaN, lv, ouN, kpI, kpR, pos, ren, ren0, renC, renCs]
  subst z4
  rw [rO_ok] at c4
  refine CallK_gen [1024] c4 (by decide) (by decide) (by simp [blksOf, inN, pos, renB, ren0, ouN, lv, kpI, kpR]) (by simp [argsG, argG, ren0, inN, pos, renCs, renC]) ⟨[], by simp, by simp, ?_⟩
  simp [lv, ouN, kpI, kpR, pos, ren, ren0, renB, renC, renCs]
  repeat' first | (refine hK _ ?_; clear hK) | (refine hK _ _ ?_; clear hK) | (clear hK; refine hK _ ?_; clear hK) | (clear hK; clear hK; refine hK _ ?_; clear hK) | (clear hK; clear hK; clear hK; refine hK _ ?_; clear hK) | (clear hK; clear hK; clear hK; clear hK; refine hK _ ?_; clear hK) | (refine wSeq fun K hK => ?_) | ((first | refine wReg ?_ | refine wDrwQ rfl (by kernel_rfl) ?_ | refine wDrwI ?_ | refine wDrw (by kernel_rfl) ?_); simp only [List.map_cons, List.map_nil, strip]) | ((first | refine wIs fun K hK => ?_ | refine wOs fun K hK => ?_ | refine wQs fun K hK => ?_ | refine CallQ_plain ?_ | refine CallR_plain ?_ | refine wCond ?_); simp [lv, ouN, kpI, kpR, pos, ren, ren0, renB, renC, renCs]) | (refine wIn ?_; refine And.intro (by kernel_rfl) ?_; try simp only [thenA_n]) | (first | refine wBlock ?_ | refine wScope ?_) | ((first | refine wRet ?_ | refine wExit ?_ | refine wSkip ?_); try simp) | ((first | refine wLabel ?_ | refine wOn ?_ | refine wQn ?_); try simp only [thenA_n])
  have c5 := rnum b a4 hb
  obtain ⟨x11, ⟨q5, a5⟩, e5⟩ := foI_got b (0, a4)
  rw [e5] at c5
  simp only [vOf1, vOf2] at c5
  by_cases z5 : q5 = 0
  rotate_left
  · have hz : (fMs.rd b (0, a)).2 = (q5, a5) := by simp only [fMs, sq_rd, e0, e1, e2, e3, e4, e5, fZx_L.stk b q5 a5 z5, (fl_L fZx_L 2).stk b q5 a5 z5, fPl_L.stk b q5 a5 z5, fTx_L.stk b q5 a5 z5, (fl_L foI_L 1).stk b q5 a5 z5, fRq_L.stk b q5 a5 z5]
    rw [hz, rO_err _ _ _ z5] at ho
    subst ho
    rw [rO_err _ _ _ z5] at c5
    refine CallK_gen [1024] c5 (by decide) (by decide) (by simp [blksOf, inN, pos, renB, ren0, ouN, lv, kpI, kpR]) (by simp [argsG, argG, ren0, inN, pos, renCs, renC]) ?_
    simp [GenK, lv, ouN, kpI, kpR, pos, ren, ren0, renB, renC, renCs]
    all_goals try simp only [thenA_p, blockA_p]
    all_goals apply hp
    all_goals simp [AResP, outB, renB, gaN, lv, ouN, kpI, kpR, pos, ren, ren0, renC, renCs]
  subst z5
  rw [rO_ok] at c5
  refine CallK_gen [1024] c5 (by decide) (by decide) (by simp [blksOf, inN, pos, renB, ren0, ouN, lv, kpI, kpR]) (by simp [argsG, argG, ren0, inN, pos, renCs, renC]) ⟨[], by simp, by simp, ?_⟩
  simp [lv, ouN, kpI, kpR, pos, ren, ren0, renB, renC, renCs]
  repeat' first | (refine hK _ ?_; clear hK) | (refine hK _ _ ?_; clear hK) | (clear hK; refine hK _ ?_; clear hK) | (clear hK; clear hK; refine hK _ ?_; clear hK) | (clear hK; clear hK; clear hK; refine hK _ ?_; clear hK) | (clear hK; clear hK; clear hK; clear hK; refine hK _ ?_; clear hK) | (refine wSeq fun K hK => ?_) | ((first | refine wReg ?_ | refine wDrwQ rfl (by kernel_rfl) ?_ | refine wDrwI ?_ | refine wDrw (by kernel_rfl) ?_); simp only [List.map_cons, List.map_nil, strip]) | ((first | refine wIs fun K hK => ?_ | refine wOs fun K hK => ?_ | refine wQs fun K hK => ?_ | refine CallQ_plain ?_ | refine CallR_plain ?_ | refine wCond ?_); simp [lv, ouN, kpI, kpR, pos, ren, ren0, renB, renC, renCs]) | (refine wIn ?_; refine And.intro (by kernel_rfl) ?_; try simp only [thenA_n]) | (first | refine wBlock ?_ | refine wScope ?_) | ((first | refine wRet ?_ | refine wExit ?_ | refine wSkip ?_); try simp) | ((first | refine wLabel ?_ | refine wOn ?_ | refine wQn ?_); try simp only [thenA_n])
  have c6 := rZx b a5 hb
  obtain ⟨x12, x13, ⟨q6, a6⟩, e6⟩ := fZx_got b (0, a5)
  rw [e6] at c6
  simp only [vOf1, vOf2] at c6
  by_cases z6 : q6 = 0
  rotate_left
  · have hz : (fMs.rd b (0, a)).2 = (q6, a6) := by simp only [fMs, sq_rd, e0, e1, e2, e3, e4, e5, e6, (fl_L fZx_L 2).stk b q6 a6 z6, fPl_L.stk b q6 a6 z6, fTx_L.stk b q6 a6 z6, (fl_L foI_L 1).stk b q6 a6 z6, fRq_L.stk b q6 a6 z6]
    rw [hz, rO_err _ _ _ z6] at ho
    subst ho
    rw [rO_err _ _ _ z6] at c6
    refine CallK_gen [1024] c6 (by decide) (by decide) (by simp [blksOf, inN, pos, renB, ren0, ouN, lv, kpI, kpR]) (by simp [argsG, argG, ren0, inN, pos, renCs, renC]) ?_
    simp [GenK, lv, ouN, kpI, kpR, pos, ren, ren0, renB, renC, renCs]
    all_goals try simp only [thenA_p, blockA_p]
    all_goals apply hp
    all_goals simp [AResP, outB, renB, gaN, lv, ouN, kpI, kpR, pos, ren, ren0, renC, renCs]
  subst z6
  rw [rO_ok] at c6
  refine CallK_gen [1024] c6 (by decide) (by decide) (by simp [blksOf, inN, pos, renB, ren0, ouN, lv, kpI, kpR]) (by simp [argsG, argG, ren0, inN, pos, renCs, renC]) ⟨[], by simp, by simp, ?_⟩
  simp [lv, ouN, kpI, kpR, pos, ren, ren0, renB, renC, renCs]
  repeat' first | (refine hK _ ?_; clear hK) | (refine hK _ _ ?_; clear hK) | (clear hK; refine hK _ ?_; clear hK) | (clear hK; clear hK; refine hK _ ?_; clear hK) | (clear hK; clear hK; clear hK; refine hK _ ?_; clear hK) | (clear hK; clear hK; clear hK; clear hK; refine hK _ ?_; clear hK) | (refine wSeq fun K hK => ?_) | ((first | refine wReg ?_ | refine wDrwQ rfl (by kernel_rfl) ?_ | refine wDrwI ?_ | refine wDrw (by kernel_rfl) ?_); simp only [List.map_cons, List.map_nil, strip]) | ((first | refine wIs fun K hK => ?_ | refine wOs fun K hK => ?_ | refine wQs fun K hK => ?_ | refine CallQ_plain ?_ | refine CallR_plain ?_ | refine wCond ?_); simp [lv, ouN, kpI, kpR, pos, ren, ren0, renB, renC, renCs]) | (refine wIn ?_; refine And.intro (by kernel_rfl) ?_; try simp only [thenA_n]) | (first | refine wBlock ?_ | refine wScope ?_) | ((first | refine wRet ?_ | refine wExit ?_ | refine wSkip ?_); try simp) | ((first | refine wLabel ?_ | refine wOn ?_ | refine wQn ?_); try simp only [thenA_n])
  have c7 := rlZx b a6 hb
  obtain ⟨x14, ⟨q7, a7⟩, e7⟩ := fl_got 2 fZx b (0, a6)
  rw [e7] at c7
  simp only [vOf1, vOf2] at c7
  by_cases z7 : q7 = 0
  rotate_left
  · have hz : (fMs.rd b (0, a)).2 = (q7, a7) := by simp only [fMs, sq_rd, e0, e1, e2, e3, e4, e5, e6, e7, fPl_L.stk b q7 a7 z7, fTx_L.stk b q7 a7 z7, (fl_L foI_L 1).stk b q7 a7 z7, fRq_L.stk b q7 a7 z7]
    rw [hz, rO_err _ _ _ z7] at ho
    subst ho
    rw [rO_err _ _ _ z7] at c7
    refine CallK_gen [1024] c7 (by decide) (by decide) (by simp [blksOf, inN, pos, renB, ren0, ouN, lv, kpI, kpR]) (by simp [argsG, argG, ren0, inN, pos, renCs, renC]) ?_
    simp [GenK, lv, ouN, kpI, kpR, pos, ren, ren0, renB, renC, renCs]
    all_goals try simp only [thenA_p, blockA_p]
    all_goals apply hp
    all_goals simp [AResP, outB, renB, gaN, lv, ouN, kpI, kpR, pos, ren, ren0, renC, renCs]
  subst z7
  rw [rO_ok] at c7
  refine CallK_gen [1024] c7 (by decide) (by decide) (by simp [blksOf, inN, pos, renB, ren0, ouN, lv, kpI, kpR]) (by simp [argsG, argG, ren0, inN, pos, renCs, renC]) ⟨[], by simp, by simp, ?_⟩
  simp [lv, ouN, kpI, kpR, pos, ren, ren0, renB, renC, renCs]
  repeat' first | (refine hK _ ?_; clear hK) | (refine hK _ _ ?_; clear hK) | (clear hK; refine hK _ ?_; clear hK) | (clear hK; clear hK; refine hK _ ?_; clear hK) | (clear hK; clear hK; clear hK; refine hK _ ?_; clear hK) | (clear hK; clear hK; clear hK; clear hK; refine hK _ ?_; clear hK) | (refine wSeq fun K hK => ?_) | ((first | refine wReg ?_ | refine wDrwQ rfl (by kernel_rfl) ?_ | refine wDrwI ?_ | refine wDrw (by kernel_rfl) ?_); simp only [List.map_cons, List.map_nil, strip]) | ((first | refine wIs fun K hK => ?_ | refine wOs fun K hK => ?_ | refine wQs fun K hK => ?_ | refine CallQ_plain ?_ | refine CallR_plain ?_ | refine wCond ?_); simp [lv, ouN, kpI, kpR, pos, ren, ren0, renB, renC, renCs]) | (refine wIn ?_; refine And.intro (by kernel_rfl) ?_; try simp only [thenA_n]) | (first | refine wBlock ?_ | refine wScope ?_) | ((first | refine wRet ?_ | refine wExit ?_ | refine wSkip ?_); try simp) | ((first | refine wLabel ?_ | refine wOn ?_ | refine wQn ?_); try simp only [thenA_n])
  have c8 := rPl b a7 hb
  obtain ⟨x15, x16, x17, x18, x19, x20, x21, x22, x23, x24, x25, x26, x27, ⟨q8, a8⟩, e8⟩ := fPl_got b (0, a7)
  rw [e8] at c8
  simp only [vOf1, vOf2] at c8
  by_cases z8 : q8 = 0
  rotate_left
  · have hz : (fMs.rd b (0, a)).2 = (q8, a8) := by simp only [fMs, sq_rd, e0, e1, e2, e3, e4, e5, e6, e7, e8, fTx_L.stk b q8 a8 z8, (fl_L foI_L 1).stk b q8 a8 z8, fRq_L.stk b q8 a8 z8]
    rw [hz, rO_err _ _ _ z8] at ho
    subst ho
    rw [rO_err _ _ _ z8] at c8
    refine CallK_gen [1024] c8 (by decide) (by decide) (by simp [blksOf, inN, pos, renB, ren0, ouN, lv, kpI, kpR]) (by simp [argsG, argG, ren0, inN, pos, renCs, renC]) ?_
    simp [GenK, lv, ouN, kpI, kpR, pos, ren, ren0, renB, renC, renCs]
    all_goals try simp only [thenA_p, blockA_p]
    all_goals apply hp
    all_goals simp [AResP, outB, renB, gaN, lv, ouN, kpI, kpR, pos, ren, ren0, renC, renCs]
  subst z8
  rw [rO_ok] at c8
  refine CallK_gen [1024] c8 (by decide) (by decide) (by simp [blksOf, inN, pos, renB, ren0, ouN, lv, kpI, kpR]) (by simp [argsG, argG, ren0, inN, pos, renCs, renC]) ⟨[], by simp, by simp, ?_⟩
  simp [lv, ouN, kpI, kpR, pos, ren, ren0, renB, renC, renCs]
  repeat' first | (refine hK _ ?_; clear hK) | (refine hK _ _ ?_; clear hK) | (clear hK; refine hK _ ?_; clear hK) | (clear hK; clear hK; refine hK _ ?_; clear hK) | (clear hK; clear hK; clear hK; refine hK _ ?_; clear hK) | (clear hK; clear hK; clear hK; clear hK; refine hK _ ?_; clear hK) | (refine wSeq fun K hK => ?_) | ((first | refine wReg ?_ | refine wDrwQ rfl (by kernel_rfl) ?_ | refine wDrwI ?_ | refine wDrw (by kernel_rfl) ?_); simp only [List.map_cons, List.map_nil, strip]) | ((first | refine wIs fun K hK => ?_ | refine wOs fun K hK => ?_ | refine wQs fun K hK => ?_ | refine CallQ_plain ?_ | refine CallR_plain ?_ | refine wCond ?_); simp [lv, ouN, kpI, kpR, pos, ren, ren0, renB, renC, renCs]) | (refine wIn ?_; refine And.intro (by kernel_rfl) ?_; try simp only [thenA_n]) | (first | refine wBlock ?_ | refine wScope ?_) | ((first | refine wRet ?_ | refine wExit ?_ | refine wSkip ?_); try simp) | ((first | refine wLabel ?_ | refine wOn ?_ | refine wQn ?_); try simp only [thenA_n])
  have c9 := rTx b a8 hb
  obtain ⟨x28, x29, x30, x31, x32, x33, x34, x35, ⟨q9, a9⟩, e9⟩ := fTx_got b (0, a8)
  rw [e9] at c9
  simp only [vOf1, vOf2] at c9
  by_cases z9 : q9 = 0
  rotate_left
  · have hz : (fMs.rd b (0, a)).2 = (q9, a9) := by simp only [fMs, sq_rd, e0, e1, e2, e3, e4, e5, e6, e7, e8, e9, (fl_L foI_L 1).stk b q9 a9 z9, fRq_L.stk b q9 a9 z9]
    rw [hz, rO_err _ _ _ z9] at ho
    subst ho
    rw [rO_err _ _ _ z9] at c9
    refine CallK_gen [1024] c9 (by decide) (by decide) (by simp [blksOf, inN, pos, renB, ren0, ouN, lv, kpI, kpR]) (by simp [argsG, argG, ren0, inN, pos, renCs, renC]) ?_
    simp [GenK, lv, ouN, kpI, kpR, pos, ren, ren0, renB, renC, renCs]
    all_goals try simp only [thenA_p, blockA_p]
    all_goals apply hp
    all_goals simp [AResP, outB, renB, gaN, lv, ouN, kpI, kpR, pos, ren, ren0, renC, renCs]
  subst z9
  rw [rO_ok] at c9
  refine CallK_gen [1024] c9 (by decide) (by decide) (by simp [blksOf, inN, pos, renB, ren0, ouN, lv, kpI, kpR]) (by simp [argsG, argG, ren0, inN, pos, renCs, renC]) ⟨[], by simp, by simp, ?_⟩
  simp [lv, ouN, kpI, kpR, pos, ren, ren0, renB, renC, renCs]
  repeat' first | (refine hK _ ?_; clear hK) | (refine hK _ _ ?_; clear hK) | (clear hK; refine hK _ ?_; clear hK) | (clear hK; clear hK; refine hK _ ?_; clear hK) | (clear hK; clear hK; clear hK; refine hK _ ?_; clear hK) | (clear hK; clear hK; clear hK; clear hK; refine hK _ ?_; clear hK) | (refine wSeq fun K hK => ?_) | ((first | refine wReg ?_ | refine wDrwQ rfl (by kernel_rfl) ?_ | refine wDrwI ?_ | refine wDrw (by kernel_rfl) ?_); simp only [List.map_cons, List.map_nil, strip]) | ((first | refine wIs fun K hK => ?_ | refine wOs fun K hK => ?_ | refine wQs fun K hK => ?_ | refine CallQ_plain ?_ | refine CallR_plain ?_ | refine wCond ?_); simp [lv, ouN, kpI, kpR, pos, ren, ren0, renB, renC, renCs]) | (refine wIn ?_; refine And.intro (by kernel_rfl) ?_; try simp only [thenA_n]) | (first | refine wBlock ?_ | refine wScope ?_) | ((first | refine wRet ?_ | refine wExit ?_ | refine wSkip ?_); try simp) | ((first | refine wLabel ?_ | refine wOn ?_ | refine wQn ?_); try simp only [thenA_n])
  have c10 := rlI b a9 hb
  obtain ⟨x36, ⟨q10, a10⟩, e10⟩ := fl_got 1 foI b (0, a9)
  rw [e10] at c10
  simp only [vOf1, vOf2] at c10
  by_cases z10 : q10 = 0
  rotate_left
  · have hz : (fMs.rd b (0, a)).2 = (q10, a10) := by simp only [fMs, sq_rd, e0, e1, e2, e3, e4, e5, e6, e7, e8, e9, e10, fRq_L.stk b q10 a10 z10]
    rw [hz, rO_err _ _ _ z10] at ho
    subst ho
    rw [rO_err _ _ _ z10] at c10
    refine CallK_gen [1024] c10 (by decide) (by decide) (by simp [blksOf, inN, pos, renB, ren0, ouN, lv, kpI, kpR]) (by simp [argsG, argG, ren0, inN, pos, renCs, renC]) ?_
    simp [GenK, lv, ouN, kpI, kpR, pos, ren, ren0, renB, renC, renCs]
    all_goals try simp only [thenA_p, blockA_p]
    all_goals apply hp
    all_goals simp [AResP, outB, renB, gaN, lv, ouN, kpI, kpR, pos, ren, ren0, renC, renCs]
  subst z10
  rw [rO_ok] at c10
  refine CallK_gen [1024] c10 (by decide) (by decide) (by simp [blksOf, inN, pos, renB, ren0, ouN, lv, kpI, kpR]) (by simp [argsG, argG, ren0, inN, pos, renCs, renC]) ⟨[], by simp, by simp, ?_⟩
  simp [lv, ouN, kpI, kpR, pos, ren, ren0, renB, renC, renCs]
  repeat' first | (refine hK _ ?_; clear hK) | (refine hK _ _ ?_; clear hK) | (clear hK; refine hK _ ?_; clear hK) | (clear hK; clear hK; refine hK _ ?_; clear hK) | (clear hK; clear hK; clear hK; refine hK _ ?_; clear hK) | (clear hK; clear hK; clear hK; clear hK; refine hK _ ?_; clear hK) | (refine wSeq fun K hK => ?_) | ((first | refine wReg ?_ | refine wDrwQ rfl (by kernel_rfl) ?_ | refine wDrwI ?_ | refine wDrw (by kernel_rfl) ?_); simp only [List.map_cons, List.map_nil, strip]) | ((first | refine wIs fun K hK => ?_ | refine wOs fun K hK => ?_ | refine wQs fun K hK => ?_ | refine CallQ_plain ?_ | refine CallR_plain ?_ | refine wCond ?_); simp [lv, ouN, kpI, kpR, pos, ren, ren0, renB, renC, renCs]) | (refine wIn ?_; refine And.intro (by kernel_rfl) ?_; try simp only [thenA_n]) | (first | refine wBlock ?_ | refine wScope ?_) | ((first | refine wRet ?_ | refine wExit ?_ | refine wSkip ?_); try simp) | ((first | refine wLabel ?_ | refine wOn ?_ | refine wQn ?_); try simp only [thenA_n])
  have c11 := rRq b a10 hb
  obtain ⟨x37, x38, x39, x40, x41, x42, x43, x44, x45, ⟨q11, a11⟩, e11⟩ := fRq_got b (0, a10)
  rw [e11] at c11
  simp only [vOf1, vOf2] at c11
  by_cases z11 : q11 = 0
  rotate_left
  · have hz : (fMs.rd b (0, a)).2 = (q11, a11) := by simp only [fMs, sq_rd, e0, e1, e2, e3, e4, e5, e6, e7, e8, e9, e10, e11]
    rw [hz, rO_err _ _ _ z11] at ho
    subst ho
    rw [rO_err _ _ _ z11] at c11
    refine CallK_gen [1024] c11 (by decide) (by decide) (by simp [blksOf, inN, pos, renB, ren0, ouN, lv, kpI, kpR]) (by simp [argsG, argG, ren0, inN, pos, renCs, renC]) ?_
    simp [GenK, lv, ouN, kpI, kpR, pos, ren, ren0, renB, renC, renCs]
    all_goals try simp only [thenA_p, blockA_p]
    all_goals apply hp
    all_goals simp [AResP, outB, renB, gaN, lv, ouN, kpI, kpR, pos, ren, ren0, renC, renCs]
  subst z11
  rw [rO_ok] at c11
  refine CallK_gen [1024] c11 (by decide) (by decide) (by simp [blksOf, inN, pos, renB, ren0, ouN, lv, kpI, kpR]) (by simp [argsG, argG, ren0, inN, pos, renCs, renC]) ⟨[], by simp, by simp, ?_⟩
  simp [lv, ouN, kpI, kpR, pos, ren, ren0, renB, renC, renCs]
  repeat' first | (refine hK _ ?_; clear hK) | (refine hK _ _ ?_; clear hK) | (clear hK; refine hK _ ?_; clear hK) | (clear hK; clear hK; refine hK _ ?_; clear hK) | (clear hK; clear hK; clear hK; refine hK _ ?_; clear hK) | (clear hK; clear hK; clear hK; clear hK; refine hK _ ?_; clear hK) | (refine wSeq fun K hK => ?_) | ((first | refine wReg ?_ | refine wDrwQ rfl (by kernel_rfl) ?_ | refine wDrwI ?_ | refine wDrw (by kernel_rfl) ?_); simp only [List.map_cons, List.map_nil, strip]) | ((first | refine wIs fun K hK => ?_ | refine wOs fun K hK => ?_ | refine wQs fun K hK => ?_ | refine CallQ_plain ?_ | refine CallR_plain ?_ | refine wCond ?_); simp [lv, ouN, kpI, kpR, pos, ren, ren0, renB, renC, renCs]) | (refine wIn ?_; refine And.intro (by kernel_rfl) ?_; try simp only [thenA_n]) | (first | refine wBlock ?_ | refine wScope ?_) | ((first | refine wRet ?_ | refine wExit ?_ | refine wSkip ?_); try simp) | ((first | refine wLabel ?_ | refine wOn ?_ | refine wQn ?_); try simp only [thenA_n])
  have hz : fMs.rd b (0, a) = ([I x0, I x1, I x2, I x3, I x4, I x5, I x6, I x7, I x8, I x9, I x10, I x11, I x12, I x13, .sl 2 x14, I x15, I x16, I x17, .sl 5 x18, .sl 1 x19, I x20, I x21, I x22, I x23, .sl 4 x24, I x25, I x26, .sl 8 x27, I x28, I x29, I x30, I x31, I x32, I x33, SB x34, .sl 11 x35, .sl 1 x36, I x37, I x38, I x39, .sl 6 x40, I x41, .sl 4 x42, .sl 1 x43, I x44, I x45], 0, a11) := by simp only [fMs, sq_rd, e0, e1, e2, e3, e4, e5, e6, e7, e8, e9, e10, e11, List.cons_append, List.nil_append]
  rw [hz] at ho
  simp only [rO_ok, vOf2] at ho
  subst ho
  all_goals first | apply hr
  all_goals refine ⟨[], by simp, by simp, ?_⟩
  all_goals simp [Try.f75, outR, outB, renB, gaN, lv, ouN, kpI, kpR, pos, ren, ren0, renC, renCs]
/- Records read: requests, messages. -/
abbrev rbMs (b : List UInt8) (x : List V) (q : Int) : List Blk := [.box 132 [.p (.v (.func (.func 75) #[] #[]))], .box 116 [.ptr 1027 0], .box 57 x, .box 160 [.p (.sl 1 (by8 b)), .p (I q)]]
theorem fMs_ze : fMs.ze = [I 0, I 0, I 0, I 0, I 0, I 0, I 0, I 0, I 0, I 0, I 0, I 0, I 0, I 0, .sl 2 [], I 0, I 0, I 0, .sl 5 [], .sl 1 [], I 0, I 0, I 0, I 0, .sl 4 [], I 0, I 0, .sl 8 [], I 0, I 0, I 0, I 0, I 0, I 0, SB [], .sl 11 [], .sl 1 [], I 0, I 0, I 0, .sl 6 [], I 0, .sl 4 [], .sl 1 [], I 0, I 0] := rfl
set_option maxHeartbeats 16000000 in
theorem rcOkMs (b : List UInt8) (a q : Int) (x0 : Int) (x1 : Int) (x2 : Int) (x3 : Int) (x4 : Int) (x5 : Int) (x6 : Int) (x7 : Int) (x8 : Int) (x9 : Int) (x10 : Int) (x11 : Int) (x12 : Int) (x13 : Int) (x14 : List (List PV)) (x15 : Int) (x16 : Int) (x17 : Int) (x18 : List (List PV)) (x19 : List (List PV)) (x20 : Int) (x21 : Int) (x22 : Int) (x23 : Int) (x24 : List (List PV)) (x25 : Int) (x26 : Int) (x27 : List (List PV)) (x28 : Int) (x29 : Int) (x30 : Int) (x31 : Int) (x32 : Int) (x33 : Int) (x34 : List UInt8) (x35 : List (List PV)) (x36 : List (List PV)) (x37 : Int) (x38 : Int) (x39 : Int) (x40 : List (List PV)) (x41 : Int) (x42 : List (List PV)) (x43 : List (List PV)) (x44 : Int) (x45 : Int)
    (hc : Con Try.prog 75 [.ptr 1024 0] (rB b a) (.ret (.p (.agg [I x0, I x1, I x2, I x3, I x4, I x5, I x6, I x7, I x8, I x9, I x10, I x11, I x12, I x13, .sl 2 x14, I x15, I x16, I x17, .sl 5 x18, .sl 1 x19, I x20, I x21, I x22, I x23, .sl 4 x24, I x25, I x26, .sl 8 x27, I x28, I x29, I x30, I x31, I x32, I x33, SB x34, .sl 11 x35, .sl 1 x36, I x37, I x38, I x39, .sl 6 x40, I x41, .sl 4 x42, .sl 1 x43, I x44, I x45])) [] (rB b q))) :
    Con Try.prog 118 [.ptr 1024 0, .ptr 1025 0, .ptr 1026 0] (rbMs b [.p (I 0), .p (I 0), .p (I 0), .p (I 0), .p (I 0), .p (I 0), .p (I 0), .p (I 0), .p (I 0), .p (I 0), .p (I 0), .p (I 0), .p (I 0), .p (I 0), .nil 2, .p (I 0), .p (I 0), .p (I 0), .nil 5, .nil 1, .p (I 0), .p (I 0), .p (I 0), .p (I 0), .nil 4, .p (I 0), .p (I 0), .nil 8, .p (I 0), .p (I 0), .p (I 0), .p (I 0), .p (I 0), .p (I 0), .p (SB []), .nil 11, .nil 1, .p (I 0), .p (I 0), .p (I 0), .nil 6, .p (I 0), .nil 4, .nil 1, .p (I 0), .p (I 0)] a) (.ret (.tup []) [] (rbMs b [.p (I x0), .p (I x1), .p (I x2), .p (I x3), .p (I x4), .p (I x5), .p (I x6), .p (I x7), .p (I x8), .p (I x9), .p (I x10), .p (I x11), .p (I x12), .p (I x13), .p (.sl 2 x14), .p (I x15), .p (I x16), .p (I x17), .p (.sl 5 x18), .p (.sl 1 x19), .p (I x20), .p (I x21), .p (I x22), .p (I x23), .p (.sl 4 x24), .p (I x25), .p (I x26), .p (.sl 8 x27), .p (I x28), .p (I x29), .p (I x30), .p (I x31), .p (I x32), .p (I x33), .p (SB x34), .p (.sl 11 x35), .p (.sl 1 x36), .p (I x37), .p (I x38), .p (I x39), .p (.sl 6 x40), .p (I x41), .p (.sl 4 x42), .p (.sl 1 x43), .p (I x44), .p (I x45)] q)) := by
  refine wBodyG Try.tab Try.mixed Try.func118 rfl rfl Try.ntmps118 (by simp) (by simp) fun Q hr hn hp => ?_
  repeat' first | (refine CallK_gen [1027] (hc) (by decide) (by decide) (by simp [blksOf, inN, pos, renB, renC, renCs, ren0, lv, ouN, kpI, kpR]) (by simp [argsG, argG, ren0, inN, pos, renCs, renC]) ⟨[], by simp, by simp, ?_⟩; simp [lv, ouN, kpI, kpR, pos, ren, ren0, renB, renC, renCs, renF, renFs]) | (refine hK _ ?_; clear hK) | (refine hK _ _ ?_; clear hK) | (clear hK; refine hK _ ?_; clear hK) | (clear hK; clear hK; refine hK _ ?_; clear hK) | (clear hK; clear hK; clear hK; refine hK _ ?_; clear hK) | (clear hK; clear hK; clear hK; clear hK; refine hK _ ?_; clear hK) | (refine wSeq fun K hK => ?_) | ((first | refine wReg ?_ | refine wDrwQ rfl (by kernel_rfl) ?_ | refine wDrwI ?_ | refine wDrw (by kernel_rfl) ?_); simp only [List.map_cons, List.map_nil, strip]) | ((first | refine wIs fun K hK => ?_ | refine wOs fun K hK => ?_ | refine wQs fun K hK => ?_ | refine CallK_plain ?_ | refine CallQ_plain ?_ | refine CallR_plain ?_ | refine wCond ?_); simp [lv, ouN, kpI, kpR, pos, ren, ren0, renB, renC, renCs]) | (refine wIn ?_; refine And.intro (by kernel_rfl) ?_; try simp only [thenA_n]) | (first | refine wBlock ?_ | refine wScope ?_) | ((first | refine wRet ?_ | refine wExit ?_ | refine wSkip ?_); try simp) | ((first | refine wLabel ?_ | refine wOn ?_ | refine wQn ?_); try simp only [thenA_n])
  all_goals first | apply hr | apply hn
  all_goals refine ⟨[], by simp, by simp, ?_⟩
  all_goals simp [Try.f118, outR, outB, renB, gaN, lv, ouN, kpI, kpR, pos, ren, ren0, renC, renCs]
set_option maxHeartbeats 16000000 in
theorem rcPanMs (b : List UInt8) (a q e : Int)
    (hc : Con Try.prog 75 [.ptr 1024 0] (rB b a) (.pan (.iface 192 (.int .i64 e)) (rB b q))) :
    Con Try.prog 118 [.ptr 1024 0, .ptr 1025 0, .ptr 1026 0] (rbMs b [.p (I 0), .p (I 0), .p (I 0), .p (I 0), .p (I 0), .p (I 0), .p (I 0), .p (I 0), .p (I 0), .p (I 0), .p (I 0), .p (I 0), .p (I 0), .p (I 0), .nil 2, .p (I 0), .p (I 0), .p (I 0), .nil 5, .nil 1, .p (I 0), .p (I 0), .p (I 0), .p (I 0), .nil 4, .p (I 0), .p (I 0), .nil 8, .p (I 0), .p (I 0), .p (I 0), .p (I 0), .p (I 0), .p (I 0), .p (SB []), .nil 11, .nil 1, .p (I 0), .p (I 0), .p (I 0), .nil 6, .p (I 0), .nil 4, .nil 1, .p (I 0), .p (I 0)] a) (.pan (.iface 192 (.int .i64 e)) (rbMs b [.p (I 0), .p (I 0), .p (I 0), .p (I 0), .p (I 0), .p (I 0), .p (I 0), .p (I 0), .p (I 0), .p (I 0), .p (I 0), .p (I 0), .p (I 0), .p (I 0), .nil 2, .p (I 0), .p (I 0), .p (I 0), .nil 5, .nil 1, .p (I 0), .p (I 0), .p (I 0), .p (I 0), .nil 4, .p (I 0), .p (I 0), .nil 8, .p (I 0), .p (I 0), .p (I 0), .p (I 0), .p (I 0), .p (I 0), .p (SB []), .nil 11, .nil 1, .p (I 0), .p (I 0), .p (I 0), .nil 6, .p (I 0), .nil 4, .nil 1, .p (I 0), .p (I 0)] q)) := by
  refine wBodyG Try.tab Try.mixed Try.func118 rfl rfl Try.ntmps118 (by simp) (by simp) fun Q hr hn hp => ?_
  repeat' first | (refine CallK_gen [1027] hc (by decide) (by decide) (by simp [blksOf, inN, pos, renB, ren0]) (by simp [argsG, argG, ren0, inN, pos, renCs, renC]) ?_; simp [GenK, lv, ouN, kpI, kpR, pos, ren, ren0, renB, renC, renCs]) | (refine hK _ ?_; clear hK) | (refine hK _ _ ?_; clear hK) | (clear hK; refine hK _ ?_; clear hK) | (clear hK; clear hK; refine hK _ ?_; clear hK) | (clear hK; clear hK; clear hK; refine hK _ ?_; clear hK) | (clear hK; clear hK; clear hK; clear hK; refine hK _ ?_; clear hK) | (refine wSeq fun K hK => ?_) | ((first | refine wReg ?_ | refine wDrwQ rfl (by kernel_rfl) ?_ | refine wDrwI ?_ | refine wDrw (by kernel_rfl) ?_); simp only [List.map_cons, List.map_nil, strip]) | ((first | refine wIs fun K hK => ?_ | refine wOs fun K hK => ?_ | refine wQs fun K hK => ?_ | refine CallK_plain ?_ | refine CallQ_plain ?_ | refine CallR_plain ?_ | refine wCond ?_); simp [lv, ouN, kpI, kpR, pos, ren, ren0, renB, renC, renCs]) | (refine wIn ?_; refine And.intro (by kernel_rfl) ?_; try simp only [thenA_n]) | (first | refine wBlock ?_ | refine wScope ?_) | ((first | refine wRet ?_ | refine wExit ?_ | refine wSkip ?_); try simp) | ((first | refine wLabel ?_ | refine wOn ?_ | refine wQn ?_); try simp only [thenA_n])
  all_goals try simp only [thenA_p, blockA_p]
  all_goals apply hp
  all_goals simp [AResP, outB, renB, gaN, lv, ouN, kpI, kpR, pos, ren, ren0, renC, renCs]
set_option maxHeartbeats 16000000 in
theorem read0Ms (b : List UInt8) (a q : Int) (x0 : Int) (x1 : Int) (x2 : Int) (x3 : Int) (x4 : Int) (x5 : Int) (x6 : Int) (x7 : Int) (x8 : Int) (x9 : Int) (x10 : Int) (x11 : Int) (x12 : Int) (x13 : Int) (x14 : List (List PV)) (x15 : Int) (x16 : Int) (x17 : Int) (x18 : List (List PV)) (x19 : List (List PV)) (x20 : Int) (x21 : Int) (x22 : Int) (x23 : Int) (x24 : List (List PV)) (x25 : Int) (x26 : Int) (x27 : List (List PV)) (x28 : Int) (x29 : Int) (x30 : Int) (x31 : Int) (x32 : Int) (x33 : Int) (x34 : List UInt8) (x35 : List (List PV)) (x36 : List (List PV)) (x37 : Int) (x38 : Int) (x39 : Int) (x40 : List (List PV)) (x41 : Int) (x42 : List (List PV)) (x43 : List (List PV)) (x44 : Int) (x45 : Int)
    (hc : Con Try.prog 75 [.ptr 1024 0] (rB b a) (.ret (.p (.agg [I x0, I x1, I x2, I x3, I x4, I x5, I x6, I x7, I x8, I x9, I x10, I x11, I x12, I x13, .sl 2 x14, I x15, I x16, I x17, .sl 5 x18, .sl 1 x19, I x20, I x21, I x22, I x23, .sl 4 x24, I x25, I x26, .sl 8 x27, I x28, I x29, I x30, I x31, I x32, I x33, SB x34, .sl 11 x35, .sl 1 x36, I x37, I x38, I x39, .sl 6 x40, I x41, .sl 4 x42, .sl 1 x43, I x44, I x45])) [] (rB b q))) :
    ACon Try.prog 74 [.p (.sl 1 (by8 b)), .p (I a), .p (.v (.func (.func 75) #[] #[]))] (.tup [.p (.agg [I x0, I x1, I x2, I x3, I x4, I x5, I x6, I x7, I x8, I x9, I x10, I x11, I x12, I x13, .sl 2 x14, I x15, I x16, I x17, .sl 5 x18, .sl 1 x19, I x20, I x21, I x22, I x23, .sl 4 x24, I x25, I x26, .sl 8 x27, I x28, I x29, I x30, I x31, I x32, I x33, SB x34, .sl 11 x35, .sl 1 x36, I x37, I x38, I x39, .sl 6 x40, I x41, .sl 4 x42, .sl 1 x43, I x44, I x45]), .p (I q), .p (I 0)]) := by
  have he0 : ByteArray.empty = bs [] := rfl
  have ct := try_con (caps := [.box 1024, .box 1025, .box 1026]) (rcOkMs b a q x0 x1 x2 x3 x4 x5 x6 x7 x8 x9 x10 x11 x12 x13 x14 x15 x16 x17 x18 x19 x20 x21 x22 x23 x24 x25 x26 x27 x28 x29 x30 x31 x32 x33 x34 x35 x36 x37 x38 x39 x40 x41 x42 x43 x44 x45 hc) rfl
  refine wBody Try.tab Try.mixed Try.func74 rfl rfl Try.ntmps74 (by simp) (by simp) fun Q hr hn => ?_
  repeat' first | (refine CallK_gen [5, 11, 9, 16] ct (by decide) (by decide) (by simp [blksOf, inN, pos, renB, ren0, he0]) (by simp [argsG, argG, ren0, inN, pos, renCs, renC]) ⟨[], by simp, by simp, ?_⟩; simp [lv, ouN, kpI, kpR, pos, ren, ren0, renB, renC, renCs]) | (refine hK _ ?_; clear hK) | (refine hK _ _ ?_; clear hK) | (clear hK; refine hK _ ?_; clear hK) | (clear hK; clear hK; refine hK _ ?_; clear hK) | (clear hK; clear hK; clear hK; refine hK _ ?_; clear hK) | (clear hK; clear hK; clear hK; clear hK; refine hK _ ?_; clear hK) | (refine wSeq fun K hK => ?_) | ((first | refine wReg ?_ | refine wDrwQ rfl (by kernel_rfl) ?_ | refine wDrwI ?_ | refine wDrw (by kernel_rfl) ?_); simp only [List.map_cons, List.map_nil, strip]) | ((first | refine wIs fun K hK => ?_ | refine wOs fun K hK => ?_ | refine wQs fun K hK => ?_ | refine CallK_plain ?_ | refine CallQ_plain ?_ | refine CallR_plain ?_ | refine wCond ?_); simp [lv, ouN, kpI, kpR, pos, ren, ren0, renB, renC, renCs]) | (refine wIn ?_; refine And.intro (by kernel_rfl) ?_; try simp only [thenA_n]) | (first | refine wBlock ?_ | refine wScope ?_) | ((first | refine wRet ?_ | refine wExit ?_ | refine wSkip ?_); try simp) | ((first | refine wLabel ?_ | refine wOn ?_ | refine wQn ?_); try simp only [thenA_n])
  all_goals apply hr
  all_goals simp [Try.f74]
set_option maxHeartbeats 16000000 in
theorem readEMs (b : List UInt8) (a q e : Int) (h0 : ¬ e = 0)
    (hc : Con Try.prog 75 [.ptr 1024 0] (rB b a) (.pan (.iface 192 (.int .i64 e)) (rB b q))) :
    ACon Try.prog 74 [.p (.sl 1 (by8 b)), .p (I a), .p (.v (.func (.func 75) #[] #[]))] (.tup [.p (.agg [I 0, I 0, I 0, I 0, I 0, I 0, I 0, I 0, I 0, I 0, I 0, I 0, I 0, I 0, .sl 2 [], I 0, I 0, I 0, .sl 5 [], .sl 1 [], I 0, I 0, I 0, I 0, .sl 4 [], I 0, I 0, .sl 8 [], I 0, I 0, I 0, I 0, I 0, I 0, SB [], .sl 11 [], .sl 1 [], I 0, I 0, I 0, .sl 6 [], I 0, .sl 4 [], .sl 1 [], I 0, I 0]), .p (I 0), .p (I e)]) := by
  have he0 : ByteArray.empty = bs [] := rfl
  have ct := try_con (n := e) (caps := [.box 1024, .box 1025, .box 1026]) (rcPanMs b a q e hc) rfl
  refine wBody Try.tab Try.mixed Try.func74 rfl rfl Try.ntmps74 (by simp) (by simp) fun Q hr hn => ?_
  repeat' first | (refine CallK_gen [5, 11, 9, 16] ct (by decide) (by decide) (by simp [blksOf, inN, pos, renB, ren0, he0]) (by simp [argsG, argG, ren0, inN, pos, renCs, renC]) ⟨[], by simp, by simp, ?_⟩; simp [lv, ouN, kpI, kpR, pos, ren, ren0, renB, renC, renCs]) | (refine hK _ ?_; clear hK) | (refine hK _ _ ?_; clear hK) | (clear hK; refine hK _ ?_; clear hK) | (clear hK; clear hK; refine hK _ ?_; clear hK) | (clear hK; clear hK; clear hK; refine hK _ ?_; clear hK) | (clear hK; clear hK; clear hK; clear hK; refine hK _ ?_; clear hK) | (refine wSeq fun K hK => ?_) | ((first | refine wReg ?_ | refine wDrwQ rfl (by kernel_rfl) ?_ | refine wDrwI ?_ | refine wDrw (by kernel_rfl) ?_); simp only [List.map_cons, List.map_nil, strip]) | ((first | refine wIs fun K hK => ?_ | refine wOs fun K hK => ?_ | refine wQs fun K hK => ?_ | refine CallK_plain ?_ | refine CallQ_plain ?_ | refine CallR_plain ?_ | refine wCond ?_); simp [h0, lv, ouN, kpI, kpR, pos, ren, ren0, renB, renC, renCs]) | (refine wIn ?_; refine And.intro (by kernel_rfl) ?_; try simp only [thenA_n]) | (first | refine wBlock ?_ | refine wScope ?_) | ((first | refine wRet ?_ | refine wExit ?_ | refine wSkip ?_); try simp) | ((first | refine wLabel ?_ | refine wOn ?_ | refine wQn ?_); try simp only [thenA_n])
  all_goals apply hr
  all_goals simp [Try.f74, he0]
set_option maxHeartbeats 16000000 in
theorem readMs (b : List UInt8) (a : Int) (hb : b.length ≤ 1000000000) : ACon Try.prog 36 [.p (.sl 1 (by8 b)), .p (I a)] (rT fMs b a) := by
  have c := rMs b a hb
  obtain ⟨x0, x1, x2, x3, x4, x5, x6, x7, x8, x9, x10, x11, x12, x13, x14, x15, x16, x17, x18, x19, x20, x21, x22, x23, x24, x25, x26, x27, x28, x29, x30, x31, x32, x33, x34, x35, x36, x37, x38, x39, x40, x41, x42, x43, x44, x45, ⟨q, k⟩, he⟩ := fMs_got b (0, a)
  unfold rT
  rw [he] at c ⊢
  simp only [vOf2] at c ⊢
  have he0 : ByteArray.empty = bs [] := rfl
  by_cases h : q = 0
  · subst h
    rw [rO_ok] at c
    rw [if_pos rfl]
    have c2 := read0Ms b a k x0 x1 x2 x3 x4 x5 x6 x7 x8 x9 x10 x11 x12 x13 x14 x15 x16 x17 x18 x19 x20 x21 x22 x23 x24 x25 x26 x27 x28 x29 x30 x31 x32 x33 x34 x35 x36 x37 x38 x39 x40 x41 x42 x43 x44 x45 c
    clear c he
    refine wBody Try.tab Try.mixed Try.func36 rfl rfl Try.ntmps36 (by simp) (by simp) fun Q hr hn => ?_
    repeat' first | (refine hK _ ?_; clear hK) | (refine hK _ _ ?_; clear hK) | (clear hK; refine hK _ ?_; clear hK) | (clear hK; clear hK; refine hK _ ?_; clear hK) | (clear hK; clear hK; clear hK; refine hK _ ?_; clear hK) | (clear hK; clear hK; clear hK; clear hK; refine hK _ ?_; clear hK) | (refine wSeq fun K hK => ?_) | ((first | refine wReg ?_ | refine wDrwQ rfl (by kernel_rfl) ?_ | refine wDrwI ?_ | refine wDrw (by kernel_rfl) ?_); simp only [List.map_cons, List.map_nil, strip]) | ((first | refine wIs fun K hK => ?_ | refine wOs fun K hK => ?_ | refine wQs fun K hK => ?_ | refine CallK_plain ?_ | refine CallQ_plain ?_ | refine CallR_plain ?_ | refine wCond ?_); simp) | (refine wIn ?_; refine And.intro (by kernel_rfl) ?_; try simp only [thenA_n]) | (first | refine wBlock ?_ | refine wScope ?_) | ((first | refine wRet ?_ | refine wExit ?_ | refine wSkip ?_); try simp) | ((first | refine wLabel ?_ | refine wOn ?_ | refine wQn ?_); try simp only [thenA_n]) | (refine CallE.pure (c2) rfl ?_) | (refine CallE.lent (c2) rfl ?_) | (refine CallF.pure (c2) rfl ?_) | (refine CallF.lent (c2) rfl ?_) | (refine CallE.own (c2) ?_) | (refine CallH.pure (c2) rfl ?_) | (refine CallH.lent (c2) rfl ?_) | (refine CallH.own (c2) ?_)
    all_goals apply hr
    all_goals simp [Try.f36]
  · rw [rO_err _ _ _ h] at c
    rw [if_neg h, fMs_ze]
    have c2 := readEMs b a k q h c
    clear c he
    simp only [vOf2]
    refine wBody Try.tab Try.mixed Try.func36 rfl rfl Try.ntmps36 (by simp) (by simp) fun Q hr hn => ?_
    repeat' first | (refine hK _ ?_; clear hK) | (refine hK _ _ ?_; clear hK) | (clear hK; refine hK _ ?_; clear hK) | (clear hK; clear hK; refine hK _ ?_; clear hK) | (clear hK; clear hK; clear hK; refine hK _ ?_; clear hK) | (clear hK; clear hK; clear hK; clear hK; refine hK _ ?_; clear hK) | (refine wSeq fun K hK => ?_) | ((first | refine wReg ?_ | refine wDrwQ rfl (by kernel_rfl) ?_ | refine wDrwI ?_ | refine wDrw (by kernel_rfl) ?_); simp only [List.map_cons, List.map_nil, strip]) | ((first | refine wIs fun K hK => ?_ | refine wOs fun K hK => ?_ | refine wQs fun K hK => ?_ | refine CallK_plain ?_ | refine CallQ_plain ?_ | refine CallR_plain ?_ | refine wCond ?_); simp) | (refine wIn ?_; refine And.intro (by kernel_rfl) ?_; try simp only [thenA_n]) | (first | refine wBlock ?_ | refine wScope ?_) | ((first | refine wRet ?_ | refine wExit ?_ | refine wSkip ?_); try simp) | ((first | refine wLabel ?_ | refine wOn ?_ | refine wQn ?_); try simp only [thenA_n]) | (refine CallE.pure (c2) rfl ?_) | (refine CallE.lent (c2) rfl ?_) | (refine CallF.pure (c2) rfl ?_) | (refine CallF.lent (c2) rfl ?_) | (refine CallE.own (c2) ?_) | (refine CallH.pure (c2) rfl ?_) | (refine CallH.lent (c2) rfl ?_) | (refine CallH.own (c2) ?_)
    all_goals apply hr
    all_goals simp [Try.f36]
/- Records laid: plans, messages. -/
set_option maxHeartbeats 2000000 in
theorem wPl (b : List UInt8) (cs : List PV) (hk : fPl.ok cs) (h : (b ++ fPl.en cs).length ≤ 30000000) : WCon 90 [vOf cs] b (b ++ fPl.en cs) := by
  obtain ⟨x0, x1, x2, x3, x4, x5, x6, x7, x8, x9, x10, x11, x12, rfl, k0, k1, k2, k3⟩ := fPl_sh hk
  have hres : b ++ fPl.en [I x0, I x1, I x2, .sl 5 x3, .sl 1 x4, I x5, I x6, I x7, I x8, .sl 4 x9, I x10, I x11, .sl 8 x12] = b ++ foI.en [I x0] ++ fZx.en [I x1, I x2] ++ fSt.en [.sl 5 x3, .sl 1 x4, I x5, I x6, I x7, I x8, .sl 4 x9, I x10, I x11] ++ (fl 8 fTx).en [.sl 8 x12] := by rw [fPl_en]; simp only [catI2, catI3, catI4, List.append_assoc]
  rw [hres] at h ⊢
  clear hres
  have c0 := wnumF b x0 k0 (by simp only [List.length_append] at h ⊢; omega)
  have c1 := wZx (b ++ foI.en [I x0]) _ k1 (by simp only [List.length_append] at h ⊢; omega)
  have c2 := wSt (b ++ foI.en [I x0] ++ fZx.en [I x1, I x2]) _ k2 (by simp only [List.length_append] at h ⊢; omega)
  have c3 := wlTx (b ++ foI.en [I x0] ++ fZx.en [I x1, I x2] ++ fSt.en [.sl 5 x3, .sl 1 x4, I x5, I x6, I x7, I x8, .sl 4 x9, I x10, I x11]) x12 k3 h
  generalize b ++ foI.en [I x0] ++ fZx.en [I x1, I x2] ++ fSt.en [.sl 5 x3, .sl 1 x4, I x5, I x6, I x7, I x8, .sl 4 x9, I x10, I x11] ++ (fl 8 fTx).en [.sl 8 x12] = y4 at *
  generalize b ++ foI.en [I x0] ++ fZx.en [I x1, I x2] ++ fSt.en [.sl 5 x3, .sl 1 x4, I x5, I x6, I x7, I x8, .sl 4 x9, I x10, I x11] = y3 at *
  generalize b ++ foI.en [I x0] ++ fZx.en [I x1, I x2] = y2 at *
  generalize b ++ foI.en [I x0] = y1 at *
  simp only [vOf2, ints, List.map_cons, List.map_nil] at *
  refine wBodyG Try.tab Try.mixed Try.func90 rfl rfl Try.ntmps90 (by simp) (by simp) fun Q hr hn hp => ?_
  repeat' first | (refine CallK_gen [1024, 1025] c0 (by decide) (by decide) (by simp [blksOf, inN, pos, renB, ren0, ouN, lv, kpI, kpR]) (by simp [argsG, argG, ren0, inN, pos, renCs, renC]) ⟨[], by simp, by simp, ?_⟩; simp [lv, ouN, kpI, kpR, pos, ren, ren0, renB, renC, renCs]; clear c0) | (refine CallK_gen [1024, 1025] c1 (by decide) (by decide) (by simp [blksOf, inN, pos, renB, ren0, ouN, lv, kpI, kpR]) (by simp [argsG, argG, ren0, inN, pos, renCs, renC]) ⟨[], by simp, by simp, ?_⟩; simp [lv, ouN, kpI, kpR, pos, ren, ren0, renB, renC, renCs]; clear c1) | (refine CallK_gen [1024, 1025] c2 (by decide) (by decide) (by simp [blksOf, inN, pos, renB, ren0, ouN, lv, kpI, kpR]) (by simp [argsG, argG, ren0, inN, pos, renCs, renC]) ⟨[], by simp, by simp, ?_⟩; simp [lv, ouN, kpI, kpR, pos, ren, ren0, renB, renC, renCs]; clear c2) | (refine CallK_gen [1024, 1025] c3 (by decide) (by decide) (by simp [blksOf, inN, pos, renB, ren0, ouN, lv, kpI, kpR]) (by simp [argsG, argG, ren0, inN, pos, renCs, renC]) ⟨[], by simp, by simp, ?_⟩; simp [lv, ouN, kpI, kpR, pos, ren, ren0, renB, renC, renCs]; clear c3) | (refine hK _ ?_; clear hK) | (refine hK _ _ ?_; clear hK) | (clear hK; refine hK _ ?_; clear hK) | (clear hK; clear hK; refine hK _ ?_; clear hK) | (clear hK; clear hK; clear hK; refine hK _ ?_; clear hK) | (clear hK; clear hK; clear hK; clear hK; refine hK _ ?_; clear hK) | (refine wSeq fun K hK => ?_) | ((first | refine wReg ?_ | refine wDrwQ rfl (by kernel_rfl) ?_ | refine wDrwI ?_ | refine wDrw (by kernel_rfl) ?_); simp only [List.map_cons, List.map_nil, strip]) | ((first | refine wIs fun K hK => ?_ | refine wOs fun K hK => ?_ | refine wQs fun K hK => ?_ | refine CallK_plain ?_ | refine CallQ_plain ?_ | refine CallR_plain ?_ | refine wCond ?_); simp [lv, ouN, kpI, kpR, pos, ren, ren0, renB, renC, renCs]) | (refine wIn ?_; refine And.intro (by kernel_rfl) ?_; try simp only [thenA_n]) | (first | refine wBlock ?_ | refine wScope ?_) | ((first | refine wRet ?_ | refine wExit ?_ | refine wSkip ?_); try simp) | ((first | refine wLabel ?_ | refine wOn ?_ | refine wQn ?_); try simp only [thenA_n])
  all_goals first | apply hn | apply hr
  all_goals refine ⟨[], by simp, by simp, ?_⟩
  all_goals simp [Try.f90, outR, outB, renB, gaN, lv, ouN, kpI, kpR, pos, ren, ren0, renC, renCs]
set_option maxHeartbeats 4000000 in
theorem wMs (b : List UInt8) (cs : List PV) (hk : fMs.ok cs) (h : (b ++ fMs.en cs).length ≤ 30000000) : WCon 55 [vOf cs] b (b ++ fMs.en cs) := by
  obtain ⟨x0, x1, x2, x3, x4, x5, x6, x7, x8, x9, x10, x11, x12, x13, x14, x15, x16, x17, x18, x19, x20, x21, x22, x23, x24, x25, x26, x27, x28, x29, x30, x31, x32, x33, x34, x35, x36, x37, x38, x39, x40, x41, x42, x43, x44, x45, rfl, k0, k1, k2, k3, k4, k5, k6, k7, k8, k9, k10, k11⟩ := fMs_sh hk
  have hres : b ++ fMs.en [I x0, I x1, I x2, I x3, I x4, I x5, I x6, I x7, I x8, I x9, I x10, I x11, I x12, I x13, .sl 2 x14, I x15, I x16, I x17, .sl 5 x18, .sl 1 x19, I x20, I x21, I x22, I x23, .sl 4 x24, I x25, I x26, .sl 8 x27, I x28, I x29, I x30, I x31, I x32, I x33, SB x34, .sl 11 x35, .sl 1 x36, I x37, I x38, I x39, .sl 6 x40, I x41, .sl 4 x42, .sl 1 x43, I x44, I x45] = b ++ catI [x0, x1, x2] ++ fVt.en [I x3, I x4, I x5, I x6, I x7, I x8, I x9] ++ catI [x10, x11] ++ fZx.en [I x12, I x13] ++ (fl 2 fZx).en [.sl 2 x14] ++ fPl.en [I x15, I x16, I x17, .sl 5 x18, .sl 1 x19, I x20, I x21, I x22, I x23, .sl 4 x24, I x25, I x26, .sl 8 x27] ++ fTx.en [I x28, I x29, I x30, I x31, I x32, I x33, SB x34, .sl 11 x35] ++ (fl 1 foI).en [.sl 1 x36] ++ fRq.en [I x37, I x38, I x39, .sl 6 x40, I x41, .sl 4 x42, .sl 1 x43, I x44, I x45] := by rw [fMs_en]; simp only [catI2, catI3, catI4, List.append_assoc]
  rw [hres] at h ⊢
  clear hres
  have c0 := wnumsF b [x0, x1, x2] (by intro n hn; simp at hn; rcases hn with rfl | rfl | rfl <;> simp only [← foI_ok] <;> assumption) (by simp) (by simp only [List.length_append] at h ⊢; omega)
  have c1 := wVt (b ++ catI [x0, x1, x2]) _ k3 (by simp only [List.length_append] at h ⊢; omega)
  have c2 := wnumsF (b ++ catI [x0, x1, x2] ++ fVt.en [I x3, I x4, I x5, I x6, I x7, I x8, I x9]) [x10, x11] (by intro n hn; simp at hn; rcases hn with rfl | rfl <;> simp only [← foI_ok] <;> assumption) (by simp) (by simp only [List.length_append] at h ⊢; omega)
  have c3 := wZx (b ++ catI [x0, x1, x2] ++ fVt.en [I x3, I x4, I x5, I x6, I x7, I x8, I x9] ++ catI [x10, x11]) _ k6 (by simp only [List.length_append] at h ⊢; omega)
  have c4 := wlZx (b ++ catI [x0, x1, x2] ++ fVt.en [I x3, I x4, I x5, I x6, I x7, I x8, I x9] ++ catI [x10, x11] ++ fZx.en [I x12, I x13]) x14 k7 (by simp only [List.length_append] at h ⊢; omega)
  have c5 := wPl (b ++ catI [x0, x1, x2] ++ fVt.en [I x3, I x4, I x5, I x6, I x7, I x8, I x9] ++ catI [x10, x11] ++ fZx.en [I x12, I x13] ++ (fl 2 fZx).en [.sl 2 x14]) _ k8 (by simp only [List.length_append] at h ⊢; omega)
  have c6 := wTx (b ++ catI [x0, x1, x2] ++ fVt.en [I x3, I x4, I x5, I x6, I x7, I x8, I x9] ++ catI [x10, x11] ++ fZx.en [I x12, I x13] ++ (fl 2 fZx).en [.sl 2 x14] ++ fPl.en [I x15, I x16, I x17, .sl 5 x18, .sl 1 x19, I x20, I x21, I x22, I x23, .sl 4 x24, I x25, I x26, .sl 8 x27]) _ k9 (by simp only [List.length_append] at h ⊢; omega)
  have c7 := wlI (b ++ catI [x0, x1, x2] ++ fVt.en [I x3, I x4, I x5, I x6, I x7, I x8, I x9] ++ catI [x10, x11] ++ fZx.en [I x12, I x13] ++ (fl 2 fZx).en [.sl 2 x14] ++ fPl.en [I x15, I x16, I x17, .sl 5 x18, .sl 1 x19, I x20, I x21, I x22, I x23, .sl 4 x24, I x25, I x26, .sl 8 x27] ++ fTx.en [I x28, I x29, I x30, I x31, I x32, I x33, SB x34, .sl 11 x35]) x36 k10 (by simp only [List.length_append] at h ⊢; omega)
  have c8 := wRq (b ++ catI [x0, x1, x2] ++ fVt.en [I x3, I x4, I x5, I x6, I x7, I x8, I x9] ++ catI [x10, x11] ++ fZx.en [I x12, I x13] ++ (fl 2 fZx).en [.sl 2 x14] ++ fPl.en [I x15, I x16, I x17, .sl 5 x18, .sl 1 x19, I x20, I x21, I x22, I x23, .sl 4 x24, I x25, I x26, .sl 8 x27] ++ fTx.en [I x28, I x29, I x30, I x31, I x32, I x33, SB x34, .sl 11 x35] ++ (fl 1 foI).en [.sl 1 x36]) _ k11 h
  generalize b ++ catI [x0, x1, x2] ++ fVt.en [I x3, I x4, I x5, I x6, I x7, I x8, I x9] ++ catI [x10, x11] ++ fZx.en [I x12, I x13] ++ (fl 2 fZx).en [.sl 2 x14] ++ fPl.en [I x15, I x16, I x17, .sl 5 x18, .sl 1 x19, I x20, I x21, I x22, I x23, .sl 4 x24, I x25, I x26, .sl 8 x27] ++ fTx.en [I x28, I x29, I x30, I x31, I x32, I x33, SB x34, .sl 11 x35] ++ (fl 1 foI).en [.sl 1 x36] ++ fRq.en [I x37, I x38, I x39, .sl 6 x40, I x41, .sl 4 x42, .sl 1 x43, I x44, I x45] = y9 at *
  generalize b ++ catI [x0, x1, x2] ++ fVt.en [I x3, I x4, I x5, I x6, I x7, I x8, I x9] ++ catI [x10, x11] ++ fZx.en [I x12, I x13] ++ (fl 2 fZx).en [.sl 2 x14] ++ fPl.en [I x15, I x16, I x17, .sl 5 x18, .sl 1 x19, I x20, I x21, I x22, I x23, .sl 4 x24, I x25, I x26, .sl 8 x27] ++ fTx.en [I x28, I x29, I x30, I x31, I x32, I x33, SB x34, .sl 11 x35] ++ (fl 1 foI).en [.sl 1 x36] = y8 at *
  generalize b ++ catI [x0, x1, x2] ++ fVt.en [I x3, I x4, I x5, I x6, I x7, I x8, I x9] ++ catI [x10, x11] ++ fZx.en [I x12, I x13] ++ (fl 2 fZx).en [.sl 2 x14] ++ fPl.en [I x15, I x16, I x17, .sl 5 x18, .sl 1 x19, I x20, I x21, I x22, I x23, .sl 4 x24, I x25, I x26, .sl 8 x27] ++ fTx.en [I x28, I x29, I x30, I x31, I x32, I x33, SB x34, .sl 11 x35] = y7 at *
  generalize b ++ catI [x0, x1, x2] ++ fVt.en [I x3, I x4, I x5, I x6, I x7, I x8, I x9] ++ catI [x10, x11] ++ fZx.en [I x12, I x13] ++ (fl 2 fZx).en [.sl 2 x14] ++ fPl.en [I x15, I x16, I x17, .sl 5 x18, .sl 1 x19, I x20, I x21, I x22, I x23, .sl 4 x24, I x25, I x26, .sl 8 x27] = y6 at *
  generalize b ++ catI [x0, x1, x2] ++ fVt.en [I x3, I x4, I x5, I x6, I x7, I x8, I x9] ++ catI [x10, x11] ++ fZx.en [I x12, I x13] ++ (fl 2 fZx).en [.sl 2 x14] = y5 at *
  generalize b ++ catI [x0, x1, x2] ++ fVt.en [I x3, I x4, I x5, I x6, I x7, I x8, I x9] ++ catI [x10, x11] ++ fZx.en [I x12, I x13] = y4 at *
  generalize b ++ catI [x0, x1, x2] ++ fVt.en [I x3, I x4, I x5, I x6, I x7, I x8, I x9] ++ catI [x10, x11] = y3 at *
  generalize b ++ catI [x0, x1, x2] ++ fVt.en [I x3, I x4, I x5, I x6, I x7, I x8, I x9] = y2 at *
  generalize b ++ catI [x0, x1, x2] = y1 at *
  simp only [vOf2, ints, List.map_cons, List.map_nil] at *
  refine wBodyG Try.tab Try.mixed Try.func55 rfl rfl Try.ntmps55 (by simp) (by simp) fun Q hr hn hp => ?_
  repeat' first | (refine CallK_gen [1024, 1025] c0 (by decide) (by decide) (by simp [blksOf, inN, pos, renB, ren0, ouN, lv, kpI, kpR]) (by simp [argsG, argG, ren0, inN, pos, renCs, renC]) ⟨[], by simp, by simp, ?_⟩; simp [lv, ouN, kpI, kpR, pos, ren, ren0, renB, renC, renCs]; clear c0) | (refine CallK_gen [1024, 1025] c1 (by decide) (by decide) (by simp [blksOf, inN, pos, renB, ren0, ouN, lv, kpI, kpR]) (by simp [argsG, argG, ren0, inN, pos, renCs, renC]) ⟨[], by simp, by simp, ?_⟩; simp [lv, ouN, kpI, kpR, pos, ren, ren0, renB, renC, renCs]; clear c1) | (refine CallK_gen [1024, 1025] c2 (by decide) (by decide) (by simp [blksOf, inN, pos, renB, ren0, ouN, lv, kpI, kpR]) (by simp [argsG, argG, ren0, inN, pos, renCs, renC]) ⟨[], by simp, by simp, ?_⟩; simp [lv, ouN, kpI, kpR, pos, ren, ren0, renB, renC, renCs]; clear c2) | (refine CallK_gen [1024, 1025] c3 (by decide) (by decide) (by simp [blksOf, inN, pos, renB, ren0, ouN, lv, kpI, kpR]) (by simp [argsG, argG, ren0, inN, pos, renCs, renC]) ⟨[], by simp, by simp, ?_⟩; simp [lv, ouN, kpI, kpR, pos, ren, ren0, renB, renC, renCs]; clear c3) | (refine CallK_gen [1024, 1025] c4 (by decide) (by decide) (by simp [blksOf, inN, pos, renB, ren0, ouN, lv, kpI, kpR]) (by simp [argsG, argG, ren0, inN, pos, renCs, renC]) ⟨[], by simp, by simp, ?_⟩; simp [lv, ouN, kpI, kpR, pos, ren, ren0, renB, renC, renCs]; clear c4) | (refine CallK_gen [1024, 1025] c5 (by decide) (by decide) (by simp [blksOf, inN, pos, renB, ren0, ouN, lv, kpI, kpR]) (by simp [argsG, argG, ren0, inN, pos, renCs, renC]) ⟨[], by simp, by simp, ?_⟩; simp [lv, ouN, kpI, kpR, pos, ren, ren0, renB, renC, renCs]; clear c5) | (refine CallK_gen [1024, 1025] c6 (by decide) (by decide) (by simp [blksOf, inN, pos, renB, ren0, ouN, lv, kpI, kpR]) (by simp [argsG, argG, ren0, inN, pos, renCs, renC]) ⟨[], by simp, by simp, ?_⟩; simp [lv, ouN, kpI, kpR, pos, ren, ren0, renB, renC, renCs]; clear c6) | (refine CallK_gen [1024, 1025] c7 (by decide) (by decide) (by simp [blksOf, inN, pos, renB, ren0, ouN, lv, kpI, kpR]) (by simp [argsG, argG, ren0, inN, pos, renCs, renC]) ⟨[], by simp, by simp, ?_⟩; simp [lv, ouN, kpI, kpR, pos, ren, ren0, renB, renC, renCs]; clear c7) | (refine CallK_gen [1024, 1025] c8 (by decide) (by decide) (by simp [blksOf, inN, pos, renB, ren0, ouN, lv, kpI, kpR]) (by simp [argsG, argG, ren0, inN, pos, renCs, renC]) ⟨[], by simp, by simp, ?_⟩; simp [lv, ouN, kpI, kpR, pos, ren, ren0, renB, renC, renCs]; clear c8) | (refine hK _ ?_; clear hK) | (refine hK _ _ ?_; clear hK) | (clear hK; refine hK _ ?_; clear hK) | (clear hK; clear hK; refine hK _ ?_; clear hK) | (clear hK; clear hK; clear hK; refine hK _ ?_; clear hK) | (clear hK; clear hK; clear hK; clear hK; refine hK _ ?_; clear hK) | (refine wSeq fun K hK => ?_) | ((first | refine wReg ?_ | refine wDrwQ rfl (by kernel_rfl) ?_ | refine wDrwI ?_ | refine wDrw (by kernel_rfl) ?_); simp only [List.map_cons, List.map_nil, strip]) | ((first | refine wIs fun K hK => ?_ | refine wOs fun K hK => ?_ | refine wQs fun K hK => ?_ | refine CallK_plain ?_ | refine CallQ_plain ?_ | refine CallR_plain ?_ | refine wCond ?_); simp [lv, ouN, kpI, kpR, pos, ren, ren0, renB, renC, renCs]) | (refine wIn ?_; refine And.intro (by kernel_rfl) ?_; try simp only [thenA_n]) | (first | refine wBlock ?_ | refine wScope ?_) | ((first | refine wRet ?_ | refine wExit ?_ | refine wSkip ?_); try simp) | ((first | refine wLabel ?_ | refine wOn ?_ | refine wQn ?_); try simp only [thenA_n])
  all_goals first | apply hn | apply hr
  all_goals refine ⟨[], by simp, by simp, ?_⟩
  all_goals simp [Try.f55, outR, outB, renB, gaN, lv, ouN, kpI, kpR, pos, ren, ren0, renC, renCs]
/- Records laid: bytes of one's own; requests, messages. -/
set_option maxHeartbeats 4000000 in
theorem putMs (b : List UInt8) (cs : List PV) (hk : fMs.ok cs) (h : (b ++ fMs.en cs).length ≤ 1000000) : ACon Try.prog 21 [.p (.sl 1 (by8 b)), vOf cs] (.p (.sl 1 (by8 (b ++ fMs.en cs)))) := by
  have c := wMs b cs hk (by omega)
  have cl := cloneB (by8 b) (by rw [by8_len]; rw [List.length_append] at h; omega)
  obtain ⟨x0, x1, x2, x3, x4, x5, x6, x7, x8, x9, x10, x11, x12, x13, x14, x15, x16, x17, x18, x19, x20, x21, x22, x23, x24, x25, x26, x27, x28, x29, x30, x31, x32, x33, x34, x35, x36, x37, x38, x39, x40, x41, x42, x43, x44, x45, rfl, -⟩ := fMs_sh hk
  generalize b ++ fMs.en [I x0, I x1, I x2, I x3, I x4, I x5, I x6, I x7, I x8, I x9, I x10, I x11, I x12, I x13, .sl 2 x14, I x15, I x16, I x17, .sl 5 x18, .sl 1 x19, I x20, I x21, I x22, I x23, .sl 4 x24, I x25, I x26, .sl 8 x27, I x28, I x29, I x30, I x31, I x32, I x33, SB x34, .sl 11 x35, .sl 1 x36, I x37, I x38, I x39, .sl 6 x40, I x41, .sl 4 x42, .sl 1 x43, I x44, I x45] = r at *
  simp only [vOf2] at *
  have hI : Con Try.prog 54 [.p (.sl 1 (by8 b)), .p (.agg [I x0, I x1, I x2, I x3, I x4, I x5, I x6, I x7, I x8, I x9, I x10, I x11, I x12, I x13, .sl 2 x14, I x15, I x16, I x17, .sl 5 x18, .sl 1 x19, I x20, I x21, I x22, I x23, .sl 4 x24, I x25, I x26, .sl 8 x27, I x28, I x29, I x30, I x31, I x32, I x33, SB x34, .sl 11 x35, .sl 1 x36, I x37, I x38, I x39, .sl 6 x40, I x41, .sl 4 x42, .sl 1 x43, I x44, I x45]), .p (.v (.func (.func 55) #[] #[]))] [] (.ret (.row 2048) [.row 5 1 (by8 r)] []) := by
    refine wBodyG Try.tab Try.mixed Try.func54 rfl rfl Try.ntmps54 (by simp) (by simp) fun Q hr hn hp => ?_
    repeat' first | (refine CallK_gen [11, 9] (c) (by decide) (by decide) (by simp [blksOf, inN, pos, renB, renC, renCs, ren0, lv, ouN, kpI, kpR]) (by simp [argsG, argG, ren0, inN, pos, renCs, renC]) ⟨[], by simp, by simp, ?_⟩; simp [lv, ouN, kpI, kpR, pos, ren, ren0, renB, renC, renCs, renF, renFs]) | (refine CallE.own (cl) ?_) | (refine hK _ ?_; clear hK) | (refine hK _ _ ?_; clear hK) | (clear hK; refine hK _ ?_; clear hK) | (clear hK; clear hK; refine hK _ ?_; clear hK) | (clear hK; clear hK; clear hK; refine hK _ ?_; clear hK) | (clear hK; clear hK; clear hK; clear hK; refine hK _ ?_; clear hK) | (refine wSeq fun K hK => ?_) | ((first | refine wReg ?_ | refine wDrwQ rfl (by kernel_rfl) ?_ | refine wDrwI ?_ | refine wDrw (by kernel_rfl) ?_); simp only [List.map_cons, List.map_nil, strip]) | ((first | refine wIs fun K hK => ?_ | refine wOs fun K hK => ?_ | refine wQs fun K hK => ?_ | refine CallK_plain ?_ | refine CallQ_plain ?_ | refine CallR_plain ?_ | refine wCond ?_); simp [lv, ouN, kpI, kpR, pos, ren, ren0, renB, renC, renCs]) | (refine wIn ?_; refine And.intro (by kernel_rfl) ?_; try simp only [thenA_n]) | (first | refine wBlock ?_ | refine wScope ?_) | ((first | refine wRet ?_ | refine wExit ?_ | refine wSkip ?_); try simp) | ((first | refine wLabel ?_ | refine wOn ?_ | refine wQn ?_); try simp only [thenA_n])
    all_goals first | apply hr
    all_goals refine ⟨[9], by simp, by simp, ?_⟩
    all_goals simp [Try.f54, outR, outB, renB, gaN, lv, ouN, kpI, kpR, pos, ren, ren0, renC, renCs]
  have hc := hI.toPure
  refine wBody Try.tab Try.mixed Try.func21 rfl rfl Try.ntmps21 (by simp) (by simp) fun Q hr hn => ?_
  repeat' first | (refine hK _ ?_; clear hK) | (refine hK _ _ ?_; clear hK) | (clear hK; refine hK _ ?_; clear hK) | (clear hK; clear hK; refine hK _ ?_; clear hK) | (clear hK; clear hK; clear hK; refine hK _ ?_; clear hK) | (clear hK; clear hK; clear hK; clear hK; refine hK _ ?_; clear hK) | (refine wSeq fun K hK => ?_) | ((first | refine wReg ?_ | refine wDrwQ rfl (by kernel_rfl) ?_ | refine wDrwI ?_ | refine wDrw (by kernel_rfl) ?_); simp only [List.map_cons, List.map_nil, strip]) | ((first | refine wIs fun K hK => ?_ | refine wOs fun K hK => ?_ | refine wQs fun K hK => ?_ | refine CallK_plain ?_ | refine CallQ_plain ?_ | refine CallR_plain ?_ | refine wCond ?_); simp) | (refine wIn ?_; refine And.intro (by kernel_rfl) ?_; try simp only [thenA_n]) | (first | refine wBlock ?_ | refine wScope ?_) | ((first | refine wRet ?_ | refine wExit ?_ | refine wSkip ?_); try simp) | ((first | refine wLabel ?_ | refine wOn ?_ | refine wQn ?_); try simp only [thenA_n]) | (refine CallE.pure (hc) rfl ?_) | (refine CallE.lent (hc) rfl ?_) | (refine CallF.pure (hc) rfl ?_) | (refine CallF.lent (hc) rfl ?_) | (refine CallE.own (hc) ?_) | (refine CallH.pure (hc) rfl ?_) | (refine CallH.lent (hc) rfl ?_) | (refine CallH.own (hc) ?_)
  all_goals apply hr
  all_goals simp [Try.f21]
/- Records: the law RecordOne. -/
set_option maxHeartbeats 8000000 in
theorem recordOne_con (b : List UInt8) (a : Int) : ACon Try.prog 7 [.p (.sl 1 (by8 b)), .p (I a)] (.p (B true)) := by
  have ca := awake12
  have cb := big0_con b
  by_cases hb : 3000 < b.length
  · rw [decide_eq_true hb] at cb
    refine wBody Try.tab Try.mixed Try.func7 rfl rfl Try.ntmps7 (by simp) (by simp) fun Q hr hn => ?_
    repeat' first | (refine hK _ ?_; clear hK) | (refine hK _ _ ?_; clear hK) | (clear hK; refine hK _ ?_; clear hK) | (clear hK; clear hK; refine hK _ ?_; clear hK) | (clear hK; clear hK; clear hK; refine hK _ ?_; clear hK) | (clear hK; clear hK; clear hK; clear hK; refine hK _ ?_; clear hK) | (refine wSeq fun K hK => ?_) | ((first | refine wReg ?_ | refine wDrwQ rfl (by kernel_rfl) ?_ | refine wDrwI ?_ | refine wDrw (by kernel_rfl) ?_); simp only [List.map_cons, List.map_nil, strip]) | ((first | refine wIs fun K hK => ?_ | refine wOs fun K hK => ?_ | refine wQs fun K hK => ?_ | refine CallK_plain ?_ | refine CallQ_plain ?_ | refine CallR_plain ?_ | refine wCond ?_); simp) | (refine wIn ?_; refine And.intro (by kernel_rfl) ?_; try simp only [thenA_n]) | (first | refine wBlock ?_ | refine wScope ?_) | ((first | refine wRet ?_ | refine wExit ?_ | refine wSkip ?_); try simp) | ((first | refine wLabel ?_ | refine wOn ?_ | refine wQn ?_); try simp only [thenA_n]) | (refine CallE.pure (cb) rfl ?_) | (refine CallE.lent (cb) rfl ?_) | (refine CallF.pure (cb) rfl ?_) | (refine CallF.lent (cb) rfl ?_) | (refine CallE.own (cb) ?_) | (refine CallH.pure (cb) rfl ?_) | (refine CallH.lent (cb) rfl ?_) | (refine CallH.own (cb) ?_) | (refine CallE.pure (ca) rfl ?_) | (refine CallE.lent (ca) rfl ?_) | (refine CallF.pure (ca) rfl ?_) | (refine CallF.lent (ca) rfl ?_) | (refine CallE.own (ca) ?_) | (refine CallH.pure (ca) rfl ?_) | (refine CallH.lent (ca) rfl ?_) | (refine CallH.own (ca) ?_)
    all_goals apply hr
    all_goals simp [Try.f7]
  rw [decide_eq_false hb] at cb
  by_cases h1 : a < 0
  · skip
    refine wBody Try.tab Try.mixed Try.func7 rfl rfl Try.ntmps7 (by simp) (by simp) fun Q hr hn => ?_
    repeat' first | (refine hK _ ?_; clear hK) | (refine hK _ _ ?_; clear hK) | (clear hK; refine hK _ ?_; clear hK) | (clear hK; clear hK; refine hK _ ?_; clear hK) | (clear hK; clear hK; clear hK; refine hK _ ?_; clear hK) | (clear hK; clear hK; clear hK; clear hK; refine hK _ ?_; clear hK) | (refine wSeq fun K hK => ?_) | ((first | refine wReg ?_ | refine wDrwQ rfl (by kernel_rfl) ?_ | refine wDrwI ?_ | refine wDrw (by kernel_rfl) ?_); simp only [List.map_cons, List.map_nil, strip]) | ((first | refine wIs fun K hK => ?_ | refine wOs fun K hK => ?_ | refine wQs fun K hK => ?_ | refine CallK_plain ?_ | refine CallQ_plain ?_ | refine CallR_plain ?_ | refine wCond ?_); simp [h1]) | (refine wIn ?_; refine And.intro (by kernel_rfl) ?_; try simp only [thenA_n]) | (first | refine wBlock ?_ | refine wScope ?_) | ((first | refine wRet ?_ | refine wExit ?_ | refine wSkip ?_); try simp) | ((first | refine wLabel ?_ | refine wOn ?_ | refine wQn ?_); try simp only [thenA_n]) | (refine CallE.pure (cb) rfl ?_) | (refine CallE.lent (cb) rfl ?_) | (refine CallF.pure (cb) rfl ?_) | (refine CallF.lent (cb) rfl ?_) | (refine CallE.own (cb) ?_) | (refine CallH.pure (cb) rfl ?_) | (refine CallH.lent (cb) rfl ?_) | (refine CallH.own (cb) ?_) | (refine CallE.pure (ca) rfl ?_) | (refine CallE.lent (ca) rfl ?_) | (refine CallF.pure (ca) rfl ?_) | (refine CallF.lent (ca) rfl ?_) | (refine CallE.own (ca) ?_) | (refine CallH.pure (ca) rfl ?_) | (refine CallH.lent (ca) rfl ?_) | (refine CallH.own (ca) ?_)
    all_goals apply hr
    all_goals simp [Try.f7]
  by_cases h2 : (b.length : Int) < a
  · skip
    refine wBody Try.tab Try.mixed Try.func7 rfl rfl Try.ntmps7 (by simp) (by simp) fun Q hr hn => ?_
    repeat' first | (refine hK _ ?_; clear hK) | (refine hK _ _ ?_; clear hK) | (clear hK; refine hK _ ?_; clear hK) | (clear hK; clear hK; refine hK _ ?_; clear hK) | (clear hK; clear hK; clear hK; refine hK _ ?_; clear hK) | (clear hK; clear hK; clear hK; clear hK; refine hK _ ?_; clear hK) | (refine wSeq fun K hK => ?_) | ((first | refine wReg ?_ | refine wDrwQ rfl (by kernel_rfl) ?_ | refine wDrwI ?_ | refine wDrw (by kernel_rfl) ?_); simp only [List.map_cons, List.map_nil, strip]) | ((first | refine wIs fun K hK => ?_ | refine wOs fun K hK => ?_ | refine wQs fun K hK => ?_ | refine CallK_plain ?_ | refine CallQ_plain ?_ | refine CallR_plain ?_ | refine wCond ?_); simp [h1, h2]) | (refine wIn ?_; refine And.intro (by kernel_rfl) ?_; try simp only [thenA_n]) | (first | refine wBlock ?_ | refine wScope ?_) | ((first | refine wRet ?_ | refine wExit ?_ | refine wSkip ?_); try simp) | ((first | refine wLabel ?_ | refine wOn ?_ | refine wQn ?_); try simp only [thenA_n]) | (refine CallE.pure (cb) rfl ?_) | (refine CallE.lent (cb) rfl ?_) | (refine CallF.pure (cb) rfl ?_) | (refine CallF.lent (cb) rfl ?_) | (refine CallE.own (cb) ?_) | (refine CallH.pure (cb) rfl ?_) | (refine CallH.lent (cb) rfl ?_) | (refine CallH.own (cb) ?_) | (refine CallE.pure (ca) rfl ?_) | (refine CallE.lent (ca) rfl ?_) | (refine CallF.pure (ca) rfl ?_) | (refine CallF.lent (ca) rfl ?_) | (refine CallE.own (ca) ?_) | (refine CallH.pure (ca) rfl ?_) | (refine CallH.lent (ca) rfl ?_) | (refine CallH.own (ca) ?_)
    all_goals apply hr
    all_goals simp [Try.f7]
  obtain ⟨p, rfl⟩ : ∃ p : Nat, a = p := ⟨a.toNat, by omega⟩
  have hp : p ≤ b.length := by omega
  have c1 := readTx b p (by omega)
  have c2 := readSt b p (by omega)
  have c3 := readMs b p (by omega)
  obtain ⟨cs1, k1, e1, o1, r1, l1, t1⟩ := rT_open fTx_L b p
  obtain ⟨cs2, k2, e2, o2, r2, l2, t2⟩ := rT_open fSt_L b p
  obtain ⟨cs3, k3, e3, o3, r3, l3, t3⟩ := rT_open fMs_L b p
  rw [r1] at c1
  rw [r2] at c2
  rw [r3] at c3
  clear r1 r2 r3
  obtain ⟨u0, u1, u2, u3, u4, u5, u6, u7, rfl, -⟩ := fTx_sh o1
  obtain ⟨v0, v1, v2, v3, v4, v5, v6, v7, v8, rfl, -⟩ := fSt_sh o2
  obtain ⟨w0, w1, w2, w3, w4, w5, w6, w7, w8, w9, w10, w11, w12, w13, w14, w15, w16, w17, w18, w19, w20, w21, w22, w23, w24, w25, w26, w27, w28, w29, w30, w31, w32, w33, w34, w35, w36, w37, w38, w39, w40, w41, w42, w43, w44, w45, rfl, -⟩ := fMs_sh o3
  simp only [vOf2, Int.toNat_natCast] at *
  have d0 := by8_take b p
  have d0l : (b.take p).length ≤ 3000 := by rw [List.length_take]; omega
  have q1 : e1 = 0 → ∃ r z : Nat, k1 = z ∧ z ≤ b.length ∧ ACon Try.prog 12 [.p (.sl 1 (by8 (b.take p))), .p (.agg [I u0, I u1, I u2, I u3, I u4, I u5, SB u6, .sl 11 u7])] (.p (.sl 1 (by8 (b.take z)))) := fun h => by
    obtain ⟨-, -, g3, g4⟩ := t1 h
    have h0 := t1 h
    refine ⟨0, k1.toNat, by omega, by omega, ?_⟩
    have := putTx (b.take p) _ o1 (by rw [g4, List.length_take]; omega)
    rw [g4] at this
    exact this
  have q2 : e2 = 0 → ∃ r z : Nat, k2 = z ∧ z ≤ b.length ∧ ACon Try.prog 14 [.p (.sl 1 (by8 (b.take p))), .p (.agg [.sl 5 v0, .sl 1 v1, I v2, I v3, I v4, I v5, .sl 4 v6, I v7, I v8])] (.p (.sl 1 (by8 (b.take z)))) := fun h => by
    obtain ⟨-, -, g3, g4⟩ := t2 h
    have h0 := t2 h
    refine ⟨0, k2.toNat, by omega, by omega, ?_⟩
    have := putSt (b.take p) _ o2 (by rw [g4, List.length_take]; omega)
    rw [g4] at this
    exact this
  have q3 : e3 = 0 → ∃ r z : Nat, k3 = z ∧ z ≤ b.length ∧ ACon Try.prog 21 [.p (.sl 1 (by8 (b.take p))), .p (.agg [I w0, I w1, I w2, I w3, I w4, I w5, I w6, I w7, I w8, I w9, I w10, I w11, I w12, I w13, .sl 2 w14, I w15, I w16, I w17, .sl 5 w18, .sl 1 w19, I w20, I w21, I w22, I w23, .sl 4 w24, I w25, I w26, .sl 8 w27, I w28, I w29, I w30, I w31, I w32, I w33, SB w34, .sl 11 w35, .sl 1 w36, I w37, I w38, I w39, .sl 6 w40, I w41, .sl 4 w42, .sl 1 w43, I w44, I w45])] (.p (.sl 1 (by8 (b.take z)))) := fun h => by
    obtain ⟨-, -, g3, g4⟩ := t3 h
    have h0 := t3 h
    refine ⟨0, k3.toNat, by omega, by omega, ?_⟩
    have := putMs (b.take p) _ o3 (by rw [g4, List.length_take]; omega)
    rw [g4] at this
    exact this
  clear t1 t2 t3 l1 l2 l3 o1 o2 o3
  have hp' : (p : Int) ≤ b.length := by omega
  by_cases z1 : e1 = 0
  · obtain ⟨-, p1, rfl, w1, y1⟩ := q1 z1
    subst z1
    have d1 := by8_take b p1
    by_cases z2 : e2 = 0
    · obtain ⟨-, p2, rfl, w2, y2⟩ := q2 z2
      subst z2
      have d2 := by8_take b p2
      by_cases z3 : e3 = 0
      · obtain ⟨-, p3, rfl, w3, y3⟩ := q3 z3
        subst z3
        have d3 := by8_take b p3
        refine wBody Try.tab Try.mixed Try.func7 rfl rfl Try.ntmps7 (by simp) (by simp) fun Q hr hn => ?_
        repeat' first | (refine hK _ ?_; clear hK) | (refine hK _ _ ?_; clear hK) | (clear hK; refine hK _ ?_; clear hK) | (clear hK; clear hK; refine hK _ ?_; clear hK) | (clear hK; clear hK; clear hK; refine hK _ ?_; clear hK) | (clear hK; clear hK; clear hK; clear hK; refine hK _ ?_; clear hK) | (refine wSeq fun K hK => ?_) | ((first | refine wReg ?_ | refine wDrwQ rfl (by kernel_rfl) ?_ | refine wDrwI ?_ | refine wDrw (by kernel_rfl) ?_); simp only [List.map_cons, List.map_nil, strip]) | ((first | refine wIs fun K hK => ?_ | refine wOs fun K hK => ?_ | refine wQs fun K hK => ?_ | refine CallK_plain ?_ | refine CallQ_plain ?_ | refine CallR_plain ?_ | refine wCond ?_); simp [h1, h2, hp, hp', d0, unL_by8, strOf_by8, d1, w1, d2, w2, d3, w3]) | (refine wIn ?_; refine And.intro (by kernel_rfl) ?_; try simp only [thenA_n]) | (first | refine wBlock ?_ | refine wScope ?_) | ((first | refine wRet ?_ | refine wExit ?_ | refine wSkip ?_); try simp) | ((first | refine wLabel ?_ | refine wOn ?_ | refine wQn ?_); try simp only [thenA_n]) | (refine CallE.pure (cb) rfl ?_) | (refine CallE.lent (cb) rfl ?_) | (refine CallF.pure (cb) rfl ?_) | (refine CallF.lent (cb) rfl ?_) | (refine CallE.own (cb) ?_) | (refine CallH.pure (cb) rfl ?_) | (refine CallH.lent (cb) rfl ?_) | (refine CallH.own (cb) ?_) | (refine CallE.pure (c1) rfl ?_) | (refine CallE.lent (c1) rfl ?_) | (refine CallF.pure (c1) rfl ?_) | (refine CallF.lent (c1) rfl ?_) | (refine CallE.own (c1) ?_) | (refine CallH.pure (c1) rfl ?_) | (refine CallH.lent (c1) rfl ?_) | (refine CallH.own (c1) ?_) | (refine CallE.pure (c2) rfl ?_) | (refine CallE.lent (c2) rfl ?_) | (refine CallF.pure (c2) rfl ?_) | (refine CallF.lent (c2) rfl ?_) | (refine CallE.own (c2) ?_) | (refine CallH.pure (c2) rfl ?_) | (refine CallH.lent (c2) rfl ?_) | (refine CallH.own (c2) ?_) | (refine CallE.pure (c3) rfl ?_) | (refine CallE.lent (c3) rfl ?_) | (refine CallF.pure (c3) rfl ?_) | (refine CallF.lent (c3) rfl ?_) | (refine CallE.own (c3) ?_) | (refine CallH.pure (c3) rfl ?_) | (refine CallH.lent (c3) rfl ?_) | (refine CallH.own (c3) ?_) | (refine CallE.pure (y1) rfl ?_) | (refine CallE.lent (y1) rfl ?_) | (refine CallF.pure (y1) rfl ?_) | (refine CallF.lent (y1) rfl ?_) | (refine CallE.own (y1) ?_) | (refine CallH.pure (y1) rfl ?_) | (refine CallH.lent (y1) rfl ?_) | (refine CallH.own (y1) ?_) | (refine CallE.pure (y2) rfl ?_) | (refine CallE.lent (y2) rfl ?_) | (refine CallF.pure (y2) rfl ?_) | (refine CallF.lent (y2) rfl ?_) | (refine CallE.own (y2) ?_) | (refine CallH.pure (y2) rfl ?_) | (refine CallH.lent (y2) rfl ?_) | (refine CallH.own (y2) ?_) | (refine CallE.pure (y3) rfl ?_) | (refine CallE.lent (y3) rfl ?_) | (refine CallF.pure (y3) rfl ?_) | (refine CallF.lent (y3) rfl ?_) | (refine CallE.own (y3) ?_) | (refine CallH.pure (y3) rfl ?_) | (refine CallH.lent (y3) rfl ?_) | (refine CallH.own (y3) ?_) | (refine CallE.pure (ca) rfl ?_) | (refine CallE.lent (ca) rfl ?_) | (refine CallF.pure (ca) rfl ?_) | (refine CallF.lent (ca) rfl ?_) | (refine CallE.own (ca) ?_) | (refine CallH.pure (ca) rfl ?_) | (refine CallH.lent (ca) rfl ?_) | (refine CallH.own (ca) ?_)
        all_goals apply hr
        all_goals simp [Try.f7]
      · clear q3
        refine wBody Try.tab Try.mixed Try.func7 rfl rfl Try.ntmps7 (by simp) (by simp) fun Q hr hn => ?_
        repeat' first | (refine hK _ ?_; clear hK) | (refine hK _ _ ?_; clear hK) | (clear hK; refine hK _ ?_; clear hK) | (clear hK; clear hK; refine hK _ ?_; clear hK) | (clear hK; clear hK; clear hK; refine hK _ ?_; clear hK) | (clear hK; clear hK; clear hK; clear hK; refine hK _ ?_; clear hK) | (refine wSeq fun K hK => ?_) | ((first | refine wReg ?_ | refine wDrwQ rfl (by kernel_rfl) ?_ | refine wDrwI ?_ | refine wDrw (by kernel_rfl) ?_); simp only [List.map_cons, List.map_nil, strip]) | ((first | refine wIs fun K hK => ?_ | refine wOs fun K hK => ?_ | refine wQs fun K hK => ?_ | refine CallK_plain ?_ | refine CallQ_plain ?_ | refine CallR_plain ?_ | refine wCond ?_); simp [h1, h2, hp, hp', d0, unL_by8, strOf_by8, d1, w1, d2, w2, z3]) | (refine wIn ?_; refine And.intro (by kernel_rfl) ?_; try simp only [thenA_n]) | (first | refine wBlock ?_ | refine wScope ?_) | ((first | refine wRet ?_ | refine wExit ?_ | refine wSkip ?_); try simp) | ((first | refine wLabel ?_ | refine wOn ?_ | refine wQn ?_); try simp only [thenA_n]) | (refine CallE.pure (cb) rfl ?_) | (refine CallE.lent (cb) rfl ?_) | (refine CallF.pure (cb) rfl ?_) | (refine CallF.lent (cb) rfl ?_) | (refine CallE.own (cb) ?_) | (refine CallH.pure (cb) rfl ?_) | (refine CallH.lent (cb) rfl ?_) | (refine CallH.own (cb) ?_) | (refine CallE.pure (c1) rfl ?_) | (refine CallE.lent (c1) rfl ?_) | (refine CallF.pure (c1) rfl ?_) | (refine CallF.lent (c1) rfl ?_) | (refine CallE.own (c1) ?_) | (refine CallH.pure (c1) rfl ?_) | (refine CallH.lent (c1) rfl ?_) | (refine CallH.own (c1) ?_) | (refine CallE.pure (c2) rfl ?_) | (refine CallE.lent (c2) rfl ?_) | (refine CallF.pure (c2) rfl ?_) | (refine CallF.lent (c2) rfl ?_) | (refine CallE.own (c2) ?_) | (refine CallH.pure (c2) rfl ?_) | (refine CallH.lent (c2) rfl ?_) | (refine CallH.own (c2) ?_) | (refine CallE.pure (c3) rfl ?_) | (refine CallE.lent (c3) rfl ?_) | (refine CallF.pure (c3) rfl ?_) | (refine CallF.lent (c3) rfl ?_) | (refine CallE.own (c3) ?_) | (refine CallH.pure (c3) rfl ?_) | (refine CallH.lent (c3) rfl ?_) | (refine CallH.own (c3) ?_) | (refine CallE.pure (y1) rfl ?_) | (refine CallE.lent (y1) rfl ?_) | (refine CallF.pure (y1) rfl ?_) | (refine CallF.lent (y1) rfl ?_) | (refine CallE.own (y1) ?_) | (refine CallH.pure (y1) rfl ?_) | (refine CallH.lent (y1) rfl ?_) | (refine CallH.own (y1) ?_) | (refine CallE.pure (y2) rfl ?_) | (refine CallE.lent (y2) rfl ?_) | (refine CallF.pure (y2) rfl ?_) | (refine CallF.lent (y2) rfl ?_) | (refine CallE.own (y2) ?_) | (refine CallH.pure (y2) rfl ?_) | (refine CallH.lent (y2) rfl ?_) | (refine CallH.own (y2) ?_) | (refine CallE.pure (ca) rfl ?_) | (refine CallE.lent (ca) rfl ?_) | (refine CallF.pure (ca) rfl ?_) | (refine CallF.lent (ca) rfl ?_) | (refine CallE.own (ca) ?_) | (refine CallH.pure (ca) rfl ?_) | (refine CallH.lent (ca) rfl ?_) | (refine CallH.own (ca) ?_)
        all_goals apply hr
        all_goals simp [Try.f7]
    · clear q2
      by_cases z3 : e3 = 0
      · obtain ⟨-, p3, rfl, w3, y3⟩ := q3 z3
        subst z3
        have d3 := by8_take b p3
        refine wBody Try.tab Try.mixed Try.func7 rfl rfl Try.ntmps7 (by simp) (by simp) fun Q hr hn => ?_
        repeat' first | (refine hK _ ?_; clear hK) | (refine hK _ _ ?_; clear hK) | (clear hK; refine hK _ ?_; clear hK) | (clear hK; clear hK; refine hK _ ?_; clear hK) | (clear hK; clear hK; clear hK; refine hK _ ?_; clear hK) | (clear hK; clear hK; clear hK; clear hK; refine hK _ ?_; clear hK) | (refine wSeq fun K hK => ?_) | ((first | refine wReg ?_ | refine wDrwQ rfl (by kernel_rfl) ?_ | refine wDrwI ?_ | refine wDrw (by kernel_rfl) ?_); simp only [List.map_cons, List.map_nil, strip]) | ((first | refine wIs fun K hK => ?_ | refine wOs fun K hK => ?_ | refine wQs fun K hK => ?_ | refine CallK_plain ?_ | refine CallQ_plain ?_ | refine CallR_plain ?_ | refine wCond ?_); simp [h1, h2, hp, hp', d0, unL_by8, strOf_by8, d1, w1, z2, d3, w3]) | (refine wIn ?_; refine And.intro (by kernel_rfl) ?_; try simp only [thenA_n]) | (first | refine wBlock ?_ | refine wScope ?_) | ((first | refine wRet ?_ | refine wExit ?_ | refine wSkip ?_); try simp) | ((first | refine wLabel ?_ | refine wOn ?_ | refine wQn ?_); try simp only [thenA_n]) | (refine CallE.pure (cb) rfl ?_) | (refine CallE.lent (cb) rfl ?_) | (refine CallF.pure (cb) rfl ?_) | (refine CallF.lent (cb) rfl ?_) | (refine CallE.own (cb) ?_) | (refine CallH.pure (cb) rfl ?_) | (refine CallH.lent (cb) rfl ?_) | (refine CallH.own (cb) ?_) | (refine CallE.pure (c1) rfl ?_) | (refine CallE.lent (c1) rfl ?_) | (refine CallF.pure (c1) rfl ?_) | (refine CallF.lent (c1) rfl ?_) | (refine CallE.own (c1) ?_) | (refine CallH.pure (c1) rfl ?_) | (refine CallH.lent (c1) rfl ?_) | (refine CallH.own (c1) ?_) | (refine CallE.pure (c2) rfl ?_) | (refine CallE.lent (c2) rfl ?_) | (refine CallF.pure (c2) rfl ?_) | (refine CallF.lent (c2) rfl ?_) | (refine CallE.own (c2) ?_) | (refine CallH.pure (c2) rfl ?_) | (refine CallH.lent (c2) rfl ?_) | (refine CallH.own (c2) ?_) | (refine CallE.pure (c3) rfl ?_) | (refine CallE.lent (c3) rfl ?_) | (refine CallF.pure (c3) rfl ?_) | (refine CallF.lent (c3) rfl ?_) | (refine CallE.own (c3) ?_) | (refine CallH.pure (c3) rfl ?_) | (refine CallH.lent (c3) rfl ?_) | (refine CallH.own (c3) ?_) | (refine CallE.pure (y1) rfl ?_) | (refine CallE.lent (y1) rfl ?_) | (refine CallF.pure (y1) rfl ?_) | (refine CallF.lent (y1) rfl ?_) | (refine CallE.own (y1) ?_) | (refine CallH.pure (y1) rfl ?_) | (refine CallH.lent (y1) rfl ?_) | (refine CallH.own (y1) ?_) | (refine CallE.pure (y3) rfl ?_) | (refine CallE.lent (y3) rfl ?_) | (refine CallF.pure (y3) rfl ?_) | (refine CallF.lent (y3) rfl ?_) | (refine CallE.own (y3) ?_) | (refine CallH.pure (y3) rfl ?_) | (refine CallH.lent (y3) rfl ?_) | (refine CallH.own (y3) ?_) | (refine CallE.pure (ca) rfl ?_) | (refine CallE.lent (ca) rfl ?_) | (refine CallF.pure (ca) rfl ?_) | (refine CallF.lent (ca) rfl ?_) | (refine CallE.own (ca) ?_) | (refine CallH.pure (ca) rfl ?_) | (refine CallH.lent (ca) rfl ?_) | (refine CallH.own (ca) ?_)
        all_goals apply hr
        all_goals simp [Try.f7]
      · clear q3
        refine wBody Try.tab Try.mixed Try.func7 rfl rfl Try.ntmps7 (by simp) (by simp) fun Q hr hn => ?_
        repeat' first | (refine hK _ ?_; clear hK) | (refine hK _ _ ?_; clear hK) | (clear hK; refine hK _ ?_; clear hK) | (clear hK; clear hK; refine hK _ ?_; clear hK) | (clear hK; clear hK; clear hK; refine hK _ ?_; clear hK) | (clear hK; clear hK; clear hK; clear hK; refine hK _ ?_; clear hK) | (refine wSeq fun K hK => ?_) | ((first | refine wReg ?_ | refine wDrwQ rfl (by kernel_rfl) ?_ | refine wDrwI ?_ | refine wDrw (by kernel_rfl) ?_); simp only [List.map_cons, List.map_nil, strip]) | ((first | refine wIs fun K hK => ?_ | refine wOs fun K hK => ?_ | refine wQs fun K hK => ?_ | refine CallK_plain ?_ | refine CallQ_plain ?_ | refine CallR_plain ?_ | refine wCond ?_); simp [h1, h2, hp, hp', d0, unL_by8, strOf_by8, d1, w1, z2, z3]) | (refine wIn ?_; refine And.intro (by kernel_rfl) ?_; try simp only [thenA_n]) | (first | refine wBlock ?_ | refine wScope ?_) | ((first | refine wRet ?_ | refine wExit ?_ | refine wSkip ?_); try simp) | ((first | refine wLabel ?_ | refine wOn ?_ | refine wQn ?_); try simp only [thenA_n]) | (refine CallE.pure (cb) rfl ?_) | (refine CallE.lent (cb) rfl ?_) | (refine CallF.pure (cb) rfl ?_) | (refine CallF.lent (cb) rfl ?_) | (refine CallE.own (cb) ?_) | (refine CallH.pure (cb) rfl ?_) | (refine CallH.lent (cb) rfl ?_) | (refine CallH.own (cb) ?_) | (refine CallE.pure (c1) rfl ?_) | (refine CallE.lent (c1) rfl ?_) | (refine CallF.pure (c1) rfl ?_) | (refine CallF.lent (c1) rfl ?_) | (refine CallE.own (c1) ?_) | (refine CallH.pure (c1) rfl ?_) | (refine CallH.lent (c1) rfl ?_) | (refine CallH.own (c1) ?_) | (refine CallE.pure (c2) rfl ?_) | (refine CallE.lent (c2) rfl ?_) | (refine CallF.pure (c2) rfl ?_) | (refine CallF.lent (c2) rfl ?_) | (refine CallE.own (c2) ?_) | (refine CallH.pure (c2) rfl ?_) | (refine CallH.lent (c2) rfl ?_) | (refine CallH.own (c2) ?_) | (refine CallE.pure (c3) rfl ?_) | (refine CallE.lent (c3) rfl ?_) | (refine CallF.pure (c3) rfl ?_) | (refine CallF.lent (c3) rfl ?_) | (refine CallE.own (c3) ?_) | (refine CallH.pure (c3) rfl ?_) | (refine CallH.lent (c3) rfl ?_) | (refine CallH.own (c3) ?_) | (refine CallE.pure (y1) rfl ?_) | (refine CallE.lent (y1) rfl ?_) | (refine CallF.pure (y1) rfl ?_) | (refine CallF.lent (y1) rfl ?_) | (refine CallE.own (y1) ?_) | (refine CallH.pure (y1) rfl ?_) | (refine CallH.lent (y1) rfl ?_) | (refine CallH.own (y1) ?_) | (refine CallE.pure (ca) rfl ?_) | (refine CallE.lent (ca) rfl ?_) | (refine CallF.pure (ca) rfl ?_) | (refine CallF.lent (ca) rfl ?_) | (refine CallE.own (ca) ?_) | (refine CallH.pure (ca) rfl ?_) | (refine CallH.lent (ca) rfl ?_) | (refine CallH.own (ca) ?_)
        all_goals apply hr
        all_goals simp [Try.f7]
  · clear q1
    by_cases z2 : e2 = 0
    · obtain ⟨-, p2, rfl, w2, y2⟩ := q2 z2
      subst z2
      have d2 := by8_take b p2
      by_cases z3 : e3 = 0
      · obtain ⟨-, p3, rfl, w3, y3⟩ := q3 z3
        subst z3
        have d3 := by8_take b p3
        refine wBody Try.tab Try.mixed Try.func7 rfl rfl Try.ntmps7 (by simp) (by simp) fun Q hr hn => ?_
        repeat' first | (refine hK _ ?_; clear hK) | (refine hK _ _ ?_; clear hK) | (clear hK; refine hK _ ?_; clear hK) | (clear hK; clear hK; refine hK _ ?_; clear hK) | (clear hK; clear hK; clear hK; refine hK _ ?_; clear hK) | (clear hK; clear hK; clear hK; clear hK; refine hK _ ?_; clear hK) | (refine wSeq fun K hK => ?_) | ((first | refine wReg ?_ | refine wDrwQ rfl (by kernel_rfl) ?_ | refine wDrwI ?_ | refine wDrw (by kernel_rfl) ?_); simp only [List.map_cons, List.map_nil, strip]) | ((first | refine wIs fun K hK => ?_ | refine wOs fun K hK => ?_ | refine wQs fun K hK => ?_ | refine CallK_plain ?_ | refine CallQ_plain ?_ | refine CallR_plain ?_ | refine wCond ?_); simp [h1, h2, hp, hp', d0, unL_by8, strOf_by8, z1, d2, w2, d3, w3]) | (refine wIn ?_; refine And.intro (by kernel_rfl) ?_; try simp only [thenA_n]) | (first | refine wBlock ?_ | refine wScope ?_) | ((first | refine wRet ?_ | refine wExit ?_ | refine wSkip ?_); try simp) | ((first | refine wLabel ?_ | refine wOn ?_ | refine wQn ?_); try simp only [thenA_n]) | (refine CallE.pure (cb) rfl ?_) | (refine CallE.lent (cb) rfl ?_) | (refine CallF.pure (cb) rfl ?_) | (refine CallF.lent (cb) rfl ?_) | (refine CallE.own (cb) ?_) | (refine CallH.pure (cb) rfl ?_) | (refine CallH.lent (cb) rfl ?_) | (refine CallH.own (cb) ?_) | (refine CallE.pure (c1) rfl ?_) | (refine CallE.lent (c1) rfl ?_) | (refine CallF.pure (c1) rfl ?_) | (refine CallF.lent (c1) rfl ?_) | (refine CallE.own (c1) ?_) | (refine CallH.pure (c1) rfl ?_) | (refine CallH.lent (c1) rfl ?_) | (refine CallH.own (c1) ?_) | (refine CallE.pure (c2) rfl ?_) | (refine CallE.lent (c2) rfl ?_) | (refine CallF.pure (c2) rfl ?_) | (refine CallF.lent (c2) rfl ?_) | (refine CallE.own (c2) ?_) | (refine CallH.pure (c2) rfl ?_) | (refine CallH.lent (c2) rfl ?_) | (refine CallH.own (c2) ?_) | (refine CallE.pure (c3) rfl ?_) | (refine CallE.lent (c3) rfl ?_) | (refine CallF.pure (c3) rfl ?_) | (refine CallF.lent (c3) rfl ?_) | (refine CallE.own (c3) ?_) | (refine CallH.pure (c3) rfl ?_) | (refine CallH.lent (c3) rfl ?_) | (refine CallH.own (c3) ?_) | (refine CallE.pure (y2) rfl ?_) | (refine CallE.lent (y2) rfl ?_) | (refine CallF.pure (y2) rfl ?_) | (refine CallF.lent (y2) rfl ?_) | (refine CallE.own (y2) ?_) | (refine CallH.pure (y2) rfl ?_) | (refine CallH.lent (y2) rfl ?_) | (refine CallH.own (y2) ?_) | (refine CallE.pure (y3) rfl ?_) | (refine CallE.lent (y3) rfl ?_) | (refine CallF.pure (y3) rfl ?_) | (refine CallF.lent (y3) rfl ?_) | (refine CallE.own (y3) ?_) | (refine CallH.pure (y3) rfl ?_) | (refine CallH.lent (y3) rfl ?_) | (refine CallH.own (y3) ?_) | (refine CallE.pure (ca) rfl ?_) | (refine CallE.lent (ca) rfl ?_) | (refine CallF.pure (ca) rfl ?_) | (refine CallF.lent (ca) rfl ?_) | (refine CallE.own (ca) ?_) | (refine CallH.pure (ca) rfl ?_) | (refine CallH.lent (ca) rfl ?_) | (refine CallH.own (ca) ?_)
        all_goals apply hr
        all_goals simp [Try.f7]
      · clear q3
        refine wBody Try.tab Try.mixed Try.func7 rfl rfl Try.ntmps7 (by simp) (by simp) fun Q hr hn => ?_
        repeat' first | (refine hK _ ?_; clear hK) | (refine hK _ _ ?_; clear hK) | (clear hK; refine hK _ ?_; clear hK) | (clear hK; clear hK; refine hK _ ?_; clear hK) | (clear hK; clear hK; clear hK; refine hK _ ?_; clear hK) | (clear hK; clear hK; clear hK; clear hK; refine hK _ ?_; clear hK) | (refine wSeq fun K hK => ?_) | ((first | refine wReg ?_ | refine wDrwQ rfl (by kernel_rfl) ?_ | refine wDrwI ?_ | refine wDrw (by kernel_rfl) ?_); simp only [List.map_cons, List.map_nil, strip]) | ((first | refine wIs fun K hK => ?_ | refine wOs fun K hK => ?_ | refine wQs fun K hK => ?_ | refine CallK_plain ?_ | refine CallQ_plain ?_ | refine CallR_plain ?_ | refine wCond ?_); simp [h1, h2, hp, hp', d0, unL_by8, strOf_by8, z1, d2, w2, z3]) | (refine wIn ?_; refine And.intro (by kernel_rfl) ?_; try simp only [thenA_n]) | (first | refine wBlock ?_ | refine wScope ?_) | ((first | refine wRet ?_ | refine wExit ?_ | refine wSkip ?_); try simp) | ((first | refine wLabel ?_ | refine wOn ?_ | refine wQn ?_); try simp only [thenA_n]) | (refine CallE.pure (cb) rfl ?_) | (refine CallE.lent (cb) rfl ?_) | (refine CallF.pure (cb) rfl ?_) | (refine CallF.lent (cb) rfl ?_) | (refine CallE.own (cb) ?_) | (refine CallH.pure (cb) rfl ?_) | (refine CallH.lent (cb) rfl ?_) | (refine CallH.own (cb) ?_) | (refine CallE.pure (c1) rfl ?_) | (refine CallE.lent (c1) rfl ?_) | (refine CallF.pure (c1) rfl ?_) | (refine CallF.lent (c1) rfl ?_) | (refine CallE.own (c1) ?_) | (refine CallH.pure (c1) rfl ?_) | (refine CallH.lent (c1) rfl ?_) | (refine CallH.own (c1) ?_) | (refine CallE.pure (c2) rfl ?_) | (refine CallE.lent (c2) rfl ?_) | (refine CallF.pure (c2) rfl ?_) | (refine CallF.lent (c2) rfl ?_) | (refine CallE.own (c2) ?_) | (refine CallH.pure (c2) rfl ?_) | (refine CallH.lent (c2) rfl ?_) | (refine CallH.own (c2) ?_) | (refine CallE.pure (c3) rfl ?_) | (refine CallE.lent (c3) rfl ?_) | (refine CallF.pure (c3) rfl ?_) | (refine CallF.lent (c3) rfl ?_) | (refine CallE.own (c3) ?_) | (refine CallH.pure (c3) rfl ?_) | (refine CallH.lent (c3) rfl ?_) | (refine CallH.own (c3) ?_) | (refine CallE.pure (y2) rfl ?_) | (refine CallE.lent (y2) rfl ?_) | (refine CallF.pure (y2) rfl ?_) | (refine CallF.lent (y2) rfl ?_) | (refine CallE.own (y2) ?_) | (refine CallH.pure (y2) rfl ?_) | (refine CallH.lent (y2) rfl ?_) | (refine CallH.own (y2) ?_) | (refine CallE.pure (ca) rfl ?_) | (refine CallE.lent (ca) rfl ?_) | (refine CallF.pure (ca) rfl ?_) | (refine CallF.lent (ca) rfl ?_) | (refine CallE.own (ca) ?_) | (refine CallH.pure (ca) rfl ?_) | (refine CallH.lent (ca) rfl ?_) | (refine CallH.own (ca) ?_)
        all_goals apply hr
        all_goals simp [Try.f7]
    · clear q2
      by_cases z3 : e3 = 0
      · obtain ⟨-, p3, rfl, w3, y3⟩ := q3 z3
        subst z3
        have d3 := by8_take b p3
        refine wBody Try.tab Try.mixed Try.func7 rfl rfl Try.ntmps7 (by simp) (by simp) fun Q hr hn => ?_
        repeat' first | (refine hK _ ?_; clear hK) | (refine hK _ _ ?_; clear hK) | (clear hK; refine hK _ ?_; clear hK) | (clear hK; clear hK; refine hK _ ?_; clear hK) | (clear hK; clear hK; clear hK; refine hK _ ?_; clear hK) | (clear hK; clear hK; clear hK; clear hK; refine hK _ ?_; clear hK) | (refine wSeq fun K hK => ?_) | ((first | refine wReg ?_ | refine wDrwQ rfl (by kernel_rfl) ?_ | refine wDrwI ?_ | refine wDrw (by kernel_rfl) ?_); simp only [List.map_cons, List.map_nil, strip]) | ((first | refine wIs fun K hK => ?_ | refine wOs fun K hK => ?_ | refine wQs fun K hK => ?_ | refine CallK_plain ?_ | refine CallQ_plain ?_ | refine CallR_plain ?_ | refine wCond ?_); simp [h1, h2, hp, hp', d0, unL_by8, strOf_by8, z1, z2, d3, w3]) | (refine wIn ?_; refine And.intro (by kernel_rfl) ?_; try simp only [thenA_n]) | (first | refine wBlock ?_ | refine wScope ?_) | ((first | refine wRet ?_ | refine wExit ?_ | refine wSkip ?_); try simp) | ((first | refine wLabel ?_ | refine wOn ?_ | refine wQn ?_); try simp only [thenA_n]) | (refine CallE.pure (cb) rfl ?_) | (refine CallE.lent (cb) rfl ?_) | (refine CallF.pure (cb) rfl ?_) | (refine CallF.lent (cb) rfl ?_) | (refine CallE.own (cb) ?_) | (refine CallH.pure (cb) rfl ?_) | (refine CallH.lent (cb) rfl ?_) | (refine CallH.own (cb) ?_) | (refine CallE.pure (c1) rfl ?_) | (refine CallE.lent (c1) rfl ?_) | (refine CallF.pure (c1) rfl ?_) | (refine CallF.lent (c1) rfl ?_) | (refine CallE.own (c1) ?_) | (refine CallH.pure (c1) rfl ?_) | (refine CallH.lent (c1) rfl ?_) | (refine CallH.own (c1) ?_) | (refine CallE.pure (c2) rfl ?_) | (refine CallE.lent (c2) rfl ?_) | (refine CallF.pure (c2) rfl ?_) | (refine CallF.lent (c2) rfl ?_) | (refine CallE.own (c2) ?_) | (refine CallH.pure (c2) rfl ?_) | (refine CallH.lent (c2) rfl ?_) | (refine CallH.own (c2) ?_) | (refine CallE.pure (c3) rfl ?_) | (refine CallE.lent (c3) rfl ?_) | (refine CallF.pure (c3) rfl ?_) | (refine CallF.lent (c3) rfl ?_) | (refine CallE.own (c3) ?_) | (refine CallH.pure (c3) rfl ?_) | (refine CallH.lent (c3) rfl ?_) | (refine CallH.own (c3) ?_) | (refine CallE.pure (y3) rfl ?_) | (refine CallE.lent (y3) rfl ?_) | (refine CallF.pure (y3) rfl ?_) | (refine CallF.lent (y3) rfl ?_) | (refine CallE.own (y3) ?_) | (refine CallH.pure (y3) rfl ?_) | (refine CallH.lent (y3) rfl ?_) | (refine CallH.own (y3) ?_) | (refine CallE.pure (ca) rfl ?_) | (refine CallE.lent (ca) rfl ?_) | (refine CallF.pure (ca) rfl ?_) | (refine CallF.lent (ca) rfl ?_) | (refine CallE.own (ca) ?_) | (refine CallH.pure (ca) rfl ?_) | (refine CallH.lent (ca) rfl ?_) | (refine CallH.own (ca) ?_)
        all_goals apply hr
        all_goals simp [Try.f7]
      · clear q3
        refine wBody Try.tab Try.mixed Try.func7 rfl rfl Try.ntmps7 (by simp) (by simp) fun Q hr hn => ?_
        repeat' first | (refine hK _ ?_; clear hK) | (refine hK _ _ ?_; clear hK) | (clear hK; refine hK _ ?_; clear hK) | (clear hK; clear hK; refine hK _ ?_; clear hK) | (clear hK; clear hK; clear hK; refine hK _ ?_; clear hK) | (clear hK; clear hK; clear hK; clear hK; refine hK _ ?_; clear hK) | (refine wSeq fun K hK => ?_) | ((first | refine wReg ?_ | refine wDrwQ rfl (by kernel_rfl) ?_ | refine wDrwI ?_ | refine wDrw (by kernel_rfl) ?_); simp only [List.map_cons, List.map_nil, strip]) | ((first | refine wIs fun K hK => ?_ | refine wOs fun K hK => ?_ | refine wQs fun K hK => ?_ | refine CallK_plain ?_ | refine CallQ_plain ?_ | refine CallR_plain ?_ | refine wCond ?_); simp [h1, h2, hp, hp', d0, unL_by8, strOf_by8, z1, z2, z3]) | (refine wIn ?_; refine And.intro (by kernel_rfl) ?_; try simp only [thenA_n]) | (first | refine wBlock ?_ | refine wScope ?_) | ((first | refine wRet ?_ | refine wExit ?_ | refine wSkip ?_); try simp) | ((first | refine wLabel ?_ | refine wOn ?_ | refine wQn ?_); try simp only [thenA_n]) | (refine CallE.pure (cb) rfl ?_) | (refine CallE.lent (cb) rfl ?_) | (refine CallF.pure (cb) rfl ?_) | (refine CallF.lent (cb) rfl ?_) | (refine CallE.own (cb) ?_) | (refine CallH.pure (cb) rfl ?_) | (refine CallH.lent (cb) rfl ?_) | (refine CallH.own (cb) ?_) | (refine CallE.pure (c1) rfl ?_) | (refine CallE.lent (c1) rfl ?_) | (refine CallF.pure (c1) rfl ?_) | (refine CallF.lent (c1) rfl ?_) | (refine CallE.own (c1) ?_) | (refine CallH.pure (c1) rfl ?_) | (refine CallH.lent (c1) rfl ?_) | (refine CallH.own (c1) ?_) | (refine CallE.pure (c2) rfl ?_) | (refine CallE.lent (c2) rfl ?_) | (refine CallF.pure (c2) rfl ?_) | (refine CallF.lent (c2) rfl ?_) | (refine CallE.own (c2) ?_) | (refine CallH.pure (c2) rfl ?_) | (refine CallH.lent (c2) rfl ?_) | (refine CallH.own (c2) ?_) | (refine CallE.pure (c3) rfl ?_) | (refine CallE.lent (c3) rfl ?_) | (refine CallF.pure (c3) rfl ?_) | (refine CallF.lent (c3) rfl ?_) | (refine CallE.own (c3) ?_) | (refine CallH.pure (c3) rfl ?_) | (refine CallH.lent (c3) rfl ?_) | (refine CallH.own (c3) ?_) | (refine CallE.pure (ca) rfl ?_) | (refine CallE.lent (ca) rfl ?_) | (refine CallF.pure (ca) rfl ?_) | (refine CallF.lent (ca) rfl ?_) | (refine CallE.own (ca) ?_) | (refine CallH.pure (ca) rfl ?_) | (refine CallH.lent (ca) rfl ?_) | (refine CallH.own (ca) ?_)
        all_goals apply hr
        all_goals simp [Try.f7]
end Go.Proofs.Ytleejpddecjhcaa
