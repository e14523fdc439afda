/- Texts that the proof needs: LN6. -/
import Derived.Test.YteicecbjahhjmaaP27Learn
/- Learners: begun, a message heard, a tick, a link lost. -/
namespace Go.Proofs.Yteicecbjahhjmaa
set_option linter.unusedSimpArgs false
set_option linter.unusedVariables false
set_option maxRecDepth 8000
open Go Go.Av
attribute [local simp] Try.T1 Try.T2 Try.T3 Try.T4 Try.T5 Try.T9 Try.T12 Try.T15 Try.T16 Try.T17 Try.T21 Try.T22 Try.T23 Try.T25 Try.T26 Try.T28 Try.T30 Try.T31 Try.T33 Try.T35 Try.T36 Try.T37 Try.T38 Try.T39 Try.T41 Try.T42 Try.T44 Try.T45 Try.T47 Try.T48 Try.T50 Try.T51 Try.T52 Try.T54 Try.T55 Try.T56 Try.T58 Try.T59 Try.T61 Try.T63 Try.T65 Try.T67 Try.T68 Try.T69 Try.T70 Try.T72 Try.T73 Try.T74 Try.T75 Try.T76 Try.T77 Try.T78 Try.T79 Try.T80 Try.T81 Try.T83 Try.T84 Try.T85 Try.T87 Try.T88 Try.T89 Try.T90 Try.T91 Try.T92 Try.T93 Try.T94 Try.T95 Try.T96 Try.T97 Try.T98 Try.T99 Try.T101 Try.T103 Try.T104 Try.T105 Try.T106 Try.T107 Try.T108 Try.T109 Try.T110 Try.T111 Try.T113 Try.T114 Try.T115 Try.T116 Try.T117 Try.T118 Try.T119 Try.T120 Try.T121 Try.T122 Try.T123 Try.T124 Try.T125 Try.T126 Try.T127 Try.T128 Try.T129 Try.T130 Try.T131 Try.T132 Try.T133 Try.T134 Try.T135 Try.T137 Try.T138 Try.T139 Try.T140 Try.T141 Try.T142 Try.T143 Try.T144 Try.T145 Try.T146 Try.T147 Try.T148 Try.T149 Try.T150 Try.T153 Try.T156 Try.T157 Try.T160 Try.T161 Try.T167
attribute [local irreducible] Go.Av.CallK Go.Av.CallE Go.Av.CallQ Go.Av.CallF Go.Av.CallR Go.Av.CallH Go.Av.Con
def hearOK (p : Lp) (m : Mg) : Prop := p.mo = 3 ∧ m.fr = p.ld ∧ (m.kd = 3 ∨ m.ep = p.ep)
instance (p : Lp) (m : Mg) : Decidable (hearOK p m) := by unfold hearOK; infer_instance
set_option maxHeartbeats 2000000 in
theorem hearN_con (p : Lp) (m : Mg) (hk : OkH p.h) (hf : ¬ hearOK p m) : ACon Try.prog 20 [.p (.agg p.cells), .p (.agg m.cells)] (.tup [.p (.agg p.cells), .p (.sl 46 []), .p (B true)]) := by
  have c1 := startL_con p hk
  have c2 := end0_con p false
  unfold hearOK at hf
  unfold sW sBx Mg.cells at *
  unfold Lp.cells at *
  by_cases f1 : p.mo = 3
  · have f1' : (p.mo = 3) = True := eq_true f1
    by_cases f2 : m.fr = p.ld
    · have f2' : (m.fr = p.ld) = True := eq_true f2
      have f3' : (m.kd = 3) = False := eq_false fun h => hf ⟨f1, f2, .inl h⟩
      have f4' : (m.ep = p.ep) = False := eq_false fun h => hf ⟨f1, f2, .inr h⟩
      refine wBody Try.tab Try.mixed Try.func20 rfl rfl Try.ntmps20 (by simp) (by simp) fun Q hr hn => ?_
      repeat' first | (refine CallK_gen [] (c1) (by decide) (by decide) (by simp [blksOf]) (by simp [argsG, argG, ren0, inN, pos, renCs, renC, toP, toPF]) ⟨[500], by simp, by simp, ?_⟩; simp [lv, ouN, kpI, kpR, pos, ren, ren0, renB, renC, renCs, renF, renFs]) | (refine CallK_gen [500] (c2) (by decide) (by decide) (by simp [blksOf, inN, pos, renB, renC, renCs, ren0, lv, ouN, kpI, kpR]) (by simp [argsG, argG, ren0, inN, pos, renCs, renC]) ⟨[], by simp, by simp, ?_⟩; simp [lv, ouN, kpI, kpR, pos, ren, ren0, renB, renC, renCs, renF, renFs]) | (refine hK _ ?_; clear hK) | (refine hK _ _ ?_; clear hK) | (clear hK; refine hK _ ?_; clear hK) | (clear hK; clear hK; refine hK _ ?_; clear hK) | (clear hK; clear hK; clear hK; refine hK _ ?_; clear hK) | (clear hK; clear hK; clear hK; clear hK; refine hK _ ?_; clear hK) | (refine wSeq fun K hK => ?_) | ((first | refine wReg ?_ | refine wDrwQ rfl (by kernel_rfl) ?_ | refine wDrwI ?_ | refine wDrw (by kernel_rfl) ?_); simp only [List.map_cons, List.map_nil, strip]) | ((first | refine wIs fun K hK => ?_ | refine wOs fun K hK => ?_ | refine wQs fun K hK => ?_ | refine CallK_plain ?_ | refine CallQ_plain ?_ | refine CallR_plain ?_ | refine wCond ?_); simp [lv, ouN, kpI, kpR, pos, ren, ren0, renB, renC, renCs, renF, renFs, f1', f2', f3', f4']) | (refine wIn ?_; refine And.intro (by kernel_rfl) ?_; try simp only [thenA_n]) | (first | refine wBlock ?_ | refine wScope ?_) | ((first | refine wRet ?_ | refine wExit ?_ | refine wSkip ?_); try simp) | ((first | refine wLabel ?_ | refine wOn ?_ | refine wQn ?_); try simp only [thenA_n])
      all_goals first | apply hn | apply hr
      all_goals simp [Try.f20, lv, ouN, kpI, kpR, pos, ren, ren0, renB, renC, renCs, renF, renFs]
    · have f2' : (m.fr = p.ld) = False := eq_false f2
      refine wBody Try.tab Try.mixed Try.func20 rfl rfl Try.ntmps20 (by simp) (by simp) fun Q hr hn => ?_
      repeat' first | (refine CallK_gen [] (c1) (by decide) (by decide) (by simp [blksOf]) (by simp [argsG, argG, ren0, inN, pos, renCs, renC, toP, toPF]) ⟨[500], by simp, by simp, ?_⟩; simp [lv, ouN, kpI, kpR, pos, ren, ren0, renB, renC, renCs, renF, renFs]) | (refine CallK_gen [500] (c2) (by decide) (by decide) (by simp [blksOf, inN, pos, renB, renC, renCs, ren0, lv, ouN, kpI, kpR]) (by simp [argsG, argG, ren0, inN, pos, renCs, renC]) ⟨[], by simp, by simp, ?_⟩; simp [lv, ouN, kpI, kpR, pos, ren, ren0, renB, renC, renCs, renF, renFs]) | (refine hK _ ?_; clear hK) | (refine hK _ _ ?_; clear hK) | (clear hK; refine hK _ ?_; clear hK) | (clear hK; clear hK; refine hK _ ?_; clear hK) | (clear hK; clear hK; clear hK; refine hK _ ?_; clear hK) | (clear hK; clear hK; clear hK; clear hK; refine hK _ ?_; clear hK) | (refine wSeq fun K hK => ?_) | ((first | refine wReg ?_ | refine wDrwQ rfl (by kernel_rfl) ?_ | refine wDrwI ?_ | refine wDrw (by kernel_rfl) ?_); simp only [List.map_cons, List.map_nil, strip]) | ((first | refine wIs fun K hK => ?_ | refine wOs fun K hK => ?_ | refine wQs fun K hK => ?_ | refine CallK_plain ?_ | refine CallQ_plain ?_ | refine CallR_plain ?_ | refine wCond ?_); simp [lv, ouN, kpI, kpR, pos, ren, ren0, renB, renC, renCs, renF, renFs, f1', f2']) | (refine wIn ?_; refine And.intro (by kernel_rfl) ?_; try simp only [thenA_n]) | (first | refine wBlock ?_ | refine wScope ?_) | ((first | refine wRet ?_ | refine wExit ?_ | refine wSkip ?_); try simp) | ((first | refine wLabel ?_ | refine wOn ?_ | refine wQn ?_); try simp only [thenA_n])
      all_goals first | apply hn | apply hr
      all_goals simp [Try.f20, lv, ouN, kpI, kpR, pos, ren, ren0, renB, renC, renCs, renF, renFs]
  · have f1' : (p.mo = 3) = False := eq_false f1
    refine wBody Try.tab Try.mixed Try.func20 rfl rfl Try.ntmps20 (by simp) (by simp) fun Q hr hn => ?_
    repeat' first | (refine CallK_gen [] (c1) (by decide) (by decide) (by simp [blksOf]) (by simp [argsG, argG, ren0, inN, pos, renCs, renC, toP, toPF]) ⟨[500], by simp, by simp, ?_⟩; simp [lv, ouN, kpI, kpR, pos, ren, ren0, renB, renC, renCs, renF, renFs]) | (refine CallK_gen [500] (c2) (by decide) (by decide) (by simp [blksOf, inN, pos, renB, renC, renCs, ren0, lv, ouN, kpI, kpR]) (by simp [argsG, argG, ren0, inN, pos, renCs, renC]) ⟨[], by simp, by simp, ?_⟩; simp [lv, ouN, kpI, kpR, pos, ren, ren0, renB, renC, renCs, renF, renFs]) | (refine hK _ ?_; clear hK) | (refine hK _ _ ?_; clear hK) | (clear hK; refine hK _ ?_; clear hK) | (clear hK; clear hK; refine hK _ ?_; clear hK) | (clear hK; clear hK; clear hK; refine hK _ ?_; clear hK) | (clear hK; clear hK; clear hK; clear hK; refine hK _ ?_; clear hK) | (refine wSeq fun K hK => ?_) | ((first | refine wReg ?_ | refine wDrwQ rfl (by kernel_rfl) ?_ | refine wDrwI ?_ | refine wDrw (by kernel_rfl) ?_); simp only [List.map_cons, List.map_nil, strip]) | ((first | refine wIs fun K hK => ?_ | refine wOs fun K hK => ?_ | refine wQs fun K hK => ?_ | refine CallK_plain ?_ | refine CallQ_plain ?_ | refine CallR_plain ?_ | refine wCond ?_); simp [lv, ouN, kpI, kpR, pos, ren, ren0, renB, renC, renCs, renF, renFs, f1']) | (refine wIn ?_; refine And.intro (by kernel_rfl) ?_; try simp only [thenA_n]) | (first | refine wBlock ?_ | refine wScope ?_) | ((first | refine wRet ?_ | refine wExit ?_ | refine wSkip ?_); try simp) | ((first | refine wLabel ?_ | refine wOn ?_ | refine wQn ?_); try simp only [thenA_n])
    all_goals first | apply hn | apply hr
    all_goals simp [Try.f20, lv, ouN, kpI, kpR, pos, ren, ren0, renB, renC, renCs, renF, renFs]
def tickP (p : Lp) : Lp := { p with wt := IntKind.i64.wrap (p.wt + 1) }
set_option maxHeartbeats 4000000 in
theorem lost_con (p : Lp) (n : Int) (hk : OkH p.h) : ACon Try.prog 29 [.p (.agg p.cells), .p (I n)] (.tup [.p (.agg p.cells), .p (.sl 46 []), .p (B (!decide (p.mo = 3 ∧ n = p.ld)))]) := by
  have c1 := startL_con p hk
  by_cases f1 : p.mo = 3
  · by_cases f2 : n = p.ld
    · rw [decide_eq_true ⟨f1, f2⟩]
      have c2 := end0_con p true
      have f1' : (p.mo = 3) = True := eq_true f1
      have f2' : (n = p.ld) = True := eq_true f2
      unfold sW sBx Lp.cells at *
      refine wBody Try.tab Try.mixed Try.func29 rfl rfl Try.ntmps29 (by simp) (by simp) fun Q hr hn => ?_
      repeat' first | (refine CallK_gen [] (c1) (by decide) (by decide) (by simp [blksOf]) (by simp [argsG, argG, ren0, inN, pos, renCs, renC, toP, toPF]) ⟨[500], by simp, by simp, ?_⟩; simp [lv, ouN, kpI, kpR, pos, ren, ren0, renB, renC, renCs, renF, renFs]) | (refine CallK_gen [500] (c2) (by decide) (by decide) (by simp [blksOf, inN, pos, renB, renC, renCs, ren0, lv, ouN, kpI, kpR, f1', f2']) (by simp [argsG, argG, ren0, inN, pos, renCs, renC, f1', f2']) ⟨[], by simp, by simp, ?_⟩; simp [lv, ouN, kpI, kpR, pos, ren, ren0, renB, renC, renCs, renF, renFs, f1', f2']) | (refine hK _ ?_; clear hK) | (refine hK _ _ ?_; clear hK) | (clear hK; refine hK _ ?_; clear hK) | (clear hK; clear hK; refine hK _ ?_; clear hK) | (clear hK; clear hK; clear hK; refine hK _ ?_; clear hK) | (clear hK; clear hK; clear hK; clear hK; refine hK _ ?_; clear hK) | (refine wSeq fun K hK => ?_) | ((first | refine wReg ?_ | refine wDrwQ rfl (by kernel_rfl) ?_ | refine wDrwI ?_ | refine wDrw (by kernel_rfl) ?_); simp only [List.map_cons, List.map_nil, strip]) | ((first | refine wIs fun K hK => ?_ | refine wOs fun K hK => ?_ | refine wQs fun K hK => ?_ | refine CallK_plain ?_ | refine CallQ_plain ?_ | refine CallR_plain ?_ | refine wCond ?_); simp [lv, ouN, kpI, kpR, pos, ren, ren0, renB, renC, renCs, renF, renFs, f1', f2']) | (refine wIn ?_; refine And.intro (by kernel_rfl) ?_; try simp only [thenA_n]) | (first | refine wBlock ?_ | refine wScope ?_) | ((first | refine wRet ?_ | refine wExit ?_ | refine wSkip ?_); try simp) | ((first | refine wLabel ?_ | refine wOn ?_ | refine wQn ?_); try simp only [thenA_n])
      all_goals first | apply hn | apply hr
      all_goals simp [Try.f29, f1', f2', lv, ouN, kpI, kpR, pos, ren, ren0, renB, renC, renCs, renF, renFs]
    · rw [decide_eq_false fun h => f2 h.2]
      have c2 := end0_con p false
      have f1' : (p.mo = 3) = True := eq_true f1
      have f2' : (n = p.ld) = False := eq_false f2
      unfold sW sBx Lp.cells at *
      refine wBody Try.tab Try.mixed Try.func29 rfl rfl Try.ntmps29 (by simp) (by simp) fun Q hr hn => ?_
      repeat' first | (refine CallK_gen [] (c1) (by decide) (by decide) (by simp [blksOf]) (by simp [argsG, argG, ren0, inN, pos, renCs, renC, toP, toPF]) ⟨[500], by simp, by simp, ?_⟩; simp [lv, ouN, kpI, kpR, pos, ren, ren0, renB, renC, renCs, renF, renFs]) | (refine CallK_gen [500] (c2) (by decide) (by decide) (by simp [blksOf, inN, pos, renB, renC, renCs, ren0, lv, ouN, kpI, kpR, f1', f2']) (by simp [argsG, argG, ren0, inN, pos, renCs, renC, f1', f2']) ⟨[], by simp, by simp, ?_⟩; simp [lv, ouN, kpI, kpR, pos, ren, ren0, renB, renC, renCs, renF, renFs, f1', f2']) | (refine hK _ ?_; clear hK) | (refine hK _ _ ?_; clear hK) | (clear hK; refine hK _ ?_; clear hK) | (clear hK; clear hK; refine hK _ ?_; clear hK) | (clear hK; clear hK; clear hK; refine hK _ ?_; clear hK) | (clear hK; clear hK; clear hK; clear hK; refine hK _ ?_; clear hK) | (refine wSeq fun K hK => ?_) | ((first | refine wReg ?_ | refine wDrwQ rfl (by kernel_rfl) ?_ | refine wDrwI ?_ | refine wDrw (by kernel_rfl) ?_); simp only [List.map_cons, List.map_nil, strip]) | ((first | refine wIs fun K hK => ?_ | refine wOs fun K hK => ?_ | refine wQs fun K hK => ?_ | refine CallK_plain ?_ | refine CallQ_plain ?_ | refine CallR_plain ?_ | refine wCond ?_); simp [lv, ouN, kpI, kpR, pos, ren, ren0, renB, renC, renCs, renF, renFs, f1', f2']) | (refine wIn ?_; refine And.intro (by kernel_rfl) ?_; try simp only [thenA_n]) | (first | refine wBlock ?_ | refine wScope ?_) | ((first | refine wRet ?_ | refine wExit ?_ | refine wSkip ?_); try simp) | ((first | refine wLabel ?_ | refine wOn ?_ | refine wQn ?_); try simp only [thenA_n])
      all_goals first | apply hn | apply hr
      all_goals simp [Try.f29, f1', f2', lv, ouN, kpI, kpR, pos, ren, ren0, renB, renC, renCs, renF, renFs]
  · rw [decide_eq_false fun h => f1 h.1]
    have c2 := end0_con p false
    have f1' : (p.mo = 3) = False := eq_false f1
    unfold sW sBx Lp.cells at *
    refine wBody Try.tab Try.mixed Try.func29 rfl rfl Try.ntmps29 (by simp) (by simp) fun Q hr hn => ?_
    repeat' first | (refine CallK_gen [] (c1) (by decide) (by decide) (by simp [blksOf]) (by simp [argsG, argG, ren0, inN, pos, renCs, renC, toP, toPF]) ⟨[500], by simp, by simp, ?_⟩; simp [lv, ouN, kpI, kpR, pos, ren, ren0, renB, renC, renCs, renF, renFs]) | (refine CallK_gen [500] (c2) (by decide) (by decide) (by simp [blksOf, inN, pos, renB, renC, renCs, ren0, lv, ouN, kpI, kpR, f1']) (by simp [argsG, argG, ren0, inN, pos, renCs, renC, f1']) ⟨[], by simp, by simp, ?_⟩; simp [lv, ouN, kpI, kpR, pos, ren, ren0, renB, renC, renCs, renF, renFs, f1']) | (refine hK _ ?_; clear hK) | (refine hK _ _ ?_; clear hK) | (clear hK; refine hK _ ?_; clear hK) | (clear hK; clear hK; refine hK _ ?_; clear hK) | (clear hK; clear hK; clear hK; refine hK _ ?_; clear hK) | (clear hK; clear hK; clear hK; clear hK; refine hK _ ?_; clear hK) | (refine wSeq fun K hK => ?_) | ((first | refine wReg ?_ | refine wDrwQ rfl (by kernel_rfl) ?_ | refine wDrwI ?_ | refine wDrw (by kernel_rfl) ?_); simp only [List.map_cons, List.map_nil, strip]) | ((first | refine wIs fun K hK => ?_ | refine wOs fun K hK => ?_ | refine wQs fun K hK => ?_ | refine CallK_plain ?_ | refine CallQ_plain ?_ | refine CallR_plain ?_ | refine wCond ?_); simp [lv, ouN, kpI, kpR, pos, ren, ren0, renB, renC, renCs, renF, renFs, f1']) | (refine wIn ?_; refine And.intro (by kernel_rfl) ?_; try simp only [thenA_n]) | (first | refine wBlock ?_ | refine wScope ?_) | ((first | refine wRet ?_ | refine wExit ?_ | refine wSkip ?_); try simp) | ((first | refine wLabel ?_ | refine wOn ?_ | refine wQn ?_); try simp only [thenA_n])
    all_goals first | apply hn | apply hr
    all_goals simp [Try.f29, f1', lv, ouN, kpI, kpR, pos, ren, ren0, renB, renC, renCs, renF, renFs]
def tickL (p : Lp) : List (List PV) := if p.mo = 3 ∧ ¬ 8 < (tickP p).wt ∧ p.ph = 1 then [(comeM p).cells] else []
def tickQ (p : Lp) : Lp := if p.mo = 3 then tickP p else p
set_option maxHeartbeats 2000000 in
theorem tick_con (p : Lp) (hk : OkH p.h) : ACon Try.prog 28 [.p (.agg p.cells)] (.tup [.p (.agg (tickQ p).cells), .p (.sl 46 (tickL p)), .p (B (!decide (p.mo = 3 ∧ 8 < (tickP p).wt)))]) := by
  have c1 := startL_con p hk
  have c3 := come_con (tickP p) false
  rw [show comeM (tickP p) = comeM p from rfl] at c3
  have c4 := end1_con (tickP p) false [(comeM p).cells]
  unfold tickL tickQ
  generalize (comeM p).cells = mm at *
  by_cases f1 : p.mo = 3
  · have f1' : (p.mo = 3) = True := eq_true f1
    rw [if_pos f1]
    by_cases f2 : 8 < (tickP p).wt
    · rw [decide_eq_true ⟨f1, f2⟩, if_neg fun h => h.2.1 f2]
      have c2 := end0_con (tickP p) true
      unfold tickP at *
      unfold sW sBx Lp.cells at *
      dsimp only at *
      generalize hw : IntKind.i64.wrap (p.wt + 1) = w at *
      refine wBody Try.tab Try.mixed Try.func28 rfl rfl Try.ntmps28 (by simp) (by simp) fun Q hr hn => ?_
      repeat' first | (refine CallK_gen [] (c1) (by decide) (by decide) (by simp [blksOf]) (by simp [argsG, argG, ren0, inN, pos, renCs, renC, toP, toPF]) ⟨[500], by simp, by simp, ?_⟩; simp [lv, ouN, kpI, kpR, pos, ren, ren0, renB, renC, renCs, renF, renFs]) | (refine CallK_gen [500] (c2) (by decide) (by decide) (by simp [blksOf, inN, pos, renB, renC, renCs, ren0, lv, ouN, kpI, kpR]) (by simp [argsG, argG, ren0, inN, pos, renCs, renC]) ⟨[], by simp, by simp, ?_⟩; simp [lv, ouN, kpI, kpR, pos, ren, ren0, renB, renC, renCs, renF, renFs]) | (refine hK _ ?_; clear hK) | (refine hK _ _ ?_; clear hK) | (clear hK; refine hK _ ?_; clear hK) | (clear hK; clear hK; refine hK _ ?_; clear hK) | (clear hK; clear hK; clear hK; refine hK _ ?_; clear hK) | (clear hK; clear hK; clear hK; clear hK; refine hK _ ?_; clear hK) | (refine wSeq fun K hK => ?_) | ((first | refine wReg ?_ | refine wDrwQ rfl (by kernel_rfl) ?_ | refine wDrwI ?_ | refine wDrw (by kernel_rfl) ?_); simp only [List.map_cons, List.map_nil, strip]) | ((first | refine wIs fun K hK => ?_ | refine wOs fun K hK => ?_ | refine wQs fun K hK => ?_ | refine CallK_plain ?_ | refine CallQ_plain ?_ | refine CallR_plain ?_ | refine wCond ?_); simp [lv, ouN, kpI, kpR, pos, ren, ren0, renB, renC, renCs, renF, renFs, f1', f2, hw]) | (refine wIn ?_; refine And.intro (by kernel_rfl) ?_; try simp only [thenA_n]) | (first | refine wBlock ?_ | refine wScope ?_) | ((first | refine wRet ?_ | refine wExit ?_ | refine wSkip ?_); try simp) | ((first | refine wLabel ?_ | refine wOn ?_ | refine wQn ?_); try simp only [thenA_n])
      all_goals first | apply hn | apply hr
      all_goals simp [Try.f28, lv, ouN, kpI, kpR, pos, ren, ren0, renB, renC, renCs, renF, renFs]
    · rw [decide_eq_false fun h => f2 h.2]
      by_cases f3 : p.ph = 1
      · rw [if_pos ⟨f1, f2, f3⟩]
        have f3' : (p.ph = 1) = True := eq_true f3
        unfold tickP at *
        unfold sW sW1 sBx Lp.cells at *
        dsimp only at *
        generalize hw : IntKind.i64.wrap (p.wt + 1) = w at *
        refine wBody Try.tab Try.mixed Try.func28 rfl rfl Try.ntmps28 (by simp) (by simp) fun Q hr hn => ?_
        repeat' first | (refine CallK_gen [] (c1) (by decide) (by decide) (by simp [blksOf]) (by simp [argsG, argG, ren0, inN, pos, renCs, renC, toP, toPF]) ⟨[500], by simp, by simp, ?_⟩; simp [lv, ouN, kpI, kpR, pos, ren, ren0, renB, renC, renCs, renF, renFs]) | (refine CallK_gen [500] (c3) (by decide) (by decide) (by simp [blksOf, inN, pos, renB, renC, renCs, ren0, lv, ouN, kpI, kpR]) (by simp [argsG, argG, ren0, inN, pos, renCs, renC]) ⟨[502], by simp, by simp, ?_⟩; simp [lv, ouN, kpI, kpR, pos, ren, ren0, renB, renC, renCs, renF, renFs]) | (refine CallK_gen [500, 502] (c4) (by decide) (by decide) (by simp [blksOf, inN, pos, renB, renC, renCs, ren0, lv, ouN, kpI, kpR]) (by simp [argsG, argG, ren0, inN, pos, renCs, renC]) ⟨[], by simp, by simp, ?_⟩; simp [lv, ouN, kpI, kpR, pos, ren, ren0, renB, renC, renCs, renF, renFs]) | (refine hK _ ?_; clear hK) | (refine hK _ _ ?_; clear hK) | (clear hK; refine hK _ ?_; clear hK) | (clear hK; clear hK; refine hK _ ?_; clear hK) | (clear hK; clear hK; clear hK; refine hK _ ?_; clear hK) | (clear hK; clear hK; clear hK; clear hK; refine hK _ ?_; clear hK) | (refine wSeq fun K hK => ?_) | ((first | refine wReg ?_ | refine wDrwQ rfl (by kernel_rfl) ?_ | refine wDrwI ?_ | refine wDrw (by kernel_rfl) ?_); simp only [List.map_cons, List.map_nil, strip]) | ((first | refine wIs fun K hK => ?_ | refine wOs fun K hK => ?_ | refine wQs fun K hK => ?_ | refine CallK_plain ?_ | refine CallQ_plain ?_ | refine CallR_plain ?_ | refine wCond ?_); simp [lv, ouN, kpI, kpR, pos, ren, ren0, renB, renC, renCs, renF, renFs, f1', f2, f3', hw]) | (refine wIn ?_; refine And.intro (by kernel_rfl) ?_; try simp only [thenA_n]) | (first | refine wBlock ?_ | refine wScope ?_) | ((first | refine wRet ?_ | refine wExit ?_ | refine wSkip ?_); try simp) | ((first | refine wLabel ?_ | refine wOn ?_ | refine wQn ?_); try simp only [thenA_n])
        all_goals first | apply hn | apply hr
        all_goals simp [Try.f28, lv, ouN, kpI, kpR, pos, ren, ren0, renB, renC, renCs, renF, renFs]
      · rw [if_neg fun h => f3 h.2.2]
        have f3' : (p.ph = 1) = False := eq_false f3
        have c2 := end0_con (tickP p) false
        unfold tickP at *
        unfold sW sBx Lp.cells at *
        dsimp only at *
        generalize hw : IntKind.i64.wrap (p.wt + 1) = w at *
        refine wBody Try.tab Try.mixed Try.func28 rfl rfl Try.ntmps28 (by simp) (by simp) fun Q hr hn => ?_
        repeat' first | (refine CallK_gen [] (c1) (by decide) (by decide) (by simp [blksOf]) (by simp [argsG, argG, ren0, inN, pos, renCs, renC, toP, toPF]) ⟨[500], by simp, by simp, ?_⟩; simp [lv, ouN, kpI, kpR, pos, ren, ren0, renB, renC, renCs, renF, renFs]) | (refine CallK_gen [500] (c2) (by decide) (by decide) (by simp [blksOf, inN, pos, renB, renC, renCs, ren0, lv, ouN, kpI, kpR]) (by simp [argsG, argG, ren0, inN, pos, renCs, renC]) ⟨[], by simp, by simp, ?_⟩; simp [lv, ouN, kpI, kpR, pos, ren, ren0, renB, renC, renCs, renF, renFs]) | (refine hK _ ?_; clear hK) | (refine hK _ _ ?_; clear hK) | (clear hK; refine hK _ ?_; clear hK) | (clear hK; clear hK; refine hK _ ?_; clear hK) | (clear hK; clear hK; clear hK; refine hK _ ?_; clear hK) | (clear hK; clear hK; clear hK; clear hK; refine hK _ ?_; clear hK) | (refine wSeq fun K hK => ?_) | ((first | refine wReg ?_ | refine wDrwQ rfl (by kernel_rfl) ?_ | refine wDrwI ?_ | refine wDrw (by kernel_rfl) ?_); simp only [List.map_cons, List.map_nil, strip]) | ((first | refine wIs fun K hK => ?_ | refine wOs fun K hK => ?_ | refine wQs fun K hK => ?_ | refine CallK_plain ?_ | refine CallQ_plain ?_ | refine CallR_plain ?_ | refine wCond ?_); simp [lv, ouN, kpI, kpR, pos, ren, ren0, renB, renC, renCs, renF, renFs, f1', f2, f3', hw]) | (refine wIn ?_; refine And.intro (by kernel_rfl) ?_; try simp only [thenA_n]) | (first | refine wBlock ?_ | refine wScope ?_) | ((first | refine wRet ?_ | refine wExit ?_ | refine wSkip ?_); try simp) | ((first | refine wLabel ?_ | refine wOn ?_ | refine wQn ?_); try simp only [thenA_n])
        all_goals first | apply hn | apply hr
        all_goals simp [Try.f28, lv, ouN, kpI, kpR, pos, ren, ren0, renB, renC, renCs, renF, renFs]
  · have f1' : (p.mo = 3) = False := eq_false f1
    rw [if_neg f1, decide_eq_false (fun h => f1 h.1), if_neg fun h => f1 h.1]
    have c2 := end0_con p false
    unfold sW sBx Lp.cells at *
    refine wBody Try.tab Try.mixed Try.func28 rfl rfl Try.ntmps28 (by simp) (by simp) fun Q hr hn => ?_
    repeat' first | (refine CallK_gen [] (c1) (by decide) (by decide) (by simp [blksOf]) (by simp [argsG, argG, ren0, inN, pos, renCs, renC, toP, toPF]) ⟨[500], by simp, by simp, ?_⟩; simp [lv, ouN, kpI, kpR, pos, ren, ren0, renB, renC, renCs, renF, renFs]) | (refine CallK_gen [500] (c2) (by decide) (by decide) (by simp [blksOf, inN, pos, renB, renC, renCs, ren0, lv, ouN, kpI, kpR]) (by simp [argsG, argG, ren0, inN, pos, renCs, renC]) ⟨[], by simp, by simp, ?_⟩; simp [lv, ouN, kpI, kpR, pos, ren, ren0, renB, renC, renCs, renF, renFs]) | (refine hK _ ?_; clear hK) | (refine hK _ _ ?_; clear hK) | (clear hK; refine hK _ ?_; clear hK) | (clear hK; clear hK; refine hK _ ?_; clear hK) | (clear hK; clear hK; clear hK; refine hK _ ?_; clear hK) | (clear hK; clear hK; clear hK; clear hK; refine hK _ ?_; clear hK) | (refine wSeq fun K hK => ?_) | ((first | refine wReg ?_ | refine wDrwQ rfl (by kernel_rfl) ?_ | refine wDrwI ?_ | refine wDrw (by kernel_rfl) ?_); simp only [List.map_cons, List.map_nil, strip]) | ((first | refine wIs fun K hK => ?_ | refine wOs fun K hK => ?_ | refine wQs fun K hK => ?_ | refine CallK_plain ?_ | refine CallQ_plain ?_ | refine CallR_plain ?_ | refine wCond ?_); simp [lv, ouN, kpI, kpR, pos, ren, ren0, renB, renC, renCs, renF, renFs, f1']) | (refine wIn ?_; refine And.intro (by kernel_rfl) ?_; try simp only [thenA_n]) | (first | refine wBlock ?_ | refine wScope ?_) | ((first | refine wRet ?_ | refine wExit ?_ | refine wSkip ?_); try simp) | ((first | refine wLabel ?_ | refine wOn ?_ | refine wQn ?_); try simp only [thenA_n])
    all_goals first | apply hn | apply hr
    all_goals simp [Try.f28, lv, ouN, kpI, kpR, pos, ren, ren0, renB, renC, renCs, renF, renFs]
/-! What begins has no list of learners: the same with a nil there. -/
def sBn (p : Lp) (X : V) (g : Bool) : List V := [.p (I p.id), .p (I p.ac), .p (I p.cu), .p (.sl 5 (zns p.h.im.ns)), .p (.sl 1 (ints p.h.im.ss)), .p (I p.h.im.nx), .p (I p.h.im.c.ep), .p (I p.h.im.c.n), .p (I p.h.im.c.kind), .p (.sl 4 (mbs p.h.im.c.ms)), .p (I p.h.im.ae), .p (I p.h.im.an), .p (.sl 8 (txns p.h.lg)), .p (I p.d.e), .p (I p.d.n), .p (I p.mo), .p (I 0), .p (I 0), .p (I 0), .p (I 0), .p (I 0), .p (I 0), .p (I 0), .p (I 0), .p (I 0), .p (I 0), .p (I 0), .p (I 0), .p (I 0), .p (I 0), .p (I 0), .p (I 0), .p (.sl 7 []), .p (I p.ld), .p (I p.ph), .p (I p.wt), .p (I p.ep), .nil 8, X, .p (B g)]
abbrev sN (p : Lp) (g : Bool) : List Blk := [.box 87 (sBn p (.nil 46) g)]
abbrev sN1 (p : Lp) (g : Bool) : List Blk := [.box 87 (sBn p (.row 2048) g)]
theorem sendN_con (p : Lp) (m : Mg) (g : Bool) : Con Try.prog 43 [.ptr 1024 0, .p (.agg m.cells)] (sN p g) (.ret (.tup []) [.row 65 46 [({ m with fr := p.id, to := p.ld } : Mg).cells]] (sN1 p g)) := by
  unfold sN sN1 sBn Mg.cells
  dsimp only
  refine wBodyG Try.tab Try.mixed Try.func43 rfl rfl Try.ntmps43 (by simp) (by simp) fun Q hr hn hp => ?_
  repeat' first | (refine And.intro (by omega) (Or.inl ?_)) | (refine And.intro (by omega) ?_) | (refine hK _ ?_; clear hK) | (refine hK _ _ ?_; clear hK) | (clear hK; refine hK _ ?_; clear hK) | (clear hK; clear hK; refine hK _ ?_; clear hK) | (clear hK; clear hK; clear hK; refine hK _ ?_; clear hK) | (clear hK; clear hK; clear hK; clear hK; refine hK _ ?_; clear hK) | (refine wSeq fun K hK => ?_) | ((first | refine wReg ?_ | refine wDrwQ rfl (by kernel_rfl) ?_ | refine wDrwI ?_ | refine wDrw (by kernel_rfl) ?_); simp only [List.map_cons, List.map_nil, strip]) | ((first | refine wIs fun K hK => ?_ | refine wOs fun K hK => ?_ | refine wQs fun K hK => ?_ | refine CallK_plain ?_ | refine CallQ_plain ?_ | refine CallR_plain ?_ | refine wCond ?_); simp) | (refine wIn ?_; refine And.intro (by kernel_rfl) ?_; try simp only [thenA_n]) | (first | refine wBlock ?_ | refine wScope ?_) | ((first | refine wRet ?_ | refine wExit ?_ | refine wSkip ?_); try simp) | ((first | refine wLabel ?_ | refine wOn ?_ | refine wQn ?_); try simp only [thenA_n])
  all_goals first | apply hn | apply hr
  all_goals refine ⟨[23], by simp, by simp, ?_⟩
  all_goals simp [Try.f43, outR, outB, renB, gaN]
theorem comeN_con (p : Lp) (g : Bool) : Con Try.prog 25 [.ptr 1024 0] (sN p g) (.ret (.tup []) [.row 65 46 [(comeM p).cells]] (sN1 p g)) := by
  have c1 := sendN_con p (mgZ 0 0 2 p.ac 0 ⟨0, 0⟩ []) g
  rw [show ({ mgZ 0 0 2 p.ac 0 ⟨0, 0⟩ [] with fr := p.id, to := p.ld } : Mg) = comeM p from rfl] at c1
  generalize (comeM p).cells = mm at *
  unfold sN sN1 sBn mgZ Mg.cells at *
  simp only [zns, ints, mbs, txns, zxs, pts, List.map_nil] at c1 ⊢
  refine wBodyG Try.tab Try.mixed Try.func25 rfl rfl Try.ntmps25 (by simp) (by simp) fun Q hr hn hp => ?_
  repeat' first | (refine CallK_gen [1024] (c1) (by decide) (by decide) (by simp [blksOf, inN, pos, renB, renC, renCs, ren0, lv, ouN, kpI, kpR]) (by simp [argsG, argG, ren0, inN, pos, renCs, renC]) ⟨[500], by simp, by simp, ?_⟩; simp [lv, ouN, kpI, kpR, pos, ren, ren0, renB, renC, renCs, renF, renFs]) | (refine hK _ ?_; clear hK) | (refine hK _ _ ?_; clear hK) | (clear hK; refine hK _ ?_; clear hK) | (clear hK; clear hK; refine hK _ ?_; clear hK) | (clear hK; clear hK; clear hK; refine hK _ ?_; clear hK) | (clear hK; clear hK; clear hK; clear hK; refine hK _ ?_; clear hK) | (refine wSeq fun K hK => ?_) | ((first | refine wReg ?_ | refine wDrwQ rfl (by kernel_rfl) ?_ | refine wDrwI ?_ | refine wDrw (by kernel_rfl) ?_); simp only [List.map_cons, List.map_nil, strip]) | ((first | refine wIs fun K hK => ?_ | refine wOs fun K hK => ?_ | refine wQs fun K hK => ?_ | refine CallK_plain ?_ | refine CallQ_plain ?_ | refine CallR_plain ?_ | refine wCond ?_); simp [show ByteArray.empty = bs [] from rfl]) | (refine wIn ?_; refine And.intro (by kernel_rfl) ?_; try simp only [thenA_n]) | (first | refine wBlock ?_ | refine wScope ?_) | ((first | refine wRet ?_ | refine wExit ?_ | refine wSkip ?_); try simp) | ((first | refine wLabel ?_ | refine wOn ?_ | refine wQn ?_); try simp only [thenA_n])
  all_goals first | apply hn | apply hr
  all_goals refine ⟨[500], by simp, by simp, ?_⟩
  all_goals simp [Try.f25, outR, outB, renB, gaN, lv, ouN, kpI, kpR, pos, ren, ren0, renC, renCs, renF, renFs]
theorem end1N_con (p : Lp) (g : Bool) (l : List (List PV)) : Con Try.prog 26 [.ptr 1024 0] [.box 87 (sBn p (.row 1025) g), .row 65 46 l] (.ret (.tup [.p (.agg p.cells), .row 1025, .p (B (!g))]) [] [.box 87 (sBn p (.row 1025) g), .row 65 46 l]) := by
  unfold sBn Lp.cells
  refine wBodyG Try.tab Try.mixed Try.func26 rfl rfl Try.ntmps26 (by simp) (by simp) fun Q hr hn hp => ?_
  repeat' first | (refine hK _ ?_; clear hK) | (refine hK _ _ ?_; clear hK) | (clear hK; refine hK _ ?_; clear hK) | (clear hK; clear hK; refine hK _ ?_; clear hK) | (clear hK; clear hK; clear hK; refine hK _ ?_; clear hK) | (clear hK; clear hK; clear hK; clear hK; refine hK _ ?_; clear hK) | (refine wSeq fun K hK => ?_) | ((first | refine wReg ?_ | refine wDrwQ rfl (by kernel_rfl) ?_ | refine wDrwI ?_ | refine wDrw (by kernel_rfl) ?_); simp only [List.map_cons, List.map_nil, strip]) | ((first | refine wIs fun K hK => ?_ | refine wOs fun K hK => ?_ | refine wQs fun K hK => ?_ | refine CallK_plain ?_ | refine CallQ_plain ?_ | refine CallR_plain ?_ | refine wCond ?_); simp) | (refine wIn ?_; refine And.intro (by kernel_rfl) ?_; try simp only [thenA_n]) | (first | refine wBlock ?_ | refine wScope ?_) | ((first | refine wRet ?_ | refine wExit ?_ | refine wSkip ?_); try simp) | ((first | refine wLabel ?_ | refine wOn ?_ | refine wQn ?_); try simp only [thenA_n])
  all_goals first | apply hn | apply hr
  all_goals refine ⟨[], by simp, by simp, ?_⟩
  all_goals simp [Try.f26, outR, outB, renB, gaN]
def beginP (p : Lp) (ld : Int) : Lp := { p with mo := 3, ld := ld, ph := 1, wt := 0, ep := 0 }
set_option maxHeartbeats 2000000 in
theorem begin_con (p : Lp) (ld : Int) (hk : OkH p.h) : ACon Try.prog 10 [.p (.agg p.cells), .p (I ld)] (.tup [.p (.agg (beginP p ld).cells), .p (.sl 46 [(comeM (beginP p ld)).cells]), .p (B true)]) := by
  have c1 := startL_con p hk
  have c3 := comeN_con (beginP p ld) false
  have c4 := end1N_con (beginP p ld) false [(comeM (beginP p ld)).cells]
  generalize (comeM (beginP p ld)).cells = mm at *
  unfold beginP at *
  unfold sN sN1 sBn at *
  unfold sBx at c1
  unfold Lp.cells at *
  dsimp only at *
  refine wBody Try.tab Try.mixed Try.func10 rfl rfl Try.ntmps10 (by simp) (by simp) fun Q hr hn => ?_
  repeat' first | (refine CallK_gen [] (c1) (by decide) (by decide) (by simp [blksOf]) (by simp [argsG, argG, ren0, inN, pos, renCs, renC, toP, toPF]) ⟨[500], by simp, by simp, ?_⟩; simp [lv, ouN, kpI, kpR, pos, ren, ren0, renB, renC, renCs, renF, renFs]) | (refine CallK_gen [500] (c3) (by decide) (by decide) (by simp [blksOf, inN, pos, renB, renC, renCs, ren0, lv, ouN, kpI, kpR]) (by simp [argsG, argG, ren0, inN, pos, renCs, renC]) ⟨[502], by simp, by simp, ?_⟩; simp [lv, ouN, kpI, kpR, pos, ren, ren0, renB, renC, renCs, renF, renFs]) | (refine CallK_gen [500, 502] (c4) (by decide) (by decide) (by simp [blksOf, inN, pos, renB, renC, renCs, ren0, lv, ouN, kpI, kpR]) (by simp [argsG, argG, ren0, inN, pos, renCs, renC]) ⟨[], by simp, by simp, ?_⟩; simp [lv, ouN, kpI, kpR, pos, ren, ren0, renB, renC, renCs, renF, renFs]) | (refine hK _ ?_; clear hK) | (refine hK _ _ ?_; clear hK) | (clear hK; refine hK _ ?_; clear hK) | (clear hK; clear hK; refine hK _ ?_; clear hK) | (clear hK; clear hK; clear hK; refine hK _ ?_; clear hK) | (clear hK; clear hK; clear hK; clear hK; refine hK _ ?_; clear hK) | (refine wSeq fun K hK => ?_) | ((first | refine wReg ?_ | refine wDrwQ rfl (by kernel_rfl) ?_ | refine wDrwI ?_ | refine wDrw (by kernel_rfl) ?_); simp only [List.map_cons, List.map_nil, strip]) | ((first | refine wIs fun K hK => ?_ | refine wOs fun K hK => ?_ | refine wQs fun K hK => ?_ | refine CallK_plain ?_ | refine CallQ_plain ?_ | refine CallR_plain ?_ | refine wCond ?_); simp [lv, ouN, kpI, kpR, pos, ren, ren0, renB, renC, renCs, renF, renFs]) | (refine wIn ?_; refine And.intro (by kernel_rfl) ?_; try simp only [thenA_n]) | (first | refine wBlock ?_ | refine wScope ?_) | ((first | refine wRet ?_ | refine wExit ?_ | refine wSkip ?_); try simp) | ((first | refine wLabel ?_ | refine wOn ?_ | refine wQn ?_); try simp only [thenA_n])
  all_goals first | apply hn | apply hr
  all_goals simp [Try.f10, lv, ouN, kpI, kpR, pos, ren, ren0, renB, renC, renCs, renF, renFs]
end Go.Proofs.Yteicecbjahhjmaa
