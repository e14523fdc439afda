/- Clients: what a word does. -/
import Derived.Test.YtefhnofdfnmiaaaCL1
namespace Go.Proofs.Ytefhnofdfnmiaaa
set_option linter.unusedSimpArgs false
set_option linter.unusedVariables false
set_option maxRecDepth 8000
open Go Go.Av
attribute [local simp] Try.T1 Try.T2 Try.T3 Try.T4 Try.T5 Try.T9 Try.T12 Try.T15 Try.T16 Try.T17 Try.T21 Try.T22 Try.T23 Try.T24 Try.T26 Try.T27 Try.T29 Try.T30 Try.T32 Try.T33 Try.T34 Try.T35 Try.T36 Try.T38 Try.T40 Try.T42 Try.T43 Try.T45 Try.T47 Try.T49 Try.T50 Try.T51 Try.T53 Try.T54 Try.T55 Try.T56 Try.T57 Try.T59 Try.T61 Try.T63 Try.T65 Try.T66 Try.T67 Try.T69 Try.T70 Try.T71 Try.T72 Try.T73 Try.T74 Try.T75 Try.T76 Try.T78 Try.T79 Try.T80 Try.T81 Try.T82 Try.T83 Try.T84 Try.T85 Try.T86 Try.T87 Try.T88 Try.T89 Try.T90 Try.T91 Try.T92 Try.T93 Try.T94 Try.T95 Try.T96 Try.T97 Try.T98 Try.T99 Try.T101 Try.T102 Try.T103 Try.T104 Try.T105 Try.T106 Try.T107 Try.T108 Try.T109 Try.T112 Try.T115 Try.T116 Try.T119 Try.T120
attribute [local irreducible] Go.Av.CallK Go.Av.CallE Go.Av.CallQ Go.Av.CallF Go.Av.CallR Go.Av.CallH Go.Av.Con
def openC (c : Cl) (w : Wd) : Cl := if c.ph = 1 then seeC { c with ph := 2, ss := w.ss } w.ae w.an else c
theorem openM_con (c : Cl) (w : Wd) : Con Try.prog 48 [.ptr 1024 0, .p (.agg w.cells)] (hW c) (.ret (.tup []) [] (hW (openC c w))) := by
  unfold openC
  by_cases h : c.ph = 1
  · rw [if_pos h]
    have c1 := see_con { c with ph := 2, ss := w.ss } w.ae w.an
    generalize seeC { c with ph := 2, ss := w.ss } w.ae w.an = r at *
    unfold hW hBx at *
    unfold Wd.cells
    dsimp only at c1 ⊢
    refine wBodyG Try.tab Try.mixed Try.func48 rfl rfl Try.ntmps48 (by simp) (by simp) fun Q hr hn hp => ?_
    repeat' first | (refine CallK_gen [1024, 1025] (c1) (by decide) (by decide) (by simp [blksOf, inN, pos, renB, renC, renCs, ren0, lv, ouN, kpI, kpR]) (by simp [argsG, argG, ren0, inN, pos, renCs, renC]) ⟨[], by simp, by simp, ?_⟩; simp [lv, ouN, kpI, kpR, pos, ren, ren0, renB, renC, renCs, renF, renFs]) | (refine hK _ ?_; clear hK) | (refine hK _ _ ?_; clear hK) | (clear hK; refine hK _ ?_; clear hK) | (clear hK; clear hK; refine hK _ ?_; clear hK) | (clear hK; clear hK; clear hK; refine hK _ ?_; clear hK) | (clear hK; clear hK; clear hK; clear hK; refine hK _ ?_; clear hK) | (refine wSeq fun K hK => ?_) | ((first | refine wReg ?_ | refine wDrwQ rfl (by kernel_rfl) ?_ | refine wDrwI ?_ | refine wDrw (by kernel_rfl) ?_); simp only [List.map_cons, List.map_nil, strip]) | ((first | refine wIs fun K hK => ?_ | refine wOs fun K hK => ?_ | refine wQs fun K hK => ?_ | refine CallK_plain ?_ | refine CallQ_plain ?_ | refine CallR_plain ?_ | refine wCond ?_); simp [h]) | (refine wIn ?_; refine And.intro (by kernel_rfl) ?_; try simp only [thenA_n]) | (first | refine wBlock ?_ | refine wScope ?_) | ((first | refine wRet ?_ | refine wExit ?_ | refine wSkip ?_); try simp) | ((first | refine wLabel ?_ | refine wOn ?_ | refine wQn ?_); try simp only [thenA_n])
    all_goals first | apply hn | apply hr
    all_goals refine ⟨[], by simp, by simp, ?_⟩
    all_goals simp [Try.f48, outR, outB, renB, gaN, lv, ouN, kpI, kpR, pos, ren, ren0, renC, renCs, renF, renFs]
  · rw [if_neg h]
    unfold hW hBx Wd.cells
    refine wBodyG Try.tab Try.mixed Try.func48 rfl rfl Try.ntmps48 (by simp) (by simp) fun Q hr hn hp => ?_
    repeat' first | (refine hK _ ?_; clear hK) | (refine hK _ _ ?_; clear hK) | (clear hK; refine hK _ ?_; clear hK) | (clear hK; clear hK; refine hK _ ?_; clear hK) | (clear hK; clear hK; clear hK; refine hK _ ?_; clear hK) | (clear hK; clear hK; clear hK; clear hK; refine hK _ ?_; clear hK) | (refine wSeq fun K hK => ?_) | ((first | refine wReg ?_ | refine wDrwQ rfl (by kernel_rfl) ?_ | refine wDrwI ?_ | refine wDrw (by kernel_rfl) ?_); simp only [List.map_cons, List.map_nil, strip]) | ((first | refine wIs fun K hK => ?_ | refine wOs fun K hK => ?_ | refine wQs fun K hK => ?_ | refine CallK_plain ?_ | refine CallQ_plain ?_ | refine CallR_plain ?_ | refine wCond ?_); simp [h]) | (refine wIn ?_; refine And.intro (by kernel_rfl) ?_; try simp only [thenA_n]) | (first | refine wBlock ?_ | refine wScope ?_) | ((first | refine wRet ?_ | refine wExit ?_ | refine wSkip ?_); try simp) | ((first | refine wLabel ?_ | refine wOn ?_ | refine wQn ?_); try simp only [thenA_n])
    all_goals first | apply hn | apply hr
    all_goals refine ⟨[], by simp, by simp, ?_⟩
    all_goals simp [Try.f48, outR, outB, renB, gaN, lv, ouN, kpI, kpR, pos, ren, ren0, renC, renCs, renF, renFs]
def noC (c : Cl) (w : Wd) : Cl := if w.er = 13 then { c with ss := 0, ph := 0 } else { c with ph := 0 }
theorem no0_con (c : Cl) (w : Wd) (h0 : c.wt = 0) : Con Try.prog 49 [.ptr 1024 0, .p (.agg w.cells)] (hW c) (.ret (.tup []) [] (hW (endC (noC c w)))) := by
  have c1 := end0_con (noC c w) (by unfold noC; split <;> exact h0)
  unfold noC at *
  by_cases h : w.er = 13
  · rw [if_pos h] at c1 ⊢
    generalize endC { c with ss := 0, ph := 0 } = r at *
    unfold hW hBx at *
    unfold Wd.cells
    dsimp only at c1 ⊢
    refine wBodyG Try.tab Try.mixed Try.func49 rfl rfl Try.ntmps49 (by simp) (by simp) fun Q hr hn hp => ?_
    repeat' first | (refine CallK_gen [1024, 1025] (c1) (by decide) (by decide) (by simp [blksOf, inN, pos, renB, renC, renCs, ren0, lv, ouN, kpI, kpR]) (by simp [argsG, argG, ren0, inN, pos, renCs, renC]) ⟨[], by simp, by simp, ?_⟩; simp [lv, ouN, kpI, kpR, pos, ren, ren0, renB, renC, renCs, renF, renFs]) | (refine hK _ ?_; clear hK) | (refine hK _ _ ?_; clear hK) | (clear hK; refine hK _ ?_; clear hK) | (clear hK; clear hK; refine hK _ ?_; clear hK) | (clear hK; clear hK; clear hK; refine hK _ ?_; clear hK) | (clear hK; clear hK; clear hK; clear hK; refine hK _ ?_; clear hK) | (refine wSeq fun K hK => ?_) | ((first | refine wReg ?_ | refine wDrwQ rfl (by kernel_rfl) ?_ | refine wDrwI ?_ | refine wDrw (by kernel_rfl) ?_); simp only [List.map_cons, List.map_nil, strip]) | ((first | refine wIs fun K hK => ?_ | refine wOs fun K hK => ?_ | refine wQs fun K hK => ?_ | refine CallK_plain ?_ | refine CallQ_plain ?_ | refine CallR_plain ?_ | refine wCond ?_); simp [h]) | (refine wIn ?_; refine And.intro (by kernel_rfl) ?_; try simp only [thenA_n]) | (first | refine wBlock ?_ | refine wScope ?_) | ((first | refine wRet ?_ | refine wExit ?_ | refine wSkip ?_); try simp) | ((first | refine wLabel ?_ | refine wOn ?_ | refine wQn ?_); try simp only [thenA_n])
    all_goals first | apply hn | apply hr
    all_goals refine ⟨[], by simp, by simp, ?_⟩
    all_goals simp [Try.f49, outR, outB, renB, gaN, lv, ouN, kpI, kpR, pos, ren, ren0, renC, renCs, renF, renFs]
  · rw [if_neg h] at c1 ⊢
    generalize endC { c with ph := 0 } = r at *
    unfold hW hBx at *
    unfold Wd.cells
    dsimp only at c1 ⊢
    refine wBodyG Try.tab Try.mixed Try.func49 rfl rfl Try.ntmps49 (by simp) (by simp) fun Q hr hn hp => ?_
    repeat' first | (refine CallK_gen [1024, 1025] (c1) (by decide) (by decide) (by simp [blksOf, inN, pos, renB, renC, renCs, ren0, lv, ouN, kpI, kpR]) (by simp [argsG, argG, ren0, inN, pos, renCs, renC]) ⟨[], by simp, by simp, ?_⟩; simp [lv, ouN, kpI, kpR, pos, ren, ren0, renB, renC, renCs, renF, renFs]) | (refine hK _ ?_; clear hK) | (refine hK _ _ ?_; clear hK) | (clear hK; refine hK _ ?_; clear hK) | (clear hK; clear hK; refine hK _ ?_; clear hK) | (clear hK; clear hK; clear hK; refine hK _ ?_; clear hK) | (clear hK; clear hK; clear hK; clear hK; refine hK _ ?_; clear hK) | (refine wSeq fun K hK => ?_) | ((first | refine wReg ?_ | refine wDrwQ rfl (by kernel_rfl) ?_ | refine wDrwI ?_ | refine wDrw (by kernel_rfl) ?_); simp only [List.map_cons, List.map_nil, strip]) | ((first | refine wIs fun K hK => ?_ | refine wOs fun K hK => ?_ | refine wQs fun K hK => ?_ | refine CallK_plain ?_ | refine CallQ_plain ?_ | refine CallR_plain ?_ | refine wCond ?_); simp [h]) | (refine wIn ?_; refine And.intro (by kernel_rfl) ?_; try simp only [thenA_n]) | (first | refine wBlock ?_ | refine wScope ?_) | ((first | refine wRet ?_ | refine wExit ?_ | refine wSkip ?_); try simp) | ((first | refine wLabel ?_ | refine wOn ?_ | refine wQn ?_); try simp only [thenA_n])
    all_goals first | apply hn | apply hr
    all_goals refine ⟨[], by simp, by simp, ?_⟩
    all_goals simp [Try.f49, outR, outB, renB, gaN, lv, ouN, kpI, kpR, pos, ren, ren0, renC, renCs, renF, renFs]
theorem no1_con (c : Cl) (w : Wd) (h0 : ¬ c.wt = 0) : Con Try.prog 49 [.ptr 1024 0, .p (.agg w.cells)] (hW c) (.ret (.tup []) [.row 59 36 [rsC c.id c.wt true (wdZ 0 0 0)]] (hW1 (endC (noC c w)))) := by
  have c1 := end1_con (noC c w) (by unfold noC; split <;> exact h0)
  have e1 : (noC c w).id = c.id := by unfold noC; split <;> rfl
  have e2 : (noC c w).wt = c.wt := by unfold noC; split <;> rfl
  rw [e1, e2] at c1
  clear e1 e2
  generalize rsC c.id c.wt true (wdZ 0 0 0) = rs at *
  unfold noC at *
  by_cases h : w.er = 13
  · rw [if_pos h] at c1 ⊢
    generalize endC { c with ss := 0, ph := 0 } = r at *
    unfold hW hW1 hBx at *
    unfold Wd.cells
    dsimp only at c1 ⊢
    refine wBodyG Try.tab Try.mixed Try.func49 rfl rfl Try.ntmps49 (by simp) (by simp) fun Q hr hn hp => ?_
    repeat' first | (refine CallK_gen [1024, 1025] (c1) (by decide) (by decide) (by simp [blksOf, inN, pos, renB, renC, renCs, ren0, lv, ouN, kpI, kpR]) (by simp [argsG, argG, ren0, inN, pos, renCs, renC]) ⟨[500], by simp, by simp, ?_⟩; simp [lv, ouN, kpI, kpR, pos, ren, ren0, renB, renC, renCs, renF, renFs]) | (refine hK _ ?_; clear hK) | (refine hK _ _ ?_; clear hK) | (clear hK; refine hK _ ?_; clear hK) | (clear hK; clear hK; refine hK _ ?_; clear hK) | (clear hK; clear hK; clear hK; refine hK _ ?_; clear hK) | (clear hK; clear hK; clear hK; clear hK; refine hK _ ?_; clear hK) | (refine wSeq fun K hK => ?_) | ((first | refine wReg ?_ | refine wDrwQ rfl (by kernel_rfl) ?_ | refine wDrwI ?_ | refine wDrw (by kernel_rfl) ?_); simp only [List.map_cons, List.map_nil, strip]) | ((first | refine wIs fun K hK => ?_ | refine wOs fun K hK => ?_ | refine wQs fun K hK => ?_ | refine CallK_plain ?_ | refine CallQ_plain ?_ | refine CallR_plain ?_ | refine wCond ?_); simp [h]) | (refine wIn ?_; refine And.intro (by kernel_rfl) ?_; try simp only [thenA_n]) | (first | refine wBlock ?_ | refine wScope ?_) | ((first | refine wRet ?_ | refine wExit ?_ | refine wSkip ?_); try simp) | ((first | refine wLabel ?_ | refine wOn ?_ | refine wQn ?_); try simp only [thenA_n])
    all_goals first | apply hn | apply hr
    all_goals refine ⟨[500], by simp, by simp, ?_⟩
    all_goals simp [Try.f49, outR, outB, renB, gaN, lv, ouN, kpI, kpR, pos, ren, ren0, renC, renCs, renF, renFs]
  · rw [if_neg h] at c1 ⊢
    generalize endC { c with ph := 0 } = r at *
    unfold hW hW1 hBx at *
    unfold Wd.cells
    dsimp only at c1 ⊢
    refine wBodyG Try.tab Try.mixed Try.func49 rfl rfl Try.ntmps49 (by simp) (by simp) fun Q hr hn hp => ?_
    repeat' first | (refine CallK_gen [1024, 1025] (c1) (by decide) (by decide) (by simp [blksOf, inN, pos, renB, renC, renCs, ren0, lv, ouN, kpI, kpR]) (by simp [argsG, argG, ren0, inN, pos, renCs, renC]) ⟨[500], by simp, by simp, ?_⟩; simp [lv, ouN, kpI, kpR, pos, ren, ren0, renB, renC, renCs, renF, renFs]) | (refine hK _ ?_; clear hK) | (refine hK _ _ ?_; clear hK) | (clear hK; refine hK _ ?_; clear hK) | (clear hK; clear hK; refine hK _ ?_; clear hK) | (clear hK; clear hK; clear hK; refine hK _ ?_; clear hK) | (clear hK; clear hK; clear hK; clear hK; refine hK _ ?_; clear hK) | (refine wSeq fun K hK => ?_) | ((first | refine wReg ?_ | refine wDrwQ rfl (by kernel_rfl) ?_ | refine wDrwI ?_ | refine wDrw (by kernel_rfl) ?_); simp only [List.map_cons, List.map_nil, strip]) | ((first | refine wIs fun K hK => ?_ | refine wOs fun K hK => ?_ | refine wQs fun K hK => ?_ | refine CallK_plain ?_ | refine CallQ_plain ?_ | refine CallR_plain ?_ | refine wCond ?_); simp [h]) | (refine wIn ?_; refine And.intro (by kernel_rfl) ?_; try simp only [thenA_n]) | (first | refine wBlock ?_ | refine wScope ?_) | ((first | refine wRet ?_ | refine wExit ?_ | refine wSkip ?_); try simp) | ((first | refine wLabel ?_ | refine wOn ?_ | refine wQn ?_); try simp only [thenA_n])
    all_goals first | apply hn | apply hr
    all_goals refine ⟨[500], by simp, by simp, ?_⟩
    all_goals simp [Try.f49, outR, outB, renB, gaN, lv, ouN, kpI, kpR, pos, ren, ren0, renC, renCs, renF, renFs]
def noteC (c : Cl) (w : Wd) : Cl := seeC { c with nt := c.nt ++ [w.nt] } w.nt.e w.nt.n
theorem note_con (c : Cl) (w : Wd) (hn : c.nt.length ≤ 1000000) : Con Try.prog 50 [.ptr 1024 0, .p (.agg w.cells)] (hW c) (.ret (.tup []) [] (hW (noteC c w))) := by
  have c1 := see_con { c with nt := c.nt ++ [w.nt] } w.nt.e w.nt.n
  unfold noteC
  generalize seeC { c with nt := c.nt ++ [w.nt] } w.nt.e w.nt.n = r at *
  have hs := nts_snoc c.nt w.nt
  unfold hW hBx at *
  unfold Wd.cells
  dsimp only at c1 ⊢
  refine wBodyG Try.tab Try.mixed Try.func50 rfl rfl Try.ntmps50 (by simp) (by simp) fun Q hr hn hp => ?_
  repeat' first | (refine CallK_gen [1024, 1025] (c1) (by decide) (by decide) (by simp [blksOf, inN, pos, renB, renC, renCs, ren0, lv, ouN, kpI, kpR]) (by simp [argsG, argG, ren0, inN, pos, renCs, renC]) ⟨[], by simp, by simp, ?_⟩; simp [lv, ouN, kpI, kpR, pos, ren, ren0, renB, renC, renCs, renF, renFs]) | (refine And.intro (by omega) (Or.inl ?_)) | (refine And.intro (by omega) ?_) | (refine hK _ ?_; clear hK) | (refine hK _ _ ?_; clear hK) | (clear hK; refine hK _ ?_; clear hK) | (clear hK; clear hK; refine hK _ ?_; clear hK) | (clear hK; clear hK; clear hK; refine hK _ ?_; clear hK) | (clear hK; clear hK; clear hK; clear hK; refine hK _ ?_; clear hK) | (refine wSeq fun K hK => ?_) | ((first | refine wReg ?_ | refine wDrwQ rfl (by kernel_rfl) ?_ | refine wDrwI ?_ | refine wDrw (by kernel_rfl) ?_); simp only [List.map_cons, List.map_nil, strip]) | ((first | refine wIs fun K hK => ?_ | refine wOs fun K hK => ?_ | refine wQs fun K hK => ?_ | refine CallK_plain ?_ | refine CallQ_plain ?_ | refine CallR_plain ?_ | refine wCond ?_); simp [hs]) | (refine wIn ?_; refine And.intro (by kernel_rfl) ?_; try simp only [thenA_n]) | (first | refine wBlock ?_ | refine wScope ?_) | ((first | refine wRet ?_ | refine wExit ?_ | refine wSkip ?_); try simp) | ((first | refine wLabel ?_ | refine wOn ?_ | refine wQn ?_); try simp only [thenA_n])
  all_goals first | apply hn | apply hr
  all_goals refine ⟨[], by simp, by simp, ?_⟩
  all_goals simp [Try.f50, outR, outB, renB, gaN, lv, ouN, kpI, kpR, pos, ren, ren0, renC, renCs, renF, renFs]
theorem nothing_con (c : Cl) (w : Wd) : Con Try.prog 52 [.ptr 1024 0, .p (.agg w.cells)] (hW c) (.ret (.tup []) [] (hW c)) := by
  unfold hW hBx Wd.cells
  refine wBodyG Try.tab Try.mixed Try.func52 rfl rfl Try.ntmps52 (by simp) (by simp) fun Q hr hn hp => ?_
  repeat' first | (refine hK _ ?_; clear hK) | (refine hK _ _ ?_; clear hK) | (clear hK; refine hK _ ?_; clear hK) | (clear hK; clear hK; refine hK _ ?_; clear hK) | (clear hK; clear hK; clear hK; refine hK _ ?_; clear hK) | (clear hK; clear hK; clear hK; clear hK; refine hK _ ?_; clear hK) | (refine wSeq fun K hK => ?_) | ((first | refine wReg ?_ | refine wDrwQ rfl (by kernel_rfl) ?_ | refine wDrwI ?_ | refine wDrw (by kernel_rfl) ?_); simp only [List.map_cons, List.map_nil, strip]) | ((first | refine wIs fun K hK => ?_ | refine wOs fun K hK => ?_ | refine wQs fun K hK => ?_ | refine CallK_plain ?_ | refine CallQ_plain ?_ | refine CallR_plain ?_ | refine wCond ?_); simp) | (refine wIn ?_; refine And.intro (by kernel_rfl) ?_; try simp only [thenA_n]) | (first | refine wBlock ?_ | refine wScope ?_) | ((first | refine wRet ?_ | refine wExit ?_ | refine wSkip ?_); try simp) | ((first | refine wLabel ?_ | refine wOn ?_ | refine wQn ?_); try simp only [thenA_n])
  all_goals first | apply hn | apply hr
  all_goals refine ⟨[], by simp, by simp, ?_⟩
  all_goals simp [Try.f52, outR, outB, renB, gaN, lv, ouN, kpI, kpR, pos, ren, ren0, renC, renCs, renF, renFs]
/-- Whom a word of that kind is handed. -/
def hearsF (k : Int) : FuncId := if k = 11 then 48 else if k = 12 then 49 else if k = 15 then 50 else if k = 13 ∨ k = 14 then 51 else 52
theorem hears_con (k : Int) : ACon Try.prog 32 [.ptr 1024 0, .p (I k)] (.clo ⟨hearsF k, true⟩ [.box 1024]) := by
  unfold hearsF
  by_cases h1 : k = 11
  · subst h1
    refine wBody Try.tab Try.mixed Try.func32 rfl rfl Try.ntmps32 (by simp) (by simp) fun Q hr hn => ?_
    repeat' first | (refine hK _ ?_; clear hK) | (refine hK _ _ ?_; clear hK) | (clear hK; refine hK _ ?_; clear hK) | (clear hK; clear hK; refine hK _ ?_; clear hK) | (clear hK; clear hK; clear hK; refine hK _ ?_; clear hK) | (clear hK; clear hK; clear hK; clear hK; refine hK _ ?_; clear hK) | (refine wSeq fun K hK => ?_) | ((first | refine wReg ?_ | refine wDrwQ rfl (by kernel_rfl) ?_ | refine wDrwI ?_ | refine wDrw (by kernel_rfl) ?_); simp only [List.map_cons, List.map_nil, strip]) | ((first | refine wIs fun K hK => ?_ | refine wOs fun K hK => ?_ | refine wQs fun K hK => ?_ | refine CallK_plain ?_ | refine CallQ_plain ?_ | refine CallR_plain ?_ | refine wCond ?_); simp) | (refine wIn ?_; refine And.intro (by kernel_rfl) ?_; try simp only [thenA_n]) | (first | refine wBlock ?_ | refine wScope ?_) | ((first | refine wRet ?_ | refine wExit ?_ | refine wSkip ?_); try simp) | ((first | refine wLabel ?_ | refine wOn ?_ | refine wQn ?_); try simp only [thenA_n])
    all_goals first | apply hn | apply hr
    all_goals simp [Try.f32, outR, outB, renB, gaN, lv, ouN, kpI, kpR, pos, ren, ren0, renC, renCs, renF, renFs]
  by_cases h2 : k = 12
  · subst h2
    refine wBody Try.tab Try.mixed Try.func32 rfl rfl Try.ntmps32 (by simp) (by simp) fun Q hr hn => ?_
    repeat' first | (refine hK _ ?_; clear hK) | (refine hK _ _ ?_; clear hK) | (clear hK; refine hK _ ?_; clear hK) | (clear hK; clear hK; refine hK _ ?_; clear hK) | (clear hK; clear hK; clear hK; refine hK _ ?_; clear hK) | (clear hK; clear hK; clear hK; clear hK; refine hK _ ?_; clear hK) | (refine wSeq fun K hK => ?_) | ((first | refine wReg ?_ | refine wDrwQ rfl (by kernel_rfl) ?_ | refine wDrwI ?_ | refine wDrw (by kernel_rfl) ?_); simp only [List.map_cons, List.map_nil, strip]) | ((first | refine wIs fun K hK => ?_ | refine wOs fun K hK => ?_ | refine wQs fun K hK => ?_ | refine CallK_plain ?_ | refine CallQ_plain ?_ | refine CallR_plain ?_ | refine wCond ?_); simp) | (refine wIn ?_; refine And.intro (by kernel_rfl) ?_; try simp only [thenA_n]) | (first | refine wBlock ?_ | refine wScope ?_) | ((first | refine wRet ?_ | refine wExit ?_ | refine wSkip ?_); try simp) | ((first | refine wLabel ?_ | refine wOn ?_ | refine wQn ?_); try simp only [thenA_n])
    all_goals first | apply hn | apply hr
    all_goals simp [Try.f32, outR, outB, renB, gaN, lv, ouN, kpI, kpR, pos, ren, ren0, renC, renCs, renF, renFs]
  by_cases h3 : k = 15
  · subst h3
    refine wBody Try.tab Try.mixed Try.func32 rfl rfl Try.ntmps32 (by simp) (by simp) fun Q hr hn => ?_
    repeat' first | (refine hK _ ?_; clear hK) | (refine hK _ _ ?_; clear hK) | (clear hK; refine hK _ ?_; clear hK) | (clear hK; clear hK; refine hK _ ?_; clear hK) | (clear hK; clear hK; clear hK; refine hK _ ?_; clear hK) | (clear hK; clear hK; clear hK; clear hK; refine hK _ ?_; clear hK) | (refine wSeq fun K hK => ?_) | ((first | refine wReg ?_ | refine wDrwQ rfl (by kernel_rfl) ?_ | refine wDrwI ?_ | refine wDrw (by kernel_rfl) ?_); simp only [List.map_cons, List.map_nil, strip]) | ((first | refine wIs fun K hK => ?_ | refine wOs fun K hK => ?_ | refine wQs fun K hK => ?_ | refine CallK_plain ?_ | refine CallQ_plain ?_ | refine CallR_plain ?_ | refine wCond ?_); simp) | (refine wIn ?_; refine And.intro (by kernel_rfl) ?_; try simp only [thenA_n]) | (first | refine wBlock ?_ | refine wScope ?_) | ((first | refine wRet ?_ | refine wExit ?_ | refine wSkip ?_); try simp) | ((first | refine wLabel ?_ | refine wOn ?_ | refine wQn ?_); try simp only [thenA_n])
    all_goals first | apply hn | apply hr
    all_goals simp [Try.f32, outR, outB, renB, gaN, lv, ouN, kpI, kpR, pos, ren, ren0, renC, renCs, renF, renFs]
  by_cases h4 : k = 13
  · subst h4
    refine wBody Try.tab Try.mixed Try.func32 rfl rfl Try.ntmps32 (by simp) (by simp) fun Q hr hn => ?_
    repeat' first | (refine hK _ ?_; clear hK) | (refine hK _ _ ?_; clear hK) | (clear hK; refine hK _ ?_; clear hK) | (clear hK; clear hK; refine hK _ ?_; clear hK) | (clear hK; clear hK; clear hK; refine hK _ ?_; clear hK) | (clear hK; clear hK; clear hK; clear hK; refine hK _ ?_; clear hK) | (refine wSeq fun K hK => ?_) | ((first | refine wReg ?_ | refine wDrwQ rfl (by kernel_rfl) ?_ | refine wDrwI ?_ | refine wDrw (by kernel_rfl) ?_); simp only [List.map_cons, List.map_nil, strip]) | ((first | refine wIs fun K hK => ?_ | refine wOs fun K hK => ?_ | refine wQs fun K hK => ?_ | refine CallK_plain ?_ | refine CallQ_plain ?_ | refine CallR_plain ?_ | refine wCond ?_); simp) | (refine wIn ?_; refine And.intro (by kernel_rfl) ?_; try simp only [thenA_n]) | (first | refine wBlock ?_ | refine wScope ?_) | ((first | refine wRet ?_ | refine wExit ?_ | refine wSkip ?_); try simp) | ((first | refine wLabel ?_ | refine wOn ?_ | refine wQn ?_); try simp only [thenA_n])
    all_goals first | apply hn | apply hr
    all_goals simp [Try.f32, outR, outB, renB, gaN, lv, ouN, kpI, kpR, pos, ren, ren0, renC, renCs, renF, renFs]
  by_cases h5 : k = 14
  · subst h5
    refine wBody Try.tab Try.mixed Try.func32 rfl rfl Try.ntmps32 (by simp) (by simp) fun Q hr hn => ?_
    repeat' first | (refine hK _ ?_; clear hK) | (refine hK _ _ ?_; clear hK) | (clear hK; refine hK _ ?_; clear hK) | (clear hK; clear hK; refine hK _ ?_; clear hK) | (clear hK; clear hK; clear hK; refine hK _ ?_; clear hK) | (clear hK; clear hK; clear hK; clear hK; refine hK _ ?_; clear hK) | (refine wSeq fun K hK => ?_) | ((first | refine wReg ?_ | refine wDrwQ rfl (by kernel_rfl) ?_ | refine wDrwI ?_ | refine wDrw (by kernel_rfl) ?_); simp only [List.map_cons, List.map_nil, strip]) | ((first | refine wIs fun K hK => ?_ | refine wOs fun K hK => ?_ | refine wQs fun K hK => ?_ | refine CallK_plain ?_ | refine CallQ_plain ?_ | refine CallR_plain ?_ | refine wCond ?_); simp) | (refine wIn ?_; refine And.intro (by kernel_rfl) ?_; try simp only [thenA_n]) | (first | refine wBlock ?_ | refine wScope ?_) | ((first | refine wRet ?_ | refine wExit ?_ | refine wSkip ?_); try simp) | ((first | refine wLabel ?_ | refine wOn ?_ | refine wQn ?_); try simp only [thenA_n])
    all_goals first | apply hn | apply hr
    all_goals simp [Try.f32, outR, outB, renB, gaN, lv, ouN, kpI, kpR, pos, ren, ren0, renC, renCs, renF, renFs]
  rw [if_neg h1, if_neg h2, if_neg h3, if_neg (by omega)]
  refine wBody Try.tab Try.mixed Try.func32 rfl rfl Try.ntmps32 (by simp) (by simp) fun Q hr hn => ?_
  repeat' first | (refine hK _ ?_; clear hK) | (refine hK _ _ ?_; clear hK) | (clear hK; refine hK _ ?_; clear hK) | (clear hK; clear hK; refine hK _ ?_; clear hK) | (clear hK; clear hK; clear hK; refine hK _ ?_; clear hK) | (clear hK; clear hK; clear hK; clear hK; refine hK _ ?_; clear hK) | (refine wSeq fun K hK => ?_) | ((first | refine wReg ?_ | refine wDrwQ rfl (by kernel_rfl) ?_ | refine wDrwI ?_ | refine wDrw (by kernel_rfl) ?_); simp only [List.map_cons, List.map_nil, strip]) | ((first | refine wIs fun K hK => ?_ | refine wOs fun K hK => ?_ | refine wQs fun K hK => ?_ | refine CallK_plain ?_ | refine CallQ_plain ?_ | refine CallR_plain ?_ | refine wCond ?_); simp [h1, h2, h3, h4, h5]) | (refine wIn ?_; refine And.intro (by kernel_rfl) ?_; try simp only [thenA_n]) | (first | refine wBlock ?_ | refine wScope ?_) | ((first | refine wRet ?_ | refine wExit ?_ | refine wSkip ?_); try simp) | ((first | refine wLabel ?_ | refine wOn ?_ | refine wQn ?_); try simp only [thenA_n])
  all_goals first | apply hn | apply hr
  all_goals simp [Try.f32, outR, outB, renB, gaN, lv, ouN, kpI, kpR, pos, ren, ren0, renC, renCs, renF, renFs]
end Go.Proofs.Ytefhnofdfnmiaaa
