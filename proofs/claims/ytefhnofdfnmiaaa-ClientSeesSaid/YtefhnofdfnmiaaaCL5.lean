/- Clients: a word heard. -/
import Derived.Test.YtefhnofdfnmiaaaCL4
namespace Go.Proofs.Ytefhnofdfnmiaaa
set_option linter.unusedSimpArgs false
set_option linter.unusedVariables false
set_option maxRecDepth 8000
open Go Go.Av
attribute [local simp] Try.T1 Try.T2 Try.T3 Try.T4 Try.T5 Try.T9 Try.T12 Try.T15 Try.T16 Try.T17 Try.T21 Try.T22 Try.T23 Try.T24 Try.T26 Try.T27 Try.T29 Try.T30 Try.T32 Try.T33 Try.T34 Try.T35 Try.T36 Try.T38 Try.T40 Try.T42 Try.T43 Try.T45 Try.T47 Try.T49 Try.T50 Try.T51 Try.T53 Try.T54 Try.T55 Try.T56 Try.T57 Try.T59 Try.T61 Try.T63 Try.T65 Try.T66 Try.T67 Try.T69 Try.T70 Try.T71 Try.T72 Try.T73 Try.T74 Try.T75 Try.T76 Try.T78 Try.T79 Try.T80 Try.T81 Try.T82 Try.T83 Try.T84 Try.T85 Try.T86 Try.T87 Try.T88 Try.T89 Try.T90 Try.T91 Try.T92 Try.T93 Try.T94 Try.T95 Try.T96 Try.T97 Try.T98 Try.T99 Try.T101 Try.T102 Try.T103 Try.T104 Try.T105 Try.T106 Try.T107 Try.T108 Try.T109 Try.T112 Try.T115 Try.T116 Try.T119 Try.T120
attribute [local irreducible] Go.Av.CallK Go.Av.CallE Go.Av.CallQ Go.Av.CallF Go.Av.CallR Go.Av.CallH Go.Av.Con
def forC (c : Cl) (w : Wd) : Prop := w.cl = c.id ∧ w.sv = c.sv ∧ ¬ c.ph = 0
instance (c : Cl) (w : Wd) : Decidable (forC c w) := by unfold forC; infer_instance
set_option maxHeartbeats 2000000 in
theorem hear0_con (c c' : Cl) (w : Wd) (F : FuncId) (hn : c.nt.length ≤ 1000000) (hf : forC c w) (hF : hearsF w.kd = F) (c3 : Con Try.prog F [.ptr 1024 0, .p (.agg w.cells)] (hW c) (.ret (.tup []) [] (hW c'))) : ACon Try.prog 16 [.p (.agg c.cells), .p (.agg w.cells)] (.tup [.p (.agg c'.cells), .p (.sl 36 [])]) := by
  have c1 := hearing_con c hn
  have c2 := hears_con w.kd
  rw [hF] at c2
  obtain ⟨f1, f2, f3⟩ := hf
  have f1' : (w.cl = c.id) = True := eq_true f1
  have f2' : (w.sv = c.sv) = True := eq_true f2
  have f3' : (c.ph = 0) = False := eq_false f3
  clear f1 f2 f3
  unfold hW hBx at *
  unfold Cl.cells Wd.cells at *
  refine wBody Try.tab Try.mixed Try.func16 rfl rfl Try.ntmps16 (by simp) (by simp) fun Q hr hn => ?_
  repeat' first | (refine CallK_gen [] (c1) (by decide) (by decide) (by simp [blksOf]) (by simp [argsG, argG, ren0, inN, pos, renCs, renC, toP, toPF]) ⟨[500, 501], by simp, by simp, ?_⟩; simp [lv, ouN, kpI, kpR, pos, ren, ren0, renB, renC, renCs, renF, renFs]) | (refine wDrwT (id := 3) 5 (by kernel_rfl) ?_; simp only [List.map_cons, List.map_nil, strip, List.take_succ_cons, List.take_zero, List.drop_succ_cons, List.drop_zero]) | (refine CallQ_opq [500] c2 (by decide) (by simp [argsG, argG, ren0, inN, pos, renCs, renC]) ?_; simp [lv, ouN, kpI, kpR, pos, ren, ren0, renB, renC, renCs, renF, renFs]) | (refine CallK_gen [500, 501] (c3) (by decide) (by decide) (by simp [blksOf, inN, pos, renB, renC, renCs, ren0, lv, ouN, kpI, kpR]) (by simp [argsG, argG, ren0, inN, pos, renCs, renC]) ⟨[], by simp, by simp, ?_⟩; simp [lv, ouN, kpI, kpR, pos, ren, ren0, renB, renC, renCs, renF, renFs]) | (refine hK _ ?_; clear hK) | (refine hK _ _ ?_; clear hK) | (clear hK; refine hK _ ?_; clear hK) | (clear hK; clear hK; refine hK _ ?_; clear hK) | (clear hK; clear hK; clear hK; refine hK _ ?_; clear hK) | (clear hK; clear hK; clear hK; clear hK; refine hK _ ?_; clear hK) | (refine wSeq fun K hK => ?_) | ((first | refine wReg ?_ | refine wDrwQ rfl (by kernel_rfl) ?_ | refine wDrwI ?_ | refine wDrw (by kernel_rfl) ?_); simp only [List.map_cons, List.map_nil, strip]) | ((first | refine wIs fun K hK => ?_ | refine wOs fun K hK => ?_ | refine wQs fun K hK => ?_ | refine CallK_plain ?_ | refine CallQ_plain ?_ | refine CallR_plain ?_ | refine wCond ?_); simp [lv, ouN, kpI, kpR, pos, ren, ren0, renB, renC, renCs, renF, renFs, f1', f2', f3']) | (refine wIn ?_; refine And.intro (by kernel_rfl) ?_; try simp only [thenA_n]) | (first | refine wBlock ?_ | refine wScope ?_) | ((first | refine wRet ?_ | refine wExit ?_ | refine wSkip ?_); try simp) | ((first | refine wLabel ?_ | refine wOn ?_ | refine wQn ?_); try simp only [thenA_n])
  all_goals first | apply hn | apply hr
  all_goals simp [Try.f16, lv, ouN, kpI, kpR, pos, ren, ren0, renB, renC, renCs, renF, renFs]
set_option maxHeartbeats 2000000 in
theorem hear1_con (c c' : Cl) (w : Wd) (F : FuncId) (rs : List (List PV)) (hn : c.nt.length ≤ 1000000) (hf : forC c w) (hF : hearsF w.kd = F) (c3 : Con Try.prog F [.ptr 1024 0, .p (.agg w.cells)] (hW c) (.ret (.tup []) [.row 59 36 rs] (hW1 c'))) : ACon Try.prog 16 [.p (.agg c.cells), .p (.agg w.cells)] (.tup [.p (.agg c'.cells), .p (.sl 36 rs)]) := by
  have c1 := hearing_con c hn
  have c2 := hears_con w.kd
  rw [hF] at c2
  obtain ⟨f1, f2, f3⟩ := hf
  have f1' : (w.cl = c.id) = True := eq_true f1
  have f2' : (w.sv = c.sv) = True := eq_true f2
  have f3' : (c.ph = 0) = False := eq_false f3
  clear f1 f2 f3
  unfold hW hW1 hBx at *
  unfold Cl.cells Wd.cells at *
  refine wBody Try.tab Try.mixed Try.func16 rfl rfl Try.ntmps16 (by simp) (by simp) fun Q hr hn => ?_
  repeat' first | (refine CallK_gen [] (c1) (by decide) (by decide) (by simp [blksOf]) (by simp [argsG, argG, ren0, inN, pos, renCs, renC, toP, toPF]) ⟨[500, 501], by simp, by simp, ?_⟩; simp [lv, ouN, kpI, kpR, pos, ren, ren0, renB, renC, renCs, renF, renFs]) | (refine wDrwT (id := 3) 5 (by kernel_rfl) ?_; simp only [List.map_cons, List.map_nil, strip, List.take_succ_cons, List.take_zero, List.drop_succ_cons, List.drop_zero]) | (refine CallQ_opq [500] c2 (by decide) (by simp [argsG, argG, ren0, inN, pos, renCs, renC]) ?_; simp [lv, ouN, kpI, kpR, pos, ren, ren0, renB, renC, renCs, renF, renFs]) | (refine CallK_gen [500, 501] (c3) (by decide) (by decide) (by simp [blksOf, inN, pos, renB, renC, renCs, ren0, lv, ouN, kpI, kpR]) (by simp [argsG, argG, ren0, inN, pos, renCs, renC]) ⟨[502], by simp, by simp, ?_⟩; simp [lv, ouN, kpI, kpR, pos, ren, ren0, renB, renC, renCs, renF, renFs]) | (refine hK _ ?_; clear hK) | (refine hK _ _ ?_; clear hK) | (clear hK; refine hK _ ?_; clear hK) | (clear hK; clear hK; refine hK _ ?_; clear hK) | (clear hK; clear hK; clear hK; refine hK _ ?_; clear hK) | (clear hK; clear hK; clear hK; clear hK; refine hK _ ?_; clear hK) | (refine wSeq fun K hK => ?_) | ((first | refine wReg ?_ | refine wDrwQ rfl (by kernel_rfl) ?_ | refine wDrwI ?_ | refine wDrw (by kernel_rfl) ?_); simp only [List.map_cons, List.map_nil, strip]) | ((first | refine wIs fun K hK => ?_ | refine wOs fun K hK => ?_ | refine wQs fun K hK => ?_ | refine CallK_plain ?_ | refine CallQ_plain ?_ | refine CallR_plain ?_ | refine wCond ?_); simp [lv, ouN, kpI, kpR, pos, ren, ren0, renB, renC, renCs, renF, renFs, f1', f2', f3']) | (refine wIn ?_; refine And.intro (by kernel_rfl) ?_; try simp only [thenA_n]) | (first | refine wBlock ?_ | refine wScope ?_) | ((first | refine wRet ?_ | refine wExit ?_ | refine wSkip ?_); try simp) | ((first | refine wLabel ?_ | refine wOn ?_ | refine wQn ?_); try simp only [thenA_n])
  all_goals first | apply hn | apply hr
  all_goals simp [Try.f16, lv, ouN, kpI, kpR, pos, ren, ren0, renB, renC, renCs, renF, renFs]
set_option maxHeartbeats 2000000 in
theorem hearN_con (c : Cl) (w : Wd) (hn : c.nt.length ≤ 1000000) (hf : ¬ forC c w) : ACon Try.prog 16 [.p (.agg c.cells), .p (.agg w.cells)] (.tup [.p (.agg c.cells), .p (.sl 36 [])]) := by
  have c1 := hearing_con c hn
  unfold forC at hf
  unfold hBx at *
  unfold Cl.cells Wd.cells at *
  by_cases f1 : w.cl = c.id
  · by_cases f2 : w.sv = c.sv
    · have f3 : c.ph = 0 := Decidable.byContradiction fun h => hf ⟨f1, f2, h⟩
      have f1' : (w.cl = c.id) = True := eq_true f1
      have f2' : (w.sv = c.sv) = True := eq_true f2
      have f3' : (c.ph = 0) = True := eq_true f3
      refine wBody Try.tab Try.mixed Try.func16 rfl rfl Try.ntmps16 (by simp) (by simp) fun Q hr hn => ?_
      repeat' first | (refine CallK_gen [] (c1) (by decide) (by decide) (by simp [blksOf]) (by simp [argsG, argG, ren0, inN, pos, renCs, renC, toP, toPF]) ⟨[500, 501], by simp, by simp, ?_⟩; simp [lv, ouN, kpI, kpR, pos, ren, ren0, renB, renC, renCs, renF, renFs]) | (refine hK _ ?_; clear hK) | (refine hK _ _ ?_; clear hK) | (clear hK; refine hK _ ?_; clear hK) | (clear hK; clear hK; refine hK _ ?_; clear hK) | (clear hK; clear hK; clear hK; refine hK _ ?_; clear hK) | (clear hK; clear hK; clear hK; clear hK; refine hK _ ?_; clear hK) | (refine wSeq fun K hK => ?_) | ((first | refine wReg ?_ | refine wDrwQ rfl (by kernel_rfl) ?_ | refine wDrwI ?_ | refine wDrw (by kernel_rfl) ?_); simp only [List.map_cons, List.map_nil, strip]) | ((first | refine wIs fun K hK => ?_ | refine wOs fun K hK => ?_ | refine wQs fun K hK => ?_ | refine CallK_plain ?_ | refine CallQ_plain ?_ | refine CallR_plain ?_ | refine wCond ?_); simp [lv, ouN, kpI, kpR, pos, ren, ren0, renB, renC, renCs, renF, renFs, f1', f2', f3']) | (refine wIn ?_; refine And.intro (by kernel_rfl) ?_; try simp only [thenA_n]) | (first | refine wBlock ?_ | refine wScope ?_) | ((first | refine wRet ?_ | refine wExit ?_ | refine wSkip ?_); try simp) | ((first | refine wLabel ?_ | refine wOn ?_ | refine wQn ?_); try simp only [thenA_n])
      all_goals first | apply hn | apply hr
      all_goals simp [Try.f16, lv, ouN, kpI, kpR, pos, ren, ren0, renB, renC, renCs, renF, renFs]
    · have f1' : (w.cl = c.id) = True := eq_true f1
      have f2' : (w.sv = c.sv) = False := eq_false f2
      refine wBody Try.tab Try.mixed Try.func16 rfl rfl Try.ntmps16 (by simp) (by simp) fun Q hr hn => ?_
      repeat' first | (refine CallK_gen [] (c1) (by decide) (by decide) (by simp [blksOf]) (by simp [argsG, argG, ren0, inN, pos, renCs, renC, toP, toPF]) ⟨[500, 501], by simp, by simp, ?_⟩; simp [lv, ouN, kpI, kpR, pos, ren, ren0, renB, renC, renCs, renF, renFs]) | (refine hK _ ?_; clear hK) | (refine hK _ _ ?_; clear hK) | (clear hK; refine hK _ ?_; clear hK) | (clear hK; clear hK; refine hK _ ?_; clear hK) | (clear hK; clear hK; clear hK; refine hK _ ?_; clear hK) | (clear hK; clear hK; clear hK; clear hK; refine hK _ ?_; clear hK) | (refine wSeq fun K hK => ?_) | ((first | refine wReg ?_ | refine wDrwQ rfl (by kernel_rfl) ?_ | refine wDrwI ?_ | refine wDrw (by kernel_rfl) ?_); simp only [List.map_cons, List.map_nil, strip]) | ((first | refine wIs fun K hK => ?_ | refine wOs fun K hK => ?_ | refine wQs fun K hK => ?_ | refine CallK_plain ?_ | refine CallQ_plain ?_ | refine CallR_plain ?_ | refine wCond ?_); simp [lv, ouN, kpI, kpR, pos, ren, ren0, renB, renC, renCs, renF, renFs, f1', f2']) | (refine wIn ?_; refine And.intro (by kernel_rfl) ?_; try simp only [thenA_n]) | (first | refine wBlock ?_ | refine wScope ?_) | ((first | refine wRet ?_ | refine wExit ?_ | refine wSkip ?_); try simp) | ((first | refine wLabel ?_ | refine wOn ?_ | refine wQn ?_); try simp only [thenA_n])
      all_goals first | apply hn | apply hr
      all_goals simp [Try.f16, lv, ouN, kpI, kpR, pos, ren, ren0, renB, renC, renCs, renF, renFs]
  · have f1' : (w.cl = c.id) = False := eq_false f1
    refine wBody Try.tab Try.mixed Try.func16 rfl rfl Try.ntmps16 (by simp) (by simp) fun Q hr hn => ?_
    repeat' first | (refine CallK_gen [] (c1) (by decide) (by decide) (by simp [blksOf]) (by simp [argsG, argG, ren0, inN, pos, renCs, renC, toP, toPF]) ⟨[500, 501], by simp, by simp, ?_⟩; simp [lv, ouN, kpI, kpR, pos, ren, ren0, renB, renC, renCs, renF, renFs]) | (refine hK _ ?_; clear hK) | (refine hK _ _ ?_; clear hK) | (clear hK; refine hK _ ?_; clear hK) | (clear hK; clear hK; refine hK _ ?_; clear hK) | (clear hK; clear hK; clear hK; refine hK _ ?_; clear hK) | (clear hK; clear hK; clear hK; clear hK; refine hK _ ?_; clear hK) | (refine wSeq fun K hK => ?_) | ((first | refine wReg ?_ | refine wDrwQ rfl (by kernel_rfl) ?_ | refine wDrwI ?_ | refine wDrw (by kernel_rfl) ?_); simp only [List.map_cons, List.map_nil, strip]) | ((first | refine wIs fun K hK => ?_ | refine wOs fun K hK => ?_ | refine wQs fun K hK => ?_ | refine CallK_plain ?_ | refine CallQ_plain ?_ | refine CallR_plain ?_ | refine wCond ?_); simp [lv, ouN, kpI, kpR, pos, ren, ren0, renB, renC, renCs, renF, renFs, f1']) | (refine wIn ?_; refine And.intro (by kernel_rfl) ?_; try simp only [thenA_n]) | (first | refine wBlock ?_ | refine wScope ?_) | ((first | refine wRet ?_ | refine wExit ?_ | refine wSkip ?_); try simp) | ((first | refine wLabel ?_ | refine wOn ?_ | refine wQn ?_); try simp only [thenA_n])
    all_goals first | apply hn | apply hr
    all_goals simp [Try.f16, lv, ouN, kpI, kpR, pos, ren, ren0, renB, renC, renCs, renF, renFs]
def hearC (c : Cl) (w : Wd) : Cl × List (List PV) :=
  if forC c w then
    (if w.kd = 11 then (openC c w, []) else if w.kd = 12 then (endC (noC c w), rsE c) else if w.kd = 15 then (noteC c w, [])
    else if w.kd = 13 ∨ w.kd = 14 then (if goodT c w then (endC (seeC c w.ae w.an), [rsC c.id c.wt false w]) else (c, [])) else (c, []))
  else (c, [])
theorem hear_con (c : Cl) (w : Wd) (hn : c.nt.length ≤ 1000000) (hw : OkW w) : ACon Try.prog 16 [.p (.agg c.cells), .p (.agg w.cells)] (.tup [.p (.agg (hearC c w).1.cells), .p (.sl 36 (hearC c w).2)]) := by
  unfold hearC
  by_cases hf : forC c w
  case neg => rw [if_neg hf]; exact hearN_con c w hn hf
  rw [if_pos hf]
  by_cases h1 : w.kd = 11
  · rw [if_pos h1]; exact hear0_con c _ w _ hn hf (by unfold hearsF; rw [if_pos h1]) (openM_con c w)
  rw [if_neg h1]
  by_cases h2 : w.kd = 12
  · rw [if_pos h2]
    have e : hearsF w.kd = 49 := by unfold hearsF; rw [if_neg h1, if_pos h2]
    unfold rsE
    by_cases h0 : c.wt = 0
    · rw [if_pos h0]; exact hear0_con c _ w _ hn hf e (no0_con c w h0)
    · rw [if_neg h0]; exact hear1_con c _ w _ _ hn hf e (no1_con c w h0)
  rw [if_neg h2]
  by_cases h3 : w.kd = 15
  · rw [if_pos h3]; exact hear0_con c _ w _ hn hf (by unfold hearsF; rw [if_neg h1, if_neg h2, if_pos h3]) (note_con c w hn)
  rw [if_neg h3]
  by_cases h4 : w.kd = 13 ∨ w.kd = 14
  · rw [if_pos h4]
    have e : hearsF w.kd = 51 := by unfold hearsF; rw [if_neg h1, if_neg h2, if_neg h3, if_pos h4]
    by_cases hg : goodT c w
    · rw [if_pos hg]; exact hear1_con c _ w _ _ hn hf e (told1_con c w hg hw)
    · rw [if_neg hg]; exact hear0_con c _ w _ hn hf e (told0_con c w hg)
  · rw [if_neg h4]; exact hear0_con c _ w _ hn hf (by unfold hearsF; rw [if_neg h1, if_neg h2, if_neg h3, if_neg h4]) (nothing_con c w)
end Go.Proofs.Ytefhnofdfnmiaaa
