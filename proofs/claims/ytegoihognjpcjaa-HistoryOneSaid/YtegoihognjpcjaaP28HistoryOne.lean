/- Texts that the proof needs: AW16 HW. -/
import Derived.Test.YtegoihognjpcjaaP27HistoryOne
/- awake of layer 16. -/
namespace Go.Proofs.Ytegoihognjpcjaa
set_option linter.unusedSimpArgs false
set_option linter.unusedVariables false
open Go Go.Av
attribute [local simp] Try.T1 Try.T2 Try.T3 Try.T4 Try.T5 Try.T9 Try.T12 Try.T15 Try.T16 Try.T17 Try.T21 Try.T22 Try.T23 Try.T25 Try.T26 Try.T28 Try.T30 Try.T31 Try.T33 Try.T34 Try.T35 Try.T36 Try.T37 Try.T38 Try.T40 Try.T42 Try.T43 Try.T44 Try.T45 Try.T46 Try.T48 Try.T49 Try.T50 Try.T51 Try.T52 Try.T53 Try.T54 Try.T55 Try.T56 Try.T57 Try.T58 Try.T59 Try.T60 Try.T61 Try.T62 Try.T64 Try.T66 Try.T67 Try.T68 Try.T69 Try.T70 Try.T71 Try.T72 Try.T73 Try.T74 Try.T75 Try.T76 Try.T77 Try.T78 Try.T80 Try.T81 Try.T82 Try.T83 Try.T84 Try.T85 Try.T86 Try.T88 Try.T89 Try.T90 Try.T91 Try.T92 Try.T93 Try.T94 Try.T95 Try.T96 Try.T97 Try.T98 Try.T99 Try.T100 Try.T101 Try.T102 Try.T103 Try.T104 Try.T105 Try.T106 Try.T107 Try.T108 Try.T109 Try.T110 Try.T111 Try.T112 Try.T113 Try.T116 Try.T119 Try.T120 Try.T123 Try.T124
attribute [local irreducible] Go.Av.CallK Go.Av.CallE Go.Av.CallQ Go.Av.CallF Go.Av.CallR Go.Av.CallH Go.Av.Con
def txA (e n : Int) : Tx := ⟨e, n, 0, 0, 0, 0, [], []⟩
def hyA (l : List Tx) : Hy := ⟨{ ns := [], ss := [], nx := 0, c := ⟨0, 0, 0, []⟩, ae := 0, an := 0 }, l⟩
theorem txn16_con (e n : Int) : ACon Try.prog 26 [.p (I e), .p (I n)] (.p (.agg [I e, I n, I 0, I 0, I 0, I 0, SB [], .sl 11 []])) := by
  refine wBody Try.tab Try.mixed Try.func26 rfl rfl Try.ntmps26 (by simp) (by simp) fun Q hr hn => ?_
  repeat' first | (refine hK _ ?_; clear hK) | (refine hK _ _ ?_; clear hK) | (clear hK; refine hK _ ?_; clear hK) | (clear hK; clear hK; refine hK _ ?_; clear hK) | (clear hK; clear hK; clear hK; refine hK _ ?_; clear hK) | (clear hK; clear hK; clear hK; clear hK; refine hK _ ?_; clear hK) | (refine wSeq fun K hK => ?_) | ((first | refine wReg ?_ | refine wDrwQ rfl (by kernel_rfl) ?_ | refine wDrwI ?_ | refine wDrw (by kernel_rfl) ?_); simp only [List.map_cons, List.map_nil, strip]) | ((first | refine wIs fun K hK => ?_ | refine wOs fun K hK => ?_ | refine wQs fun K hK => ?_ | refine CallK_plain ?_ | refine CallQ_plain ?_ | refine CallR_plain ?_ | refine wCond ?_); simp) | (refine wIn ?_; refine And.intro (by kernel_rfl) ?_; try simp only [thenA_n]) | (first | refine wBlock ?_ | refine wScope ?_) | ((first | refine wRet ?_ | refine wExit ?_ | refine wSkip ?_); try simp) | ((first | refine wLabel ?_ | refine wOn ?_ | refine wQn ?_); try simp only [thenA_n])
  all_goals apply hr
  all_goals simp [Try.f26]
abbrev rowA (e n : Int) : List PV := [I e, I n, I 0, I 0, I 0, I 0, SB [], .sl 11 []]
abbrev cellsA (l : List (List PV)) : List PV := [.sl 5 [], .sl 1 [], I 0, I 0, I 0, I 0, .sl 4 [], I 0, I 0, .sl 8 l]
theorem okHA (l : List Tx) (hl : l.length ≤ 3) (h : ∀ t ∈ l, t.ps = []) : OkH (hyA l) := by
  refine ⟨by simp [hyA], by simp [hyA], by simp [hyA], by simp only [hyA]; omega, fun t ht => ?_, ?_⟩
  · rw [h t ht]; simp
  · simp only [hyA]
    have : ∀ l : List Tx, (∀ t ∈ l, t.ps = []) → (l.map fun t => t.ps.length).sum = 0 := by
      intro l
      induction l with
      | nil => intro _; rfl
      | cons t l ih => intro h; simp only [List.map_cons, List.sum_cons, ih fun t ht => h t (List.mem_cons_of_mem _ ht), h t (by simp)]; rfl
    rw [this l h]; omega
theorem do16_con : ACon Try.prog 14 [.p (.agg (cellsA [rowA 1 1, rowA 1 2, rowA 2 1])), .p (.agg [I 2, I 1, I 2, .sl 5 [], .sl 1 [], I 0, I 0, I 0, I 0, .sl 4 [], I 0, I 0, .sl 8 [rowA 3 1]])] (.tup [.p (.agg (cellsA [rowA 1 1, rowA 1 2, rowA 3 1])), .p (I 0)]) := by
  have c := doPlan_con (hyA [txA 1 1, txA 1 2, txA 2 1]) 2 ⟨1, 2⟩ [.sl 5 [], .sl 1 [], I 0, I 0, I 0, I 0, .sl 4 [], I 0, I 0] [txA 3 1] (.inr rfl) ⟨[], [], 0, 0, 0, 0, [], 0, 0, rfl⟩ (okHA _ (by simp) (by simp [txA])) (by simp) (by simp [txA])
  have e : doH (hyA [txA 1 1, txA 1 2, txA 2 1]) 2 ⟨1, 2⟩ [txA 3 1] = (hyA [txA 1 1, txA 1 2, txA 3 1], 0) := by decide
  rw [e] at c
  exact c
theorem same16_con : ACon Try.prog 15 [.p (.agg (cellsA [rowA 1 1, rowA 1 2, rowA 3 1])), .p (.agg (cellsA [rowA 1 1, rowA 1 2, rowA 3 1]))] (.p (B true)) :=
  xCall_sound Try.tab Try.mixed base_ok 40 _ _ _ _ (by kernel_rfl)
theorem marksA_con : ACon Try.prog 13 [.p (.agg (cellsA [rowA 1 1, rowA 1 2, rowA 2 1]))] (.p (.sl 2 [[I 0, I 0], [I 1, I 1], [I 1, I 2], [I 2, I 1]])) :=
  marks_con (hyA [txA 1 1, txA 1 2, txA 2 1]) (by simp [hyA])
theorem makeA_con : ACon Try.prog 12 [.p (.agg (cellsA [rowA 1 1, rowA 1 2, rowA 3 1])), .p (.sl 2 [[I 0, I 0], [I 1, I 1], [I 1, I 2], [I 2, I 1]])] (.p (.agg [I 2, I 1, I 2, .sl 5 [], .sl 1 [], I 0, I 0, I 0, I 0, .sl 4 [], I 0, I 0, .sl 8 [rowA 3 1]])) :=
  make_con (hyA [txA 1 1, txA 1 2, txA 3 1]) [⟨0, 0⟩, ⟨1, 1⟩, ⟨1, 2⟩, ⟨2, 1⟩] (okHA _ (by simp) (by simp [txA])) (by simp)
set_option maxHeartbeats 8000000 in
theorem awake16 : ACon Try.prog 7 [] (.p (B true)) := by
  have c1 := txn16_con 1 1
  have c2 := txn16_con 1 2
  have c3 := txn16_con 3 1
  have c4 := txn16_con 2 1
  have c5 := marksA_con
  have c6 := makeA_con
  have c7 := do16_con
  have c8 := same16_con
  refine wBody Try.tab Try.mixed Try.func7 rfl rfl Try.ntmps7 (by simp) (by simp) fun Q hr hn => ?_
  repeat' first | (refine CallE.pure (c1) rfl ?_) | (refine CallE.lent (c1) rfl ?_) | (refine CallF.pure (c1) rfl ?_) | (refine CallF.lent (c1) rfl ?_) | (refine CallE.own (c1) ?_) | (refine CallH.pure (c1) rfl ?_) | (refine CallH.lent (c1) rfl ?_) | (refine CallH.own (c1) ?_) | (refine CallE.pure (c2) rfl ?_) | (refine CallE.lent (c2) rfl ?_) | (refine CallF.pure (c2) rfl ?_) | (refine CallF.lent (c2) rfl ?_) | (refine CallE.own (c2) ?_) | (refine CallH.pure (c2) rfl ?_) | (refine CallH.lent (c2) rfl ?_) | (refine CallH.own (c2) ?_) | (refine CallE.pure (c3) rfl ?_) | (refine CallE.lent (c3) rfl ?_) | (refine CallF.pure (c3) rfl ?_) | (refine CallF.lent (c3) rfl ?_) | (refine CallE.own (c3) ?_) | (refine CallH.pure (c3) rfl ?_) | (refine CallH.lent (c3) rfl ?_) | (refine CallH.own (c3) ?_) | (refine CallE.pure (c4) rfl ?_) | (refine CallE.lent (c4) rfl ?_) | (refine CallF.pure (c4) rfl ?_) | (refine CallF.lent (c4) rfl ?_) | (refine CallE.own (c4) ?_) | (refine CallH.pure (c4) rfl ?_) | (refine CallH.lent (c4) rfl ?_) | (refine CallH.own (c4) ?_) | (refine CallE.pure (c5) rfl ?_) | (refine CallE.lent (c5) rfl ?_) | (refine CallF.pure (c5) rfl ?_) | (refine CallF.lent (c5) rfl ?_) | (refine CallE.own (c5) ?_) | (refine CallH.pure (c5) rfl ?_) | (refine CallH.lent (c5) rfl ?_) | (refine CallH.own (c5) ?_) | (refine CallE.pure (c6) rfl ?_) | (refine CallE.lent (c6) rfl ?_) | (refine CallF.pure (c6) rfl ?_) | (refine CallF.lent (c6) rfl ?_) | (refine CallE.own (c6) ?_) | (refine CallH.pure (c6) rfl ?_) | (refine CallH.lent (c6) rfl ?_) | (refine CallH.own (c6) ?_) | (refine CallE.pure (c7) rfl ?_) | (refine CallE.lent (c7) rfl ?_) | (refine CallF.pure (c7) rfl ?_) | (refine CallF.lent (c7) rfl ?_) | (refine CallE.own (c7) ?_) | (refine CallH.pure (c7) rfl ?_) | (refine CallH.lent (c7) rfl ?_) | (refine CallH.own (c7) ?_) | (refine CallE.pure (c8) rfl ?_) | (refine CallE.lent (c8) rfl ?_) | (refine CallF.pure (c8) rfl ?_) | (refine CallF.lent (c8) rfl ?_) | (refine CallE.own (c8) ?_) | (refine CallH.pure (c8) rfl ?_) | (refine CallH.lent (c8) rfl ?_) | (refine CallH.own (c8) ?_) | (refine hK _ ?_; clear hK) | (refine hK _ _ ?_; clear hK) | (clear hK; refine hK _ ?_; clear hK) | (clear hK; clear hK; refine hK _ ?_; clear hK) | (clear hK; clear hK; clear hK; refine hK _ ?_; clear hK) | (clear hK; clear hK; clear hK; clear hK; refine hK _ ?_; clear hK) | (refine wSeq fun K hK => ?_) | ((first | refine wReg ?_ | refine wDrwQ rfl (by kernel_rfl) ?_ | refine wDrwI ?_ | refine wDrw (by kernel_rfl) ?_); simp only [List.map_cons, List.map_nil, strip]) | ((first | refine wIs fun K hK => ?_ | refine wOs fun K hK => ?_ | refine wQs fun K hK => ?_ | refine CallK_plain ?_ | refine CallQ_plain ?_ | refine CallR_plain ?_ | refine wCond ?_); simp) | (refine wIn ?_; refine And.intro (by kernel_rfl) ?_; try simp only [thenA_n]) | (first | refine wBlock ?_ | refine wScope ?_) | ((first | refine wRet ?_ | refine wExit ?_ | refine wSkip ?_); try simp) | ((first | refine wLabel ?_ | refine wOn ?_ | refine wQn ?_); try simp only [thenA_n])
  all_goals apply hr
  all_goals simp [Try.f7]
end Go.Proofs.Ytegoihognjpcjaa


/- Histories: facts of what is needed; the law HistoryNeeds. -/
namespace Go.Proofs.Ytegoihognjpcjaa
set_option linter.unusedSimpArgs false
set_option linter.unusedVariables false
open Go Go.Av
attribute [local simp] Try.T1 Try.T2 Try.T3 Try.T4 Try.T5 Try.T9 Try.T12 Try.T15 Try.T16 Try.T17 Try.T21 Try.T22 Try.T23 Try.T25 Try.T26 Try.T28 Try.T30 Try.T31 Try.T33 Try.T34 Try.T35 Try.T36 Try.T37 Try.T38 Try.T40 Try.T42 Try.T43 Try.T44 Try.T45 Try.T46 Try.T48 Try.T49 Try.T50 Try.T51 Try.T52 Try.T53 Try.T54 Try.T55 Try.T56 Try.T57 Try.T58 Try.T59 Try.T60 Try.T61 Try.T62 Try.T64 Try.T66 Try.T67 Try.T68 Try.T69 Try.T70 Try.T71 Try.T72 Try.T73 Try.T74 Try.T75 Try.T76 Try.T77 Try.T78 Try.T80 Try.T81 Try.T82 Try.T83 Try.T84 Try.T85 Try.T86 Try.T88 Try.T89 Try.T90 Try.T91 Try.T92 Try.T93 Try.T94 Try.T95 Try.T96 Try.T97 Try.T98 Try.T99 Try.T100 Try.T101 Try.T102 Try.T103 Try.T104 Try.T105 Try.T106 Try.T107 Try.T108 Try.T109 Try.T110 Try.T111 Try.T112 Try.T113 Try.T116 Try.T119 Try.T120 Try.T123 Try.T124
attribute [local irreducible] Go.Av.CallK Go.Av.CallE Go.Av.CallQ Go.Av.CallF Go.Av.CallR Go.Av.CallH Go.Av.Con
theorem lastC_cons (p : Pt) (l : List Pt) : lastC (p :: l) = match lastC l with
    | some c => some c
    | none => if p.k = 5 then some p.c else none := by
  unfold lastC
  by_cases o : p.k = 5
  · rw [List.filter_cons, if_pos (decide_eq_true o), List.getLast?_cons, if_pos o]
    cases (l.filter fun p => decide (p.k = 5)).getLast? <;> rfl
  · rw [List.filter_cons, if_neg (by simpa using o), if_neg o]
    cases (l.filter fun p => decide (p.k = 5)).getLast? <;> rfl
theorem stepP_cfg (s : Sv) (p : Pt) : (stepP s p).c = if p.k = 5 then p.c else s.c := by
  unfold stepP
  by_cases h1 : p.k = 1
  · simp [h1]
  by_cases h2 : p.k = 2
  · simp [h2]
  by_cases h3 : p.k = 3
  · simp [h3]
  by_cases h4 : p.k = 4
  · simp [h4]
  by_cases h5 : p.k = 5
  · simp [h5]
  · simp [h1, h2, h3, h4, h5]
theorem runP_cfg : ∀ (l : List Pt) (s : Sv), (runP s l).c = (lastC l).getD s.c
  | [], s => rfl
  | p :: l, s => by
    show (runP (stepP s p) l).c = _
    rw [runP_cfg l, lastC_cons, stepP_cfg]
    cases lastC l with
    | some c => rfl
    | none => by_cases o : p.k = 5 <;> simp [o]
theorem doS_cfg (s : Sv) (t : Tx) : (doS s t).c = (lastC t.ps).getD s.c := runP_cfg t.ps s
theorem now_cfg : ∀ (l : List Tx) (s : NS) (q : Sv), s.now = q.c → (l.foldl nsStep s).now = (allS q l).c
  | [], _, _, h => h
  | t :: l, s, q, h => by
    refine now_cfg l _ _ ?_
    rw [doS_cfg]
    unfold nsStep
    cases lastC t.ps with
    | none => exact h
    | some c => rfl
theorem lastH_mks (h : Hy) : ∃ hj : h.lg.length < (mks h).length, lastH h = (mks h)[h.lg.length] := by
  have hml := mks_len h
  refine ⟨by omega, ?_⟩
  unfold lastH mks
  by_cases h0 : h.lg.length = 0
  · rw [if_pos h0]
    have e : h.lg = [] := List.length_eq_zero_iff.1 h0
    simp [e]
  · rw [if_neg h0]
    obtain ⟨j, hj⟩ : ∃ j, h.lg.length = j + 1 := ⟨h.lg.length - 1, by omega⟩
    have hlt : j < h.lg.length := by omega
    simp only [hj, Nat.add_sub_cancel, List.getElem_cons_succ, List.getElem_map]
    rw [List.getD_eq_getElem?_getD, List.getElem?_eq_getElem hlt]; rfl
theorem le_sumN : ∀ {l : List Nat} {x : Nat}, x ∈ l → x ≤ l.sum
  | a :: l, x, h => by
    rw [List.sum_cons]
    rcases List.mem_cons.1 h with rfl | h
    · omega
    · have := le_sumN h; omega
theorem OkH.of {h : Hy} (hn : near16 h) : OkH h := by
  obtain ⟨h1, h2, h3⟩ := hn
  unfold wH at h3
  have hle : ∀ t ∈ h.lg, wT t ≤ (h.lg.map wT).sum := fun t ht => le_sumN (List.mem_map.2 ⟨t, ht, rfl⟩)
  refine ⟨by omega, by omega, by omega, by omega, fun t ht => ⟨by have := h2 t ht; omega, fun p hp => ?_⟩, ?_⟩
  · have a := hle t ht
    have b : p.c.ms.length ≤ (t.ps.map fun p => p.c.ms.length).sum := le_sumN (List.mem_map.2 ⟨p, hp, rfl⟩)
    have a' : wT t = t.ps.length + (t.ps.map fun p => p.c.ms.length).sum := rfl
    omega
  · have key : ∀ l : List Tx, (l.map fun t => t.ps.length).sum ≤ (l.map wT).sum := by
      intro l
      induction l with
      | nil => simp
      | cons t l ih => simp only [List.map_cons, List.sum_cons]; unfold wT at *; omega
    have := key h.lg
    omega
end Go.Proofs.Ytegoihognjpcjaa

