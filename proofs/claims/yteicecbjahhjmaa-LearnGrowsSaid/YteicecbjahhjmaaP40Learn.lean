/- Texts that the proof needs: LNC. -/
import Derived.Test.YteicecbjahhjmaaP38Learn
/- Learners: what the document says of histories: up to a place, the same. -/
namespace Go.Proofs.Yteicecbjahhjmaa
set_option linter.unusedSimpArgs false
set_option linter.unusedVariables false
set_option maxRecDepth 8000
open Go Go.Av
attribute [local simp] Try.T1 Try.T2 Try.T3 Try.T4 Try.T5 Try.T9 Try.T12 Try.T15 Try.T16 Try.T17 Try.T21 Try.T22 Try.T23 Try.T25 Try.T26 Try.T28 Try.T30 Try.T31 Try.T33 Try.T35 Try.T36 Try.T37 Try.T38 Try.T39 Try.T41 Try.T42 Try.T44 Try.T45 Try.T47 Try.T48 Try.T50 Try.T51 Try.T52 Try.T54 Try.T55 Try.T56 Try.T58 Try.T59 Try.T61 Try.T63 Try.T65 Try.T67 Try.T68 Try.T69 Try.T70 Try.T72 Try.T73 Try.T74 Try.T75 Try.T76 Try.T77 Try.T78 Try.T79 Try.T80 Try.T81 Try.T83 Try.T84 Try.T85 Try.T87 Try.T88 Try.T89 Try.T90 Try.T91 Try.T92 Try.T93 Try.T94 Try.T95 Try.T96 Try.T97 Try.T98 Try.T99 Try.T101 Try.T103 Try.T104 Try.T105 Try.T106 Try.T107 Try.T108 Try.T109 Try.T110 Try.T111 Try.T113 Try.T114 Try.T115 Try.T116 Try.T117 Try.T118 Try.T119 Try.T120 Try.T121 Try.T122 Try.T123 Try.T124 Try.T125 Try.T126 Try.T127 Try.T128 Try.T129 Try.T130 Try.T131 Try.T132 Try.T133 Try.T134 Try.T135 Try.T137 Try.T138 Try.T139 Try.T140 Try.T141 Try.T142 Try.T143 Try.T144 Try.T145 Try.T146 Try.T147 Try.T148 Try.T149 Try.T150 Try.T153 Try.T156 Try.T157 Try.T160 Try.T161 Try.T167
attribute [local irreducible] Go.Av.CallK Go.Av.CallE Go.Av.CallQ Go.Av.CallF Go.Av.CallR Go.Av.CallH Go.Av.Con
theorem place16_con (h : Hy) (z : Zx) (n : Nat) (hl : h.lg.length ≤ 1000) (hpl : plc z (mks h) 0 = some n) : ACon Try.prog 30 [.p (.agg h.cells), .p (.agg [I z.e, I z.n])] (.p (I n)) := by
  have c1 := marks16_con h hl
  have hml := mks_len h
  revert hpl
  generalize mks h = M at *
  intro hpl
  unfold Hy.cells at *
  refine wBody Try.tab Try.mixed Try.func30 rfl rfl Try.ntmps30 (by simp) (by simp) fun Q hr hn => ?_
  repeat' first | (refine CallE.pure (c1) rfl ?_) | (refine CallE.lent (c1) rfl ?_) | (refine CallF.pure (c1) rfl ?_) | (refine CallF.lent (c1) rfl ?_) | (refine CallE.own (c1) ?_) | (refine CallH.pure (c1) rfl ?_) | (refine CallH.lent (c1) rfl ?_) | (refine CallH.own (c1) ?_) | (refine hK _ ?_; clear hK) | (refine hK _ _ ?_; clear hK) | (clear hK; refine hK _ ?_; clear hK) | (clear hK; clear hK; refine hK _ ?_; clear hK) | (clear hK; clear hK; clear hK; refine hK _ ?_; clear hK) | (clear hK; clear hK; clear hK; clear hK; refine hK _ ?_; clear hK) | (refine wSeq fun K hK => ?_) | ((first | refine wReg ?_ | refine wDrwQ rfl (by kernel_rfl) ?_ | refine wDrwI ?_ | refine wDrw (by kernel_rfl) ?_); simp only [List.map_cons, List.map_nil, strip]) | ((first | refine wIs fun K hK => ?_ | refine wOs fun K hK => ?_ | refine wQs fun K hK => ?_ | refine CallK_plain ?_ | refine CallQ_plain ?_ | refine CallR_plain ?_ | refine wCond ?_); simp) | (refine wIn ?_; refine And.intro (by kernel_rfl) ?_; try simp only [thenA_n]) | (first | refine wBlock ?_ | refine wScope ?_) | ((first | refine wRet ?_ | refine wExit ?_ | refine wSkip ?_); try simp) | ((first | refine wLabel ?_ | refine wOn ?_ | refine wQn ?_); try simp only [thenA_n])
  refine wLoop (fun N st => ∃ k, k + N = M.length ∧ st.s 3 = .ptr 3 0 ∧ st.b 3 = some (.box 25 [.p (I z.e), .p (I z.n)]) ∧ st.s 8 = .p (.sl 2 (zxs M)) ∧ st.s 9 = .p (I M.length) ∧ st.s 10 = .p (I k) ∧ plc z (M.drop k) k = some n) M.length ⟨0, by simp [hpl]⟩ fun K N st hL ⟨k, hk, g3, b3, g8, g9, g10, hi⟩ => ?_
  by_cases hlt : k < M.length
  · have hw := wrapS k _ hlt (by omega)
    rw [List.drop_eq_getElem_cons hlt, plc] at hi
    have hx : M[k] = z ↔ M[k].e = z.e ∧ M[k].n = z.n := by cases M[k]; cases z; simp
    by_cases o : M[k].e = z.e ∧ M[k].n = z.n
    · rw [if_pos (hx.2 o), Option.some.injEq] at hi
      subst hi
      obtain ⟨o1, o2⟩ := o
      replace o1 : (M[k].e = z.e) = True := eq_true o1
      replace o2 : (M[k].n = z.n) = True := eq_true o2
      repeat' first | (refine hK _ ?_; clear hK) | (refine hK _ _ ?_; clear hK) | (clear hK; refine hK _ ?_; clear hK) | (clear hK; clear hK; refine hK _ ?_; clear hK) | (clear hK; clear hK; clear hK; refine hK _ ?_; clear hK) | (clear hK; clear hK; clear hK; clear hK; refine hK _ ?_; clear hK) | (refine wSeq fun K hK => ?_) | ((first | refine wReg ?_ | refine wDrwQ rfl (by kernel_rfl) ?_ | refine wDrwI ?_ | refine wDrw (by kernel_rfl) ?_); simp only [List.map_cons, List.map_nil, strip]) | ((first | refine wIs fun K hK => ?_ | refine wOs fun K hK => ?_ | refine wQs fun K hK => ?_ | refine CallK_plain ?_ | refine CallQ_plain ?_ | refine CallR_plain ?_ | refine wCond ?_); simp [g3, b3, g8, g9, g10, hlt, hw, o1, o2]) | (refine wIn ?_; refine And.intro (by kernel_rfl) ?_; try simp only [thenA_n]) | (first | refine wBlock ?_ | refine wScope ?_) | ((first | refine wRet ?_ | refine wExit ?_ | refine wSkip ?_); try simp) | ((first | refine wLabel ?_ | refine wOn ?_ | refine wQn ?_); try simp only [thenA_n])
      all_goals apply hr
      all_goals simp [Try.f30]
    · rw [if_neg fun h => o (hx.1 h)] at hi
      repeat' first | (refine hK _ ?_; clear hK) | (refine hK _ _ ?_; clear hK) | (clear hK; refine hK _ ?_; clear hK) | (clear hK; clear hK; refine hK _ ?_; clear hK) | (clear hK; clear hK; clear hK; refine hK _ ?_; clear hK) | (clear hK; clear hK; clear hK; clear hK; refine hK _ ?_; clear hK) | (refine wSeq fun K hK => ?_) | ((first | refine wReg ?_ | refine wDrwQ rfl (by kernel_rfl) ?_ | refine wDrwI ?_ | refine wDrw (by kernel_rfl) ?_); simp only [List.map_cons, List.map_nil, strip]) | ((first | refine wIs fun K hK => ?_ | refine wOs fun K hK => ?_ | refine wQs fun K hK => ?_ | refine CallK_plain ?_ | refine CallQ_plain ?_ | refine CallR_plain ?_ | refine wCond ?_); simp [g3, b3, g8, g9, g10, hlt, hw, o]) | (refine wIn ?_; refine And.intro (by kernel_rfl) ?_; try simp only [thenA_n]) | (first | refine wBlock ?_ | refine wScope ?_) | ((first | refine wRet ?_ | refine wExit ?_ | refine wSkip ?_); try simp) | ((first | refine wLabel ?_ | refine wOn ?_ | refine wQn ?_); try simp only [thenA_n]) | (intro _)
      all_goals first | exact o | skip
      refine hL _ (N - 1) (by omega) ⟨k + 1, by omega, ?_⟩
      simp [g3, b3, g8, g9, hw, hi]
  · rw [List.drop_of_length_le (by omega), plc] at hi
    cases hi
theorem same16L_con (l : List Tx) (hl : l.length ≤ 100000) : ACon Try.prog 36 [.p (.sl 8 (txns l)), .p (.sl 8 (txns l))] (.p (B true)) := by
  refine wBody Try.tab Try.mixed Try.func36 rfl rfl Try.ntmps36 (by simp) (by simp) fun Q hr hn => ?_
  repeat' first | (refine hK _ ?_; clear hK) | (refine hK _ _ ?_; clear hK) | (clear hK; refine hK _ ?_; clear hK) | (clear hK; clear hK; refine hK _ ?_; clear hK) | (clear hK; clear hK; clear hK; refine hK _ ?_; clear hK) | (clear hK; clear hK; clear hK; clear hK; refine hK _ ?_; clear hK) | (refine wSeq fun K hK => ?_) | ((first | refine wReg ?_ | refine wDrwQ rfl (by kernel_rfl) ?_ | refine wDrwI ?_ | refine wDrw (by kernel_rfl) ?_); simp only [List.map_cons, List.map_nil, strip]) | ((first | refine wIs fun K hK => ?_ | refine wOs fun K hK => ?_ | refine wQs fun K hK => ?_ | refine CallK_plain ?_ | refine CallQ_plain ?_ | refine CallR_plain ?_ | refine wCond ?_); simp) | (refine wIn ?_; refine And.intro (by kernel_rfl) ?_; try simp only [thenA_n]) | (first | refine wBlock ?_ | refine wScope ?_) | ((first | refine wRet ?_ | refine wExit ?_ | refine wSkip ?_); try simp) | ((first | refine wLabel ?_ | refine wOn ?_ | refine wQn ?_); try simp only [thenA_n])
  refine wLoop (fun N st => ∃ k, k + N = l.length ∧ st.s 0 = .p (.sl 8 (txns l)) ∧ st.s 1 = .p (.sl 8 (txns l)) ∧ st.s 12 = .p (I l.length) ∧ st.s 13 = .p (I k)) l.length ⟨0, by simp⟩ fun K N st hL ⟨k, hk, g0, g1, g12, g13⟩ => ?_
  by_cases hlt : k < l.length
  · have hw := wrapS k _ hlt (by omega)
    have he := txns_get hlt
    have cc := sameT08_con l[k] l[k]
    rw [decide_eq_true rfl] at cc
    unfold Tx.cells at cc
    repeat' first | (refine CallE.pure (cc) rfl ?_) | (refine CallE.lent (cc) rfl ?_) | (refine CallF.pure (cc) rfl ?_) | (refine CallF.lent (cc) rfl ?_) | (refine CallE.own (cc) ?_) | (refine CallH.pure (cc) rfl ?_) | (refine CallH.lent (cc) rfl ?_) | (refine CallH.own (cc) ?_) | (refine hK _ ?_; clear hK) | (refine hK _ _ ?_; clear hK) | (clear hK; refine hK _ ?_; clear hK) | (clear hK; clear hK; refine hK _ ?_; clear hK) | (clear hK; clear hK; clear hK; refine hK _ ?_; clear hK) | (clear hK; clear hK; clear hK; clear hK; refine hK _ ?_; clear hK) | (refine wSeq fun K hK => ?_) | ((first | refine wReg ?_ | refine wDrwQ rfl (by kernel_rfl) ?_ | refine wDrwI ?_ | refine wDrw (by kernel_rfl) ?_); simp only [List.map_cons, List.map_nil, strip]) | ((first | refine wIs fun K hK => ?_ | refine wOs fun K hK => ?_ | refine wQs fun K hK => ?_ | refine CallK_plain ?_ | refine CallQ_plain ?_ | refine CallR_plain ?_ | refine wCond ?_); simp [g0, g1, g12, g13, hlt, hw, he]) | (refine wIn ?_; refine And.intro (by kernel_rfl) ?_; try simp only [thenA_n]) | (first | refine wBlock ?_ | refine wScope ?_) | ((first | refine wRet ?_ | refine wExit ?_ | refine wSkip ?_); try simp) | ((first | refine wLabel ?_ | refine wOn ?_ | refine wQn ?_); try simp only [thenA_n])
    refine hL _ (N - 1) (by omega) ⟨k + 1, by omega, ?_⟩
    simp [g0, g1, g12, g13, hw]
  · repeat' first | (refine hK _ ?_; clear hK) | (refine hK _ _ ?_; clear hK) | (clear hK; refine hK _ ?_; clear hK) | (clear hK; clear hK; refine hK _ ?_; clear hK) | (clear hK; clear hK; clear hK; refine hK _ ?_; clear hK) | (clear hK; clear hK; clear hK; clear hK; refine hK _ ?_; clear hK) | (refine wSeq fun K hK => ?_) | ((first | refine wReg ?_ | refine wDrwQ rfl (by kernel_rfl) ?_ | refine wDrwI ?_ | refine wDrw (by kernel_rfl) ?_); simp only [List.map_cons, List.map_nil, strip]) | ((first | refine wIs fun K hK => ?_ | refine wOs fun K hK => ?_ | refine wQs fun K hK => ?_ | refine CallK_plain ?_ | refine CallQ_plain ?_ | refine CallR_plain ?_ | refine wCond ?_); simp [g0, g1, g12, g13, hlt]) | (refine wIn ?_; refine And.intro (by kernel_rfl) ?_; try simp only [thenA_n]) | (first | refine wBlock ?_ | refine wScope ?_) | ((first | refine wRet ?_ | refine wExit ?_ | refine wSkip ?_); try simp) | ((first | refine wLabel ?_ | refine wOn ?_ | refine wQn ?_); try simp only [thenA_n])
    all_goals apply hr
    all_goals simp [Try.f36]
theorem same16H_con (h : Hy) (hl : h.lg.length ≤ 100000) : ACon Try.prog 19 [.p (.agg h.cells), .p (.agg h.cells)] (.p (B true)) := by
  have c1 := sameS08_con h.im h.im
  have c2 := same16L_con h.lg hl
  rw [decide_eq_true rfl] at c1
  unfold Sv.cells at c1
  unfold Hy.cells at *
  refine wBody Try.tab Try.mixed Try.func19 rfl rfl Try.ntmps19 (by simp) (by simp) fun Q hr hn => ?_
  repeat' first | (refine CallE.pure (c1) rfl ?_) | (refine CallE.lent (c1) rfl ?_) | (refine CallF.pure (c1) rfl ?_) | (refine CallF.lent (c1) rfl ?_) | (refine CallE.own (c1) ?_) | (refine CallH.pure (c1) rfl ?_) | (refine CallH.lent (c1) rfl ?_) | (refine CallH.own (c1) ?_) | (refine CallE.pure (c2) rfl ?_) | (refine CallE.lent (c2) rfl ?_) | (refine CallF.pure (c2) rfl ?_) | (refine CallF.lent (c2) rfl ?_) | (refine CallE.own (c2) ?_) | (refine CallH.pure (c2) rfl ?_) | (refine CallH.lent (c2) rfl ?_) | (refine CallH.own (c2) ?_) | (refine hK _ ?_; clear hK) | (refine hK _ _ ?_; clear hK) | (clear hK; refine hK _ ?_; clear hK) | (clear hK; clear hK; refine hK _ ?_; clear hK) | (clear hK; clear hK; clear hK; refine hK _ ?_; clear hK) | (clear hK; clear hK; clear hK; clear hK; refine hK _ ?_; clear hK) | (refine wSeq fun K hK => ?_) | ((first | refine wReg ?_ | refine wDrwQ rfl (by kernel_rfl) ?_ | refine wDrwI ?_ | refine wDrw (by kernel_rfl) ?_); simp only [List.map_cons, List.map_nil, strip]) | ((first | refine wIs fun K hK => ?_ | refine wOs fun K hK => ?_ | refine wQs fun K hK => ?_ | refine CallK_plain ?_ | refine CallQ_plain ?_ | refine CallR_plain ?_ | refine wCond ?_); simp) | (refine wIn ?_; refine And.intro (by kernel_rfl) ?_; try simp only [thenA_n]) | (first | refine wBlock ?_ | refine wScope ?_) | ((first | refine wRet ?_ | refine wExit ?_ | refine wSkip ?_); try simp) | ((first | refine wLabel ?_ | refine wOn ?_ | refine wQn ?_); try simp only [thenA_n])
  all_goals apply hr
  all_goals simp [Try.f19]
theorem sameTxns08_con (l : List Tx) (hl : l.length ≤ 100000) : ACon Try.prog 17 [.p (.sl 8 (txns l)), .p (.sl 8 (txns l))] (.p (B true)) := by
  refine wBody Try.tab Try.mixed Try.func17 rfl rfl Try.ntmps17 (by simp) (by simp) fun Q hr hn => ?_
  repeat' first | (refine hK _ ?_; clear hK) | (refine hK _ _ ?_; clear hK) | (clear hK; refine hK _ ?_; clear hK) | (clear hK; clear hK; refine hK _ ?_; clear hK) | (clear hK; clear hK; clear hK; refine hK _ ?_; clear hK) | (clear hK; clear hK; clear hK; clear hK; refine hK _ ?_; clear hK) | (refine wSeq fun K hK => ?_) | ((first | refine wReg ?_ | refine wDrwQ rfl (by kernel_rfl) ?_ | refine wDrwI ?_ | refine wDrw (by kernel_rfl) ?_); simp only [List.map_cons, List.map_nil, strip]) | ((first | refine wIs fun K hK => ?_ | refine wOs fun K hK => ?_ | refine wQs fun K hK => ?_ | refine CallK_plain ?_ | refine CallQ_plain ?_ | refine CallR_plain ?_ | refine wCond ?_); simp) | (refine wIn ?_; refine And.intro (by kernel_rfl) ?_; try simp only [thenA_n]) | (first | refine wBlock ?_ | refine wScope ?_) | ((first | refine wRet ?_ | refine wExit ?_ | refine wSkip ?_); try simp) | ((first | refine wLabel ?_ | refine wOn ?_ | refine wQn ?_); try simp only [thenA_n])
  refine wLoop (fun N st => ∃ k, k + N = l.length ∧ st.s 0 = .p (.sl 8 (txns l)) ∧ st.s 1 = .p (.sl 8 (txns l)) ∧ st.s 12 = .p (I l.length) ∧ st.s 13 = .p (I k)) l.length ⟨0, by simp⟩ fun K N st hL ⟨k, hk, g0, g1, g12, g13⟩ => ?_
  by_cases hlt : k < l.length
  · have hw := wrapS k _ hlt (by omega)
    have he := txns_get hlt
    have cc := sameT08_con l[k] l[k]
    rw [decide_eq_true rfl] at cc
    unfold Tx.cells at cc
    repeat' first | (refine CallE.pure (cc) rfl ?_) | (refine CallE.lent (cc) rfl ?_) | (refine CallF.pure (cc) rfl ?_) | (refine CallF.lent (cc) rfl ?_) | (refine CallE.own (cc) ?_) | (refine CallH.pure (cc) rfl ?_) | (refine CallH.lent (cc) rfl ?_) | (refine CallH.own (cc) ?_) | (refine hK _ ?_; clear hK) | (refine hK _ _ ?_; clear hK) | (clear hK; refine hK _ ?_; clear hK) | (clear hK; clear hK; refine hK _ ?_; clear hK) | (clear hK; clear hK; clear hK; refine hK _ ?_; clear hK) | (clear hK; clear hK; clear hK; clear hK; refine hK _ ?_; clear hK) | (refine wSeq fun K hK => ?_) | ((first | refine wReg ?_ | refine wDrwQ rfl (by kernel_rfl) ?_ | refine wDrwI ?_ | refine wDrw (by kernel_rfl) ?_); simp only [List.map_cons, List.map_nil, strip]) | ((first | refine wIs fun K hK => ?_ | refine wOs fun K hK => ?_ | refine wQs fun K hK => ?_ | refine CallK_plain ?_ | refine CallQ_plain ?_ | refine CallR_plain ?_ | refine wCond ?_); simp [g0, g1, g12, g13, hlt, hw, he]) | (refine wIn ?_; refine And.intro (by kernel_rfl) ?_; try simp only [thenA_n]) | (first | refine wBlock ?_ | refine wScope ?_) | ((first | refine wRet ?_ | refine wExit ?_ | refine wSkip ?_); try simp) | ((first | refine wLabel ?_ | refine wOn ?_ | refine wQn ?_); try simp only [thenA_n])
    refine hL _ (N - 1) (by omega) ⟨k + 1, by omega, ?_⟩
    simp [g0, g1, g12, g13, hw]
  · repeat' first | (refine hK _ ?_; clear hK) | (refine hK _ _ ?_; clear hK) | (clear hK; refine hK _ ?_; clear hK) | (clear hK; clear hK; refine hK _ ?_; clear hK) | (clear hK; clear hK; clear hK; refine hK _ ?_; clear hK) | (clear hK; clear hK; clear hK; clear hK; refine hK _ ?_; clear hK) | (refine wSeq fun K hK => ?_) | ((first | refine wReg ?_ | refine wDrwQ rfl (by kernel_rfl) ?_ | refine wDrwI ?_ | refine wDrw (by kernel_rfl) ?_); simp only [List.map_cons, List.map_nil, strip]) | ((first | refine wIs fun K hK => ?_ | refine wOs fun K hK => ?_ | refine wQs fun K hK => ?_ | refine CallK_plain ?_ | refine CallQ_plain ?_ | refine CallR_plain ?_ | refine wCond ?_); simp [g0, g1, g12, g13, hlt]) | (refine wIn ?_; refine And.intro (by kernel_rfl) ?_; try simp only [thenA_n]) | (first | refine wBlock ?_ | refine wScope ?_) | ((first | refine wRet ?_ | refine wExit ?_ | refine wSkip ?_); try simp) | ((first | refine wLabel ?_ | refine wOn ?_ | refine wQn ?_); try simp only [thenA_n])
    all_goals apply hr
    all_goals simp [Try.f17]
set_option maxHeartbeats 1000000 in
theorem upto16_con (h : Hy) (z : Zx) (n : Nat) (hk : OkH h) (hpl : plc z (mks h) 0 = some n) : ACon Try.prog 14 [.p (.agg h.cells), .p (.agg [I z.e, I z.n])] (.tup [.p (.agg ({ h with lg := h.lg.take n } : Hy).cells), .p (I 0)]) := by
  have c1 := place16_con h z n hk.lg hpl
  have hml := mks_len h
  have hlt := (plc_lt z (mks h) 0 n hpl).2
  have c2 := own16_con h.im hk.ns hk.ss hk.c
  have c3 := all16_con (h.lg.take n) (by have := hk.lg; rw [List.length_take]; omega) fun x hx => hk.ps x (List.mem_of_mem_take hx)
  have hnl : n ≤ h.lg.length := by omega
  have hn0 : ¬ (n : Int) < 0 := by omega
  have htk : (txns h.lg).take n = txns (h.lg.take n) := by simp [txns, List.map_take]
  unfold Hy.cells at *
  unfold Sv.cells at c2
  dsimp only
  refine wBody Try.tab Try.mixed Try.func14 rfl rfl Try.ntmps14 (by simp) (by simp) fun Q hr hn => ?_
  repeat' first | (refine CallE.pure (c1) rfl ?_) | (refine CallE.lent (c1) rfl ?_) | (refine CallF.pure (c1) rfl ?_) | (refine CallF.lent (c1) rfl ?_) | (refine CallE.own (c1) ?_) | (refine CallH.pure (c1) rfl ?_) | (refine CallH.lent (c1) rfl ?_) | (refine CallH.own (c1) ?_) | (refine CallE.pure (c2) rfl ?_) | (refine CallE.lent (c2) rfl ?_) | (refine CallF.pure (c2) rfl ?_) | (refine CallF.lent (c2) rfl ?_) | (refine CallE.own (c2) ?_) | (refine CallH.pure (c2) rfl ?_) | (refine CallH.lent (c2) rfl ?_) | (refine CallH.own (c2) ?_) | (refine CallE.pure (c3) rfl ?_) | (refine CallE.lent (c3) rfl ?_) | (refine CallF.pure (c3) rfl ?_) | (refine CallF.lent (c3) rfl ?_) | (refine CallE.own (c3) ?_) | (refine CallH.pure (c3) rfl ?_) | (refine CallH.lent (c3) rfl ?_) | (refine CallH.own (c3) ?_) | (refine hK _ ?_; clear hK) | (refine hK _ _ ?_; clear hK) | (clear hK; refine hK _ ?_; clear hK) | (clear hK; clear hK; refine hK _ ?_; clear hK) | (clear hK; clear hK; clear hK; refine hK _ ?_; clear hK) | (clear hK; clear hK; clear hK; clear hK; refine hK _ ?_; clear hK) | (refine wSeq fun K hK => ?_) | ((first | refine wReg ?_ | refine wDrwQ rfl (by kernel_rfl) ?_ | refine wDrwI ?_ | refine wDrw (by kernel_rfl) ?_); simp only [List.map_cons, List.map_nil, strip]) | ((first | refine wIs fun K hK => ?_ | refine wOs fun K hK => ?_ | refine wQs fun K hK => ?_ | refine CallK_plain ?_ | refine CallQ_plain ?_ | refine CallR_plain ?_ | refine wCond ?_); simp [hnl, htk, hn0]) | (refine wIn ?_; refine And.intro (by kernel_rfl) ?_; try simp only [thenA_n]) | (first | refine wBlock ?_ | refine wScope ?_) | ((first | refine wRet ?_ | refine wExit ?_ | refine wSkip ?_); try simp) | ((first | refine wLabel ?_ | refine wOn ?_ | refine wQn ?_); try simp only [thenA_n])
  all_goals apply hr
  all_goals simp [Try.f14, htk]
theorem lastH_snoc (h : Hy) (t : Tx) : lastH { h with lg := h.lg ++ [t] } = ⟨t.e, t.n⟩ := by
  unfold lastH
  simp
theorem act_ackz {w : Wh} {j : Nat} {p : Lp} {e : Ev22} (i : Inv w j p) : ∀ x ∈ (actR p e).l, x.kd = 9 ∨ x.kd = 6 → x.z = lastH (actR p e).p.h := by
  unfold actR
  split
  · unfold hearR
    split
    case isFalse => simp
    split
    · split
      · unfold promR
        split
        · split
          · simp
          · intro x hx
            obtain rfl := List.mem_singleton.1 hx
            intro hk
            simp [promM, mgZ] at hk
        · simp
      · simp
    split
    · split
      · unfold syncR
        split
        · intro x hx
          obtain rfl := List.mem_singleton.1 hx
          intro _
          rfl
        · simp
      · simp
    split
    case isFalse => simp
    unfold followR
    split
    · unfold propR
      split
      · intro x hx
        obtain rfl := List.mem_singleton.1 hx
        intro _
        exact (lastH_snoc p.h e.m.tx).symm
      · simp
    repeat' split
    all_goals try simp only [List.not_mem_nil, false_implies, implies_true]
    all_goals intro x hx
    all_goals obtain rfl := List.mem_singleton.1 hx
    all_goals intro hk
    all_goals simp [pingM, mgZ] at hk
  split
  · show ∀ x ∈ tickM p, _
    unfold tickM
    split
    · intro x hx
      obtain rfl := List.mem_singleton.1 hx
      intro hk
      simp [comeM, mgZ] at hk
    · simp
  · simp
theorem zcmp_self (a b : Int) : zcmp a b a b = 0 := by unfold zcmp; simp
theorem known_d (p : Lp) (z : Zx) : zcmp (knownP p z).d.e (knownP p z).d.n p.d.e p.d.n ≥ 0 := by
  unfold knownP
  split
  · rename_i h; simp only; omega
  · rw [zcmp_self]; omega
theorem known_h (p : Lp) (z : Zx) : (knownP p z).h = p.h := by unfold knownP; split <;> rfl
theorem known_ph (p : Lp) (z : Zx) : (knownP p z).ph = p.ph := by unfold knownP; split <;> rfl
theorem known_ac (p : Lp) (z : Zx) : (knownP p z).ac = p.ac := by unfold knownP; split <;> rfl
theorem grow_d (p : Lp) (t : Tx) : (growP p t).d = p.d := by unfold growP; split <;> rfl
theorem grow_ac (p : Lp) (t : Tx) : (growP p t).ac = p.ac := by unfold growP; split <;> rfl
theorem grow_lg (p : Lp) (t : Tx) : (growP p t).h.lg = p.h.lg ∨ (growP p t).h.lg = p.h.lg ++ [t] := by
  unfold growP; split
  · exact .inr rfl
  · exact .inl rfl
/-- What a learner that has its leader's history comes to. -/
structure Later (p q : Lp) (t : Tx) : Prop where
  ph : p.ph ≤ q.ph
  lg : q.h.lg = p.h.lg ∨ q.h.lg = p.h.lg ++ [t]
  d : zcmp q.d.e q.d.n p.d.e p.d.n ≥ 0
  ac : q.ac = p.ac
theorem Later.same (p : Lp) (t : Tx) (x : Int) : Later p { p with wt := x } t := ⟨Int.le_refl _, .inl rfl, by simp only; rw [zcmp_self]; omega, rfl⟩
theorem Later.id (p : Lp) (t : Tx) : Later p p t := ⟨Int.le_refl _, .inl rfl, by rw [zcmp_self]; omega, rfl⟩
theorem act_late {w : Wh} {j : Nat} {p : Lp} {e : Ev22} (i : Inv w j p) (h3 : 3 ≤ p.ph) : Later p (actR p e).p e.m.tx := by
  have n1 : ¬ p.ph = 1 := by omega
  have n2 : ¬ p.ph = 2 := by omega
  unfold actR
  split
  · unfold hearR
    rw [if_neg n1, if_neg n2]
    split
    case isFalse => exact Later.id p _
    split
    case isFalse => exact Later.id p _
    rename_i h34
    unfold followR
    split
    · unfold propR
      split
      · exact ⟨Int.le_refl _, .inr rfl, by simp only [tookP]; rw [zcmp_self]; omega, rfl⟩
      · exact Later.same p _ 0
    split
    · show Later p (informP p e.m) _
      unfold informP
      split
      · refine ⟨by rw [known_ph, growP_ph]; exact Int.le_refl _, by rw [known_h]; exact grow_lg _ _, ?_, by rw [known_ac, grow_ac]⟩
        have := known_d (growP { p with wt := 0 } e.m.tx) ⟨e.m.tx.e, e.m.tx.n⟩
        rw [grow_d] at this
        exact this
      · exact ⟨by rw [growP_ph]; exact Int.le_refl _, grow_lg _ _, by rw [grow_d]; simp only; rw [zcmp_self]; omega, by rw [grow_ac]⟩
    split
    · refine ⟨by rw [known_ph]; simp only; omega, by rw [known_h]; exact .inl rfl, ?_, by rw [known_ac]⟩
      exact known_d { p with wt := 0, ph := 4 } e.m.z
    split
    · show Later p (commitP p e.m) _
      unfold commitP
      split
      · refine ⟨by rw [known_ph]; exact Int.le_refl _, by rw [known_h]; exact .inl rfl, ?_, by rw [known_ac]⟩
        exact known_d { p with wt := 0 } e.m.z
      · exact Later.same p _ 0
    split
    · exact Later.same p _ 0
    · exact Later.id p _
  split
  · show Later p (tickQ p) _
    unfold tickQ tickP
    split
    · exact Later.same p _ _
    · exact Later.id p _
  · exact Later.id p _
/-- .. and one that has not, as long as it has not. -/
theorem act_early {w : Wh} {j : Nat} {p : Lp} {e : Ev22} (i : Inv w j p) (h3 : p.ph < 3) (hq : (actR p e).p.ph < 3) : (actR p e).p.h = p.h ∧ (actR p e).p.d = p.d ∧ (actR p e).p.cu = p.cu := by
  have n3 : ¬ (p.ph = 3 ∨ p.ph = 4) := by omega
  revert hq
  unfold actR
  split
  · unfold hearR
    split
    case isFalse => exact fun _ => ⟨rfl, rfl, rfl⟩
    split
    · split
      · unfold promR
        split
        · split
          · exact fun _ => ⟨rfl, rfl, rfl⟩
          · exact fun _ => ⟨rfl, rfl, rfl⟩
        · exact fun _ => ⟨rfl, rfl, rfl⟩
      · exact fun _ => ⟨rfl, rfl, rfl⟩
    split
    · split
      · unfold syncR
        split
        · intro h; simp [syncP] at h
        · exact fun _ => ⟨rfl, rfl, rfl⟩
      · exact fun _ => ⟨rfl, rfl, rfl⟩
    try rw [if_neg n3]
    exact fun _ => ⟨rfl, rfl, rfl⟩
  split
  · intro _
    show (tickQ p).h = _ ∧ (tickQ p).d = _ ∧ (tickQ p).cu = _
    unfold tickQ tickP
    split <;> exact ⟨rfl, rfl, rfl⟩
  · exact fun _ => ⟨rfl, rfl, rfl⟩
end Go.Proofs.Yteicecbjahhjmaa
