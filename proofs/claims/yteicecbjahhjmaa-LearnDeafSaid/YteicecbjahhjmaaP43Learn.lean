/- Texts that the proof needs: LNG. -/
import Derived.Test.YteicecbjahhjmaaP40Learn
/- Learners: the law LearnDeaf. -/
namespace Go.Proofs.Yteicecbjahhjmaa
set_option linter.unusedSimpArgs false
set_option linter.unusedVariables false
set_option maxRecDepth 8000
open Go Go.Av
attribute [local simp] Try.T1 Try.T2 Try.T3 Try.T4 Try.T5 Try.T9 Try.T12 Try.T15 Try.T16 Try.T17 Try.T21 Try.T22 Try.T23 Try.T25 Try.T26 Try.T28 Try.T30 Try.T31 Try.T33 Try.T35 Try.T36 Try.T37 Try.T38 Try.T39 Try.T41 Try.T42 Try.T44 Try.T45 Try.T47 Try.T48 Try.T50 Try.T51 Try.T52 Try.T54 Try.T55 Try.T56 Try.T58 Try.T59 Try.T61 Try.T63 Try.T65 Try.T67 Try.T68 Try.T69 Try.T70 Try.T72 Try.T73 Try.T74 Try.T75 Try.T76 Try.T77 Try.T78 Try.T79 Try.T80 Try.T81 Try.T83 Try.T84 Try.T85 Try.T87 Try.T88 Try.T89 Try.T90 Try.T91 Try.T92 Try.T93 Try.T94 Try.T95 Try.T96 Try.T97 Try.T98 Try.T99 Try.T101 Try.T103 Try.T104 Try.T105 Try.T106 Try.T107 Try.T108 Try.T109 Try.T110 Try.T111 Try.T113 Try.T114 Try.T115 Try.T116 Try.T117 Try.T118 Try.T119 Try.T120 Try.T121 Try.T122 Try.T123 Try.T124 Try.T125 Try.T126 Try.T127 Try.T128 Try.T129 Try.T130 Try.T131 Try.T132 Try.T133 Try.T134 Try.T135 Try.T137 Try.T138 Try.T139 Try.T140 Try.T141 Try.T142 Try.T143 Try.T144 Try.T145 Try.T146 Try.T147 Try.T148 Try.T149 Try.T150 Try.T153 Try.T156 Try.T157 Try.T160 Try.T161 Try.T167
attribute [local irreducible] Go.Av.CallK Go.Av.CallE Go.Av.CallQ Go.Av.CallF Go.Av.CallR Go.Av.CallH Go.Av.Con
def mB (m : Mg) : List V := [.p (I m.fr), .p (I m.to), .p (I m.kd), .p (I m.v0), .p (I m.v1), .p (I m.v2), .p (I m.v3), .p (I m.v4), .p (I m.v5), .p (I m.v6), .p (I m.ep), .p (I m.cu), .p (I m.z.e), .p (I m.z.n), .p (.sl 2 (zxs m.ms)), .p (I m.pk), .p (I m.pz.e), .p (I m.pz.n), .p (.sl 5 (zns m.pim.ns)), .p (.sl 1 (ints m.pim.ss)), .p (I m.pim.nx), .p (I m.pim.c.ep), .p (I m.pim.c.n), .p (I m.pim.c.kind), .p (.sl 4 (mbs m.pim.c.ms)), .p (I m.pim.ae), .p (I m.pim.an), .p (.sl 8 (txns m.pl)), .p (I m.tx.e), .p (I m.tx.n), .p (I m.tx.s), .p (I m.tx.x), .p (I m.tx.r), .p (I m.tx.b), .p (SB m.tx.m), .p (.sl 11 (pts m.tx.ps)), .p (.sl 1 m.tc), .p (I m.aK), .p (I m.aS), .p (I m.aX), .p (.sl 6 m.ao), .p (I m.adk), .p (.sl 4 m.ap), .p (.sl 1 m.ad), .p (I m.awe), .p (I m.awn)]
theorem seeks_con : ACon Try.prog 38 [.p (.agg [I 0, I 0, I 0, I 0, I 0, I 0, I 0, I 0, I 0, I 0, I 0, I 0, I 0, I 0, I 0, I 0, .sl 7 []]), .p (.agg [I 0, I 0, I 0, I 0, I 0, I 0, I 0, I 0, I 0, I 0, I 0, I 0, I 0, I 0, I 0, I 0, .sl 7 []])] (.p (B true)) :=
  xCall_sound Try.tab Try.mixed base_ok 40 _ _ _ _ (by kernel_rfl)
theorem books_con : ACon Try.prog 39 [.p (.sl 8 []), .p (.sl 8 [])] (.p (B true)) :=
  xCall_sound Try.tab Try.mixed base_ok 40 _ _ _ _ (by kernel_rfl)
set_option maxHeartbeats 2000000 in
theorem same21_con (p : Lp) (hl : p.h.lg.length ≤ 100000) : ACon Try.prog 21 [.p (.agg p.cells), .p (.agg p.cells)] (.p (B true)) := by
  have c1 := same16H_con p.h hl
  have c2 := seeks_con
  have c3 := books_con
  unfold Hy.cells at c1
  unfold Lp.cells
  refine wBody Try.tab Try.mixed Try.func21 rfl rfl Try.ntmps21 (by simp) (by simp) fun Q hr hn => ?_
  repeat' first | (refine wReg ?_; simp only [List.append_eq, List.map_append, List.map_cons, List.map_nil, List.cons_append, List.nil_append, strip]) | (refine CallE.pure (c1) rfl ?_) | (refine CallE.lent (c1) rfl ?_) | (refine CallF.pure (c1) rfl ?_) | (refine CallF.lent (c1) rfl ?_) | (refine CallE.own (c1) ?_) | (refine CallH.pure (c1) rfl ?_) | (refine CallH.lent (c1) rfl ?_) | (refine CallH.own (c1) ?_) | (refine CallE.pure (c2) rfl ?_) | (refine CallE.lent (c2) rfl ?_) | (refine CallF.pure (c2) rfl ?_) | (refine CallF.lent (c2) rfl ?_) | (refine CallE.own (c2) ?_) | (refine CallH.pure (c2) rfl ?_) | (refine CallH.lent (c2) rfl ?_) | (refine CallH.own (c2) ?_) | (refine CallE.pure (c3) rfl ?_) | (refine CallE.lent (c3) rfl ?_) | (refine CallF.pure (c3) rfl ?_) | (refine CallF.lent (c3) rfl ?_) | (refine CallE.own (c3) ?_) | (refine CallH.pure (c3) rfl ?_) | (refine CallH.lent (c3) rfl ?_) | (refine CallH.own (c3) ?_) | (refine hK _ ?_; clear hK) | (refine hK _ _ ?_; clear hK) | (clear hK; refine hK _ ?_; clear hK) | (clear hK; clear hK; refine hK _ ?_; clear hK) | (clear hK; clear hK; clear hK; refine hK _ ?_; clear hK) | (clear hK; clear hK; clear hK; clear hK; refine hK _ ?_; clear hK) | (refine wSeq fun K hK => ?_) | ((first | refine wReg ?_ | refine wDrwQ rfl (by kernel_rfl) ?_ | refine wDrwI ?_ | refine wDrw (by kernel_rfl) ?_); simp only [List.map_cons, List.map_nil, strip]) | ((first | refine wIs fun K hK => ?_ | refine wOs fun K hK => ?_ | refine wQs fun K hK => ?_ | refine CallK_plain ?_ | refine CallQ_plain ?_ | refine CallR_plain ?_ | refine wCond ?_); simp) | (refine wIn ?_; refine And.intro (by kernel_rfl) ?_; try simp only [thenA_n]) | (first | refine wBlock ?_ | refine wScope ?_) | ((first | refine wRet ?_ | refine wExit ?_ | refine wSkip ?_); try simp) | ((first | refine wLabel ?_ | refine wOn ?_ | refine wQn ?_); try simp only [thenA_n])
  all_goals apply hr
  all_goals simp [Try.f21]
theorem evsC_snoc (l : List Ev22) (m : Mg) : evsC l ++ [[I 0, I 0, I m.fr, I m.to, I m.kd, I m.v0, I m.v1, I m.v2, I m.v3, I m.v4, I m.v5, I m.v6, I m.ep, I m.cu, I m.z.e, I m.z.n, .sl 2 (zxs m.ms), I m.pk, I m.pz.e, I m.pz.n, .sl 5 (zns m.pim.ns), .sl 1 (ints m.pim.ss), I m.pim.nx, I m.pim.c.ep, I m.pim.c.n, I m.pim.c.kind, .sl 4 (mbs m.pim.c.ms), I m.pim.ae, I m.pim.an, .sl 8 (txns m.pl), I m.tx.e, I m.tx.n, I m.tx.s, I m.tx.x, I m.tx.r, I m.tx.b, SB m.tx.m, .sl 11 (pts m.tx.ps), .sl 1 m.tc, I m.aK, I m.aS, I m.aX, .sl 6 m.ao, I m.adk, .sl 4 m.ap, .sl 1 m.ad, I m.awe, I m.awn]] = evsC (l ++ [⟨0, 0, m⟩]) := by simp [evsC, Ev22.cells]
set_option maxHeartbeats 16000000 in
theorem learnDeaf_con (w : Wh) (l : List Ev22) (m : Mg) (hs : SmallH w.h) (hl : ∀ e ∈ l, SmallE e) (hsm : SmallE ⟨0, 0, m⟩) (hlb : l.length * 552 ≤ 140737488351232) : ACon Try.prog 6 [.p (.agg w.cells), .p (.sl 48 (evsC l)), .p (.agg m.cells)] (.p (B true)) := by
  have cm := may_con w hs
  have ce := evs_con (l ++ [⟨0, 0, m⟩]) (by
    intro e he
    rcases List.mem_append.1 he with h | h
    · exact hl e h
    · rw [List.mem_singleton.1 h]; exact hsm)
  have ca := awake22
  have hsn := evsC_snoc l m
  by_cases hm : mayW w
  case neg =>
    rw [decide_eq_false hm] at cm
    clear ce hm
    unfold Wh.cells Mg.cells at *
    refine wBody Try.tab Try.mixed Try.func6 rfl rfl Try.ntmps6 (by simp) (by simp) fun Q hr hn => ?_
    repeat' first | (refine CallE.pure (cm) rfl ?_) | (refine CallE.lent (cm) rfl ?_) | (refine CallF.pure (cm) rfl ?_) | (refine CallF.lent (cm) rfl ?_) | (refine CallE.own (cm) ?_) | (refine CallH.pure (cm) rfl ?_) | (refine CallH.lent (cm) rfl ?_) | (refine CallH.own (cm) ?_) | (refine CallE.pure (ca) rfl ?_) | (refine CallE.lent (ca) rfl ?_) | (refine CallF.pure (ca) rfl ?_) | (refine CallF.lent (ca) rfl ?_) | (refine CallE.own (ca) ?_) | (refine CallH.pure (ca) rfl ?_) | (refine CallH.lent (ca) rfl ?_) | (refine CallH.own (ca) ?_) | (refine hK _ ?_; clear hK) | (refine hK _ _ ?_; clear hK) | (clear hK; refine hK _ ?_; clear hK) | (clear hK; clear hK; refine hK _ ?_; clear hK) | (clear hK; clear hK; clear hK; refine hK _ ?_; clear hK) | (clear hK; clear hK; clear hK; clear hK; refine hK _ ?_; clear hK) | (refine wSeq fun K hK => ?_) | ((first | refine wReg ?_ | refine wDrwQ rfl (by kernel_rfl) ?_ | refine wDrwI ?_ | refine wDrw (by kernel_rfl) ?_); simp only [List.map_cons, List.map_nil, strip]) | ((first | refine wIs fun K hK => ?_ | refine wOs fun K hK => ?_ | refine wQs fun K hK => ?_ | refine CallK_plain ?_ | refine CallQ_plain ?_ | refine CallR_plain ?_ | refine wCond ?_); simp) | (refine wIn ?_; refine And.intro (by kernel_rfl) ?_; try simp only [thenA_n]) | (first | refine wBlock ?_ | refine wScope ?_) | ((first | refine wRet ?_ | refine wExit ?_ | refine wSkip ?_); try simp) | ((first | refine wLabel ?_ | refine wOn ?_ | refine wQn ?_); try simp only [thenA_n])
    all_goals apply hr
    all_goals simp [Try.f6]
  rw [decide_eq_true hm] at cm
  by_cases he : nearL (l ++ [⟨0, 0, m⟩])
  case neg =>
    rw [decide_eq_true he] at ce
    clear he hm
    generalize evsC (l ++ [⟨0, 0, m⟩]) = EL at *
    unfold Wh.cells Mg.cells at *
    refine wBody Try.tab Try.mixed Try.func6 rfl rfl Try.ntmps6 (by simp) (by simp) fun Q hr hn => ?_
    repeat' first | (refine CallE.pure (cm) rfl ?_) | (refine CallE.lent (cm) rfl ?_) | (refine CallF.pure (cm) rfl ?_) | (refine CallF.lent (cm) rfl ?_) | (refine CallE.own (cm) ?_) | (refine CallH.pure (cm) rfl ?_) | (refine CallH.lent (cm) rfl ?_) | (refine CallH.own (cm) ?_) | (refine CallE.pure (ce) rfl ?_) | (refine CallE.lent (ce) rfl ?_) | (refine CallF.pure (ce) rfl ?_) | (refine CallF.lent (ce) rfl ?_) | (refine CallE.own (ce) ?_) | (refine CallH.pure (ce) rfl ?_) | (refine CallH.lent (ce) rfl ?_) | (refine CallH.own (ce) ?_) | (refine CallE.pure (ca) rfl ?_) | (refine CallE.lent (ca) rfl ?_) | (refine CallF.pure (ca) rfl ?_) | (refine CallF.lent (ca) rfl ?_) | (refine CallE.own (ca) ?_) | (refine CallH.pure (ca) rfl ?_) | (refine CallH.lent (ca) rfl ?_) | (refine CallH.own (ca) ?_) | (refine And.intro (by (try simp); omega) ?_) | (refine Or.inl ?_) | (refine hK _ ?_; clear hK) | (refine hK _ _ ?_; clear hK) | (clear hK; refine hK _ ?_; clear hK) | (clear hK; clear hK; refine hK _ ?_; clear hK) | (clear hK; clear hK; clear hK; refine hK _ ?_; clear hK) | (clear hK; clear hK; clear hK; clear hK; refine hK _ ?_; clear hK) | (refine wSeq fun K hK => ?_) | ((first | refine wReg ?_ | refine wDrwQ rfl (by kernel_rfl) ?_ | refine wDrwI ?_ | refine wDrw (by kernel_rfl) ?_); simp only [List.map_cons, List.map_nil, strip]) | ((first | refine wIs fun K hK => ?_ | refine wOs fun K hK => ?_ | refine wQs fun K hK => ?_ | refine CallK_plain ?_ | refine CallQ_plain ?_ | refine CallR_plain ?_ | refine wCond ?_); simp [hsn]) | (refine wIn ?_; refine And.intro (by kernel_rfl) ?_; try simp only [thenA_n]) | (first | refine wBlock ?_ | refine wScope ?_) | ((first | refine wRet ?_ | refine wExit ?_ | refine wSkip ?_); try simp) | ((first | refine wLabel ?_ | refine wOn ?_ | refine wQn ?_); try simp only [thenA_n])
    all_goals apply hr
    all_goals simp [Try.f6]
  rw [decide_eq_false (not_not_intro he)] at ce
  have hb := near_HB hm.2.2.2.2.2.2.1
  have hi0 := Inv.begin hb hm.2.2.2.2.2.2.2
  have c1 := begin22_con w
  have c2 := begin_con (beg w) w.ld (HB.ok (k := 30) hb (by omega))
  have hln : l.length ≤ 59 := by have := he.1; rw [List.length_append] at this; simp only [List.length_cons, List.length_nil] at this; omega
  have hnm : nearE ⟨0, 0, m⟩ := he.2 _ (by simp)
  generalize (comeM (beginP (beg w) w.ld)).cells = cmsg at *
  generalize beginP (beg w) w.ld = p0 at *
  generalize beg w = w0 at *
  generalize hEL : evsC (l ++ [⟨0, 0, m⟩]) = EL at *
  unfold Wh.cells Lp.cells Mg.cells at *
  refine wBody Try.tab Try.mixed Try.func6 rfl rfl Try.ntmps6 (by simp) (by simp) fun Q hr hn => ?_
  repeat' first | (refine CallE.pure (cm) rfl ?_) | (refine CallE.lent (cm) rfl ?_) | (refine CallF.pure (cm) rfl ?_) | (refine CallF.lent (cm) rfl ?_) | (refine CallE.own (cm) ?_) | (refine CallH.pure (cm) rfl ?_) | (refine CallH.lent (cm) rfl ?_) | (refine CallH.own (cm) ?_) | (refine CallE.pure (ce) rfl ?_) | (refine CallE.lent (ce) rfl ?_) | (refine CallF.pure (ce) rfl ?_) | (refine CallF.lent (ce) rfl ?_) | (refine CallE.own (ce) ?_) | (refine CallH.pure (ce) rfl ?_) | (refine CallH.lent (ce) rfl ?_) | (refine CallH.own (ce) ?_) | (refine CallE.pure (c1) rfl ?_) | (refine CallE.lent (c1) rfl ?_) | (refine CallF.pure (c1) rfl ?_) | (refine CallF.lent (c1) rfl ?_) | (refine CallE.own (c1) ?_) | (refine CallH.pure (c1) rfl ?_) | (refine CallH.lent (c1) rfl ?_) | (refine CallH.own (c1) ?_) | (refine CallE.pure (c2) rfl ?_) | (refine CallE.lent (c2) rfl ?_) | (refine CallF.pure (c2) rfl ?_) | (refine CallF.lent (c2) rfl ?_) | (refine CallE.own (c2) ?_) | (refine CallH.pure (c2) rfl ?_) | (refine CallH.lent (c2) rfl ?_) | (refine CallH.own (c2) ?_) | (refine And.intro (by (try simp); omega) ?_) | (refine Or.inl ?_) | (refine hK _ ?_; clear hK) | (refine hK _ _ ?_; clear hK) | (clear hK; refine hK _ ?_; clear hK) | (clear hK; clear hK; refine hK _ ?_; clear hK) | (clear hK; clear hK; clear hK; refine hK _ ?_; clear hK) | (clear hK; clear hK; clear hK; clear hK; refine hK _ ?_; clear hK) | (refine wSeq fun K hK => ?_) | ((first | refine wReg ?_ | refine wDrwQ rfl (by kernel_rfl) ?_ | refine wDrwI ?_ | refine wDrw (by kernel_rfl) ?_); simp only [List.map_cons, List.map_nil, strip]) | ((first | refine wIs fun K hK => ?_ | refine wOs fun K hK => ?_ | refine wQs fun K hK => ?_ | refine CallK_plain ?_ | refine CallQ_plain ?_ | refine CallR_plain ?_ | refine wCond ?_); simp [hsn]) | (refine wIn ?_; refine And.intro (by kernel_rfl) ?_; try simp only [thenA_n]) | (first | refine wBlock ?_ | refine wScope ?_) | ((first | refine wRet ?_ | refine wExit ?_ | refine wSkip ?_); try simp) | ((first | refine wLabel ?_ | refine wOn ?_ | refine wQn ?_); try simp only [thenA_n])
  clear c1 c2 cm ce
  refine wLoop (fun N st => ∃ k p up, k + N = l.length ∧ Inv w k p ∧ st.s 3 = .ptr 3 0 ∧ st.b 3 = some (.box 35 (wB w)) ∧ st.s 5 = .ptr 5 0 ∧ st.b 5 = some (.box 65 (mB m)) ∧ st.s 7 = .ptr 7 0 ∧ st.b 7 = some (.box 47 (pB p)) ∧ st.s 9 = .p (B up) ∧ st.s 38 = .p (.sl 48 (evsC l)) ∧ st.s 39 = .p (I l.length) ∧ st.s 40 = .p (I k)) l.length ⟨0, p0, true, by simp [pB, wB, mB]; exact hi0⟩ fun K N st hL ⟨k, p, up, hkN, hI, g3, b3, g5, b5, g7, b7, g9, g38, g39, g40⟩ => ?_
  by_cases hlt : k < l.length
  · have hw := wrapS k _ hlt (by omega)
    have hne := he.2 l[k] (List.mem_append_left _ (List.getElem_mem hlt))
    cases up
    · have hI2 := hI.mono (Nat.le_succ k)
      clear hI hne
      repeat' first | (refine hK _ ?_; clear hK) | (refine hK _ _ ?_; clear hK) | (clear hK; refine hK _ ?_; clear hK) | (clear hK; clear hK; refine hK _ ?_; clear hK) | (clear hK; clear hK; clear hK; refine hK _ ?_; clear hK) | (clear hK; clear hK; clear hK; clear hK; refine hK _ ?_; clear hK) | (refine wSeq fun K hK => ?_) | ((first | refine wReg ?_ | refine wDrwQ rfl (by kernel_rfl) ?_ | refine wDrwI ?_ | refine wDrw (by kernel_rfl) ?_); simp only [List.map_cons, List.map_nil, strip]) | ((first | refine wIs fun K hK => ?_ | refine wOs fun K hK => ?_ | refine wQs fun K hK => ?_ | refine CallK_plain ?_ | refine CallQ_plain ?_ | refine CallR_plain ?_ | refine wCond ?_); simp [g3, b3, g5, b5, g7, b7, g9, g38, g39, g40, hlt, hw]) | (refine wIn ?_; refine And.intro (by kernel_rfl) ?_; try simp only [thenA_n]) | (first | refine wBlock ?_ | refine wScope ?_) | ((first | refine wRet ?_ | refine wExit ?_ | refine wSkip ?_); try simp) | ((first | refine wLabel ?_ | refine wOn ?_ | refine wQn ?_); try simp only [thenA_n])
      refine hL _ (N - 1) (by omega) ⟨k + 1, p, false, by omega, hI2, ?_⟩
      simp [g3, b3, g5, b5, g7, b7, g9, g38, g39, hw, pB, wB, mB]
    have hg := evsC_get hlt
    have hlg := hI.hb.lg
    have cd := do22_con p l[k] (hI.hb.ok (by omega)) hne.m.ok (by have := hne.m.pl.lg; simp only at this; omega)
    have hI2 := hI.act (e := l[k]) hne.m
    rw [out_eq] at cd
    clear hne hlg hI
    generalize actR p l[k] = R at *
    generalize hx : l[k] = x at *
    unfold pB at b7
    unfold Ev22.cells at hg cd
    unfold Lp.cells at cd
    repeat' first | (refine CallE.pure (cd) rfl ?_) | (refine CallE.lent (cd) rfl ?_) | (refine CallF.pure (cd) rfl ?_) | (refine CallF.lent (cd) rfl ?_) | (refine CallE.own (cd) ?_) | (refine CallH.pure (cd) rfl ?_) | (refine CallH.lent (cd) rfl ?_) | (refine CallH.own (cd) ?_) | (refine hK _ ?_; clear hK) | (refine hK _ _ ?_; clear hK) | (clear hK; refine hK _ ?_; clear hK) | (clear hK; clear hK; refine hK _ ?_; clear hK) | (clear hK; clear hK; clear hK; refine hK _ ?_; clear hK) | (clear hK; clear hK; clear hK; clear hK; refine hK _ ?_; clear hK) | (refine wSeq fun K hK => ?_) | ((first | refine wReg ?_ | refine wDrwQ rfl (by kernel_rfl) ?_ | refine wDrwI ?_ | refine wDrw (by kernel_rfl) ?_); simp only [List.map_cons, List.map_nil, strip]) | ((first | refine wIs fun K hK => ?_ | refine wOs fun K hK => ?_ | refine wQs fun K hK => ?_ | refine CallK_plain ?_ | refine CallQ_plain ?_ | refine CallR_plain ?_ | refine wCond ?_); simp [g3, b3, g5, b5, g7, b7, g9, g38, g39, g40, hlt, hx, hg, hw]) | (refine wIn ?_; refine And.intro (by kernel_rfl) ?_; try simp only [thenA_n]) | (first | refine wBlock ?_ | refine wScope ?_) | ((first | refine wRet ?_ | refine wExit ?_ | refine wSkip ?_); try simp) | ((first | refine wLabel ?_ | refine wOn ?_ | refine wQn ?_); try simp only [thenA_n])
    refine hL _ (N - 1) (by omega) ⟨k + 1, R.p, R.up, by omega, hI2, ?_⟩
    simp [g3, b3, g5, b5, g7, b7, g9, g38, g39, hw, pB, wB, mB]
  have hpl := hI.ld
  have hlg := hI.hb.lg
  have okp := hI.hb.ok (by omega)
  have cs := same21_con p (by omega)
  unfold wB at b3
  unfold mB at b5
  unfold pB at b7
  by_cases f1 : m.fr = w.ld
  · have f1' : (m.fr = w.ld) = True := eq_true f1
    by_cases f2 : m.kd = 3
    · replace f2 : (m.kd = 3) = True := eq_true f2
      clear hI cs okp
      repeat' first | (refine CallE.pure (ca) rfl ?_) | (refine CallE.lent (ca) rfl ?_) | (refine CallF.pure (ca) rfl ?_) | (refine CallF.lent (ca) rfl ?_) | (refine CallE.own (ca) ?_) | (refine CallH.pure (ca) rfl ?_) | (refine CallH.lent (ca) rfl ?_) | (refine CallH.own (ca) ?_) | (refine hK _ ?_; clear hK) | (refine hK _ _ ?_; clear hK) | (clear hK; refine hK _ ?_; clear hK) | (clear hK; clear hK; refine hK _ ?_; clear hK) | (clear hK; clear hK; clear hK; refine hK _ ?_; clear hK) | (clear hK; clear hK; clear hK; clear hK; refine hK _ ?_; clear hK) | (refine wSeq fun K hK => ?_) | ((first | refine wReg ?_ | refine wDrwQ rfl (by kernel_rfl) ?_ | refine wDrwI ?_ | refine wDrw (by kernel_rfl) ?_); simp only [List.map_cons, List.map_nil, strip]) | ((first | refine wIs fun K hK => ?_ | refine wOs fun K hK => ?_ | refine wQs fun K hK => ?_ | refine CallK_plain ?_ | refine CallQ_plain ?_ | refine CallR_plain ?_ | refine wCond ?_); simp [g3, b3, g5, b5, g7, b7, g9, g38, g39, g40, hlt, f1', f2]) | (refine wIn ?_; refine And.intro (by kernel_rfl) ?_; try simp only [thenA_n]) | (first | refine wBlock ?_ | refine wScope ?_) | ((first | refine wRet ?_ | refine wExit ?_ | refine wSkip ?_); try simp) | ((first | refine wLabel ?_ | refine wOn ?_ | refine wQn ?_); try simp only [thenA_n])
      all_goals apply hr
      all_goals simp [Try.f6]
    by_cases f3 : m.ep = p.ep
    · replace f2 : (m.kd = 3) = False := eq_false f2
      replace f3 : (m.ep = p.ep) = True := eq_true f3
      clear hI cs okp
      repeat' first | (refine CallE.pure (ca) rfl ?_) | (refine CallE.lent (ca) rfl ?_) | (refine CallF.pure (ca) rfl ?_) | (refine CallF.lent (ca) rfl ?_) | (refine CallE.own (ca) ?_) | (refine CallH.pure (ca) rfl ?_) | (refine CallH.lent (ca) rfl ?_) | (refine CallH.own (ca) ?_) | (refine hK _ ?_; clear hK) | (refine hK _ _ ?_; clear hK) | (clear hK; refine hK _ ?_; clear hK) | (clear hK; clear hK; refine hK _ ?_; clear hK) | (clear hK; clear hK; clear hK; refine hK _ ?_; clear hK) | (clear hK; clear hK; clear hK; clear hK; refine hK _ ?_; clear hK) | (refine wSeq fun K hK => ?_) | ((first | refine wReg ?_ | refine wDrwQ rfl (by kernel_rfl) ?_ | refine wDrwI ?_ | refine wDrw (by kernel_rfl) ?_); simp only [List.map_cons, List.map_nil, strip]) | ((first | refine wIs fun K hK => ?_ | refine wOs fun K hK => ?_ | refine wQs fun K hK => ?_ | refine CallK_plain ?_ | refine CallQ_plain ?_ | refine CallR_plain ?_ | refine wCond ?_); simp [g3, b3, g5, b5, g7, b7, g9, g38, g39, g40, hlt, f1', f2, f3]) | (refine wIn ?_; refine And.intro (by kernel_rfl) ?_; try simp only [thenA_n]) | (first | refine wBlock ?_ | refine wScope ?_) | ((first | refine wRet ?_ | refine wExit ?_ | refine wSkip ?_); try simp) | ((first | refine wLabel ?_ | refine wOn ?_ | refine wQn ?_); try simp only [thenA_n])
      all_goals apply hr
      all_goals simp [Try.f6]
    · have ch := hearN_con p m okp (fun h => h.2.2.elim f2 f3)
      replace f2 : (m.kd = 3) = False := eq_false f2
      replace f3 : (m.ep = p.ep) = False := eq_false f3
      clear hI okp
      unfold Lp.cells Mg.cells at ch
      unfold Lp.cells at cs
      repeat' first | (refine CallE.pure (ca) rfl ?_) | (refine CallE.lent (ca) rfl ?_) | (refine CallF.pure (ca) rfl ?_) | (refine CallF.lent (ca) rfl ?_) | (refine CallE.own (ca) ?_) | (refine CallH.pure (ca) rfl ?_) | (refine CallH.lent (ca) rfl ?_) | (refine CallH.own (ca) ?_) | (refine CallE.pure (ch) rfl ?_) | (refine CallE.lent (ch) rfl ?_) | (refine CallF.pure (ch) rfl ?_) | (refine CallF.lent (ch) rfl ?_) | (refine CallE.own (ch) ?_) | (refine CallH.pure (ch) rfl ?_) | (refine CallH.lent (ch) rfl ?_) | (refine CallH.own (ch) ?_) | (refine CallE.pure (cs) rfl ?_) | (refine CallE.lent (cs) rfl ?_) | (refine CallF.pure (cs) rfl ?_) | (refine CallF.lent (cs) rfl ?_) | (refine CallE.own (cs) ?_) | (refine CallH.pure (cs) rfl ?_) | (refine CallH.lent (cs) rfl ?_) | (refine CallH.own (cs) ?_) | (refine hK _ ?_; clear hK) | (refine hK _ _ ?_; clear hK) | (clear hK; refine hK _ ?_; clear hK) | (clear hK; clear hK; refine hK _ ?_; clear hK) | (clear hK; clear hK; clear hK; refine hK _ ?_; clear hK) | (clear hK; clear hK; clear hK; clear hK; refine hK _ ?_; clear hK) | (refine wSeq fun K hK => ?_) | ((first | refine wReg ?_ | refine wDrwQ rfl (by kernel_rfl) ?_ | refine wDrwI ?_ | refine wDrw (by kernel_rfl) ?_); simp only [List.map_cons, List.map_nil, strip]) | ((first | refine wIs fun K hK => ?_ | refine wOs fun K hK => ?_ | refine wQs fun K hK => ?_ | refine CallK_plain ?_ | refine CallQ_plain ?_ | refine CallR_plain ?_ | refine wCond ?_); simp [g3, b3, g5, b5, g7, b7, g9, g38, g39, g40, hlt, f1', f2, f3]) | (refine wIn ?_; refine And.intro (by kernel_rfl) ?_; try simp only [thenA_n]) | (first | refine wBlock ?_ | refine wScope ?_) | ((first | refine wRet ?_ | refine wExit ?_ | refine wSkip ?_); try simp) | ((first | refine wLabel ?_ | refine wOn ?_ | refine wQn ?_); try simp only [thenA_n])
      all_goals apply hr
      all_goals simp [Try.f6]
  · have ch := hearN_con p m okp (fun h => f1 (h.2.1.trans hpl))
    have f1' : (m.fr = w.ld) = False := eq_false f1
    clear hI okp
    unfold Lp.cells Mg.cells at ch
    unfold Lp.cells at cs
    repeat' first | (refine CallE.pure (ca) rfl ?_) | (refine CallE.lent (ca) rfl ?_) | (refine CallF.pure (ca) rfl ?_) | (refine CallF.lent (ca) rfl ?_) | (refine CallE.own (ca) ?_) | (refine CallH.pure (ca) rfl ?_) | (refine CallH.lent (ca) rfl ?_) | (refine CallH.own (ca) ?_) | (refine CallE.pure (ch) rfl ?_) | (refine CallE.lent (ch) rfl ?_) | (refine CallF.pure (ch) rfl ?_) | (refine CallF.lent (ch) rfl ?_) | (refine CallE.own (ch) ?_) | (refine CallH.pure (ch) rfl ?_) | (refine CallH.lent (ch) rfl ?_) | (refine CallH.own (ch) ?_) | (refine CallE.pure (cs) rfl ?_) | (refine CallE.lent (cs) rfl ?_) | (refine CallF.pure (cs) rfl ?_) | (refine CallF.lent (cs) rfl ?_) | (refine CallE.own (cs) ?_) | (refine CallH.pure (cs) rfl ?_) | (refine CallH.lent (cs) rfl ?_) | (refine CallH.own (cs) ?_) | (refine hK _ ?_; clear hK) | (refine hK _ _ ?_; clear hK) | (clear hK; refine hK _ ?_; clear hK) | (clear hK; clear hK; refine hK _ ?_; clear hK) | (clear hK; clear hK; clear hK; refine hK _ ?_; clear hK) | (clear hK; clear hK; clear hK; clear hK; refine hK _ ?_; clear hK) | (refine wSeq fun K hK => ?_) | ((first | refine wReg ?_ | refine wDrwQ rfl (by kernel_rfl) ?_ | refine wDrwI ?_ | refine wDrw (by kernel_rfl) ?_); simp only [List.map_cons, List.map_nil, strip]) | ((first | refine wIs fun K hK => ?_ | refine wOs fun K hK => ?_ | refine wQs fun K hK => ?_ | refine CallK_plain ?_ | refine CallQ_plain ?_ | refine CallR_plain ?_ | refine wCond ?_); simp [g3, b3, g5, b5, g7, b7, g9, g38, g39, g40, hlt, f1']) | (refine wIn ?_; refine And.intro (by kernel_rfl) ?_; try simp only [thenA_n]) | (first | refine wBlock ?_ | refine wScope ?_) | ((first | refine wRet ?_ | refine wExit ?_ | refine wSkip ?_); try simp) | ((first | refine wLabel ?_ | refine wOn ?_ | refine wQn ?_); try simp only [thenA_n])
    all_goals apply hr
    all_goals simp [Try.f6]
end Go.Proofs.Yteicecbjahhjmaa
