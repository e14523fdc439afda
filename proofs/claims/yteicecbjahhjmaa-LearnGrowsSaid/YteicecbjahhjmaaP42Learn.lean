/- Texts that the proof needs: LNF. -/
import Derived.Test.YteicecbjahhjmaaP40Learn
/- Learners: the law LearnGrows. -/
namespace Go.Proofs.Yteicecbjahhjmaa
set_option linter.unusedSimpArgs false
set_option linter.unusedVariables false
set_option maxRecDepth 8000
open Go Go.Av
attribute [local simp] Try.T1 Try.T2 Try.T3 Try.T4 Try.T5 Try.T9 Try.T12 Try.T15 Try.T16 Try.T17 Try.T21 Try.T22 Try.T23 Try.T25 Try.T26 Try.T28 Try.T30 Try.T31 Try.T33 Try.T35 Try.T36 Try.T37 Try.T38 Try.T39 Try.T41 Try.T42 Try.T44 Try.T45 Try.T47 Try.T48 Try.T50 Try.T51 Try.T52 Try.T54 Try.T55 Try.T56 Try.T58 Try.T59 Try.T61 Try.T63 Try.T65 Try.T67 Try.T68 Try.T69 Try.T70 Try.T72 Try.T73 Try.T74 Try.T75 Try.T76 Try.T77 Try.T78 Try.T79 Try.T80 Try.T81 Try.T83 Try.T84 Try.T85 Try.T87 Try.T88 Try.T89 Try.T90 Try.T91 Try.T92 Try.T93 Try.T94 Try.T95 Try.T96 Try.T97 Try.T98 Try.T99 Try.T101 Try.T103 Try.T104 Try.T105 Try.T106 Try.T107 Try.T108 Try.T109 Try.T110 Try.T111 Try.T113 Try.T114 Try.T115 Try.T116 Try.T117 Try.T118 Try.T119 Try.T120 Try.T121 Try.T122 Try.T123 Try.T124 Try.T125 Try.T126 Try.T127 Try.T128 Try.T129 Try.T130 Try.T131 Try.T132 Try.T133 Try.T134 Try.T135 Try.T137 Try.T138 Try.T139 Try.T140 Try.T141 Try.T142 Try.T143 Try.T144 Try.T145 Try.T146 Try.T147 Try.T148 Try.T149 Try.T150 Try.T153 Try.T156 Try.T157 Try.T160 Try.T161 Try.T167
attribute [local irreducible] Go.Av.CallK Go.Av.CallE Go.Av.CallQ Go.Av.CallF Go.Av.CallR Go.Av.CallH Go.Av.Con
set_option maxHeartbeats 16000000 in
theorem learnGrows_con (w : Wh) (l : List Ev22) (hs : SmallH w.h) (hl : ∀ e ∈ l, SmallE e) : ACon Try.prog 5 [.p (.agg w.cells), .p (.sl 48 (evsC l))] (.p (B true)) := by
  have cm := may_con w hs
  have ce := evs_con l hl
  have ca := awake22
  by_cases hm : mayW w
  case neg =>
    rw [decide_eq_false hm] at cm
    clear ce hm
    unfold Wh.cells at *
    refine wBody Try.tab Try.mixed Try.func5 rfl rfl Try.ntmps5 (by simp) (by simp) fun Q hr hn => ?_
    repeat' first | (refine CallE.pure (cm) rfl ?_) | (refine CallE.lent (cm) rfl ?_) | (refine CallF.pure (cm) rfl ?_) | (refine CallF.lent (cm) rfl ?_) | (refine CallE.own (cm) ?_) | (refine CallH.pure (cm) rfl ?_) | (refine CallH.lent (cm) rfl ?_) | (refine CallH.own (cm) ?_) | (refine CallE.pure (ca) rfl ?_) | (refine CallE.lent (ca) rfl ?_) | (refine CallF.pure (ca) rfl ?_) | (refine CallF.lent (ca) rfl ?_) | (refine CallE.own (ca) ?_) | (refine CallH.pure (ca) rfl ?_) | (refine CallH.lent (ca) rfl ?_) | (refine CallH.own (ca) ?_) | (refine hK _ ?_; clear hK) | (refine hK _ _ ?_; clear hK) | (clear hK; refine hK _ ?_; clear hK) | (clear hK; clear hK; refine hK _ ?_; clear hK) | (clear hK; clear hK; clear hK; refine hK _ ?_; clear hK) | (clear hK; clear hK; clear hK; clear hK; refine hK _ ?_; clear hK) | (refine wSeq fun K hK => ?_) | ((first | refine wReg ?_ | refine wDrwQ rfl (by kernel_rfl) ?_ | refine wDrwI ?_ | refine wDrw (by kernel_rfl) ?_); simp only [List.map_cons, List.map_nil, strip]) | ((first | refine wIs fun K hK => ?_ | refine wOs fun K hK => ?_ | refine wQs fun K hK => ?_ | refine CallK_plain ?_ | refine CallQ_plain ?_ | refine CallR_plain ?_ | refine wCond ?_); simp) | (refine wIn ?_; refine And.intro (by kernel_rfl) ?_; try simp only [thenA_n]) | (first | refine wBlock ?_ | refine wScope ?_) | ((first | refine wRet ?_ | refine wExit ?_ | refine wSkip ?_); try simp) | ((first | refine wLabel ?_ | refine wOn ?_ | refine wQn ?_); try simp only [thenA_n])
    all_goals apply hr
    all_goals simp [Try.f5]
  rw [decide_eq_true hm] at cm
  by_cases he : nearL l
  case neg =>
    rw [decide_eq_true he] at ce
    clear he hm
    unfold Wh.cells at *
    refine wBody Try.tab Try.mixed Try.func5 rfl rfl Try.ntmps5 (by simp) (by simp) fun Q hr hn => ?_
    repeat' first | (refine CallE.pure (cm) rfl ?_) | (refine CallE.lent (cm) rfl ?_) | (refine CallF.pure (cm) rfl ?_) | (refine CallF.lent (cm) rfl ?_) | (refine CallE.own (cm) ?_) | (refine CallH.pure (cm) rfl ?_) | (refine CallH.lent (cm) rfl ?_) | (refine CallH.own (cm) ?_) | (refine CallE.pure (ce) rfl ?_) | (refine CallE.lent (ce) rfl ?_) | (refine CallF.pure (ce) rfl ?_) | (refine CallF.lent (ce) rfl ?_) | (refine CallE.own (ce) ?_) | (refine CallH.pure (ce) rfl ?_) | (refine CallH.lent (ce) rfl ?_) | (refine CallH.own (ce) ?_) | (refine CallE.pure (ca) rfl ?_) | (refine CallE.lent (ca) rfl ?_) | (refine CallF.pure (ca) rfl ?_) | (refine CallF.lent (ca) rfl ?_) | (refine CallE.own (ca) ?_) | (refine CallH.pure (ca) rfl ?_) | (refine CallH.lent (ca) rfl ?_) | (refine CallH.own (ca) ?_) | (refine hK _ ?_; clear hK) | (refine hK _ _ ?_; clear hK) | (clear hK; refine hK _ ?_; clear hK) | (clear hK; clear hK; refine hK _ ?_; clear hK) | (clear hK; clear hK; clear hK; refine hK _ ?_; clear hK) | (clear hK; clear hK; clear hK; clear hK; refine hK _ ?_; clear hK) | (refine wSeq fun K hK => ?_) | ((first | refine wReg ?_ | refine wDrwQ rfl (by kernel_rfl) ?_ | refine wDrwI ?_ | refine wDrw (by kernel_rfl) ?_); simp only [List.map_cons, List.map_nil, strip]) | ((first | refine wIs fun K hK => ?_ | refine wOs fun K hK => ?_ | refine wQs fun K hK => ?_ | refine CallK_plain ?_ | refine CallQ_plain ?_ | refine CallR_plain ?_ | refine wCond ?_); simp) | (refine wIn ?_; refine And.intro (by kernel_rfl) ?_; try simp only [thenA_n]) | (first | refine wBlock ?_ | refine wScope ?_) | ((first | refine wRet ?_ | refine wExit ?_ | refine wSkip ?_); try simp) | ((first | refine wLabel ?_ | refine wOn ?_ | refine wQn ?_); try simp only [thenA_n])
    all_goals apply hr
    all_goals simp [Try.f5]
  rw [decide_eq_false (not_not_intro he)] at ce
  have hb := near_HB hm.2.2.2.2.2.2.1
  have hi0 := Inv.begin hb hm.2.2.2.2.2.2.2
  have c1 := begin22_con w
  have c2 := begin_con (beg w) w.ld (HB.ok (k := 30) hb (by omega))
  have hln := he.1
  generalize (comeM (beginP (beg w) w.ld)).cells = cmsg at *
  generalize beginP (beg w) w.ld = p0 at *
  generalize beg w = w0 at *
  have hwc : w.cells = w.cells := rfl
  unfold Wh.cells Lp.cells at *
  refine wBody Try.tab Try.mixed Try.func5 rfl rfl Try.ntmps5 (by simp) (by simp) fun Q hr hn => ?_
  repeat' first | (refine CallE.pure (cm) rfl ?_) | (refine CallE.lent (cm) rfl ?_) | (refine CallF.pure (cm) rfl ?_) | (refine CallF.lent (cm) rfl ?_) | (refine CallE.own (cm) ?_) | (refine CallH.pure (cm) rfl ?_) | (refine CallH.lent (cm) rfl ?_) | (refine CallH.own (cm) ?_) | (refine CallE.pure (ce) rfl ?_) | (refine CallE.lent (ce) rfl ?_) | (refine CallF.pure (ce) rfl ?_) | (refine CallF.lent (ce) rfl ?_) | (refine CallE.own (ce) ?_) | (refine CallH.pure (ce) rfl ?_) | (refine CallH.lent (ce) rfl ?_) | (refine CallH.own (ce) ?_) | (refine CallE.pure (c1) rfl ?_) | (refine CallE.lent (c1) rfl ?_) | (refine CallF.pure (c1) rfl ?_) | (refine CallF.lent (c1) rfl ?_) | (refine CallE.own (c1) ?_) | (refine CallH.pure (c1) rfl ?_) | (refine CallH.lent (c1) rfl ?_) | (refine CallH.own (c1) ?_) | (refine CallE.pure (c2) rfl ?_) | (refine CallE.lent (c2) rfl ?_) | (refine CallF.pure (c2) rfl ?_) | (refine CallF.lent (c2) rfl ?_) | (refine CallE.own (c2) ?_) | (refine CallH.pure (c2) rfl ?_) | (refine CallH.lent (c2) rfl ?_) | (refine CallH.own (c2) ?_) | (refine hK _ ?_; clear hK) | (refine hK _ _ ?_; clear hK) | (clear hK; refine hK _ ?_; clear hK) | (clear hK; clear hK; refine hK _ ?_; clear hK) | (clear hK; clear hK; clear hK; refine hK _ ?_; clear hK) | (clear hK; clear hK; clear hK; clear hK; refine hK _ ?_; clear hK) | (refine wSeq fun K hK => ?_) | ((first | refine wReg ?_ | refine wDrwQ rfl (by kernel_rfl) ?_ | refine wDrwI ?_ | refine wDrw (by kernel_rfl) ?_); simp only [List.map_cons, List.map_nil, strip]) | ((first | refine wIs fun K hK => ?_ | refine wOs fun K hK => ?_ | refine wQs fun K hK => ?_ | refine CallK_plain ?_ | refine CallQ_plain ?_ | refine CallR_plain ?_ | refine wCond ?_); simp) | (refine wIn ?_; refine And.intro (by kernel_rfl) ?_; try simp only [thenA_n]) | (first | refine wBlock ?_ | refine wScope ?_) | ((first | refine wRet ?_ | refine wExit ?_ | refine wSkip ?_); try simp) | ((first | refine wLabel ?_ | refine wOn ?_ | refine wQn ?_); try simp only [thenA_n])
  clear c1 c2 cm ce
  refine wLoop (fun N st => ∃ k p up, k + N = l.length ∧ Inv w k p ∧ st.s 5 = .ptr 5 0 ∧ st.b 5 = some (.box 47 (pB p)) ∧ st.s 7 = .p (B up) ∧ st.s 31 = .p (.sl 48 (evsC l)) ∧ st.s 32 = .p (I l.length) ∧ st.s 33 = .p (I k)) l.length ⟨0, p0, true, by simp [pB, wB]; exact hi0⟩ fun K N st hL ⟨k, p, up, hkN, hI, g5, b5, g7, g31, g32, g33⟩ => ?_
  by_cases hlt : k < l.length
  case neg =>
    clear hI
    unfold pB at b5
    repeat' first | (refine CallE.pure (ca) rfl ?_) | (refine CallE.lent (ca) rfl ?_) | (refine CallF.pure (ca) rfl ?_) | (refine CallF.lent (ca) rfl ?_) | (refine CallE.own (ca) ?_) | (refine CallH.pure (ca) rfl ?_) | (refine CallH.lent (ca) rfl ?_) | (refine CallH.own (ca) ?_) | (refine hK _ ?_; clear hK) | (refine hK _ _ ?_; clear hK) | (clear hK; refine hK _ ?_; clear hK) | (clear hK; clear hK; refine hK _ ?_; clear hK) | (clear hK; clear hK; clear hK; refine hK _ ?_; clear hK) | (clear hK; clear hK; clear hK; clear hK; refine hK _ ?_; clear hK) | (refine wSeq fun K hK => ?_) | ((first | refine wReg ?_ | refine wDrwQ rfl (by kernel_rfl) ?_ | refine wDrwI ?_ | refine wDrw (by kernel_rfl) ?_); simp only [List.map_cons, List.map_nil, strip]) | ((first | refine wIs fun K hK => ?_ | refine wOs fun K hK => ?_ | refine wQs fun K hK => ?_ | refine CallK_plain ?_ | refine CallQ_plain ?_ | refine CallR_plain ?_ | refine wCond ?_); simp [g5, b5, g7, g31, g32, g33, hlt]) | (refine wIn ?_; refine And.intro (by kernel_rfl) ?_; try simp only [thenA_n]) | (first | refine wBlock ?_ | refine wScope ?_) | ((first | refine wRet ?_ | refine wExit ?_ | refine wSkip ?_); try simp) | ((first | refine wLabel ?_ | refine wOn ?_ | refine wQn ?_); try simp only [thenA_n])
    all_goals apply hr
    all_goals simp [Try.f5]
  have hw := wrapS k _ hlt (by omega)
  have hne := he.2 l[k] (List.getElem_mem hlt)
  cases up
  · clear hI hne
    unfold pB at b5
    repeat' first | (refine CallE.pure (ca) rfl ?_) | (refine CallE.lent (ca) rfl ?_) | (refine CallF.pure (ca) rfl ?_) | (refine CallF.lent (ca) rfl ?_) | (refine CallE.own (ca) ?_) | (refine CallH.pure (ca) rfl ?_) | (refine CallH.lent (ca) rfl ?_) | (refine CallH.own (ca) ?_) | (refine hK _ ?_; clear hK) | (refine hK _ _ ?_; clear hK) | (clear hK; refine hK _ ?_; clear hK) | (clear hK; clear hK; refine hK _ ?_; clear hK) | (clear hK; clear hK; clear hK; refine hK _ ?_; clear hK) | (clear hK; clear hK; clear hK; clear hK; refine hK _ ?_; clear hK) | (refine wSeq fun K hK => ?_) | ((first | refine wReg ?_ | refine wDrwQ rfl (by kernel_rfl) ?_ | refine wDrwI ?_ | refine wDrw (by kernel_rfl) ?_); simp only [List.map_cons, List.map_nil, strip]) | ((first | refine wIs fun K hK => ?_ | refine wOs fun K hK => ?_ | refine wQs fun K hK => ?_ | refine CallK_plain ?_ | refine CallQ_plain ?_ | refine CallR_plain ?_ | refine wCond ?_); simp [g5, b5, g7, g31, g32, g33, hlt]) | (refine wIn ?_; refine And.intro (by kernel_rfl) ?_; try simp only [thenA_n]) | (first | refine wBlock ?_ | refine wScope ?_) | ((first | refine wRet ?_ | refine wExit ?_ | refine wSkip ?_); try simp) | ((first | refine wLabel ?_ | refine wOn ?_ | refine wQn ?_); try simp only [thenA_n])
    all_goals apply hr
    all_goals simp [Try.f5]
  have hg := evsC_get hlt
  have hlg := hI.hb.lg
  have hp3 : p.h.lg.length ≤ 1000 := by omega
  have cd := do22_con p l[k] (hI.hb.ok (by omega)) hne.m.ok (by have := hne.m.pl.lg; simp only at this; omega)
  have hlate := act_late (e := l[k]) hI
  have hearly := act_early (e := l[k]) hI
  have hI2 := hI.act (e := l[k]) hne.m
  rw [out_eq] at cd
  clear hne hlg hI
  generalize l[k].m.tx = tx at *
  generalize actR p l[k] = R at *
  generalize hx : l[k] = x at *
  unfold pB at b5
  unfold Ev22.cells at hg cd
  unfold Lp.cells at cd
  by_cases h3 : 3 ≤ p.ph
  · obtain ⟨l1, l2, l3, l4⟩ := hlate h3
    clear hlate hearly
    have q1 : ¬ R.p.ph < p.ph := by omega
    have q2 : (R.p.cu = R.p.ep) = True := eq_true (hI2.cu (by have := hI2.ph; omega))
    have q3 : (R.p.ac = p.ac) = True := eq_true l4
    have hle : p.h.lg.length ≤ R.p.h.lg.length := by rcases l2 with h | h <;> rw [h] <;> simp
    have hle2 : R.p.h.lg.length ≤ p.h.lg.length + 1 := by rcases l2 with h | h <;> rw [h] <;> simp
    have q4 : ¬ (R.p.h.lg.length : Int) < p.h.lg.length := by omega
    have wn : IntKind.i64.wrap ((p.h.lg.length : Int) + 1) = (p.h.lg.length : Int) + 1 := by rw [wrap_id] <;> omega
    have q5 : ¬ (p.h.lg.length : Int) + 1 < R.p.h.lg.length := by omega
    have htk : (txns R.p.h.lg).take p.h.lg.length = txns p.h.lg := by
      rw [txns_take]
      congr 1
      rcases l2 with h | h
      · rw [h, List.take_length]
      · rw [h, List.take_left']; rfl
    have cs := sameTxns08_con p.h.lg (by omega)
    have cc := cmp02_con R.p.d.e R.p.d.n p.d.e p.d.n
    have q6 : ¬ zcmp R.p.d.e R.p.d.n p.d.e p.d.n < 0 := by omega
    generalize zcmp R.p.d.e R.p.d.n p.d.e p.d.n = zz at *
    clear l2 l3 l4
    repeat' first | (refine CallE.pure (cd) rfl ?_) | (refine CallE.lent (cd) rfl ?_) | (refine CallF.pure (cd) rfl ?_) | (refine CallF.lent (cd) rfl ?_) | (refine CallE.own (cd) ?_) | (refine CallH.pure (cd) rfl ?_) | (refine CallH.lent (cd) rfl ?_) | (refine CallH.own (cd) ?_) | (refine CallE.pure (cs) rfl ?_) | (refine CallE.lent (cs) rfl ?_) | (refine CallF.pure (cs) rfl ?_) | (refine CallF.lent (cs) rfl ?_) | (refine CallE.own (cs) ?_) | (refine CallH.pure (cs) rfl ?_) | (refine CallH.lent (cs) rfl ?_) | (refine CallH.own (cs) ?_) | (refine CallE.pure (cc) rfl ?_) | (refine CallE.lent (cc) rfl ?_) | (refine CallF.pure (cc) rfl ?_) | (refine CallF.lent (cc) rfl ?_) | (refine CallE.own (cc) ?_) | (refine CallH.pure (cc) rfl ?_) | (refine CallH.lent (cc) rfl ?_) | (refine CallH.own (cc) ?_) | (refine hK _ ?_; clear hK) | (refine hK _ _ ?_; clear hK) | (clear hK; refine hK _ ?_; clear hK) | (clear hK; clear hK; refine hK _ ?_; clear hK) | (clear hK; clear hK; clear hK; refine hK _ ?_; clear hK) | (clear hK; clear hK; clear hK; clear hK; refine hK _ ?_; clear hK) | (refine wSeq fun K hK => ?_) | ((first | refine wReg ?_ | refine wDrwQ rfl (by kernel_rfl) ?_ | refine wDrwI ?_ | refine wDrw (by kernel_rfl) ?_); simp only [List.map_cons, List.map_nil, strip]) | ((first | refine wIs fun K hK => ?_ | refine wOs fun K hK => ?_ | refine wQs fun K hK => ?_ | refine CallK_plain ?_ | refine CallQ_plain ?_ | refine CallR_plain ?_ | refine wCond ?_); simp [g5, b5, g7, g31, g32, g33, hlt, hx, hg, h3, q1, q2, q3, q4, wn, q5, htk, q6, hle, hw]) | (refine wIn ?_; refine And.intro (by kernel_rfl) ?_; try simp only [thenA_n]) | (first | refine wBlock ?_ | refine wScope ?_) | ((first | refine wRet ?_ | refine wExit ?_ | refine wSkip ?_); try simp) | ((first | refine wLabel ?_ | refine wOn ?_ | refine wQn ?_); try simp only [thenA_n])
    refine hL _ (N - 1) (by omega) ⟨k + 1, R.p, R.up, by omega, hI2, ?_⟩
    simp [g5, b5, g7, g31, g32, g33, hw, pB]
  · have h3' : p.ph < 3 := by omega
    by_cases hq : R.p.ph < 3
    · obtain ⟨l1, l2, l3⟩ := hearly h3' hq
      have ch := same16H_con p.h (by omega)
      unfold Hy.cells at ch
      clear hlate hearly
      have hRp : R.p.h = p.h ∧ R.p.d = p.d ∧ R.p.cu = p.cu := ⟨l1, l2, l3⟩
      obtain ⟨⟨rid, rac, rcu, rh, rd, rmo, rld, rph, rwt, rep⟩, rl, rup⟩ := R
      dsimp only at *
      subst l1 l2 l3
      clear hRp
      repeat' first | (refine CallE.pure (cd) rfl ?_) | (refine CallE.lent (cd) rfl ?_) | (refine CallF.pure (cd) rfl ?_) | (refine CallF.lent (cd) rfl ?_) | (refine CallE.own (cd) ?_) | (refine CallH.pure (cd) rfl ?_) | (refine CallH.lent (cd) rfl ?_) | (refine CallH.own (cd) ?_) | (refine CallE.pure (ch) rfl ?_) | (refine CallE.lent (ch) rfl ?_) | (refine CallF.pure (ch) rfl ?_) | (refine CallF.lent (ch) rfl ?_) | (refine CallE.own (ch) ?_) | (refine CallH.pure (ch) rfl ?_) | (refine CallH.lent (ch) rfl ?_) | (refine CallH.own (ch) ?_) | (refine hK _ ?_; clear hK) | (refine hK _ _ ?_; clear hK) | (clear hK; refine hK _ ?_; clear hK) | (clear hK; clear hK; refine hK _ ?_; clear hK) | (clear hK; clear hK; clear hK; refine hK _ ?_; clear hK) | (clear hK; clear hK; clear hK; clear hK; refine hK _ ?_; clear hK) | (refine wSeq fun K hK => ?_) | ((first | refine wReg ?_ | refine wDrwQ rfl (by kernel_rfl) ?_ | refine wDrwI ?_ | refine wDrw (by kernel_rfl) ?_); simp only [List.map_cons, List.map_nil, strip]) | ((first | refine wIs fun K hK => ?_ | refine wOs fun K hK => ?_ | refine wQs fun K hK => ?_ | refine CallK_plain ?_ | refine CallQ_plain ?_ | refine CallR_plain ?_ | refine wCond ?_); simp [g5, b5, g7, g31, g32, g33, hlt, hx, hg, h3, h3', hq, hw]) | (refine wIn ?_; refine And.intro (by kernel_rfl) ?_; try simp only [thenA_n]) | (first | refine wBlock ?_ | refine wScope ?_) | ((first | refine wRet ?_ | refine wExit ?_ | refine wSkip ?_); try simp) | ((first | refine wLabel ?_ | refine wOn ?_ | refine wQn ?_); try simp only [thenA_n])
      refine hL _ (N - 1) (by omega) ⟨k + 1, _, rup, by omega, hI2, ?_⟩
      simp [g5, b5, g7, g31, g32, g33, hw, pB]
    · clear hlate hearly
      repeat' first | (refine CallE.pure (cd) rfl ?_) | (refine CallE.lent (cd) rfl ?_) | (refine CallF.pure (cd) rfl ?_) | (refine CallF.lent (cd) rfl ?_) | (refine CallE.own (cd) ?_) | (refine CallH.pure (cd) rfl ?_) | (refine CallH.lent (cd) rfl ?_) | (refine CallH.own (cd) ?_) | (refine hK _ ?_; clear hK) | (refine hK _ _ ?_; clear hK) | (clear hK; refine hK _ ?_; clear hK) | (clear hK; clear hK; refine hK _ ?_; clear hK) | (clear hK; clear hK; clear hK; refine hK _ ?_; clear hK) | (clear hK; clear hK; clear hK; clear hK; refine hK _ ?_; clear hK) | (refine wSeq fun K hK => ?_) | ((first | refine wReg ?_ | refine wDrwQ rfl (by kernel_rfl) ?_ | refine wDrwI ?_ | refine wDrw (by kernel_rfl) ?_); simp only [List.map_cons, List.map_nil, strip]) | ((first | refine wIs fun K hK => ?_ | refine wOs fun K hK => ?_ | refine wQs fun K hK => ?_ | refine CallK_plain ?_ | refine CallQ_plain ?_ | refine CallR_plain ?_ | refine wCond ?_); simp [g5, b5, g7, g31, g32, g33, hlt, hx, hg, h3, h3', hq, hw]) | (refine wIn ?_; refine And.intro (by kernel_rfl) ?_; try simp only [thenA_n]) | (first | refine wBlock ?_ | refine wScope ?_) | ((first | refine wRet ?_ | refine wExit ?_ | refine wSkip ?_); try simp) | ((first | refine wLabel ?_ | refine wOn ?_ | refine wQn ?_); try simp only [thenA_n])
      refine hL _ (N - 1) (by omega) ⟨k + 1, R.p, R.up, by omega, hI2, ?_⟩
      simp [g5, b5, g7, g31, g32, g33, hw, pB]
end Go.Proofs.Yteicecbjahhjmaa
