/- Acknowledged: the laws AckSafe, AckMore. -/
import Derived.Test.YtnfcbkageifmfaaMM5
namespace Go.Proofs.Ytnfcbkageifmfaa
set_option linter.unusedSimpArgs false
set_option linter.unusedVariables false
open Go Go.Av
attribute [local simp] Try.T1 Try.T2 Try.T3 Try.T4 Try.T5 Try.T9 Try.T12 Try.T15 Try.T16 Try.T17 Try.T21 Try.T22 Try.T23 Try.T25 Try.T27 Try.T29 Try.T30 Try.T31 Try.T32 Try.T33 Try.T35 Try.T37 Try.T38 Try.T40 Try.T41 Try.T42 Try.T43 Try.T44 Try.T45 Try.T46 Try.T47 Try.T48 Try.T49 Try.T50 Try.T51 Try.T52 Try.T53 Try.T54 Try.T56 Try.T57 Try.T58 Try.T59 Try.T60 Try.T61 Try.T62 Try.T64 Try.T66 Try.T67 Try.T68 Try.T69 Try.T71 Try.T72 Try.T73 Try.T74 Try.T75 Try.T76 Try.T77 Try.T78 Try.T79 Try.T80 Try.T81 Try.T82 Try.T83 Try.T84 Try.T85 Try.T86 Try.T87 Try.T88 Try.T89 Try.T90 Try.T91 Try.T92 Try.T93 Try.T94 Try.T95 Try.T97 Try.T98 Try.T99 Try.T100 Try.T101 Try.T102 Try.T103 Try.T104 Try.T105 Try.T106 Try.T107 Try.T108 Try.T109 Try.T110 Try.T111 Try.T112 Try.T113 Try.T114 Try.T115 Try.T116 Try.T117 Try.T120 Try.T123 Try.T124 Try.T127 Try.T128
attribute [local irreducible] Go.Av.CallK Go.Av.CallE Go.Av.CallQ Go.Av.CallF Go.Av.CallR Go.Av.CallH Go.Av.Con
theorem pv_inj {h : Hy} (hr : risesB (marksH h) = true) {i j : Nat} (hi : i ≤ h.lg.length) (hj : j ≤ h.lg.length) (he : (pv h i).e = (pv h j).e ∧ (pv h i).n = (pv h j).n) : i = j := by
  rcases Nat.lt_trichotomy i j with h1 | h1 | h1
  · have := pv_lt hr h1 hj; unfold zlt at this; omega
  · exact h1
  · have := pv_lt hr h1 hi; unfold zlt at this; omega
theorem pv_cmp {h : Hy} (hr : risesB (marksH h) = true) {i j : Nat} (hi : i ≤ h.lg.length) (hj : j ≤ h.lg.length) : (zcmp (pv h i).e (pv h i).n (pv h j).e (pv h j).n ≤ 0 ↔ i ≤ j) := by
  rw [zcmp_le]
  rcases Nat.lt_trichotomy i j with h1 | h1 | h1
  · have := pv_lt hr h1 hj; unfold zlt at this; constructor
    · intro _; omega
    · intro _; omega
  · subst h1; simp
  · have := pv_lt hr h1 hi; unfold zlt at this; constructor
    · intro _; omega
    · intro _; omega
set_option maxHeartbeats 8000000 in
theorem ackSafe_con (h : Hy) (l : List Lr) (self : Int) (hs : SmallH h) (hl : SmallL l) :
    ACon Try.prog 5 [.p (.agg h.cells), .p (.sl 8 (lrs l)), .p (I self)] (.p (B true)) := by
  have c0 := far19_con h l hs hl
  have ca := awake19
  by_cases hn : nearK h l
  rotate_left
  · rw [decide_eq_true hn] at c0
    unfold Hy.cells at c0 ⊢
    refine wBody Try.tab Try.mixed Try.func5 rfl rfl Try.ntmps5 (by simp) (by simp) fun Q hr hn => ?_
    repeat' first | (refine hK _ ?_; clear hK) | (refine hK _ _ ?_; clear hK) | (clear hK; refine hK _ ?_; clear hK) | (clear hK; clear hK; refine hK _ ?_; clear hK) | (clear hK; clear hK; clear hK; refine hK _ ?_; clear hK) | (clear hK; clear hK; clear hK; clear hK; refine hK _ ?_; clear hK) | (refine wSeq fun K hK => ?_) | ((first | refine wReg ?_ | refine wDrwQ rfl (by kernel_rfl) ?_ | refine wDrwI ?_ | refine wDrw (by kernel_rfl) ?_); simp only [List.map_cons, List.map_nil, strip]) | ((first | refine wIs fun K hK => ?_ | refine wOs fun K hK => ?_ | refine wQs fun K hK => ?_ | refine CallK_plain ?_ | refine CallQ_plain ?_ | refine CallR_plain ?_ | refine wCond ?_); simp) | (refine wIn ?_; refine And.intro (by kernel_rfl) ?_; try simp only [thenA_n]) | (first | refine wBlock ?_ | refine wScope ?_) | ((first | refine wRet ?_ | refine wExit ?_ | refine wSkip ?_); try simp) | ((first | refine wLabel ?_ | refine wOn ?_ | refine wQn ?_); try simp only [thenA_n]) | (refine CallE.pure (c0) rfl ?_) | (refine CallE.lent (c0) rfl ?_) | (refine CallF.pure (c0) rfl ?_) | (refine CallF.lent (c0) rfl ?_) | (refine CallE.own (c0) ?_) | (refine CallH.pure (c0) rfl ?_) | (refine CallH.lent (c0) rfl ?_) | (refine CallH.own (c0) ?_) | (refine CallE.pure (ca) rfl ?_) | (refine CallE.lent (ca) rfl ?_) | (refine CallF.pure (ca) rfl ?_) | (refine CallF.lent (ca) rfl ?_) | (refine CallE.own (ca) ?_) | (refine CallH.pure (ca) rfl ?_) | (refine CallH.lent (ca) rfl ?_) | (refine CallH.own (ca) ?_)
    all_goals apply hr
    all_goals simp [Try.f5]
  rw [decide_eq_false (fun h => h hn)] at c0
  have hk := OkH.of hn
  have hll := hn.2.2.1
  have hlg := hk.lg
  have cc := check16_con h hlg
  by_cases hr0 : risesB (marksH h) = true
  rotate_left
  · simp only [Bool.not_eq_true] at hr0
    rw [hr0] at cc
    unfold Hy.cells at c0 cc ⊢
    refine wBody Try.tab Try.mixed Try.func5 rfl rfl Try.ntmps5 (by simp) (by simp) fun Q hr hn => ?_
    repeat' first | (refine hK _ ?_; clear hK) | (refine hK _ _ ?_; clear hK) | (clear hK; refine hK _ ?_; clear hK) | (clear hK; clear hK; refine hK _ ?_; clear hK) | (clear hK; clear hK; clear hK; refine hK _ ?_; clear hK) | (clear hK; clear hK; clear hK; clear hK; refine hK _ ?_; clear hK) | (refine wSeq fun K hK => ?_) | ((first | refine wReg ?_ | refine wDrwQ rfl (by kernel_rfl) ?_ | refine wDrwI ?_ | refine wDrw (by kernel_rfl) ?_); simp only [List.map_cons, List.map_nil, strip]) | ((first | refine wIs fun K hK => ?_ | refine wOs fun K hK => ?_ | refine wQs fun K hK => ?_ | refine CallK_plain ?_ | refine CallQ_plain ?_ | refine CallR_plain ?_ | refine wCond ?_); simp) | (refine wIn ?_; refine And.intro (by kernel_rfl) ?_; try simp only [thenA_n]) | (first | refine wBlock ?_ | refine wScope ?_) | ((first | refine wRet ?_ | refine wExit ?_ | refine wSkip ?_); try simp) | ((first | refine wLabel ?_ | refine wOn ?_ | refine wQn ?_); try simp only [thenA_n]) | (refine CallE.pure (c0) rfl ?_) | (refine CallE.lent (c0) rfl ?_) | (refine CallF.pure (c0) rfl ?_) | (refine CallF.lent (c0) rfl ?_) | (refine CallE.own (c0) ?_) | (refine CallH.pure (c0) rfl ?_) | (refine CallH.lent (c0) rfl ?_) | (refine CallH.own (c0) ?_) | (refine CallE.pure (cc) rfl ?_) | (refine CallE.lent (cc) rfl ?_) | (refine CallF.pure (cc) rfl ?_) | (refine CallF.lent (cc) rfl ?_) | (refine CallE.own (cc) ?_) | (refine CallH.pure (cc) rfl ?_) | (refine CallH.lent (cc) rfl ?_) | (refine CallH.own (cc) ?_) | (refine CallE.pure (ca) rfl ?_) | (refine CallE.lent (ca) rfl ?_) | (refine CallF.pure (ca) rfl ?_) | (refine CallF.lent (ca) rfl ?_) | (refine CallE.own (ca) ?_) | (refine CallH.pure (ca) rfl ?_) | (refine CallH.lent (ca) rfl ?_) | (refine CallH.own (ca) ?_)
    all_goals apply hr
    all_goals simp [Try.f5]
  rw [hr0] at cc
  have cb := base16_con h
  have c1 := commit_con h h.im.ae h.im.an self l hk (by omega)
  obtain ⟨m, hm, hq1, -, hz⟩ := com_first hr0 self l
  rw [hz] at c1
  simp only at c1
  have hb0 : ((pv h m).e = h.im.ae ∧ (pv h m).n = h.im.an) ↔ m ≤ 0 := by
    constructor
    · intro h1
      have := pv_inj hr0 hm (Nat.zero_le _) (by rw [pv_zero]; exact h1)
      omega
    · intro h1
      rw [show m = 0 by omega, pv_zero]; simp
  unfold Hy.cells at c0 cc cb c1 ⊢
  obtain ⟨zz, hzz⟩ : ∃ zz, zz = pv h m := ⟨_, rfl⟩
  rw [← hzz] at c1 hb0
  have hc5 : ∀ e n : Int, (zz.e = e ∧ zz.n = n) = (zz.e = e ∧ zz.n = n) := fun _ _ => rfl
  refine wBody Try.tab Try.mixed Try.func5 rfl rfl Try.ntmps5 (by simp) (by simp) fun Q hr hn => ?_
  repeat' first | (refine hK _ ?_; clear hK) | (refine hK _ _ ?_; clear hK) | (clear hK; refine hK _ ?_; clear hK) | (clear hK; clear hK; refine hK _ ?_; clear hK) | (clear hK; clear hK; clear hK; refine hK _ ?_; clear hK) | (clear hK; clear hK; clear hK; clear hK; refine hK _ ?_; clear hK) | (refine wSeq fun K hK => ?_) | ((first | refine wReg ?_ | refine wDrwQ rfl (by kernel_rfl) ?_ | refine wDrwI ?_ | refine wDrw (by kernel_rfl) ?_); simp only [List.map_cons, List.map_nil, strip]) | ((first | refine wIs fun K hK => ?_ | refine wOs fun K hK => ?_ | refine wQs fun K hK => ?_ | refine CallK_plain ?_ | refine CallQ_plain ?_ | refine CallR_plain ?_ | refine wCond ?_); simp) | (refine wIn ?_; refine And.intro (by kernel_rfl) ?_; try simp only [thenA_n]) | (first | refine wBlock ?_ | refine wScope ?_) | ((first | refine wRet ?_ | refine wExit ?_ | refine wSkip ?_); try simp) | ((first | refine wLabel ?_ | refine wOn ?_ | refine wQn ?_); try simp only [thenA_n]) | (refine CallE.pure (c0) rfl ?_) | (refine CallE.lent (c0) rfl ?_) | (refine CallF.pure (c0) rfl ?_) | (refine CallF.lent (c0) rfl ?_) | (refine CallE.own (c0) ?_) | (refine CallH.pure (c0) rfl ?_) | (refine CallH.lent (c0) rfl ?_) | (refine CallH.own (c0) ?_) | (refine CallE.pure (cc) rfl ?_) | (refine CallE.lent (cc) rfl ?_) | (refine CallF.pure (cc) rfl ?_) | (refine CallF.lent (cc) rfl ?_) | (refine CallE.own (cc) ?_) | (refine CallH.pure (cc) rfl ?_) | (refine CallH.lent (cc) rfl ?_) | (refine CallH.own (cc) ?_) | (refine CallE.pure (cb) rfl ?_) | (refine CallE.lent (cb) rfl ?_) | (refine CallF.pure (cb) rfl ?_) | (refine CallF.lent (cb) rfl ?_) | (refine CallE.own (cb) ?_) | (refine CallH.pure (cb) rfl ?_) | (refine CallH.lent (cb) rfl ?_) | (refine CallH.own (cb) ?_) | (refine CallE.pure (c1) rfl ?_) | (refine CallE.lent (c1) rfl ?_) | (refine CallF.pure (c1) rfl ?_) | (refine CallF.lent (c1) rfl ?_) | (refine CallE.own (c1) ?_) | (refine CallH.pure (c1) rfl ?_) | (refine CallH.lent (c1) rfl ?_) | (refine CallH.own (c1) ?_)
  refine wLoop (fun N st => ∃ (k : Nat), k + N = h.lg.length ∧ st.s 1 = .p (.sl 8 (lrs l)) ∧ st.s 2 = .p (I self) ∧ st.s 3 = .ptr 3 0 ∧ st.b 3 = some (.box 40 [.p (.sl 5 (zns h.im.ns)), .p (.sl 1 (ints h.im.ss)), .p (I h.im.nx), .p (I h.im.c.ep), .p (I h.im.c.n), .p (I h.im.c.kind), .p (.sl 4 (mbs h.im.c.ms)), .p (I h.im.ae), .p (I h.im.an), .p (.sl 8 (txns h.lg))]) ∧ st.s 7 = .ptr 7 0 ∧ st.b 7 = some (.box 25 [.p (I zz.e), .p (I zz.n)]) ∧ st.s 8 = .p (B (decide (m ≤ k))) ∧ st.s 33 = .p (.sl 8 (txns h.lg)) ∧ st.s 34 = .p (I h.lg.length) ∧ st.s 35 = .p (I k)) h.lg.length ⟨0, by simp; rw [Bool.eq_iff_iff]; simp only [Bool.and_eq_true, beq_iff_eq, decide_eq_true_eq]; rw [hb0]; omega⟩ fun K N st hL ⟨k, hkN, g1, g2, g3, b3, g7, b7, g8, g33, g34, g35⟩ => ?_
  by_cases hlt : k < h.lg.length
  · have hlt' : (k : Int) < h.lg.length := by omega
    have hle' : k ≤ h.lg.length := by omega
    have hlt2 : k + 1 ≤ h.lg.length := by omega
    have h0k : (0 : Int) ≤ (k : Int) + 1 := by omega
    have hw := wrapS k _ hlt (by omega)
    have he := txns_get hlt
    have ht1 := txns_take h.lg k
    have ht2 := txns_take h.lg (k + 1)
    have c2 := cmp02_con h.lg[k].e h.lg[k].n zz.e zz.n
    have hcmp := pv_cmp hr0 (i := k + 1) (j := m) (by omega) hm
    rw [pv_succ hlt, ← hzz] at hcmp
    simp only at hcmp
    by_cases o : m ≤ k
    · have o1 : 0 < zcmp h.lg[k].e h.lg[k].n zz.e zz.n := by
        have : ¬ zcmp h.lg[k].e h.lg[k].n zz.e zz.n ≤ 0 := fun hh => by have := hcmp.1 hh; omega
        omega
      rw [decide_eq_true o] at g8
      repeat' first | (refine hK _ ?_; clear hK) | (refine hK _ _ ?_; clear hK) | (clear hK; refine hK _ ?_; clear hK) | (clear hK; clear hK; refine hK _ ?_; clear hK) | (clear hK; clear hK; clear hK; refine hK _ ?_; clear hK) | (clear hK; clear hK; clear hK; clear hK; refine hK _ ?_; clear hK) | (refine wSeq fun K hK => ?_) | ((first | refine wReg ?_ | refine wDrwQ rfl (by kernel_rfl) ?_ | refine wDrwI ?_ | refine wDrw (by kernel_rfl) ?_); simp only [List.map_cons, List.map_nil, strip]) | ((first | refine wIs fun K hK => ?_ | refine wOs fun K hK => ?_ | refine wQs fun K hK => ?_ | refine CallK_plain ?_ | refine CallQ_plain ?_ | refine CallR_plain ?_ | refine wCond ?_); simp [g1, g2, g3, b3, g7, b7, g8, g33, g34, g35, hlt, hlt', hw, he, o1]) | (refine wIn ?_; refine And.intro (by kernel_rfl) ?_; try simp only [thenA_n]) | (first | refine wBlock ?_ | refine wScope ?_) | ((first | refine wRet ?_ | refine wExit ?_ | refine wSkip ?_); try simp) | ((first | refine wLabel ?_ | refine wOn ?_ | refine wQn ?_); try simp only [thenA_n]) | (refine CallE.pure (c2) rfl ?_) | (refine CallE.lent (c2) rfl ?_) | (refine CallF.pure (c2) rfl ?_) | (refine CallF.lent (c2) rfl ?_) | (refine CallE.own (c2) ?_) | (refine CallH.pure (c2) rfl ?_) | (refine CallH.lent (c2) rfl ?_) | (refine CallH.own (c2) ?_)
      refine hL _ (N - 1) (by omega) ⟨k + 1, by omega, ?_⟩
      simp [g1, g2, g3, b3, g7, b7, g8, g33, g34, g35, hw]
      omega
    · have o1 : ¬ 0 < zcmp h.lg[k].e h.lg[k].n zz.e zz.n := by
        have := hcmp.2 (by omega)
        omega
      rw [decide_eq_false o] at g8
      have hst := stepQ_both hr0 hlt (hq1 k (by omega))
      have ok1 := hk.take k
      have ok2 := hk.take (k + 1)
      have d1 := last16_con ⟨h.im, h.lg.take k⟩ ok1.lg
      rw [lastH_take hle'] at d1
      have d2 := stateAt16_con ⟨h.im, h.lg.take k⟩ (pv h k).e (pv h k).n ok1
      have d3 := stateAt16_con ⟨h.im, h.lg.take (k + 1)⟩ h.lg[k].e h.lg[k].n ok2
      have e1 := stAt_end hr0 hle'
      have e2 := stAt_end hr0 hlt2
      rw [pv_succ hlt] at e2
      simp only at e2
      have n1 := nsOf_ok hk (l := h.lg.take k) fun t ht => List.mem_of_mem_take ht
      have n2 := nsOf_ok hk (l := h.lg.take (k + 1)) fun t ht => List.mem_of_mem_take ht
      rw [← e1] at n1
      rw [← e2] at n2
      have f1 := enough_of hst.1
      have f2 := enough_of hst.2
      rw [← e1] at f1
      rw [← e2] at f2
      generalize stAt ⟨h.im, h.lg.take k⟩ (pv h k).e (pv h k).n = q1 at d2 n1 f1
      generalize stAt ⟨h.im, h.lg.take (k + 1)⟩ h.lg[k].e h.lg[k].n = q2 at d3 n2 f2
      have d4 := enough19_con q1.c l self h.lg[k].e h.lg[k].n (by omega) n1.2
      have d5 := enough19_con q2.c l self h.lg[k].e h.lg[k].n (by omega) n2.2
      rw [f1] at d4
      rw [f2] at d5
      unfold Hy.cells Sv.cells at d2 d3
      unfold Hy.cells at d1
      unfold Cf.cells at d4 d5
      simp only at d1 d2 d3
      have hno : ¬ (h.lg[k].e = zz.e ∧ h.lg[k].n = zz.n) → ¬ m ≤ k + 1 := fun hne hle => hne (by
        have : m = k + 1 := by omega
        rw [hzz, this, pv_succ hlt]; exact ⟨rfl, rfl⟩)
      by_cases o3 : h.lg[k].e = zz.e
      · by_cases o5 : h.lg[k].n = zz.n
        · have o4 : m ≤ k + 1 := by
            have := pv_inj hr0 (i := k + 1) (j := m) (by omega) hm (by rw [pv_succ hlt, ← hzz]; exact ⟨o3, o5⟩)
            omega
          replace o3 : (h.lg[k].e = zz.e) = True := eq_true o3
          replace o5 : (h.lg[k].n = zz.n) = True := eq_true o5
          repeat' first | (refine hK _ ?_; clear hK) | (refine hK _ _ ?_; clear hK) | (clear hK; refine hK _ ?_; clear hK) | (clear hK; clear hK; refine hK _ ?_; clear hK) | (clear hK; clear hK; clear hK; refine hK _ ?_; clear hK) | (clear hK; clear hK; clear hK; clear hK; refine hK _ ?_; clear hK) | (refine wSeq fun K hK => ?_) | ((first | refine wReg ?_ | refine wDrwQ rfl (by kernel_rfl) ?_ | refine wDrwI ?_ | refine wDrw (by kernel_rfl) ?_); simp only [List.map_cons, List.map_nil, strip]) | ((first | refine wIs fun K hK => ?_ | refine wOs fun K hK => ?_ | refine wQs fun K hK => ?_ | refine CallK_plain ?_ | refine CallQ_plain ?_ | refine CallR_plain ?_ | refine wCond ?_); simp [g1, g2, g3, b3, g7, b7, g8, g33, g34, g35, hlt, hlt', hle', hlt2, h0k, hw, he, ht1, ht2, o1, o3, o5, Tx.cells]) | (refine wIn ?_; refine And.intro (by kernel_rfl) ?_; try simp only [thenA_n]) | (first | refine wBlock ?_ | refine wScope ?_) | ((first | refine wRet ?_ | refine wExit ?_ | refine wSkip ?_); try simp) | ((first | refine wLabel ?_ | refine wOn ?_ | refine wQn ?_); try simp only [thenA_n]) | (refine CallE.pure (c2) rfl ?_) | (refine CallE.lent (c2) rfl ?_) | (refine CallF.pure (c2) rfl ?_) | (refine CallF.lent (c2) rfl ?_) | (refine CallE.own (c2) ?_) | (refine CallH.pure (c2) rfl ?_) | (refine CallH.lent (c2) rfl ?_) | (refine CallH.own (c2) ?_) | (refine CallE.pure (d1) rfl ?_) | (refine CallE.lent (d1) rfl ?_) | (refine CallF.pure (d1) rfl ?_) | (refine CallF.lent (d1) rfl ?_) | (refine CallE.own (d1) ?_) | (refine CallH.pure (d1) rfl ?_) | (refine CallH.lent (d1) rfl ?_) | (refine CallH.own (d1) ?_) | (refine CallE.pure (d2) rfl ?_) | (refine CallE.lent (d2) rfl ?_) | (refine CallF.pure (d2) rfl ?_) | (refine CallF.lent (d2) rfl ?_) | (refine CallE.own (d2) ?_) | (refine CallH.pure (d2) rfl ?_) | (refine CallH.lent (d2) rfl ?_) | (refine CallH.own (d2) ?_) | (refine CallE.pure (d3) rfl ?_) | (refine CallE.lent (d3) rfl ?_) | (refine CallF.pure (d3) rfl ?_) | (refine CallF.lent (d3) rfl ?_) | (refine CallE.own (d3) ?_) | (refine CallH.pure (d3) rfl ?_) | (refine CallH.lent (d3) rfl ?_) | (refine CallH.own (d3) ?_) | (refine CallE.pure (d4) rfl ?_) | (refine CallE.lent (d4) rfl ?_) | (refine CallF.pure (d4) rfl ?_) | (refine CallF.lent (d4) rfl ?_) | (refine CallE.own (d4) ?_) | (refine CallH.pure (d4) rfl ?_) | (refine CallH.lent (d4) rfl ?_) | (refine CallH.own (d4) ?_) | (refine CallE.pure (d5) rfl ?_) | (refine CallE.lent (d5) rfl ?_) | (refine CallF.pure (d5) rfl ?_) | (refine CallF.lent (d5) rfl ?_) | (refine CallE.own (d5) ?_) | (refine CallH.pure (d5) rfl ?_) | (refine CallH.lent (d5) rfl ?_) | (refine CallH.own (d5) ?_)
          refine hL _ (N - 1) (by omega) ⟨k + 1, by omega, ?_⟩
          simp [g1, g2, g3, b3, g7, b7, g8, g33, g34, g35, hw, o4, o3, o5]
        · have o4 := hno fun hh => o5 hh.2
          replace o3 : (h.lg[k].e = zz.e) = True := eq_true o3
          replace o5 : (h.lg[k].n = zz.n) = False := eq_false o5
          repeat' first | (refine hK _ ?_; clear hK) | (refine hK _ _ ?_; clear hK) | (clear hK; refine hK _ ?_; clear hK) | (clear hK; clear hK; refine hK _ ?_; clear hK) | (clear hK; clear hK; clear hK; refine hK _ ?_; clear hK) | (clear hK; clear hK; clear hK; clear hK; refine hK _ ?_; clear hK) | (refine wSeq fun K hK => ?_) | ((first | refine wReg ?_ | refine wDrwQ rfl (by kernel_rfl) ?_ | refine wDrwI ?_ | refine wDrw (by kernel_rfl) ?_); simp only [List.map_cons, List.map_nil, strip]) | ((first | refine wIs fun K hK => ?_ | refine wOs fun K hK => ?_ | refine wQs fun K hK => ?_ | refine CallK_plain ?_ | refine CallQ_plain ?_ | refine CallR_plain ?_ | refine wCond ?_); simp [g1, g2, g3, b3, g7, b7, g8, g33, g34, g35, hlt, hlt', hle', hlt2, h0k, hw, he, ht1, ht2, o1, o3, o5, Tx.cells]) | (refine wIn ?_; refine And.intro (by kernel_rfl) ?_; try simp only [thenA_n]) | (first | refine wBlock ?_ | refine wScope ?_) | ((first | refine wRet ?_ | refine wExit ?_ | refine wSkip ?_); try simp) | ((first | refine wLabel ?_ | refine wOn ?_ | refine wQn ?_); try simp only [thenA_n]) | (refine CallE.pure (c2) rfl ?_) | (refine CallE.lent (c2) rfl ?_) | (refine CallF.pure (c2) rfl ?_) | (refine CallF.lent (c2) rfl ?_) | (refine CallE.own (c2) ?_) | (refine CallH.pure (c2) rfl ?_) | (refine CallH.lent (c2) rfl ?_) | (refine CallH.own (c2) ?_) | (refine CallE.pure (d1) rfl ?_) | (refine CallE.lent (d1) rfl ?_) | (refine CallF.pure (d1) rfl ?_) | (refine CallF.lent (d1) rfl ?_) | (refine CallE.own (d1) ?_) | (refine CallH.pure (d1) rfl ?_) | (refine CallH.lent (d1) rfl ?_) | (refine CallH.own (d1) ?_) | (refine CallE.pure (d2) rfl ?_) | (refine CallE.lent (d2) rfl ?_) | (refine CallF.pure (d2) rfl ?_) | (refine CallF.lent (d2) rfl ?_) | (refine CallE.own (d2) ?_) | (refine CallH.pure (d2) rfl ?_) | (refine CallH.lent (d2) rfl ?_) | (refine CallH.own (d2) ?_) | (refine CallE.pure (d3) rfl ?_) | (refine CallE.lent (d3) rfl ?_) | (refine CallF.pure (d3) rfl ?_) | (refine CallF.lent (d3) rfl ?_) | (refine CallE.own (d3) ?_) | (refine CallH.pure (d3) rfl ?_) | (refine CallH.lent (d3) rfl ?_) | (refine CallH.own (d3) ?_) | (refine CallE.pure (d4) rfl ?_) | (refine CallE.lent (d4) rfl ?_) | (refine CallF.pure (d4) rfl ?_) | (refine CallF.lent (d4) rfl ?_) | (refine CallE.own (d4) ?_) | (refine CallH.pure (d4) rfl ?_) | (refine CallH.lent (d4) rfl ?_) | (refine CallH.own (d4) ?_) | (refine CallE.pure (d5) rfl ?_) | (refine CallE.lent (d5) rfl ?_) | (refine CallF.pure (d5) rfl ?_) | (refine CallF.lent (d5) rfl ?_) | (refine CallE.own (d5) ?_) | (refine CallH.pure (d5) rfl ?_) | (refine CallH.lent (d5) rfl ?_) | (refine CallH.own (d5) ?_)
          refine hL _ (N - 1) (by omega) ⟨k + 1, by omega, ?_⟩
          simp [g1, g2, g3, b3, g7, b7, g8, g33, g34, g35, hw, o4, o3, o5]
      · have o4 := hno fun hh => o3 hh.1
        replace o3 : (h.lg[k].e = zz.e) = False := eq_false o3
        repeat' first | (refine hK _ ?_; clear hK) | (refine hK _ _ ?_; clear hK) | (clear hK; refine hK _ ?_; clear hK) | (clear hK; clear hK; refine hK _ ?_; clear hK) | (clear hK; clear hK; clear hK; refine hK _ ?_; clear hK) | (clear hK; clear hK; clear hK; clear hK; refine hK _ ?_; clear hK) | (refine wSeq fun K hK => ?_) | ((first | refine wReg ?_ | refine wDrwQ rfl (by kernel_rfl) ?_ | refine wDrwI ?_ | refine wDrw (by kernel_rfl) ?_); simp only [List.map_cons, List.map_nil, strip]) | ((first | refine wIs fun K hK => ?_ | refine wOs fun K hK => ?_ | refine wQs fun K hK => ?_ | refine CallK_plain ?_ | refine CallQ_plain ?_ | refine CallR_plain ?_ | refine wCond ?_); simp [g1, g2, g3, b3, g7, b7, g8, g33, g34, g35, hlt, hlt', hle', hlt2, h0k, hw, he, ht1, ht2, o1, o3, Tx.cells]) | (refine wIn ?_; refine And.intro (by kernel_rfl) ?_; try simp only [thenA_n]) | (first | refine wBlock ?_ | refine wScope ?_) | ((first | refine wRet ?_ | refine wExit ?_ | refine wSkip ?_); try simp) | ((first | refine wLabel ?_ | refine wOn ?_ | refine wQn ?_); try simp only [thenA_n]) | (refine CallE.pure (c2) rfl ?_) | (refine CallE.lent (c2) rfl ?_) | (refine CallF.pure (c2) rfl ?_) | (refine CallF.lent (c2) rfl ?_) | (refine CallE.own (c2) ?_) | (refine CallH.pure (c2) rfl ?_) | (refine CallH.lent (c2) rfl ?_) | (refine CallH.own (c2) ?_) | (refine CallE.pure (d1) rfl ?_) | (refine CallE.lent (d1) rfl ?_) | (refine CallF.pure (d1) rfl ?_) | (refine CallF.lent (d1) rfl ?_) | (refine CallE.own (d1) ?_) | (refine CallH.pure (d1) rfl ?_) | (refine CallH.lent (d1) rfl ?_) | (refine CallH.own (d1) ?_) | (refine CallE.pure (d2) rfl ?_) | (refine CallE.lent (d2) rfl ?_) | (refine CallF.pure (d2) rfl ?_) | (refine CallF.lent (d2) rfl ?_) | (refine CallE.own (d2) ?_) | (refine CallH.pure (d2) rfl ?_) | (refine CallH.lent (d2) rfl ?_) | (refine CallH.own (d2) ?_) | (refine CallE.pure (d3) rfl ?_) | (refine CallE.lent (d3) rfl ?_) | (refine CallF.pure (d3) rfl ?_) | (refine CallF.lent (d3) rfl ?_) | (refine CallE.own (d3) ?_) | (refine CallH.pure (d3) rfl ?_) | (refine CallH.lent (d3) rfl ?_) | (refine CallH.own (d3) ?_) | (refine CallE.pure (d4) rfl ?_) | (refine CallE.lent (d4) rfl ?_) | (refine CallF.pure (d4) rfl ?_) | (refine CallF.lent (d4) rfl ?_) | (refine CallE.own (d4) ?_) | (refine CallH.pure (d4) rfl ?_) | (refine CallH.lent (d4) rfl ?_) | (refine CallH.own (d4) ?_) | (refine CallE.pure (d5) rfl ?_) | (refine CallE.lent (d5) rfl ?_) | (refine CallF.pure (d5) rfl ?_) | (refine CallF.lent (d5) rfl ?_) | (refine CallE.own (d5) ?_) | (refine CallH.pure (d5) rfl ?_) | (refine CallH.lent (d5) rfl ?_) | (refine CallH.own (d5) ?_)
        refine hL _ (N - 1) (by omega) ⟨k + 1, by omega, ?_⟩
        simp [g1, g2, g3, b3, g7, b7, g8, g33, g34, g35, hw, o4, o3]
  · have hlt' : ¬ (k : Int) < h.lg.length := by omega
    rw [decide_eq_true (show m ≤ k by omega)] at g8
    repeat' first | (refine hK _ ?_; clear hK) | (refine hK _ _ ?_; clear hK) | (clear hK; refine hK _ ?_; clear hK) | (clear hK; clear hK; refine hK _ ?_; clear hK) | (clear hK; clear hK; clear hK; refine hK _ ?_; clear hK) | (clear hK; clear hK; clear hK; clear hK; refine hK _ ?_; clear hK) | (refine wSeq fun K hK => ?_) | ((first | refine wReg ?_ | refine wDrwQ rfl (by kernel_rfl) ?_ | refine wDrwI ?_ | refine wDrw (by kernel_rfl) ?_); simp only [List.map_cons, List.map_nil, strip]) | ((first | refine wIs fun K hK => ?_ | refine wOs fun K hK => ?_ | refine wQs fun K hK => ?_ | refine CallK_plain ?_ | refine CallQ_plain ?_ | refine CallR_plain ?_ | refine wCond ?_); simp [g1, g2, g3, b3, g7, b7, g8, g33, g34, g35, hlt, hlt']) | (refine wIn ?_; refine And.intro (by kernel_rfl) ?_; try simp only [thenA_n]) | (first | refine wBlock ?_ | refine wScope ?_) | ((first | refine wRet ?_ | refine wExit ?_ | refine wSkip ?_); try simp) | ((first | refine wLabel ?_ | refine wOn ?_ | refine wQn ?_); try simp only [thenA_n]) | (refine CallE.pure (ca) rfl ?_) | (refine CallE.lent (ca) rfl ?_) | (refine CallF.pure (ca) rfl ?_) | (refine CallF.lent (ca) rfl ?_) | (refine CallE.own (ca) ?_) | (refine CallH.pure (ca) rfl ?_) | (refine CallH.lent (ca) rfl ?_) | (refine CallH.own (ca) ?_)
    all_goals apply hr
    all_goals simp [Try.f5]
end Go.Proofs.Ytnfcbkageifmfaa
