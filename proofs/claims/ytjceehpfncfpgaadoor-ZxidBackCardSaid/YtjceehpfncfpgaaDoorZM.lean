/- The laws ZxidPlaces, ZxidFresh, ZxidApart; what comes in, opened. -/
import Derived.Test.YtjceehpfncfpgaaDoorZA
import Derived.Test.YtjceehpfncfpgaaDoorZL
import Derived.Test.YtjceehpfncfpgaaDoorAvRow
namespace Go.Proofs.YtjceehpfncfpgaaDoor
set_option linter.unusedSimpArgs false
set_option linter.unusedVariables false
open Go Go.Av
attribute [local simp] Tryd.T1 Tryd.T2 Tryd.T3 Tryd.T4 Tryd.T5 Tryd.T9 Tryd.T12 Tryd.T21 Tryd.T23 Tryd.T24 Tryd.T25 Tryd.T27 Tryd.T28 Tryd.T29 Tryd.T30 Tryd.T31 Tryd.T33 Tryd.T34 Tryd.T35 Tryd.T36 Tryd.T37 Tryd.T38 Tryd.T39 Tryd.T40 Tryd.T41 Tryd.T42 Tryd.T44 Tryd.T45 Tryd.T47 Tryd.T49 Tryd.T50 Tryd.T51 Tryd.T52 Tryd.T53 Tryd.T54 Tryd.T55 Tryd.T56 Tryd.T57 Tryd.T59 Tryd.T60 Tryd.T61 Tryd.T62 Tryd.T63 Tryd.T64 Tryd.T66 Tryd.T68 Tryd.T69 Tryd.T70 Tryd.T71 Tryd.T72 Tryd.T73 Tryd.T75 Tryd.T76 Tryd.T77 Tryd.T78 Tryd.T79 Tryd.T80 Tryd.T81 Tryd.T83 Tryd.T84 Tryd.T85 Tryd.T86 Tryd.T87 Tryd.T88 Tryd.T89 Tryd.T90 Tryd.T91 Tryd.T92 Tryd.T93 Tryd.T94 Tryd.T95 Tryd.T96 Tryd.T98 Tryd.T99 Tryd.T101 Tryd.T102 Tryd.T104 Tryd.T105 Tryd.T106 Tryd.T108 Tryd.T109 Tryd.T112 Tryd.T113 Tryd.T114 Tryd.T115 Tryd.T116 Tryd.T122 Tryd.T125
attribute [local irreducible] Go.Av.CallK Go.Av.CallE Go.Av.CallQ Go.Av.CallF Go.Av.Con

theorem zxidPlaces_con (a b : Zx) (l : List Zx) : ACon Tryd.prog 3 [.p (.agg [I a.e, I a.n]), .p (.agg [I b.e, I b.n]), .p (.sl 2 (zxs l))] (.p (B true)) := by
  have c1 := next_con a.e a.n
  have c2 := next02_con a.e a.n
  have c3 := cmp_con a.e a.n b.e b.n
  have c4 := cmp02_con a.e a.n b.e b.n
  have c5 := last_con l
  have c6 := last02_con l
  generalize nextN a.e a.n = p at c1 c2
  generalize nextE a.e a.n = q at c1 c2
  generalize zcmp a.e a.n b.e b.n = r at c3 c4
  generalize lastZ l = m at c5 c6
  refine wBody Tryd.tab Tryd.mixed Tryd.func3 rfl rfl Tryd.ntmps3 (by simp) (by simp) fun Q hr hn => ?_
  repeat' first | (refine hK _ ?_; clear hK) | (refine hK _ _ ?_; clear hK) | (clear hK; refine hK _ ?_; clear hK) | (clear hK; clear hK; refine hK _ ?_; clear hK) | (clear hK; clear hK; clear hK; refine hK _ ?_; clear hK) | (clear hK; clear hK; clear hK; clear hK; refine hK _ ?_; clear hK) | (refine wSeq fun K hK => ?_) | (refine wReg ?_; simp only [List.map_cons, List.map_nil, strip]) | (refine wDrwQ rfl (by kernel_rfl) ?_; simp only [List.map_cons, List.map_nil, strip]) | (refine wDrwI ?_; simp only [List.map_cons, List.map_nil, strip]) | (refine wDrw (by kernel_rfl) ?_; simp only [List.map_cons, List.map_nil, strip]) | (refine wIs fun K hK => ?_; simp) | (refine wIn ?_; refine And.intro (by kernel_rfl) ?_; try simp only [thenA_n]) | (refine wOs fun K hK => ?_; simp) | (refine wQs fun K hK => ?_; simp) | (refine CallK_plain ?_; simp) | (refine CallQ_plain ?_; simp) | (refine wRet ?_; try simp) | (refine wCond ?_; simp) | (refine wBlock ?_) | (refine wScope ?_) | (refine wExit ?_; try simp) | (refine wSkip ?_; try simp) | (refine wOn ?_; try simp only [thenA_n]) | (refine wQn ?_; try simp only [thenA_n]) | (refine CallE.pure (c1) rfl ?_) | (refine CallE.lent (c1) rfl ?_) | (refine CallF.pure (c1) rfl ?_) | (refine CallF.lent (c1) rfl ?_) | (refine CallE.own (c1) ?_) | (refine CallE.pure (c2) rfl ?_) | (refine CallE.lent (c2) rfl ?_) | (refine CallF.pure (c2) rfl ?_) | (refine CallF.lent (c2) rfl ?_) | (refine CallE.own (c2) ?_) | (refine CallE.pure (c3) rfl ?_) | (refine CallE.lent (c3) rfl ?_) | (refine CallF.pure (c3) rfl ?_) | (refine CallF.lent (c3) rfl ?_) | (refine CallE.own (c3) ?_) | (refine CallE.pure (c4) rfl ?_) | (refine CallE.lent (c4) rfl ?_) | (refine CallF.pure (c4) rfl ?_) | (refine CallF.lent (c4) rfl ?_) | (refine CallE.own (c4) ?_) | (refine CallE.pure (c5) rfl ?_) | (refine CallE.lent (c5) rfl ?_) | (refine CallF.pure (c5) rfl ?_) | (refine CallF.lent (c5) rfl ?_) | (refine CallE.own (c5) ?_) | (refine CallE.pure (c6) rfl ?_) | (refine CallE.lent (c6) rfl ?_) | (refine CallF.pure (c6) rfl ?_) | (refine CallF.lent (c6) rfl ?_) | (refine CallE.own (c6) ?_) | (refine CallE.pure (awake02) rfl ?_) | (refine CallE.lent (awake02) rfl ?_) | (refine CallF.pure (awake02) rfl ?_) | (refine CallF.lent (awake02) rfl ?_) | (refine CallE.own (awake02) ?_)
  all_goals apply hr
  all_goals simp [Tryd.f3]
theorem zxidFresh_con (e i : Int) : ACon Tryd.prog 4 [.p (I e), .p (I i)] (.p (B true)) := by
  have c1 := fresh_con e i
  have c2 := fresh02_con e i
  have c3 := owner_con e
  have c4 := owner02_con e
  generalize freshN e i = p at c1 c2
  generalize freshE e i = q at c1 c2
  generalize owner e = r at c3 c4
  refine wBody Tryd.tab Tryd.mixed Tryd.func4 rfl rfl Tryd.ntmps4 (by simp) (by simp) fun Q hr hn => ?_
  repeat' first | (refine hK _ ?_; clear hK) | (refine hK _ _ ?_; clear hK) | (clear hK; refine hK _ ?_; clear hK) | (clear hK; clear hK; refine hK _ ?_; clear hK) | (clear hK; clear hK; clear hK; refine hK _ ?_; clear hK) | (clear hK; clear hK; clear hK; clear hK; refine hK _ ?_; clear hK) | (refine wSeq fun K hK => ?_) | (refine wReg ?_; simp only [List.map_cons, List.map_nil, strip]) | (refine wDrwQ rfl (by kernel_rfl) ?_; simp only [List.map_cons, List.map_nil, strip]) | (refine wDrwI ?_; simp only [List.map_cons, List.map_nil, strip]) | (refine wDrw (by kernel_rfl) ?_; simp only [List.map_cons, List.map_nil, strip]) | (refine wIs fun K hK => ?_; simp) | (refine wIn ?_; refine And.intro (by kernel_rfl) ?_; try simp only [thenA_n]) | (refine wOs fun K hK => ?_; simp) | (refine wQs fun K hK => ?_; simp) | (refine CallK_plain ?_; simp) | (refine CallQ_plain ?_; simp) | (refine wRet ?_; try simp) | (refine wCond ?_; simp) | (refine wBlock ?_) | (refine wScope ?_) | (refine wExit ?_; try simp) | (refine wSkip ?_; try simp) | (refine wOn ?_; try simp only [thenA_n]) | (refine wQn ?_; try simp only [thenA_n]) | (refine CallE.pure (c1) rfl ?_) | (refine CallE.lent (c1) rfl ?_) | (refine CallF.pure (c1) rfl ?_) | (refine CallF.lent (c1) rfl ?_) | (refine CallE.own (c1) ?_) | (refine CallE.pure (c2) rfl ?_) | (refine CallE.lent (c2) rfl ?_) | (refine CallF.pure (c2) rfl ?_) | (refine CallF.lent (c2) rfl ?_) | (refine CallE.own (c2) ?_) | (refine CallE.pure (c3) rfl ?_) | (refine CallE.lent (c3) rfl ?_) | (refine CallF.pure (c3) rfl ?_) | (refine CallF.lent (c3) rfl ?_) | (refine CallE.own (c3) ?_) | (refine CallE.pure (c4) rfl ?_) | (refine CallE.lent (c4) rfl ?_) | (refine CallF.pure (c4) rfl ?_) | (refine CallF.lent (c4) rfl ?_) | (refine CallE.own (c4) ?_) | (refine CallE.pure (awake02) rfl ?_) | (refine CallE.lent (awake02) rfl ?_) | (refine CallF.pure (awake02) rfl ?_) | (refine CallF.lent (awake02) rfl ?_) | (refine CallE.own (awake02) ?_)
  all_goals apply hr
  all_goals simp [Tryd.f4]
theorem fresh_ok {e i : Int} (h : freshE e i = 0) : 0 ≤ i ∧ i < 16 ∧ 0 ≤ e ∧ e < freshN e i ∧ freshN e i ≤ e + 16 ∧ owner (freshN e i) = i ∧ freshN e i % 16 = i := by
  unfold freshE at h
  split at h
  · simp at h
  rename_i h1
  split at h
  · simp at h
  rename_i h2
  have hm : e.tmod 16 = e % 16 := Int.tmod_eq_emod_of_nonneg (by omega)
  have hE : freshE e i = 0 := by unfold freshE; rw [if_neg h1, if_neg h2]
  have hN : freshN e i = if e - e % 16 + i ≤ e then e - e % 16 + i + 16 else e - e % 16 + i := by
    unfold freshN; rw [hm]; simp [hE]
  have ho : 1 ≤ freshN e i → owner (freshN e i) = freshN e i % 16 := fun hh => by
    unfold owner; rw [if_neg (by omega), Int.tmod_eq_emod_of_nonneg (by omega)]
  generalize freshN e i = n at *
  split at hN
  · have := ho (by omega); omega
  · have := ho (by omega); omega
theorem owner_less {x i : Int} (h : 1 ≤ x) : owner x = x % 16 := by
  unfold owner; rw [if_neg (by omega), Int.tmod_eq_emod_of_nonneg (by omega)]
set_option maxHeartbeats 4000000 in
theorem zxidApart_con (f0 f1 i0 i1 x : Int) : ACon Tryd.prog 7 [.p (.agg [I f0, I f1]), .p (.agg [I i0, I i1]), .p (I x)] (.p (B true)) := by
  have c1 := fresh_con f0 i0
  have c2 := fresh_con f1 i1
  have h1 := fun h => fresh_ok (e := f0) (i := i0) h
  have h2 := fun h => fresh_ok (e := f1) (i := i1) h
  have c3 := owner_con (freshN f0 i0)
  have c4 := owner_con (freshN f1 i1)
  have c5 := owner_con x
  generalize freshN f0 i0 = n at c1 c3 h1
  generalize freshE f0 i0 = e at c1 h1
  generalize freshN f1 i1 = m at c2 c4 h2
  generalize freshE f1 i1 = f at c2 h2
  by_cases he : e = 0
  rotate_left
  · refine wBody Tryd.tab Tryd.mixed Tryd.func7 rfl rfl Tryd.ntmps7 (by simp) (by simp) fun Q hr hn => ?_
    repeat' first | (refine hK _ ?_; clear hK) | (refine hK _ _ ?_; clear hK) | (clear hK; refine hK _ ?_; clear hK) | (clear hK; clear hK; refine hK _ ?_; clear hK) | (clear hK; clear hK; clear hK; refine hK _ ?_; clear hK) | (clear hK; clear hK; clear hK; clear hK; refine hK _ ?_; clear hK) | (refine wSeq fun K hK => ?_) | (refine wReg ?_; simp only [List.map_cons, List.map_nil, strip]) | (refine wDrwQ rfl (by kernel_rfl) ?_; simp only [List.map_cons, List.map_nil, strip]) | (refine wDrwI ?_; simp only [List.map_cons, List.map_nil, strip]) | (refine wDrw (by kernel_rfl) ?_; simp only [List.map_cons, List.map_nil, strip]) | (refine wIs fun K hK => ?_; simp [he]) | (refine wIn ?_; refine And.intro (by kernel_rfl) ?_; try simp only [thenA_n]) | (refine wOs fun K hK => ?_; simp [he]) | (refine wQs fun K hK => ?_; simp [he]) | (refine CallK_plain ?_; simp [he]) | (refine CallQ_plain ?_; simp [he]) | (refine wRet ?_; try simp) | (refine wCond ?_; simp [he]) | (refine wBlock ?_) | (refine wScope ?_) | (refine wExit ?_; try simp) | (refine wSkip ?_; try simp) | (refine wOn ?_; try simp only [thenA_n]) | (refine wQn ?_; try simp only [thenA_n]) | (refine CallE.pure (c1) rfl ?_) | (refine CallE.lent (c1) rfl ?_) | (refine CallF.pure (c1) rfl ?_) | (refine CallF.lent (c1) rfl ?_) | (refine CallE.own (c1) ?_) | (refine CallE.pure (c2) rfl ?_) | (refine CallE.lent (c2) rfl ?_) | (refine CallF.pure (c2) rfl ?_) | (refine CallF.lent (c2) rfl ?_) | (refine CallE.own (c2) ?_) | (refine CallE.pure (awake02) rfl ?_) | (refine CallE.lent (awake02) rfl ?_) | (refine CallF.pure (awake02) rfl ?_) | (refine CallF.lent (awake02) rfl ?_) | (refine CallE.own (awake02) ?_)
    all_goals apply hr
    all_goals simp [Tryd.f7]
  by_cases hf : f = 0
  rotate_left
  · refine wBody Tryd.tab Tryd.mixed Tryd.func7 rfl rfl Tryd.ntmps7 (by simp) (by simp) fun Q hr hn => ?_
    repeat' first | (refine hK _ ?_; clear hK) | (refine hK _ _ ?_; clear hK) | (clear hK; refine hK _ ?_; clear hK) | (clear hK; clear hK; refine hK _ ?_; clear hK) | (clear hK; clear hK; clear hK; refine hK _ ?_; clear hK) | (clear hK; clear hK; clear hK; clear hK; refine hK _ ?_; clear hK) | (refine wSeq fun K hK => ?_) | (refine wReg ?_; simp only [List.map_cons, List.map_nil, strip]) | (refine wDrwQ rfl (by kernel_rfl) ?_; simp only [List.map_cons, List.map_nil, strip]) | (refine wDrwI ?_; simp only [List.map_cons, List.map_nil, strip]) | (refine wDrw (by kernel_rfl) ?_; simp only [List.map_cons, List.map_nil, strip]) | (refine wIs fun K hK => ?_; simp [he, hf]) | (refine wIn ?_; refine And.intro (by kernel_rfl) ?_; try simp only [thenA_n]) | (refine wOs fun K hK => ?_; simp [he, hf]) | (refine wQs fun K hK => ?_; simp [he, hf]) | (refine CallK_plain ?_; simp [he, hf]) | (refine CallQ_plain ?_; simp [he, hf]) | (refine wRet ?_; try simp) | (refine wCond ?_; simp [he, hf]) | (refine wBlock ?_) | (refine wScope ?_) | (refine wExit ?_; try simp) | (refine wSkip ?_; try simp) | (refine wOn ?_; try simp only [thenA_n]) | (refine wQn ?_; try simp only [thenA_n]) | (refine CallE.pure (c1) rfl ?_) | (refine CallE.lent (c1) rfl ?_) | (refine CallF.pure (c1) rfl ?_) | (refine CallF.lent (c1) rfl ?_) | (refine CallE.own (c1) ?_) | (refine CallE.pure (c2) rfl ?_) | (refine CallE.lent (c2) rfl ?_) | (refine CallF.pure (c2) rfl ?_) | (refine CallF.lent (c2) rfl ?_) | (refine CallE.own (c2) ?_) | (refine CallE.pure (awake02) rfl ?_) | (refine CallE.lent (awake02) rfl ?_) | (refine CallF.pure (awake02) rfl ?_) | (refine CallF.lent (awake02) rfl ?_) | (refine CallE.own (awake02) ?_)
    all_goals apply hr
    all_goals simp [Tryd.f7]
  obtain ⟨a1, a2, a3, a4, a5, a6, a7⟩ := h1 he
  obtain ⟨b1, b2, b3, b4, b5, b6, b7⟩ := h2 hf
  rw [a6] at c3
  rw [b6] at c4
  subst he hf
  have g1 : ¬ n ≤ f0 := by omega
  have hx : x ≤ f0 ∨ n ≤ x ∨ owner x ≠ i0 := by
    by_cases k1 : x ≤ f0
    · exact .inl k1
    by_cases k2 : n ≤ x
    · exact .inr (.inl k2)
    · refine .inr (.inr ?_)
      rw [owner_less (i := 0) (by omega)]; omega
  generalize owner x = ox at c5 hx
  by_cases k : n = m
  · have ki : i0 = i1 := by rw [k] at a7; omega
    subst k ki
    by_cases k1 : x ≤ f0
    · refine wBody Tryd.tab Tryd.mixed Tryd.func7 rfl rfl Tryd.ntmps7 (by simp) (by simp) fun Q hr hn => ?_
      repeat' first | (refine hK _ ?_; clear hK) | (refine hK _ _ ?_; clear hK) | (clear hK; refine hK _ ?_; clear hK) | (clear hK; clear hK; refine hK _ ?_; clear hK) | (clear hK; clear hK; clear hK; refine hK _ ?_; clear hK) | (clear hK; clear hK; clear hK; clear hK; refine hK _ ?_; clear hK) | (refine wSeq fun K hK => ?_) | (refine wReg ?_; simp only [List.map_cons, List.map_nil, strip]) | (refine wDrwQ rfl (by kernel_rfl) ?_; simp only [List.map_cons, List.map_nil, strip]) | (refine wDrwI ?_; simp only [List.map_cons, List.map_nil, strip]) | (refine wDrw (by kernel_rfl) ?_; simp only [List.map_cons, List.map_nil, strip]) | (refine wIs fun K hK => ?_; simp [g1, k1]) | (refine wIn ?_; refine And.intro (by kernel_rfl) ?_; try simp only [thenA_n]) | (refine wOs fun K hK => ?_; simp [g1, k1]) | (refine wQs fun K hK => ?_; simp [g1, k1]) | (refine CallK_plain ?_; simp [g1, k1]) | (refine CallQ_plain ?_; simp [g1, k1]) | (refine wRet ?_; try simp) | (refine wCond ?_; simp [g1, k1]) | (refine wBlock ?_) | (refine wScope ?_) | (refine wExit ?_; try simp) | (refine wSkip ?_; try simp) | (refine wOn ?_; try simp only [thenA_n]) | (refine wQn ?_; try simp only [thenA_n]) | (refine CallE.pure (c1) rfl ?_) | (refine CallE.lent (c1) rfl ?_) | (refine CallF.pure (c1) rfl ?_) | (refine CallF.lent (c1) rfl ?_) | (refine CallE.own (c1) ?_) | (refine CallE.pure (c2) rfl ?_) | (refine CallE.lent (c2) rfl ?_) | (refine CallF.pure (c2) rfl ?_) | (refine CallF.lent (c2) rfl ?_) | (refine CallE.own (c2) ?_) | (refine CallE.pure (c3) rfl ?_) | (refine CallE.lent (c3) rfl ?_) | (refine CallF.pure (c3) rfl ?_) | (refine CallF.lent (c3) rfl ?_) | (refine CallE.own (c3) ?_) | (refine CallE.pure (awake02) rfl ?_) | (refine CallE.lent (awake02) rfl ?_) | (refine CallF.pure (awake02) rfl ?_) | (refine CallF.lent (awake02) rfl ?_) | (refine CallE.own (awake02) ?_)
      all_goals apply hr
      all_goals simp [Tryd.f7]
    · by_cases k2 : n ≤ x
      · refine wBody Tryd.tab Tryd.mixed Tryd.func7 rfl rfl Tryd.ntmps7 (by simp) (by simp) fun Q hr hn => ?_
        repeat' first | (refine hK _ ?_; clear hK) | (refine hK _ _ ?_; clear hK) | (clear hK; refine hK _ ?_; clear hK) | (clear hK; clear hK; refine hK _ ?_; clear hK) | (clear hK; clear hK; clear hK; refine hK _ ?_; clear hK) | (clear hK; clear hK; clear hK; clear hK; refine hK _ ?_; clear hK) | (refine wSeq fun K hK => ?_) | (refine wReg ?_; simp only [List.map_cons, List.map_nil, strip]) | (refine wDrwQ rfl (by kernel_rfl) ?_; simp only [List.map_cons, List.map_nil, strip]) | (refine wDrwI ?_; simp only [List.map_cons, List.map_nil, strip]) | (refine wDrw (by kernel_rfl) ?_; simp only [List.map_cons, List.map_nil, strip]) | (refine wIs fun K hK => ?_; simp [g1, k1, k2]) | (refine wIn ?_; refine And.intro (by kernel_rfl) ?_; try simp only [thenA_n]) | (refine wOs fun K hK => ?_; simp [g1, k1, k2]) | (refine wQs fun K hK => ?_; simp [g1, k1, k2]) | (refine CallK_plain ?_; simp [g1, k1, k2]) | (refine CallQ_plain ?_; simp [g1, k1, k2]) | (refine wRet ?_; try simp) | (refine wCond ?_; simp [g1, k1, k2]) | (refine wBlock ?_) | (refine wScope ?_) | (refine wExit ?_; try simp) | (refine wSkip ?_; try simp) | (refine wOn ?_; try simp only [thenA_n]) | (refine wQn ?_; try simp only [thenA_n]) | (refine CallE.pure (c1) rfl ?_) | (refine CallE.lent (c1) rfl ?_) | (refine CallF.pure (c1) rfl ?_) | (refine CallF.lent (c1) rfl ?_) | (refine CallE.own (c1) ?_) | (refine CallE.pure (c2) rfl ?_) | (refine CallE.lent (c2) rfl ?_) | (refine CallF.pure (c2) rfl ?_) | (refine CallF.lent (c2) rfl ?_) | (refine CallE.own (c2) ?_) | (refine CallE.pure (c3) rfl ?_) | (refine CallE.lent (c3) rfl ?_) | (refine CallF.pure (c3) rfl ?_) | (refine CallF.lent (c3) rfl ?_) | (refine CallE.own (c3) ?_) | (refine CallE.pure (awake02) rfl ?_) | (refine CallE.lent (awake02) rfl ?_) | (refine CallF.pure (awake02) rfl ?_) | (refine CallF.lent (awake02) rfl ?_) | (refine CallE.own (awake02) ?_)
        all_goals apply hr
        all_goals simp [Tryd.f7]
      · have k3 : ¬ ox = i0 := by omega
        refine wBody Tryd.tab Tryd.mixed Tryd.func7 rfl rfl Tryd.ntmps7 (by simp) (by simp) fun Q hr hn => ?_
        repeat' first | (refine hK _ ?_; clear hK) | (refine hK _ _ ?_; clear hK) | (clear hK; refine hK _ ?_; clear hK) | (clear hK; clear hK; refine hK _ ?_; clear hK) | (clear hK; clear hK; clear hK; refine hK _ ?_; clear hK) | (clear hK; clear hK; clear hK; clear hK; refine hK _ ?_; clear hK) | (refine wSeq fun K hK => ?_) | (refine wReg ?_; simp only [List.map_cons, List.map_nil, strip]) | (refine wDrwQ rfl (by kernel_rfl) ?_; simp only [List.map_cons, List.map_nil, strip]) | (refine wDrwI ?_; simp only [List.map_cons, List.map_nil, strip]) | (refine wDrw (by kernel_rfl) ?_; simp only [List.map_cons, List.map_nil, strip]) | (refine wIs fun K hK => ?_; simp [g1, k1, k2, k3]) | (refine wIn ?_; refine And.intro (by kernel_rfl) ?_; try simp only [thenA_n]) | (refine wOs fun K hK => ?_; simp [g1, k1, k2, k3]) | (refine wQs fun K hK => ?_; simp [g1, k1, k2, k3]) | (refine CallK_plain ?_; simp [g1, k1, k2, k3]) | (refine CallQ_plain ?_; simp [g1, k1, k2, k3]) | (refine wRet ?_; try simp) | (refine wCond ?_; simp [g1, k1, k2, k3]) | (refine wBlock ?_) | (refine wScope ?_) | (refine wExit ?_; try simp) | (refine wSkip ?_; try simp) | (refine wOn ?_; try simp only [thenA_n]) | (refine wQn ?_; try simp only [thenA_n]) | (refine CallE.pure (c1) rfl ?_) | (refine CallE.lent (c1) rfl ?_) | (refine CallF.pure (c1) rfl ?_) | (refine CallF.lent (c1) rfl ?_) | (refine CallE.own (c1) ?_) | (refine CallE.pure (c2) rfl ?_) | (refine CallE.lent (c2) rfl ?_) | (refine CallF.pure (c2) rfl ?_) | (refine CallF.lent (c2) rfl ?_) | (refine CallE.own (c2) ?_) | (refine CallE.pure (c3) rfl ?_) | (refine CallE.lent (c3) rfl ?_) | (refine CallF.pure (c3) rfl ?_) | (refine CallF.lent (c3) rfl ?_) | (refine CallE.own (c3) ?_) | (refine CallE.pure (c5) rfl ?_) | (refine CallE.lent (c5) rfl ?_) | (refine CallF.pure (c5) rfl ?_) | (refine CallF.lent (c5) rfl ?_) | (refine CallE.own (c5) ?_) | (refine CallE.pure (awake02) rfl ?_) | (refine CallE.lent (awake02) rfl ?_) | (refine CallF.pure (awake02) rfl ?_) | (refine CallF.lent (awake02) rfl ?_) | (refine CallE.own (awake02) ?_)
        all_goals apply hr
        all_goals simp [Tryd.f7]
  · by_cases k1 : x ≤ f0
    · refine wBody Tryd.tab Tryd.mixed Tryd.func7 rfl rfl Tryd.ntmps7 (by simp) (by simp) fun Q hr hn => ?_
      repeat' first | (refine hK _ ?_; clear hK) | (refine hK _ _ ?_; clear hK) | (clear hK; refine hK _ ?_; clear hK) | (clear hK; clear hK; refine hK _ ?_; clear hK) | (clear hK; clear hK; clear hK; refine hK _ ?_; clear hK) | (clear hK; clear hK; clear hK; clear hK; refine hK _ ?_; clear hK) | (refine wSeq fun K hK => ?_) | (refine wReg ?_; simp only [List.map_cons, List.map_nil, strip]) | (refine wDrwQ rfl (by kernel_rfl) ?_; simp only [List.map_cons, List.map_nil, strip]) | (refine wDrwI ?_; simp only [List.map_cons, List.map_nil, strip]) | (refine wDrw (by kernel_rfl) ?_; simp only [List.map_cons, List.map_nil, strip]) | (refine wIs fun K hK => ?_; simp [g1, k, k1]) | (refine wIn ?_; refine And.intro (by kernel_rfl) ?_; try simp only [thenA_n]) | (refine wOs fun K hK => ?_; simp [g1, k, k1]) | (refine wQs fun K hK => ?_; simp [g1, k, k1]) | (refine CallK_plain ?_; simp [g1, k, k1]) | (refine CallQ_plain ?_; simp [g1, k, k1]) | (refine wRet ?_; try simp) | (refine wCond ?_; simp [g1, k, k1]) | (refine wBlock ?_) | (refine wScope ?_) | (refine wExit ?_; try simp) | (refine wSkip ?_; try simp) | (refine wOn ?_; try simp only [thenA_n]) | (refine wQn ?_; try simp only [thenA_n]) | (refine CallE.pure (c1) rfl ?_) | (refine CallE.lent (c1) rfl ?_) | (refine CallF.pure (c1) rfl ?_) | (refine CallF.lent (c1) rfl ?_) | (refine CallE.own (c1) ?_) | (refine CallE.pure (c2) rfl ?_) | (refine CallE.lent (c2) rfl ?_) | (refine CallF.pure (c2) rfl ?_) | (refine CallF.lent (c2) rfl ?_) | (refine CallE.own (c2) ?_) | (refine CallE.pure (c3) rfl ?_) | (refine CallE.lent (c3) rfl ?_) | (refine CallF.pure (c3) rfl ?_) | (refine CallF.lent (c3) rfl ?_) | (refine CallE.own (c3) ?_) | (refine CallE.pure (c4) rfl ?_) | (refine CallE.lent (c4) rfl ?_) | (refine CallF.pure (c4) rfl ?_) | (refine CallF.lent (c4) rfl ?_) | (refine CallE.own (c4) ?_) | (refine CallE.pure (awake02) rfl ?_) | (refine CallE.lent (awake02) rfl ?_) | (refine CallF.pure (awake02) rfl ?_) | (refine CallF.lent (awake02) rfl ?_) | (refine CallE.own (awake02) ?_)
      all_goals apply hr
      all_goals simp [Tryd.f7]
    · by_cases k2 : n ≤ x
      · refine wBody Tryd.tab Tryd.mixed Tryd.func7 rfl rfl Tryd.ntmps7 (by simp) (by simp) fun Q hr hn => ?_
        repeat' first | (refine hK _ ?_; clear hK) | (refine hK _ _ ?_; clear hK) | (clear hK; refine hK _ ?_; clear hK) | (clear hK; clear hK; refine hK _ ?_; clear hK) | (clear hK; clear hK; clear hK; refine hK _ ?_; clear hK) | (clear hK; clear hK; clear hK; clear hK; refine hK _ ?_; clear hK) | (refine wSeq fun K hK => ?_) | (refine wReg ?_; simp only [List.map_cons, List.map_nil, strip]) | (refine wDrwQ rfl (by kernel_rfl) ?_; simp only [List.map_cons, List.map_nil, strip]) | (refine wDrwI ?_; simp only [List.map_cons, List.map_nil, strip]) | (refine wDrw (by kernel_rfl) ?_; simp only [List.map_cons, List.map_nil, strip]) | (refine wIs fun K hK => ?_; simp [g1, k, k1, k2]) | (refine wIn ?_; refine And.intro (by kernel_rfl) ?_; try simp only [thenA_n]) | (refine wOs fun K hK => ?_; simp [g1, k, k1, k2]) | (refine wQs fun K hK => ?_; simp [g1, k, k1, k2]) | (refine CallK_plain ?_; simp [g1, k, k1, k2]) | (refine CallQ_plain ?_; simp [g1, k, k1, k2]) | (refine wRet ?_; try simp) | (refine wCond ?_; simp [g1, k, k1, k2]) | (refine wBlock ?_) | (refine wScope ?_) | (refine wExit ?_; try simp) | (refine wSkip ?_; try simp) | (refine wOn ?_; try simp only [thenA_n]) | (refine wQn ?_; try simp only [thenA_n]) | (refine CallE.pure (c1) rfl ?_) | (refine CallE.lent (c1) rfl ?_) | (refine CallF.pure (c1) rfl ?_) | (refine CallF.lent (c1) rfl ?_) | (refine CallE.own (c1) ?_) | (refine CallE.pure (c2) rfl ?_) | (refine CallE.lent (c2) rfl ?_) | (refine CallF.pure (c2) rfl ?_) | (refine CallF.lent (c2) rfl ?_) | (refine CallE.own (c2) ?_) | (refine CallE.pure (c3) rfl ?_) | (refine CallE.lent (c3) rfl ?_) | (refine CallF.pure (c3) rfl ?_) | (refine CallF.lent (c3) rfl ?_) | (refine CallE.own (c3) ?_) | (refine CallE.pure (c4) rfl ?_) | (refine CallE.lent (c4) rfl ?_) | (refine CallF.pure (c4) rfl ?_) | (refine CallF.lent (c4) rfl ?_) | (refine CallE.own (c4) ?_) | (refine CallE.pure (awake02) rfl ?_) | (refine CallE.lent (awake02) rfl ?_) | (refine CallF.pure (awake02) rfl ?_) | (refine CallF.lent (awake02) rfl ?_) | (refine CallE.own (awake02) ?_)
        all_goals apply hr
        all_goals simp [Tryd.f7]
      · have k3 : ¬ ox = i0 := by omega
        refine wBody Tryd.tab Tryd.mixed Tryd.func7 rfl rfl Tryd.ntmps7 (by simp) (by simp) fun Q hr hn => ?_
        repeat' first | (refine hK _ ?_; clear hK) | (refine hK _ _ ?_; clear hK) | (clear hK; refine hK _ ?_; clear hK) | (clear hK; clear hK; refine hK _ ?_; clear hK) | (clear hK; clear hK; clear hK; refine hK _ ?_; clear hK) | (clear hK; clear hK; clear hK; clear hK; refine hK _ ?_; clear hK) | (refine wSeq fun K hK => ?_) | (refine wReg ?_; simp only [List.map_cons, List.map_nil, strip]) | (refine wDrwQ rfl (by kernel_rfl) ?_; simp only [List.map_cons, List.map_nil, strip]) | (refine wDrwI ?_; simp only [List.map_cons, List.map_nil, strip]) | (refine wDrw (by kernel_rfl) ?_; simp only [List.map_cons, List.map_nil, strip]) | (refine wIs fun K hK => ?_; simp [g1, k, k1, k2, k3]) | (refine wIn ?_; refine And.intro (by kernel_rfl) ?_; try simp only [thenA_n]) | (refine wOs fun K hK => ?_; simp [g1, k, k1, k2, k3]) | (refine wQs fun K hK => ?_; simp [g1, k, k1, k2, k3]) | (refine CallK_plain ?_; simp [g1, k, k1, k2, k3]) | (refine CallQ_plain ?_; simp [g1, k, k1, k2, k3]) | (refine wRet ?_; try simp) | (refine wCond ?_; simp [g1, k, k1, k2, k3]) | (refine wBlock ?_) | (refine wScope ?_) | (refine wExit ?_; try simp) | (refine wSkip ?_; try simp) | (refine wOn ?_; try simp only [thenA_n]) | (refine wQn ?_; try simp only [thenA_n]) | (refine CallE.pure (c1) rfl ?_) | (refine CallE.lent (c1) rfl ?_) | (refine CallF.pure (c1) rfl ?_) | (refine CallF.lent (c1) rfl ?_) | (refine CallE.own (c1) ?_) | (refine CallE.pure (c2) rfl ?_) | (refine CallE.lent (c2) rfl ?_) | (refine CallF.pure (c2) rfl ?_) | (refine CallF.lent (c2) rfl ?_) | (refine CallE.own (c2) ?_) | (refine CallE.pure (c3) rfl ?_) | (refine CallE.lent (c3) rfl ?_) | (refine CallF.pure (c3) rfl ?_) | (refine CallF.lent (c3) rfl ?_) | (refine CallE.own (c3) ?_) | (refine CallE.pure (c4) rfl ?_) | (refine CallE.lent (c4) rfl ?_) | (refine CallF.pure (c4) rfl ?_) | (refine CallF.lent (c4) rfl ?_) | (refine CallE.own (c4) ?_) | (refine CallE.pure (c5) rfl ?_) | (refine CallE.lent (c5) rfl ?_) | (refine CallF.pure (c5) rfl ?_) | (refine CallF.lent (c5) rfl ?_) | (refine CallE.own (c5) ?_) | (refine CallE.pure (awake02) rfl ?_) | (refine CallE.lent (awake02) rfl ?_) | (refine CallF.pure (awake02) rfl ?_) | (refine CallF.lent (awake02) rfl ?_) | (refine CallE.own (awake02) ?_)
        all_goals apply hr
        all_goals simp [Tryd.f7]
/-! ### What comes in -/
theorem i_open {p : PV} (hp : ShT Tryd.T 3 p) : ∃ n, p = I n := by
  obtain ⟨n, rfl, -⟩ := (hp.one (f := .int .i64) rfl rfl rfl).intI
  exact ⟨n, rfl⟩
theorem zx_open {p : PV} (hp : ShT Tryd.T 23 p) : ∃ z : Zx, p = .agg [I z.e, I z.n] := by
  obtain ⟨ps, rfl, h⟩ := hp.agg (E := [.int .i64, .int .i64]) rfl rfl rfl
  obtain ⟨_, _, rfl, h0, h⟩ := h.cons
  obtain ⟨_, _, rfl, h1, h⟩ := h.cons
  obtain rfl := h.nil
  obtain ⟨x, rfl, -⟩ := h0.intI
  obtain ⟨y, rfl, -⟩ := h1.intI
  exact ⟨⟨x, y⟩, rfl⟩
theorem pair_open {p : PV} (hp : ShT Tryd.T 40 p) : ∃ x y, p = .agg [I x, I y] := by
  obtain ⟨ps, rfl, h⟩ := hp.agg (E := [.int .i64, .int .i64]) rfl rfl rfl
  obtain ⟨_, _, rfl, h0, h⟩ := h.cons
  obtain ⟨_, _, rfl, h1, h⟩ := h.cons
  obtain rfl := h.nil
  obtain ⟨x, rfl, -⟩ := h0.intI
  obtain ⟨y, rfl, -⟩ := h1.intI
  exact ⟨x, y, rfl⟩
theorem zxs_open {p : PV} (hp : ShT Tryd.T 24 p) : ∃ l : List Zx, p = .sl 2 (zxs l) :=
  (hp.one (f := .sl [.int .i64, .int .i64]) rfl rfl rfl).slI (f := fun z : Zx => [I z.e, I z.n]) fun ps h => by
    obtain ⟨_, _, rfl, h0, h⟩ := h.cons
    obtain ⟨_, _, rfl, h1, h⟩ := h.cons
    obtain rfl := h.nil
    obtain ⟨x, rfl, -⟩ := h0.intI
    obtain ⟨y, rfl, -⟩ := h1.intI
    exact ⟨⟨x, y⟩, rfl⟩
end Go.Proofs.YtjceehpfncfpgaaDoor
