/- Layer 3: names, depths, long texts; the law PathChecks. -/
import Derived.Test.YtpbmicfbghnmeaaDoorPC
import Derived.Test.YtpbmicfbghnmeaaDoorAvRow
namespace Go.Proofs.YtpbmicfbghnmeaaDoor
set_option linter.unusedSimpArgs false
set_option linter.unusedVariables false
open Go Go.Av
attribute [local simp] Tryd.T1 Tryd.T2 Tryd.T3 Tryd.T4 Tryd.T5 Tryd.T9 Tryd.T12 Tryd.T21 Tryd.T22 Tryd.T23 Tryd.T25 Tryd.T26 Tryd.T27 Tryd.T28 Tryd.T29 Tryd.T30 Tryd.T32 Tryd.T33 Tryd.T34 Tryd.T35 Tryd.T36 Tryd.T37 Tryd.T38 Tryd.T39 Tryd.T40 Tryd.T41 Tryd.T42 Tryd.T43 Tryd.T44 Tryd.T45 Tryd.T47 Tryd.T51 Tryd.T55 Tryd.T56 Tryd.T57 Tryd.T58 Tryd.T60 Tryd.T61 Tryd.T62 Tryd.T63 Tryd.T65 Tryd.T67 Tryd.T68 Tryd.T69 Tryd.T70 Tryd.T72 Tryd.T74 Tryd.T75 Tryd.T76 Tryd.T77 Tryd.T79 Tryd.T80 Tryd.T81 Tryd.T82 Tryd.T83 Tryd.T91
attribute [local irreducible] Go.Av.CallK Go.Av.CallE Go.Av.CallQ Go.Av.CallF Go.Av.Con

theorem name_con (l : List UInt8) (hl : l.length ≤ 9223372036854775807) : ACon Tryd.prog 14 [.p (SB l)] (.p (SB (nam l))) := by
  have c := child_con l hl
  unfold nam
  cases h : chd l
  · rw [h] at c
    rw [if_neg (by simp)]
    refine wBody Tryd.tab Tryd.mixed Tryd.func14 rfl rfl Tryd.ntmps14 (by simp) (by simp) fun Q hr hn => ?_
    repeat' first | (refine hK _ ?_; clear hK) | (refine hK _ _ ?_; clear hK) | (clear hK; refine hK _ ?_; clear hK) | (clear hK; clear hK; refine hK _ ?_; clear hK) | (clear hK; clear hK; clear hK; refine hK _ ?_; clear hK) | (clear hK; clear hK; clear hK; clear hK; refine hK _ ?_; clear hK) | (refine wSeq fun K hK => ?_) | (refine wReg ?_; simp only [List.map_cons, List.map_nil, strip]) | (refine wDrwQ rfl (by kernel_rfl) ?_; simp only [List.map_cons, List.map_nil, strip]) | (refine wDrwI ?_; simp only [List.map_cons, List.map_nil, strip]) | (refine wDrw (by kernel_rfl) ?_; simp only [List.map_cons, List.map_nil, strip]) | (refine wIs fun K hK => ?_; simp) | (refine wIn ?_; refine And.intro (by kernel_rfl) ?_; try simp only [thenA_n]) | (refine wOs fun K hK => ?_; simp) | (refine wQs fun K hK => ?_; simp) | (refine CallK_plain ?_; simp) | (refine CallQ_plain ?_; simp) | (refine wRet ?_; try simp) | (refine wCond ?_; simp) | (refine wBlock ?_) | (refine wScope ?_) | (refine wLabel ?_; try simp only [thenA_n]) | (refine wExit ?_; try simp) | (refine wSkip ?_; try simp) | (refine wOn ?_; try simp only [thenA_n]) | (refine wQn ?_; try simp only [thenA_n]) | (refine CallE.pure (c) rfl ?_) | (refine CallE.lent (c) rfl ?_) | (refine CallF.pure (c) rfl ?_) | (refine CallF.lent (c) rfl ?_) | (refine CallE.own (c) ?_)
    all_goals apply hr
    all_goals simp [Tryd.f14]
  · rw [h] at c
    rw [if_pos rfl]
    simp only [chd, decide_eq_true_eq] at h
    rcases chk_spec h.2 with h1 | ⟨-, R, rfl, hR⟩
    · exact absurd h1 h.1
    have c2 := lastIx_con (47 :: R) hl rfl
    have hx := lx_lt (47 :: R) (47 :: R).length (by simp)
    generalize lx (47 :: R) (47 :: R).length = x at c2 hx ⊢
    simp only [List.length_cons] at hx hl
    have hw : IntKind.i64.wrap ((x : Int) + 1) = (x : Int) + 1 := by rw [wrap_id] <;> omega
    have h0 : (0 : Int) ≤ (x : Int) + 1 := by omega
    have hx' : x ≤ R.length := by omega
    refine wBody Tryd.tab Tryd.mixed Tryd.func14 rfl rfl Tryd.ntmps14 (by simp) (by simp) fun Q hr hn => ?_
    repeat' first | (refine hK _ ?_; clear hK) | (refine hK _ _ ?_; clear hK) | (clear hK; refine hK _ ?_; clear hK) | (clear hK; clear hK; refine hK _ ?_; clear hK) | (clear hK; clear hK; clear hK; refine hK _ ?_; clear hK) | (clear hK; clear hK; clear hK; clear hK; refine hK _ ?_; clear hK) | (refine wSeq fun K hK => ?_) | (refine wReg ?_; simp only [List.map_cons, List.map_nil, strip]) | (refine wDrwQ rfl (by kernel_rfl) ?_; simp only [List.map_cons, List.map_nil, strip]) | (refine wDrwI ?_; simp only [List.map_cons, List.map_nil, strip]) | (refine wDrw (by kernel_rfl) ?_; simp only [List.map_cons, List.map_nil, strip]) | (refine wIs fun K hK => ?_; simp [hw, h0, hx, hx']) | (refine wIn ?_; refine And.intro (by kernel_rfl) ?_; try simp only [thenA_n]) | (refine wOs fun K hK => ?_; simp [hw, h0, hx, hx']) | (refine wQs fun K hK => ?_; simp [hw, h0, hx, hx']) | (refine CallK_plain ?_; simp [hw, h0, hx, hx']) | (refine CallQ_plain ?_; simp [hw, h0, hx, hx']) | (refine wRet ?_; try simp) | (refine wCond ?_; simp [hw, h0, hx, hx']) | (refine wBlock ?_) | (refine wScope ?_) | (refine wLabel ?_; try simp only [thenA_n]) | (refine wExit ?_; try simp) | (refine wSkip ?_; try simp) | (refine wOn ?_; try simp only [thenA_n]) | (refine wQn ?_; try simp only [thenA_n]) | (refine CallE.pure (c) rfl ?_) | (refine CallE.lent (c) rfl ?_) | (refine CallF.pure (c) rfl ?_) | (refine CallF.lent (c) rfl ?_) | (refine CallE.own (c) ?_) | (refine CallE.pure (c2) rfl ?_) | (refine CallE.lent (c2) rfl ?_) | (refine CallF.pure (c2) rfl ?_) | (refine CallF.lent (c2) rfl ?_) | (refine CallE.own (c2) ?_)
    all_goals apply hr
    all_goals simp [Tryd.f14]
theorem name03_con (l : List UInt8) (hl : l.length ≤ 9223372036854775807) : ACon Tryd.prog 15 [.p (SB l)] (.p (SB (nam l))) := by
  have c := check03_con l hl
  unfold nam
  by_cases h0 : chk l = 0
  · rw [h0] at c
    rcases chk_spec h0 with rfl | ⟨h1, R, rfl, hR⟩
    · try rw [if_neg (by simp [chd])]
      have c2 : ACon Tryd.prog 26 [.p (SB [47])] (.p (I 0)) := last03_con [47] (by simp)
      have w1 : IntKind.i64.wrap 1 = 1 := wrap_id (by omega) (by omega)
      refine wBody Tryd.tab Tryd.mixed Tryd.func15 rfl rfl Tryd.ntmps15 (by simp) (by simp) fun Q hr hn => ?_
      repeat' first | (refine hK _ ?_; clear hK) | (refine hK _ _ ?_; clear hK) | (clear hK; refine hK _ ?_; clear hK) | (clear hK; clear hK; refine hK _ ?_; clear hK) | (clear hK; clear hK; clear hK; refine hK _ ?_; clear hK) | (clear hK; clear hK; clear hK; clear hK; refine hK _ ?_; clear hK) | (refine wSeq fun K hK => ?_) | (refine wReg ?_; simp only [List.map_cons, List.map_nil, strip]) | (refine wDrwQ rfl (by kernel_rfl) ?_; simp only [List.map_cons, List.map_nil, strip]) | (refine wDrwI ?_; simp only [List.map_cons, List.map_nil, strip]) | (refine wDrw (by kernel_rfl) ?_; simp only [List.map_cons, List.map_nil, strip]) | (refine wIs fun K hK => ?_; simp [w1]) | (refine wIn ?_; refine And.intro (by kernel_rfl) ?_; try simp only [thenA_n]) | (refine wOs fun K hK => ?_; simp [w1]) | (refine wQs fun K hK => ?_; simp [w1]) | (refine CallK_plain ?_; simp [w1]) | (refine CallQ_plain ?_; simp [w1]) | (refine wRet ?_; try simp) | (refine wCond ?_; simp [w1]) | (refine wBlock ?_) | (refine wScope ?_) | (refine wLabel ?_; try simp only [thenA_n]) | (refine wExit ?_; try simp) | (refine wSkip ?_; try simp) | (refine wOn ?_; try simp only [thenA_n]) | (refine wQn ?_; try simp only [thenA_n]) | (refine CallE.pure (c) rfl ?_) | (refine CallE.lent (c) rfl ?_) | (refine CallF.pure (c) rfl ?_) | (refine CallF.lent (c) rfl ?_) | (refine CallE.own (c) ?_) | (refine CallE.pure (c2) rfl ?_) | (refine CallE.lent (c2) rfl ?_) | (refine CallF.pure (c2) rfl ?_) | (refine CallF.lent (c2) rfl ?_) | (refine CallE.own (c2) ?_)
      all_goals apply hr
      all_goals simp [Tryd.f15]
      all_goals rfl
    · rw [if_pos (by simp [chd, h0, hR])]
      have c2 := last03_con (47 :: R) hl
      have hx := lx_lt (47 :: R) (47 :: R).length (by simp)
      generalize lx (47 :: R) (47 :: R).length = x at c2 hx ⊢
      simp only [List.length_cons] at hx hl
      have hw : IntKind.i64.wrap ((x : Int) + 1) = (x : Int) + 1 := by rw [wrap_id] <;> omega
      have h0 : (0 : Int) ≤ (x : Int) + 1 := by omega
      have hx' : x ≤ R.length := by omega
      refine wBody Tryd.tab Tryd.mixed Tryd.func15 rfl rfl Tryd.ntmps15 (by simp) (by simp) fun Q hr hn => ?_
      repeat' first | (refine hK _ ?_; clear hK) | (refine hK _ _ ?_; clear hK) | (clear hK; refine hK _ ?_; clear hK) | (clear hK; clear hK; refine hK _ ?_; clear hK) | (clear hK; clear hK; clear hK; refine hK _ ?_; clear hK) | (clear hK; clear hK; clear hK; clear hK; refine hK _ ?_; clear hK) | (refine wSeq fun K hK => ?_) | (refine wReg ?_; simp only [List.map_cons, List.map_nil, strip]) | (refine wDrwQ rfl (by kernel_rfl) ?_; simp only [List.map_cons, List.map_nil, strip]) | (refine wDrwI ?_; simp only [List.map_cons, List.map_nil, strip]) | (refine wDrw (by kernel_rfl) ?_; simp only [List.map_cons, List.map_nil, strip]) | (refine wIs fun K hK => ?_; simp [h1, hR, hw, h0, hx, hx']) | (refine wIn ?_; refine And.intro (by kernel_rfl) ?_; try simp only [thenA_n]) | (refine wOs fun K hK => ?_; simp [h1, hR, hw, h0, hx, hx']) | (refine wQs fun K hK => ?_; simp [h1, hR, hw, h0, hx, hx']) | (refine CallK_plain ?_; simp [h1, hR, hw, h0, hx, hx']) | (refine CallQ_plain ?_; simp [h1, hR, hw, h0, hx, hx']) | (refine wRet ?_; try simp) | (refine wCond ?_; simp [h1, hR, hw, h0, hx, hx']) | (refine wBlock ?_) | (refine wScope ?_) | (refine wLabel ?_; try simp only [thenA_n]) | (refine wExit ?_; try simp) | (refine wSkip ?_; try simp) | (refine wOn ?_; try simp only [thenA_n]) | (refine wQn ?_; try simp only [thenA_n]) | (refine CallE.pure (c) rfl ?_) | (refine CallE.lent (c) rfl ?_) | (refine CallF.pure (c) rfl ?_) | (refine CallF.lent (c) rfl ?_) | (refine CallE.own (c) ?_) | (refine CallE.pure (c2) rfl ?_) | (refine CallE.lent (c2) rfl ?_) | (refine CallF.pure (c2) rfl ?_) | (refine CallF.lent (c2) rfl ?_) | (refine CallE.own (c2) ?_)
      all_goals apply hr
      all_goals simp [Tryd.f15]
  · rw [if_neg (by simp [chd, h0])]
    generalize chk l = e at c h0
    refine wBody Tryd.tab Tryd.mixed Tryd.func15 rfl rfl Tryd.ntmps15 (by simp) (by simp) fun Q hr hn => ?_
    repeat' first | (refine hK _ ?_; clear hK) | (refine hK _ _ ?_; clear hK) | (clear hK; refine hK _ ?_; clear hK) | (clear hK; clear hK; refine hK _ ?_; clear hK) | (clear hK; clear hK; clear hK; refine hK _ ?_; clear hK) | (clear hK; clear hK; clear hK; clear hK; refine hK _ ?_; clear hK) | (refine wSeq fun K hK => ?_) | (refine wReg ?_; simp only [List.map_cons, List.map_nil, strip]) | (refine wDrwQ rfl (by kernel_rfl) ?_; simp only [List.map_cons, List.map_nil, strip]) | (refine wDrwI ?_; simp only [List.map_cons, List.map_nil, strip]) | (refine wDrw (by kernel_rfl) ?_; simp only [List.map_cons, List.map_nil, strip]) | (refine wIs fun K hK => ?_; simp [h0]) | (refine wIn ?_; refine And.intro (by kernel_rfl) ?_; try simp only [thenA_n]) | (refine wOs fun K hK => ?_; simp [h0]) | (refine wQs fun K hK => ?_; simp [h0]) | (refine CallK_plain ?_; simp [h0]) | (refine CallQ_plain ?_; simp [h0]) | (refine wRet ?_; try simp) | (refine wCond ?_; simp [h0]) | (refine wBlock ?_) | (refine wScope ?_) | (refine wLabel ?_; try simp only [thenA_n]) | (refine wExit ?_; try simp) | (refine wSkip ?_; try simp) | (refine wOn ?_; try simp only [thenA_n]) | (refine wQn ?_; try simp only [thenA_n]) | (refine CallE.pure (c) rfl ?_) | (refine CallE.lent (c) rfl ?_) | (refine CallF.pure (c) rfl ?_) | (refine CallF.lent (c) rfl ?_) | (refine CallE.own (c) ?_)
    all_goals apply hr
    all_goals simp [Tryd.f15]
theorem depth_con (l : List UInt8) (hl : l.length ≤ 9223372036854775807) : ACon Tryd.prog 16 [.p (SB l)] (.p (I (dep l))) := by
  have c := check_con l hl
  have c2 := countIx_con l
  unfold dep
  by_cases h0 : chk l = 0
  · rw [h0] at c
    rw [if_pos h0]
    by_cases h1 : l = [47]
    · subst h1
      rw [if_pos rfl]
      refine wBody Tryd.tab Tryd.mixed Tryd.func16 rfl rfl Tryd.ntmps16 (by simp) (by simp) fun Q hr hn => ?_
      repeat' first | (refine hK _ ?_; clear hK) | (refine hK _ _ ?_; clear hK) | (clear hK; refine hK _ ?_; clear hK) | (clear hK; clear hK; refine hK _ ?_; clear hK) | (clear hK; clear hK; clear hK; refine hK _ ?_; clear hK) | (clear hK; clear hK; clear hK; clear hK; refine hK _ ?_; clear hK) | (refine wSeq fun K hK => ?_) | (refine wReg ?_; simp only [List.map_cons, List.map_nil, strip]) | (refine wDrwQ rfl (by kernel_rfl) ?_; simp only [List.map_cons, List.map_nil, strip]) | (refine wDrwI ?_; simp only [List.map_cons, List.map_nil, strip]) | (refine wDrw (by kernel_rfl) ?_; simp only [List.map_cons, List.map_nil, strip]) | (refine wIs fun K hK => ?_; simp) | (refine wIn ?_; refine And.intro (by kernel_rfl) ?_; try simp only [thenA_n]) | (refine wOs fun K hK => ?_; simp) | (refine wQs fun K hK => ?_; simp) | (refine CallK_plain ?_; simp) | (refine CallQ_plain ?_; simp) | (refine wRet ?_; try simp) | (refine wCond ?_; simp) | (refine wBlock ?_) | (refine wScope ?_) | (refine wLabel ?_; try simp only [thenA_n]) | (refine wExit ?_; try simp) | (refine wSkip ?_; try simp) | (refine wOn ?_; try simp only [thenA_n]) | (refine wQn ?_; try simp only [thenA_n]) | (refine CallE.pure (c) rfl ?_) | (refine CallE.lent (c) rfl ?_) | (refine CallF.pure (c) rfl ?_) | (refine CallF.lent (c) rfl ?_) | (refine CallE.own (c) ?_)
      all_goals apply hr
      all_goals simp [Tryd.f16]
    · rw [if_neg h1]
      refine wBody Tryd.tab Tryd.mixed Tryd.func16 rfl rfl Tryd.ntmps16 (by simp) (by simp) fun Q hr hn => ?_
      repeat' first | (refine hK _ ?_; clear hK) | (refine hK _ _ ?_; clear hK) | (clear hK; refine hK _ ?_; clear hK) | (clear hK; clear hK; refine hK _ ?_; clear hK) | (clear hK; clear hK; clear hK; refine hK _ ?_; clear hK) | (clear hK; clear hK; clear hK; clear hK; refine hK _ ?_; clear hK) | (refine wSeq fun K hK => ?_) | (refine wReg ?_; simp only [List.map_cons, List.map_nil, strip]) | (refine wDrwQ rfl (by kernel_rfl) ?_; simp only [List.map_cons, List.map_nil, strip]) | (refine wDrwI ?_; simp only [List.map_cons, List.map_nil, strip]) | (refine wDrw (by kernel_rfl) ?_; simp only [List.map_cons, List.map_nil, strip]) | (refine wIs fun K hK => ?_; simp [h1]) | (refine wIn ?_; refine And.intro (by kernel_rfl) ?_; try simp only [thenA_n]) | (refine wOs fun K hK => ?_; simp [h1]) | (refine wQs fun K hK => ?_; simp [h1]) | (refine CallK_plain ?_; simp [h1]) | (refine CallQ_plain ?_; simp [h1]) | (refine wRet ?_; try simp) | (refine wCond ?_; simp [h1]) | (refine wBlock ?_) | (refine wScope ?_) | (refine wLabel ?_; try simp only [thenA_n]) | (refine wExit ?_; try simp) | (refine wSkip ?_; try simp) | (refine wOn ?_; try simp only [thenA_n]) | (refine wQn ?_; try simp only [thenA_n]) | (refine CallE.pure (c) rfl ?_) | (refine CallE.lent (c) rfl ?_) | (refine CallF.pure (c) rfl ?_) | (refine CallF.lent (c) rfl ?_) | (refine CallE.own (c) ?_) | (refine CallE.pure (c2) rfl ?_) | (refine CallE.lent (c2) rfl ?_) | (refine CallF.pure (c2) rfl ?_) | (refine CallF.lent (c2) rfl ?_) | (refine CallE.own (c2) ?_)
      all_goals apply hr
      all_goals simp [Tryd.f16]
  · rw [if_neg h0]
    generalize chk l = e at c h0
    refine wBody Tryd.tab Tryd.mixed Tryd.func16 rfl rfl Tryd.ntmps16 (by simp) (by simp) fun Q hr hn => ?_
    repeat' first | (refine hK _ ?_; clear hK) | (refine hK _ _ ?_; clear hK) | (clear hK; refine hK _ ?_; clear hK) | (clear hK; clear hK; refine hK _ ?_; clear hK) | (clear hK; clear hK; clear hK; refine hK _ ?_; clear hK) | (clear hK; clear hK; clear hK; clear hK; refine hK _ ?_; clear hK) | (refine wSeq fun K hK => ?_) | (refine wReg ?_; simp only [List.map_cons, List.map_nil, strip]) | (refine wDrwQ rfl (by kernel_rfl) ?_; simp only [List.map_cons, List.map_nil, strip]) | (refine wDrwI ?_; simp only [List.map_cons, List.map_nil, strip]) | (refine wDrw (by kernel_rfl) ?_; simp only [List.map_cons, List.map_nil, strip]) | (refine wIs fun K hK => ?_; simp [h0]) | (refine wIn ?_; refine And.intro (by kernel_rfl) ?_; try simp only [thenA_n]) | (refine wOs fun K hK => ?_; simp [h0]) | (refine wQs fun K hK => ?_; simp [h0]) | (refine CallK_plain ?_; simp [h0]) | (refine CallQ_plain ?_; simp [h0]) | (refine wRet ?_; try simp) | (refine wCond ?_; simp [h0]) | (refine wBlock ?_) | (refine wScope ?_) | (refine wLabel ?_; try simp only [thenA_n]) | (refine wExit ?_; try simp) | (refine wSkip ?_; try simp) | (refine wOn ?_; try simp only [thenA_n]) | (refine wQn ?_; try simp only [thenA_n]) | (refine CallE.pure (c) rfl ?_) | (refine CallE.lent (c) rfl ?_) | (refine CallF.pure (c) rfl ?_) | (refine CallF.lent (c) rfl ?_) | (refine CallE.own (c) ?_)
    all_goals apply hr
    all_goals simp [Tryd.f16]
theorem count_step {l : List UInt8} {k : Nat} (h : k < l.length) : Go.Lib.countByte (l.take (k + 1)) 47 = Go.Lib.countByte (l.take k) 47 + if l[k] = 47 then 1 else 0 := by
  rw [List.take_succ_eq_append_getElem h, Go.Lib.countByte, List.count_append]
  by_cases d : l[k] = 47
  · rw [if_pos d, d]; simp [Go.Lib.countByte]
  · rw [if_neg d]; simp [Go.Lib.countByte, List.count_singleton, d]
theorem count_le (l : List UInt8) : Go.Lib.countByte l 47 ≤ l.length := List.count_le_length
theorem depth03_con (l : List UInt8) (hl : l.length ≤ 9223372036854775807) : ACon Tryd.prog 17 [.p (SB l)] (.p (I (dep l))) := by
  have c := check03_con l hl
  unfold dep
  by_cases h0 : chk l = 0
  · rw [h0] at c
    rw [if_pos h0]
    rcases chk_spec h0 with rfl | ⟨h1, R, hlR, hR⟩
    · rw [if_pos rfl]
      refine wBody Tryd.tab Tryd.mixed Tryd.func17 rfl rfl Tryd.ntmps17 (by simp) (by simp) fun Q hr hn => ?_
      repeat' first | (refine hK _ ?_; clear hK) | (refine hK _ _ ?_; clear hK) | (clear hK; refine hK _ ?_; clear hK) | (clear hK; clear hK; refine hK _ ?_; clear hK) | (clear hK; clear hK; clear hK; refine hK _ ?_; clear hK) | (clear hK; clear hK; clear hK; clear hK; refine hK _ ?_; clear hK) | (refine wSeq fun K hK => ?_) | (refine wReg ?_; simp only [List.map_cons, List.map_nil, strip]) | (refine wDrwQ rfl (by kernel_rfl) ?_; simp only [List.map_cons, List.map_nil, strip]) | (refine wDrwI ?_; simp only [List.map_cons, List.map_nil, strip]) | (refine wDrw (by kernel_rfl) ?_; simp only [List.map_cons, List.map_nil, strip]) | (refine wIs fun K hK => ?_; simp) | (refine wIn ?_; refine And.intro (by kernel_rfl) ?_; try simp only [thenA_n]) | (refine wOs fun K hK => ?_; simp) | (refine wQs fun K hK => ?_; simp) | (refine CallK_plain ?_; simp) | (refine CallQ_plain ?_; simp) | (refine wRet ?_; try simp) | (refine wCond ?_; simp) | (refine wBlock ?_) | (refine wScope ?_) | (refine wLabel ?_; try simp only [thenA_n]) | (refine wExit ?_; try simp) | (refine wSkip ?_; try simp) | (refine wOn ?_; try simp only [thenA_n]) | (refine wQn ?_; try simp only [thenA_n]) | (refine CallE.pure (c) rfl ?_) | (refine CallE.lent (c) rfl ?_) | (refine CallF.pure (c) rfl ?_) | (refine CallF.lent (c) rfl ?_) | (refine CallE.own (c) ?_)
      refine wLoop (fun N st => ∃ k : Nat, k + N = 1 ∧ st.s 0 = .p (SB [47]) ∧ st.s 9 = .p (I 1) ∧ st.s 10 = .p (I k) ∧ st.s 3 = .p (I 0)) 1 ⟨0, by simp⟩ fun K N st hL ⟨k, hk, g0, g9, g10, g3⟩ => ?_
      by_cases hlt : k < 1
      · obtain rfl : k = 0 := by omega
        repeat' first | (refine hK _ ?_; clear hK) | (refine hK _ _ ?_; clear hK) | (clear hK; refine hK _ ?_; clear hK) | (clear hK; clear hK; refine hK _ ?_; clear hK) | (clear hK; clear hK; clear hK; refine hK _ ?_; clear hK) | (clear hK; clear hK; clear hK; clear hK; refine hK _ ?_; clear hK) | (refine wSeq fun K hK => ?_) | (refine wReg ?_; simp only [List.map_cons, List.map_nil, strip]) | (refine wDrwQ rfl (by kernel_rfl) ?_; simp only [List.map_cons, List.map_nil, strip]) | (refine wDrwI ?_; simp only [List.map_cons, List.map_nil, strip]) | (refine wDrw (by kernel_rfl) ?_; simp only [List.map_cons, List.map_nil, strip]) | (refine wIs fun K hK => ?_; simp [g0, g9, g10, g3]) | (refine wIn ?_; refine And.intro (by kernel_rfl) ?_; try simp only [thenA_n]) | (refine wOs fun K hK => ?_; simp [g0, g9, g10, g3]) | (refine wQs fun K hK => ?_; simp [g0, g9, g10, g3]) | (refine CallK_plain ?_; simp [g0, g9, g10, g3]) | (refine CallQ_plain ?_; simp [g0, g9, g10, g3]) | (refine wRet ?_; try simp) | (refine wCond ?_; simp [g0, g9, g10, g3]) | (refine wBlock ?_) | (refine wScope ?_) | (refine wLabel ?_; try simp only [thenA_n]) | (refine wExit ?_; try simp) | (refine wSkip ?_; try simp) | (refine wOn ?_; try simp only [thenA_n]) | (refine wQn ?_; try simp only [thenA_n])
        refine hL _ (N - 1) (by omega) ⟨1, by omega, ?_⟩
        simp [g0, g9, g10, g3]
        try decide
      · obtain rfl : k = 1 := by omega
        repeat' first | (refine hK _ ?_; clear hK) | (refine hK _ _ ?_; clear hK) | (clear hK; refine hK _ ?_; clear hK) | (clear hK; clear hK; refine hK _ ?_; clear hK) | (clear hK; clear hK; clear hK; refine hK _ ?_; clear hK) | (clear hK; clear hK; clear hK; clear hK; refine hK _ ?_; clear hK) | (refine wSeq fun K hK => ?_) | (refine wReg ?_; simp only [List.map_cons, List.map_nil, strip]) | (refine wDrwQ rfl (by kernel_rfl) ?_; simp only [List.map_cons, List.map_nil, strip]) | (refine wDrwI ?_; simp only [List.map_cons, List.map_nil, strip]) | (refine wDrw (by kernel_rfl) ?_; simp only [List.map_cons, List.map_nil, strip]) | (refine wIs fun K hK => ?_; simp [g0, g9, g10, g3]) | (refine wIn ?_; refine And.intro (by kernel_rfl) ?_; try simp only [thenA_n]) | (refine wOs fun K hK => ?_; simp [g0, g9, g10, g3]) | (refine wQs fun K hK => ?_; simp [g0, g9, g10, g3]) | (refine CallK_plain ?_; simp [g0, g9, g10, g3]) | (refine CallQ_plain ?_; simp [g0, g9, g10, g3]) | (refine wRet ?_; try simp) | (refine wCond ?_; simp [g0, g9, g10, g3]) | (refine wBlock ?_) | (refine wScope ?_) | (refine wLabel ?_; try simp only [thenA_n]) | (refine wExit ?_; try simp) | (refine wSkip ?_; try simp) | (refine wOn ?_; try simp only [thenA_n]) | (refine wQn ?_; try simp only [thenA_n])
        all_goals apply hr
        all_goals simp [Tryd.f17, g3]
    · rw [if_neg h1]
      have hlen : (1 : Int) < l.length := by
        rw [hlR]; simp only [List.length_cons]; have := List.length_pos_iff.2 hR; omega
      refine wBody Tryd.tab Tryd.mixed Tryd.func17 rfl rfl Tryd.ntmps17 (by simp) (by simp) fun Q hr hn => ?_
      repeat' first | (refine hK _ ?_; clear hK) | (refine hK _ _ ?_; clear hK) | (clear hK; refine hK _ ?_; clear hK) | (clear hK; clear hK; refine hK _ ?_; clear hK) | (clear hK; clear hK; clear hK; refine hK _ ?_; clear hK) | (clear hK; clear hK; clear hK; clear hK; refine hK _ ?_; clear hK) | (refine wSeq fun K hK => ?_) | (refine wReg ?_; simp only [List.map_cons, List.map_nil, strip]) | (refine wDrwQ rfl (by kernel_rfl) ?_; simp only [List.map_cons, List.map_nil, strip]) | (refine wDrwI ?_; simp only [List.map_cons, List.map_nil, strip]) | (refine wDrw (by kernel_rfl) ?_; simp only [List.map_cons, List.map_nil, strip]) | (refine wIs fun K hK => ?_; simp) | (refine wIn ?_; refine And.intro (by kernel_rfl) ?_; try simp only [thenA_n]) | (refine wOs fun K hK => ?_; simp) | (refine wQs fun K hK => ?_; simp) | (refine CallK_plain ?_; simp) | (refine CallQ_plain ?_; simp) | (refine wRet ?_; try simp) | (refine wCond ?_; simp) | (refine wBlock ?_) | (refine wScope ?_) | (refine wLabel ?_; try simp only [thenA_n]) | (refine wExit ?_; try simp) | (refine wSkip ?_; try simp) | (refine wOn ?_; try simp only [thenA_n]) | (refine wQn ?_; try simp only [thenA_n]) | (refine CallE.pure (c) rfl ?_) | (refine CallE.lent (c) rfl ?_) | (refine CallF.pure (c) rfl ?_) | (refine CallF.lent (c) rfl ?_) | (refine CallE.own (c) ?_)
      refine wLoop (fun N st => ∃ k, k + N = l.length ∧ st.s 0 = .p (SB l) ∧ st.s 9 = .p (I l.length) ∧ st.s 10 = .p (I k) ∧ st.s 3 = .p (I (Go.Lib.countByte (l.take k) 47))) l.length ⟨0, by simp [Go.Lib.countByte]⟩ fun K N st hL ⟨k, hk, g0, g9, g10, g3⟩ => ?_
      by_cases hlt : k < l.length
      · have hw := wrapS k _ hlt hl
        have hs := count_step hlt
        have hcl := count_le (l.take k)
        have hcl2 : (l.take k).length ≤ k := by simp; omega
        by_cases d : l[k] = 47
        · have d' : (l[k].toNat : Int) = 47 := by rw [d]; rfl
          rw [if_pos d] at hs
          have hw2 : IntKind.i64.wrap ((Go.Lib.countByte (l.take k) 47 : Int) + 1) = (Go.Lib.countByte (l.take k) 47 : Int) + 1 := by rw [wrap_id] <;> omega
          generalize Go.Lib.countByte (l.take k) 47 = m at g3 hs hw2
          repeat' first | (refine hK _ ?_; clear hK) | (refine hK _ _ ?_; clear hK) | (clear hK; refine hK _ ?_; clear hK) | (clear hK; clear hK; refine hK _ ?_; clear hK) | (clear hK; clear hK; clear hK; refine hK _ ?_; clear hK) | (clear hK; clear hK; clear hK; clear hK; refine hK _ ?_; clear hK) | (refine wSeq fun K hK => ?_) | (refine wReg ?_; simp only [List.map_cons, List.map_nil, strip]) | (refine wDrwQ rfl (by kernel_rfl) ?_; simp only [List.map_cons, List.map_nil, strip]) | (refine wDrwI ?_; simp only [List.map_cons, List.map_nil, strip]) | (refine wDrw (by kernel_rfl) ?_; simp only [List.map_cons, List.map_nil, strip]) | (refine wIs fun K hK => ?_; simp [g0, g9, g10, g3, hlt, hw, hw2, d, d', hlen]) | (refine wIn ?_; refine And.intro (by kernel_rfl) ?_; try simp only [thenA_n]) | (refine wOs fun K hK => ?_; simp [g0, g9, g10, g3, hlt, hw, hw2, d, d', hlen]) | (refine wQs fun K hK => ?_; simp [g0, g9, g10, g3, hlt, hw, hw2, d, d', hlen]) | (refine CallK_plain ?_; simp [g0, g9, g10, g3, hlt, hw, hw2, d, d', hlen]) | (refine CallQ_plain ?_; simp [g0, g9, g10, g3, hlt, hw, hw2, d, d', hlen]) | (refine wRet ?_; try simp) | (refine wCond ?_; simp [g0, g9, g10, g3, hlt, hw, hw2, d, d', hlen]) | (refine wBlock ?_) | (refine wScope ?_) | (refine wLabel ?_; try simp only [thenA_n]) | (refine wExit ?_; try simp) | (refine wSkip ?_; try simp) | (refine wOn ?_; try simp only [thenA_n]) | (refine wQn ?_; try simp only [thenA_n])
          refine hL _ (N - 1) (by omega) ⟨k + 1, by omega, ?_⟩
          simp [g0, g9, g10, g3, hw, hw2, hs]
        · have d' := ne47 d
          rw [if_neg d] at hs
          repeat' first | (refine hK _ ?_; clear hK) | (refine hK _ _ ?_; clear hK) | (clear hK; refine hK _ ?_; clear hK) | (clear hK; clear hK; refine hK _ ?_; clear hK) | (clear hK; clear hK; clear hK; refine hK _ ?_; clear hK) | (clear hK; clear hK; clear hK; clear hK; refine hK _ ?_; clear hK) | (refine wSeq fun K hK => ?_) | (refine wReg ?_; simp only [List.map_cons, List.map_nil, strip]) | (refine wDrwQ rfl (by kernel_rfl) ?_; simp only [List.map_cons, List.map_nil, strip]) | (refine wDrwI ?_; simp only [List.map_cons, List.map_nil, strip]) | (refine wDrw (by kernel_rfl) ?_; simp only [List.map_cons, List.map_nil, strip]) | (refine wIs fun K hK => ?_; simp [g0, g9, g10, g3, hlt, hw, d, d', hlen]) | (refine wIn ?_; refine And.intro (by kernel_rfl) ?_; try simp only [thenA_n]) | (refine wOs fun K hK => ?_; simp [g0, g9, g10, g3, hlt, hw, d, d', hlen]) | (refine wQs fun K hK => ?_; simp [g0, g9, g10, g3, hlt, hw, d, d', hlen]) | (refine CallK_plain ?_; simp [g0, g9, g10, g3, hlt, hw, d, d', hlen]) | (refine CallQ_plain ?_; simp [g0, g9, g10, g3, hlt, hw, d, d', hlen]) | (refine wRet ?_; try simp) | (refine wCond ?_; simp [g0, g9, g10, g3, hlt, hw, d, d', hlen]) | (refine wBlock ?_) | (refine wScope ?_) | (refine wLabel ?_; try simp only [thenA_n]) | (refine wExit ?_; try simp) | (refine wSkip ?_; try simp) | (refine wOn ?_; try simp only [thenA_n]) | (refine wQn ?_; try simp only [thenA_n])
          refine hL _ (N - 1) (by omega) ⟨k + 1, by omega, ?_⟩
          simp [g0, g9, g10, g3, hw, hs]
      · have e : l.take k = l := List.take_of_length_le (by omega)
        rw [e] at g3
        obtain rfl : k = l.length := by omega
        repeat' first | (refine hK _ ?_; clear hK) | (refine hK _ _ ?_; clear hK) | (clear hK; refine hK _ ?_; clear hK) | (clear hK; clear hK; refine hK _ ?_; clear hK) | (clear hK; clear hK; clear hK; refine hK _ ?_; clear hK) | (clear hK; clear hK; clear hK; clear hK; refine hK _ ?_; clear hK) | (refine wSeq fun K hK => ?_) | (refine wReg ?_; simp only [List.map_cons, List.map_nil, strip]) | (refine wDrwQ rfl (by kernel_rfl) ?_; simp only [List.map_cons, List.map_nil, strip]) | (refine wDrwI ?_; simp only [List.map_cons, List.map_nil, strip]) | (refine wDrw (by kernel_rfl) ?_; simp only [List.map_cons, List.map_nil, strip]) | (refine wIs fun K hK => ?_; simp [g0, g9, g10, g3]) | (refine wIn ?_; refine And.intro (by kernel_rfl) ?_; try simp only [thenA_n]) | (refine wOs fun K hK => ?_; simp [g0, g9, g10, g3]) | (refine wQs fun K hK => ?_; simp [g0, g9, g10, g3]) | (refine CallK_plain ?_; simp [g0, g9, g10, g3]) | (refine CallQ_plain ?_; simp [g0, g9, g10, g3]) | (refine wRet ?_; try simp) | (refine wCond ?_; simp [g0, g9, g10, g3]) | (refine wBlock ?_) | (refine wScope ?_) | (refine wLabel ?_; try simp only [thenA_n]) | (refine wExit ?_; try simp) | (refine wSkip ?_; try simp) | (refine wOn ?_; try simp only [thenA_n]) | (refine wQn ?_; try simp only [thenA_n])
        all_goals apply hr
        all_goals simp [Tryd.f17, g3]
  · rw [if_neg h0]
    generalize chk l = e at c h0
    refine wBody Tryd.tab Tryd.mixed Tryd.func17 rfl rfl Tryd.ntmps17 (by simp) (by simp) fun Q hr hn => ?_
    repeat' first | (refine hK _ ?_; clear hK) | (refine hK _ _ ?_; clear hK) | (clear hK; refine hK _ ?_; clear hK) | (clear hK; clear hK; refine hK _ ?_; clear hK) | (clear hK; clear hK; clear hK; refine hK _ ?_; clear hK) | (clear hK; clear hK; clear hK; clear hK; refine hK _ ?_; clear hK) | (refine wSeq fun K hK => ?_) | (refine wReg ?_; simp only [List.map_cons, List.map_nil, strip]) | (refine wDrwQ rfl (by kernel_rfl) ?_; simp only [List.map_cons, List.map_nil, strip]) | (refine wDrwI ?_; simp only [List.map_cons, List.map_nil, strip]) | (refine wDrw (by kernel_rfl) ?_; simp only [List.map_cons, List.map_nil, strip]) | (refine wIs fun K hK => ?_; simp [h0]) | (refine wIn ?_; refine And.intro (by kernel_rfl) ?_; try simp only [thenA_n]) | (refine wOs fun K hK => ?_; simp [h0]) | (refine wQs fun K hK => ?_; simp [h0]) | (refine CallK_plain ?_; simp [h0]) | (refine CallQ_plain ?_; simp [h0]) | (refine wRet ?_; try simp) | (refine wCond ?_; simp [h0]) | (refine wBlock ?_) | (refine wScope ?_) | (refine wLabel ?_; try simp only [thenA_n]) | (refine wExit ?_; try simp) | (refine wSkip ?_; try simp) | (refine wOn ?_; try simp only [thenA_n]) | (refine wQn ?_; try simp only [thenA_n]) | (refine CallE.pure (c) rfl ?_) | (refine CallE.lent (c) rfl ?_) | (refine CallF.pure (c) rfl ?_) | (refine CallF.lent (c) rfl ?_) | (refine CallE.own (c) ?_)
    all_goals apply hr
    all_goals simp [Tryd.f17]
def lng (l : List UInt8) : Bool := decide (3000 < l.length)
theorem long_con (ls : List (List UInt8)) (hls : ls.length ≤ 3) : ACon Tryd.prog 8 [.p (.sl 1 (ls.map fun l => [SB l]))] (.p (B (ls.any lng))) := by
  refine wBody Tryd.tab Tryd.mixed Tryd.func8 rfl rfl Tryd.ntmps8 (by simp) (by simp) fun Q hr hn => ?_
  repeat' first | (refine hK _ ?_; clear hK) | (refine hK _ _ ?_; clear hK) | (clear hK; refine hK _ ?_; clear hK) | (clear hK; clear hK; refine hK _ ?_; clear hK) | (clear hK; clear hK; clear hK; refine hK _ ?_; clear hK) | (clear hK; clear hK; clear hK; clear hK; refine hK _ ?_; clear hK) | (refine wSeq fun K hK => ?_) | (refine wReg ?_; simp only [List.map_cons, List.map_nil, strip]) | (refine wDrwQ rfl (by kernel_rfl) ?_; simp only [List.map_cons, List.map_nil, strip]) | (refine wDrwI ?_; simp only [List.map_cons, List.map_nil, strip]) | (refine wDrw (by kernel_rfl) ?_; simp only [List.map_cons, List.map_nil, strip]) | (refine wIs fun K hK => ?_; simp) | (refine wIn ?_; refine And.intro (by kernel_rfl) ?_; try simp only [thenA_n]) | (refine wOs fun K hK => ?_; simp) | (refine wQs fun K hK => ?_; simp) | (refine CallK_plain ?_; simp) | (refine CallQ_plain ?_; simp) | (refine wRet ?_; try simp) | (refine wCond ?_; simp) | (refine wBlock ?_) | (refine wScope ?_) | (refine wLabel ?_; try simp only [thenA_n]) | (refine wExit ?_; try simp) | (refine wSkip ?_; try simp) | (refine wOn ?_; try simp only [thenA_n]) | (refine wQn ?_; try simp only [thenA_n])
  refine wLoop (fun N st => ∃ k, k + N = ls.length ∧ (ls.take k).any lng = false ∧ st.s 5 = .p (.sl 1 (ls.map fun l => [SB l])) ∧ st.s 6 = .p (I ls.length) ∧ st.s 7 = .p (I k)) ls.length ⟨0, by simp⟩ fun K N st hL ⟨k, hk, ha, g5, g6, g7⟩ => ?_
  by_cases hlt : k < ls.length
  · have hw := wrapS k _ hlt (by omega)
    have hs : (ls.take (k + 1)).any lng = lng ls[k] := by
      rw [List.take_succ_eq_append_getElem hlt, List.any_append, ha]; simp
    by_cases d : 3000 < ls[k].length
    · have d' : (3000 : Int) < ls[k].length := by omega
      have hT : ls.any lng = true := by
        rw [List.any_eq_true]
        exact ⟨ls[k], List.getElem_mem hlt, by simp [lng, d]⟩
      rw [hT] at hr
      repeat' first | (refine hK _ ?_; clear hK) | (refine hK _ _ ?_; clear hK) | (clear hK; refine hK _ ?_; clear hK) | (clear hK; clear hK; refine hK _ ?_; clear hK) | (clear hK; clear hK; clear hK; refine hK _ ?_; clear hK) | (clear hK; clear hK; clear hK; clear hK; refine hK _ ?_; clear hK) | (refine wSeq fun K hK => ?_) | (refine wReg ?_; simp only [List.map_cons, List.map_nil, strip]) | (refine wDrwQ rfl (by kernel_rfl) ?_; simp only [List.map_cons, List.map_nil, strip]) | (refine wDrwI ?_; simp only [List.map_cons, List.map_nil, strip]) | (refine wDrw (by kernel_rfl) ?_; simp only [List.map_cons, List.map_nil, strip]) | (refine wIs fun K hK => ?_; simp [g5, g6, g7, hlt, hw, d, d']) | (refine wIn ?_; refine And.intro (by kernel_rfl) ?_; try simp only [thenA_n]) | (refine wOs fun K hK => ?_; simp [g5, g6, g7, hlt, hw, d, d']) | (refine wQs fun K hK => ?_; simp [g5, g6, g7, hlt, hw, d, d']) | (refine CallK_plain ?_; simp [g5, g6, g7, hlt, hw, d, d']) | (refine CallQ_plain ?_; simp [g5, g6, g7, hlt, hw, d, d']) | (refine wRet ?_; try simp) | (refine wCond ?_; simp [g5, g6, g7, hlt, hw, d, d']) | (refine wBlock ?_) | (refine wScope ?_) | (refine wLabel ?_; try simp only [thenA_n]) | (refine wExit ?_; try simp) | (refine wSkip ?_; try simp) | (refine wOn ?_; try simp only [thenA_n]) | (refine wQn ?_; try simp only [thenA_n])
      all_goals apply hr
      all_goals simp [Tryd.f8]
    · have d' : ¬ (3000 : Int) < ls[k].length := by omega
      have hF : lng ls[k] = false := by simp [lng, d] <;> omega
      rw [hF] at hs
      repeat' first | (refine hK _ ?_; clear hK) | (refine hK _ _ ?_; clear hK) | (clear hK; refine hK _ ?_; clear hK) | (clear hK; clear hK; refine hK _ ?_; clear hK) | (clear hK; clear hK; clear hK; refine hK _ ?_; clear hK) | (clear hK; clear hK; clear hK; clear hK; refine hK _ ?_; clear hK) | (refine wSeq fun K hK => ?_) | (refine wReg ?_; simp only [List.map_cons, List.map_nil, strip]) | (refine wDrwQ rfl (by kernel_rfl) ?_; simp only [List.map_cons, List.map_nil, strip]) | (refine wDrwI ?_; simp only [List.map_cons, List.map_nil, strip]) | (refine wDrw (by kernel_rfl) ?_; simp only [List.map_cons, List.map_nil, strip]) | (refine wIs fun K hK => ?_; simp [g5, g6, g7, hlt, hw, d, d']) | (refine wIn ?_; refine And.intro (by kernel_rfl) ?_; try simp only [thenA_n]) | (refine wOs fun K hK => ?_; simp [g5, g6, g7, hlt, hw, d, d']) | (refine wQs fun K hK => ?_; simp [g5, g6, g7, hlt, hw, d, d']) | (refine CallK_plain ?_; simp [g5, g6, g7, hlt, hw, d, d']) | (refine CallQ_plain ?_; simp [g5, g6, g7, hlt, hw, d, d']) | (refine wRet ?_; try simp) | (refine wCond ?_; simp [g5, g6, g7, hlt, hw, d, d']) | (refine wBlock ?_) | (refine wScope ?_) | (refine wLabel ?_; try simp only [thenA_n]) | (refine wExit ?_; try simp) | (refine wSkip ?_; try simp) | (refine wOn ?_; try simp only [thenA_n]) | (refine wQn ?_; try simp only [thenA_n])
      refine hL _ (N - 1) (by omega) ⟨k + 1, by omega, hs, ?_⟩
      simp [g5, g6, g7, hw]
  · have e : ls.take k = ls := List.take_of_length_le (by omega)
    rw [e] at ha
    rw [ha] at hr
    obtain rfl : k = ls.length := by omega
    repeat' first | (refine hK _ ?_; clear hK) | (refine hK _ _ ?_; clear hK) | (clear hK; refine hK _ ?_; clear hK) | (clear hK; clear hK; refine hK _ ?_; clear hK) | (clear hK; clear hK; clear hK; refine hK _ ?_; clear hK) | (clear hK; clear hK; clear hK; clear hK; refine hK _ ?_; clear hK) | (refine wSeq fun K hK => ?_) | (refine wReg ?_; simp only [List.map_cons, List.map_nil, strip]) | (refine wDrwQ rfl (by kernel_rfl) ?_; simp only [List.map_cons, List.map_nil, strip]) | (refine wDrwI ?_; simp only [List.map_cons, List.map_nil, strip]) | (refine wDrw (by kernel_rfl) ?_; simp only [List.map_cons, List.map_nil, strip]) | (refine wIs fun K hK => ?_; simp [g5, g6, g7]) | (refine wIn ?_; refine And.intro (by kernel_rfl) ?_; try simp only [thenA_n]) | (refine wOs fun K hK => ?_; simp [g5, g6, g7]) | (refine wQs fun K hK => ?_; simp [g5, g6, g7]) | (refine CallK_plain ?_; simp [g5, g6, g7]) | (refine CallQ_plain ?_; simp [g5, g6, g7]) | (refine wRet ?_; try simp) | (refine wCond ?_; simp [g5, g6, g7]) | (refine wBlock ?_) | (refine wScope ?_) | (refine wLabel ?_; try simp only [thenA_n]) | (refine wExit ?_; try simp) | (refine wSkip ?_; try simp) | (refine wOn ?_; try simp only [thenA_n]) | (refine wQn ?_; try simp only [thenA_n])
    all_goals apply hr
    all_goals simp [Tryd.f8]
set_option maxHeartbeats 2000000 in
theorem pathChecks_con (l : List UInt8) (hl : l.length ≤ 9223372036854775807) : ACon Tryd.prog 3 [.p (SB l)] (.p (B true)) := by
  have c := long_con [l] (by simp)
  simp only [List.map_cons, List.map_nil, List.any_cons, List.any_nil, Bool.or_false] at c
  have c1 := parent_con l hl
  have c2 := parent03_con l hl
  have c3 := check_con l hl
  have c4 := check03_con l hl
  have c5 := name_con l hl
  have c6 := name03_con l hl
  have c7 := depth_con l hl
  have c8 := depth03_con l hl
  have hp : ∃ (p : List UInt8) (b : Bool), parV l = .tup [.p (SB p), .p (B b)] := by
    unfold parV; split <;> exact ⟨_, _, rfl⟩
  obtain ⟨p, b, hp⟩ := hp
  rw [hp] at c1 c2
  generalize chk l = e at c3 c4
  generalize nam l = n at c5 c6
  generalize dep l = d at c7 c8
  cases h : lng l
  · rw [h] at c
    refine wBody Tryd.tab Tryd.mixed Tryd.func3 rfl rfl Tryd.ntmps3 (by simp) (by simp) fun Q hr hn => ?_
    repeat' first | (refine hK _ ?_; clear hK) | (refine hK _ _ ?_; clear hK) | (clear hK; refine hK _ ?_; clear hK) | (clear hK; clear hK; refine hK _ ?_; clear hK) | (clear hK; clear hK; clear hK; refine hK _ ?_; clear hK) | (clear hK; clear hK; clear hK; clear hK; refine hK _ ?_; clear hK) | (refine wSeq fun K hK => ?_) | (refine wReg ?_; simp only [List.map_cons, List.map_nil, strip]) | (refine wDrwQ rfl (by kernel_rfl) ?_; simp only [List.map_cons, List.map_nil, strip]) | (refine wDrwI ?_; simp only [List.map_cons, List.map_nil, strip]) | (refine wDrw (by kernel_rfl) ?_; simp only [List.map_cons, List.map_nil, strip]) | (refine wIs fun K hK => ?_; simp) | (refine wIn ?_; refine And.intro (by kernel_rfl) ?_; try simp only [thenA_n]) | (refine wOs fun K hK => ?_; simp) | (refine wQs fun K hK => ?_; simp) | (refine CallK_plain ?_; simp) | (refine CallQ_plain ?_; simp) | (refine wRet ?_; try simp) | (refine wCond ?_; simp) | (refine wBlock ?_) | (refine wScope ?_) | (refine wLabel ?_; try simp only [thenA_n]) | (refine wExit ?_; try simp) | (refine wSkip ?_; try simp) | (refine wOn ?_; try simp only [thenA_n]) | (refine wQn ?_; try simp only [thenA_n]) | (refine CallE.pure (c) rfl ?_) | (refine CallE.lent (c) rfl ?_) | (refine CallF.pure (c) rfl ?_) | (refine CallF.lent (c) rfl ?_) | (refine CallE.own (c) ?_) | (refine CallE.pure (c1) rfl ?_) | (refine CallE.lent (c1) rfl ?_) | (refine CallF.pure (c1) rfl ?_) | (refine CallF.lent (c1) rfl ?_) | (refine CallE.own (c1) ?_) | (refine CallE.pure (c2) rfl ?_) | (refine CallE.lent (c2) rfl ?_) | (refine CallF.pure (c2) rfl ?_) | (refine CallF.lent (c2) rfl ?_) | (refine CallE.own (c2) ?_) | (refine CallE.pure (c3) rfl ?_) | (refine CallE.lent (c3) rfl ?_) | (refine CallF.pure (c3) rfl ?_) | (refine CallF.lent (c3) rfl ?_) | (refine CallE.own (c3) ?_) | (refine CallE.pure (c4) rfl ?_) | (refine CallE.lent (c4) rfl ?_) | (refine CallF.pure (c4) rfl ?_) | (refine CallF.lent (c4) rfl ?_) | (refine CallE.own (c4) ?_) | (refine CallE.pure (c5) rfl ?_) | (refine CallE.lent (c5) rfl ?_) | (refine CallF.pure (c5) rfl ?_) | (refine CallF.lent (c5) rfl ?_) | (refine CallE.own (c5) ?_) | (refine CallE.pure (c6) rfl ?_) | (refine CallE.lent (c6) rfl ?_) | (refine CallF.pure (c6) rfl ?_) | (refine CallF.lent (c6) rfl ?_) | (refine CallE.own (c6) ?_) | (refine CallE.pure (c7) rfl ?_) | (refine CallE.lent (c7) rfl ?_) | (refine CallF.pure (c7) rfl ?_) | (refine CallF.lent (c7) rfl ?_) | (refine CallE.own (c7) ?_) | (refine CallE.pure (c8) rfl ?_) | (refine CallE.lent (c8) rfl ?_) | (refine CallF.pure (c8) rfl ?_) | (refine CallF.lent (c8) rfl ?_) | (refine CallE.own (c8) ?_) | (refine CallE.pure (awake03) rfl ?_) | (refine CallE.lent (awake03) rfl ?_) | (refine CallF.pure (awake03) rfl ?_) | (refine CallF.lent (awake03) rfl ?_) | (refine CallE.own (awake03) ?_)
    all_goals apply hr
    all_goals simp [Tryd.f3]
  · rw [h] at c
    refine wBody Tryd.tab Tryd.mixed Tryd.func3 rfl rfl Tryd.ntmps3 (by simp) (by simp) fun Q hr hn => ?_
    repeat' first | (refine hK _ ?_; clear hK) | (refine hK _ _ ?_; clear hK) | (clear hK; refine hK _ ?_; clear hK) | (clear hK; clear hK; refine hK _ ?_; clear hK) | (clear hK; clear hK; clear hK; refine hK _ ?_; clear hK) | (clear hK; clear hK; clear hK; clear hK; refine hK _ ?_; clear hK) | (refine wSeq fun K hK => ?_) | (refine wReg ?_; simp only [List.map_cons, List.map_nil, strip]) | (refine wDrwQ rfl (by kernel_rfl) ?_; simp only [List.map_cons, List.map_nil, strip]) | (refine wDrwI ?_; simp only [List.map_cons, List.map_nil, strip]) | (refine wDrw (by kernel_rfl) ?_; simp only [List.map_cons, List.map_nil, strip]) | (refine wIs fun K hK => ?_; simp) | (refine wIn ?_; refine And.intro (by kernel_rfl) ?_; try simp only [thenA_n]) | (refine wOs fun K hK => ?_; simp) | (refine wQs fun K hK => ?_; simp) | (refine CallK_plain ?_; simp) | (refine CallQ_plain ?_; simp) | (refine wRet ?_; try simp) | (refine wCond ?_; simp) | (refine wBlock ?_) | (refine wScope ?_) | (refine wLabel ?_; try simp only [thenA_n]) | (refine wExit ?_; try simp) | (refine wSkip ?_; try simp) | (refine wOn ?_; try simp only [thenA_n]) | (refine wQn ?_; try simp only [thenA_n]) | (refine CallE.pure (c) rfl ?_) | (refine CallE.lent (c) rfl ?_) | (refine CallF.pure (c) rfl ?_) | (refine CallF.lent (c) rfl ?_) | (refine CallE.own (c) ?_) | (refine CallE.pure (awake03) rfl ?_) | (refine CallE.lent (awake03) rfl ?_) | (refine CallF.pure (awake03) rfl ?_) | (refine CallF.lent (awake03) rfl ?_) | (refine CallE.own (awake03) ?_)
    all_goals apply hr
    all_goals simp [Tryd.f3]
theorem str_open {p : PV} (hp : ShT Tryd.T 9 p) : ∃ l : List UInt8, l.length ≤ 9223372036854775807 ∧ p = SB l := by
  obtain ⟨s, rfl, hs⟩ := (hp.one (f := .str) rfl rfl rfl).strI
  refine ⟨s.data.toList, ?_, ?_⟩
  · have h1 : s.data.toList.length = s.size := Array.length_toList
    have h2 : maxLen = 9223372036854775807 := rfl
    omega
  · show _ = PV.v (.string ⟨s.data.toList.toArray⟩); rw [Array.toArray_toList]
end Go.Proofs.YtpbmicfbghnmeaaDoor
