/- When changes are the same; the law DeltaDiffs. -/
import Derived.Test.YtljeijinfhboaaaDB
namespace Go.Proofs.Ytljeijinfhboaaa
set_option linter.unusedSimpArgs false
set_option linter.unusedVariables false
open Go Go.Av
attribute [local simp] Try.T1 Try.T2 Try.T3 Try.T4 Try.T5 Try.T9 Try.T12 Try.T21 Try.T23 Try.T24 Try.T26 Try.T27 Try.T29 Try.T30 Try.T31 Try.T32 Try.T33 Try.T34 Try.T35 Try.T36 Try.T38 Try.T39 Try.T41 Try.T43 Try.T44 Try.T45 Try.T46 Try.T47 Try.T48 Try.T49 Try.T50 Try.T51 Try.T52 Try.T53 Try.T54 Try.T55 Try.T56 Try.T57 Try.T58 Try.T59 Try.T60 Try.T61 Try.T62 Try.T63 Try.T64 Try.T66 Try.T67 Try.T68 Try.T69 Try.T70 Try.T71 Try.T72 Try.T73 Try.T75 Try.T77 Try.T78 Try.T79 Try.T81 Try.T83 Try.T84 Try.T86 Try.T88 Try.T89 Try.T91 Try.T93 Try.T94 Try.T95 Try.T96 Try.T97 Try.T98 Try.T99 Try.T100 Try.T102 Try.T104 Try.T105 Try.T106 Try.T107 Try.T108 Try.T109 Try.T110 Try.T111 Try.T112 Try.T113 Try.T115 Try.T116 Try.T117 Try.T118 Try.T119 Try.T120 Try.T121 Try.T122 Try.T123 Try.T124 Try.T126 Try.T127 Try.T128 Try.T134 Try.T135 Try.T138
attribute [local irreducible] Go.Av.CallK Go.Av.CallE Go.Av.CallQ Go.Av.CallF Go.Av.CallR Go.Av.CallH Go.Av.Con

theorem intsE_con (a b : List Int) : ACon Try.prog 32 [.p (.sl 1 (ints a)), .p (.sl 1 (ints b))] (.p (B (decide (a = b)))) := by
  refine ACon.len ⟨Try.f32, Try.func32, rfl, rfl⟩ 0 _ _ rfl fun hlen => ?_
  simp only [ints_len] at hlen
  by_cases hl : a.length = b.length
  · refine wBody Try.tab Try.mixed Try.func32 rfl rfl Try.ntmps32 (by simp) (by simp) fun Q hr hn => ?_
    repeat' first | (refine hK _ ?_; clear hK) | (refine hK _ _ ?_; clear hK) | (clear hK; refine hK _ ?_; clear hK) | (clear hK; clear hK; refine hK _ ?_; clear hK) | (clear hK; clear hK; clear hK; refine hK _ ?_; clear hK) | (clear hK; clear hK; clear hK; clear hK; refine hK _ ?_; clear hK) | (refine wSeq fun K hK => ?_) | ((first | refine wReg ?_ | refine wDrwQ rfl (by kernel_rfl) ?_ | refine wDrwI ?_ | refine wDrw (by kernel_rfl) ?_); simp only [List.map_cons, List.map_nil, strip]) | ((first | refine wIs fun K hK => ?_ | refine wOs fun K hK => ?_ | refine wQs fun K hK => ?_ | refine CallK_plain ?_ | refine CallQ_plain ?_ | refine CallR_plain ?_ | refine wCond ?_); simp [hl]) | (refine wIn ?_; refine And.intro (by kernel_rfl) ?_; try simp only [thenA_n]) | (first | refine wBlock ?_ | refine wScope ?_) | ((first | refine wRet ?_ | refine wExit ?_ | refine wSkip ?_); try simp) | ((first | refine wLabel ?_ | refine wOn ?_ | refine wQn ?_); try simp only [thenA_n])
    refine wLoop (fun N st => ∃ k, k + N = a.length ∧ st.s 0 = .p (.sl 1 (ints a)) ∧ st.s 1 = .p (.sl 1 (ints b)) ∧ st.s 12 = .p (I a.length) ∧ st.s 13 = .p (I k) ∧ (a = b ↔ a.drop k = b.drop k)) a.length ⟨0, by simp [hl]⟩ fun K N st hL ⟨k, hk, h0, h1, h12, h13, hi⟩ => ?_
    by_cases hlt : k < a.length
    · have hw := wrapS k _ hlt hlen
      have he := ints_get hlt
      have he' := ints_get (l := b) (k := k) (by omega)
      rw [List.drop_eq_getElem_cons hlt, List.drop_eq_getElem_cons (l := b) (by omega), List.cons.injEq] at hi
      repeat' first | (refine hK _ ?_; clear hK) | (refine hK _ _ ?_; clear hK) | (clear hK; refine hK _ ?_; clear hK) | (clear hK; clear hK; refine hK _ ?_; clear hK) | (clear hK; clear hK; clear hK; refine hK _ ?_; clear hK) | (clear hK; clear hK; clear hK; clear hK; refine hK _ ?_; clear hK) | (refine wSeq fun K hK => ?_) | ((first | refine wReg ?_ | refine wDrwQ rfl (by kernel_rfl) ?_ | refine wDrwI ?_ | refine wDrw (by kernel_rfl) ?_); simp only [List.map_cons, List.map_nil, strip]) | ((first | refine wIs fun K hK => ?_ | refine wOs fun K hK => ?_ | refine wQs fun K hK => ?_ | refine CallK_plain ?_ | refine CallQ_plain ?_ | refine CallR_plain ?_ | refine wCond ?_); simp [h0, h1, h12, h13, hlt, hw, he, he']) | (refine wIn ?_; refine And.intro (by kernel_rfl) ?_; try simp only [thenA_n]) | (first | refine wBlock ?_ | refine wScope ?_) | ((first | refine wRet ?_ | refine wExit ?_ | refine wSkip ?_); try simp) | ((first | refine wLabel ?_ | refine wOn ?_ | refine wQn ?_); try simp only [thenA_n]) | (refine And.intro (fun hc => ?_) (fun hc => ?_))
      · apply hr
        simp [Try.f32]
        intro h
        exact hc (hi.1 h).1
      · refine hL _ (N - 1) (by omega) ⟨k + 1, by omega, ?_⟩
        simp [h0, h1, h12, hw]
        rw [hi]; simp [hc]
    · have hd : a.drop k = [] := List.drop_of_length_le (by omega)
      have hd' : b.drop k = [] := List.drop_of_length_le (by omega)
      rw [hd, hd'] at hi
      repeat' first | (refine hK _ ?_; clear hK) | (refine hK _ _ ?_; clear hK) | (clear hK; refine hK _ ?_; clear hK) | (clear hK; clear hK; refine hK _ ?_; clear hK) | (clear hK; clear hK; clear hK; refine hK _ ?_; clear hK) | (clear hK; clear hK; clear hK; clear hK; refine hK _ ?_; clear hK) | (refine wSeq fun K hK => ?_) | ((first | refine wReg ?_ | refine wDrwQ rfl (by kernel_rfl) ?_ | refine wDrwI ?_ | refine wDrw (by kernel_rfl) ?_); simp only [List.map_cons, List.map_nil, strip]) | ((first | refine wIs fun K hK => ?_ | refine wOs fun K hK => ?_ | refine wQs fun K hK => ?_ | refine CallK_plain ?_ | refine CallQ_plain ?_ | refine CallR_plain ?_ | refine wCond ?_); simp [h0, h1, h12, h13, hlt]) | (refine wIn ?_; refine And.intro (by kernel_rfl) ?_; try simp only [thenA_n]) | (first | refine wBlock ?_ | refine wScope ?_) | ((first | refine wRet ?_ | refine wExit ?_ | refine wSkip ?_); try simp) | ((first | refine wLabel ?_ | refine wOn ?_ | refine wQn ?_); try simp only [thenA_n])
      apply hr
      simp [Try.f32]
      simpa using hi
  · have hne : ¬ a = b := fun h => hl (by rw [h])
    have hl' : ¬ ((a.length : Int) = b.length) := by omega
    refine wBody Try.tab Try.mixed Try.func32 rfl rfl Try.ntmps32 (by simp) (by simp) fun Q hr hn => ?_
    repeat' first | (refine hK _ ?_; clear hK) | (refine hK _ _ ?_; clear hK) | (clear hK; refine hK _ ?_; clear hK) | (clear hK; clear hK; refine hK _ ?_; clear hK) | (clear hK; clear hK; clear hK; refine hK _ ?_; clear hK) | (clear hK; clear hK; clear hK; clear hK; refine hK _ ?_; clear hK) | (refine wSeq fun K hK => ?_) | ((first | refine wReg ?_ | refine wDrwQ rfl (by kernel_rfl) ?_ | refine wDrwI ?_ | refine wDrw (by kernel_rfl) ?_); simp only [List.map_cons, List.map_nil, strip]) | ((first | refine wIs fun K hK => ?_ | refine wOs fun K hK => ?_ | refine wQs fun K hK => ?_ | refine CallK_plain ?_ | refine CallQ_plain ?_ | refine CallR_plain ?_ | refine wCond ?_); simp [hl, hl']) | (refine wIn ?_; refine And.intro (by kernel_rfl) ?_; try simp only [thenA_n]) | (first | refine wBlock ?_ | refine wScope ?_) | ((first | refine wRet ?_ | refine wExit ?_ | refine wSkip ?_); try simp) | ((first | refine wLabel ?_ | refine wOn ?_ | refine wQn ?_); try simp only [thenA_n])
    all_goals apply hr
    all_goals simp [Try.f32, hne]
theorem mbsE_con (a b : List Mb) : ACon Try.prog 31 [.p (.sl 4 (mbs a)), .p (.sl 4 (mbs b))] (.p (B (decide (a = b)))) := by
  refine ACon.len ⟨Try.f31, Try.func31, rfl, rfl⟩ 0 _ _ rfl fun hlen => ?_
  simp only [mbs_len] at hlen
  by_cases hl : a.length = b.length
  · refine wBody Try.tab Try.mixed Try.func31 rfl rfl Try.ntmps31 (by simp) (by simp) fun Q hr hn => ?_
    repeat' first | (refine hK _ ?_; clear hK) | (refine hK _ _ ?_; clear hK) | (clear hK; refine hK _ ?_; clear hK) | (clear hK; clear hK; refine hK _ ?_; clear hK) | (clear hK; clear hK; clear hK; refine hK _ ?_; clear hK) | (clear hK; clear hK; clear hK; clear hK; refine hK _ ?_; clear hK) | (refine wSeq fun K hK => ?_) | ((first | refine wReg ?_ | refine wDrwQ rfl (by kernel_rfl) ?_ | refine wDrwI ?_ | refine wDrw (by kernel_rfl) ?_); simp only [List.map_cons, List.map_nil, strip]) | ((first | refine wIs fun K hK => ?_ | refine wOs fun K hK => ?_ | refine wQs fun K hK => ?_ | refine CallK_plain ?_ | refine CallQ_plain ?_ | refine CallR_plain ?_ | refine wCond ?_); simp [hl]) | (refine wIn ?_; refine And.intro (by kernel_rfl) ?_; try simp only [thenA_n]) | (first | refine wBlock ?_ | refine wScope ?_) | ((first | refine wRet ?_ | refine wExit ?_ | refine wSkip ?_); try simp) | ((first | refine wLabel ?_ | refine wOn ?_ | refine wQn ?_); try simp only [thenA_n])
    refine wLoop (fun N st => ∃ k, k + N = a.length ∧ st.s 0 = .p (.sl 4 (mbs a)) ∧ st.s 1 = .p (.sl 4 (mbs b)) ∧ st.s 12 = .p (I a.length) ∧ st.s 13 = .p (I k) ∧ (a = b ↔ a.drop k = b.drop k)) a.length ⟨0, by simp [hl]⟩ fun K N st hL ⟨k, hk, h0, h1, h12, h13, hi⟩ => ?_
    by_cases hlt : k < a.length
    · have hw := wrapS k _ hlt hlen
      have he := mbs_get hlt
      have he' := mbs_get (l := b) (k := k) (by omega)
      have hlt' : k < b.length := by omega
      rw [List.drop_eq_getElem_cons hlt, List.drop_eq_getElem_cons hlt', List.cons.injEq, Mb.ext4] at hi
      by_cases o : a[k].i = b[k].i ∧ a[k].r = b[k].r ∧ a[k].w = b[k].w ∧ a[k].g = b[k].g
      · rw [and_iff_right o] at hi
        obtain ⟨q1, q2, q3, q4⟩ := o
        repeat' first | (refine hK _ ?_; clear hK) | (refine hK _ _ ?_; clear hK) | (clear hK; refine hK _ ?_; clear hK) | (clear hK; clear hK; refine hK _ ?_; clear hK) | (clear hK; clear hK; clear hK; refine hK _ ?_; clear hK) | (clear hK; clear hK; clear hK; clear hK; refine hK _ ?_; clear hK) | (refine wSeq fun K hK => ?_) | ((first | refine wReg ?_ | refine wDrwQ rfl (by kernel_rfl) ?_ | refine wDrwI ?_ | refine wDrw (by kernel_rfl) ?_); simp only [List.map_cons, List.map_nil, strip]) | ((first | refine wIs fun K hK => ?_ | refine wOs fun K hK => ?_ | refine wQs fun K hK => ?_ | refine CallK_plain ?_ | refine CallQ_plain ?_ | refine CallR_plain ?_ | refine wCond ?_); simp [h0, h1, h12, h13, hlt, hlt', hw, he, he', q1, q2, q3, q4]) | (refine wIn ?_; refine And.intro (by kernel_rfl) ?_; try simp only [thenA_n]) | (first | refine wBlock ?_ | refine wScope ?_) | ((first | refine wRet ?_ | refine wExit ?_ | refine wSkip ?_); try simp) | ((first | refine wLabel ?_ | refine wOn ?_ | refine wQn ?_); try simp only [thenA_n])
        refine hL _ (N - 1) (by omega) ⟨k + 1, by omega, ?_⟩
        simp [h0, h1, h12, hw]
        exact hi
      · have hne : ¬ a = b := fun h => o (hi.1 h).1
        repeat' first | (refine hK _ ?_; clear hK) | (refine hK _ _ ?_; clear hK) | (clear hK; refine hK _ ?_; clear hK) | (clear hK; clear hK; refine hK _ ?_; clear hK) | (clear hK; clear hK; clear hK; refine hK _ ?_; clear hK) | (clear hK; clear hK; clear hK; clear hK; refine hK _ ?_; clear hK) | (refine wSeq fun K hK => ?_) | ((first | refine wReg ?_ | refine wDrwQ rfl (by kernel_rfl) ?_ | refine wDrwI ?_ | refine wDrw (by kernel_rfl) ?_); simp only [List.map_cons, List.map_nil, strip]) | ((first | refine wIs fun K hK => ?_ | refine wOs fun K hK => ?_ | refine wQs fun K hK => ?_ | refine CallK_plain ?_ | refine CallQ_plain ?_ | refine CallR_plain ?_ | refine wCond ?_); simp [h0, h1, h12, h13, hlt, hlt', hw, he, he', o]) | (refine wIn ?_; refine And.intro (by kernel_rfl) ?_; try simp only [thenA_n]) | (first | refine wBlock ?_ | refine wScope ?_) | ((first | refine wRet ?_ | refine wExit ?_ | refine wSkip ?_); try simp) | ((first | refine wLabel ?_ | refine wOn ?_ | refine wQn ?_); try simp only [thenA_n]) | (intro _)
        all_goals first | exact o | skip
        all_goals apply hr
        all_goals simp [Try.f31, hne]
    · have hd : a.drop k = [] := List.drop_of_length_le (by omega)
      have hd' : b.drop k = [] := List.drop_of_length_le (by omega)
      rw [hd, hd'] at hi
      repeat' first | (refine hK _ ?_; clear hK) | (refine hK _ _ ?_; clear hK) | (clear hK; refine hK _ ?_; clear hK) | (clear hK; clear hK; refine hK _ ?_; clear hK) | (clear hK; clear hK; clear hK; refine hK _ ?_; clear hK) | (clear hK; clear hK; clear hK; clear hK; refine hK _ ?_; clear hK) | (refine wSeq fun K hK => ?_) | ((first | refine wReg ?_ | refine wDrwQ rfl (by kernel_rfl) ?_ | refine wDrwI ?_ | refine wDrw (by kernel_rfl) ?_); simp only [List.map_cons, List.map_nil, strip]) | ((first | refine wIs fun K hK => ?_ | refine wOs fun K hK => ?_ | refine wQs fun K hK => ?_ | refine CallK_plain ?_ | refine CallQ_plain ?_ | refine CallR_plain ?_ | refine wCond ?_); simp [h0, h1, h12, h13, hlt]) | (refine wIn ?_; refine And.intro (by kernel_rfl) ?_; try simp only [thenA_n]) | (first | refine wBlock ?_ | refine wScope ?_) | ((first | refine wRet ?_ | refine wExit ?_ | refine wSkip ?_); try simp) | ((first | refine wLabel ?_ | refine wOn ?_ | refine wQn ?_); try simp only [thenA_n])
      apply hr
      simp [Try.f31]
      simpa using hi
  · have hne : ¬ a = b := fun h => hl (by rw [h])
    have hl' : ¬ ((a.length : Int) = b.length) := by omega
    refine wBody Try.tab Try.mixed Try.func31 rfl rfl Try.ntmps31 (by simp) (by simp) fun Q hr hn => ?_
    repeat' first | (refine hK _ ?_; clear hK) | (refine hK _ _ ?_; clear hK) | (clear hK; refine hK _ ?_; clear hK) | (clear hK; clear hK; refine hK _ ?_; clear hK) | (clear hK; clear hK; clear hK; refine hK _ ?_; clear hK) | (clear hK; clear hK; clear hK; clear hK; refine hK _ ?_; clear hK) | (refine wSeq fun K hK => ?_) | ((first | refine wReg ?_ | refine wDrwQ rfl (by kernel_rfl) ?_ | refine wDrwI ?_ | refine wDrw (by kernel_rfl) ?_); simp only [List.map_cons, List.map_nil, strip]) | ((first | refine wIs fun K hK => ?_ | refine wOs fun K hK => ?_ | refine wQs fun K hK => ?_ | refine CallK_plain ?_ | refine CallQ_plain ?_ | refine CallR_plain ?_ | refine wCond ?_); simp [hl, hl']) | (refine wIn ?_; refine And.intro (by kernel_rfl) ?_; try simp only [thenA_n]) | (first | refine wBlock ?_ | refine wScope ?_) | ((first | refine wRet ?_ | refine wExit ?_ | refine wSkip ?_); try simp) | ((first | refine wLabel ?_ | refine wOn ?_ | refine wQn ?_); try simp only [thenA_n])
    all_goals apply hr
    all_goals simp [Try.f31, hne]
instance : DecidableEq Dl := fun x y => decidable_of_iff (x.kind = y.kind ∧ x.put = y.put ∧ x.drop = y.drop) (by cases x; cases y; simp)
theorem sameD_con (a b : Dl) : ACon Try.prog 14 [.p (.agg a.cells), .p (.agg b.cells)] (.p (B (decide (a = b)))) := by
  obtain ⟨ak, ap, ad⟩ := a
  obtain ⟨bk, bp, bd⟩ := b
  simp only [Dl.cells]
  rw [show decide (Dl.mk ak ap ad = ⟨bk, bp, bd⟩) = decide (ak = bk ∧ ap = bp ∧ ad = bd) by simp]
  have c1 := mbsE_con ap bp
  have c2 := intsE_con ad bd
  by_cases o1 : ak = bk
  rotate_left
  · refine wBody Try.tab Try.mixed Try.func14 rfl rfl Try.ntmps14 (by simp) (by simp) fun Q hr hn => ?_
    repeat' first | (refine hK _ ?_; clear hK) | (refine hK _ _ ?_; clear hK) | (clear hK; refine hK _ ?_; clear hK) | (clear hK; clear hK; refine hK _ ?_; clear hK) | (clear hK; clear hK; clear hK; refine hK _ ?_; clear hK) | (clear hK; clear hK; clear hK; clear hK; refine hK _ ?_; clear hK) | (refine wSeq fun K hK => ?_) | ((first | refine wReg ?_ | refine wDrwQ rfl (by kernel_rfl) ?_ | refine wDrwI ?_ | refine wDrw (by kernel_rfl) ?_); simp only [List.map_cons, List.map_nil, strip]) | ((first | refine wIs fun K hK => ?_ | refine wOs fun K hK => ?_ | refine wQs fun K hK => ?_ | refine CallK_plain ?_ | refine CallQ_plain ?_ | refine CallR_plain ?_ | refine wCond ?_); simp [o1]) | (refine wIn ?_; refine And.intro (by kernel_rfl) ?_; try simp only [thenA_n]) | (first | refine wBlock ?_ | refine wScope ?_) | ((first | refine wRet ?_ | refine wExit ?_ | refine wSkip ?_); try simp) | ((first | refine wLabel ?_ | refine wOn ?_ | refine wQn ?_); try simp only [thenA_n])
    all_goals apply hr
    all_goals simp [Try.f14, o1]
  by_cases o2 : ap = bp
  rotate_left
  · rw [decide_eq_false o2] at c1
    refine wBody Try.tab Try.mixed Try.func14 rfl rfl Try.ntmps14 (by simp) (by simp) fun Q hr hn => ?_
    repeat' first | (refine hK _ ?_; clear hK) | (refine hK _ _ ?_; clear hK) | (clear hK; refine hK _ ?_; clear hK) | (clear hK; clear hK; refine hK _ ?_; clear hK) | (clear hK; clear hK; clear hK; refine hK _ ?_; clear hK) | (clear hK; clear hK; clear hK; clear hK; refine hK _ ?_; clear hK) | (refine wSeq fun K hK => ?_) | ((first | refine wReg ?_ | refine wDrwQ rfl (by kernel_rfl) ?_ | refine wDrwI ?_ | refine wDrw (by kernel_rfl) ?_); simp only [List.map_cons, List.map_nil, strip]) | ((first | refine wIs fun K hK => ?_ | refine wOs fun K hK => ?_ | refine wQs fun K hK => ?_ | refine CallK_plain ?_ | refine CallQ_plain ?_ | refine CallR_plain ?_ | refine wCond ?_); simp [o1]) | (refine wIn ?_; refine And.intro (by kernel_rfl) ?_; try simp only [thenA_n]) | (first | refine wBlock ?_ | refine wScope ?_) | ((first | refine wRet ?_ | refine wExit ?_ | refine wSkip ?_); try simp) | ((first | refine wLabel ?_ | refine wOn ?_ | refine wQn ?_); try simp only [thenA_n]) | (refine CallE.pure (c1) rfl ?_) | (refine CallE.lent (c1) rfl ?_) | (refine CallF.pure (c1) rfl ?_) | (refine CallF.lent (c1) rfl ?_) | (refine CallE.own (c1) ?_) | (refine CallH.pure (c1) rfl ?_) | (refine CallH.lent (c1) rfl ?_) | (refine CallH.own (c1) ?_)
    all_goals apply hr
    all_goals simp [Try.f14, o1, o2]
  rw [decide_eq_true o2] at c1
  refine wBody Try.tab Try.mixed Try.func14 rfl rfl Try.ntmps14 (by simp) (by simp) fun Q hr hn => ?_
  repeat' first | (refine hK _ ?_; clear hK) | (refine hK _ _ ?_; clear hK) | (clear hK; refine hK _ ?_; clear hK) | (clear hK; clear hK; refine hK _ ?_; clear hK) | (clear hK; clear hK; clear hK; refine hK _ ?_; clear hK) | (clear hK; clear hK; clear hK; clear hK; refine hK _ ?_; clear hK) | (refine wSeq fun K hK => ?_) | ((first | refine wReg ?_ | refine wDrwQ rfl (by kernel_rfl) ?_ | refine wDrwI ?_ | refine wDrw (by kernel_rfl) ?_); simp only [List.map_cons, List.map_nil, strip]) | ((first | refine wIs fun K hK => ?_ | refine wOs fun K hK => ?_ | refine wQs fun K hK => ?_ | refine CallK_plain ?_ | refine CallQ_plain ?_ | refine CallR_plain ?_ | refine wCond ?_); simp [o1]) | (refine wIn ?_; refine And.intro (by kernel_rfl) ?_; try simp only [thenA_n]) | (first | refine wBlock ?_ | refine wScope ?_) | ((first | refine wRet ?_ | refine wExit ?_ | refine wSkip ?_); try simp) | ((first | refine wLabel ?_ | refine wOn ?_ | refine wQn ?_); try simp only [thenA_n]) | (refine CallE.pure (c1) rfl ?_) | (refine CallE.lent (c1) rfl ?_) | (refine CallF.pure (c1) rfl ?_) | (refine CallF.lent (c1) rfl ?_) | (refine CallE.own (c1) ?_) | (refine CallH.pure (c1) rfl ?_) | (refine CallH.lent (c1) rfl ?_) | (refine CallH.own (c1) ?_) | (refine CallE.pure (c2) rfl ?_) | (refine CallE.lent (c2) rfl ?_) | (refine CallF.pure (c2) rfl ?_) | (refine CallF.lent (c2) rfl ?_) | (refine CallE.own (c2) ?_) | (refine CallH.pure (c2) rfl ?_) | (refine CallH.lent (c2) rfl ?_) | (refine CallH.own (c2) ?_)
  all_goals apply hr
  all_goals simp [Try.f14, o1, o2]
set_option maxHeartbeats 4000000 in
theorem sameD06_con (a b : Dl) : ACon Try.prog 13 [.p (.agg a.cells), .p (.agg b.cells)] (.p (B (decide (a = b)))) := by
  obtain ⟨ak, ap, ad⟩ := a
  obtain ⟨bk, bp, bd⟩ := b
  simp only [Dl.cells]
  rw [show decide (Dl.mk ak ap ad = ⟨bk, bp, bd⟩) = decide (ak = bk ∧ ap = bp ∧ ad = bd) by simp]
  refine ACon.lenA ⟨Try.f13, Try.func13, rfl, rfl⟩ 0 1 4 (mbs ap) _ rfl rfl fun hp => ?_
  refine ACon.lenA ⟨Try.f13, Try.func13, rfl, rfl⟩ 0 2 1 (ints ad) _ rfl rfl fun hd => ?_
  simp only [mbs_len, ints_len] at hp hd
  by_cases o1 : ak = bk
  rotate_left
  · refine wBody Try.tab Try.mixed Try.func13 rfl rfl Try.ntmps13 (by simp) (by simp) fun Q hr hn => ?_
    repeat' first | (refine hK _ ?_; clear hK) | (refine hK _ _ ?_; clear hK) | (clear hK; refine hK _ ?_; clear hK) | (clear hK; clear hK; refine hK _ ?_; clear hK) | (clear hK; clear hK; clear hK; refine hK _ ?_; clear hK) | (clear hK; clear hK; clear hK; clear hK; refine hK _ ?_; clear hK) | (refine wSeq fun K hK => ?_) | ((first | refine wReg ?_ | refine wDrwQ rfl (by kernel_rfl) ?_ | refine wDrwI ?_ | refine wDrw (by kernel_rfl) ?_); simp only [List.map_cons, List.map_nil, strip]) | ((first | refine wIs fun K hK => ?_ | refine wOs fun K hK => ?_ | refine wQs fun K hK => ?_ | refine CallK_plain ?_ | refine CallQ_plain ?_ | refine CallR_plain ?_ | refine wCond ?_); simp [o1]) | (refine wIn ?_; refine And.intro (by kernel_rfl) ?_; try simp only [thenA_n]) | (first | refine wBlock ?_ | refine wScope ?_) | ((first | refine wRet ?_ | refine wExit ?_ | refine wSkip ?_); try simp) | ((first | refine wLabel ?_ | refine wOn ?_ | refine wQn ?_); try simp only [thenA_n])
    all_goals apply hr
    all_goals simp [Try.f13, o1]
  by_cases o2 : ap.length = bp.length
  rotate_left
  · have hne : ¬ ap = bp := fun h => o2 (by rw [h])
    have o2' : ¬ (ap.length : Int) = bp.length := by omega
    refine wBody Try.tab Try.mixed Try.func13 rfl rfl Try.ntmps13 (by simp) (by simp) fun Q hr hn => ?_
    repeat' first | (refine hK _ ?_; clear hK) | (refine hK _ _ ?_; clear hK) | (clear hK; refine hK _ ?_; clear hK) | (clear hK; clear hK; refine hK _ ?_; clear hK) | (clear hK; clear hK; clear hK; refine hK _ ?_; clear hK) | (clear hK; clear hK; clear hK; clear hK; refine hK _ ?_; clear hK) | (refine wSeq fun K hK => ?_) | ((first | refine wReg ?_ | refine wDrwQ rfl (by kernel_rfl) ?_ | refine wDrwI ?_ | refine wDrw (by kernel_rfl) ?_); simp only [List.map_cons, List.map_nil, strip]) | ((first | refine wIs fun K hK => ?_ | refine wOs fun K hK => ?_ | refine wQs fun K hK => ?_ | refine CallK_plain ?_ | refine CallQ_plain ?_ | refine CallR_plain ?_ | refine wCond ?_); simp [o1, o2, o2']) | (refine wIn ?_; refine And.intro (by kernel_rfl) ?_; try simp only [thenA_n]) | (first | refine wBlock ?_ | refine wScope ?_) | ((first | refine wRet ?_ | refine wExit ?_ | refine wSkip ?_); try simp) | ((first | refine wLabel ?_ | refine wOn ?_ | refine wQn ?_); try simp only [thenA_n])
    all_goals apply hr
    all_goals simp [Try.f13, hne]
  by_cases o3 : ad.length = bd.length
  rotate_left
  · have hne : ¬ ad = bd := fun h => o3 (by rw [h])
    have o3' : ¬ (ad.length : Int) = bd.length := by omega
    refine wBody Try.tab Try.mixed Try.func13 rfl rfl Try.ntmps13 (by simp) (by simp) fun Q hr hn => ?_
    repeat' first | (refine hK _ ?_; clear hK) | (refine hK _ _ ?_; clear hK) | (clear hK; refine hK _ ?_; clear hK) | (clear hK; clear hK; refine hK _ ?_; clear hK) | (clear hK; clear hK; clear hK; refine hK _ ?_; clear hK) | (clear hK; clear hK; clear hK; clear hK; refine hK _ ?_; clear hK) | (refine wSeq fun K hK => ?_) | ((first | refine wReg ?_ | refine wDrwQ rfl (by kernel_rfl) ?_ | refine wDrwI ?_ | refine wDrw (by kernel_rfl) ?_); simp only [List.map_cons, List.map_nil, strip]) | ((first | refine wIs fun K hK => ?_ | refine wOs fun K hK => ?_ | refine wQs fun K hK => ?_ | refine CallK_plain ?_ | refine CallQ_plain ?_ | refine CallR_plain ?_ | refine wCond ?_); simp [o1, o2, o3, o3']) | (refine wIn ?_; refine And.intro (by kernel_rfl) ?_; try simp only [thenA_n]) | (first | refine wBlock ?_ | refine wScope ?_) | ((first | refine wRet ?_ | refine wExit ?_ | refine wSkip ?_); try simp) | ((first | refine wLabel ?_ | refine wOn ?_ | refine wQn ?_); try simp only [thenA_n])
    all_goals apply hr
    all_goals simp [Try.f13, hne]
  refine wBody Try.tab Try.mixed Try.func13 rfl rfl Try.ntmps13 (by simp) (by simp) fun Q hr hn => ?_
  repeat' first | (refine hK _ ?_; clear hK) | (refine hK _ _ ?_; clear hK) | (clear hK; refine hK _ ?_; clear hK) | (clear hK; clear hK; refine hK _ ?_; clear hK) | (clear hK; clear hK; clear hK; refine hK _ ?_; clear hK) | (clear hK; clear hK; clear hK; clear hK; refine hK _ ?_; clear hK) | (refine wSeq fun K hK => ?_) | ((first | refine wReg ?_ | refine wDrwQ rfl (by kernel_rfl) ?_ | refine wDrwI ?_ | refine wDrw (by kernel_rfl) ?_); simp only [List.map_cons, List.map_nil, strip]) | ((first | refine wIs fun K hK => ?_ | refine wOs fun K hK => ?_ | refine wQs fun K hK => ?_ | refine CallK_plain ?_ | refine CallQ_plain ?_ | refine CallR_plain ?_ | refine wCond ?_); simp [o1, o2, o3]) | (refine wIn ?_; refine And.intro (by kernel_rfl) ?_; try simp only [thenA_n]) | (first | refine wBlock ?_ | refine wScope ?_) | ((first | refine wRet ?_ | refine wExit ?_ | refine wSkip ?_); try simp) | ((first | refine wLabel ?_ | refine wOn ?_ | refine wQn ?_); try simp only [thenA_n])
  refine wLoop (fun N st => ∃ k, k + N = ap.length ∧ st.s 2 = .ptr 2 0 ∧ st.s 3 = .ptr 3 0 ∧ st.b 2 = some (.box 29 [.p (I ak), .p (.sl 4 (mbs ap)), .p (.sl 1 (ints ad))]) ∧ st.b 3 = some (.box 29 [.p (I bk), .p (.sl 4 (mbs bp)), .p (.sl 1 (ints bd))]) ∧ st.s 32 = .p (I ap.length) ∧ st.s 33 = .p (I k) ∧ (ap = bp ↔ ap.drop k = bp.drop k)) ap.length ⟨0, by simp [o1, o2]⟩ fun K N st hL ⟨k, hk, g2, g3, b2, b3, g32, g33, hi⟩ => ?_
  by_cases hlt : k < ap.length
  · have hw := wrapS k _ hlt hp
    have hlt' : k < bp.length := by omega
    have he := mbs_get hlt
    have he' := mbs_get hlt'
    rw [List.drop_eq_getElem_cons hlt, List.drop_eq_getElem_cons hlt', List.cons.injEq, Mb.ext4] at hi
    by_cases o : ap[k].i = bp[k].i ∧ ap[k].r = bp[k].r ∧ ap[k].w = bp[k].w ∧ ap[k].g = bp[k].g
    · rw [and_iff_right o] at hi
      obtain ⟨q1, q2, q3, q4⟩ := o
      repeat' first | (refine hK _ ?_; clear hK) | (refine hK _ _ ?_; clear hK) | (clear hK; refine hK _ ?_; clear hK) | (clear hK; clear hK; refine hK _ ?_; clear hK) | (clear hK; clear hK; clear hK; refine hK _ ?_; clear hK) | (clear hK; clear hK; clear hK; clear hK; refine hK _ ?_; clear hK) | (refine wSeq fun K hK => ?_) | ((first | refine wReg ?_ | refine wDrwQ rfl (by kernel_rfl) ?_ | refine wDrwI ?_ | refine wDrw (by kernel_rfl) ?_); simp only [List.map_cons, List.map_nil, strip]) | ((first | refine wIs fun K hK => ?_ | refine wOs fun K hK => ?_ | refine wQs fun K hK => ?_ | refine CallK_plain ?_ | refine CallQ_plain ?_ | refine CallR_plain ?_ | refine wCond ?_); simp [g2, g3, b2, b3, g32, g33, hlt, hlt', hw, he, he', q1, q2, q3, q4]) | (refine wIn ?_; refine And.intro (by kernel_rfl) ?_; try simp only [thenA_n]) | (first | refine wBlock ?_ | refine wScope ?_) | ((first | refine wRet ?_ | refine wExit ?_ | refine wSkip ?_); try simp) | ((first | refine wLabel ?_ | refine wOn ?_ | refine wQn ?_); try simp only [thenA_n])
      refine hL _ (N - 1) (by omega) ⟨k + 1, by omega, ?_⟩
      simp [g2, g3, b2, b3, g32, hw]
      exact hi
    · have hne : ¬ ap = bp := fun h => o (hi.1 h).1
      repeat' first | (refine hK _ ?_; clear hK) | (refine hK _ _ ?_; clear hK) | (clear hK; refine hK _ ?_; clear hK) | (clear hK; clear hK; refine hK _ ?_; clear hK) | (clear hK; clear hK; clear hK; refine hK _ ?_; clear hK) | (clear hK; clear hK; clear hK; clear hK; refine hK _ ?_; clear hK) | (refine wSeq fun K hK => ?_) | ((first | refine wReg ?_ | refine wDrwQ rfl (by kernel_rfl) ?_ | refine wDrwI ?_ | refine wDrw (by kernel_rfl) ?_); simp only [List.map_cons, List.map_nil, strip]) | ((first | refine wIs fun K hK => ?_ | refine wOs fun K hK => ?_ | refine wQs fun K hK => ?_ | refine CallK_plain ?_ | refine CallQ_plain ?_ | refine CallR_plain ?_ | refine wCond ?_); simp [g2, g3, b2, b3, g32, g33, hlt, hlt', hw, he, he', o]) | (refine wIn ?_; refine And.intro (by kernel_rfl) ?_; try simp only [thenA_n]) | (first | refine wBlock ?_ | refine wScope ?_) | ((first | refine wRet ?_ | refine wExit ?_ | refine wSkip ?_); try simp) | ((first | refine wLabel ?_ | refine wOn ?_ | refine wQn ?_); try simp only [thenA_n]) | (intro _)
      all_goals first | exact o | skip
      all_goals apply hr
      all_goals simp [Try.f13, hne]
  · rw [List.drop_of_length_le (by omega), List.drop_of_length_le (by omega)] at hi
    have hpe : ap = bp := hi.2 rfl
    repeat' first | (refine hK _ ?_; clear hK) | (refine hK _ _ ?_; clear hK) | (clear hK; refine hK _ ?_; clear hK) | (clear hK; clear hK; refine hK _ ?_; clear hK) | (clear hK; clear hK; clear hK; refine hK _ ?_; clear hK) | (clear hK; clear hK; clear hK; clear hK; refine hK _ ?_; clear hK) | (refine wSeq fun K hK => ?_) | ((first | refine wReg ?_ | refine wDrwQ rfl (by kernel_rfl) ?_ | refine wDrwI ?_ | refine wDrw (by kernel_rfl) ?_); simp only [List.map_cons, List.map_nil, strip]) | ((first | refine wIs fun K hK => ?_ | refine wOs fun K hK => ?_ | refine wQs fun K hK => ?_ | refine CallK_plain ?_ | refine CallQ_plain ?_ | refine CallR_plain ?_ | refine wCond ?_); simp [g2, g3, b2, b3, g32, g33, hlt]) | (refine wIn ?_; refine And.intro (by kernel_rfl) ?_; try simp only [thenA_n]) | (first | refine wBlock ?_ | refine wScope ?_) | ((first | refine wRet ?_ | refine wExit ?_ | refine wSkip ?_); try simp) | ((first | refine wLabel ?_ | refine wOn ?_ | refine wQn ?_); try simp only [thenA_n])
    refine wLoop (fun N st => ∃ k, k + N = ad.length ∧ st.s 2 = .ptr 2 0 ∧ st.s 3 = .ptr 3 0 ∧ st.b 2 = some (.box 29 [.p (I ak), .p (.sl 4 (mbs ap)), .p (.sl 1 (ints ad))]) ∧ st.b 3 = some (.box 29 [.p (I bk), .p (.sl 4 (mbs bp)), .p (.sl 1 (ints bd))]) ∧ st.s 50 = .p (I ad.length) ∧ st.s 51 = .p (I k) ∧ (ad = bd ↔ ad.drop k = bd.drop k)) ad.length ⟨0, by simp [g2, g3, b2, b3]⟩ fun K N st hL ⟨k, hk, g2, g3, b2, b3, g50, g51, hi⟩ => ?_
    by_cases hlt : k < ad.length
    · have hw := wrapS k _ hlt hd
      have hlt' : k < bd.length := by omega
      have he := ints_get hlt
      have he' := ints_get hlt'
      rw [List.drop_eq_getElem_cons hlt, List.drop_eq_getElem_cons hlt', List.cons.injEq] at hi
      by_cases o : ad[k] = bd[k]
      · rw [and_iff_right o] at hi
        repeat' first | (refine hK _ ?_; clear hK) | (refine hK _ _ ?_; clear hK) | (clear hK; refine hK _ ?_; clear hK) | (clear hK; clear hK; refine hK _ ?_; clear hK) | (clear hK; clear hK; clear hK; refine hK _ ?_; clear hK) | (clear hK; clear hK; clear hK; clear hK; refine hK _ ?_; clear hK) | (refine wSeq fun K hK => ?_) | ((first | refine wReg ?_ | refine wDrwQ rfl (by kernel_rfl) ?_ | refine wDrwI ?_ | refine wDrw (by kernel_rfl) ?_); simp only [List.map_cons, List.map_nil, strip]) | ((first | refine wIs fun K hK => ?_ | refine wOs fun K hK => ?_ | refine wQs fun K hK => ?_ | refine CallK_plain ?_ | refine CallQ_plain ?_ | refine CallR_plain ?_ | refine wCond ?_); simp [g2, g3, b2, b3, g50, g51, hlt, hlt', hw, he, he', o]) | (refine wIn ?_; refine And.intro (by kernel_rfl) ?_; try simp only [thenA_n]) | (first | refine wBlock ?_ | refine wScope ?_) | ((first | refine wRet ?_ | refine wExit ?_ | refine wSkip ?_); try simp) | ((first | refine wLabel ?_ | refine wOn ?_ | refine wQn ?_); try simp only [thenA_n])
        refine hL _ (N - 1) (by omega) ⟨k + 1, by omega, ?_⟩
        simp [g2, g3, b2, b3, g50, hw]
        exact hi
      · have hne : ¬ ad = bd := fun h => o (hi.1 h).1
        repeat' first | (refine hK _ ?_; clear hK) | (refine hK _ _ ?_; clear hK) | (clear hK; refine hK _ ?_; clear hK) | (clear hK; clear hK; refine hK _ ?_; clear hK) | (clear hK; clear hK; clear hK; refine hK _ ?_; clear hK) | (clear hK; clear hK; clear hK; clear hK; refine hK _ ?_; clear hK) | (refine wSeq fun K hK => ?_) | ((first | refine wReg ?_ | refine wDrwQ rfl (by kernel_rfl) ?_ | refine wDrwI ?_ | refine wDrw (by kernel_rfl) ?_); simp only [List.map_cons, List.map_nil, strip]) | ((first | refine wIs fun K hK => ?_ | refine wOs fun K hK => ?_ | refine wQs fun K hK => ?_ | refine CallK_plain ?_ | refine CallQ_plain ?_ | refine CallR_plain ?_ | refine wCond ?_); simp [g2, g3, b2, b3, g50, g51, hlt, hlt', hw, he, he', o]) | (refine wIn ?_; refine And.intro (by kernel_rfl) ?_; try simp only [thenA_n]) | (first | refine wBlock ?_ | refine wScope ?_) | ((first | refine wRet ?_ | refine wExit ?_ | refine wSkip ?_); try simp) | ((first | refine wLabel ?_ | refine wOn ?_ | refine wQn ?_); try simp only [thenA_n])
        all_goals apply hr
        all_goals simp [Try.f13, hne]
    · rw [List.drop_of_length_le (by omega), List.drop_of_length_le (by omega)] at hi
      have hde : ad = bd := hi.2 rfl
      repeat' first | (refine hK _ ?_; clear hK) | (refine hK _ _ ?_; clear hK) | (clear hK; refine hK _ ?_; clear hK) | (clear hK; clear hK; refine hK _ ?_; clear hK) | (clear hK; clear hK; clear hK; refine hK _ ?_; clear hK) | (clear hK; clear hK; clear hK; clear hK; refine hK _ ?_; clear hK) | (refine wSeq fun K hK => ?_) | ((first | refine wReg ?_ | refine wDrwQ rfl (by kernel_rfl) ?_ | refine wDrwI ?_ | refine wDrw (by kernel_rfl) ?_); simp only [List.map_cons, List.map_nil, strip]) | ((first | refine wIs fun K hK => ?_ | refine wOs fun K hK => ?_ | refine wQs fun K hK => ?_ | refine CallK_plain ?_ | refine CallQ_plain ?_ | refine CallR_plain ?_ | refine wCond ?_); simp [g2, g3, b2, b3, g50, g51, hlt]) | (refine wIn ?_; refine And.intro (by kernel_rfl) ?_; try simp only [thenA_n]) | (first | refine wBlock ?_ | refine wScope ?_) | ((first | refine wRet ?_ | refine wExit ?_ | refine wSkip ?_); try simp) | ((first | refine wLabel ?_ | refine wOn ?_ | refine wQn ?_); try simp only [thenA_n])
      all_goals apply hr
      all_goals simp [Try.f13, hpe, hde, o1]

def farD (c : Cf) (d : Dl) : Bool := decide (100 < c.ms.length) || (decide (100 < d.put.length) || decide (100 < d.drop.length))
theorem far06_con (c : Cf) (d : Dl) : ACon Try.prog 9 [.p (.agg c.cells), .p (.agg d.cells)] (.p (B (farD c d))) := by
  obtain ⟨ep, n, kind, ms⟩ := c
  obtain ⟨dk, dp, dd⟩ := d
  simp only [Cf.cells, Dl.cells, farD]
  by_cases o1 : 100 < ms.length
  · have o1' : (100 : Int) < ms.length := by omega
    refine wBody Try.tab Try.mixed Try.func9 rfl rfl Try.ntmps9 (by simp) (by simp) fun Q hr hn => ?_
    repeat' first | (refine hK _ ?_; clear hK) | (refine hK _ _ ?_; clear hK) | (clear hK; refine hK _ ?_; clear hK) | (clear hK; clear hK; refine hK _ ?_; clear hK) | (clear hK; clear hK; clear hK; refine hK _ ?_; clear hK) | (clear hK; clear hK; clear hK; clear hK; refine hK _ ?_; clear hK) | (refine wSeq fun K hK => ?_) | ((first | refine wReg ?_ | refine wDrwQ rfl (by kernel_rfl) ?_ | refine wDrwI ?_ | refine wDrw (by kernel_rfl) ?_); simp only [List.map_cons, List.map_nil, strip]) | ((first | refine wIs fun K hK => ?_ | refine wOs fun K hK => ?_ | refine wQs fun K hK => ?_ | refine CallK_plain ?_ | refine CallQ_plain ?_ | refine CallR_plain ?_ | refine wCond ?_); simp [o1, o1']) | (refine wIn ?_; refine And.intro (by kernel_rfl) ?_; try simp only [thenA_n]) | (first | refine wBlock ?_ | refine wScope ?_) | ((first | refine wRet ?_ | refine wExit ?_ | refine wSkip ?_); try simp) | ((first | refine wLabel ?_ | refine wOn ?_ | refine wQn ?_); try simp only [thenA_n])
    all_goals apply hr
    all_goals simp [Try.f9, o1, o1']
  have o1' : ¬ (100 : Int) < ms.length := by omega
  by_cases o2 : 100 < dp.length
  · have o2' : (100 : Int) < dp.length := by omega
    refine wBody Try.tab Try.mixed Try.func9 rfl rfl Try.ntmps9 (by simp) (by simp) fun Q hr hn => ?_
    repeat' first | (refine hK _ ?_; clear hK) | (refine hK _ _ ?_; clear hK) | (clear hK; refine hK _ ?_; clear hK) | (clear hK; clear hK; refine hK _ ?_; clear hK) | (clear hK; clear hK; clear hK; refine hK _ ?_; clear hK) | (clear hK; clear hK; clear hK; clear hK; refine hK _ ?_; clear hK) | (refine wSeq fun K hK => ?_) | ((first | refine wReg ?_ | refine wDrwQ rfl (by kernel_rfl) ?_ | refine wDrwI ?_ | refine wDrw (by kernel_rfl) ?_); simp only [List.map_cons, List.map_nil, strip]) | ((first | refine wIs fun K hK => ?_ | refine wOs fun K hK => ?_ | refine wQs fun K hK => ?_ | refine CallK_plain ?_ | refine CallQ_plain ?_ | refine CallR_plain ?_ | refine wCond ?_); simp [o1, o1', o2, o2']) | (refine wIn ?_; refine And.intro (by kernel_rfl) ?_; try simp only [thenA_n]) | (first | refine wBlock ?_ | refine wScope ?_) | ((first | refine wRet ?_ | refine wExit ?_ | refine wSkip ?_); try simp) | ((first | refine wLabel ?_ | refine wOn ?_ | refine wQn ?_); try simp only [thenA_n])
    all_goals apply hr
    all_goals simp [Try.f9, o1, o1', o2, o2']
  have o2' : ¬ (100 : Int) < dp.length := by omega
  by_cases o3 : 100 < dd.length
  · have o3' : (100 : Int) < dd.length := by omega
    refine wBody Try.tab Try.mixed Try.func9 rfl rfl Try.ntmps9 (by simp) (by simp) fun Q hr hn => ?_
    repeat' first | (refine hK _ ?_; clear hK) | (refine hK _ _ ?_; clear hK) | (clear hK; refine hK _ ?_; clear hK) | (clear hK; clear hK; refine hK _ ?_; clear hK) | (clear hK; clear hK; clear hK; refine hK _ ?_; clear hK) | (clear hK; clear hK; clear hK; clear hK; refine hK _ ?_; clear hK) | (refine wSeq fun K hK => ?_) | ((first | refine wReg ?_ | refine wDrwQ rfl (by kernel_rfl) ?_ | refine wDrwI ?_ | refine wDrw (by kernel_rfl) ?_); simp only [List.map_cons, List.map_nil, strip]) | ((first | refine wIs fun K hK => ?_ | refine wOs fun K hK => ?_ | refine wQs fun K hK => ?_ | refine CallK_plain ?_ | refine CallQ_plain ?_ | refine CallR_plain ?_ | refine wCond ?_); simp [o1, o1', o2, o2', o3, o3']) | (refine wIn ?_; refine And.intro (by kernel_rfl) ?_; try simp only [thenA_n]) | (first | refine wBlock ?_ | refine wScope ?_) | ((first | refine wRet ?_ | refine wExit ?_ | refine wSkip ?_); try simp) | ((first | refine wLabel ?_ | refine wOn ?_ | refine wQn ?_); try simp only [thenA_n])
    all_goals apply hr
    all_goals simp [Try.f9, o1, o1', o2, o2', o3, o3']
  have o3' : ¬ (100 : Int) < dd.length := by omega
  refine wBody Try.tab Try.mixed Try.func9 rfl rfl Try.ntmps9 (by simp) (by simp) fun Q hr hn => ?_
  repeat' first | (refine hK _ ?_; clear hK) | (refine hK _ _ ?_; clear hK) | (clear hK; refine hK _ ?_; clear hK) | (clear hK; clear hK; refine hK _ ?_; clear hK) | (clear hK; clear hK; clear hK; refine hK _ ?_; clear hK) | (clear hK; clear hK; clear hK; clear hK; refine hK _ ?_; clear hK) | (refine wSeq fun K hK => ?_) | ((first | refine wReg ?_ | refine wDrwQ rfl (by kernel_rfl) ?_ | refine wDrwI ?_ | refine wDrw (by kernel_rfl) ?_); simp only [List.map_cons, List.map_nil, strip]) | ((first | refine wIs fun K hK => ?_ | refine wOs fun K hK => ?_ | refine wQs fun K hK => ?_ | refine CallK_plain ?_ | refine CallQ_plain ?_ | refine CallR_plain ?_ | refine wCond ?_); simp [o1, o1', o2, o2', o3, o3']) | (refine wIn ?_; refine And.intro (by kernel_rfl) ?_; try simp only [thenA_n]) | (first | refine wBlock ?_ | refine wScope ?_) | ((first | refine wRet ?_ | refine wExit ?_ | refine wSkip ?_); try simp) | ((first | refine wLabel ?_ | refine wOn ?_ | refine wQn ?_); try simp only [thenA_n])
  all_goals apply hr
  all_goals simp [Try.f9, o1, o1', o2, o2', o3, o3']

theorem deltaDiffs_con (a b : Cf) (d : Dl) : ACon Try.prog 3 [.p (.agg a.cells), .p (.agg b.cells), .p (.agg d.cells)] (.p (B true)) := by
  have f1 := far06_con a d
  have f2 := far06_con b d
  have len : ∀ c : Cf, farD c d = false → c.ms.length ≤ 1000000 := fun c h => by
    simp only [farD, Bool.or_eq_false_iff, decide_eq_false_iff_not] at h
    omega
  by_cases o1 : farD a d = true
  · rw [o1] at f1
    obtain ⟨ae, an, ak, am⟩ := a
    obtain ⟨be, bn, bk, bm⟩ := b
    obtain ⟨dk, dp, dd⟩ := d
    simp only [Cf.cells, Dl.cells] at f1 f2 ⊢
    refine wBody Try.tab Try.mixed Try.func3 rfl rfl Try.ntmps3 (by simp) (by simp) fun Q hr hn => ?_
    repeat' first | (refine hK _ ?_; clear hK) | (refine hK _ _ ?_; clear hK) | (clear hK; refine hK _ ?_; clear hK) | (clear hK; clear hK; refine hK _ ?_; clear hK) | (clear hK; clear hK; clear hK; refine hK _ ?_; clear hK) | (clear hK; clear hK; clear hK; clear hK; refine hK _ ?_; clear hK) | (refine wSeq fun K hK => ?_) | ((first | refine wReg ?_ | refine wDrwQ rfl (by kernel_rfl) ?_ | refine wDrwI ?_ | refine wDrw (by kernel_rfl) ?_); simp only [List.map_cons, List.map_nil, strip]) | ((first | refine wIs fun K hK => ?_ | refine wOs fun K hK => ?_ | refine wQs fun K hK => ?_ | refine CallK_plain ?_ | refine CallQ_plain ?_ | refine CallR_plain ?_ | refine wCond ?_); simp) | (refine wIn ?_; refine And.intro (by kernel_rfl) ?_; try simp only [thenA_n]) | (first | refine wBlock ?_ | refine wScope ?_) | ((first | refine wRet ?_ | refine wExit ?_ | refine wSkip ?_); try simp) | ((first | refine wLabel ?_ | refine wOn ?_ | refine wQn ?_); try simp only [thenA_n]) | (refine CallE.pure (f1) rfl ?_) | (refine CallE.lent (f1) rfl ?_) | (refine CallF.pure (f1) rfl ?_) | (refine CallF.lent (f1) rfl ?_) | (refine CallE.own (f1) ?_) | (refine CallH.pure (f1) rfl ?_) | (refine CallH.lent (f1) rfl ?_) | (refine CallH.own (f1) ?_) | (refine CallE.pure (awake06) rfl ?_) | (refine CallE.lent (awake06) rfl ?_) | (refine CallF.pure (awake06) rfl ?_) | (refine CallF.lent (awake06) rfl ?_) | (refine CallE.own (awake06) ?_) | (refine CallH.pure (awake06) rfl ?_) | (refine CallH.lent (awake06) rfl ?_) | (refine CallH.own (awake06) ?_)
    all_goals apply hr
    all_goals simp [Try.f3]
  rw [Bool.not_eq_true] at o1
  by_cases o2 : farD b d = true
  · rw [o1] at f1
    rw [o2] at f2
    obtain ⟨ae, an, ak, am⟩ := a
    obtain ⟨be, bn, bk, bm⟩ := b
    obtain ⟨dk, dp, dd⟩ := d
    simp only [Cf.cells, Dl.cells] at f1 f2 ⊢
    refine wBody Try.tab Try.mixed Try.func3 rfl rfl Try.ntmps3 (by simp) (by simp) fun Q hr hn => ?_
    repeat' first | (refine hK _ ?_; clear hK) | (refine hK _ _ ?_; clear hK) | (clear hK; refine hK _ ?_; clear hK) | (clear hK; clear hK; refine hK _ ?_; clear hK) | (clear hK; clear hK; clear hK; refine hK _ ?_; clear hK) | (clear hK; clear hK; clear hK; clear hK; refine hK _ ?_; clear hK) | (refine wSeq fun K hK => ?_) | ((first | refine wReg ?_ | refine wDrwQ rfl (by kernel_rfl) ?_ | refine wDrwI ?_ | refine wDrw (by kernel_rfl) ?_); simp only [List.map_cons, List.map_nil, strip]) | ((first | refine wIs fun K hK => ?_ | refine wOs fun K hK => ?_ | refine wQs fun K hK => ?_ | refine CallK_plain ?_ | refine CallQ_plain ?_ | refine CallR_plain ?_ | refine wCond ?_); simp) | (refine wIn ?_; refine And.intro (by kernel_rfl) ?_; try simp only [thenA_n]) | (first | refine wBlock ?_ | refine wScope ?_) | ((first | refine wRet ?_ | refine wExit ?_ | refine wSkip ?_); try simp) | ((first | refine wLabel ?_ | refine wOn ?_ | refine wQn ?_); try simp only [thenA_n]) | (refine CallE.pure (f1) rfl ?_) | (refine CallE.lent (f1) rfl ?_) | (refine CallF.pure (f1) rfl ?_) | (refine CallF.lent (f1) rfl ?_) | (refine CallE.own (f1) ?_) | (refine CallH.pure (f1) rfl ?_) | (refine CallH.lent (f1) rfl ?_) | (refine CallH.own (f1) ?_) | (refine CallE.pure (f2) rfl ?_) | (refine CallE.lent (f2) rfl ?_) | (refine CallF.pure (f2) rfl ?_) | (refine CallF.lent (f2) rfl ?_) | (refine CallE.own (f2) ?_) | (refine CallH.pure (f2) rfl ?_) | (refine CallH.lent (f2) rfl ?_) | (refine CallH.own (f2) ?_) | (refine CallE.pure (awake06) rfl ?_) | (refine CallE.lent (awake06) rfl ?_) | (refine CallF.pure (awake06) rfl ?_) | (refine CallF.lent (awake06) rfl ?_) | (refine CallE.own (awake06) ?_) | (refine CallH.pure (awake06) rfl ?_) | (refine CallH.lent (awake06) rfl ?_) | (refine CallH.own (awake06) ?_)
    all_goals apply hr
    all_goals simp [Try.f3]
  rw [Bool.not_eq_true] at o2
  have c1 := diff_con a b (len a o1) (len b o2)
  have c2 := diff06_con a b (len a o1) (len b o2)
  rw [o1] at f1
  rw [o2] at f2
  generalize diff a b = x at c1 c2
  have s1 := sameD06_con x x
  have s2 := sameD_con x d
  have s3 := sameD06_con x d
  have s4 := sameD_con d d
  rw [decide_eq_true rfl] at s1 s4
  generalize decide (x = d) = z at s2 s3
  obtain ⟨ae, an, ak, am⟩ := a
  obtain ⟨be, bn, bk, bm⟩ := b
  obtain ⟨dk, dp, dd⟩ := d
  obtain ⟨xk, xp, xd⟩ := x
  simp only [Cf.cells, Dl.cells] at f1 f2 c1 c2 s1 s2 s3 s4 ⊢
  refine wBody Try.tab Try.mixed Try.func3 rfl rfl Try.ntmps3 (by simp) (by simp) fun Q hr hn => ?_
  repeat' first | (refine hK _ ?_; clear hK) | (refine hK _ _ ?_; clear hK) | (clear hK; refine hK _ ?_; clear hK) | (clear hK; clear hK; refine hK _ ?_; clear hK) | (clear hK; clear hK; clear hK; refine hK _ ?_; clear hK) | (clear hK; clear hK; clear hK; clear hK; refine hK _ ?_; clear hK) | (refine wSeq fun K hK => ?_) | ((first | refine wReg ?_ | refine wDrwQ rfl (by kernel_rfl) ?_ | refine wDrwI ?_ | refine wDrw (by kernel_rfl) ?_); simp only [List.map_cons, List.map_nil, strip]) | ((first | refine wIs fun K hK => ?_ | refine wOs fun K hK => ?_ | refine wQs fun K hK => ?_ | refine CallK_plain ?_ | refine CallQ_plain ?_ | refine CallR_plain ?_ | refine wCond ?_); simp) | (refine wIn ?_; refine And.intro (by kernel_rfl) ?_; try simp only [thenA_n]) | (first | refine wBlock ?_ | refine wScope ?_) | ((first | refine wRet ?_ | refine wExit ?_ | refine wSkip ?_); try simp) | ((first | refine wLabel ?_ | refine wOn ?_ | refine wQn ?_); try simp only [thenA_n]) | (refine CallE.pure (f1) rfl ?_) | (refine CallE.lent (f1) rfl ?_) | (refine CallF.pure (f1) rfl ?_) | (refine CallF.lent (f1) rfl ?_) | (refine CallE.own (f1) ?_) | (refine CallH.pure (f1) rfl ?_) | (refine CallH.lent (f1) rfl ?_) | (refine CallH.own (f1) ?_) | (refine CallE.pure (f2) rfl ?_) | (refine CallE.lent (f2) rfl ?_) | (refine CallF.pure (f2) rfl ?_) | (refine CallF.lent (f2) rfl ?_) | (refine CallE.own (f2) ?_) | (refine CallH.pure (f2) rfl ?_) | (refine CallH.lent (f2) rfl ?_) | (refine CallH.own (f2) ?_) | (refine CallE.pure (c1) rfl ?_) | (refine CallE.lent (c1) rfl ?_) | (refine CallF.pure (c1) rfl ?_) | (refine CallF.lent (c1) rfl ?_) | (refine CallE.own (c1) ?_) | (refine CallH.pure (c1) rfl ?_) | (refine CallH.lent (c1) rfl ?_) | (refine CallH.own (c1) ?_) | (refine CallE.pure (c2) rfl ?_) | (refine CallE.lent (c2) rfl ?_) | (refine CallF.pure (c2) rfl ?_) | (refine CallF.lent (c2) rfl ?_) | (refine CallE.own (c2) ?_) | (refine CallH.pure (c2) rfl ?_) | (refine CallH.lent (c2) rfl ?_) | (refine CallH.own (c2) ?_) | (refine CallE.pure (s1) rfl ?_) | (refine CallE.lent (s1) rfl ?_) | (refine CallF.pure (s1) rfl ?_) | (refine CallF.lent (s1) rfl ?_) | (refine CallE.own (s1) ?_) | (refine CallH.pure (s1) rfl ?_) | (refine CallH.lent (s1) rfl ?_) | (refine CallH.own (s1) ?_) | (refine CallE.pure (s2) rfl ?_) | (refine CallE.lent (s2) rfl ?_) | (refine CallF.pure (s2) rfl ?_) | (refine CallF.lent (s2) rfl ?_) | (refine CallE.own (s2) ?_) | (refine CallH.pure (s2) rfl ?_) | (refine CallH.lent (s2) rfl ?_) | (refine CallH.own (s2) ?_) | (refine CallE.pure (s3) rfl ?_) | (refine CallE.lent (s3) rfl ?_) | (refine CallF.pure (s3) rfl ?_) | (refine CallF.lent (s3) rfl ?_) | (refine CallE.own (s3) ?_) | (refine CallH.pure (s3) rfl ?_) | (refine CallH.lent (s3) rfl ?_) | (refine CallH.own (s3) ?_) | (refine CallE.pure (s4) rfl ?_) | (refine CallE.lent (s4) rfl ?_) | (refine CallF.pure (s4) rfl ?_) | (refine CallF.lent (s4) rfl ?_) | (refine CallE.own (s4) ?_) | (refine CallH.pure (s4) rfl ?_) | (refine CallH.lent (s4) rfl ?_) | (refine CallH.own (s4) ?_) | (refine CallE.pure (awake06) rfl ?_) | (refine CallE.lent (awake06) rfl ?_) | (refine CallF.pure (awake06) rfl ?_) | (refine CallF.lent (awake06) rfl ?_) | (refine CallE.own (awake06) ?_) | (refine CallH.pure (awake06) rfl ?_) | (refine CallH.lent (awake06) rfl ?_) | (refine CallH.own (awake06) ?_)
  all_goals apply hr
  all_goals simp [Try.f3]
end Go.Proofs.Ytljeijinfhboaaa
