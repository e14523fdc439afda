/- Texts that the proof needs: LG5. -/
import Derived.Test.YtechjohebkcjiaaP26LinkTakes
import Derived.Test.YtechjohebkcjiaaP28LinkTakes
/- The document's messages on their way: those between two, or of one, lost. -/
namespace Go.Proofs.Ytechjohebkcjiaa
set_option linter.unusedSimpArgs false
set_option linter.unusedVariables false
set_option maxRecDepth 8000
open Go Go.Av
attribute [local simp] Try.T1 Try.T2 Try.T3 Try.T4 Try.T5 Try.T9 Try.T12 Try.T15 Try.T16 Try.T17 Try.T21 Try.T22 Try.T23 Try.T24 Try.T25 Try.T27 Try.T29 Try.T30 Try.T31 Try.T32 Try.T33 Try.T35 Try.T37 Try.T38 Try.T40 Try.T41 Try.T42 Try.T44 Try.T45 Try.T47 Try.T49 Try.T51 Try.T53 Try.T54 Try.T55 Try.T56 Try.T57 Try.T58 Try.T59 Try.T60 Try.T61 Try.T62 Try.T63 Try.T64 Try.T66 Try.T67 Try.T68 Try.T69 Try.T70 Try.T72 Try.T74 Try.T76 Try.T77 Try.T78 Try.T79 Try.T80 Try.T81 Try.T82 Try.T83 Try.T84 Try.T85 Try.T87 Try.T88 Try.T89 Try.T90 Try.T91 Try.T92 Try.T93 Try.T94 Try.T96 Try.T97 Try.T98 Try.T99 Try.T100 Try.T101 Try.T102 Try.T103 Try.T104 Try.T105 Try.T106 Try.T107 Try.T108 Try.T109 Try.T110 Try.T111 Try.T113 Try.T114 Try.T115 Try.T116 Try.T117 Try.T118 Try.T119 Try.T120 Try.T121 Try.T122 Try.T123 Try.T124 Try.T125 Try.T126 Try.T127 Try.T128 Try.T129 Try.T130 Try.T133 Try.T136 Try.T137 Try.T140 Try.T141
attribute [local irreducible] Go.Av.CallK Go.Av.CallE Go.Av.CallQ Go.Av.CallF Go.Av.CallR Go.Av.CallH Go.Av.Con
set_option maxHeartbeats 4000000 in
theorem reset25_con (l : List Mq) (a b : Int) (ho : ∀ m ∈ l, OkM m) (hl : l.length ≤ 1048576) : ACon Try.prog 16 [.p (.sl 46 (mqs l)), .p (I a), .p (I b)] (.p (.sl 46 (mqs (l.filter fun m => !decide (two m.fr m.to = two a b))))) := by
  have c0 := own25_con l ho hl
  have cT := two25_con a b
  have hsn := fun {k : Nat} (h : k < l.length) => filt_snoc (fun m => !decide (two m.fr m.to = two a b)) h
  have hln := fun k => filt_len l (fun m => !decide (two m.fr m.to = two a b)) k
  generalize two a b = p at *
  obtain ⟨p0, p1⟩ := p
  simp only [] at cT
  refine wBody Try.tab Try.mixed Try.func16 rfl rfl Try.ntmps16 (by simp) (by simp) fun Q hr hn => ?_
  repeat' first | (refine wFrzR 11 (mqs l) rfl ?_; simp [frz, sub, sub0, subB]) | (refine hK _ ?_; clear hK) | (refine hK _ _ ?_; clear hK) | (clear hK; refine hK _ ?_; clear hK) | (clear hK; clear hK; refine hK _ ?_; clear hK) | (clear hK; clear hK; clear hK; refine hK _ ?_; clear hK) | (clear hK; clear hK; clear hK; clear hK; refine hK _ ?_; clear hK) | (refine wSeq fun K hK => ?_) | ((first | refine wReg ?_ | refine wDrwQ rfl (by kernel_rfl) ?_ | refine wDrwI ?_ | refine wDrw (by kernel_rfl) ?_); simp only [List.map_cons, List.map_nil, strip]) | ((first | refine wIs fun K hK => ?_ | refine wOs fun K hK => ?_ | refine wQs fun K hK => ?_ | refine CallK_plain ?_ | refine CallQ_plain ?_ | refine CallR_plain ?_ | refine wCond ?_); simp) | (refine wIn ?_; refine And.intro (by kernel_rfl) ?_; try simp only [thenA_n]) | (first | refine wBlock ?_ | refine wScope ?_) | ((first | refine wRet ?_ | refine wExit ?_ | refine wSkip ?_); try simp) | ((first | refine wLabel ?_ | refine wOn ?_ | refine wQn ?_); try simp only [thenA_n]) | (refine CallE.pure (c0) rfl ?_) | (refine CallE.lent (c0) rfl ?_) | (refine CallF.pure (c0) rfl ?_) | (refine CallF.lent (c0) rfl ?_) | (refine CallE.own (c0) ?_) | (refine CallH.pure (c0) rfl ?_) | (refine CallH.lent (c0) rfl ?_) | (refine CallH.own (c0) ?_)
  refine wLoopG [.row 7 51 46] (fun N st => ∃ k, k + N = l.length ∧ st.s 1 = .p (I a) ∧ st.s 2 = .p (I b) ∧ st.s 7 = .row 7 ∧ st.b 7 = some (.row 51 46 (mqs ((l.take k).filter fun m => !decide (two m.fr m.to = ⟨p0, p1⟩)))) ∧ st.s 11 = .p (.sl 46 (mqs l)) ∧ st.s 12 = .p (I l.length) ∧ st.s 13 = .p (I k)) l.length ⟨0, by simp [frzL, gh1, mqs]⟩ fun K N st hL ⟨k, hk, g1, g2, g7, b7, g11, g12, g13⟩ => ?_
  by_cases hlt : k < l.length
  · have hlt' : (k : Int) < l.length := by omega
    have hw := wrapS k _ hlt (by omega)
    have he := mqs_get hlt
    have hs := hsn hlt
    have hsl := hln k
    generalize hQ : l[k] = m at *
    have cM := two25_con m.fr m.to
    have hx := mqs_snoc ((l.take k).filter fun m => !decide (two m.fr m.to = ⟨p0, p1⟩)) m
    generalize ((l.take k).filter fun m => !decide (two m.fr m.to = ⟨p0, p1⟩)) = S0 at *
    generalize two m.fr m.to = q at *
    obtain ⟨q0, q1⟩ := q
    simp only [] at cM
    by_cases hq : q0 = p0 ∧ q1 = p1
    · obtain ⟨o1, o2⟩ := hq
      rw [if_neg (by simp [o1, o2])] at hs
      have e1 := eq_true o1
      have e2 := eq_true o2
      repeat' first | (refine hK _ ?_; clear hK) | (refine hK _ _ ?_; clear hK) | (clear hK; refine hK _ ?_; clear hK) | (clear hK; clear hK; refine hK _ ?_; clear hK) | (clear hK; clear hK; clear hK; refine hK _ ?_; clear hK) | (clear hK; clear hK; clear hK; clear hK; refine hK _ ?_; clear hK) | (refine wSeq fun K hK => ?_) | ((first | refine wReg ?_ | refine wDrwQ rfl (by kernel_rfl) ?_ | refine wDrwI ?_ | refine wDrw (by kernel_rfl) ?_); simp only [List.map_cons, List.map_nil, strip]) | ((first | refine wIs fun K hK => ?_ | refine wOs fun K hK => ?_ | refine wQs fun K hK => ?_ | refine CallK_plain ?_ | refine CallQ_plain ?_ | refine CallR_plain ?_ | refine wCond ?_); simp [g1, g2, g7, b7, g11, g12, g13, hlt, hlt', hw, he, hQ, e1, e2]) | (refine wIn ?_; refine And.intro (by kernel_rfl) ?_; try simp only [thenA_n]) | (first | refine wBlock ?_ | refine wScope ?_) | ((first | refine wRet ?_ | refine wExit ?_ | refine wSkip ?_); try simp) | ((first | refine wLabel ?_ | refine wOn ?_ | refine wQn ?_); try simp only [thenA_n]) | (refine CallE.pure (cM) rfl ?_) | (refine CallE.lent (cM) rfl ?_) | (refine CallF.pure (cM) rfl ?_) | (refine CallF.lent (cM) rfl ?_) | (refine CallE.own (cM) ?_) | (refine CallH.pure (cM) rfl ?_) | (refine CallH.lent (cM) rfl ?_) | (refine CallH.own (cM) ?_) | (refine CallE.pure (cT) rfl ?_) | (refine CallE.lent (cT) rfl ?_) | (refine CallF.pure (cT) rfl ?_) | (refine CallF.lent (cT) rfl ?_) | (refine CallE.own (cT) ?_) | (refine CallH.pure (cT) rfl ?_) | (refine CallH.lent (cT) rfl ?_) | (refine CallH.own (cT) ?_)
      refine hL _ (N - 1) (by omega) ⟨k + 1, by omega, ?_⟩
      simp [g1, g2, g7, b7, g11, g12, g13, hw, hs]
    · have hqd : (!decide ((⟨q0, q1⟩ : Pr) = ⟨p0, p1⟩)) = true := by
        rw [Bool.not_eq_true', decide_eq_false_iff_not]
        intro h
        rw [Pr.ext2] at h
        exact hq h
      rw [if_pos hqd] at hs
      rw [← hs] at hx
      have hq' : q0 = p0 → ¬ q1 = p1 := fun h1 h2 => hq ⟨h1, h2⟩
      by_cases o1 : q0 = p0
      · have e1 := eq_true o1
        have e2 := eq_false (hq' o1)
        repeat' first | (refine And.intro (by (try simp only [mqs_len, List.length_cons, List.length_nil]); omega) ?_) | (refine hK _ ?_; clear hK) | (refine hK _ _ ?_; clear hK) | (clear hK; refine hK _ ?_; clear hK) | (clear hK; clear hK; refine hK _ ?_; clear hK) | (clear hK; clear hK; clear hK; refine hK _ ?_; clear hK) | (clear hK; clear hK; clear hK; clear hK; refine hK _ ?_; clear hK) | (refine wSeq fun K hK => ?_) | ((first | refine wReg ?_ | refine wDrwQ rfl (by kernel_rfl) ?_ | refine wDrwI ?_ | refine wDrw (by kernel_rfl) ?_); simp only [List.map_cons, List.map_nil, strip]) | ((first | refine wIs fun K hK => ?_ | refine wOs fun K hK => ?_ | refine wQs fun K hK => ?_ | refine CallK_plain ?_ | refine CallQ_plain ?_ | refine CallR_plain ?_ | refine wCond ?_); simp [g1, g2, g7, b7, g11, g12, g13, hlt, hlt', hw, he, hQ, e1, e2]) | (refine wIn ?_; refine And.intro (by kernel_rfl) ?_; try simp only [thenA_n]) | (first | refine wBlock ?_ | refine wScope ?_) | ((first | refine wRet ?_ | refine wExit ?_ | refine wSkip ?_); try simp) | ((first | refine wLabel ?_ | refine wOn ?_ | refine wQn ?_); try simp only [thenA_n]) | (refine CallE.pure (cM) rfl ?_) | (refine CallE.lent (cM) rfl ?_) | (refine CallF.pure (cM) rfl ?_) | (refine CallF.lent (cM) rfl ?_) | (refine CallE.own (cM) ?_) | (refine CallH.pure (cM) rfl ?_) | (refine CallH.lent (cM) rfl ?_) | (refine CallH.own (cM) ?_) | (refine CallE.pure (cT) rfl ?_) | (refine CallE.lent (cT) rfl ?_) | (refine CallF.pure (cT) rfl ?_) | (refine CallF.lent (cT) rfl ?_) | (refine CallE.own (cT) ?_) | (refine CallH.pure (cT) rfl ?_) | (refine CallH.lent (cT) rfl ?_) | (refine CallH.own (cT) ?_)
        refine hL _ (N - 1) (by omega) ⟨k + 1, by omega, ?_⟩
        simp [g1, g2, g7, b7, g11, g12, g13, hw, hx]
      · have e1 := eq_false o1
        repeat' first | (refine And.intro (by (try simp only [mqs_len, List.length_cons, List.length_nil]); omega) ?_) | (refine hK _ ?_; clear hK) | (refine hK _ _ ?_; clear hK) | (clear hK; refine hK _ ?_; clear hK) | (clear hK; clear hK; refine hK _ ?_; clear hK) | (clear hK; clear hK; clear hK; refine hK _ ?_; clear hK) | (clear hK; clear hK; clear hK; clear hK; refine hK _ ?_; clear hK) | (refine wSeq fun K hK => ?_) | ((first | refine wReg ?_ | refine wDrwQ rfl (by kernel_rfl) ?_ | refine wDrwI ?_ | refine wDrw (by kernel_rfl) ?_); simp only [List.map_cons, List.map_nil, strip]) | ((first | refine wIs fun K hK => ?_ | refine wOs fun K hK => ?_ | refine wQs fun K hK => ?_ | refine CallK_plain ?_ | refine CallQ_plain ?_ | refine CallR_plain ?_ | refine wCond ?_); simp [g1, g2, g7, b7, g11, g12, g13, hlt, hlt', hw, he, hQ, e1]) | (refine wIn ?_; refine And.intro (by kernel_rfl) ?_; try simp only [thenA_n]) | (first | refine wBlock ?_ | refine wScope ?_) | ((first | refine wRet ?_ | refine wExit ?_ | refine wSkip ?_); try simp) | ((first | refine wLabel ?_ | refine wOn ?_ | refine wQn ?_); try simp only [thenA_n]) | (refine CallE.pure (cM) rfl ?_) | (refine CallE.lent (cM) rfl ?_) | (refine CallF.pure (cM) rfl ?_) | (refine CallF.lent (cM) rfl ?_) | (refine CallE.own (cM) ?_) | (refine CallH.pure (cM) rfl ?_) | (refine CallH.lent (cM) rfl ?_) | (refine CallH.own (cM) ?_) | (refine CallE.pure (cT) rfl ?_) | (refine CallE.lent (cT) rfl ?_) | (refine CallF.pure (cT) rfl ?_) | (refine CallF.lent (cT) rfl ?_) | (refine CallE.own (cT) ?_) | (refine CallH.pure (cT) rfl ?_) | (refine CallH.lent (cT) rfl ?_) | (refine CallH.own (cT) ?_)
        refine hL _ (N - 1) (by omega) ⟨k + 1, by omega, ?_⟩
        simp [g1, g2, g7, b7, g11, g12, g13, hw, hx]
  · have hlt' : ¬ (k : Int) < l.length := by omega
    rw [List.take_of_length_le (by omega)] at b7
    repeat' first | (refine hK _ ?_; clear hK) | (refine hK _ _ ?_; clear hK) | (clear hK; refine hK _ ?_; clear hK) | (clear hK; clear hK; refine hK _ ?_; clear hK) | (clear hK; clear hK; clear hK; refine hK _ ?_; clear hK) | (clear hK; clear hK; clear hK; clear hK; refine hK _ ?_; clear hK) | (refine wSeq fun K hK => ?_) | ((first | refine wReg ?_ | refine wDrwQ rfl (by kernel_rfl) ?_ | refine wDrwI ?_ | refine wDrw (by kernel_rfl) ?_); simp only [List.map_cons, List.map_nil, strip]) | ((first | refine wIs fun K hK => ?_ | refine wOs fun K hK => ?_ | refine wQs fun K hK => ?_ | refine CallK_plain ?_ | refine CallQ_plain ?_ | refine CallR_plain ?_ | refine wCond ?_); simp [g1, g2, g7, b7, g11, g12, g13, hlt, hlt']) | (refine wIn ?_; refine And.intro (by kernel_rfl) ?_; try simp only [thenA_n]) | (first | refine wBlock ?_ | refine wScope ?_) | ((first | refine wRet ?_ | refine wExit ?_ | refine wSkip ?_); try simp) | ((first | refine wLabel ?_ | refine wOn ?_ | refine wQn ?_); try simp only [thenA_n])
    all_goals apply hr
    all_goals simp [Try.f16, g7, b7]
set_option maxHeartbeats 4000000 in
theorem alone25_con (l : List Mq) (i : Int) (ho : ∀ m ∈ l, OkM m) (hl : l.length ≤ 1048576) : ACon Try.prog 18 [.p (.sl 46 (mqs l)), .p (I i)] (.p (.sl 46 (mqs (l.filter fun m => decide (m.fr ≠ i ∧ m.to ≠ i))))) := by
  have c0 := own25_con l ho hl
  have hfv : ∀ m : Mq, (fun m : Mq => decide (m.fr ≠ i ∧ m.to ≠ i)) m = decide (m.fr ≠ i ∧ m.to ≠ i) := fun _ => rfl
  generalize (fun m : Mq => decide (m.fr ≠ i ∧ m.to ≠ i)) = f at *
  refine wBody Try.tab Try.mixed Try.func18 rfl rfl Try.ntmps18 (by simp) (by simp) fun Q hr hn => ?_
  repeat' first | (refine wFrzR 9 (mqs l) rfl ?_; simp [frz, sub, sub0, subB]) | (refine hK _ ?_; clear hK) | (refine hK _ _ ?_; clear hK) | (clear hK; refine hK _ ?_; clear hK) | (clear hK; clear hK; refine hK _ ?_; clear hK) | (clear hK; clear hK; clear hK; refine hK _ ?_; clear hK) | (clear hK; clear hK; clear hK; clear hK; refine hK _ ?_; clear hK) | (refine wSeq fun K hK => ?_) | ((first | refine wReg ?_ | refine wDrwQ rfl (by kernel_rfl) ?_ | refine wDrwI ?_ | refine wDrw (by kernel_rfl) ?_); simp only [List.map_cons, List.map_nil, strip]) | ((first | refine wIs fun K hK => ?_ | refine wOs fun K hK => ?_ | refine wQs fun K hK => ?_ | refine CallK_plain ?_ | refine CallQ_plain ?_ | refine CallR_plain ?_ | refine wCond ?_); simp) | (refine wIn ?_; refine And.intro (by kernel_rfl) ?_; try simp only [thenA_n]) | (first | refine wBlock ?_ | refine wScope ?_) | ((first | refine wRet ?_ | refine wExit ?_ | refine wSkip ?_); try simp) | ((first | refine wLabel ?_ | refine wOn ?_ | refine wQn ?_); try simp only [thenA_n]) | (refine CallE.pure (c0) rfl ?_) | (refine CallE.lent (c0) rfl ?_) | (refine CallF.pure (c0) rfl ?_) | (refine CallF.lent (c0) rfl ?_) | (refine CallE.own (c0) ?_) | (refine CallH.pure (c0) rfl ?_) | (refine CallH.lent (c0) rfl ?_) | (refine CallH.own (c0) ?_)
  refine wLoopG [.row 5 51 46] (fun N st => ∃ k, k + N = l.length ∧ st.s 1 = .p (I i) ∧ st.s 5 = .row 5 ∧ st.b 5 = some (.row 51 46 (mqs ((l.take k).filter f))) ∧ st.s 9 = .p (.sl 46 (mqs l)) ∧ st.s 10 = .p (I l.length) ∧ st.s 11 = .p (I k)) l.length ⟨0, by simp [frzL, gh1, mqs]⟩ fun K N st hL ⟨k, hk, g1, g5, b5, g9, g10, g11⟩ => ?_
  by_cases hlt : k < l.length
  · have hlt' : (k : Int) < l.length := by omega
    have hw := wrapS k _ hlt (by omega)
    have he := mqs_get hlt
    have hs := filt_snoc f hlt
    have hsl := filt_len l f k
    generalize hQ : l[k] = m at *
    have hx := mqs_snoc ((l.take k).filter f) m
    generalize ((l.take k).filter f) = S0 at *
    by_cases o1 : m.fr = i
    · have e1 := eq_true o1
      rw [if_neg (by rw [hfv]; simp [o1])] at hs
      repeat' first | (refine hK _ ?_; clear hK) | (refine hK _ _ ?_; clear hK) | (clear hK; refine hK _ ?_; clear hK) | (clear hK; clear hK; refine hK _ ?_; clear hK) | (clear hK; clear hK; clear hK; refine hK _ ?_; clear hK) | (clear hK; clear hK; clear hK; clear hK; refine hK _ ?_; clear hK) | (refine wSeq fun K hK => ?_) | ((first | refine wReg ?_ | refine wDrwQ rfl (by kernel_rfl) ?_ | refine wDrwI ?_ | refine wDrw (by kernel_rfl) ?_); simp only [List.map_cons, List.map_nil, strip]) | ((first | refine wIs fun K hK => ?_ | refine wOs fun K hK => ?_ | refine wQs fun K hK => ?_ | refine CallK_plain ?_ | refine CallQ_plain ?_ | refine CallR_plain ?_ | refine wCond ?_); simp [g1, g5, b5, g9, g10, g11, hlt, hlt', hw, he, hQ, e1]) | (refine wIn ?_; refine And.intro (by kernel_rfl) ?_; try simp only [thenA_n]) | (first | refine wBlock ?_ | refine wScope ?_) | ((first | refine wRet ?_ | refine wExit ?_ | refine wSkip ?_); try simp) | ((first | refine wLabel ?_ | refine wOn ?_ | refine wQn ?_); try simp only [thenA_n])
      refine hL _ (N - 1) (by omega) ⟨k + 1, by omega, ?_⟩
      simp [g1, g5, b5, g9, g10, g11, hw, hs]
    · have e1 := eq_false o1
      by_cases o2 : m.to = i
      · have e2 := eq_true o2
        rw [if_neg (by rw [hfv]; simp [o2])] at hs
        repeat' first | (refine hK _ ?_; clear hK) | (refine hK _ _ ?_; clear hK) | (clear hK; refine hK _ ?_; clear hK) | (clear hK; clear hK; refine hK _ ?_; clear hK) | (clear hK; clear hK; clear hK; refine hK _ ?_; clear hK) | (clear hK; clear hK; clear hK; clear hK; refine hK _ ?_; clear hK) | (refine wSeq fun K hK => ?_) | ((first | refine wReg ?_ | refine wDrwQ rfl (by kernel_rfl) ?_ | refine wDrwI ?_ | refine wDrw (by kernel_rfl) ?_); simp only [List.map_cons, List.map_nil, strip]) | ((first | refine wIs fun K hK => ?_ | refine wOs fun K hK => ?_ | refine wQs fun K hK => ?_ | refine CallK_plain ?_ | refine CallQ_plain ?_ | refine CallR_plain ?_ | refine wCond ?_); simp [g1, g5, b5, g9, g10, g11, hlt, hlt', hw, he, hQ, e1, e2]) | (refine wIn ?_; refine And.intro (by kernel_rfl) ?_; try simp only [thenA_n]) | (first | refine wBlock ?_ | refine wScope ?_) | ((first | refine wRet ?_ | refine wExit ?_ | refine wSkip ?_); try simp) | ((first | refine wLabel ?_ | refine wOn ?_ | refine wQn ?_); try simp only [thenA_n])
        refine hL _ (N - 1) (by omega) ⟨k + 1, by omega, ?_⟩
        simp [g1, g5, b5, g9, g10, g11, hw, hs]
      · have e2 := eq_false o2
        rw [if_pos (by rw [hfv]; simp [o1, o2])] at hs
        rw [← hs] at hx
        repeat' first | (refine And.intro (by (try simp only [mqs_len, List.length_cons, List.length_nil]); omega) ?_) | (refine hK _ ?_; clear hK) | (refine hK _ _ ?_; clear hK) | (clear hK; refine hK _ ?_; clear hK) | (clear hK; clear hK; refine hK _ ?_; clear hK) | (clear hK; clear hK; clear hK; refine hK _ ?_; clear hK) | (clear hK; clear hK; clear hK; clear hK; refine hK _ ?_; clear hK) | (refine wSeq fun K hK => ?_) | ((first | refine wReg ?_ | refine wDrwQ rfl (by kernel_rfl) ?_ | refine wDrwI ?_ | refine wDrw (by kernel_rfl) ?_); simp only [List.map_cons, List.map_nil, strip]) | ((first | refine wIs fun K hK => ?_ | refine wOs fun K hK => ?_ | refine wQs fun K hK => ?_ | refine CallK_plain ?_ | refine CallQ_plain ?_ | refine CallR_plain ?_ | refine wCond ?_); simp [g1, g5, b5, g9, g10, g11, hlt, hlt', hw, he, hQ, e1, e2]) | (refine wIn ?_; refine And.intro (by kernel_rfl) ?_; try simp only [thenA_n]) | (first | refine wBlock ?_ | refine wScope ?_) | ((first | refine wRet ?_ | refine wExit ?_ | refine wSkip ?_); try simp) | ((first | refine wLabel ?_ | refine wOn ?_ | refine wQn ?_); try simp only [thenA_n])
        refine hL _ (N - 1) (by omega) ⟨k + 1, by omega, ?_⟩
        simp [g1, g5, b5, g9, g10, g11, hw, hx]
  · have hlt' : ¬ (k : Int) < l.length := by omega
    rw [List.take_of_length_le (by omega)] at b5
    repeat' first | (refine hK _ ?_; clear hK) | (refine hK _ _ ?_; clear hK) | (clear hK; refine hK _ ?_; clear hK) | (clear hK; clear hK; refine hK _ ?_; clear hK) | (clear hK; clear hK; clear hK; refine hK _ ?_; clear hK) | (clear hK; clear hK; clear hK; clear hK; refine hK _ ?_; clear hK) | (refine wSeq fun K hK => ?_) | ((first | refine wReg ?_ | refine wDrwQ rfl (by kernel_rfl) ?_ | refine wDrwI ?_ | refine wDrw (by kernel_rfl) ?_); simp only [List.map_cons, List.map_nil, strip]) | ((first | refine wIs fun K hK => ?_ | refine wOs fun K hK => ?_ | refine wQs fun K hK => ?_ | refine CallK_plain ?_ | refine CallQ_plain ?_ | refine CallR_plain ?_ | refine wCond ?_); simp [g1, g5, b5, g9, g10, g11, hlt, hlt']) | (refine wIn ?_; refine And.intro (by kernel_rfl) ?_; try simp only [thenA_n]) | (first | refine wBlock ?_ | refine wScope ?_) | ((first | refine wRet ?_ | refine wExit ?_ | refine wSkip ?_); try simp) | ((first | refine wLabel ?_ | refine wOn ?_ | refine wQn ?_); try simp only [thenA_n])
    all_goals apply hr
    all_goals simp [Try.f18, g5, b5]
end Go.Proofs.Ytechjohebkcjiaa
