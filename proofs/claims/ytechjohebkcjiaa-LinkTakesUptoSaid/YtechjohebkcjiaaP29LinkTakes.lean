/- Texts that the proof needs: LG4. -/
import Derived.Test.YtechjohebkcjiaaP26LinkTakes
import Derived.Test.YtechjohebkcjiaaP28LinkTakes
/- The document's messages on their way: the first of each way, one taken, those between two or of one lost. -/
namespace Go.Proofs.Ytechjohebkcjiaa
set_option linter.unusedSimpArgs false
set_option linter.unusedVariables false
set_option maxRecDepth 8000
open Go Go.Av
attribute [local simp] Try.T1 Try.T2 Try.T3 Try.T4 Try.T5 Try.T9 Try.T12 Try.T15 Try.T16 Try.T17 Try.T21 Try.T22 Try.T23 Try.T24 Try.T25 Try.T27 Try.T29 Try.T30 Try.T31 Try.T32 Try.T33 Try.T35 Try.T37 Try.T38 Try.T40 Try.T41 Try.T42 Try.T44 Try.T45 Try.T47 Try.T49 Try.T51 Try.T53 Try.T54 Try.T55 Try.T56 Try.T57 Try.T58 Try.T59 Try.T60 Try.T61 Try.T62 Try.T63 Try.T64 Try.T66 Try.T67 Try.T68 Try.T69 Try.T70 Try.T72 Try.T74 Try.T76 Try.T77 Try.T78 Try.T79 Try.T80 Try.T81 Try.T82 Try.T83 Try.T84 Try.T85 Try.T87 Try.T88 Try.T89 Try.T90 Try.T91 Try.T92 Try.T93 Try.T94 Try.T96 Try.T97 Try.T98 Try.T99 Try.T100 Try.T101 Try.T102 Try.T103 Try.T104 Try.T105 Try.T106 Try.T107 Try.T108 Try.T109 Try.T110 Try.T111 Try.T113 Try.T114 Try.T115 Try.T116 Try.T117 Try.T118 Try.T119 Try.T120 Try.T121 Try.T122 Try.T123 Try.T124 Try.T125 Try.T126 Try.T127 Try.T128 Try.T129 Try.T130 Try.T133 Try.T136 Try.T137 Try.T140 Try.T141
attribute [local irreducible] Go.Av.CallK Go.Av.CallE Go.Av.CallQ Go.Av.CallF Go.Av.CallR Go.Av.CallH Go.Av.Con
set_option maxHeartbeats 4000000 in
theorem firsts25_con (l : List Mq) (hl : l.length ≤ 1048576) : ACon Try.prog 14 [.p (.sl 46 (mqs l))] (.p (.sl 1 (nis (fsF l l.length)))) := by
  refine wBody Try.tab Try.mixed Try.func14 rfl rfl Try.ntmps14 (by simp) (by simp) fun Q hr hn => ?_
  repeat' first | (refine hK _ ?_; clear hK) | (refine hK _ _ ?_; clear hK) | (clear hK; refine hK _ ?_; clear hK) | (clear hK; clear hK; refine hK _ ?_; clear hK) | (clear hK; clear hK; clear hK; refine hK _ ?_; clear hK) | (clear hK; clear hK; clear hK; clear hK; refine hK _ ?_; clear hK) | (refine wSeq fun K hK => ?_) | ((first | refine wReg ?_ | refine wDrwQ rfl (by kernel_rfl) ?_ | refine wDrwI ?_ | refine wDrw (by kernel_rfl) ?_); simp only [List.map_cons, List.map_nil, strip]) | ((first | refine wIs fun K hK => ?_ | refine wOs fun K hK => ?_ | refine wQs fun K hK => ?_ | refine CallK_plain ?_ | refine CallQ_plain ?_ | refine CallR_plain ?_ | refine wCond ?_); simp) | (refine wIn ?_; refine And.intro (by kernel_rfl) ?_; try simp only [thenA_n]) | (first | refine wBlock ?_ | refine wScope ?_) | ((first | refine wRet ?_ | refine wExit ?_ | refine wSkip ?_); try simp) | ((first | refine wLabel ?_ | refine wOn ?_ | refine wQn ?_); try simp only [thenA_n])
  refine wLoopG [.row 3 3 1] (fun N st => ∃ k, k + N = l.length ∧ st.s 0 = .p (.sl 46 (mqs l)) ∧ st.s 3 = .row 3 ∧ st.b 3 = some (.row 3 1 (nis (fsF l k))) ∧ st.s 6 = .p (.sl 46 (mqs l)) ∧ st.s 7 = .p (I l.length) ∧ st.s 8 = .p (I k)) l.length ⟨0, by simp [fsF, nis]⟩ fun K N st hL ⟨k, hk, g0, g3, b3, g6, g7, g8⟩ => ?_
  by_cases hlt : k < l.length
  case neg =>
    have hlt' : ¬ (k : Int) < l.length := by omega
    have hkl : k = l.length := by omega
    subst hkl
    repeat' first | (refine hK _ ?_; clear hK) | (refine hK _ _ ?_; clear hK) | (clear hK; refine hK _ ?_; clear hK) | (clear hK; clear hK; refine hK _ ?_; clear hK) | (clear hK; clear hK; clear hK; refine hK _ ?_; clear hK) | (clear hK; clear hK; clear hK; clear hK; refine hK _ ?_; clear hK) | (refine wSeq fun K hK => ?_) | ((first | refine wReg ?_ | refine wDrwQ rfl (by kernel_rfl) ?_ | refine wDrwI ?_ | refine wDrw (by kernel_rfl) ?_); simp only [List.map_cons, List.map_nil, strip]) | ((first | refine wIs fun K hK => ?_ | refine wOs fun K hK => ?_ | refine wQs fun K hK => ?_ | refine CallK_plain ?_ | refine CallQ_plain ?_ | refine CallR_plain ?_ | refine wCond ?_); simp [g0, g3, b3, g6, g7, g8, hlt, hlt']) | (refine wIn ?_; refine And.intro (by kernel_rfl) ?_; try simp only [thenA_n]) | (first | refine wBlock ?_ | refine wScope ?_) | ((first | refine wRet ?_ | refine wExit ?_ | refine wSkip ?_); try simp) | ((first | refine wLabel ?_ | refine wOn ?_ | refine wQn ?_); try simp only [thenA_n])
    all_goals apply hr
    all_goals simp [Try.f14, g3, b3]
  have hlt' : (k : Int) < l.length := by omega
  have hw := wrapS k _ hlt (by omega)
  have he := mqs_get hlt
  have hF1 : (∃ p, ∃ h : p < k, wy (l[p]'(by omega)) = wy l[k]) → fsF l (k + 1) = fsF l k := fun ⟨p, h, e⟩ => by
    rw [fsF, dif_pos hlt, if_pos]
    refine List.mem_map.2 ⟨l[p]'(by omega), ?_, e⟩
    have : (l.take k)[p]? = some (l[p]'(by omega)) := by rw [List.getElem?_take_of_lt h, List.getElem?_eq_getElem]
    exact List.mem_of_getElem? this
  have hF2 : (∀ p, ∀ h : p < k, ¬ wy (l[p]'(by omega)) = wy l[k]) → fsF l (k + 1) = fsF l k ++ [k] := fun hno => by
    rw [fsF, dif_pos hlt, if_neg]
    intro hm
    obtain ⟨m, h1, h2⟩ := List.mem_map.1 hm
    obtain ⟨p, h3, h4⟩ := List.getElem_of_mem h1
    have h5 : p < k := by have := h3; simp at this; omega
    exact hno p h5 (by rw [← h2, ← h4, List.getElem_take])
  have hfl := fs_len l k
  have hs1 := nis_snoc (fsF l k) k
  have hG := fun (j : Nat) (h : j < l.length) => mqs_get (l := l) h
  generalize hB : fsF l k = F at *
  have hmy : wy l[k] = ⟨l[k].fr, l[k].to⟩ := rfl
  repeat' first | (refine hK _ ?_; clear hK) | (refine hK _ _ ?_; clear hK) | (clear hK; refine hK _ ?_; clear hK) | (clear hK; clear hK; refine hK _ ?_; clear hK) | (clear hK; clear hK; clear hK; refine hK _ ?_; clear hK) | (clear hK; clear hK; clear hK; clear hK; refine hK _ ?_; clear hK) | (refine wSeq fun K hK => ?_) | ((first | refine wReg ?_ | refine wDrwQ rfl (by kernel_rfl) ?_ | refine wDrwI ?_ | refine wDrw (by kernel_rfl) ?_); simp only [List.map_cons, List.map_nil, strip]) | ((first | refine wIs fun K hK => ?_ | refine wOs fun K hK => ?_ | refine wQs fun K hK => ?_ | refine CallK_plain ?_ | refine CallQ_plain ?_ | refine CallR_plain ?_ | refine wCond ?_); simp [g0, g3, b3, g6, g7, g8, hlt, hlt', hw]) | (refine wIn ?_; refine And.intro (by kernel_rfl) ?_; try simp only [thenA_n]) | (first | refine wBlock ?_ | refine wScope ?_) | ((first | refine wRet ?_ | refine wExit ?_ | refine wSkip ?_); try simp) | ((first | refine wLabel ?_ | refine wOn ?_ | refine wQn ?_); try simp only [thenA_n])
  refine wLoop (fun N2 st => ∃ j, j + N2 = k ∧ (∀ p, ∀ h : p < j, ∀ hp : p < l.length, ¬ wy l[p] = wy l[k]) ∧ st.s 0 = .p (.sl 46 (mqs l)) ∧ st.s 3 = .row 3 ∧ st.b 3 = some (.row 3 1 (nis F)) ∧ st.s 4 = .p (I k) ∧ st.s 6 = .p (.sl 46 (mqs l)) ∧ st.s 7 = .p (I l.length) ∧ st.s 8 = .p (I k) ∧ st.s 11 = .p (I k) ∧ st.s 12 = .p (I j)) k ⟨0, by omega, fun p h => by omega, by simp [g0, g3, b3, g6, g7, g8]⟩ fun K2 N2 st2 hL2 ⟨j, hj, hno, e0, e3, c3, e4, e6, e7, e8, e11, e12⟩ => ?_
  by_cases hjk : j < k
  · have hjk' : (j : Int) < (k : Int) := by omega
    have hjl : j < l.length := by omega
    have hjl' : (j : Int) < l.length := by omega
    have hwj := wrapS j _ hjl (by omega)
    have hej := hG j hjl
    have hstep : (¬ wy l[j] = wy l[k]) → ∀ p, ∀ h : p < j + 1, ∀ hp : p < l.length, ¬ wy l[p] = wy l[k] := fun h p hp1 hp2 => by
      by_cases hpj : p = j
      · subst hpj; exact h
      · exact hno p (by omega) hp2
    have hfd : wy l[j] = wy l[k] → fsF l (k + 1) = F := fun h => hF1 ⟨j, hjk, h⟩
    have hiff : wy l[j] = wy l[k] ↔ (l[j].fr = l[k].fr ∧ l[j].to = l[k].to) := by unfold wy; rw [Pr.ext2]
    clear hF1 hF2 hno hG hmy
    generalize hQ2 : l[j] = z at *
    generalize hQ : l[k] = m at *
    by_cases q1 : z.fr = m.fr
    · have o1 := eq_true q1
      by_cases q2 : z.to = m.to
      · have o2 := eq_true q2
        have hF := hfd (hiff.2 ⟨q1, q2⟩)
        repeat' first | (refine hK _ ?_; clear hK) | (refine hK _ _ ?_; clear hK) | (clear hK; refine hK _ ?_; clear hK) | (clear hK; clear hK; refine hK _ ?_; clear hK) | (clear hK; clear hK; clear hK; refine hK _ ?_; clear hK) | (clear hK; clear hK; clear hK; clear hK; refine hK _ ?_; clear hK) | (refine wSeq fun K hK => ?_) | ((first | refine wReg ?_ | refine wDrwQ rfl (by kernel_rfl) ?_ | refine wDrwI ?_ | refine wDrw (by kernel_rfl) ?_); simp only [List.map_cons, List.map_nil, strip]) | ((first | refine wIs fun K hK => ?_ | refine wOs fun K hK => ?_ | refine wQs fun K hK => ?_ | refine CallK_plain ?_ | refine CallQ_plain ?_ | refine CallR_plain ?_ | refine wCond ?_); simp [e0, e3, c3, e4, e6, e7, e8, e11, e12, hlt, hlt', he, hQ, hQ2, hjk, hjk', hjl, hjl', hwj, hej, o1, o2, hw]) | (refine wIn ?_; refine And.intro (by kernel_rfl) ?_; try simp only [thenA_n]) | (first | refine wBlock ?_ | refine wScope ?_) | ((first | refine wRet ?_ | refine wExit ?_ | refine wSkip ?_); try simp) | ((first | refine wLabel ?_ | refine wOn ?_ | refine wQn ?_); try simp only [thenA_n])
        refine hL _ (N - 1) (by omega) ⟨k + 1, by omega, ?_⟩
        simp [e0, e3, c3, e6, e7, e8, hw, hF]
      · have o2 := eq_false q2
        repeat' first | (refine hK _ ?_; clear hK) | (refine hK _ _ ?_; clear hK) | (clear hK; refine hK _ ?_; clear hK) | (clear hK; clear hK; refine hK _ ?_; clear hK) | (clear hK; clear hK; clear hK; refine hK _ ?_; clear hK) | (clear hK; clear hK; clear hK; clear hK; refine hK _ ?_; clear hK) | (refine wSeq fun K hK => ?_) | ((first | refine wReg ?_ | refine wDrwQ rfl (by kernel_rfl) ?_ | refine wDrwI ?_ | refine wDrw (by kernel_rfl) ?_); simp only [List.map_cons, List.map_nil, strip]) | ((first | refine wIs fun K hK => ?_ | refine wOs fun K hK => ?_ | refine wQs fun K hK => ?_ | refine CallK_plain ?_ | refine CallQ_plain ?_ | refine CallR_plain ?_ | refine wCond ?_); simp [e0, e3, c3, e4, e6, e7, e8, e11, e12, hlt, hlt', he, hQ, hQ2, hjk, hjk', hjl, hjl', hwj, hej, o1, o2, hw]) | (refine wIn ?_; refine And.intro (by kernel_rfl) ?_; try simp only [thenA_n]) | (first | refine wBlock ?_ | refine wScope ?_) | ((first | refine wRet ?_ | refine wExit ?_ | refine wSkip ?_); try simp) | ((first | refine wLabel ?_ | refine wOn ?_ | refine wQn ?_); try simp only [thenA_n])
        refine hL2 _ (N2 - 1) (by omega) ⟨j + 1, by omega, hstep (fun h => q2 (hiff.1 h).2), ?_⟩
        simp [e0, e3, c3, e4, e6, e7, e8, e11, e12, hwj]
    · have o1 := eq_false q1
      repeat' first | (refine hK _ ?_; clear hK) | (refine hK _ _ ?_; clear hK) | (clear hK; refine hK _ ?_; clear hK) | (clear hK; clear hK; refine hK _ ?_; clear hK) | (clear hK; clear hK; clear hK; refine hK _ ?_; clear hK) | (clear hK; clear hK; clear hK; clear hK; refine hK _ ?_; clear hK) | (refine wSeq fun K hK => ?_) | ((first | refine wReg ?_ | refine wDrwQ rfl (by kernel_rfl) ?_ | refine wDrwI ?_ | refine wDrw (by kernel_rfl) ?_); simp only [List.map_cons, List.map_nil, strip]) | ((first | refine wIs fun K hK => ?_ | refine wOs fun K hK => ?_ | refine wQs fun K hK => ?_ | refine CallK_plain ?_ | refine CallQ_plain ?_ | refine CallR_plain ?_ | refine wCond ?_); simp [e0, e3, c3, e4, e6, e7, e8, e11, e12, hlt, hlt', he, hQ, hQ2, hjk, hjk', hjl, hjl', hwj, hej, o1, hw]) | (refine wIn ?_; refine And.intro (by kernel_rfl) ?_; try simp only [thenA_n]) | (first | refine wBlock ?_ | refine wScope ?_) | ((first | refine wRet ?_ | refine wExit ?_ | refine wSkip ?_); try simp) | ((first | refine wLabel ?_ | refine wOn ?_ | refine wQn ?_); try simp only [thenA_n])
      refine hL2 _ (N2 - 1) (by omega) ⟨j + 1, by omega, hstep (fun h => q1 (hiff.1 h).1), ?_⟩
      simp [e0, e3, c3, e4, e6, e7, e8, e11, e12, hwj]
  · have hjk' : ¬ (j : Int) < (k : Int) := by omega
    have hjk2 : j = k := by omega
    subst hjk2
    have hF := hF2 fun p h => hno p h (by omega)
    repeat' first | (refine And.intro (by (try simp only [nis_len, List.length_cons, List.length_nil]); omega) ?_) | (refine hK _ ?_; clear hK) | (refine hK _ _ ?_; clear hK) | (clear hK; refine hK _ ?_; clear hK) | (clear hK; clear hK; refine hK _ ?_; clear hK) | (clear hK; clear hK; clear hK; refine hK _ ?_; clear hK) | (clear hK; clear hK; clear hK; clear hK; refine hK _ ?_; clear hK) | (refine wSeq fun K hK => ?_) | ((first | refine wReg ?_ | refine wDrwQ rfl (by kernel_rfl) ?_ | refine wDrwI ?_ | refine wDrw (by kernel_rfl) ?_); simp only [List.map_cons, List.map_nil, strip]) | ((first | refine wIs fun K hK => ?_ | refine wOs fun K hK => ?_ | refine wQs fun K hK => ?_ | refine CallK_plain ?_ | refine CallQ_plain ?_ | refine CallR_plain ?_ | refine wCond ?_); simp [e0, e3, c3, e4, e6, e7, e8, e11, e12, hw]) | (refine wIn ?_; refine And.intro (by kernel_rfl) ?_; try simp only [thenA_n]) | (first | refine wBlock ?_ | refine wScope ?_) | ((first | refine wRet ?_ | refine wExit ?_ | refine wSkip ?_); try simp) | ((first | refine wLabel ?_ | refine wOn ?_ | refine wQn ?_); try simp only [thenA_n])
    refine hL _ (N - 1) (by omega) ⟨j + 1, by omega, ?_⟩
    simp [e0, e3, c3, e6, e7, e8, hw, hF, hs1]
theorem er_ne {l : List Mq} {i j : Nat} (hj : j < l.length) (h : ¬ j = i) : (l.take (j + 1)).eraseIdx i = (l.take j).eraseIdx i ++ [l[j]] := by
  rw [List.take_succ_eq_append_getElem hj]
  have hl : (l.take j).length = j := by rw [List.length_take]; omega
  by_cases g : i < j
  · rw [List.eraseIdx_append_of_lt_length (by omega)]
  · rw [List.eraseIdx_append_of_length_le (by omega), List.eraseIdx_of_length_le (l := l.take j) (by omega), List.eraseIdx_of_length_le (l := [l[j]]) (by simp; omega)]
theorem er_eq {l : List Mq} {i : Nat} (hi : i < l.length) : (l.take (i + 1)).eraseIdx i = (l.take i).eraseIdx i := by
  rw [List.take_succ_eq_append_getElem hi]
  have hl : (l.take i).length = i := by rw [List.length_take]; omega
  rw [List.eraseIdx_append_of_length_le (by omega), List.eraseIdx_of_length_le (l := l.take i) (by omega), hl, Nat.sub_self]
  simp
set_option maxHeartbeats 8000000 in
theorem take25_con (l : List Mq) (k : Int) (ho : ∀ m ∈ l, OkM m) (hl : l.length ≤ 1048575) : ACon Try.prog 9 [.p (.sl 46 (mqs l)), .p (I k)] (tkV l k) := by
  have c0 := own25_con l ho (by omega)
  have cF := firsts25_con l (by omega)
  have hfl := fs_len l l.length
  have hlt := fs_lt l l.length
  by_cases h1 : k < 0
  · rw [show tkV l k = .tup [.p (.agg mq0.cells), .p (.sl 46 (mqs l)), .p (B false)] by unfold tkV tkA; rw [if_pos h1]]
    have h1' := eq_true h1
    generalize fsF l l.length = G at *
    refine wBody Try.tab Try.mixed Try.func9 rfl rfl Try.ntmps9 (by simp) (by simp) fun Q hr hn => ?_
    repeat' first | (refine wFrzR 12 (mqs l) rfl ?_; simp [frz, sub, sub0, subB]) | (refine hK _ ?_; clear hK) | (refine hK _ _ ?_; clear hK) | (clear hK; refine hK _ ?_; clear hK) | (clear hK; clear hK; refine hK _ ?_; clear hK) | (clear hK; clear hK; clear hK; refine hK _ ?_; clear hK) | (clear hK; clear hK; clear hK; clear hK; refine hK _ ?_; clear hK) | (refine wSeq fun K hK => ?_) | ((first | refine wReg ?_ | refine wDrwQ rfl (by kernel_rfl) ?_ | refine wDrwI ?_ | refine wDrw (by kernel_rfl) ?_); simp only [List.map_cons, List.map_nil, strip]) | ((first | refine wIs fun K hK => ?_ | refine wOs fun K hK => ?_ | refine wQs fun K hK => ?_ | refine CallK_plain ?_ | refine CallQ_plain ?_ | refine CallR_plain ?_ | refine wCond ?_); simp [h1']) | (refine wIn ?_; refine And.intro (by kernel_rfl) ?_; try simp only [thenA_n]) | (first | refine wBlock ?_ | refine wScope ?_) | ((first | refine wRet ?_ | refine wExit ?_ | refine wSkip ?_); try simp) | ((first | refine wLabel ?_ | refine wOn ?_ | refine wQn ?_); try simp only [thenA_n]) | (refine CallE.pure (c0) rfl ?_) | (refine CallE.lent (c0) rfl ?_) | (refine CallF.pure (c0) rfl ?_) | (refine CallF.lent (c0) rfl ?_) | (refine CallE.own (c0) ?_) | (refine CallH.pure (c0) rfl ?_) | (refine CallH.lent (c0) rfl ?_) | (refine CallH.own (c0) ?_) | (refine CallE.pure (cF) rfl ?_) | (refine CallE.lent (cF) rfl ?_) | (refine CallF.pure (cF) rfl ?_) | (refine CallF.lent (cF) rfl ?_) | (refine CallE.own (cF) ?_) | (refine CallH.pure (cF) rfl ?_) | (refine CallH.lent (cF) rfl ?_) | (refine CallH.own (cF) ?_)
    all_goals apply hr
    all_goals simp [Try.f9, mq0, Mq.cells, show ByteArray.empty = bs [] from rfl]
  have h1' := eq_false h1
  obtain ⟨n, rfl⟩ : ∃ n : Nat, k = (n : Int) := ⟨k.toNat, by omega⟩
  have hvv : tkV l (n : Int) = match (fsF l l.length)[n]? with
    | none => .tup [.p (.agg mq0.cells), .p (.sl 46 (mqs l)), .p (B false)]
    | some i => .tup [.p (.agg ((l[i]?).getD mq0).cells), .p (.sl 46 (mqs (l.eraseIdx i))), .p (B true)] := by
    unfold tkV tkA; rw [if_neg h1]; rfl
  rw [hvv]
  clear hvv
  generalize hG : fsF l l.length = G at *
  by_cases h3 : n < G.length
  case neg =>
    rw [List.getElem?_eq_none_iff.2 (by omega)]
    have h3' := eq_true (show (G.length : Int) ≤ (n : Int) by omega)
    refine wBody Try.tab Try.mixed Try.func9 rfl rfl Try.ntmps9 (by simp) (by simp) fun Q hr hn => ?_
    repeat' first | (refine wFrzR 12 (mqs l) rfl ?_; simp [frz, sub, sub0, subB]) | (refine hK _ ?_; clear hK) | (refine hK _ _ ?_; clear hK) | (clear hK; refine hK _ ?_; clear hK) | (clear hK; clear hK; refine hK _ ?_; clear hK) | (clear hK; clear hK; clear hK; refine hK _ ?_; clear hK) | (clear hK; clear hK; clear hK; clear hK; refine hK _ ?_; clear hK) | (refine wSeq fun K hK => ?_) | ((first | refine wReg ?_ | refine wDrwQ rfl (by kernel_rfl) ?_ | refine wDrwI ?_ | refine wDrw (by kernel_rfl) ?_); simp only [List.map_cons, List.map_nil, strip]) | ((first | refine wIs fun K hK => ?_ | refine wOs fun K hK => ?_ | refine wQs fun K hK => ?_ | refine CallK_plain ?_ | refine CallQ_plain ?_ | refine CallR_plain ?_ | refine wCond ?_); simp [h1', h3']) | (refine wIn ?_; refine And.intro (by kernel_rfl) ?_; try simp only [thenA_n]) | (first | refine wBlock ?_ | refine wScope ?_) | ((first | refine wRet ?_ | refine wExit ?_ | refine wSkip ?_); try simp) | ((first | refine wLabel ?_ | refine wOn ?_ | refine wQn ?_); try simp only [thenA_n]) | (refine CallE.pure (c0) rfl ?_) | (refine CallE.lent (c0) rfl ?_) | (refine CallF.pure (c0) rfl ?_) | (refine CallF.lent (c0) rfl ?_) | (refine CallE.own (c0) ?_) | (refine CallH.pure (c0) rfl ?_) | (refine CallH.lent (c0) rfl ?_) | (refine CallH.own (c0) ?_) | (refine CallE.pure (cF) rfl ?_) | (refine CallE.lent (cF) rfl ?_) | (refine CallF.pure (cF) rfl ?_) | (refine CallF.lent (cF) rfl ?_) | (refine CallE.own (cF) ?_) | (refine CallH.pure (cF) rfl ?_) | (refine CallH.lent (cF) rfl ?_) | (refine CallH.own (cF) ?_)
    all_goals apply hr
    all_goals simp [Try.f9, mq0, Mq.cells, show ByteArray.empty = bs [] from rfl]
  rw [List.getElem?_eq_getElem h3]
  have h3' := eq_false (show ¬ (G.length : Int) ≤ (n : Int) by omega)
  have h3i : (n : Int) < (G.length : Int) := by omega
  have hi := hlt _ (List.getElem_mem h3)
  have hg1 := nis_get h3
  generalize hg2 : G[n] = i at *
  show ACon Try.prog 9 [.p (.sl 46 (mqs l)), .p (I (n : Nat))] (.tup [.p (.agg ((l[i]?).getD mq0).cells), .p (.sl 46 (mqs (l.eraseIdx i))), .p (B true)])
  rw [List.getElem?_eq_getElem hi, Option.getD_some]
  have he := mqs_get hi
  have hi' : (i : Int) < (l.length : Int) := by omega
  generalize hQ : l[i] = m at *
  refine wBody Try.tab Try.mixed Try.func9 rfl rfl Try.ntmps9 (by simp) (by simp) fun Q hr hn => ?_
  repeat' first | (refine wFrzR 12 (mqs l) rfl ?_; simp [frz, sub, sub0, subB]) | (refine hK _ ?_; clear hK) | (refine hK _ _ ?_; clear hK) | (clear hK; refine hK _ ?_; clear hK) | (clear hK; clear hK; refine hK _ ?_; clear hK) | (clear hK; clear hK; clear hK; refine hK _ ?_; clear hK) | (clear hK; clear hK; clear hK; clear hK; refine hK _ ?_; clear hK) | (refine wSeq fun K hK => ?_) | ((first | refine wReg ?_ | refine wDrwQ rfl (by kernel_rfl) ?_ | refine wDrwI ?_ | refine wDrw (by kernel_rfl) ?_); simp only [List.map_cons, List.map_nil, strip]) | ((first | refine wIs fun K hK => ?_ | refine wOs fun K hK => ?_ | refine wQs fun K hK => ?_ | refine CallK_plain ?_ | refine CallQ_plain ?_ | refine CallR_plain ?_ | refine wCond ?_); simp [h1', h3', h3, h3i, hg1, hg2, he, hi, hi', hQ]) | (refine wIn ?_; refine And.intro (by kernel_rfl) ?_; try simp only [thenA_n]) | (first | refine wBlock ?_ | refine wScope ?_) | ((first | refine wRet ?_ | refine wExit ?_ | refine wSkip ?_); try simp) | ((first | refine wLabel ?_ | refine wOn ?_ | refine wQn ?_); try simp only [thenA_n]) | (refine CallE.pure (c0) rfl ?_) | (refine CallE.lent (c0) rfl ?_) | (refine CallF.pure (c0) rfl ?_) | (refine CallF.lent (c0) rfl ?_) | (refine CallE.own (c0) ?_) | (refine CallH.pure (c0) rfl ?_) | (refine CallH.lent (c0) rfl ?_) | (refine CallH.own (c0) ?_) | (refine CallE.pure (cF) rfl ?_) | (refine CallE.lent (cF) rfl ?_) | (refine CallF.pure (cF) rfl ?_) | (refine CallF.lent (cF) rfl ?_) | (refine CallE.own (cF) ?_) | (refine CallH.pure (cF) rfl ?_) | (refine CallH.lent (cF) rfl ?_) | (refine CallH.own (cF) ?_)
  refine wLoopG [.row 9 51 46] (fun N st => ∃ j, j + N = l.length ∧ st.s 0 = .p (.sl 46 (mqs l)) ∧ st.s 1 = .p (I (n : Nat)) ∧ st.s 4 = .ptr 4 0 ∧ (∃ z, st.b 4 = some (.box 51 z) ∧ z.length = 46) ∧ st.s 7 = .p (.sl 1 (nis G)) ∧ st.s 8 = .ptr 8 0 ∧ st.b 8 = some (.box 51 (m.cells.map V.p)) ∧ st.s 9 = .row 9 ∧ st.b 9 = some (.row 51 46 (mqs ((l.take j).eraseIdx i))) ∧ st.s 33 = .p (I l.length) ∧ st.s 34 = .p (I j)) l.length ⟨0, by simp [frzL, gh1, mqs]⟩ fun K N st hL ⟨j, hj, g0, g1, g4, ⟨z, b4, hz⟩, g7, g8, b8, g9, b9, g33, g34⟩ => ?_
  by_cases hlj : j < l.length
  · have hlj' : (j : Int) < l.length := by omega
    have hwj := wrapS j _ hlj (by omega)
    have hej := mqs_get hlj
    have hel : ((l.take j).eraseIdx i).length ≤ j := Nat.le_trans (List.length_eraseIdx_le _ _) (by simp; omega)
    by_cases hji : j = i
    · have hs := er_eq hi
      subst hji
      repeat' first | (refine hK _ ?_; clear hK) | (refine hK _ _ ?_; clear hK) | (clear hK; refine hK _ ?_; clear hK) | (clear hK; clear hK; refine hK _ ?_; clear hK) | (clear hK; clear hK; clear hK; refine hK _ ?_; clear hK) | (clear hK; clear hK; clear hK; clear hK; refine hK _ ?_; clear hK) | (refine wSeq fun K hK => ?_) | ((first | refine wReg ?_ | refine wDrwQ rfl (by kernel_rfl) ?_ | refine wDrwI ?_ | refine wDrw (by kernel_rfl) ?_); simp only [List.map_cons, List.map_nil, strip]) | ((first | refine wIs fun K hK => ?_ | refine wOs fun K hK => ?_ | refine wQs fun K hK => ?_ | refine CallK_plain ?_ | refine CallQ_plain ?_ | refine CallR_plain ?_ | refine wCond ?_); simp [g0, g1, g4, b4, g7, g8, b8, g9, b9, g33, g34, hlj, hlj', hwj, h3, h3i, hg1, hg2]) | (refine wIn ?_; refine And.intro (by kernel_rfl) ?_; try simp only [thenA_n]) | (first | refine wBlock ?_ | refine wScope ?_) | ((first | refine wRet ?_ | refine wExit ?_ | refine wSkip ?_); try simp) | ((first | refine wLabel ?_ | refine wOn ?_ | refine wQn ?_); try simp only [thenA_n])
      refine hL _ (N - 1) (by omega) ⟨j + 1, by omega, ?_⟩
      simp [g0, g1, g4, b4, hz, g7, g8, b8, g9, b9, g33, g34, hwj, hs]
    · have hs := er_ne hlj hji
      have hx := mqs_snoc ((l.take j).eraseIdx i) l[j]
      rw [← hs] at hx
      have hji' := eq_false (show ¬ (j : Int) = (i : Int) by omega)
      generalize (l.take j).eraseIdx i = E0 at *
      generalize hQj : l[j] = y at *
      repeat' first | (refine And.intro (by (try simp only [mqs_len, List.length_cons, List.length_nil]); omega) ?_) | (refine hK _ ?_; clear hK) | (refine hK _ _ ?_; clear hK) | (clear hK; refine hK _ ?_; clear hK) | (clear hK; clear hK; refine hK _ ?_; clear hK) | (clear hK; clear hK; clear hK; refine hK _ ?_; clear hK) | (clear hK; clear hK; clear hK; clear hK; refine hK _ ?_; clear hK) | (refine wSeq fun K hK => ?_) | ((first | refine wReg ?_ | refine wDrwQ rfl (by kernel_rfl) ?_ | refine wDrwI ?_ | refine wDrw (by kernel_rfl) ?_); simp only [List.map_cons, List.map_nil, strip]) | ((first | refine wIs fun K hK => ?_ | refine wOs fun K hK => ?_ | refine wQs fun K hK => ?_ | refine CallK_plain ?_ | refine CallQ_plain ?_ | refine CallR_plain ?_ | refine wCond ?_); simp [g0, g1, g4, b4, g7, g8, b8, g9, b9, g33, g34, hlj, hlj', hwj, h3, h3i, hg1, hg2, hej, hQj, hji', hji]) | (refine wIn ?_; refine And.intro (by kernel_rfl) ?_; try simp only [thenA_n]) | (first | refine wBlock ?_ | refine wScope ?_) | ((first | refine wRet ?_ | refine wExit ?_ | refine wSkip ?_); try simp) | ((first | refine wLabel ?_ | refine wOn ?_ | refine wQn ?_); try simp only [thenA_n])
      refine hL _ (N - 1) (by omega) ⟨j + 1, by omega, ?_⟩
      simp [g0, g1, g4, b4, hz, g7, g8, b8, g9, b9, g33, g34, hwj, hx]
  · have hlj' : ¬ (j : Int) < l.length := by omega
    rw [List.take_of_length_le (by omega)] at b9
    repeat' first | (refine hK _ ?_; clear hK) | (refine hK _ _ ?_; clear hK) | (clear hK; refine hK _ ?_; clear hK) | (clear hK; clear hK; refine hK _ ?_; clear hK) | (clear hK; clear hK; clear hK; refine hK _ ?_; clear hK) | (clear hK; clear hK; clear hK; clear hK; refine hK _ ?_; clear hK) | (refine wSeq fun K hK => ?_) | ((first | refine wReg ?_ | refine wDrwQ rfl (by kernel_rfl) ?_ | refine wDrwI ?_ | refine wDrw (by kernel_rfl) ?_); simp only [List.map_cons, List.map_nil, strip]) | ((first | refine wIs fun K hK => ?_ | refine wOs fun K hK => ?_ | refine wQs fun K hK => ?_ | refine CallK_plain ?_ | refine CallQ_plain ?_ | refine CallR_plain ?_ | refine wCond ?_); simp [g0, g1, g4, b4, g7, g8, b8, g9, b9, g33, g34, hlj, hlj', hz]) | (refine wIn ?_; refine And.intro (by kernel_rfl) ?_; try simp only [thenA_n]) | (first | refine wBlock ?_ | refine wScope ?_) | ((first | refine wRet ?_ | refine wExit ?_ | refine wSkip ?_); try simp) | ((first | refine wLabel ?_ | refine wOn ?_ | refine wQn ?_); try simp only [thenA_n])
    all_goals apply hr
    all_goals simp [Try.f9, g4, b4, hz, b8, g9, b9]
end Go.Proofs.Ytechjohebkcjiaa
