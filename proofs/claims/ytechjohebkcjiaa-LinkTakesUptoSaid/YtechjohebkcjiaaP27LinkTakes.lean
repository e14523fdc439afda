/- Texts that the proof needs: LK3. -/
import Derived.Test.YtechjohebkcjiaaP24LinkTakes
/- Messages on their way: the first of each way; one taken; those between two, of one, lost. -/
namespace Go.Proofs.Ytechjohebkcjiaa
set_option linter.unusedSimpArgs false
set_option linter.unusedVariables false
set_option maxRecDepth 8000
open Go Go.Av
attribute [local simp] Try.T1 Try.T2 Try.T3 Try.T4 Try.T5 Try.T9 Try.T12 Try.T15 Try.T16 Try.T17 Try.T21 Try.T22 Try.T23 Try.T24 Try.T25 Try.T27 Try.T29 Try.T30 Try.T31 Try.T32 Try.T33 Try.T35 Try.T37 Try.T38 Try.T40 Try.T41 Try.T42 Try.T44 Try.T45 Try.T47 Try.T49 Try.T51 Try.T53 Try.T54 Try.T55 Try.T56 Try.T57 Try.T58 Try.T59 Try.T60 Try.T61 Try.T62 Try.T63 Try.T64 Try.T66 Try.T67 Try.T68 Try.T69 Try.T70 Try.T72 Try.T74 Try.T76 Try.T77 Try.T78 Try.T79 Try.T80 Try.T81 Try.T82 Try.T83 Try.T84 Try.T85 Try.T87 Try.T88 Try.T89 Try.T90 Try.T91 Try.T92 Try.T93 Try.T94 Try.T96 Try.T97 Try.T98 Try.T99 Try.T100 Try.T101 Try.T102 Try.T103 Try.T104 Try.T105 Try.T106 Try.T107 Try.T108 Try.T109 Try.T110 Try.T111 Try.T113 Try.T114 Try.T115 Try.T116 Try.T117 Try.T118 Try.T119 Try.T120 Try.T121 Try.T122 Try.T123 Try.T124 Try.T125 Try.T126 Try.T127 Try.T128 Try.T129 Try.T130 Try.T133 Try.T136 Try.T137 Try.T140 Try.T141
attribute [local irreducible] Go.Av.CallK Go.Av.CallE Go.Av.CallQ Go.Av.CallF Go.Av.CallR Go.Av.CallH Go.Av.Con
def wy (m : Mq) : Pr := ⟨m.fr, m.to⟩
/-- The places, among the first k, of those ahead of which none goes the same way; their ways. -/
def fsF (l : List Mq) : Nat → List Nat
  | 0 => []
  | k + 1 => if h : k < l.length then (if wy l[k] ∈ (l.take k).map wy then fsF l k else fsF l k ++ [k]) else fsF l k
def wsF (l : List Mq) : Nat → List Pr
  | 0 => []
  | k + 1 => if h : k < l.length then (if wy l[k] ∈ (l.take k).map wy then wsF l k else wsF l k ++ [wy l[k]]) else wsF l k
def nis (l : List Nat) : List (List PV) := l.map fun n => [I (n : Nat)]
@[simp] theorem nis_len (l : List Nat) : (nis l).length = l.length := by simp [nis]
@[simp] theorem nis_getElem (l : List Nat) (k : Nat) (h : k < (nis l).length) : (nis l)[k] = [I ((l[k]'(by simpa using h) : Nat) : Int)] := by simp [nis]
theorem nis_get {l : List Nat} {k : Nat} (h : k < l.length) : (nis l)[k]? = some [I ((l[k] : Nat) : Int)] := by simp [nis, h]
theorem nis_snoc (l : List Nat) (n : Nat) : nis l ++ [[I (n : Nat)]] = nis (l ++ [n]) := by simp [nis]
theorem ws_mem (l : List Mq) (p : Pr) : ∀ k, k ≤ l.length → (p ∈ wsF l k ↔ p ∈ (l.take k).map wy)
  | 0, _ => by simp [wsF]
  | k + 1, h => by
    have ih := ws_mem l p k (by omega)
    rw [wsF, dif_pos (by omega), List.take_succ_eq_append_getElem (by omega), List.map_append, List.mem_append]
    by_cases g : wy l[k] ∈ (l.take k).map wy
    · rw [if_pos g, ih]
      constructor
      · exact .inl
      · rintro (h1 | h1)
        · exact h1
        · simp only [List.map_cons, List.map_nil, List.mem_singleton] at h1
          rw [h1]; exact g
    · rw [if_neg g, List.mem_append, ih]; simp
theorem ws_len (l : List Mq) : ∀ k, (wsF l k).length = (fsF l k).length
  | 0 => rfl
  | k + 1 => by
    have ih := ws_len l k
    rw [wsF, fsF]
    split
    · split
      · exact ih
      · simp [ih]
    · exact ih
theorem fs_len (l : List Mq) : ∀ k, (fsF l k).length ≤ k
  | 0 => by simp [fsF]
  | k + 1 => by
    have ih := fs_len l k
    rw [fsF]
    split
    · split
      · omega
      · simp only [List.length_append, List.length_cons, List.length_nil]; omega
    · omega
theorem fs_pre (l : List Mq) (k : Nat) : ∀ d, ∃ r, fsF l (k + d) = fsF l k ++ r
  | 0 => ⟨[], by simp⟩
  | d + 1 => by
    obtain ⟨r, h⟩ := fs_pre l k d
    rw [show k + (d + 1) = (k + d) + 1 by omega, fsF]
    split
    · split
      · exact ⟨r, h⟩
      · exact ⟨r ++ [k + d], by rw [h, List.append_assoc]⟩
    · exact ⟨r, h⟩
theorem fs_take {l : List Mq} {k : Nat} (h : k ≤ l.length) : (fsF l l.length).take (fsF l k).length = fsF l k := by
  obtain ⟨r, hr⟩ := fs_pre l k (l.length - k)
  rw [show k + (l.length - k) = l.length by omega] at hr
  rw [hr, List.take_left]
theorem fs_lt (l : List Mq) : ∀ k, ∀ i ∈ fsF l k, i < l.length
  | 0, i, h => by simp [fsF] at h
  | k + 1, i, h => by
    rw [fsF] at h
    split at h
    · split at h
      · exact fs_lt l k i h
      · rcases List.mem_append.1 h with h | h
        · exact fs_lt l k i h
        · rw [List.mem_singleton] at h; omega
    · exact fs_lt l k i h
theorem wy2 (m : Mq) (p : Pr) : p = wy m ↔ (p.a = m.fr ∧ p.b = m.to) := by rw [Pr.ext2]; rfl
theorem prs_snoc2 (l : List Pr) (m : Mq) : prs l ++ [[I m.fr, I m.to]] = prs (l ++ [wy m]) := by simp [prs, Pr.cells, wy]
set_option maxHeartbeats 4000000 in
theorem firsts_con (l : List Mq) (most : Nat) (hl : l.length ≤ 1048576) (hm : most ≤ 1048577) : ACon Try.prog 24 [.p (.sl 46 (mqs l)), .p (I (most : Nat))] (.p (.sl 1 (nis ((fsF l l.length).take most)))) := by
  refine wBody Try.tab Try.mixed Try.func24 rfl rfl Try.ntmps24 (by simp) (by simp) fun Q hr hn => ?_
  repeat' first | (refine hK _ ?_; clear hK) | (refine hK _ _ ?_; clear hK) | (clear hK; refine hK _ ?_; clear hK) | (clear hK; clear hK; refine hK _ ?_; clear hK) | (clear hK; clear hK; clear hK; refine hK _ ?_; clear hK) | (clear hK; clear hK; clear hK; clear hK; refine hK _ ?_; clear hK) | (refine wSeq fun K hK => ?_) | ((first | refine wReg ?_ | refine wDrwQ rfl (by kernel_rfl) ?_ | refine wDrwI ?_ | refine wDrw (by kernel_rfl) ?_); simp only [List.map_cons, List.map_nil, strip]) | ((first | refine wIs fun K hK => ?_ | refine wOs fun K hK => ?_ | refine wQs fun K hK => ?_ | refine CallK_plain ?_ | refine CallQ_plain ?_ | refine CallR_plain ?_ | refine wCond ?_); simp) | (refine wIn ?_; refine And.intro (by kernel_rfl) ?_; try simp only [thenA_n]) | (first | refine wBlock ?_ | refine wScope ?_) | ((first | refine wRet ?_ | refine wExit ?_ | refine wSkip ?_); try simp) | ((first | refine wLabel ?_ | refine wOn ?_ | refine wQn ?_); try simp only [thenA_n])
  refine wLoopG [.row 5 3 1, .row 6 87 2] (fun N st => ∃ k, k + N = l.length ∧ (fsF l k).length ≤ most ∧ st.s 0 = .p (.sl 46 (mqs l)) ∧ st.s 1 = .p (I (most : Nat)) ∧ st.s 5 = .row 5 ∧ st.s 6 = .row 6 ∧ st.b 5 = some (.row 3 1 (nis (fsF l k))) ∧ st.b 6 = some (.row 87 2 (prs (wsF l k))) ∧ st.s 11 = .p (.sl 46 (mqs l)) ∧ st.s 12 = .p (I l.length) ∧ st.s 13 = .p (I k)) l.length ⟨0, by simp [fsF, wsF, nis, prs]⟩ fun K N st hL ⟨k, hk, hle, g0, g1, g5, g6, b5, b6, g11, g12, g13⟩ => ?_
  by_cases hlt : k < l.length
  case neg =>
    have hlt' : ¬ (k : Int) < l.length := by omega
    have hkl : k = l.length := by omega
    subst hkl
    rw [List.take_of_length_le hle] at hr
    repeat' first | (refine hK _ ?_; clear hK) | (refine hK _ _ ?_; clear hK) | (clear hK; refine hK _ ?_; clear hK) | (clear hK; clear hK; refine hK _ ?_; clear hK) | (clear hK; clear hK; clear hK; refine hK _ ?_; clear hK) | (clear hK; clear hK; clear hK; clear hK; refine hK _ ?_; clear hK) | (refine wSeq fun K hK => ?_) | ((first | refine wReg ?_ | refine wDrwQ rfl (by kernel_rfl) ?_ | refine wDrwI ?_ | refine wDrw (by kernel_rfl) ?_); simp only [List.map_cons, List.map_nil, strip]) | ((first | refine wIs fun K hK => ?_ | refine wOs fun K hK => ?_ | refine wQs fun K hK => ?_ | refine CallK_plain ?_ | refine CallQ_plain ?_ | refine CallR_plain ?_ | refine wCond ?_); simp [g0, g1, g5, g6, b5, b6, g11, g12, g13, hlt, hlt']) | (refine wIn ?_; refine And.intro (by kernel_rfl) ?_; try simp only [thenA_n]) | (first | refine wBlock ?_ | refine wScope ?_) | ((first | refine wRet ?_ | refine wExit ?_ | refine wSkip ?_); try simp) | ((first | refine wLabel ?_ | refine wOn ?_ | refine wQn ?_); try simp only [thenA_n])
    all_goals apply hr
    all_goals simp [Try.f24, g5, b5]
  have hlt' : (k : Int) < l.length := by omega
  by_cases hmo : (fsF l k).length = most
  · have hmo' : ((fsF l k).length : Int) = (most : Int) := by omega
    have ht : (fsF l l.length).take most = fsF l k := by rw [← hmo]; exact fs_take (by omega)
    rw [ht] at hr
    repeat' first | (refine hK _ ?_; clear hK) | (refine hK _ _ ?_; clear hK) | (clear hK; refine hK _ ?_; clear hK) | (clear hK; clear hK; refine hK _ ?_; clear hK) | (clear hK; clear hK; clear hK; refine hK _ ?_; clear hK) | (clear hK; clear hK; clear hK; clear hK; refine hK _ ?_; clear hK) | (refine wSeq fun K hK => ?_) | ((first | refine wReg ?_ | refine wDrwQ rfl (by kernel_rfl) ?_ | refine wDrwI ?_ | refine wDrw (by kernel_rfl) ?_); simp only [List.map_cons, List.map_nil, strip]) | ((first | refine wIs fun K hK => ?_ | refine wOs fun K hK => ?_ | refine wQs fun K hK => ?_ | refine CallK_plain ?_ | refine CallQ_plain ?_ | refine CallR_plain ?_ | refine wCond ?_); simp [g0, g1, g5, g6, b5, b6, g11, g12, g13, hlt, hlt', hmo, hmo']) | (refine wIn ?_; refine And.intro (by kernel_rfl) ?_; try simp only [thenA_n]) | (first | refine wBlock ?_ | refine wScope ?_) | ((first | refine wRet ?_ | refine wExit ?_ | refine wSkip ?_); try simp) | ((first | refine wLabel ?_ | refine wOn ?_ | refine wQn ?_); try simp only [thenA_n])
    all_goals apply hr
    all_goals simp [Try.f24, g5, b5]
  have hmo' : ¬ ((fsF l k).length : Int) = (most : Int) := by omega
  have hw := wrapS k _ hlt (by omega)
  have he := mqs_get hlt
  have hF1 : wy l[k] ∈ wsF l k → fsF l (k + 1) = fsF l k := fun h => by rw [fsF, dif_pos hlt, if_pos ((ws_mem l _ k (by omega)).1 h)]
  have hF2 : wy l[k] ∉ wsF l k → fsF l (k + 1) = fsF l k ++ [k] := fun h => by rw [fsF, dif_pos hlt, if_neg fun g => h ((ws_mem l _ k (by omega)).2 g)]
  have hW1 : wy l[k] ∈ wsF l k → wsF l (k + 1) = wsF l k := fun h => by rw [wsF, dif_pos hlt, if_pos ((ws_mem l _ k (by omega)).1 h)]
  have hW2 : wy l[k] ∉ wsF l k → wsF l (k + 1) = wsF l k ++ [wy l[k]] := fun h => by rw [wsF, dif_pos hlt, if_neg fun g => h ((ws_mem l _ k (by omega)).2 g)]
  have hwl := ws_len l k
  have hfl := fs_len l k
  have hs1 := nis_snoc (fsF l k) k
  have hs2 := prs_snoc2 (wsF l k) l[k]
  have hmem := fun (x : Pr) => wy2 l[k] x
  have hP := fun (j : Nat) (h : j < (wsF l k).length) => prs_get (l := wsF l k) h
  generalize hQ : l[k] = m at *
  generalize hA : wsF l k = W at *
  generalize hB : fsF l k = F at *
  repeat' first | (refine hK _ ?_; clear hK) | (refine hK _ _ ?_; clear hK) | (clear hK; refine hK _ ?_; clear hK) | (clear hK; clear hK; refine hK _ ?_; clear hK) | (clear hK; clear hK; clear hK; refine hK _ ?_; clear hK) | (clear hK; clear hK; clear hK; clear hK; refine hK _ ?_; clear hK) | (refine wSeq fun K hK => ?_) | ((first | refine wReg ?_ | refine wDrwQ rfl (by kernel_rfl) ?_ | refine wDrwI ?_ | refine wDrw (by kernel_rfl) ?_); simp only [List.map_cons, List.map_nil, strip]) | ((first | refine wIs fun K hK => ?_ | refine wOs fun K hK => ?_ | refine wQs fun K hK => ?_ | refine CallK_plain ?_ | refine CallQ_plain ?_ | refine CallR_plain ?_ | refine wCond ?_); simp [g0, g1, g5, g6, b5, b6, g11, g12, g13, hlt, hlt', hmo, hmo', he, hQ, mq_fr, mq_to]) | (refine wIn ?_; refine And.intro (by kernel_rfl) ?_; try simp only [thenA_n]) | (first | refine wBlock ?_ | refine wScope ?_) | ((first | refine wRet ?_ | refine wExit ?_ | refine wSkip ?_); try simp) | ((first | refine wLabel ?_ | refine wOn ?_ | refine wQn ?_); try simp only [thenA_n])
  refine wLoop (fun N2 st => ∃ j, j + N2 = W.length ∧ wy m ∉ W.take j ∧ st.s 0 = .p (.sl 46 (mqs l)) ∧ st.s 1 = .p (I (most : Nat)) ∧ st.s 5 = .row 5 ∧ st.s 6 = .row 6 ∧ st.b 5 = some (.row 3 1 (nis F)) ∧ st.b 6 = some (.row 87 2 (prs W)) ∧ st.s 7 = .p (I k) ∧ st.s 8 = .ptr 8 0 ∧ st.b 8 = some (.box 87 [.p (I m.fr), .p (I m.to)]) ∧ st.s 11 = .p (.sl 46 (mqs l)) ∧ st.s 12 = .p (I l.length) ∧ st.s 13 = .p (I k) ∧ st.s 31 = .row 6 ∧ st.s 32 = .p (I W.length) ∧ st.s 33 = .p (I j)) W.length ⟨0, by simp [g0, g1, g5, g6, b5, b6, g11, g12, g13, hQ]⟩ fun K2 N2 st hL2 ⟨j, hj, hno, e0, e1, e5, e6, c5, c6, e7, e8, c8, e11, e12, e13, e31, e32, e33⟩ => ?_
  by_cases hjl : j < W.length
  · have hjl' : (j : Int) < W.length := by omega
    have hwj := wrapS j _ hjl (by omega)
    have hej := hP j hjl
    by_cases o : W[j] = wy m
    · have o12 := (hmem W[j]).1 o
      obtain ⟨o1, o2⟩ := o12
      have hin : wy m ∈ W := o ▸ List.getElem_mem hjl
      have hF := hF1 hin
      have hW := hW1 hin
      repeat' first | (refine hK _ ?_; clear hK) | (refine hK _ _ ?_; clear hK) | (clear hK; refine hK _ ?_; clear hK) | (clear hK; clear hK; refine hK _ ?_; clear hK) | (clear hK; clear hK; clear hK; refine hK _ ?_; clear hK) | (clear hK; clear hK; clear hK; clear hK; refine hK _ ?_; clear hK) | (refine wSeq fun K hK => ?_) | ((first | refine wReg ?_ | refine wDrwQ rfl (by kernel_rfl) ?_ | refine wDrwI ?_ | refine wDrw (by kernel_rfl) ?_); simp only [List.map_cons, List.map_nil, strip]) | ((first | refine wIs fun K hK => ?_ | refine wOs fun K hK => ?_ | refine wQs fun K hK => ?_ | refine CallK_plain ?_ | refine CallQ_plain ?_ | refine CallR_plain ?_ | refine wCond ?_); simp [e0, e1, e5, e6, c5, c6, e7, e8, c8, e11, e12, e13, e31, e32, e33, hjl, hjl', hwj, hej, o1, o2, hw]) | (refine wIn ?_; refine And.intro (by kernel_rfl) ?_; try simp only [thenA_n]) | (first | refine wBlock ?_ | refine wScope ?_) | ((first | refine wRet ?_ | refine wExit ?_ | refine wSkip ?_); try simp) | ((first | refine wLabel ?_ | refine wOn ?_ | refine wQn ?_); try simp only [thenA_n])
      refine hL _ (N - 1) (by omega) ⟨k + 1, by omega, by rw [hF]; omega, ?_⟩
      simp [e0, e1, e5, e6, c5, c6, e11, e12, e13, hw, hF, hW]
    · have o12 : ¬ (W[j].a = m.fr ∧ W[j].b = m.to) := fun h => o ((hmem W[j]).2 h)
      repeat' first | (refine hK _ ?_; clear hK) | (refine hK _ _ ?_; clear hK) | (clear hK; refine hK _ ?_; clear hK) | (clear hK; clear hK; refine hK _ ?_; clear hK) | (clear hK; clear hK; clear hK; refine hK _ ?_; clear hK) | (clear hK; clear hK; clear hK; clear hK; refine hK _ ?_; clear hK) | (refine wSeq fun K hK => ?_) | ((first | refine wReg ?_ | refine wDrwQ rfl (by kernel_rfl) ?_ | refine wDrwI ?_ | refine wDrw (by kernel_rfl) ?_); simp only [List.map_cons, List.map_nil, strip]) | ((first | refine wIs fun K hK => ?_ | refine wOs fun K hK => ?_ | refine wQs fun K hK => ?_ | refine CallK_plain ?_ | refine CallQ_plain ?_ | refine CallR_plain ?_ | refine wCond ?_); simp [e0, e1, e5, e6, c5, c6, e7, e8, c8, e11, e12, e13, e31, e32, e33, hjl, hjl', hwj, hej, o12, hw]) | (refine wIn ?_; refine And.intro (by kernel_rfl) ?_; try simp only [thenA_n]) | (first | refine wBlock ?_ | refine wScope ?_) | ((first | refine wRet ?_ | refine wExit ?_ | refine wSkip ?_); try simp) | ((first | refine wLabel ?_ | refine wOn ?_ | refine wQn ?_); try simp only [thenA_n]) | (intro _)
      all_goals first | exact o12 | skip
      refine hL2 _ (N2 - 1) (by omega) ⟨j + 1, by omega, ?_, ?_⟩
      · rw [List.take_succ_eq_append_getElem hjl, List.mem_append, List.mem_singleton]
        exact fun h => h.elim hno fun h => o h.symm
      · simp [e0, e1, e5, e6, c5, c6, e7, e8, c8, e11, e12, e13, e31, e32, e33, hwj]
  · have hjl' : ¬ (j : Int) < W.length := by omega
    rw [List.take_of_length_le (by omega)] at hno
    have hF := hF2 hno
    have hW := hW2 hno
    repeat' first | (refine And.intro (by (try simp only [nis_len, prs_len, List.length_cons, List.length_nil]); omega) (Or.inl ?_)) | (refine And.intro (by (try simp only [nis_len, prs_len, List.length_cons, List.length_nil]); omega) ?_) | (refine Or.inl ?_) | (refine hK _ ?_; clear hK) | (refine hK _ _ ?_; clear hK) | (clear hK; refine hK _ ?_; clear hK) | (clear hK; clear hK; refine hK _ ?_; clear hK) | (clear hK; clear hK; clear hK; refine hK _ ?_; clear hK) | (clear hK; clear hK; clear hK; clear hK; refine hK _ ?_; clear hK) | (refine wSeq fun K hK => ?_) | ((first | refine wReg ?_ | refine wDrwQ rfl (by kernel_rfl) ?_ | refine wDrwI ?_ | refine wDrw (by kernel_rfl) ?_); simp only [List.map_cons, List.map_nil, strip]) | ((first | refine wIs fun K hK => ?_ | refine wOs fun K hK => ?_ | refine wQs fun K hK => ?_ | refine CallK_plain ?_ | refine CallQ_plain ?_ | refine CallR_plain ?_ | refine wCond ?_); simp [e0, e1, e5, e6, c5, c6, e7, e8, c8, e11, e12, e13, e31, e32, e33, hjl, hjl', hw]) | (refine wIn ?_; refine And.intro (by kernel_rfl) ?_; try simp only [thenA_n]) | (first | refine wBlock ?_ | refine wScope ?_) | ((first | refine wRet ?_ | refine wExit ?_ | refine wSkip ?_); try simp) | ((first | refine wLabel ?_ | refine wOn ?_ | refine wQn ?_); try simp only [thenA_n])
    refine hL _ (N - 1) (by omega) ⟨k + 1, by omega, by rw [hF]; simp only [List.length_append, List.length_cons, List.length_nil]; omega, ?_⟩
    simp [e0, e1, e5, e6, c5, c6, e11, e12, e13, hw, hF, hW, hs1, hs2]
end Go.Proofs.Ytechjohebkcjiaa
