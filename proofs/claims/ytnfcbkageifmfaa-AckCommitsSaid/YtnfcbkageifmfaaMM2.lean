/- MERGED QA QB QC QD QE QF QG ZC ZA I01 -/
import Derived.Test.YtnfcbkageifmfaaMM1
import Derived.Test.YtnfcbkageifmfaaAvMore
/- Layer 5's leaves: what is in a list, members, and what may be. -/
namespace Go.Proofs.Ytnfcbkageifmfaa
set_option linter.unusedSimpArgs false
set_option linter.unusedVariables false
open Go Go.Av
attribute [local simp] Try.T1 Try.T2 Try.T3 Try.T4 Try.T5 Try.T9 Try.T12 Try.T15 Try.T16 Try.T17 Try.T21 Try.T22 Try.T23 Try.T25 Try.T27 Try.T29 Try.T30 Try.T31 Try.T32 Try.T33 Try.T35 Try.T37 Try.T38 Try.T40 Try.T41 Try.T42 Try.T43 Try.T44 Try.T45 Try.T46 Try.T47 Try.T48 Try.T49 Try.T50 Try.T51 Try.T52 Try.T53 Try.T54 Try.T56 Try.T57 Try.T58 Try.T59 Try.T60 Try.T61 Try.T62 Try.T64 Try.T66 Try.T67 Try.T68 Try.T69 Try.T71 Try.T72 Try.T73 Try.T74 Try.T75 Try.T76 Try.T77 Try.T78 Try.T79 Try.T80 Try.T81 Try.T82 Try.T83 Try.T84 Try.T85 Try.T86 Try.T87 Try.T88 Try.T89 Try.T90 Try.T91 Try.T92 Try.T93 Try.T94 Try.T95 Try.T97 Try.T98 Try.T99 Try.T100 Try.T101 Try.T102 Try.T103 Try.T104 Try.T105 Try.T106 Try.T107 Try.T108 Try.T109 Try.T110 Try.T111 Try.T112 Try.T113 Try.T114 Try.T115 Try.T116 Try.T117 Try.T120 Try.T123 Try.T124 Try.T127 Try.T128
attribute [local irreducible] Go.Av.CallK Go.Av.CallE Go.Av.CallQ Go.Av.CallF Go.Av.CallR Go.Av.CallH Go.Av.Con
theorem take_snoc {α : Type} (l : List α) (k : Nat) (h : k < l.length) : l.take (k + 1) = l.take k ++ [l[k]] := List.take_succ_eq_append_getElem h
/-! ### What is in a list -/
def idx (n : Int) : List Int → Nat → Int
  | [], _ => -1
  | a :: l, k => if n = a then k else idx n l (k + 1)
theorem idx_mem (n : Int) : ∀ (l : List Int) (k : Nat), decide (0 ≤ idx n l k) = decide (n ∈ l)
  | [], k => by simp [idx]
  | a :: l, k => by
    by_cases h : n = a
    · subst h; simp [idx]
    · simp [idx, h, idx_mem n l (k + 1)]
def ints (l : List Int) : List (List PV) := l.map fun n => [I n]
@[simp] theorem ints_len (l : List Int) : (ints l).length = l.length := by simp [ints]
@[simp] theorem ints_getElem (l : List Int) (k : Nat) (h : k < (ints l).length) : (ints l)[k] = [I (l[k]'(by simpa using h))] := by simp [ints]
theorem ints_get {l : List Int} {k : Nat} (h : k < l.length) : (ints l)[k]? = some [I l[k]] := by simp [ints, h]
theorem index_con (l : List Int) (n : Int) : ACon Try.prog 86 [.p (.sl 1 (ints l)), .p (I n)] (.p (I (idx n l 0))) := by
  refine ACon.len ⟨Try.f86, Try.func86, rfl, rfl⟩ 0 _ _ rfl fun hlen => ?_
  simp only [ints_len] at hlen
  refine wBody Try.tab Try.mixed Try.func86 rfl rfl Try.ntmps86 (by simp) (by simp) fun Q hr hn => ?_
  repeat' first | (refine hK _ ?_; clear hK) | (refine hK _ _ ?_; clear hK) | (clear hK; refine hK _ ?_; clear hK) | (clear hK; clear hK; refine hK _ ?_; clear hK) | (clear hK; clear hK; clear hK; refine hK _ ?_; clear hK) | (clear hK; clear hK; clear hK; clear hK; refine hK _ ?_; clear hK) | (refine wSeq fun K hK => ?_) | ((first | refine wReg ?_ | refine wDrwQ rfl (by kernel_rfl) ?_ | refine wDrwI ?_ | refine wDrw (by kernel_rfl) ?_); simp only [List.map_cons, List.map_nil, strip]) | ((first | refine wIs fun K hK => ?_ | refine wOs fun K hK => ?_ | refine wQs fun K hK => ?_ | refine CallK_plain ?_ | refine CallQ_plain ?_ | refine CallR_plain ?_ | refine wCond ?_); simp) | (refine wIn ?_; refine And.intro (by kernel_rfl) ?_; try simp only [thenA_n]) | (first | refine wBlock ?_ | refine wScope ?_) | ((first | refine wRet ?_ | refine wExit ?_ | refine wSkip ?_); try simp) | ((first | refine wLabel ?_ | refine wOn ?_ | refine wQn ?_); try simp only [thenA_n])
  refine wLoop (fun N st => ∃ k, k + N = l.length ∧ st.s 0 = .p (.sl 1 (ints l)) ∧ st.s 1 = .p (I n) ∧ st.s 7 = .p (I l.length) ∧ st.s 8 = .p (I k) ∧ idx n (l.drop k) k = idx n l 0) l.length ⟨0, by simp⟩ fun K N st hL ⟨k, hk, h0, h1, h7, h8, hi⟩ => ?_
  by_cases hlt : k < l.length
  · have hw := wrapS k _ hlt hlen
    have he := ints_get hlt
    rw [List.drop_eq_getElem_cons hlt, idx] at hi
    repeat' first | (refine hK _ ?_; clear hK) | (refine hK _ _ ?_; clear hK) | (clear hK; refine hK _ ?_; clear hK) | (clear hK; clear hK; refine hK _ ?_; clear hK) | (clear hK; clear hK; clear hK; refine hK _ ?_; clear hK) | (clear hK; clear hK; clear hK; clear hK; refine hK _ ?_; clear hK) | (refine wSeq fun K hK => ?_) | ((first | refine wReg ?_ | refine wDrwQ rfl (by kernel_rfl) ?_ | refine wDrwI ?_ | refine wDrw (by kernel_rfl) ?_); simp only [List.map_cons, List.map_nil, strip]) | ((first | refine wIs fun K hK => ?_ | refine wOs fun K hK => ?_ | refine wQs fun K hK => ?_ | refine CallK_plain ?_ | refine CallQ_plain ?_ | refine CallR_plain ?_ | refine wCond ?_); simp [h0, h1, h7, h8, hlt, hw, he]) | (refine wIn ?_; refine And.intro (by kernel_rfl) ?_; try simp only [thenA_n]) | (first | refine wBlock ?_ | refine wScope ?_) | ((first | refine wRet ?_ | refine wExit ?_ | refine wSkip ?_); try simp) | ((first | refine wLabel ?_ | refine wOn ?_ | refine wQn ?_); try simp only [thenA_n]) | (refine And.intro (fun hc => ?_) (fun hc => ?_))
    · apply hr
      rw [if_pos hc] at hi
      simp [Try.f86, hi]
    · rw [if_neg hc] at hi
      refine hL _ (N - 1) (by omega) ⟨k + 1, by omega, ?_⟩
      simp [h0, h1, h7, hw, hi]
  · have hd : l.drop k = [] := List.drop_of_length_le (by omega)
    rw [hd] at hi
    repeat' first | (refine hK _ ?_; clear hK) | (refine hK _ _ ?_; clear hK) | (clear hK; refine hK _ ?_; clear hK) | (clear hK; clear hK; refine hK _ ?_; clear hK) | (clear hK; clear hK; clear hK; refine hK _ ?_; clear hK) | (clear hK; clear hK; clear hK; clear hK; refine hK _ ?_; clear hK) | (refine wSeq fun K hK => ?_) | ((first | refine wReg ?_ | refine wDrwQ rfl (by kernel_rfl) ?_ | refine wDrwI ?_ | refine wDrw (by kernel_rfl) ?_); simp only [List.map_cons, List.map_nil, strip]) | ((first | refine wIs fun K hK => ?_ | refine wOs fun K hK => ?_ | refine wQs fun K hK => ?_ | refine CallK_plain ?_ | refine CallQ_plain ?_ | refine CallR_plain ?_ | refine wCond ?_); simp [h0, h1, h7, h8, hlt]) | (refine wIn ?_; refine And.intro (by kernel_rfl) ?_; try simp only [thenA_n]) | (first | refine wBlock ?_ | refine wScope ?_) | ((first | refine wRet ?_ | refine wExit ?_ | refine wSkip ?_); try simp) | ((first | refine wLabel ?_ | refine wOn ?_ | refine wQn ?_); try simp only [thenA_n])
    apply hr
    simp [Try.f86, ← hi, idx]
theorem contains_con (l : List Int) (n : Int) : ACon Try.prog 85 [.p (.sl 1 (ints l)), .p (I n)] (.p (B (decide (n ∈ l)))) := by
  have h := index_con l n
  have hz := idx_mem n l 0
  generalize idx n l 0 = z at h hz
  rw [← hz]
  refine wBody Try.tab Try.mixed Try.func85 rfl rfl Try.ntmps85 (by simp) (by simp) fun Q hr hn => ?_
  repeat' first | (refine hK _ ?_; clear hK) | (refine hK _ _ ?_; clear hK) | (clear hK; refine hK _ ?_; clear hK) | (clear hK; clear hK; refine hK _ ?_; clear hK) | (clear hK; clear hK; clear hK; refine hK _ ?_; clear hK) | (clear hK; clear hK; clear hK; clear hK; refine hK _ ?_; clear hK) | (refine wSeq fun K hK => ?_) | ((first | refine wReg ?_ | refine wDrwQ rfl (by kernel_rfl) ?_ | refine wDrwI ?_ | refine wDrw (by kernel_rfl) ?_); simp only [List.map_cons, List.map_nil, strip]) | ((first | refine wIs fun K hK => ?_ | refine wOs fun K hK => ?_ | refine wQs fun K hK => ?_ | refine CallK_plain ?_ | refine CallQ_plain ?_ | refine CallR_plain ?_ | refine wCond ?_); simp) | (refine wIn ?_; refine And.intro (by kernel_rfl) ?_; try simp only [thenA_n]) | (first | refine wBlock ?_ | refine wScope ?_) | ((first | refine wRet ?_ | refine wExit ?_ | refine wSkip ?_); try simp) | ((first | refine wLabel ?_ | refine wOn ?_ | refine wQn ?_); try simp only [thenA_n]) | (refine CallE.pure (h) rfl ?_) | (refine CallE.lent (h) rfl ?_) | (refine CallF.pure (h) rfl ?_) | (refine CallF.lent (h) rfl ?_) | (refine CallE.own (h) ?_) | (refine CallH.pure (h) rfl ?_) | (refine CallH.lent (h) rfl ?_) | (refine CallH.own (h) ?_)
  apply hr
  simp [Try.f85]
theorem has05_con (l : List Int) (n : Int) : ACon Try.prog 64 [.p (.sl 1 (ints l)), .p (I n)] (.p (B (decide (n ∈ l)))) := by
  refine ACon.len ⟨Try.f64, Try.func64, rfl, rfl⟩ 0 _ _ rfl fun hlen => ?_
  simp only [ints_len] at hlen
  refine wBody Try.tab Try.mixed Try.func64 rfl rfl Try.ntmps64 (by simp) (by simp) fun Q hr hn => ?_
  repeat' first | (refine hK _ ?_; clear hK) | (refine hK _ _ ?_; clear hK) | (clear hK; refine hK _ ?_; clear hK) | (clear hK; clear hK; refine hK _ ?_; clear hK) | (clear hK; clear hK; clear hK; refine hK _ ?_; clear hK) | (clear hK; clear hK; clear hK; clear hK; refine hK _ ?_; clear hK) | (refine wSeq fun K hK => ?_) | ((first | refine wReg ?_ | refine wDrwQ rfl (by kernel_rfl) ?_ | refine wDrwI ?_ | refine wDrw (by kernel_rfl) ?_); simp only [List.map_cons, List.map_nil, strip]) | ((first | refine wIs fun K hK => ?_ | refine wOs fun K hK => ?_ | refine wQs fun K hK => ?_ | refine CallK_plain ?_ | refine CallQ_plain ?_ | refine CallR_plain ?_ | refine wCond ?_); simp) | (refine wIn ?_; refine And.intro (by kernel_rfl) ?_; try simp only [thenA_n]) | (first | refine wBlock ?_ | refine wScope ?_) | ((first | refine wRet ?_ | refine wExit ?_ | refine wSkip ?_); try simp) | ((first | refine wLabel ?_ | refine wOn ?_ | refine wQn ?_); try simp only [thenA_n])
  refine wLoop (fun N st => ∃ k, k + N = l.length ∧ st.s 1 = .p (I n) ∧ st.s 7 = .p (.sl 1 (ints l)) ∧ st.s 8 = .p (I l.length) ∧ st.s 9 = .p (I k) ∧ (n ∈ l ↔ n ∈ l.drop k)) l.length ⟨0, by simp⟩ fun K N st hL ⟨k, hk, h1, h7, h8, h9, hi⟩ => ?_
  by_cases hlt : k < l.length
  · have hw := wrapS k _ hlt hlen
    have he := ints_get hlt
    rw [List.drop_eq_getElem_cons hlt, List.mem_cons] at hi
    repeat' first | (refine hK _ ?_; clear hK) | (refine hK _ _ ?_; clear hK) | (clear hK; refine hK _ ?_; clear hK) | (clear hK; clear hK; refine hK _ ?_; clear hK) | (clear hK; clear hK; clear hK; refine hK _ ?_; clear hK) | (clear hK; clear hK; clear hK; clear hK; refine hK _ ?_; clear hK) | (refine wSeq fun K hK => ?_) | ((first | refine wReg ?_ | refine wDrwQ rfl (by kernel_rfl) ?_ | refine wDrwI ?_ | refine wDrw (by kernel_rfl) ?_); simp only [List.map_cons, List.map_nil, strip]) | ((first | refine wIs fun K hK => ?_ | refine wOs fun K hK => ?_ | refine wQs fun K hK => ?_ | refine CallK_plain ?_ | refine CallQ_plain ?_ | refine CallR_plain ?_ | refine wCond ?_); simp [h1, h7, h8, h9, hlt, hw, he]) | (refine wIn ?_; refine And.intro (by kernel_rfl) ?_; try simp only [thenA_n]) | (first | refine wBlock ?_ | refine wScope ?_) | ((first | refine wRet ?_ | refine wExit ?_ | refine wSkip ?_); try simp) | ((first | refine wLabel ?_ | refine wOn ?_ | refine wQn ?_); try simp only [thenA_n]) | (refine And.intro (fun hc => ?_) (fun hc => ?_))
    · apply hr
      simp [Try.f64]
      rw [hi]; exact .inl hc.symm
    · refine hL _ (N - 1) (by omega) ⟨k + 1, by omega, ?_⟩
      have hc' : ¬ n = l[k] := fun h => hc h.symm
      simp [h1, h7, h8, hw]
      rw [hi]; simp [hc']
  · have hd : l.drop k = [] := List.drop_of_length_le (by omega)
    rw [hd] at hi
    repeat' first | (refine hK _ ?_; clear hK) | (refine hK _ _ ?_; clear hK) | (clear hK; refine hK _ ?_; clear hK) | (clear hK; clear hK; refine hK _ ?_; clear hK) | (clear hK; clear hK; clear hK; refine hK _ ?_; clear hK) | (clear hK; clear hK; clear hK; clear hK; refine hK _ ?_; clear hK) | (refine wSeq fun K hK => ?_) | ((first | refine wReg ?_ | refine wDrwQ rfl (by kernel_rfl) ?_ | refine wDrwI ?_ | refine wDrw (by kernel_rfl) ?_); simp only [List.map_cons, List.map_nil, strip]) | ((first | refine wIs fun K hK => ?_ | refine wOs fun K hK => ?_ | refine wQs fun K hK => ?_ | refine CallK_plain ?_ | refine CallQ_plain ?_ | refine CallR_plain ?_ | refine wCond ?_); simp [h1, h7, h8, h9, hlt]) | (refine wIn ?_; refine And.intro (by kernel_rfl) ?_; try simp only [thenA_n]) | (first | refine wBlock ?_ | refine wScope ?_) | ((first | refine wRet ?_ | refine wExit ?_ | refine wSkip ?_); try simp) | ((first | refine wLabel ?_ | refine wOn ?_ | refine wQn ?_); try simp only [thenA_n])
    apply hr
    simp [Try.f64]
    simpa using hi
/-! ### Members -/
structure Mb where
  (i r w g : Int)
  deriving DecidableEq
def Mb.cells (m : Mb) : List PV := [I m.i, I m.r, I m.w, I m.g]
def mbs (l : List Mb) : List (List PV) := l.map Mb.cells
@[simp] theorem mbs_len (l : List Mb) : (mbs l).length = l.length := by simp [mbs]
@[simp] theorem mbs_getElem (l : List Mb) (k : Nat) (h : k < (mbs l).length) : (mbs l)[k] = [I (l[k]'(by simpa using h)).i, I (l[k]'(by simpa using h)).r, I (l[k]'(by simpa using h)).w, I (l[k]'(by simpa using h)).g] := by simp [mbs, Mb.cells]
theorem mbs_get {l : List Mb} {k : Nat} (h : k < l.length) : (mbs l)[k]? = some [I l[k].i, I l[k].r, I l[k].w, I l[k].g] := by simp [mbs, h, Mb.cells]
structure Cf where
  (ep n kind : Int)
  ms : List Mb
def Cf.cells (c : Cf) : List PV := [I c.ep, I c.n, I c.kind, .sl 4 (mbs c.ms)]
def okM (m : Mb) : Prop := (0 ≤ m.i ∧ m.i ≤ 15) ∧ (m.r = 1 ∨ m.r = 2) ∧ (0 ≤ m.w ∧ m.w ≤ 100) ∧ (0 ≤ m.g ∧ m.g ≤ 7)
instance (m : Mb) : Decidable (okM m) := by unfold okM; infer_instance
theorem within_con (n l : Int) : ACon Try.prog 82 [.p (I n), .p (I l)] (.p (B (decide (0 ≤ n ∧ n ≤ l)))) := by
  by_cases h : 0 ≤ n
  · refine wBody Try.tab Try.mixed Try.func82 rfl rfl Try.ntmps82 (by simp) (by simp) fun Q hr hn => ?_
    repeat' first | (refine hK _ ?_; clear hK) | (refine hK _ _ ?_; clear hK) | (clear hK; refine hK _ ?_; clear hK) | (clear hK; clear hK; refine hK _ ?_; clear hK) | (clear hK; clear hK; clear hK; refine hK _ ?_; clear hK) | (clear hK; clear hK; clear hK; clear hK; refine hK _ ?_; clear hK) | (refine wSeq fun K hK => ?_) | ((first | refine wReg ?_ | refine wDrwQ rfl (by kernel_rfl) ?_ | refine wDrwI ?_ | refine wDrw (by kernel_rfl) ?_); simp only [List.map_cons, List.map_nil, strip]) | ((first | refine wIs fun K hK => ?_ | refine wOs fun K hK => ?_ | refine wQs fun K hK => ?_ | refine CallK_plain ?_ | refine CallQ_plain ?_ | refine CallR_plain ?_ | refine wCond ?_); simp [h]) | (refine wIn ?_; refine And.intro (by kernel_rfl) ?_; try simp only [thenA_n]) | (first | refine wBlock ?_ | refine wScope ?_) | ((first | refine wRet ?_ | refine wExit ?_ | refine wSkip ?_); try simp) | ((first | refine wLabel ?_ | refine wOn ?_ | refine wQn ?_); try simp only [thenA_n])
    all_goals apply hr
    all_goals simp [Try.f82, h]
  · refine wBody Try.tab Try.mixed Try.func82 rfl rfl Try.ntmps82 (by simp) (by simp) fun Q hr hn => ?_
    repeat' first | (refine hK _ ?_; clear hK) | (refine hK _ _ ?_; clear hK) | (clear hK; refine hK _ ?_; clear hK) | (clear hK; clear hK; refine hK _ ?_; clear hK) | (clear hK; clear hK; clear hK; refine hK _ ?_; clear hK) | (clear hK; clear hK; clear hK; clear hK; refine hK _ ?_; clear hK) | (refine wSeq fun K hK => ?_) | ((first | refine wReg ?_ | refine wDrwQ rfl (by kernel_rfl) ?_ | refine wDrwI ?_ | refine wDrw (by kernel_rfl) ?_); simp only [List.map_cons, List.map_nil, strip]) | ((first | refine wIs fun K hK => ?_ | refine wOs fun K hK => ?_ | refine wQs fun K hK => ?_ | refine CallK_plain ?_ | refine CallQ_plain ?_ | refine CallR_plain ?_ | refine wCond ?_); simp [h]) | (refine wIn ?_; refine And.intro (by kernel_rfl) ?_; try simp only [thenA_n]) | (first | refine wBlock ?_ | refine wScope ?_) | ((first | refine wRet ?_ | refine wExit ?_ | refine wSkip ?_); try simp) | ((first | refine wLabel ?_ | refine wOn ?_ | refine wQn ?_); try simp only [thenA_n])
    all_goals apply hr
    all_goals simp [Try.f82, h]
theorem right_con (m : Mb) : ACon Try.prog 83 [.p (.agg m.cells)] (.p (B (decide (okM m)))) := by
  obtain ⟨i, r, w, g⟩ := m
  simp only [Mb.cells, okM]
  have c1 := within_con i 15
  have c2 := within_con w 100
  have c3 := within_con g 7
  by_cases h1 : 0 ≤ i ∧ i ≤ 15
  · rw [decide_eq_true h1] at c1
    by_cases h2 : r = 1
    · by_cases h3 : 0 ≤ w ∧ w ≤ 100
      · rw [decide_eq_true h3] at c2
        refine wBody Try.tab Try.mixed Try.func83 rfl rfl Try.ntmps83 (by simp) (by simp) fun Q hr hn => ?_
        repeat' first | (refine hK _ ?_; clear hK) | (refine hK _ _ ?_; clear hK) | (clear hK; refine hK _ ?_; clear hK) | (clear hK; clear hK; refine hK _ ?_; clear hK) | (clear hK; clear hK; clear hK; refine hK _ ?_; clear hK) | (clear hK; clear hK; clear hK; clear hK; refine hK _ ?_; clear hK) | (refine wSeq fun K hK => ?_) | ((first | refine wReg ?_ | refine wDrwQ rfl (by kernel_rfl) ?_ | refine wDrwI ?_ | refine wDrw (by kernel_rfl) ?_); simp only [List.map_cons, List.map_nil, strip]) | ((first | refine wIs fun K hK => ?_ | refine wOs fun K hK => ?_ | refine wQs fun K hK => ?_ | refine CallK_plain ?_ | refine CallQ_plain ?_ | refine CallR_plain ?_ | refine wCond ?_); simp [h1, h2, h3]) | (refine wIn ?_; refine And.intro (by kernel_rfl) ?_; try simp only [thenA_n]) | (first | refine wBlock ?_ | refine wScope ?_) | ((first | refine wRet ?_ | refine wExit ?_ | refine wSkip ?_); try simp) | ((first | refine wLabel ?_ | refine wOn ?_ | refine wQn ?_); try simp only [thenA_n]) | (refine CallE.pure (c1) rfl ?_) | (refine CallE.lent (c1) rfl ?_) | (refine CallF.pure (c1) rfl ?_) | (refine CallF.lent (c1) rfl ?_) | (refine CallE.own (c1) ?_) | (refine CallH.pure (c1) rfl ?_) | (refine CallH.lent (c1) rfl ?_) | (refine CallH.own (c1) ?_) | (refine CallE.pure (c2) rfl ?_) | (refine CallE.lent (c2) rfl ?_) | (refine CallF.pure (c2) rfl ?_) | (refine CallF.lent (c2) rfl ?_) | (refine CallE.own (c2) ?_) | (refine CallH.pure (c2) rfl ?_) | (refine CallH.lent (c2) rfl ?_) | (refine CallH.own (c2) ?_) | (refine CallE.pure (c3) rfl ?_) | (refine CallE.lent (c3) rfl ?_) | (refine CallF.pure (c3) rfl ?_) | (refine CallF.lent (c3) rfl ?_) | (refine CallE.own (c3) ?_) | (refine CallH.pure (c3) rfl ?_) | (refine CallH.lent (c3) rfl ?_) | (refine CallH.own (c3) ?_)
        all_goals apply hr
        all_goals simp [Try.f83, h1, h2, h3]
      · rw [decide_eq_false h3] at c2
        refine wBody Try.tab Try.mixed Try.func83 rfl rfl Try.ntmps83 (by simp) (by simp) fun Q hr hn => ?_
        repeat' first | (refine hK _ ?_; clear hK) | (refine hK _ _ ?_; clear hK) | (clear hK; refine hK _ ?_; clear hK) | (clear hK; clear hK; refine hK _ ?_; clear hK) | (clear hK; clear hK; clear hK; refine hK _ ?_; clear hK) | (clear hK; clear hK; clear hK; clear hK; refine hK _ ?_; clear hK) | (refine wSeq fun K hK => ?_) | ((first | refine wReg ?_ | refine wDrwQ rfl (by kernel_rfl) ?_ | refine wDrwI ?_ | refine wDrw (by kernel_rfl) ?_); simp only [List.map_cons, List.map_nil, strip]) | ((first | refine wIs fun K hK => ?_ | refine wOs fun K hK => ?_ | refine wQs fun K hK => ?_ | refine CallK_plain ?_ | refine CallQ_plain ?_ | refine CallR_plain ?_ | refine wCond ?_); simp [h1, h2]) | (refine wIn ?_; refine And.intro (by kernel_rfl) ?_; try simp only [thenA_n]) | (first | refine wBlock ?_ | refine wScope ?_) | ((first | refine wRet ?_ | refine wExit ?_ | refine wSkip ?_); try simp) | ((first | refine wLabel ?_ | refine wOn ?_ | refine wQn ?_); try simp only [thenA_n]) | (refine CallE.pure (c1) rfl ?_) | (refine CallE.lent (c1) rfl ?_) | (refine CallF.pure (c1) rfl ?_) | (refine CallF.lent (c1) rfl ?_) | (refine CallE.own (c1) ?_) | (refine CallH.pure (c1) rfl ?_) | (refine CallH.lent (c1) rfl ?_) | (refine CallH.own (c1) ?_) | (refine CallE.pure (c2) rfl ?_) | (refine CallE.lent (c2) rfl ?_) | (refine CallF.pure (c2) rfl ?_) | (refine CallF.lent (c2) rfl ?_) | (refine CallE.own (c2) ?_) | (refine CallH.pure (c2) rfl ?_) | (refine CallH.lent (c2) rfl ?_) | (refine CallH.own (c2) ?_)
        all_goals apply hr
        all_goals simp [Try.f83, h1, h2, h3]
    · by_cases h2' : r = 2
      · by_cases h3 : 0 ≤ w ∧ w ≤ 100
        · rw [decide_eq_true h3] at c2
          refine wBody Try.tab Try.mixed Try.func83 rfl rfl Try.ntmps83 (by simp) (by simp) fun Q hr hn => ?_
          repeat' first | (refine hK _ ?_; clear hK) | (refine hK _ _ ?_; clear hK) | (clear hK; refine hK _ ?_; clear hK) | (clear hK; clear hK; refine hK _ ?_; clear hK) | (clear hK; clear hK; clear hK; refine hK _ ?_; clear hK) | (clear hK; clear hK; clear hK; clear hK; refine hK _ ?_; clear hK) | (refine wSeq fun K hK => ?_) | ((first | refine wReg ?_ | refine wDrwQ rfl (by kernel_rfl) ?_ | refine wDrwI ?_ | refine wDrw (by kernel_rfl) ?_); simp only [List.map_cons, List.map_nil, strip]) | ((first | refine wIs fun K hK => ?_ | refine wOs fun K hK => ?_ | refine wQs fun K hK => ?_ | refine CallK_plain ?_ | refine CallQ_plain ?_ | refine CallR_plain ?_ | refine wCond ?_); simp [h1, h2, h2', h3]) | (refine wIn ?_; refine And.intro (by kernel_rfl) ?_; try simp only [thenA_n]) | (first | refine wBlock ?_ | refine wScope ?_) | ((first | refine wRet ?_ | refine wExit ?_ | refine wSkip ?_); try simp) | ((first | refine wLabel ?_ | refine wOn ?_ | refine wQn ?_); try simp only [thenA_n]) | (refine CallE.pure (c1) rfl ?_) | (refine CallE.lent (c1) rfl ?_) | (refine CallF.pure (c1) rfl ?_) | (refine CallF.lent (c1) rfl ?_) | (refine CallE.own (c1) ?_) | (refine CallH.pure (c1) rfl ?_) | (refine CallH.lent (c1) rfl ?_) | (refine CallH.own (c1) ?_) | (refine CallE.pure (c2) rfl ?_) | (refine CallE.lent (c2) rfl ?_) | (refine CallF.pure (c2) rfl ?_) | (refine CallF.lent (c2) rfl ?_) | (refine CallE.own (c2) ?_) | (refine CallH.pure (c2) rfl ?_) | (refine CallH.lent (c2) rfl ?_) | (refine CallH.own (c2) ?_) | (refine CallE.pure (c3) rfl ?_) | (refine CallE.lent (c3) rfl ?_) | (refine CallF.pure (c3) rfl ?_) | (refine CallF.lent (c3) rfl ?_) | (refine CallE.own (c3) ?_) | (refine CallH.pure (c3) rfl ?_) | (refine CallH.lent (c3) rfl ?_) | (refine CallH.own (c3) ?_)
          all_goals apply hr
          all_goals simp [Try.f83, h1, h2, h2', h3]
        · rw [decide_eq_false h3] at c2
          refine wBody Try.tab Try.mixed Try.func83 rfl rfl Try.ntmps83 (by simp) (by simp) fun Q hr hn => ?_
          repeat' first | (refine hK _ ?_; clear hK) | (refine hK _ _ ?_; clear hK) | (clear hK; refine hK _ ?_; clear hK) | (clear hK; clear hK; refine hK _ ?_; clear hK) | (clear hK; clear hK; clear hK; refine hK _ ?_; clear hK) | (clear hK; clear hK; clear hK; clear hK; refine hK _ ?_; clear hK) | (refine wSeq fun K hK => ?_) | ((first | refine wReg ?_ | refine wDrwQ rfl (by kernel_rfl) ?_ | refine wDrwI ?_ | refine wDrw (by kernel_rfl) ?_); simp only [List.map_cons, List.map_nil, strip]) | ((first | refine wIs fun K hK => ?_ | refine wOs fun K hK => ?_ | refine wQs fun K hK => ?_ | refine CallK_plain ?_ | refine CallQ_plain ?_ | refine CallR_plain ?_ | refine wCond ?_); simp [h1, h2, h2']) | (refine wIn ?_; refine And.intro (by kernel_rfl) ?_; try simp only [thenA_n]) | (first | refine wBlock ?_ | refine wScope ?_) | ((first | refine wRet ?_ | refine wExit ?_ | refine wSkip ?_); try simp) | ((first | refine wLabel ?_ | refine wOn ?_ | refine wQn ?_); try simp only [thenA_n]) | (refine CallE.pure (c1) rfl ?_) | (refine CallE.lent (c1) rfl ?_) | (refine CallF.pure (c1) rfl ?_) | (refine CallF.lent (c1) rfl ?_) | (refine CallE.own (c1) ?_) | (refine CallH.pure (c1) rfl ?_) | (refine CallH.lent (c1) rfl ?_) | (refine CallH.own (c1) ?_) | (refine CallE.pure (c2) rfl ?_) | (refine CallE.lent (c2) rfl ?_) | (refine CallF.pure (c2) rfl ?_) | (refine CallF.lent (c2) rfl ?_) | (refine CallE.own (c2) ?_) | (refine CallH.pure (c2) rfl ?_) | (refine CallH.lent (c2) rfl ?_) | (refine CallH.own (c2) ?_)
          all_goals apply hr
          all_goals simp [Try.f83, h1, h2, h2', h3]
      · refine wBody Try.tab Try.mixed Try.func83 rfl rfl Try.ntmps83 (by simp) (by simp) fun Q hr hn => ?_
        repeat' first | (refine hK _ ?_; clear hK) | (refine hK _ _ ?_; clear hK) | (clear hK; refine hK _ ?_; clear hK) | (clear hK; clear hK; refine hK _ ?_; clear hK) | (clear hK; clear hK; clear hK; refine hK _ ?_; clear hK) | (clear hK; clear hK; clear hK; clear hK; refine hK _ ?_; clear hK) | (refine wSeq fun K hK => ?_) | ((first | refine wReg ?_ | refine wDrwQ rfl (by kernel_rfl) ?_ | refine wDrwI ?_ | refine wDrw (by kernel_rfl) ?_); simp only [List.map_cons, List.map_nil, strip]) | ((first | refine wIs fun K hK => ?_ | refine wOs fun K hK => ?_ | refine wQs fun K hK => ?_ | refine CallK_plain ?_ | refine CallQ_plain ?_ | refine CallR_plain ?_ | refine wCond ?_); simp [h1, h2, h2']) | (refine wIn ?_; refine And.intro (by kernel_rfl) ?_; try simp only [thenA_n]) | (first | refine wBlock ?_ | refine wScope ?_) | ((first | refine wRet ?_ | refine wExit ?_ | refine wSkip ?_); try simp) | ((first | refine wLabel ?_ | refine wOn ?_ | refine wQn ?_); try simp only [thenA_n]) | (refine CallE.pure (c1) rfl ?_) | (refine CallE.lent (c1) rfl ?_) | (refine CallF.pure (c1) rfl ?_) | (refine CallF.lent (c1) rfl ?_) | (refine CallE.own (c1) ?_) | (refine CallH.pure (c1) rfl ?_) | (refine CallH.lent (c1) rfl ?_) | (refine CallH.own (c1) ?_)
        all_goals apply hr
        all_goals simp [Try.f83, h1, h2, h2']
  · rw [decide_eq_false h1] at c1
    refine wBody Try.tab Try.mixed Try.func83 rfl rfl Try.ntmps83 (by simp) (by simp) fun Q hr hn => ?_
    repeat' first | (refine hK _ ?_; clear hK) | (refine hK _ _ ?_; clear hK) | (clear hK; refine hK _ ?_; clear hK) | (clear hK; clear hK; refine hK _ ?_; clear hK) | (clear hK; clear hK; clear hK; refine hK _ ?_; clear hK) | (clear hK; clear hK; clear hK; clear hK; refine hK _ ?_; clear hK) | (refine wSeq fun K hK => ?_) | ((first | refine wReg ?_ | refine wDrwQ rfl (by kernel_rfl) ?_ | refine wDrwI ?_ | refine wDrw (by kernel_rfl) ?_); simp only [List.map_cons, List.map_nil, strip]) | ((first | refine wIs fun K hK => ?_ | refine wOs fun K hK => ?_ | refine wQs fun K hK => ?_ | refine CallK_plain ?_ | refine CallQ_plain ?_ | refine CallR_plain ?_ | refine wCond ?_); simp [h1]) | (refine wIn ?_; refine And.intro (by kernel_rfl) ?_; try simp only [thenA_n]) | (first | refine wBlock ?_ | refine wScope ?_) | ((first | refine wRet ?_ | refine wExit ?_ | refine wSkip ?_); try simp) | ((first | refine wLabel ?_ | refine wOn ?_ | refine wQn ?_); try simp only [thenA_n]) | (refine CallE.pure (c1) rfl ?_) | (refine CallE.lent (c1) rfl ?_) | (refine CallF.pure (c1) rfl ?_) | (refine CallF.lent (c1) rfl ?_) | (refine CallE.own (c1) ?_) | (refine CallH.pure (c1) rfl ?_) | (refine CallH.lent (c1) rfl ?_) | (refine CallH.own (c1) ?_)
    all_goals apply hr
    all_goals simp [Try.f83, h1]
set_option maxHeartbeats 8000000 in
theorem ok04_con (m : Mb) : ACon Try.prog 80 [.p (.agg m.cells)] (.p (B (decide (okM m)))) := by
  obtain ⟨i, r, w, g⟩ := m
  simp only [Mb.cells, okM]
  by_cases h1 : 0 ≤ i
  · by_cases h2 : i < 16
    · by_cases h3 : r = 1
      · by_cases h4 : 0 ≤ w
        · by_cases h5 : w ≤ 100
          · by_cases h6 : 0 ≤ g
            · refine wBody Try.tab Try.mixed Try.func80 rfl rfl Try.ntmps80 (by simp) (by simp) fun Q hr hn => ?_
              repeat' first | (refine hK _ ?_; clear hK) | (refine hK _ _ ?_; clear hK) | (clear hK; refine hK _ ?_; clear hK) | (clear hK; clear hK; refine hK _ ?_; clear hK) | (clear hK; clear hK; clear hK; refine hK _ ?_; clear hK) | (clear hK; clear hK; clear hK; clear hK; refine hK _ ?_; clear hK) | (refine wSeq fun K hK => ?_) | ((first | refine wReg ?_ | refine wDrwQ rfl (by kernel_rfl) ?_ | refine wDrwI ?_ | refine wDrw (by kernel_rfl) ?_); simp only [List.map_cons, List.map_nil, strip]) | ((first | refine wIs fun K hK => ?_ | refine wOs fun K hK => ?_ | refine wQs fun K hK => ?_ | refine CallK_plain ?_ | refine CallQ_plain ?_ | refine CallR_plain ?_ | refine wCond ?_); simp [h1, h2, h3, h4, h5, h6]) | (refine wIn ?_; refine And.intro (by kernel_rfl) ?_; try simp only [thenA_n]) | (first | refine wBlock ?_ | refine wScope ?_) | ((first | refine wRet ?_ | refine wExit ?_ | refine wSkip ?_); try simp) | ((first | refine wLabel ?_ | refine wOn ?_ | refine wQn ?_); try simp only [thenA_n])
              all_goals apply hr
              all_goals simp [Try.f80, h1, h2, h3, h4, h5, h6]
              all_goals omega
            · refine wBody Try.tab Try.mixed Try.func80 rfl rfl Try.ntmps80 (by simp) (by simp) fun Q hr hn => ?_
              repeat' first | (refine hK _ ?_; clear hK) | (refine hK _ _ ?_; clear hK) | (clear hK; refine hK _ ?_; clear hK) | (clear hK; clear hK; refine hK _ ?_; clear hK) | (clear hK; clear hK; clear hK; refine hK _ ?_; clear hK) | (clear hK; clear hK; clear hK; clear hK; refine hK _ ?_; clear hK) | (refine wSeq fun K hK => ?_) | ((first | refine wReg ?_ | refine wDrwQ rfl (by kernel_rfl) ?_ | refine wDrwI ?_ | refine wDrw (by kernel_rfl) ?_); simp only [List.map_cons, List.map_nil, strip]) | ((first | refine wIs fun K hK => ?_ | refine wOs fun K hK => ?_ | refine wQs fun K hK => ?_ | refine CallK_plain ?_ | refine CallQ_plain ?_ | refine CallR_plain ?_ | refine wCond ?_); simp [h1, h2, h3, h4, h5, h6]) | (refine wIn ?_; refine And.intro (by kernel_rfl) ?_; try simp only [thenA_n]) | (first | refine wBlock ?_ | refine wScope ?_) | ((first | refine wRet ?_ | refine wExit ?_ | refine wSkip ?_); try simp) | ((first | refine wLabel ?_ | refine wOn ?_ | refine wQn ?_); try simp only [thenA_n])
              all_goals apply hr
              all_goals simp [Try.f80, h1, h2, h3, h4, h5, h6]
          · refine wBody Try.tab Try.mixed Try.func80 rfl rfl Try.ntmps80 (by simp) (by simp) fun Q hr hn => ?_
            repeat' first | (refine hK _ ?_; clear hK) | (refine hK _ _ ?_; clear hK) | (clear hK; refine hK _ ?_; clear hK) | (clear hK; clear hK; refine hK _ ?_; clear hK) | (clear hK; clear hK; clear hK; refine hK _ ?_; clear hK) | (clear hK; clear hK; clear hK; clear hK; refine hK _ ?_; clear hK) | (refine wSeq fun K hK => ?_) | ((first | refine wReg ?_ | refine wDrwQ rfl (by kernel_rfl) ?_ | refine wDrwI ?_ | refine wDrw (by kernel_rfl) ?_); simp only [List.map_cons, List.map_nil, strip]) | ((first | refine wIs fun K hK => ?_ | refine wOs fun K hK => ?_ | refine wQs fun K hK => ?_ | refine CallK_plain ?_ | refine CallQ_plain ?_ | refine CallR_plain ?_ | refine wCond ?_); simp [h1, h2, h3, h4, h5]) | (refine wIn ?_; refine And.intro (by kernel_rfl) ?_; try simp only [thenA_n]) | (first | refine wBlock ?_ | refine wScope ?_) | ((first | refine wRet ?_ | refine wExit ?_ | refine wSkip ?_); try simp) | ((first | refine wLabel ?_ | refine wOn ?_ | refine wQn ?_); try simp only [thenA_n])
            all_goals apply hr
            all_goals simp [Try.f80, h1, h2, h3, h4, h5]
        · refine wBody Try.tab Try.mixed Try.func80 rfl rfl Try.ntmps80 (by simp) (by simp) fun Q hr hn => ?_
          repeat' first | (refine hK _ ?_; clear hK) | (refine hK _ _ ?_; clear hK) | (clear hK; refine hK _ ?_; clear hK) | (clear hK; clear hK; refine hK _ ?_; clear hK) | (clear hK; clear hK; clear hK; refine hK _ ?_; clear hK) | (clear hK; clear hK; clear hK; clear hK; refine hK _ ?_; clear hK) | (refine wSeq fun K hK => ?_) | ((first | refine wReg ?_ | refine wDrwQ rfl (by kernel_rfl) ?_ | refine wDrwI ?_ | refine wDrw (by kernel_rfl) ?_); simp only [List.map_cons, List.map_nil, strip]) | ((first | refine wIs fun K hK => ?_ | refine wOs fun K hK => ?_ | refine wQs fun K hK => ?_ | refine CallK_plain ?_ | refine CallQ_plain ?_ | refine CallR_plain ?_ | refine wCond ?_); simp [h1, h2, h3, h4]) | (refine wIn ?_; refine And.intro (by kernel_rfl) ?_; try simp only [thenA_n]) | (first | refine wBlock ?_ | refine wScope ?_) | ((first | refine wRet ?_ | refine wExit ?_ | refine wSkip ?_); try simp) | ((first | refine wLabel ?_ | refine wOn ?_ | refine wQn ?_); try simp only [thenA_n])
          all_goals apply hr
          all_goals simp [Try.f80, h1, h2, h3, h4]
      · by_cases h3' : r = 2
        · by_cases h4 : 0 ≤ w
          · by_cases h5 : w ≤ 100
            · by_cases h6 : 0 ≤ g
              · refine wBody Try.tab Try.mixed Try.func80 rfl rfl Try.ntmps80 (by simp) (by simp) fun Q hr hn => ?_
                repeat' first | (refine hK _ ?_; clear hK) | (refine hK _ _ ?_; clear hK) | (clear hK; refine hK _ ?_; clear hK) | (clear hK; clear hK; refine hK _ ?_; clear hK) | (clear hK; clear hK; clear hK; refine hK _ ?_; clear hK) | (clear hK; clear hK; clear hK; clear hK; refine hK _ ?_; clear hK) | (refine wSeq fun K hK => ?_) | ((first | refine wReg ?_ | refine wDrwQ rfl (by kernel_rfl) ?_ | refine wDrwI ?_ | refine wDrw (by kernel_rfl) ?_); simp only [List.map_cons, List.map_nil, strip]) | ((first | refine wIs fun K hK => ?_ | refine wOs fun K hK => ?_ | refine wQs fun K hK => ?_ | refine CallK_plain ?_ | refine CallQ_plain ?_ | refine CallR_plain ?_ | refine wCond ?_); simp [h1, h2, h3, h3', h4, h5, h6]) | (refine wIn ?_; refine And.intro (by kernel_rfl) ?_; try simp only [thenA_n]) | (first | refine wBlock ?_ | refine wScope ?_) | ((first | refine wRet ?_ | refine wExit ?_ | refine wSkip ?_); try simp) | ((first | refine wLabel ?_ | refine wOn ?_ | refine wQn ?_); try simp only [thenA_n])
                all_goals apply hr
                all_goals simp [Try.f80, h1, h2, h3, h3', h4, h5, h6]
                all_goals omega
              · refine wBody Try.tab Try.mixed Try.func80 rfl rfl Try.ntmps80 (by simp) (by simp) fun Q hr hn => ?_
                repeat' first | (refine hK _ ?_; clear hK) | (refine hK _ _ ?_; clear hK) | (clear hK; refine hK _ ?_; clear hK) | (clear hK; clear hK; refine hK _ ?_; clear hK) | (clear hK; clear hK; clear hK; refine hK _ ?_; clear hK) | (clear hK; clear hK; clear hK; clear hK; refine hK _ ?_; clear hK) | (refine wSeq fun K hK => ?_) | ((first | refine wReg ?_ | refine wDrwQ rfl (by kernel_rfl) ?_ | refine wDrwI ?_ | refine wDrw (by kernel_rfl) ?_); simp only [List.map_cons, List.map_nil, strip]) | ((first | refine wIs fun K hK => ?_ | refine wOs fun K hK => ?_ | refine wQs fun K hK => ?_ | refine CallK_plain ?_ | refine CallQ_plain ?_ | refine CallR_plain ?_ | refine wCond ?_); simp [h1, h2, h3, h3', h4, h5, h6]) | (refine wIn ?_; refine And.intro (by kernel_rfl) ?_; try simp only [thenA_n]) | (first | refine wBlock ?_ | refine wScope ?_) | ((first | refine wRet ?_ | refine wExit ?_ | refine wSkip ?_); try simp) | ((first | refine wLabel ?_ | refine wOn ?_ | refine wQn ?_); try simp only [thenA_n])
                all_goals apply hr
                all_goals simp [Try.f80, h1, h2, h3, h3', h4, h5, h6]
            · refine wBody Try.tab Try.mixed Try.func80 rfl rfl Try.ntmps80 (by simp) (by simp) fun Q hr hn => ?_
              repeat' first | (refine hK _ ?_; clear hK) | (refine hK _ _ ?_; clear hK) | (clear hK; refine hK _ ?_; clear hK) | (clear hK; clear hK; refine hK _ ?_; clear hK) | (clear hK; clear hK; clear hK; refine hK _ ?_; clear hK) | (clear hK; clear hK; clear hK; clear hK; refine hK _ ?_; clear hK) | (refine wSeq fun K hK => ?_) | ((first | refine wReg ?_ | refine wDrwQ rfl (by kernel_rfl) ?_ | refine wDrwI ?_ | refine wDrw (by kernel_rfl) ?_); simp only [List.map_cons, List.map_nil, strip]) | ((first | refine wIs fun K hK => ?_ | refine wOs fun K hK => ?_ | refine wQs fun K hK => ?_ | refine CallK_plain ?_ | refine CallQ_plain ?_ | refine CallR_plain ?_ | refine wCond ?_); simp [h1, h2, h3, h3', h4, h5]) | (refine wIn ?_; refine And.intro (by kernel_rfl) ?_; try simp only [thenA_n]) | (first | refine wBlock ?_ | refine wScope ?_) | ((first | refine wRet ?_ | refine wExit ?_ | refine wSkip ?_); try simp) | ((first | refine wLabel ?_ | refine wOn ?_ | refine wQn ?_); try simp only [thenA_n])
              all_goals apply hr
              all_goals simp [Try.f80, h1, h2, h3, h3', h4, h5]
          · refine wBody Try.tab Try.mixed Try.func80 rfl rfl Try.ntmps80 (by simp) (by simp) fun Q hr hn => ?_
            repeat' first | (refine hK _ ?_; clear hK) | (refine hK _ _ ?_; clear hK) | (clear hK; refine hK _ ?_; clear hK) | (clear hK; clear hK; refine hK _ ?_; clear hK) | (clear hK; clear hK; clear hK; refine hK _ ?_; clear hK) | (clear hK; clear hK; clear hK; clear hK; refine hK _ ?_; clear hK) | (refine wSeq fun K hK => ?_) | ((first | refine wReg ?_ | refine wDrwQ rfl (by kernel_rfl) ?_ | refine wDrwI ?_ | refine wDrw (by kernel_rfl) ?_); simp only [List.map_cons, List.map_nil, strip]) | ((first | refine wIs fun K hK => ?_ | refine wOs fun K hK => ?_ | refine wQs fun K hK => ?_ | refine CallK_plain ?_ | refine CallQ_plain ?_ | refine CallR_plain ?_ | refine wCond ?_); simp [h1, h2, h3, h3', h4]) | (refine wIn ?_; refine And.intro (by kernel_rfl) ?_; try simp only [thenA_n]) | (first | refine wBlock ?_ | refine wScope ?_) | ((first | refine wRet ?_ | refine wExit ?_ | refine wSkip ?_); try simp) | ((first | refine wLabel ?_ | refine wOn ?_ | refine wQn ?_); try simp only [thenA_n])
            all_goals apply hr
            all_goals simp [Try.f80, h1, h2, h3, h3', h4]
        · refine wBody Try.tab Try.mixed Try.func80 rfl rfl Try.ntmps80 (by simp) (by simp) fun Q hr hn => ?_
          repeat' first | (refine hK _ ?_; clear hK) | (refine hK _ _ ?_; clear hK) | (clear hK; refine hK _ ?_; clear hK) | (clear hK; clear hK; refine hK _ ?_; clear hK) | (clear hK; clear hK; clear hK; refine hK _ ?_; clear hK) | (clear hK; clear hK; clear hK; clear hK; refine hK _ ?_; clear hK) | (refine wSeq fun K hK => ?_) | ((first | refine wReg ?_ | refine wDrwQ rfl (by kernel_rfl) ?_ | refine wDrwI ?_ | refine wDrw (by kernel_rfl) ?_); simp only [List.map_cons, List.map_nil, strip]) | ((first | refine wIs fun K hK => ?_ | refine wOs fun K hK => ?_ | refine wQs fun K hK => ?_ | refine CallK_plain ?_ | refine CallQ_plain ?_ | refine CallR_plain ?_ | refine wCond ?_); simp [h1, h2, h3, h3']) | (refine wIn ?_; refine And.intro (by kernel_rfl) ?_; try simp only [thenA_n]) | (first | refine wBlock ?_ | refine wScope ?_) | ((first | refine wRet ?_ | refine wExit ?_ | refine wSkip ?_); try simp) | ((first | refine wLabel ?_ | refine wOn ?_ | refine wQn ?_); try simp only [thenA_n])
          all_goals apply hr
          all_goals simp [Try.f80, h1, h2, h3, h3']
    · refine wBody Try.tab Try.mixed Try.func80 rfl rfl Try.ntmps80 (by simp) (by simp) fun Q hr hn => ?_
      repeat' first | (refine hK _ ?_; clear hK) | (refine hK _ _ ?_; clear hK) | (clear hK; refine hK _ ?_; clear hK) | (clear hK; clear hK; refine hK _ ?_; clear hK) | (clear hK; clear hK; clear hK; refine hK _ ?_; clear hK) | (clear hK; clear hK; clear hK; clear hK; refine hK _ ?_; clear hK) | (refine wSeq fun K hK => ?_) | ((first | refine wReg ?_ | refine wDrwQ rfl (by kernel_rfl) ?_ | refine wDrwI ?_ | refine wDrw (by kernel_rfl) ?_); simp only [List.map_cons, List.map_nil, strip]) | ((first | refine wIs fun K hK => ?_ | refine wOs fun K hK => ?_ | refine wQs fun K hK => ?_ | refine CallK_plain ?_ | refine CallQ_plain ?_ | refine CallR_plain ?_ | refine wCond ?_); simp [h1, h2]) | (refine wIn ?_; refine And.intro (by kernel_rfl) ?_; try simp only [thenA_n]) | (first | refine wBlock ?_ | refine wScope ?_) | ((first | refine wRet ?_ | refine wExit ?_ | refine wSkip ?_); try simp) | ((first | refine wLabel ?_ | refine wOn ?_ | refine wQn ?_); try simp only [thenA_n])
      all_goals apply hr
      all_goals simp [Try.f80, h1, h2]
      all_goals omega
  · refine wBody Try.tab Try.mixed Try.func80 rfl rfl Try.ntmps80 (by simp) (by simp) fun Q hr hn => ?_
    repeat' first | (refine hK _ ?_; clear hK) | (refine hK _ _ ?_; clear hK) | (clear hK; refine hK _ ?_; clear hK) | (clear hK; clear hK; refine hK _ ?_; clear hK) | (clear hK; clear hK; clear hK; refine hK _ ?_; clear hK) | (clear hK; clear hK; clear hK; clear hK; refine hK _ ?_; clear hK) | (refine wSeq fun K hK => ?_) | ((first | refine wReg ?_ | refine wDrwQ rfl (by kernel_rfl) ?_ | refine wDrwI ?_ | refine wDrw (by kernel_rfl) ?_); simp only [List.map_cons, List.map_nil, strip]) | ((first | refine wIs fun K hK => ?_ | refine wOs fun K hK => ?_ | refine wQs fun K hK => ?_ | refine CallK_plain ?_ | refine CallQ_plain ?_ | refine CallR_plain ?_ | refine wCond ?_); simp [h1]) | (refine wIn ?_; refine And.intro (by kernel_rfl) ?_; try simp only [thenA_n]) | (first | refine wBlock ?_ | refine wScope ?_) | ((first | refine wRet ?_ | refine wExit ?_ | refine wSkip ?_); try simp) | ((first | refine wLabel ?_ | refine wOn ?_ | refine wQn ?_); try simp only [thenA_n])
    all_goals apply hr
    all_goals simp [Try.f80, h1]
end Go.Proofs.Ytnfcbkageifmfaa

/- Which configs may be, who votes, who is found: the program's and the document's. -/
namespace Go.Proofs.Ytnfcbkageifmfaa
set_option linter.unusedSimpArgs false
set_option linter.unusedVariables false
open Go Go.Av
attribute [local simp] Try.T1 Try.T2 Try.T3 Try.T4 Try.T5 Try.T9 Try.T12 Try.T15 Try.T16 Try.T17 Try.T21 Try.T22 Try.T23 Try.T25 Try.T27 Try.T29 Try.T30 Try.T31 Try.T32 Try.T33 Try.T35 Try.T37 Try.T38 Try.T40 Try.T41 Try.T42 Try.T43 Try.T44 Try.T45 Try.T46 Try.T47 Try.T48 Try.T49 Try.T50 Try.T51 Try.T52 Try.T53 Try.T54 Try.T56 Try.T57 Try.T58 Try.T59 Try.T60 Try.T61 Try.T62 Try.T64 Try.T66 Try.T67 Try.T68 Try.T69 Try.T71 Try.T72 Try.T73 Try.T74 Try.T75 Try.T76 Try.T77 Try.T78 Try.T79 Try.T80 Try.T81 Try.T82 Try.T83 Try.T84 Try.T85 Try.T86 Try.T87 Try.T88 Try.T89 Try.T90 Try.T91 Try.T92 Try.T93 Try.T94 Try.T95 Try.T97 Try.T98 Try.T99 Try.T100 Try.T101 Try.T102 Try.T103 Try.T104 Try.T105 Try.T106 Try.T107 Try.T108 Try.T109 Try.T110 Try.T111 Try.T112 Try.T113 Try.T114 Try.T115 Try.T116 Try.T117 Try.T120 Try.T123 Try.T124 Try.T127 Try.T128
attribute [local irreducible] Go.Av.CallK Go.Av.CallE Go.Av.CallQ Go.Av.CallF Go.Av.CallR Go.Av.CallH Go.Av.Con
def carrier (kind : Int) (m : Mb) : Bool := decide (m.r = 1) && (decide (kind = 1) || decide (0 < m.w))
def carries (kind : Int) (l : List Mb) : Bool := l.any (carrier kind)
def fine (p : Int) : List Mb → Bool
  | [] => true
  | m :: l => decide (okM m ∧ p < m.i) && fine m.i l
def ranged (c : Cf) : Prop := (1 ≤ c.kind ∧ c.kind ≤ 3) ∧ (0 ≤ c.ep ∧ c.ep ≤ 1099511627776) ∧ (0 ≤ c.n ∧ c.n ≤ 1099511627776)
instance (c : Cf) : Decidable (ranged c) := by unfold ranged; infer_instance
def check (c : Cf) : Int := if ranged c then if fine (-1) c.ms = true then if carries c.kind c.ms = true then 0 else 15 else 1 else 1
theorem carried_con (c : Cf) (hl : c.ms.length ≤ 1000000) : ACon Try.prog 84 [.p (.agg c.cells)] (.p (B (carries c.kind c.ms))) := by
  obtain ⟨ep, n, kind, l⟩ := c
  simp only [Cf.cells] at hl ⊢
  refine wBody Try.tab Try.mixed Try.func84 rfl rfl Try.ntmps84 (by simp) (by simp) fun Q hr hn => ?_
  repeat' first | (refine hK _ ?_; clear hK) | (refine hK _ _ ?_; clear hK) | (clear hK; refine hK _ ?_; clear hK) | (clear hK; clear hK; refine hK _ ?_; clear hK) | (clear hK; clear hK; clear hK; refine hK _ ?_; clear hK) | (clear hK; clear hK; clear hK; clear hK; refine hK _ ?_; clear hK) | (refine wSeq fun K hK => ?_) | ((first | refine wReg ?_ | refine wDrwQ rfl (by kernel_rfl) ?_ | refine wDrwI ?_ | refine wDrw (by kernel_rfl) ?_); simp only [List.map_cons, List.map_nil, strip]) | ((first | refine wIs fun K hK => ?_ | refine wOs fun K hK => ?_ | refine wQs fun K hK => ?_ | refine CallK_plain ?_ | refine CallQ_plain ?_ | refine CallR_plain ?_ | refine wCond ?_); simp) | (refine wIn ?_; refine And.intro (by kernel_rfl) ?_; try simp only [thenA_n]) | (first | refine wBlock ?_ | refine wScope ?_) | ((first | refine wRet ?_ | refine wExit ?_ | refine wSkip ?_); try simp) | ((first | refine wLabel ?_ | refine wOn ?_ | refine wQn ?_); try simp only [thenA_n])
  refine wLoop (fun N st => ∃ k, k + N = l.length ∧ st.s 1 = .ptr 1 0 ∧ st.b 1 = some (.box 35 [.p (I ep), .p (I n), .p (I kind), .p (.sl 4 (mbs l))]) ∧ st.s 6 = .p (.sl 4 (mbs l)) ∧ st.s 7 = .p (I l.length) ∧ st.s 8 = .p (I k) ∧ carries kind (l.drop k) = carries kind l) l.length ⟨0, by simp⟩ fun K N st hL ⟨k, hk, h1, b1, h6, h7, h8, hi⟩ => ?_
  by_cases hlt : k < l.length
  · have hw := wrapS k _ hlt (by omega)
    rw [List.drop_eq_getElem_cons hlt] at hi
    simp only [carries, List.any_cons] at hi
    by_cases g1 : l[k].r = 1
    · by_cases g2 : kind = 1
      · repeat' first | (refine hK _ ?_; clear hK) | (refine hK _ _ ?_; clear hK) | (clear hK; refine hK _ ?_; clear hK) | (clear hK; clear hK; refine hK _ ?_; clear hK) | (clear hK; clear hK; clear hK; refine hK _ ?_; clear hK) | (clear hK; clear hK; clear hK; clear hK; refine hK _ ?_; clear hK) | (refine wSeq fun K hK => ?_) | ((first | refine wReg ?_ | refine wDrwQ rfl (by kernel_rfl) ?_ | refine wDrwI ?_ | refine wDrw (by kernel_rfl) ?_); simp only [List.map_cons, List.map_nil, strip]) | ((first | refine wIs fun K hK => ?_ | refine wOs fun K hK => ?_ | refine wQs fun K hK => ?_ | refine CallK_plain ?_ | refine CallQ_plain ?_ | refine CallR_plain ?_ | refine wCond ?_); simp [h1, b1, h6, h7, h8, hlt, hw, g1, g2]) | (refine wIn ?_; refine And.intro (by kernel_rfl) ?_; try simp only [thenA_n]) | (first | refine wBlock ?_ | refine wScope ?_) | ((first | refine wRet ?_ | refine wExit ?_ | refine wSkip ?_); try simp) | ((first | refine wLabel ?_ | refine wOn ?_ | refine wQn ?_); try simp only [thenA_n])
        all_goals apply hr
        all_goals simp [Try.f84]
        all_goals simp [carrier, g1, g2] at hi
        all_goals simp [carries, carrier, g2]
        all_goals exact hi
      · by_cases g3 : 0 < l[k].w
        · repeat' first | (refine hK _ ?_; clear hK) | (refine hK _ _ ?_; clear hK) | (clear hK; refine hK _ ?_; clear hK) | (clear hK; clear hK; refine hK _ ?_; clear hK) | (clear hK; clear hK; clear hK; refine hK _ ?_; clear hK) | (clear hK; clear hK; clear hK; clear hK; refine hK _ ?_; clear hK) | (refine wSeq fun K hK => ?_) | ((first | refine wReg ?_ | refine wDrwQ rfl (by kernel_rfl) ?_ | refine wDrwI ?_ | refine wDrw (by kernel_rfl) ?_); simp only [List.map_cons, List.map_nil, strip]) | ((first | refine wIs fun K hK => ?_ | refine wOs fun K hK => ?_ | refine wQs fun K hK => ?_ | refine CallK_plain ?_ | refine CallQ_plain ?_ | refine CallR_plain ?_ | refine wCond ?_); simp [h1, b1, h6, h7, h8, hlt, hw, g1, g2, g3]) | (refine wIn ?_; refine And.intro (by kernel_rfl) ?_; try simp only [thenA_n]) | (first | refine wBlock ?_ | refine wScope ?_) | ((first | refine wRet ?_ | refine wExit ?_ | refine wSkip ?_); try simp) | ((first | refine wLabel ?_ | refine wOn ?_ | refine wQn ?_); try simp only [thenA_n])
          all_goals apply hr
          all_goals simp [Try.f84]
          all_goals simp [carrier, g1, g2, g3] at hi
          all_goals simp [carries, carrier, g2]
          all_goals exact hi
        · repeat' first | (refine hK _ ?_; clear hK) | (refine hK _ _ ?_; clear hK) | (clear hK; refine hK _ ?_; clear hK) | (clear hK; clear hK; refine hK _ ?_; clear hK) | (clear hK; clear hK; clear hK; refine hK _ ?_; clear hK) | (clear hK; clear hK; clear hK; clear hK; refine hK _ ?_; clear hK) | (refine wSeq fun K hK => ?_) | ((first | refine wReg ?_ | refine wDrwQ rfl (by kernel_rfl) ?_ | refine wDrwI ?_ | refine wDrw (by kernel_rfl) ?_); simp only [List.map_cons, List.map_nil, strip]) | ((first | refine wIs fun K hK => ?_ | refine wOs fun K hK => ?_ | refine wQs fun K hK => ?_ | refine CallK_plain ?_ | refine CallQ_plain ?_ | refine CallR_plain ?_ | refine wCond ?_); simp [h1, b1, h6, h7, h8, hlt, hw, g1, g2, g3]) | (refine wIn ?_; refine And.intro (by kernel_rfl) ?_; try simp only [thenA_n]) | (first | refine wBlock ?_ | refine wScope ?_) | ((first | refine wRet ?_ | refine wExit ?_ | refine wSkip ?_); try simp) | ((first | refine wLabel ?_ | refine wOn ?_ | refine wQn ?_); try simp only [thenA_n])
          refine hL _ (N - 1) (by omega) ⟨k + 1, by omega, ?_⟩
          simp [h1, b1, h6, h7, hw]
          simp [carries, ← hi, carrier, g1, g2, g3]
    · repeat' first | (refine hK _ ?_; clear hK) | (refine hK _ _ ?_; clear hK) | (clear hK; refine hK _ ?_; clear hK) | (clear hK; clear hK; refine hK _ ?_; clear hK) | (clear hK; clear hK; clear hK; refine hK _ ?_; clear hK) | (clear hK; clear hK; clear hK; clear hK; refine hK _ ?_; clear hK) | (refine wSeq fun K hK => ?_) | ((first | refine wReg ?_ | refine wDrwQ rfl (by kernel_rfl) ?_ | refine wDrwI ?_ | refine wDrw (by kernel_rfl) ?_); simp only [List.map_cons, List.map_nil, strip]) | ((first | refine wIs fun K hK => ?_ | refine wOs fun K hK => ?_ | refine wQs fun K hK => ?_ | refine CallK_plain ?_ | refine CallQ_plain ?_ | refine CallR_plain ?_ | refine wCond ?_); simp [h1, b1, h6, h7, h8, hlt, hw, g1]) | (refine wIn ?_; refine And.intro (by kernel_rfl) ?_; try simp only [thenA_n]) | (first | refine wBlock ?_ | refine wScope ?_) | ((first | refine wRet ?_ | refine wExit ?_ | refine wSkip ?_); try simp) | ((first | refine wLabel ?_ | refine wOn ?_ | refine wQn ?_); try simp only [thenA_n])
      refine hL _ (N - 1) (by omega) ⟨k + 1, by omega, ?_⟩
      simp [h1, b1, h6, h7, hw]
      simp [carries, ← hi, carrier, g1]
  · rw [List.drop_of_length_le (by omega)] at hi
    repeat' first | (refine hK _ ?_; clear hK) | (refine hK _ _ ?_; clear hK) | (clear hK; refine hK _ ?_; clear hK) | (clear hK; clear hK; refine hK _ ?_; clear hK) | (clear hK; clear hK; clear hK; refine hK _ ?_; clear hK) | (clear hK; clear hK; clear hK; clear hK; refine hK _ ?_; clear hK) | (refine wSeq fun K hK => ?_) | ((first | refine wReg ?_ | refine wDrwQ rfl (by kernel_rfl) ?_ | refine wDrwI ?_ | refine wDrw (by kernel_rfl) ?_); simp only [List.map_cons, List.map_nil, strip]) | ((first | refine wIs fun K hK => ?_ | refine wOs fun K hK => ?_ | refine wQs fun K hK => ?_ | refine CallK_plain ?_ | refine CallQ_plain ?_ | refine CallR_plain ?_ | refine wCond ?_); simp [h1, b1, h6, h7, h8, hlt]) | (refine wIn ?_; refine And.intro (by kernel_rfl) ?_; try simp only [thenA_n]) | (first | refine wBlock ?_ | refine wScope ?_) | ((first | refine wRet ?_ | refine wExit ?_ | refine wSkip ?_); try simp) | ((first | refine wLabel ?_ | refine wOn ?_ | refine wQn ?_); try simp only [thenA_n])
    apply hr
    rw [← hi]
    simp [Try.f84]
    rfl
def prevI (l : List Mb) (k : Nat) : Int := if h : 0 < k ∧ k ≤ l.length then (l[k - 1]'(by omega)).i else -1
theorem prevI_succ (l : List Mb) (k : Nat) (h : k < l.length) : prevI l (k + 1) = l[k].i := by
  unfold prevI; rw [dif_pos ⟨by omega, by omega⟩]; rfl
theorem prevI_pos (l : List Mb) (k : Nat) (h0 : 0 < k) (h : k < l.length) : prevI l k = (l[k - 1]'(by omega)).i := by
  unfold prevI; rw [dif_pos ⟨by omega, by omega⟩]
theorem prevI_zero (l : List Mb) : prevI l 0 = -1 := by unfold prevI; rw [dif_neg (by omega)]
set_option maxHeartbeats 8000000 in
theorem check_con (c : Cf) (hl : c.ms.length ≤ 1000000) : ACon Try.prog 74 [.p (.agg c.cells)] (.p (I (check c))) := by
  have cc := carried_con c hl
  obtain ⟨ep, n, kind, l⟩ := c
  simp only [Cf.cells, check, ranged] at hl cc ⊢
  have c1 := within_con ep 1099511627776
  have c2 := within_con n 1099511627776
  by_cases g1 : kind < 1
  · have g1' : ¬ 1 ≤ kind := by omega
    refine wBody Try.tab Try.mixed Try.func74 rfl rfl Try.ntmps74 (by simp) (by simp) fun Q hr hn => ?_
    repeat' first | (refine hK _ ?_; clear hK) | (refine hK _ _ ?_; clear hK) | (clear hK; refine hK _ ?_; clear hK) | (clear hK; clear hK; refine hK _ ?_; clear hK) | (clear hK; clear hK; clear hK; refine hK _ ?_; clear hK) | (clear hK; clear hK; clear hK; clear hK; refine hK _ ?_; clear hK) | (refine wSeq fun K hK => ?_) | ((first | refine wReg ?_ | refine wDrwQ rfl (by kernel_rfl) ?_ | refine wDrwI ?_ | refine wDrw (by kernel_rfl) ?_); simp only [List.map_cons, List.map_nil, strip]) | ((first | refine wIs fun K hK => ?_ | refine wOs fun K hK => ?_ | refine wQs fun K hK => ?_ | refine CallK_plain ?_ | refine CallQ_plain ?_ | refine CallR_plain ?_ | refine wCond ?_); simp [g1]) | (refine wIn ?_; refine And.intro (by kernel_rfl) ?_; try simp only [thenA_n]) | (first | refine wBlock ?_ | refine wScope ?_) | ((first | refine wRet ?_ | refine wExit ?_ | refine wSkip ?_); try simp) | ((first | refine wLabel ?_ | refine wOn ?_ | refine wQn ?_); try simp only [thenA_n])
    all_goals apply hr
    all_goals simp [Try.f74, g1']
  by_cases g2 : 3 < kind
  · have g2' : ¬ kind ≤ 3 := by omega
    refine wBody Try.tab Try.mixed Try.func74 rfl rfl Try.ntmps74 (by simp) (by simp) fun Q hr hn => ?_
    repeat' first | (refine hK _ ?_; clear hK) | (refine hK _ _ ?_; clear hK) | (clear hK; refine hK _ ?_; clear hK) | (clear hK; clear hK; refine hK _ ?_; clear hK) | (clear hK; clear hK; clear hK; refine hK _ ?_; clear hK) | (clear hK; clear hK; clear hK; clear hK; refine hK _ ?_; clear hK) | (refine wSeq fun K hK => ?_) | ((first | refine wReg ?_ | refine wDrwQ rfl (by kernel_rfl) ?_ | refine wDrwI ?_ | refine wDrw (by kernel_rfl) ?_); simp only [List.map_cons, List.map_nil, strip]) | ((first | refine wIs fun K hK => ?_ | refine wOs fun K hK => ?_ | refine wQs fun K hK => ?_ | refine CallK_plain ?_ | refine CallQ_plain ?_ | refine CallR_plain ?_ | refine wCond ?_); simp [g1, g2]) | (refine wIn ?_; refine And.intro (by kernel_rfl) ?_; try simp only [thenA_n]) | (first | refine wBlock ?_ | refine wScope ?_) | ((first | refine wRet ?_ | refine wExit ?_ | refine wSkip ?_); try simp) | ((first | refine wLabel ?_ | refine wOn ?_ | refine wQn ?_); try simp only [thenA_n])
    all_goals apply hr
    all_goals simp [Try.f74, g2']
  by_cases g3 : 0 ≤ ep ∧ ep ≤ 1099511627776
  rotate_left
  · rw [decide_eq_false g3] at c1
    refine wBody Try.tab Try.mixed Try.func74 rfl rfl Try.ntmps74 (by simp) (by simp) fun Q hr hn => ?_
    repeat' first | (refine hK _ ?_; clear hK) | (refine hK _ _ ?_; clear hK) | (clear hK; refine hK _ ?_; clear hK) | (clear hK; clear hK; refine hK _ ?_; clear hK) | (clear hK; clear hK; clear hK; refine hK _ ?_; clear hK) | (clear hK; clear hK; clear hK; clear hK; refine hK _ ?_; clear hK) | (refine wSeq fun K hK => ?_) | ((first | refine wReg ?_ | refine wDrwQ rfl (by kernel_rfl) ?_ | refine wDrwI ?_ | refine wDrw (by kernel_rfl) ?_); simp only [List.map_cons, List.map_nil, strip]) | ((first | refine wIs fun K hK => ?_ | refine wOs fun K hK => ?_ | refine wQs fun K hK => ?_ | refine CallK_plain ?_ | refine CallQ_plain ?_ | refine CallR_plain ?_ | refine wCond ?_); simp [g1, g2]) | (refine wIn ?_; refine And.intro (by kernel_rfl) ?_; try simp only [thenA_n]) | (first | refine wBlock ?_ | refine wScope ?_) | ((first | refine wRet ?_ | refine wExit ?_ | refine wSkip ?_); try simp) | ((first | refine wLabel ?_ | refine wOn ?_ | refine wQn ?_); try simp only [thenA_n]) | (refine CallE.pure (c1) rfl ?_) | (refine CallE.lent (c1) rfl ?_) | (refine CallF.pure (c1) rfl ?_) | (refine CallF.lent (c1) rfl ?_) | (refine CallE.own (c1) ?_) | (refine CallH.pure (c1) rfl ?_) | (refine CallH.lent (c1) rfl ?_) | (refine CallH.own (c1) ?_)
    all_goals apply hr
    all_goals simp [Try.f74, g3]
  rw [decide_eq_true g3] at c1
  by_cases g4 : 0 ≤ n ∧ n ≤ 1099511627776
  rotate_left
  · rw [decide_eq_false g4] at c2
    refine wBody Try.tab Try.mixed Try.func74 rfl rfl Try.ntmps74 (by simp) (by simp) fun Q hr hn => ?_
    repeat' first | (refine hK _ ?_; clear hK) | (refine hK _ _ ?_; clear hK) | (clear hK; refine hK _ ?_; clear hK) | (clear hK; clear hK; refine hK _ ?_; clear hK) | (clear hK; clear hK; clear hK; refine hK _ ?_; clear hK) | (clear hK; clear hK; clear hK; clear hK; refine hK _ ?_; clear hK) | (refine wSeq fun K hK => ?_) | ((first | refine wReg ?_ | refine wDrwQ rfl (by kernel_rfl) ?_ | refine wDrwI ?_ | refine wDrw (by kernel_rfl) ?_); simp only [List.map_cons, List.map_nil, strip]) | ((first | refine wIs fun K hK => ?_ | refine wOs fun K hK => ?_ | refine wQs fun K hK => ?_ | refine CallK_plain ?_ | refine CallQ_plain ?_ | refine CallR_plain ?_ | refine wCond ?_); simp [g1, g2]) | (refine wIn ?_; refine And.intro (by kernel_rfl) ?_; try simp only [thenA_n]) | (first | refine wBlock ?_ | refine wScope ?_) | ((first | refine wRet ?_ | refine wExit ?_ | refine wSkip ?_); try simp) | ((first | refine wLabel ?_ | refine wOn ?_ | refine wQn ?_); try simp only [thenA_n]) | (refine CallE.pure (c1) rfl ?_) | (refine CallE.lent (c1) rfl ?_) | (refine CallF.pure (c1) rfl ?_) | (refine CallF.lent (c1) rfl ?_) | (refine CallE.own (c1) ?_) | (refine CallH.pure (c1) rfl ?_) | (refine CallH.lent (c1) rfl ?_) | (refine CallH.own (c1) ?_) | (refine CallE.pure (c2) rfl ?_) | (refine CallE.lent (c2) rfl ?_) | (refine CallF.pure (c2) rfl ?_) | (refine CallF.lent (c2) rfl ?_) | (refine CallE.own (c2) ?_) | (refine CallH.pure (c2) rfl ?_) | (refine CallH.lent (c2) rfl ?_) | (refine CallH.own (c2) ?_)
    all_goals apply hr
    all_goals simp [Try.f74, g4]
  rw [decide_eq_true g4] at c2
  rw [if_pos ⟨⟨by omega, by omega⟩, g3, g4⟩]
  refine wBody Try.tab Try.mixed Try.func74 rfl rfl Try.ntmps74 (by simp) (by simp) fun Q hr hn => ?_
  repeat' first | (refine hK _ ?_; clear hK) | (refine hK _ _ ?_; clear hK) | (clear hK; refine hK _ ?_; clear hK) | (clear hK; clear hK; refine hK _ ?_; clear hK) | (clear hK; clear hK; clear hK; refine hK _ ?_; clear hK) | (clear hK; clear hK; clear hK; clear hK; refine hK _ ?_; clear hK) | (refine wSeq fun K hK => ?_) | ((first | refine wReg ?_ | refine wDrwQ rfl (by kernel_rfl) ?_ | refine wDrwI ?_ | refine wDrw (by kernel_rfl) ?_); simp only [List.map_cons, List.map_nil, strip]) | ((first | refine wIs fun K hK => ?_ | refine wOs fun K hK => ?_ | refine wQs fun K hK => ?_ | refine CallK_plain ?_ | refine CallQ_plain ?_ | refine CallR_plain ?_ | refine wCond ?_); simp [g1, g2]) | (refine wIn ?_; refine And.intro (by kernel_rfl) ?_; try simp only [thenA_n]) | (first | refine wBlock ?_ | refine wScope ?_) | ((first | refine wRet ?_ | refine wExit ?_ | refine wSkip ?_); try simp) | ((first | refine wLabel ?_ | refine wOn ?_ | refine wQn ?_); try simp only [thenA_n]) | (refine CallE.pure (c1) rfl ?_) | (refine CallE.lent (c1) rfl ?_) | (refine CallF.pure (c1) rfl ?_) | (refine CallF.lent (c1) rfl ?_) | (refine CallE.own (c1) ?_) | (refine CallH.pure (c1) rfl ?_) | (refine CallH.lent (c1) rfl ?_) | (refine CallH.own (c1) ?_) | (refine CallE.pure (c2) rfl ?_) | (refine CallE.lent (c2) rfl ?_) | (refine CallF.pure (c2) rfl ?_) | (refine CallF.lent (c2) rfl ?_) | (refine CallE.own (c2) ?_) | (refine CallH.pure (c2) rfl ?_) | (refine CallH.lent (c2) rfl ?_) | (refine CallH.own (c2) ?_)
  refine wLoop (fun N st => ∃ k, k + N = l.length ∧ st.s 1 = .ptr 1 0 ∧ st.b 1 = some (.box 35 [.p (I ep), .p (I n), .p (I kind), .p (.sl 4 (mbs l))]) ∧ st.s 28 = .p (.sl 4 (mbs l)) ∧ st.s 29 = .p (I l.length) ∧ st.s 30 = .p (I k) ∧ fine (prevI l k) (l.drop k) = fine (-1) l) l.length ⟨0, by simp [prevI_zero]⟩ fun K N st hL ⟨k, hk, h1, b1, h28, h29, h30, hi⟩ => ?_
  by_cases hlt : k < l.length
  · have hw := wrapS k _ hlt (by omega)
    rw [List.drop_eq_getElem_cons hlt, fine] at hi
    have cr := right_con l[k]
    simp only [Mb.cells] at cr
    by_cases o1 : okM l[k]
    · rw [decide_eq_true o1] at cr
      by_cases o2 : 0 < k
      · have o2' : (0 : Int) < k := by omega
        have hw1 : IntKind.i64.wrap ((k : Int) - 1) = ((k - 1 : Nat) : Int) := by rw [wrap_id] <;> omega
        have hk1 : k - 1 < l.length := by omega
        rw [prevI_pos l k o2 hlt] at hi
        by_cases o3 : l[k].i ≤ l[k - 1].i
        · repeat' first | (refine hK _ ?_; clear hK) | (refine hK _ _ ?_; clear hK) | (clear hK; refine hK _ ?_; clear hK) | (clear hK; clear hK; refine hK _ ?_; clear hK) | (clear hK; clear hK; clear hK; refine hK _ ?_; clear hK) | (clear hK; clear hK; clear hK; clear hK; refine hK _ ?_; clear hK) | (refine wSeq fun K hK => ?_) | ((first | refine wReg ?_ | refine wDrwQ rfl (by kernel_rfl) ?_ | refine wDrwI ?_ | refine wDrw (by kernel_rfl) ?_); simp only [List.map_cons, List.map_nil, strip]) | ((first | refine wIs fun K hK => ?_ | refine wOs fun K hK => ?_ | refine wQs fun K hK => ?_ | refine CallK_plain ?_ | refine CallQ_plain ?_ | refine CallR_plain ?_ | refine wCond ?_); simp [h1, b1, h28, h29, h30, hlt, hw, o2, o2', hw1, hk1, o3]) | (refine wIn ?_; refine And.intro (by kernel_rfl) ?_; try simp only [thenA_n]) | (first | refine wBlock ?_ | refine wScope ?_) | ((first | refine wRet ?_ | refine wExit ?_ | refine wSkip ?_); try simp) | ((first | refine wLabel ?_ | refine wOn ?_ | refine wQn ?_); try simp only [thenA_n]) | (refine CallE.pure (cr) rfl ?_) | (refine CallE.lent (cr) rfl ?_) | (refine CallF.pure (cr) rfl ?_) | (refine CallF.lent (cr) rfl ?_) | (refine CallE.own (cr) ?_) | (refine CallH.pure (cr) rfl ?_) | (refine CallH.lent (cr) rfl ?_) | (refine CallH.own (cr) ?_)
          all_goals apply hr
          all_goals simp [Try.f74]
          all_goals rw [decide_eq_false (by omega)] at hi
          all_goals simp [← hi]
        · repeat' first | (refine hK _ ?_; clear hK) | (refine hK _ _ ?_; clear hK) | (clear hK; refine hK _ ?_; clear hK) | (clear hK; clear hK; refine hK _ ?_; clear hK) | (clear hK; clear hK; clear hK; refine hK _ ?_; clear hK) | (clear hK; clear hK; clear hK; clear hK; refine hK _ ?_; clear hK) | (refine wSeq fun K hK => ?_) | ((first | refine wReg ?_ | refine wDrwQ rfl (by kernel_rfl) ?_ | refine wDrwI ?_ | refine wDrw (by kernel_rfl) ?_); simp only [List.map_cons, List.map_nil, strip]) | ((first | refine wIs fun K hK => ?_ | refine wOs fun K hK => ?_ | refine wQs fun K hK => ?_ | refine CallK_plain ?_ | refine CallQ_plain ?_ | refine CallR_plain ?_ | refine wCond ?_); simp [h1, b1, h28, h29, h30, hlt, hw, o2, o2', hw1, hk1, o3]) | (refine wIn ?_; refine And.intro (by kernel_rfl) ?_; try simp only [thenA_n]) | (first | refine wBlock ?_ | refine wScope ?_) | ((first | refine wRet ?_ | refine wExit ?_ | refine wSkip ?_); try simp) | ((first | refine wLabel ?_ | refine wOn ?_ | refine wQn ?_); try simp only [thenA_n]) | (refine CallE.pure (cr) rfl ?_) | (refine CallE.lent (cr) rfl ?_) | (refine CallF.pure (cr) rfl ?_) | (refine CallF.lent (cr) rfl ?_) | (refine CallE.own (cr) ?_) | (refine CallH.pure (cr) rfl ?_) | (refine CallH.lent (cr) rfl ?_) | (refine CallH.own (cr) ?_)
          refine hL _ (N - 1) (by omega) ⟨k + 1, by omega, ?_⟩
          simp [h1, b1, h28, h29, hw]
          rw [decide_eq_true ⟨o1, by omega⟩, Bool.true_and] at hi
          rw [prevI_succ l k hlt]; exact hi
      · obtain rfl : k = 0 := by omega
        simp at h30 hw
        repeat' first | (refine hK _ ?_; clear hK) | (refine hK _ _ ?_; clear hK) | (clear hK; refine hK _ ?_; clear hK) | (clear hK; clear hK; refine hK _ ?_; clear hK) | (clear hK; clear hK; clear hK; refine hK _ ?_; clear hK) | (clear hK; clear hK; clear hK; clear hK; refine hK _ ?_; clear hK) | (refine wSeq fun K hK => ?_) | ((first | refine wReg ?_ | refine wDrwQ rfl (by kernel_rfl) ?_ | refine wDrwI ?_ | refine wDrw (by kernel_rfl) ?_); simp only [List.map_cons, List.map_nil, strip]) | ((first | refine wIs fun K hK => ?_ | refine wOs fun K hK => ?_ | refine wQs fun K hK => ?_ | refine CallK_plain ?_ | refine CallQ_plain ?_ | refine CallR_plain ?_ | refine wCond ?_); simp [h1, b1, h28, h29, h30, hlt, hw]) | (refine wIn ?_; refine And.intro (by kernel_rfl) ?_; try simp only [thenA_n]) | (first | refine wBlock ?_ | refine wScope ?_) | ((first | refine wRet ?_ | refine wExit ?_ | refine wSkip ?_); try simp) | ((first | refine wLabel ?_ | refine wOn ?_ | refine wQn ?_); try simp only [thenA_n]) | (refine CallE.pure (cr) rfl ?_) | (refine CallE.lent (cr) rfl ?_) | (refine CallF.pure (cr) rfl ?_) | (refine CallF.lent (cr) rfl ?_) | (refine CallE.own (cr) ?_) | (refine CallH.pure (cr) rfl ?_) | (refine CallH.lent (cr) rfl ?_) | (refine CallH.own (cr) ?_)
        refine hL _ (N - 1) (by omega) ⟨1, by omega, ?_⟩
        simp [h1, b1, h28, h29, hw]
        have := o1.1.1
        rw [prevI_zero, decide_eq_true ⟨o1, by omega⟩, Bool.true_and] at hi
        rw [show (1 : Nat) = 0 + 1 from rfl, prevI_succ l 0 hlt, ← List.drop_one]; exact hi
    · rw [decide_eq_false o1] at cr
      repeat' first | (refine hK _ ?_; clear hK) | (refine hK _ _ ?_; clear hK) | (clear hK; refine hK _ ?_; clear hK) | (clear hK; clear hK; refine hK _ ?_; clear hK) | (clear hK; clear hK; clear hK; refine hK _ ?_; clear hK) | (clear hK; clear hK; clear hK; clear hK; refine hK _ ?_; clear hK) | (refine wSeq fun K hK => ?_) | ((first | refine wReg ?_ | refine wDrwQ rfl (by kernel_rfl) ?_ | refine wDrwI ?_ | refine wDrw (by kernel_rfl) ?_); simp only [List.map_cons, List.map_nil, strip]) | ((first | refine wIs fun K hK => ?_ | refine wOs fun K hK => ?_ | refine wQs fun K hK => ?_ | refine CallK_plain ?_ | refine CallQ_plain ?_ | refine CallR_plain ?_ | refine wCond ?_); simp [h1, b1, h28, h29, h30, hlt, hw]) | (refine wIn ?_; refine And.intro (by kernel_rfl) ?_; try simp only [thenA_n]) | (first | refine wBlock ?_ | refine wScope ?_) | ((first | refine wRet ?_ | refine wExit ?_ | refine wSkip ?_); try simp) | ((first | refine wLabel ?_ | refine wOn ?_ | refine wQn ?_); try simp only [thenA_n]) | (refine CallE.pure (cr) rfl ?_) | (refine CallE.lent (cr) rfl ?_) | (refine CallF.pure (cr) rfl ?_) | (refine CallF.lent (cr) rfl ?_) | (refine CallE.own (cr) ?_) | (refine CallH.pure (cr) rfl ?_) | (refine CallH.lent (cr) rfl ?_) | (refine CallH.own (cr) ?_)
      all_goals apply hr
      all_goals simp [Try.f74]
      all_goals simp [← hi, o1]
  · rw [List.drop_of_length_le (by omega)] at hi
    have hi' : fine (-1) l = true := hi ▸ rfl
    by_cases g5 : carries kind l = true
    · rw [g5] at cc
      repeat' first | (refine hK _ ?_; clear hK) | (refine hK _ _ ?_; clear hK) | (clear hK; refine hK _ ?_; clear hK) | (clear hK; clear hK; refine hK _ ?_; clear hK) | (clear hK; clear hK; clear hK; refine hK _ ?_; clear hK) | (clear hK; clear hK; clear hK; clear hK; refine hK _ ?_; clear hK) | (refine wSeq fun K hK => ?_) | ((first | refine wReg ?_ | refine wDrwQ rfl (by kernel_rfl) ?_ | refine wDrwI ?_ | refine wDrw (by kernel_rfl) ?_); simp only [List.map_cons, List.map_nil, strip]) | ((first | refine wIs fun K hK => ?_ | refine wOs fun K hK => ?_ | refine wQs fun K hK => ?_ | refine CallK_plain ?_ | refine CallQ_plain ?_ | refine CallR_plain ?_ | refine wCond ?_); simp [h1, b1, h28, h29, h30, hlt]) | (refine wIn ?_; refine And.intro (by kernel_rfl) ?_; try simp only [thenA_n]) | (first | refine wBlock ?_ | refine wScope ?_) | ((first | refine wRet ?_ | refine wExit ?_ | refine wSkip ?_); try simp) | ((first | refine wLabel ?_ | refine wOn ?_ | refine wQn ?_); try simp only [thenA_n]) | (refine CallE.pure (cc) rfl ?_) | (refine CallE.lent (cc) rfl ?_) | (refine CallF.pure (cc) rfl ?_) | (refine CallF.lent (cc) rfl ?_) | (refine CallE.own (cc) ?_) | (refine CallH.pure (cc) rfl ?_) | (refine CallH.lent (cc) rfl ?_) | (refine CallH.own (cc) ?_)
      all_goals apply hr
      all_goals simp [Try.f74, hi', g5]
    · rw [Bool.not_eq_true] at g5
      rw [g5] at cc
      repeat' first | (refine hK _ ?_; clear hK) | (refine hK _ _ ?_; clear hK) | (clear hK; refine hK _ ?_; clear hK) | (clear hK; clear hK; refine hK _ ?_; clear hK) | (clear hK; clear hK; clear hK; refine hK _ ?_; clear hK) | (clear hK; clear hK; clear hK; clear hK; refine hK _ ?_; clear hK) | (refine wSeq fun K hK => ?_) | ((first | refine wReg ?_ | refine wDrwQ rfl (by kernel_rfl) ?_ | refine wDrwI ?_ | refine wDrw (by kernel_rfl) ?_); simp only [List.map_cons, List.map_nil, strip]) | ((first | refine wIs fun K hK => ?_ | refine wOs fun K hK => ?_ | refine wQs fun K hK => ?_ | refine CallK_plain ?_ | refine CallQ_plain ?_ | refine CallR_plain ?_ | refine wCond ?_); simp [h1, b1, h28, h29, h30, hlt]) | (refine wIn ?_; refine And.intro (by kernel_rfl) ?_; try simp only [thenA_n]) | (first | refine wBlock ?_ | refine wScope ?_) | ((first | refine wRet ?_ | refine wExit ?_ | refine wSkip ?_); try simp) | ((first | refine wLabel ?_ | refine wOn ?_ | refine wQn ?_); try simp only [thenA_n]) | (refine CallE.pure (cc) rfl ?_) | (refine CallE.lent (cc) rfl ?_) | (refine CallF.pure (cc) rfl ?_) | (refine CallF.lent (cc) rfl ?_) | (refine CallE.own (cc) ?_) | (refine CallH.pure (cc) rfl ?_) | (refine CallH.lent (cc) rfl ?_) | (refine CallH.own (cc) ?_)
      all_goals apply hr
      all_goals simp [Try.f74, hi', g5]
end Go.Proofs.Ytnfcbkageifmfaa

/- The document's Check, and who votes, who is found. -/
namespace Go.Proofs.Ytnfcbkageifmfaa
set_option linter.unusedSimpArgs false
set_option linter.unusedVariables false
open Go Go.Av
attribute [local simp] Try.T1 Try.T2 Try.T3 Try.T4 Try.T5 Try.T9 Try.T12 Try.T15 Try.T16 Try.T17 Try.T21 Try.T22 Try.T23 Try.T25 Try.T27 Try.T29 Try.T30 Try.T31 Try.T32 Try.T33 Try.T35 Try.T37 Try.T38 Try.T40 Try.T41 Try.T42 Try.T43 Try.T44 Try.T45 Try.T46 Try.T47 Try.T48 Try.T49 Try.T50 Try.T51 Try.T52 Try.T53 Try.T54 Try.T56 Try.T57 Try.T58 Try.T59 Try.T60 Try.T61 Try.T62 Try.T64 Try.T66 Try.T67 Try.T68 Try.T69 Try.T71 Try.T72 Try.T73 Try.T74 Try.T75 Try.T76 Try.T77 Try.T78 Try.T79 Try.T80 Try.T81 Try.T82 Try.T83 Try.T84 Try.T85 Try.T86 Try.T87 Try.T88 Try.T89 Try.T90 Try.T91 Try.T92 Try.T93 Try.T94 Try.T95 Try.T97 Try.T98 Try.T99 Try.T100 Try.T101 Try.T102 Try.T103 Try.T104 Try.T105 Try.T106 Try.T107 Try.T108 Try.T109 Try.T110 Try.T111 Try.T112 Try.T113 Try.T114 Try.T115 Try.T116 Try.T117 Try.T120 Try.T123 Try.T124 Try.T127 Try.T128
attribute [local irreducible] Go.Av.CallK Go.Av.CallE Go.Av.CallQ Go.Av.CallF Go.Av.CallR Go.Av.CallH Go.Av.Con
def wsum : List Mb → Int
  | [] => 0
  | m :: l => (if m.r = 1 then m.w else 0) + wsum l
def cnt : List Mb → Int
  | [] => 0
  | m :: l => (if m.r = 1 then 1 else 0) + cnt l
theorem sums (kind : Int) (l : List Mb) : ∀ p, fine p l = true → 0 ≤ wsum l ∧ 0 ≤ cnt l ∧ (cnt l = 0 → wsum l = 0) ∧ (kind = 1 → carries kind l = decide (0 < cnt l)) ∧ (kind ≠ 1 → carries kind l = decide (0 < wsum l)) := by
  induction l with
  | nil => intro p h; simp [wsum, cnt, carries]
  | cons m l ih =>
    intro p h
    simp only [fine, Bool.and_eq_true, decide_eq_true_eq] at h
    obtain ⟨⟨ho, hp⟩, hf⟩ := h
    obtain ⟨e1, e2, e3, e4, e5⟩ := ih _ hf
    have hw := ho.2.2.1
    simp only [wsum, cnt, carries, List.any_cons, carrier] at *
    by_cases hr : m.r = 1
    · simp only [hr, if_true, decide_true, Bool.true_and]
      refine ⟨by omega, by omega, by omega, fun hk => ?_, fun hk => ?_⟩
      · simp [hk]; omega
      · rw [e5 hk]
        by_cases g : 0 < m.w
        · simp [hk, g]; omega
        · simp [hk, g, show m.w = 0 by omega]
    · simp only [hr, if_false, decide_false, Bool.false_and, Bool.false_or, Int.zero_add]
      exact ⟨e1, e2, e3, e4, e5⟩
set_option maxHeartbeats 8000000 in
theorem check04_con (c : Cf) (hl : c.ms.length ≤ 1000000) : ACon Try.prog 63 [.p (.agg c.cells)] (.p (I (check c))) := by
  obtain ⟨ep, n, kind, l⟩ := c
  simp only [Cf.cells, check, ranged] at hl ⊢
  by_cases g1 : kind < 1
  · have g1' : ¬ 1 ≤ kind := by omega
    refine wBody Try.tab Try.mixed Try.func63 rfl rfl Try.ntmps63 (by simp) (by simp) fun Q hr hn => ?_
    repeat' first | (refine hK _ ?_; clear hK) | (refine hK _ _ ?_; clear hK) | (clear hK; refine hK _ ?_; clear hK) | (clear hK; clear hK; refine hK _ ?_; clear hK) | (clear hK; clear hK; clear hK; refine hK _ ?_; clear hK) | (clear hK; clear hK; clear hK; clear hK; refine hK _ ?_; clear hK) | (refine wSeq fun K hK => ?_) | ((first | refine wReg ?_ | refine wDrwQ rfl (by kernel_rfl) ?_ | refine wDrwI ?_ | refine wDrw (by kernel_rfl) ?_); simp only [List.map_cons, List.map_nil, strip]) | ((first | refine wIs fun K hK => ?_ | refine wOs fun K hK => ?_ | refine wQs fun K hK => ?_ | refine CallK_plain ?_ | refine CallQ_plain ?_ | refine CallR_plain ?_ | refine wCond ?_); simp [g1]) | (refine wIn ?_; refine And.intro (by kernel_rfl) ?_; try simp only [thenA_n]) | (first | refine wBlock ?_ | refine wScope ?_) | ((first | refine wRet ?_ | refine wExit ?_ | refine wSkip ?_); try simp) | ((first | refine wLabel ?_ | refine wOn ?_ | refine wQn ?_); try simp only [thenA_n])
    all_goals apply hr
    all_goals simp [Try.f63, g1']
  by_cases g2 : 3 < kind
  · have g2' : ¬ kind ≤ 3 := by omega
    refine wBody Try.tab Try.mixed Try.func63 rfl rfl Try.ntmps63 (by simp) (by simp) fun Q hr hn => ?_
    repeat' first | (refine hK _ ?_; clear hK) | (refine hK _ _ ?_; clear hK) | (clear hK; refine hK _ ?_; clear hK) | (clear hK; clear hK; refine hK _ ?_; clear hK) | (clear hK; clear hK; clear hK; refine hK _ ?_; clear hK) | (clear hK; clear hK; clear hK; clear hK; refine hK _ ?_; clear hK) | (refine wSeq fun K hK => ?_) | ((first | refine wReg ?_ | refine wDrwQ rfl (by kernel_rfl) ?_ | refine wDrwI ?_ | refine wDrw (by kernel_rfl) ?_); simp only [List.map_cons, List.map_nil, strip]) | ((first | refine wIs fun K hK => ?_ | refine wOs fun K hK => ?_ | refine wQs fun K hK => ?_ | refine CallK_plain ?_ | refine CallQ_plain ?_ | refine CallR_plain ?_ | refine wCond ?_); simp [g1, g2]) | (refine wIn ?_; refine And.intro (by kernel_rfl) ?_; try simp only [thenA_n]) | (first | refine wBlock ?_ | refine wScope ?_) | ((first | refine wRet ?_ | refine wExit ?_ | refine wSkip ?_); try simp) | ((first | refine wLabel ?_ | refine wOn ?_ | refine wQn ?_); try simp only [thenA_n])
    all_goals apply hr
    all_goals simp [Try.f63, g2']
  by_cases g3 : ep < 0
  · have g3' : ¬ 0 ≤ ep := by omega
    refine wBody Try.tab Try.mixed Try.func63 rfl rfl Try.ntmps63 (by simp) (by simp) fun Q hr hn => ?_
    repeat' first | (refine hK _ ?_; clear hK) | (refine hK _ _ ?_; clear hK) | (clear hK; refine hK _ ?_; clear hK) | (clear hK; clear hK; refine hK _ ?_; clear hK) | (clear hK; clear hK; clear hK; refine hK _ ?_; clear hK) | (clear hK; clear hK; clear hK; clear hK; refine hK _ ?_; clear hK) | (refine wSeq fun K hK => ?_) | ((first | refine wReg ?_ | refine wDrwQ rfl (by kernel_rfl) ?_ | refine wDrwI ?_ | refine wDrw (by kernel_rfl) ?_); simp only [List.map_cons, List.map_nil, strip]) | ((first | refine wIs fun K hK => ?_ | refine wOs fun K hK => ?_ | refine wQs fun K hK => ?_ | refine CallK_plain ?_ | refine CallQ_plain ?_ | refine CallR_plain ?_ | refine wCond ?_); simp [g1, g2, g3]) | (refine wIn ?_; refine And.intro (by kernel_rfl) ?_; try simp only [thenA_n]) | (first | refine wBlock ?_ | refine wScope ?_) | ((first | refine wRet ?_ | refine wExit ?_ | refine wSkip ?_); try simp) | ((first | refine wLabel ?_ | refine wOn ?_ | refine wQn ?_); try simp only [thenA_n])
    all_goals apply hr
    all_goals simp [Try.f63, g3']
  by_cases g4 : 1099511627776 < ep
  · have g4' : ¬ ep ≤ 1099511627776 := by omega
    refine wBody Try.tab Try.mixed Try.func63 rfl rfl Try.ntmps63 (by simp) (by simp) fun Q hr hn => ?_
    repeat' first | (refine hK _ ?_; clear hK) | (refine hK _ _ ?_; clear hK) | (clear hK; refine hK _ ?_; clear hK) | (clear hK; clear hK; refine hK _ ?_; clear hK) | (clear hK; clear hK; clear hK; refine hK _ ?_; clear hK) | (clear hK; clear hK; clear hK; clear hK; refine hK _ ?_; clear hK) | (refine wSeq fun K hK => ?_) | ((first | refine wReg ?_ | refine wDrwQ rfl (by kernel_rfl) ?_ | refine wDrwI ?_ | refine wDrw (by kernel_rfl) ?_); simp only [List.map_cons, List.map_nil, strip]) | ((first | refine wIs fun K hK => ?_ | refine wOs fun K hK => ?_ | refine wQs fun K hK => ?_ | refine CallK_plain ?_ | refine CallQ_plain ?_ | refine CallR_plain ?_ | refine wCond ?_); simp [g1, g2, g3, g4]) | (refine wIn ?_; refine And.intro (by kernel_rfl) ?_; try simp only [thenA_n]) | (first | refine wBlock ?_ | refine wScope ?_) | ((first | refine wRet ?_ | refine wExit ?_ | refine wSkip ?_); try simp) | ((first | refine wLabel ?_ | refine wOn ?_ | refine wQn ?_); try simp only [thenA_n])
    all_goals apply hr
    all_goals simp [Try.f63, g4']
  by_cases g5 : n < 0
  · have g5' : ¬ 0 ≤ n := by omega
    refine wBody Try.tab Try.mixed Try.func63 rfl rfl Try.ntmps63 (by simp) (by simp) fun Q hr hn => ?_
    repeat' first | (refine hK _ ?_; clear hK) | (refine hK _ _ ?_; clear hK) | (clear hK; refine hK _ ?_; clear hK) | (clear hK; clear hK; refine hK _ ?_; clear hK) | (clear hK; clear hK; clear hK; refine hK _ ?_; clear hK) | (clear hK; clear hK; clear hK; clear hK; refine hK _ ?_; clear hK) | (refine wSeq fun K hK => ?_) | ((first | refine wReg ?_ | refine wDrwQ rfl (by kernel_rfl) ?_ | refine wDrwI ?_ | refine wDrw (by kernel_rfl) ?_); simp only [List.map_cons, List.map_nil, strip]) | ((first | refine wIs fun K hK => ?_ | refine wOs fun K hK => ?_ | refine wQs fun K hK => ?_ | refine CallK_plain ?_ | refine CallQ_plain ?_ | refine CallR_plain ?_ | refine wCond ?_); simp [g1, g2, g3, g4, g5]) | (refine wIn ?_; refine And.intro (by kernel_rfl) ?_; try simp only [thenA_n]) | (first | refine wBlock ?_ | refine wScope ?_) | ((first | refine wRet ?_ | refine wExit ?_ | refine wSkip ?_); try simp) | ((first | refine wLabel ?_ | refine wOn ?_ | refine wQn ?_); try simp only [thenA_n])
    all_goals apply hr
    all_goals simp [Try.f63, g5']
  by_cases g6 : 1099511627776 < n
  · have g6' : ¬ n ≤ 1099511627776 := by omega
    refine wBody Try.tab Try.mixed Try.func63 rfl rfl Try.ntmps63 (by simp) (by simp) fun Q hr hn => ?_
    repeat' first | (refine hK _ ?_; clear hK) | (refine hK _ _ ?_; clear hK) | (clear hK; refine hK _ ?_; clear hK) | (clear hK; clear hK; refine hK _ ?_; clear hK) | (clear hK; clear hK; clear hK; refine hK _ ?_; clear hK) | (clear hK; clear hK; clear hK; clear hK; refine hK _ ?_; clear hK) | (refine wSeq fun K hK => ?_) | ((first | refine wReg ?_ | refine wDrwQ rfl (by kernel_rfl) ?_ | refine wDrwI ?_ | refine wDrw (by kernel_rfl) ?_); simp only [List.map_cons, List.map_nil, strip]) | ((first | refine wIs fun K hK => ?_ | refine wOs fun K hK => ?_ | refine wQs fun K hK => ?_ | refine CallK_plain ?_ | refine CallQ_plain ?_ | refine CallR_plain ?_ | refine wCond ?_); simp [g1, g2, g3, g4, g5, g6]) | (refine wIn ?_; refine And.intro (by kernel_rfl) ?_; try simp only [thenA_n]) | (first | refine wBlock ?_ | refine wScope ?_) | ((first | refine wRet ?_ | refine wExit ?_ | refine wSkip ?_); try simp) | ((first | refine wLabel ?_ | refine wOn ?_ | refine wQn ?_); try simp only [thenA_n])
    all_goals apply hr
    all_goals simp [Try.f63, g6']
  rw [if_pos ⟨⟨by omega, by omega⟩, ⟨by omega, by omega⟩, ⟨by omega, by omega⟩⟩]
  refine wBody Try.tab Try.mixed Try.func63 rfl rfl Try.ntmps63 (by simp) (by simp) fun Q hr hn => ?_
  repeat' first | (refine hK _ ?_; clear hK) | (refine hK _ _ ?_; clear hK) | (clear hK; refine hK _ ?_; clear hK) | (clear hK; clear hK; refine hK _ ?_; clear hK) | (clear hK; clear hK; clear hK; refine hK _ ?_; clear hK) | (clear hK; clear hK; clear hK; clear hK; refine hK _ ?_; clear hK) | (refine wSeq fun K hK => ?_) | ((first | refine wReg ?_ | refine wDrwQ rfl (by kernel_rfl) ?_ | refine wDrwI ?_ | refine wDrw (by kernel_rfl) ?_); simp only [List.map_cons, List.map_nil, strip]) | ((first | refine wIs fun K hK => ?_ | refine wOs fun K hK => ?_ | refine wQs fun K hK => ?_ | refine CallK_plain ?_ | refine CallQ_plain ?_ | refine CallR_plain ?_ | refine wCond ?_); simp [g1, g2, g3, g4, g5, g6]) | (refine wIn ?_; refine And.intro (by kernel_rfl) ?_; try simp only [thenA_n]) | (first | refine wBlock ?_ | refine wScope ?_) | ((first | refine wRet ?_ | refine wExit ?_ | refine wSkip ?_); try simp) | ((first | refine wLabel ?_ | refine wOn ?_ | refine wQn ?_); try simp only [thenA_n])
  refine wLoop (fun N st => ∃ (k : Nat) (a b : Int), k + N = l.length ∧ st.s 1 = .ptr 1 0 ∧ st.b 1 = some (.box 35 [.p (I ep), .p (I n), .p (I kind), .p (.sl 4 (mbs l))]) ∧ st.s 40 = .p (.sl 4 (mbs l)) ∧ st.s 41 = .p (I l.length) ∧ st.s 42 = .p (I k) ∧ st.s 3 = .p (I a) ∧ st.s 4 = .p (I b) ∧ fine (prevI l k) (l.drop k) = fine (-1) l ∧
    (0 ≤ a ∧ a ≤ 100 * k ∧ a + wsum (l.drop k) = wsum l) ∧ (0 ≤ b ∧ b ≤ k ∧ b + cnt (l.drop k) = cnt l)) l.length ⟨0, 0, 0, by simp [prevI_zero]⟩ fun K N st hL ⟨k, a, b, hk, h1, b1, h40, h41, h42, h3, h4, hi, ⟨ha0, ha1, ha⟩, ⟨hb0, hb1, hb⟩⟩ => ?_
  by_cases hlt : k < l.length
  · have hw := wrapS k _ hlt (by omega)
    have hwb : IntKind.i64.wrap (b + 1) = b + 1 := by rw [wrap_id] <;> omega
    rw [List.drop_eq_getElem_cons hlt, fine] at hi
    rw [List.drop_eq_getElem_cons hlt, wsum] at ha
    rw [List.drop_eq_getElem_cons hlt, cnt] at hb
    have cr := ok04_con l[k]
    simp only [Mb.cells] at cr
    by_cases o1 : okM l[k]
    · rw [decide_eq_true o1] at cr
      have hw0 := o1.2.2.1
      have hwa : IntKind.i64.wrap (a + l[k].w) = a + l[k].w := by rw [wrap_id] <;> omega
      by_cases o2 : 0 < k
      · have o2' : (0 : Int) < k := by omega
        have hw1 : IntKind.i64.wrap ((k : Int) - 1) = ((k - 1 : Nat) : Int) := by rw [wrap_id] <;> omega
        have hk1 : k - 1 < l.length := by omega
        rw [prevI_pos l k o2 hlt] at hi
        by_cases o3 : l[k].i ≤ l[k - 1].i
        · repeat' first | (refine hK _ ?_; clear hK) | (refine hK _ _ ?_; clear hK) | (clear hK; refine hK _ ?_; clear hK) | (clear hK; clear hK; refine hK _ ?_; clear hK) | (clear hK; clear hK; clear hK; refine hK _ ?_; clear hK) | (clear hK; clear hK; clear hK; clear hK; refine hK _ ?_; clear hK) | (refine wSeq fun K hK => ?_) | ((first | refine wReg ?_ | refine wDrwQ rfl (by kernel_rfl) ?_ | refine wDrwI ?_ | refine wDrw (by kernel_rfl) ?_); simp only [List.map_cons, List.map_nil, strip]) | ((first | refine wIs fun K hK => ?_ | refine wOs fun K hK => ?_ | refine wQs fun K hK => ?_ | refine CallK_plain ?_ | refine CallQ_plain ?_ | refine CallR_plain ?_ | refine wCond ?_); simp [h1, b1, h40, h41, h42, h3, h4, hlt, hw, o2, o2', hw1, hk1, o3]) | (refine wIn ?_; refine And.intro (by kernel_rfl) ?_; try simp only [thenA_n]) | (first | refine wBlock ?_ | refine wScope ?_) | ((first | refine wRet ?_ | refine wExit ?_ | refine wSkip ?_); try simp) | ((first | refine wLabel ?_ | refine wOn ?_ | refine wQn ?_); try simp only [thenA_n]) | (refine CallE.pure (cr) rfl ?_) | (refine CallE.lent (cr) rfl ?_) | (refine CallF.pure (cr) rfl ?_) | (refine CallF.lent (cr) rfl ?_) | (refine CallE.own (cr) ?_) | (refine CallH.pure (cr) rfl ?_) | (refine CallH.lent (cr) rfl ?_) | (refine CallH.own (cr) ?_)
          all_goals apply hr
          all_goals simp [Try.f63]
          all_goals rw [decide_eq_false (by omega)] at hi
          all_goals simp [← hi]
        · rw [decide_eq_true ⟨o1, by omega⟩, Bool.true_and] at hi
          by_cases o4 : l[k].r = 1
          · rw [o4] at cr
            repeat' first | (refine hK _ ?_; clear hK) | (refine hK _ _ ?_; clear hK) | (clear hK; refine hK _ ?_; clear hK) | (clear hK; clear hK; refine hK _ ?_; clear hK) | (clear hK; clear hK; clear hK; refine hK _ ?_; clear hK) | (clear hK; clear hK; clear hK; clear hK; refine hK _ ?_; clear hK) | (refine wSeq fun K hK => ?_) | ((first | refine wReg ?_ | refine wDrwQ rfl (by kernel_rfl) ?_ | refine wDrwI ?_ | refine wDrw (by kernel_rfl) ?_); simp only [List.map_cons, List.map_nil, strip]) | ((first | refine wIs fun K hK => ?_ | refine wOs fun K hK => ?_ | refine wQs fun K hK => ?_ | refine CallK_plain ?_ | refine CallQ_plain ?_ | refine CallR_plain ?_ | refine wCond ?_); simp [h1, b1, h40, h41, h42, h3, h4, hlt, hw, o2, o2', hw1, hk1, o3, o4, hwa, hwb]) | (refine wIn ?_; refine And.intro (by kernel_rfl) ?_; try simp only [thenA_n]) | (first | refine wBlock ?_ | refine wScope ?_) | ((first | refine wRet ?_ | refine wExit ?_ | refine wSkip ?_); try simp) | ((first | refine wLabel ?_ | refine wOn ?_ | refine wQn ?_); try simp only [thenA_n]) | (refine CallE.pure (cr) rfl ?_) | (refine CallE.lent (cr) rfl ?_) | (refine CallF.pure (cr) rfl ?_) | (refine CallF.lent (cr) rfl ?_) | (refine CallE.own (cr) ?_) | (refine CallH.pure (cr) rfl ?_) | (refine CallH.lent (cr) rfl ?_) | (refine CallH.own (cr) ?_)
            refine hL _ (N - 1) (by omega) ⟨k + 1, a + l[k].w, b + 1, by omega, ?_⟩
            rw [if_pos o4] at ha hb
            simp [h1, b1, h40, h41, hw, hwa, hwb]
            rw [prevI_succ l k hlt]
            refine ⟨hi, ⟨by omega, by omega, by omega⟩, by omega, by omega⟩
          · repeat' first | (refine hK _ ?_; clear hK) | (refine hK _ _ ?_; clear hK) | (clear hK; refine hK _ ?_; clear hK) | (clear hK; clear hK; refine hK _ ?_; clear hK) | (clear hK; clear hK; clear hK; refine hK _ ?_; clear hK) | (clear hK; clear hK; clear hK; clear hK; refine hK _ ?_; clear hK) | (refine wSeq fun K hK => ?_) | ((first | refine wReg ?_ | refine wDrwQ rfl (by kernel_rfl) ?_ | refine wDrwI ?_ | refine wDrw (by kernel_rfl) ?_); simp only [List.map_cons, List.map_nil, strip]) | ((first | refine wIs fun K hK => ?_ | refine wOs fun K hK => ?_ | refine wQs fun K hK => ?_ | refine CallK_plain ?_ | refine CallQ_plain ?_ | refine CallR_plain ?_ | refine wCond ?_); simp [h1, b1, h40, h41, h42, h3, h4, hlt, hw, o2, o2', hw1, hk1, o3, o4]) | (refine wIn ?_; refine And.intro (by kernel_rfl) ?_; try simp only [thenA_n]) | (first | refine wBlock ?_ | refine wScope ?_) | ((first | refine wRet ?_ | refine wExit ?_ | refine wSkip ?_); try simp) | ((first | refine wLabel ?_ | refine wOn ?_ | refine wQn ?_); try simp only [thenA_n]) | (refine CallE.pure (cr) rfl ?_) | (refine CallE.lent (cr) rfl ?_) | (refine CallF.pure (cr) rfl ?_) | (refine CallF.lent (cr) rfl ?_) | (refine CallE.own (cr) ?_) | (refine CallH.pure (cr) rfl ?_) | (refine CallH.lent (cr) rfl ?_) | (refine CallH.own (cr) ?_)
            refine hL _ (N - 1) (by omega) ⟨k + 1, a, b, by omega, ?_⟩
            rw [if_neg o4] at ha hb
            simp [h1, b1, h40, h41, h3, h4, hw]
            rw [prevI_succ l k hlt]
            refine ⟨hi, ⟨by omega, by omega, by omega⟩, by omega, by omega, by omega⟩
      · obtain rfl : k = 0 := by omega
        have := o1.1.1
        rw [prevI_zero, decide_eq_true ⟨o1, by omega⟩, Bool.true_and] at hi
        simp at h42 hw
        by_cases o4 : l[0].r = 1
        · rw [o4] at cr
          repeat' first | (refine hK _ ?_; clear hK) | (refine hK _ _ ?_; clear hK) | (clear hK; refine hK _ ?_; clear hK) | (clear hK; clear hK; refine hK _ ?_; clear hK) | (clear hK; clear hK; clear hK; refine hK _ ?_; clear hK) | (clear hK; clear hK; clear hK; clear hK; refine hK _ ?_; clear hK) | (refine wSeq fun K hK => ?_) | ((first | refine wReg ?_ | refine wDrwQ rfl (by kernel_rfl) ?_ | refine wDrwI ?_ | refine wDrw (by kernel_rfl) ?_); simp only [List.map_cons, List.map_nil, strip]) | ((first | refine wIs fun K hK => ?_ | refine wOs fun K hK => ?_ | refine wQs fun K hK => ?_ | refine CallK_plain ?_ | refine CallQ_plain ?_ | refine CallR_plain ?_ | refine wCond ?_); simp [h1, b1, h40, h41, h42, h3, h4, hlt, hw, o4, hwa, hwb]) | (refine wIn ?_; refine And.intro (by kernel_rfl) ?_; try simp only [thenA_n]) | (first | refine wBlock ?_ | refine wScope ?_) | ((first | refine wRet ?_ | refine wExit ?_ | refine wSkip ?_); try simp) | ((first | refine wLabel ?_ | refine wOn ?_ | refine wQn ?_); try simp only [thenA_n]) | (refine CallE.pure (cr) rfl ?_) | (refine CallE.lent (cr) rfl ?_) | (refine CallF.pure (cr) rfl ?_) | (refine CallF.lent (cr) rfl ?_) | (refine CallE.own (cr) ?_) | (refine CallH.pure (cr) rfl ?_) | (refine CallH.lent (cr) rfl ?_) | (refine CallH.own (cr) ?_)
          refine hL _ (N - 1) (by omega) ⟨0 + 1, a + l[0].w, b + 1, by omega, ?_⟩
          rw [if_pos o4] at ha hb
          rw [prevI_succ l 0 hlt]
          simp [h1, b1, h40, h41, hw, hwa, hwb]
          rw [← List.drop_one]
          simp only [Nat.zero_add] at ha hb hi
          refine ⟨hi, ⟨by omega, by omega, by omega⟩, by omega, by omega, by omega⟩
        · repeat' first | (refine hK _ ?_; clear hK) | (refine hK _ _ ?_; clear hK) | (clear hK; refine hK _ ?_; clear hK) | (clear hK; clear hK; refine hK _ ?_; clear hK) | (clear hK; clear hK; clear hK; refine hK _ ?_; clear hK) | (clear hK; clear hK; clear hK; clear hK; refine hK _ ?_; clear hK) | (refine wSeq fun K hK => ?_) | ((first | refine wReg ?_ | refine wDrwQ rfl (by kernel_rfl) ?_ | refine wDrwI ?_ | refine wDrw (by kernel_rfl) ?_); simp only [List.map_cons, List.map_nil, strip]) | ((first | refine wIs fun K hK => ?_ | refine wOs fun K hK => ?_ | refine wQs fun K hK => ?_ | refine CallK_plain ?_ | refine CallQ_plain ?_ | refine CallR_plain ?_ | refine wCond ?_); simp [h1, b1, h40, h41, h42, h3, h4, hlt, hw, o4]) | (refine wIn ?_; refine And.intro (by kernel_rfl) ?_; try simp only [thenA_n]) | (first | refine wBlock ?_ | refine wScope ?_) | ((first | refine wRet ?_ | refine wExit ?_ | refine wSkip ?_); try simp) | ((first | refine wLabel ?_ | refine wOn ?_ | refine wQn ?_); try simp only [thenA_n]) | (refine CallE.pure (cr) rfl ?_) | (refine CallE.lent (cr) rfl ?_) | (refine CallF.pure (cr) rfl ?_) | (refine CallF.lent (cr) rfl ?_) | (refine CallE.own (cr) ?_) | (refine CallH.pure (cr) rfl ?_) | (refine CallH.lent (cr) rfl ?_) | (refine CallH.own (cr) ?_)
          refine hL _ (N - 1) (by omega) ⟨0 + 1, a, b, by omega, ?_⟩
          rw [if_neg o4] at ha hb
          rw [prevI_succ l 0 hlt]
          simp [h1, b1, h40, h41, h3, h4, hw]
          rw [← List.drop_one]
          simp only [Nat.zero_add] at ha hb hi
          refine ⟨hi, ⟨by omega, by omega, by omega⟩, by omega, by omega, by omega⟩
    · rw [decide_eq_false o1] at cr
      repeat' first | (refine hK _ ?_; clear hK) | (refine hK _ _ ?_; clear hK) | (clear hK; refine hK _ ?_; clear hK) | (clear hK; clear hK; refine hK _ ?_; clear hK) | (clear hK; clear hK; clear hK; refine hK _ ?_; clear hK) | (clear hK; clear hK; clear hK; clear hK; refine hK _ ?_; clear hK) | (refine wSeq fun K hK => ?_) | ((first | refine wReg ?_ | refine wDrwQ rfl (by kernel_rfl) ?_ | refine wDrwI ?_ | refine wDrw (by kernel_rfl) ?_); simp only [List.map_cons, List.map_nil, strip]) | ((first | refine wIs fun K hK => ?_ | refine wOs fun K hK => ?_ | refine wQs fun K hK => ?_ | refine CallK_plain ?_ | refine CallQ_plain ?_ | refine CallR_plain ?_ | refine wCond ?_); simp [h1, b1, h40, h41, h42, h3, h4, hlt, hw]) | (refine wIn ?_; refine And.intro (by kernel_rfl) ?_; try simp only [thenA_n]) | (first | refine wBlock ?_ | refine wScope ?_) | ((first | refine wRet ?_ | refine wExit ?_ | refine wSkip ?_); try simp) | ((first | refine wLabel ?_ | refine wOn ?_ | refine wQn ?_); try simp only [thenA_n]) | (refine CallE.pure (cr) rfl ?_) | (refine CallE.lent (cr) rfl ?_) | (refine CallF.pure (cr) rfl ?_) | (refine CallF.lent (cr) rfl ?_) | (refine CallE.own (cr) ?_) | (refine CallH.pure (cr) rfl ?_) | (refine CallH.lent (cr) rfl ?_) | (refine CallH.own (cr) ?_)
      all_goals apply hr
      all_goals simp [Try.f63]
      all_goals simp [← hi, o1]
  · rw [List.drop_of_length_le (by omega)] at hi ha hb
    have hi' : fine (-1) l = true := hi ▸ rfl
    obtain ⟨e1, e2, e3, e4, e5⟩ := sums kind l _ hi'
    simp only [wsum, cnt, Int.add_zero] at ha hb
    subst ha hb
    by_cases g5 : cnt l = 0
    · repeat' first | (refine hK _ ?_; clear hK) | (refine hK _ _ ?_; clear hK) | (clear hK; refine hK _ ?_; clear hK) | (clear hK; clear hK; refine hK _ ?_; clear hK) | (clear hK; clear hK; clear hK; refine hK _ ?_; clear hK) | (clear hK; clear hK; clear hK; clear hK; refine hK _ ?_; clear hK) | (refine wSeq fun K hK => ?_) | ((first | refine wReg ?_ | refine wDrwQ rfl (by kernel_rfl) ?_ | refine wDrwI ?_ | refine wDrw (by kernel_rfl) ?_); simp only [List.map_cons, List.map_nil, strip]) | ((first | refine wIs fun K hK => ?_ | refine wOs fun K hK => ?_ | refine wQs fun K hK => ?_ | refine CallK_plain ?_ | refine CallQ_plain ?_ | refine CallR_plain ?_ | refine wCond ?_); simp [h1, b1, h40, h41, h42, h3, h4, hlt, g5]) | (refine wIn ?_; refine And.intro (by kernel_rfl) ?_; try simp only [thenA_n]) | (first | refine wBlock ?_ | refine wScope ?_) | ((first | refine wRet ?_ | refine wExit ?_ | refine wSkip ?_); try simp) | ((first | refine wLabel ?_ | refine wOn ?_ | refine wQn ?_); try simp only [thenA_n])
      all_goals apply hr
      all_goals simp [Try.f63, hi']
      all_goals by_cases g6 : kind = 1
      all_goals first | rw [e4 g6, decide_eq_false (by omega)] | rw [e5 g6, decide_eq_false (by omega)]
      all_goals rfl
    · by_cases g6 : kind = 1
      · repeat' first | (refine hK _ ?_; clear hK) | (refine hK _ _ ?_; clear hK) | (clear hK; refine hK _ ?_; clear hK) | (clear hK; clear hK; refine hK _ ?_; clear hK) | (clear hK; clear hK; clear hK; refine hK _ ?_; clear hK) | (clear hK; clear hK; clear hK; clear hK; refine hK _ ?_; clear hK) | (refine wSeq fun K hK => ?_) | ((first | refine wReg ?_ | refine wDrwQ rfl (by kernel_rfl) ?_ | refine wDrwI ?_ | refine wDrw (by kernel_rfl) ?_); simp only [List.map_cons, List.map_nil, strip]) | ((first | refine wIs fun K hK => ?_ | refine wOs fun K hK => ?_ | refine wQs fun K hK => ?_ | refine CallK_plain ?_ | refine CallQ_plain ?_ | refine CallR_plain ?_ | refine wCond ?_); simp [h1, b1, h40, h41, h42, h3, h4, hlt, g5, g6]) | (refine wIn ?_; refine And.intro (by kernel_rfl) ?_; try simp only [thenA_n]) | (first | refine wBlock ?_ | refine wScope ?_) | ((first | refine wRet ?_ | refine wExit ?_ | refine wSkip ?_); try simp) | ((first | refine wLabel ?_ | refine wOn ?_ | refine wQn ?_); try simp only [thenA_n])
        all_goals apply hr
        all_goals simp [Try.f63, hi']
        all_goals rw [e4 g6, decide_eq_true (by omega)]
        all_goals rfl
      · by_cases g7 : wsum l = 0
        · repeat' first | (refine hK _ ?_; clear hK) | (refine hK _ _ ?_; clear hK) | (clear hK; refine hK _ ?_; clear hK) | (clear hK; clear hK; refine hK _ ?_; clear hK) | (clear hK; clear hK; clear hK; refine hK _ ?_; clear hK) | (clear hK; clear hK; clear hK; clear hK; refine hK _ ?_; clear hK) | (refine wSeq fun K hK => ?_) | ((first | refine wReg ?_ | refine wDrwQ rfl (by kernel_rfl) ?_ | refine wDrwI ?_ | refine wDrw (by kernel_rfl) ?_); simp only [List.map_cons, List.map_nil, strip]) | ((first | refine wIs fun K hK => ?_ | refine wOs fun K hK => ?_ | refine wQs fun K hK => ?_ | refine CallK_plain ?_ | refine CallQ_plain ?_ | refine CallR_plain ?_ | refine wCond ?_); simp [h1, b1, h40, h41, h42, h3, h4, hlt, g5, g6, g7]) | (refine wIn ?_; refine And.intro (by kernel_rfl) ?_; try simp only [thenA_n]) | (first | refine wBlock ?_ | refine wScope ?_) | ((first | refine wRet ?_ | refine wExit ?_ | refine wSkip ?_); try simp) | ((first | refine wLabel ?_ | refine wOn ?_ | refine wQn ?_); try simp only [thenA_n])
          all_goals apply hr
          all_goals simp [Try.f63, hi']
          all_goals rw [e5 g6, decide_eq_false (by omega)]
          all_goals rfl
        · repeat' first | (refine hK _ ?_; clear hK) | (refine hK _ _ ?_; clear hK) | (clear hK; refine hK _ ?_; clear hK) | (clear hK; clear hK; refine hK _ ?_; clear hK) | (clear hK; clear hK; clear hK; refine hK _ ?_; clear hK) | (clear hK; clear hK; clear hK; clear hK; refine hK _ ?_; clear hK) | (refine wSeq fun K hK => ?_) | ((first | refine wReg ?_ | refine wDrwQ rfl (by kernel_rfl) ?_ | refine wDrwI ?_ | refine wDrw (by kernel_rfl) ?_); simp only [List.map_cons, List.map_nil, strip]) | ((first | refine wIs fun K hK => ?_ | refine wOs fun K hK => ?_ | refine wQs fun K hK => ?_ | refine CallK_plain ?_ | refine CallQ_plain ?_ | refine CallR_plain ?_ | refine wCond ?_); simp [h1, b1, h40, h41, h42, h3, h4, hlt, g5, g6, g7]) | (refine wIn ?_; refine And.intro (by kernel_rfl) ?_; try simp only [thenA_n]) | (first | refine wBlock ?_ | refine wScope ?_) | ((first | refine wRet ?_ | refine wExit ?_ | refine wSkip ?_); try simp) | ((first | refine wLabel ?_ | refine wOn ?_ | refine wQn ?_); try simp only [thenA_n])
          all_goals apply hr
          all_goals simp [Try.f63, hi']
          all_goals rw [e5 g6, decide_eq_true (by omega)]
          all_goals rfl
end Go.Proofs.Ytnfcbkageifmfaa

/- By heads and by weight. -/
namespace Go.Proofs.Ytnfcbkageifmfaa
set_option linter.unusedSimpArgs false
set_option linter.unusedVariables false
open Go Go.Av
attribute [local simp] Try.T1 Try.T2 Try.T3 Try.T4 Try.T5 Try.T9 Try.T12 Try.T15 Try.T16 Try.T17 Try.T21 Try.T22 Try.T23 Try.T25 Try.T27 Try.T29 Try.T30 Try.T31 Try.T32 Try.T33 Try.T35 Try.T37 Try.T38 Try.T40 Try.T41 Try.T42 Try.T43 Try.T44 Try.T45 Try.T46 Try.T47 Try.T48 Try.T49 Try.T50 Try.T51 Try.T52 Try.T53 Try.T54 Try.T56 Try.T57 Try.T58 Try.T59 Try.T60 Try.T61 Try.T62 Try.T64 Try.T66 Try.T67 Try.T68 Try.T69 Try.T71 Try.T72 Try.T73 Try.T74 Try.T75 Try.T76 Try.T77 Try.T78 Try.T79 Try.T80 Try.T81 Try.T82 Try.T83 Try.T84 Try.T85 Try.T86 Try.T87 Try.T88 Try.T89 Try.T90 Try.T91 Try.T92 Try.T93 Try.T94 Try.T95 Try.T97 Try.T98 Try.T99 Try.T100 Try.T101 Try.T102 Try.T103 Try.T104 Try.T105 Try.T106 Try.T107 Try.T108 Try.T109 Try.T110 Try.T111 Try.T112 Try.T113 Try.T114 Try.T115 Try.T116 Try.T117 Try.T120 Try.T123 Try.T124 Try.T127 Try.T128
attribute [local irreducible] Go.Av.CallK Go.Av.CallE Go.Av.CallQ Go.Av.CallF Go.Av.CallR Go.Av.CallH Go.Av.Con
def tot (f : Mb → Int) (p : Mb → Bool) : List Mb → Int
  | [] => 0
  | m :: l => (if m.r = 1 ∧ p m = true then f m else 0) + tot f p l
def inS (set : List Int) (m : Mb) : Bool := decide (m.i ∈ set)
def yes (_ : Mb) : Bool := true
def one (_ : Mb) : Int := 1
def okL (l : List Mb) : Prop := ∀ m ∈ l, okM m
theorem fine_ok : ∀ (l : List Mb) (p : Int), fine p l = true → okL l
  | [], _, _ => fun m hm => by simp at hm
  | m :: l, p, h => fun x hx => by
    simp only [fine, Bool.and_eq_true, decide_eq_true_eq] at h
    rcases List.mem_cons.1 hx with rfl | hx
    · exact h.1.1
    · exact fine_ok l _ h.2 x hx
theorem okL_get {l : List Mb} (h : okL l) (k : Nat) (hk : k < l.length) : okM l[k] := h _ (List.getElem_mem hk)
theorem is1_con (m : Mb) : ACon Try.prog 76 [.p (.agg m.cells)] (.p (I (one m))) := by
  obtain ⟨i, r, w, g⟩ := m
  simp only [Mb.cells, one]
  refine wBody Try.tab Try.mixed Try.func76 rfl rfl Try.ntmps76 (by simp) (by simp) fun Q hr hn => ?_
  repeat' first | (refine hK _ ?_; clear hK) | (refine hK _ _ ?_; clear hK) | (clear hK; refine hK _ ?_; clear hK) | (clear hK; clear hK; refine hK _ ?_; clear hK) | (clear hK; clear hK; clear hK; refine hK _ ?_; clear hK) | (clear hK; clear hK; clear hK; clear hK; refine hK _ ?_; clear hK) | (refine wSeq fun K hK => ?_) | ((first | refine wReg ?_ | refine wDrwQ rfl (by kernel_rfl) ?_ | refine wDrwI ?_ | refine wDrw (by kernel_rfl) ?_); simp only [List.map_cons, List.map_nil, strip]) | ((first | refine wIs fun K hK => ?_ | refine wOs fun K hK => ?_ | refine wQs fun K hK => ?_ | refine CallK_plain ?_ | refine CallQ_plain ?_ | refine CallR_plain ?_ | refine wCond ?_); simp) | (refine wIn ?_; refine And.intro (by kernel_rfl) ?_; try simp only [thenA_n]) | (first | refine wBlock ?_ | refine wScope ?_) | ((first | refine wRet ?_ | refine wExit ?_ | refine wSkip ?_); try simp) | ((first | refine wLabel ?_ | refine wOn ?_ | refine wQn ?_); try simp only [thenA_n])
  all_goals apply hr
  all_goals simp [Try.f76]
theorem is2_con (m : Mb) : ACon Try.prog 77 [.p (.agg m.cells)] (.p (I m.w)) := by
  obtain ⟨i, r, w, g⟩ := m
  simp only [Mb.cells]
  refine wBody Try.tab Try.mixed Try.func77 rfl rfl Try.ntmps77 (by simp) (by simp) fun Q hr hn => ?_
  repeat' first | (refine hK _ ?_; clear hK) | (refine hK _ _ ?_; clear hK) | (clear hK; refine hK _ ?_; clear hK) | (clear hK; clear hK; refine hK _ ?_; clear hK) | (clear hK; clear hK; clear hK; refine hK _ ?_; clear hK) | (clear hK; clear hK; clear hK; clear hK; refine hK _ ?_; clear hK) | (refine wSeq fun K hK => ?_) | ((first | refine wReg ?_ | refine wDrwQ rfl (by kernel_rfl) ?_ | refine wDrwI ?_ | refine wDrw (by kernel_rfl) ?_); simp only [List.map_cons, List.map_nil, strip]) | ((first | refine wIs fun K hK => ?_ | refine wOs fun K hK => ?_ | refine wQs fun K hK => ?_ | refine CallK_plain ?_ | refine CallQ_plain ?_ | refine CallR_plain ?_ | refine wCond ?_); simp) | (refine wIn ?_; refine And.intro (by kernel_rfl) ?_; try simp only [thenA_n]) | (first | refine wBlock ?_ | refine wScope ?_) | ((first | refine wRet ?_ | refine wExit ?_ | refine wSkip ?_); try simp) | ((first | refine wLabel ?_ | refine wOn ?_ | refine wQn ?_); try simp only [thenA_n])
  all_goals apply hr
  all_goals simp [Try.f77]
set_option maxHeartbeats 2000000 in
theorem most_con (c : Cf) (set : List Int) (h : Nat) (f : Mb → Int) (hl : c.ms.length ≤ 1000000) (hf : ∀ m, ACon Try.prog h [.p (.agg m.cells)] (.p (I (f m)))) (hb : ∀ m ∈ c.ms, 0 ≤ f m ∧ f m ≤ 100) :
    ACon Try.prog 75 [.p (.agg c.cells), .p (.sl 1 (ints set)), .p (.v (.func (.func h) #[] #[]))] (.p (B (decide (tot f yes c.ms < 2 * tot f (inS set) c.ms)))) := by
  obtain ⟨ep, n, kind, l⟩ := c
  simp only [Cf.cells] at hl hb ⊢
  refine wBody Try.tab Try.mixed Try.func75 rfl rfl Try.ntmps75 (by simp) (by simp) fun Q hr hn => ?_
  repeat' first | (refine hK _ ?_; clear hK) | (refine hK _ _ ?_; clear hK) | (clear hK; refine hK _ ?_; clear hK) | (clear hK; clear hK; refine hK _ ?_; clear hK) | (clear hK; clear hK; clear hK; refine hK _ ?_; clear hK) | (clear hK; clear hK; clear hK; clear hK; refine hK _ ?_; clear hK) | (refine wSeq fun K hK => ?_) | ((first | refine wReg ?_ | refine wDrwQ rfl (by kernel_rfl) ?_ | refine wDrwI ?_ | refine wDrw (by kernel_rfl) ?_); simp only [List.map_cons, List.map_nil, strip]) | ((first | refine wIs fun K hK => ?_ | refine wOs fun K hK => ?_ | refine wQs fun K hK => ?_ | refine CallK_plain ?_ | refine CallQ_plain ?_ | refine CallR_plain ?_ | refine wCond ?_); simp) | (refine wIn ?_; refine And.intro (by kernel_rfl) ?_; try simp only [thenA_n]) | (first | refine wBlock ?_ | refine wScope ?_) | ((first | refine wRet ?_ | refine wExit ?_ | refine wSkip ?_); try simp) | ((first | refine wLabel ?_ | refine wOn ?_ | refine wQn ?_); try simp only [thenA_n])
  refine wLoop (fun N st => ∃ (k : Nat) (a b : Int), k + N = l.length ∧ st.s 1 = .p (.sl 1 (ints set)) ∧ st.s 2 = .p (.v (.func (.func h) #[] #[])) ∧ st.s 3 = .ptr 3 0 ∧ st.b 3 = some (.box 35 [.p (I ep), .p (I n), .p (I kind), .p (.sl 4 (mbs l))]) ∧ st.s 12 = .p (.sl 4 (mbs l)) ∧ st.s 13 = .p (I l.length) ∧ st.s 14 = .p (I k) ∧ st.s 8 = .p (I a) ∧ st.s 7 = .p (I b) ∧
    (0 ≤ a ∧ a ≤ 100 * k ∧ a + tot f yes (l.drop k) = tot f yes l) ∧ (0 ≤ b ∧ b ≤ 100 * k ∧ b + tot f (inS set) (l.drop k) = tot f (inS set) l)) l.length ⟨0, 0, 0, by simp⟩ fun K N st hL ⟨k, a, b, hk, h1, h2, h3, b3, h12, h13, h14, h8, h7, ⟨ha0, ha1, ha⟩, ⟨hb0, hb1, hbb⟩⟩ => ?_
  by_cases hlt : k < l.length
  · have hw := wrapS k _ hlt (by omega)
    rw [List.drop_eq_getElem_cons hlt, tot] at ha hbb
    have hx := hf l[k]
    obtain ⟨w0, w1⟩ := hb _ (List.getElem_mem hlt)
    simp only [Mb.cells] at hx
    by_cases o4 : l[k].r = 1
    · have hwa : IntKind.i64.wrap (a + f l[k]) = a + f l[k] := by rw [wrap_id] <;> omega
      have hwb : IntKind.i64.wrap (b + f l[k]) = b + f l[k] := by rw [wrap_id] <;> omega
      have hcall := contains_con set l[k].i
      rw [o4] at hx
      simp only [o4, yes, inS, true_and, if_true] at ha hbb
      by_cases o5 : l[k].i ∈ set
      · rw [decide_eq_true o5] at hcall hbb
        repeat' first | (refine hK _ ?_; clear hK) | (refine hK _ _ ?_; clear hK) | (clear hK; refine hK _ ?_; clear hK) | (clear hK; clear hK; refine hK _ ?_; clear hK) | (clear hK; clear hK; clear hK; refine hK _ ?_; clear hK) | (clear hK; clear hK; clear hK; clear hK; refine hK _ ?_; clear hK) | (refine wSeq fun K hK => ?_) | ((first | refine wReg ?_ | refine wDrwQ rfl (by kernel_rfl) ?_ | refine wDrwI ?_ | refine wDrw (by kernel_rfl) ?_); simp only [List.map_cons, List.map_nil, strip]) | ((first | refine wIs fun K hK => ?_ | refine wOs fun K hK => ?_ | refine wQs fun K hK => ?_ | refine CallK_plain ?_ | refine CallQ_plain ?_ | refine CallR_plain ?_ | refine wCond ?_); simp [h1, h2, h3, b3, h12, h13, h14, h8, h7, hlt, hw, o4, hwa, hwb]) | (refine wIn ?_; refine And.intro (by kernel_rfl) ?_; try simp only [thenA_n]) | (first | refine wBlock ?_ | refine wScope ?_) | ((first | refine wRet ?_ | refine wExit ?_ | refine wSkip ?_); try simp) | ((first | refine wLabel ?_ | refine wOn ?_ | refine wQn ?_); try simp only [thenA_n]) | (refine CallE.pure (hx) rfl ?_) | (refine CallE.lent (hx) rfl ?_) | (refine CallF.pure (hx) rfl ?_) | (refine CallF.lent (hx) rfl ?_) | (refine CallE.own (hx) ?_) | (refine CallH.pure (hx) rfl ?_) | (refine CallH.lent (hx) rfl ?_) | (refine CallH.own (hx) ?_) | (refine CallE.pure (hcall) rfl ?_) | (refine CallE.lent (hcall) rfl ?_) | (refine CallF.pure (hcall) rfl ?_) | (refine CallF.lent (hcall) rfl ?_) | (refine CallE.own (hcall) ?_) | (refine CallH.pure (hcall) rfl ?_) | (refine CallH.lent (hcall) rfl ?_) | (refine CallH.own (hcall) ?_)
        refine hL _ (N - 1) (by omega) ⟨k + 1, a + f l[k], b + f l[k], by omega, ?_⟩
        simp [h1, h2, h3, b3, h12, h13, hw, hwa, hwb]
        simp only [if_true] at hbb
        refine ⟨⟨by omega, by omega, ?_⟩, by omega, by omega, ?_⟩
        · rw [Int.add_assoc]; exact ha
        · rw [Int.add_assoc]; exact hbb
      · rw [decide_eq_false o5] at hcall hbb
        repeat' first | (refine hK _ ?_; clear hK) | (refine hK _ _ ?_; clear hK) | (clear hK; refine hK _ ?_; clear hK) | (clear hK; clear hK; refine hK _ ?_; clear hK) | (clear hK; clear hK; clear hK; refine hK _ ?_; clear hK) | (clear hK; clear hK; clear hK; clear hK; refine hK _ ?_; clear hK) | (refine wSeq fun K hK => ?_) | ((first | refine wReg ?_ | refine wDrwQ rfl (by kernel_rfl) ?_ | refine wDrwI ?_ | refine wDrw (by kernel_rfl) ?_); simp only [List.map_cons, List.map_nil, strip]) | ((first | refine wIs fun K hK => ?_ | refine wOs fun K hK => ?_ | refine wQs fun K hK => ?_ | refine CallK_plain ?_ | refine CallQ_plain ?_ | refine CallR_plain ?_ | refine wCond ?_); simp [h1, h2, h3, b3, h12, h13, h14, h8, h7, hlt, hw, o4, hwa]) | (refine wIn ?_; refine And.intro (by kernel_rfl) ?_; try simp only [thenA_n]) | (first | refine wBlock ?_ | refine wScope ?_) | ((first | refine wRet ?_ | refine wExit ?_ | refine wSkip ?_); try simp) | ((first | refine wLabel ?_ | refine wOn ?_ | refine wQn ?_); try simp only [thenA_n]) | (refine CallE.pure (hx) rfl ?_) | (refine CallE.lent (hx) rfl ?_) | (refine CallF.pure (hx) rfl ?_) | (refine CallF.lent (hx) rfl ?_) | (refine CallE.own (hx) ?_) | (refine CallH.pure (hx) rfl ?_) | (refine CallH.lent (hx) rfl ?_) | (refine CallH.own (hx) ?_) | (refine CallE.pure (hcall) rfl ?_) | (refine CallE.lent (hcall) rfl ?_) | (refine CallF.pure (hcall) rfl ?_) | (refine CallF.lent (hcall) rfl ?_) | (refine CallE.own (hcall) ?_) | (refine CallH.pure (hcall) rfl ?_) | (refine CallH.lent (hcall) rfl ?_) | (refine CallH.own (hcall) ?_)
        refine hL _ (N - 1) (by omega) ⟨k + 1, a + f l[k], b, by omega, ?_⟩
        simp [h1, h2, h3, b3, h7, h12, h13, hw, hwa]
        simp at hbb
        refine ⟨⟨by omega, by omega, ?_⟩, by omega, by omega, ?_⟩
        · rw [Int.add_assoc]; exact ha
        · exact hbb
    · simp only [o4, false_and, if_false, Int.zero_add] at ha hbb
      repeat' first | (refine hK _ ?_; clear hK) | (refine hK _ _ ?_; clear hK) | (clear hK; refine hK _ ?_; clear hK) | (clear hK; clear hK; refine hK _ ?_; clear hK) | (clear hK; clear hK; clear hK; refine hK _ ?_; clear hK) | (clear hK; clear hK; clear hK; clear hK; refine hK _ ?_; clear hK) | (refine wSeq fun K hK => ?_) | ((first | refine wReg ?_ | refine wDrwQ rfl (by kernel_rfl) ?_ | refine wDrwI ?_ | refine wDrw (by kernel_rfl) ?_); simp only [List.map_cons, List.map_nil, strip]) | ((first | refine wIs fun K hK => ?_ | refine wOs fun K hK => ?_ | refine wQs fun K hK => ?_ | refine CallK_plain ?_ | refine CallQ_plain ?_ | refine CallR_plain ?_ | refine wCond ?_); simp [h1, h2, h3, b3, h12, h13, h14, h8, h7, hlt, hw, o4]) | (refine wIn ?_; refine And.intro (by kernel_rfl) ?_; try simp only [thenA_n]) | (first | refine wBlock ?_ | refine wScope ?_) | ((first | refine wRet ?_ | refine wExit ?_ | refine wSkip ?_); try simp) | ((first | refine wLabel ?_ | refine wOn ?_ | refine wQn ?_); try simp only [thenA_n])
      refine hL _ (N - 1) (by omega) ⟨k + 1, a, b, by omega, ?_⟩
      simp [h1, h2, h3, b3, h12, h13, h7, h8, hw]
      refine ⟨⟨by omega, by omega, ?_⟩, by omega, by omega, ?_⟩
      · exact ha
      · exact hbb
  · rw [List.drop_of_length_le (by omega)] at ha hbb
    simp only [tot, Int.add_zero] at ha hbb
    subst ha hbb
    have hw2 : IntKind.i64.wrap (2 * tot f (inS set) l) = 2 * tot f (inS set) l := by rw [wrap_id] <;> omega
    repeat' first | (refine hK _ ?_; clear hK) | (refine hK _ _ ?_; clear hK) | (clear hK; refine hK _ ?_; clear hK) | (clear hK; clear hK; refine hK _ ?_; clear hK) | (clear hK; clear hK; clear hK; refine hK _ ?_; clear hK) | (clear hK; clear hK; clear hK; clear hK; refine hK _ ?_; clear hK) | (refine wSeq fun K hK => ?_) | ((first | refine wReg ?_ | refine wDrwQ rfl (by kernel_rfl) ?_ | refine wDrwI ?_ | refine wDrw (by kernel_rfl) ?_); simp only [List.map_cons, List.map_nil, strip]) | ((first | refine wIs fun K hK => ?_ | refine wOs fun K hK => ?_ | refine wQs fun K hK => ?_ | refine CallK_plain ?_ | refine CallQ_plain ?_ | refine CallR_plain ?_ | refine wCond ?_); simp [h1, h2, h3, b3, h12, h13, h14, h8, h7, hlt, hw2]) | (refine wIn ?_; refine And.intro (by kernel_rfl) ?_; try simp only [thenA_n]) | (first | refine wBlock ?_ | refine wScope ?_) | ((first | refine wRet ?_ | refine wExit ?_ | refine wSkip ?_); try simp) | ((first | refine wLabel ?_ | refine wOn ?_ | refine wQn ?_); try simp only [thenA_n])
    apply hr
    simp [Try.f75]
end Go.Proofs.Ytnfcbkageifmfaa

/- By groups. -/
namespace Go.Proofs.Ytnfcbkageifmfaa
set_option linter.unusedSimpArgs false
set_option linter.unusedVariables false
open Go Go.Av
attribute [local simp] Try.T1 Try.T2 Try.T3 Try.T4 Try.T5 Try.T9 Try.T12 Try.T15 Try.T16 Try.T17 Try.T21 Try.T22 Try.T23 Try.T25 Try.T27 Try.T29 Try.T30 Try.T31 Try.T32 Try.T33 Try.T35 Try.T37 Try.T38 Try.T40 Try.T41 Try.T42 Try.T43 Try.T44 Try.T45 Try.T46 Try.T47 Try.T48 Try.T49 Try.T50 Try.T51 Try.T52 Try.T53 Try.T54 Try.T56 Try.T57 Try.T58 Try.T59 Try.T60 Try.T61 Try.T62 Try.T64 Try.T66 Try.T67 Try.T68 Try.T69 Try.T71 Try.T72 Try.T73 Try.T74 Try.T75 Try.T76 Try.T77 Try.T78 Try.T79 Try.T80 Try.T81 Try.T82 Try.T83 Try.T84 Try.T85 Try.T86 Try.T87 Try.T88 Try.T89 Try.T90 Try.T91 Try.T92 Try.T93 Try.T94 Try.T95 Try.T97 Try.T98 Try.T99 Try.T100 Try.T101 Try.T102 Try.T103 Try.T104 Try.T105 Try.T106 Try.T107 Try.T108 Try.T109 Try.T110 Try.T111 Try.T112 Try.T113 Try.T114 Try.T115 Try.T116 Try.T117 Try.T120 Try.T123 Try.T124 Try.T127 Try.T128
attribute [local irreducible] Go.Av.CallK Go.Av.CallE Go.Av.CallQ Go.Av.CallF Go.Av.CallR Go.Av.CallH Go.Av.Con
def bx (z : List Int) : List V := z.map fun n => .p (I n)
@[simp] theorem bx_len (z : List Int) : (bx z).length = z.length := by simp [bx]
@[simp] theorem bx_get (z : List Int) (k : Nat) (h : k < (bx z).length) : (bx z)[k] = .p (I (z[k]'(by simpa using h))) := by simp [bx]
@[simp] theorem bx_scr (z : List Int) (n : Nat) : (bx z).map (scr0 n) = bx z := by
  unfold bx; rw [List.map_map]; rfl
@[simp] theorem bx_sub (z : List Int) (n : Nat) (q : PV) : (bx z).map (sub0 n q) = bx z := by
  unfold bx; rw [List.map_map]; rfl
def ixs (z : List Int) : List PV := z.map fun n => I n
@[simp] theorem ixs_len (z : List Int) : (ixs z).length = z.length := by simp [ixs]
@[simp] theorem ixs_get (z : List Int) (k : Nat) (h : k < (ixs z).length) : (ixs z)[k] = I (z[k]'(by simpa using h)) := by simp [ixs]
@[simp] theorem toPs_bx : ∀ z : List Int, toPs (bx z) = some (ixs z)
  | [] => rfl
  | a :: z => by
    show (match toP (.p (I a)), toPs (bx z) with | some p, some r => some (p :: r) | _, _ => none) = _
    rw [toPs_bx z]; rfl
theorem bx_take (z : List Int) (n : Nat) (h : z.length ≤ n) : (bx z).take n = bx z := List.take_of_length_le (by simpa using h)
theorem bx_put (z : List Int) (k : Nat) (x : Int) (h : k < z.length) : (bx z).take k ++ .p (I x) :: (bx z).drop (k + 1) = bx (z.set k x) := by
  unfold bx
  rw [← List.map_take, ← List.map_drop, ← List.map_cons (f := fun n => V.p (I n)), ← List.map_append, List.set_eq_take_append_cons_drop, if_pos h]
def inG (p : Mb → Bool) (g : Nat) (m : Mb) : Bool := decide (m.g = g) && p m
def gs (p : Mb → Bool) (l : List Mb) : List Int := (List.range 8).map fun g => tot Mb.w (inG p g) l
@[simp] theorem gs_len (p : Mb → Bool) (l : List Mb) : (gs p l).length = 8 := by simp [gs]
@[simp] theorem gs_get (p : Mb → Bool) (l : List Mb) (g : Nat) (h : g < (gs p l).length) : (gs p l)[g] = tot Mb.w (inG p g) l := by simp [gs]
theorem tot_append (f : Mb → Int) (p : Mb → Bool) : ∀ a b : List Mb, tot f p (a ++ b) = tot f p a + tot f p b
  | [], b => by simp [tot]
  | m :: a, b => by simp only [List.cons_append, tot, tot_append f p a b, Int.add_assoc]
theorem tot_snoc (f : Mb → Int) (p : Mb → Bool) (l : List Mb) (k : Nat) (h : k < l.length) : tot f p (l.take (k + 1)) = tot f p (l.take k) + (if l[k].r = 1 ∧ p l[k] = true then f l[k] else 0) := by
  rw [take_snoc _ k h, tot_append]; simp [tot]
theorem tot_bound (f : Mb → Int) (p : Mb → Bool) : ∀ l : List Mb, (∀ m ∈ l, 0 ≤ f m ∧ f m ≤ 100) → 0 ≤ tot f p l ∧ tot f p l ≤ 100 * l.length
  | [], _ => by simp [tot]
  | m :: l, h => by
    have h1 := tot_bound f p l fun x hx => h x (List.mem_cons_of_mem _ hx)
    have h2 := h m (by simp)
    simp only [tot, List.length_cons]
    split <;> omega
theorem okL_w {l : List Mb} (h : okL l) : ∀ m ∈ l, 0 ≤ m.w ∧ m.w ≤ 100 := fun m hm => (h m hm).2.2.1
theorem okL_take {l : List Mb} (h : okL l) (k : Nat) : okL (l.take k) := fun m hm => h m (List.mem_of_mem_take hm)
theorem gs_snoc (p : Mb → Bool) (l : List Mb) (k : Nat) (h : k < l.length) (ho : okM l[k]) (hr : l[k].r = 1) (hp : p l[k] = true) :
    (gs p (l.take k)).set l[k].g.toNat (tot Mb.w (inG p l[k].g.toNat) (l.take k) + l[k].w) = gs p (l.take (k + 1)) := by
  have hg := ho.2.2.2
  apply List.ext_getElem (by simp)
  intro g h1 h2
  rw [List.getElem_set]
  simp only [gs_get, tot_snoc _ _ l k h, hr, inG, hp, Bool.and_true, decide_eq_true_eq, true_and]
  by_cases e : l[k].g.toNat = g
  · rw [if_pos e, if_pos (by omega)]; subst e; rfl
  · rw [if_neg e, if_neg (by omega), Int.add_zero]
theorem gs_skip (p : Mb → Bool) (l : List Mb) (k : Nat) (h : k < l.length) (hp : ¬ (l[k].r = 1 ∧ p l[k] = true)) : gs p (l.take (k + 1)) = gs p (l.take k) := by
  apply List.ext_getElem (by simp)
  intro g h1 h2
  simp only [gs_get, tot_snoc _ _ l k h, inG, Bool.and_eq_true, decide_eq_true_eq]
  rw [if_neg (fun x => hp ⟨x.1, x.2.2⟩), Int.add_zero]
def num (q : Nat → Bool) : Nat → Int
  | 0 => 0
  | k + 1 => num q k + (if q k = true then 1 else 0)
theorem num_bound (q : Nat → Bool) : ∀ k, 0 ≤ num q k ∧ num q k ≤ k
  | 0 => by simp [num]
  | k + 1 => by have := num_bound q k; simp only [num]; split <;> omega
def hasG (l : List Mb) (g : Nat) : Bool := decide (0 < tot Mb.w (inG yes g) l)
def wonG (set : List Int) (l : List Mb) (g : Nat) : Bool := decide (tot Mb.w (inG yes g) l < 2 * tot Mb.w (inG (inS set) g) l)
set_option maxHeartbeats 4000000 in
theorem groups_con (c : Cf) (set : List Int) (hl : c.ms.length ≤ 1000000) (ho : okL c.ms) :
    ACon Try.prog 78 [.p (.agg c.cells), .p (.sl 1 (ints set))] (.p (B (decide (num (hasG c.ms) 8 < 2 * num (wonG set c.ms) 8)))) := by
  obtain ⟨ep, n, kind, l⟩ := c
  simp only [Cf.cells] at hl ho ⊢
  refine wBody Try.tab Try.mixed Try.func78 rfl rfl Try.ntmps78 (by simp) (by simp) fun Q hr hn => ?_
  repeat' first | (refine hK _ ?_; clear hK) | (refine hK _ _ ?_; clear hK) | (clear hK; refine hK _ ?_; clear hK) | (clear hK; clear hK; refine hK _ ?_; clear hK) | (clear hK; clear hK; clear hK; refine hK _ ?_; clear hK) | (clear hK; clear hK; clear hK; clear hK; refine hK _ ?_; clear hK) | (refine wSeq fun K hK => ?_) | ((first | refine wReg ?_ | refine wDrwQ rfl (by kernel_rfl) ?_ | refine wDrwI ?_ | refine wDrw (by kernel_rfl) ?_); simp only [List.map_cons, List.map_nil, strip]) | ((first | refine wIs fun K hK => ?_ | refine wOs fun K hK => ?_ | refine wQs fun K hK => ?_ | refine CallK_plain ?_ | refine CallQ_plain ?_ | refine CallR_plain ?_ | refine wCond ?_); simp) | (refine wIn ?_; refine And.intro (by kernel_rfl) ?_; try simp only [thenA_n]) | (first | refine wBlock ?_ | refine wScope ?_) | ((first | refine wRet ?_ | refine wExit ?_ | refine wSkip ?_); try simp) | ((first | refine wLabel ?_ | refine wOn ?_ | refine wQn ?_); try simp only [thenA_n])
  refine wLoop (fun N st => ∃ (k : Nat), k + N = l.length ∧ st.s 1 = .p (.sl 1 (ints set)) ∧ st.s 2 = .ptr 2 0 ∧ st.s 5 = .ptr 5 0 ∧ st.s 6 = .ptr 6 0 ∧ st.b 2 = some (.box 35 [.p (I ep), .p (I n), .p (I kind), .p (.sl 4 (mbs l))]) ∧ st.s 14 = .p (.sl 4 (mbs l)) ∧ st.s 15 = .p (I l.length) ∧ st.s 16 = .p (I k) ∧
    st.b 5 = some (.box 102 (bx (gs (inS set) (l.take k)))) ∧ st.b 6 = some (.box 102 (bx (gs yes (l.take k))))) l.length ⟨0, by simp [bx, gs, List.range, List.range.loop, tot]⟩ fun K N st hL ⟨k, hk, h1, h2, h5, h6, b2, h14, h15, h16, b5, b6⟩ => ?_
  by_cases hlt : k < l.length
  · have hw := wrapS k _ hlt (by omega)
    have okk := okL_get ho k hlt
    obtain ⟨w0, w1⟩ := okk.2.2.1
    obtain ⟨g0, g1⟩ := okk.2.2.2
    have g2 : l[k].g.toNat < 8 := by omega
    have g1' : l[k].g < 8 := by omega
    by_cases o4 : l[k].r = 1
    · have hcall := contains_con set l[k].i
      have t1 := tot_bound Mb.w (inG yes l[k].g.toNat) (l.take k) (okL_w (okL_take ho k))
      have t2 := tot_bound Mb.w (inG (inS set) l[k].g.toNat) (l.take k) (okL_w (okL_take ho k))
      have hlk : (l.take k).length ≤ 1000000 := by simp; omega
      have hwa : IntKind.i64.wrap (tot Mb.w (inG yes l[k].g.toNat) (l.take k) + l[k].w) = tot Mb.w (inG yes l[k].g.toNat) (l.take k) + l[k].w := by rw [wrap_id] <;> omega
      have hwb : IntKind.i64.wrap (tot Mb.w (inG (inS set) l[k].g.toNat) (l.take k) + l[k].w) = tot Mb.w (inG (inS set) l[k].g.toNat) (l.take k) + l[k].w := by rw [wrap_id] <;> omega
      by_cases o5 : l[k].i ∈ set
      · rw [decide_eq_true o5] at hcall
        repeat' first | (refine wDrwT 8 (by kernel_rfl) ?_; simp only [List.map_cons, List.map_nil, strip, List.take, List.drop]) | (refine hK _ ?_; clear hK) | (refine hK _ _ ?_; clear hK) | (clear hK; refine hK _ ?_; clear hK) | (clear hK; clear hK; refine hK _ ?_; clear hK) | (clear hK; clear hK; clear hK; refine hK _ ?_; clear hK) | (clear hK; clear hK; clear hK; clear hK; refine hK _ ?_; clear hK) | (refine wSeq fun K hK => ?_) | ((first | refine wReg ?_ | refine wDrwQ rfl (by kernel_rfl) ?_ | refine wDrwI ?_ | refine wDrw (by kernel_rfl) ?_); simp only [List.map_cons, List.map_nil, strip]) | ((first | refine wIs fun K hK => ?_ | refine wOs fun K hK => ?_ | refine wQs fun K hK => ?_ | refine CallK_plain ?_ | refine CallQ_plain ?_ | refine CallR_plain ?_ | refine wCond ?_); simp [h1, h2, h5, h6, b2, h14, h15, h16, b5, b6, hlt, hw, o4, g0, g1, g1', g2, hwa, hwb, PV.one]) | (refine wIn ?_; refine And.intro (by kernel_rfl) ?_; try simp only [thenA_n]) | (first | refine wBlock ?_ | refine wScope ?_) | ((first | refine wRet ?_ | refine wExit ?_ | refine wSkip ?_); try simp) | ((first | refine wLabel ?_ | refine wOn ?_ | refine wQn ?_); try simp only [thenA_n]) | (refine CallE.pure (hcall) rfl ?_) | (refine CallE.lent (hcall) rfl ?_) | (refine CallF.pure (hcall) rfl ?_) | (refine CallF.lent (hcall) rfl ?_) | (refine CallE.own (hcall) ?_) | (refine CallH.pure (hcall) rfl ?_) | (refine CallH.lent (hcall) rfl ?_) | (refine CallH.own (hcall) ?_)
        refine hL _ (N - 1) (by omega) ⟨k + 1, by omega, ?_⟩
        simp [h1, h2, h5, h6, b2, h14, h15, hw]
        rw [bx_put _ _ _ (by simpa using g2), bx_put _ _ _ (by simpa using g2), gs_snoc yes l k hlt okk o4 rfl, gs_snoc (inS set) l k hlt okk o4 (by simp [inS, o5])]
        exact ⟨rfl, rfl⟩
      · rw [decide_eq_false o5] at hcall
        repeat' first | (refine wDrwT 8 (by kernel_rfl) ?_; simp only [List.map_cons, List.map_nil, strip, List.take, List.drop]) | (refine hK _ ?_; clear hK) | (refine hK _ _ ?_; clear hK) | (clear hK; refine hK _ ?_; clear hK) | (clear hK; clear hK; refine hK _ ?_; clear hK) | (clear hK; clear hK; clear hK; refine hK _ ?_; clear hK) | (clear hK; clear hK; clear hK; clear hK; refine hK _ ?_; clear hK) | (refine wSeq fun K hK => ?_) | ((first | refine wReg ?_ | refine wDrwQ rfl (by kernel_rfl) ?_ | refine wDrwI ?_ | refine wDrw (by kernel_rfl) ?_); simp only [List.map_cons, List.map_nil, strip]) | ((first | refine wIs fun K hK => ?_ | refine wOs fun K hK => ?_ | refine wQs fun K hK => ?_ | refine CallK_plain ?_ | refine CallQ_plain ?_ | refine CallR_plain ?_ | refine wCond ?_); simp [h1, h2, h5, h6, b2, h14, h15, h16, b5, b6, hlt, hw, o4, g0, g1, g1', g2, hwa, hwb, PV.one]) | (refine wIn ?_; refine And.intro (by kernel_rfl) ?_; try simp only [thenA_n]) | (first | refine wBlock ?_ | refine wScope ?_) | ((first | refine wRet ?_ | refine wExit ?_ | refine wSkip ?_); try simp) | ((first | refine wLabel ?_ | refine wOn ?_ | refine wQn ?_); try simp only [thenA_n]) | (refine CallE.pure (hcall) rfl ?_) | (refine CallE.lent (hcall) rfl ?_) | (refine CallF.pure (hcall) rfl ?_) | (refine CallF.lent (hcall) rfl ?_) | (refine CallE.own (hcall) ?_) | (refine CallH.pure (hcall) rfl ?_) | (refine CallH.lent (hcall) rfl ?_) | (refine CallH.own (hcall) ?_)
        refine hL _ (N - 1) (by omega) ⟨k + 1, by omega, ?_⟩
        simp [h1, h2, h5, h6, b2, b5, h14, h15, hw]
        rw [bx_put _ _ _ (by simpa using g2), gs_snoc yes l k hlt okk o4 rfl, gs_skip (inS set) l k hlt (by simp [inS, o5])]
        exact ⟨rfl, rfl⟩
    · repeat' first | (refine hK _ ?_; clear hK) | (refine hK _ _ ?_; clear hK) | (clear hK; refine hK _ ?_; clear hK) | (clear hK; clear hK; refine hK _ ?_; clear hK) | (clear hK; clear hK; clear hK; refine hK _ ?_; clear hK) | (clear hK; clear hK; clear hK; clear hK; refine hK _ ?_; clear hK) | (refine wSeq fun K hK => ?_) | ((first | refine wReg ?_ | refine wDrwQ rfl (by kernel_rfl) ?_ | refine wDrwI ?_ | refine wDrw (by kernel_rfl) ?_); simp only [List.map_cons, List.map_nil, strip]) | ((first | refine wIs fun K hK => ?_ | refine wOs fun K hK => ?_ | refine wQs fun K hK => ?_ | refine CallK_plain ?_ | refine CallQ_plain ?_ | refine CallR_plain ?_ | refine wCond ?_); simp [h1, h2, h5, h6, b2, h14, h15, h16, b5, b6, hlt, hw, o4]) | (refine wIn ?_; refine And.intro (by kernel_rfl) ?_; try simp only [thenA_n]) | (first | refine wBlock ?_ | refine wScope ?_) | ((first | refine wRet ?_ | refine wExit ?_ | refine wSkip ?_); try simp) | ((first | refine wLabel ?_ | refine wOn ?_ | refine wQn ?_); try simp only [thenA_n])
      refine hL _ (N - 1) (by omega) ⟨k + 1, by omega, ?_⟩
      simp [h1, h2, h5, h6, b2, b5, b6, h14, h15, hw]
      rw [gs_skip (inS set) l k hlt (fun x => o4 x.1), gs_skip yes l k hlt (fun x => o4 x.1)]
      exact ⟨rfl, rfl⟩
  · rw [List.take_of_length_le (by omega)] at b5 b6
    have hlong : 8 ≤ (bx (gs yes l)).length := by simp
    have htk : (bx (gs yes l)).take 8 = bx (gs yes l) := bx_take _ _ (by simp)
    repeat' first | (refine hK _ ?_; clear hK) | (refine hK _ _ ?_; clear hK) | (clear hK; refine hK _ ?_; clear hK) | (clear hK; clear hK; refine hK _ ?_; clear hK) | (clear hK; clear hK; clear hK; refine hK _ ?_; clear hK) | (clear hK; clear hK; clear hK; clear hK; refine hK _ ?_; clear hK) | (refine wSeq fun K hK => ?_) | ((first | refine wReg ?_ | refine wDrwQ rfl (by kernel_rfl) ?_ | refine wDrwI ?_ | refine wDrw (by kernel_rfl) ?_); simp only [List.map_cons, List.map_nil, strip]) | ((first | refine wIs fun K hK => ?_ | refine wOs fun K hK => ?_ | refine wQs fun K hK => ?_ | refine CallK_plain ?_ | refine CallQ_plain ?_ | refine CallR_plain ?_ | refine wCond ?_); simp [h1, h2, h5, h6, b2, h14, h15, h16, b5, b6, hlt, htk]) | (refine wIn ?_; refine And.intro (by kernel_rfl) ?_; try simp only [thenA_n]) | (first | refine wBlock ?_ | refine wScope ?_) | ((first | refine wRet ?_ | refine wExit ?_ | refine wSkip ?_); try simp) | ((first | refine wLabel ?_ | refine wOn ?_ | refine wQn ?_); try simp only [thenA_n])
    refine wLoop (fun N st => ∃ (k : Nat), k + N = 8 ∧ st.s 5 = .ptr 5 0 ∧ st.b 5 = some (.box 102 (bx (gs (inS set) l))) ∧ st.s 44 = .p (.agg (ixs (gs yes l))) ∧ st.s 45 = .p (I k) ∧ st.s 9 = .p (I (num (wonG set l) k)) ∧ st.s 10 = .p (I (num (hasG l) k))) 8 ⟨0, by simp [h5, b5, num]⟩ fun K' N' st' hL' ⟨j, hj, g5, c5, g44, g45, g9, g10⟩ => ?_
    have nb1 := num_bound (wonG set l) j
    have nb2 := num_bound (hasG l) j
    by_cases hjl : j < 8
    · have hw := wrapS j 8 hjl (by omega)
      have hjI : (j : Int) < 8 := by omega
      have hwa : IntKind.i64.wrap (num (wonG set l) j + 1) = num (wonG set l) j + 1 := by rw [wrap_id] <;> omega
      have hwb : IntKind.i64.wrap (num (hasG l) j + 1) = num (hasG l) j + 1 := by rw [wrap_id] <;> omega
      have t1 := tot_bound Mb.w (inG yes j) l (okL_w ho)
      have t2 := tot_bound Mb.w (inG (inS set) j) l (okL_w ho)
      have hwc : IntKind.i64.wrap (2 * tot Mb.w (inG (inS set) j) l) = 2 * tot Mb.w (inG (inS set) j) l := by rw [wrap_id] <;> omega
      by_cases q1 : 0 < tot Mb.w (inG yes j) l
      · by_cases q2 : tot Mb.w (inG yes j) l < 2 * tot Mb.w (inG (inS set) j) l
        · repeat' first | (refine hK _ ?_; clear hK) | (refine hK _ _ ?_; clear hK) | (clear hK; refine hK _ ?_; clear hK) | (clear hK; clear hK; refine hK _ ?_; clear hK) | (clear hK; clear hK; clear hK; refine hK _ ?_; clear hK) | (clear hK; clear hK; clear hK; clear hK; refine hK _ ?_; clear hK) | (refine wSeq fun K hK => ?_) | ((first | refine wReg ?_ | refine wDrwQ rfl (by kernel_rfl) ?_ | refine wDrwI ?_ | refine wDrw (by kernel_rfl) ?_); simp only [List.map_cons, List.map_nil, strip]) | ((first | refine wIs fun K hK => ?_ | refine wOs fun K hK => ?_ | refine wQs fun K hK => ?_ | refine CallK_plain ?_ | refine CallQ_plain ?_ | refine CallR_plain ?_ | refine wCond ?_); simp [g5, c5, g44, g45, g9, g10, hjl, hjI, hw, hwa, hwb, hwc, q1, q2, PV.one]) | (refine wIn ?_; refine And.intro (by kernel_rfl) ?_; try simp only [thenA_n]) | (first | refine wBlock ?_ | refine wScope ?_) | ((first | refine wRet ?_ | refine wExit ?_ | refine wSkip ?_); try simp) | ((first | refine wLabel ?_ | refine wOn ?_ | refine wQn ?_); try simp only [thenA_n])
          refine hL' _ (N' - 1) (by omega) ⟨j + 1, by omega, ?_⟩
          simp [g5, c5, g44, hw, g9, g10, hwa, hwb]
          simp [num, hasG, wonG, q1, q2]
        · repeat' first | (refine hK _ ?_; clear hK) | (refine hK _ _ ?_; clear hK) | (clear hK; refine hK _ ?_; clear hK) | (clear hK; clear hK; refine hK _ ?_; clear hK) | (clear hK; clear hK; clear hK; refine hK _ ?_; clear hK) | (clear hK; clear hK; clear hK; clear hK; refine hK _ ?_; clear hK) | (refine wSeq fun K hK => ?_) | ((first | refine wReg ?_ | refine wDrwQ rfl (by kernel_rfl) ?_ | refine wDrwI ?_ | refine wDrw (by kernel_rfl) ?_); simp only [List.map_cons, List.map_nil, strip]) | ((first | refine wIs fun K hK => ?_ | refine wOs fun K hK => ?_ | refine wQs fun K hK => ?_ | refine CallK_plain ?_ | refine CallQ_plain ?_ | refine CallR_plain ?_ | refine wCond ?_); simp [g5, c5, g44, g45, g9, g10, hjl, hjI, hw, hwa, hwb, hwc, q1, q2, PV.one]) | (refine wIn ?_; refine And.intro (by kernel_rfl) ?_; try simp only [thenA_n]) | (first | refine wBlock ?_ | refine wScope ?_) | ((first | refine wRet ?_ | refine wExit ?_ | refine wSkip ?_); try simp) | ((first | refine wLabel ?_ | refine wOn ?_ | refine wQn ?_); try simp only [thenA_n])
          refine hL' _ (N' - 1) (by omega) ⟨j + 1, by omega, ?_⟩
          simp [g5, c5, g44, hw, g9, g10, hwa, hwb]
          simp [num, hasG, wonG, q1, q2]
      · by_cases q2 : tot Mb.w (inG yes j) l < 2 * tot Mb.w (inG (inS set) j) l
        · repeat' first | (refine hK _ ?_; clear hK) | (refine hK _ _ ?_; clear hK) | (clear hK; refine hK _ ?_; clear hK) | (clear hK; clear hK; refine hK _ ?_; clear hK) | (clear hK; clear hK; clear hK; refine hK _ ?_; clear hK) | (clear hK; clear hK; clear hK; clear hK; refine hK _ ?_; clear hK) | (refine wSeq fun K hK => ?_) | ((first | refine wReg ?_ | refine wDrwQ rfl (by kernel_rfl) ?_ | refine wDrwI ?_ | refine wDrw (by kernel_rfl) ?_); simp only [List.map_cons, List.map_nil, strip]) | ((first | refine wIs fun K hK => ?_ | refine wOs fun K hK => ?_ | refine wQs fun K hK => ?_ | refine CallK_plain ?_ | refine CallQ_plain ?_ | refine CallR_plain ?_ | refine wCond ?_); simp [g5, c5, g44, g45, g9, g10, hjl, hjI, hw, hwa, hwb, hwc, q1, q2, PV.one]) | (refine wIn ?_; refine And.intro (by kernel_rfl) ?_; try simp only [thenA_n]) | (first | refine wBlock ?_ | refine wScope ?_) | ((first | refine wRet ?_ | refine wExit ?_ | refine wSkip ?_); try simp) | ((first | refine wLabel ?_ | refine wOn ?_ | refine wQn ?_); try simp only [thenA_n])
          refine hL' _ (N' - 1) (by omega) ⟨j + 1, by omega, ?_⟩
          simp [g5, c5, g44, hw, g9, g10, hwa, hwb]
          simp [num, hasG, wonG, q1, q2]
        · repeat' first | (refine hK _ ?_; clear hK) | (refine hK _ _ ?_; clear hK) | (clear hK; refine hK _ ?_; clear hK) | (clear hK; clear hK; refine hK _ ?_; clear hK) | (clear hK; clear hK; clear hK; refine hK _ ?_; clear hK) | (clear hK; clear hK; clear hK; clear hK; refine hK _ ?_; clear hK) | (refine wSeq fun K hK => ?_) | ((first | refine wReg ?_ | refine wDrwQ rfl (by kernel_rfl) ?_ | refine wDrwI ?_ | refine wDrw (by kernel_rfl) ?_); simp only [List.map_cons, List.map_nil, strip]) | ((first | refine wIs fun K hK => ?_ | refine wOs fun K hK => ?_ | refine wQs fun K hK => ?_ | refine CallK_plain ?_ | refine CallQ_plain ?_ | refine CallR_plain ?_ | refine wCond ?_); simp [g5, c5, g44, g45, g9, g10, hjl, hjI, hw, hwa, hwb, hwc, q1, q2, PV.one]) | (refine wIn ?_; refine And.intro (by kernel_rfl) ?_; try simp only [thenA_n]) | (first | refine wBlock ?_ | refine wScope ?_) | ((first | refine wRet ?_ | refine wExit ?_ | refine wSkip ?_); try simp) | ((first | refine wLabel ?_ | refine wOn ?_ | refine wQn ?_); try simp only [thenA_n])
          refine hL' _ (N' - 1) (by omega) ⟨j + 1, by omega, ?_⟩
          simp [g5, c5, g44, hw, g9, g10, hwa, hwb]
          simp [num, hasG, wonG, q1, q2]
    · obtain rfl : j = 8 := by omega
      simp at g45
      have hwc : IntKind.i64.wrap (2 * num (wonG set l) 8) = 2 * num (wonG set l) 8 := by rw [wrap_id] <;> omega
      repeat' first | (refine hK _ ?_; clear hK) | (refine hK _ _ ?_; clear hK) | (clear hK; refine hK _ ?_; clear hK) | (clear hK; clear hK; refine hK _ ?_; clear hK) | (clear hK; clear hK; clear hK; refine hK _ ?_; clear hK) | (clear hK; clear hK; clear hK; clear hK; refine hK _ ?_; clear hK) | (refine wSeq fun K hK => ?_) | ((first | refine wReg ?_ | refine wDrwQ rfl (by kernel_rfl) ?_ | refine wDrwI ?_ | refine wDrw (by kernel_rfl) ?_); simp only [List.map_cons, List.map_nil, strip]) | ((first | refine wIs fun K hK => ?_ | refine wOs fun K hK => ?_ | refine wQs fun K hK => ?_ | refine CallK_plain ?_ | refine CallQ_plain ?_ | refine CallR_plain ?_ | refine wCond ?_); simp [g5, c5, g44, g45, g9, g10, hwc]) | (refine wIn ?_; refine And.intro (by kernel_rfl) ?_; try simp only [thenA_n]) | (first | refine wBlock ?_ | refine wScope ?_) | ((first | refine wRet ?_ | refine wExit ?_ | refine wSkip ?_); try simp) | ((first | refine wLabel ?_ | refine wOn ?_ | refine wQn ?_); try simp only [thenA_n])
      apply hr
      simp [Try.f78]
end Go.Proofs.Ytnfcbkageifmfaa

/- Whether a set is a quorum: the program's answer and the document's. -/
namespace Go.Proofs.Ytnfcbkageifmfaa
set_option linter.unusedSimpArgs false
set_option linter.unusedVariables false
open Go Go.Av
attribute [local simp] Try.T1 Try.T2 Try.T3 Try.T4 Try.T5 Try.T9 Try.T12 Try.T15 Try.T16 Try.T17 Try.T21 Try.T22 Try.T23 Try.T25 Try.T27 Try.T29 Try.T30 Try.T31 Try.T32 Try.T33 Try.T35 Try.T37 Try.T38 Try.T40 Try.T41 Try.T42 Try.T43 Try.T44 Try.T45 Try.T46 Try.T47 Try.T48 Try.T49 Try.T50 Try.T51 Try.T52 Try.T53 Try.T54 Try.T56 Try.T57 Try.T58 Try.T59 Try.T60 Try.T61 Try.T62 Try.T64 Try.T66 Try.T67 Try.T68 Try.T69 Try.T71 Try.T72 Try.T73 Try.T74 Try.T75 Try.T76 Try.T77 Try.T78 Try.T79 Try.T80 Try.T81 Try.T82 Try.T83 Try.T84 Try.T85 Try.T86 Try.T87 Try.T88 Try.T89 Try.T90 Try.T91 Try.T92 Try.T93 Try.T94 Try.T95 Try.T97 Try.T98 Try.T99 Try.T100 Try.T101 Try.T102 Try.T103 Try.T104 Try.T105 Try.T106 Try.T107 Try.T108 Try.T109 Try.T110 Try.T111 Try.T112 Try.T113 Try.T114 Try.T115 Try.T116 Try.T117 Try.T120 Try.T123 Try.T124 Try.T127 Try.T128
attribute [local irreducible] Go.Av.CallK Go.Av.CallE Go.Av.CallQ Go.Av.CallF Go.Av.CallR Go.Av.CallH Go.Av.Con
theorem check_ok {c : Cf} (h : check c = 0) : ranged c ∧ fine (-1) c.ms = true ∧ carries c.kind c.ms = true := by
  unfold check at h
  by_cases h1 : ranged c
  · rw [if_pos h1] at h
    by_cases h2 : fine (-1) c.ms = true
    · rw [if_pos h2] at h
      by_cases h3 : carries c.kind c.ms = true
      · exact ⟨h1, h2, h3⟩
      · rw [if_neg h3] at h; omega
    · rw [if_neg h2] at h; omega
  · rw [if_neg h1] at h; omega
def enough (c : Cf) (set : List Int) : Bool :=
  if c.kind = 1 then decide (tot one yes c.ms < 2 * tot one (inS set) c.ms)
  else if c.kind = 2 then decide (tot Mb.w yes c.ms < 2 * tot Mb.w (inS set) c.ms)
  else decide (num (hasG c.ms) 8 < 2 * num (wonG set c.ms) 8)
def isQ (c : Cf) (set : List Int) : Bool := if check c = 0 then enough c set else false
set_option maxHeartbeats 2000000 in
theorem is_con (c : Cf) (set : List Int) (hl : c.ms.length ≤ 1000000) : ACon Try.prog 57 [.p (.agg c.cells), .p (.sl 1 (ints set))] (.p (B (isQ c set))) := by
  have h1 := check_con c hl
  by_cases hc : check c = 0
  · obtain ⟨-, hf, -⟩ := check_ok hc
    have ho := fine_ok _ _ hf
    have h2 := most_con c set 76 one hl is1_con (fun m _ => by simp [one])
    have h3 := most_con c set 77 Mb.w hl is2_con (okL_w ho)
    have h4 := groups_con c set hl ho
    have he : isQ c set = enough c set := by unfold isQ; rw [if_pos hc]
    rw [he]
    rw [hc] at h1
    unfold enough
    obtain ⟨ep, n, kind, l⟩ := c
    simp only [Cf.cells] at h1 h2 h3 h4 ⊢
    by_cases k1 : kind = 1
    · subst k1
      rw [if_pos rfl]
      generalize decide (tot one yes l < 2 * tot one (inS set) l) = z at h2
      refine wBody Try.tab Try.mixed Try.func57 rfl rfl Try.ntmps57 (by simp) (by simp) fun Q hr hn => ?_
      repeat' first | (refine hK _ ?_; clear hK) | (refine hK _ _ ?_; clear hK) | (clear hK; refine hK _ ?_; clear hK) | (clear hK; clear hK; refine hK _ ?_; clear hK) | (clear hK; clear hK; clear hK; refine hK _ ?_; clear hK) | (clear hK; clear hK; clear hK; clear hK; refine hK _ ?_; clear hK) | (refine wSeq fun K hK => ?_) | ((first | refine wReg ?_ | refine wDrwQ rfl (by kernel_rfl) ?_ | refine wDrwI ?_ | refine wDrw (by kernel_rfl) ?_); simp only [List.map_cons, List.map_nil, strip]) | ((first | refine wIs fun K hK => ?_ | refine wOs fun K hK => ?_ | refine wQs fun K hK => ?_ | refine CallK_plain ?_ | refine CallQ_plain ?_ | refine CallR_plain ?_ | refine wCond ?_); simp) | (refine wIn ?_; refine And.intro (by kernel_rfl) ?_; try simp only [thenA_n]) | (first | refine wBlock ?_ | refine wScope ?_) | ((first | refine wRet ?_ | refine wExit ?_ | refine wSkip ?_); try simp) | ((first | refine wLabel ?_ | refine wOn ?_ | refine wQn ?_); try simp only [thenA_n]) | (refine CallE.pure (h1) rfl ?_) | (refine CallE.lent (h1) rfl ?_) | (refine CallF.pure (h1) rfl ?_) | (refine CallF.lent (h1) rfl ?_) | (refine CallE.own (h1) ?_) | (refine CallH.pure (h1) rfl ?_) | (refine CallH.lent (h1) rfl ?_) | (refine CallH.own (h1) ?_) | (refine CallE.pure (h2) rfl ?_) | (refine CallE.lent (h2) rfl ?_) | (refine CallF.pure (h2) rfl ?_) | (refine CallF.lent (h2) rfl ?_) | (refine CallE.own (h2) ?_) | (refine CallH.pure (h2) rfl ?_) | (refine CallH.lent (h2) rfl ?_) | (refine CallH.own (h2) ?_)
      all_goals apply hr
      all_goals simp [Try.f57]
    · rw [if_neg k1]
      by_cases k2 : kind = 2
      · subst k2
        rw [if_pos rfl]
        generalize decide (tot Mb.w yes l < 2 * tot Mb.w (inS set) l) = z at h3
        refine wBody Try.tab Try.mixed Try.func57 rfl rfl Try.ntmps57 (by simp) (by simp) fun Q hr hn => ?_
        repeat' first | (refine hK _ ?_; clear hK) | (refine hK _ _ ?_; clear hK) | (clear hK; refine hK _ ?_; clear hK) | (clear hK; clear hK; refine hK _ ?_; clear hK) | (clear hK; clear hK; clear hK; refine hK _ ?_; clear hK) | (clear hK; clear hK; clear hK; clear hK; refine hK _ ?_; clear hK) | (refine wSeq fun K hK => ?_) | ((first | refine wReg ?_ | refine wDrwQ rfl (by kernel_rfl) ?_ | refine wDrwI ?_ | refine wDrw (by kernel_rfl) ?_); simp only [List.map_cons, List.map_nil, strip]) | ((first | refine wIs fun K hK => ?_ | refine wOs fun K hK => ?_ | refine wQs fun K hK => ?_ | refine CallK_plain ?_ | refine CallQ_plain ?_ | refine CallR_plain ?_ | refine wCond ?_); simp) | (refine wIn ?_; refine And.intro (by kernel_rfl) ?_; try simp only [thenA_n]) | (first | refine wBlock ?_ | refine wScope ?_) | ((first | refine wRet ?_ | refine wExit ?_ | refine wSkip ?_); try simp) | ((first | refine wLabel ?_ | refine wOn ?_ | refine wQn ?_); try simp only [thenA_n]) | (refine CallE.pure (h1) rfl ?_) | (refine CallE.lent (h1) rfl ?_) | (refine CallF.pure (h1) rfl ?_) | (refine CallF.lent (h1) rfl ?_) | (refine CallE.own (h1) ?_) | (refine CallH.pure (h1) rfl ?_) | (refine CallH.lent (h1) rfl ?_) | (refine CallH.own (h1) ?_) | (refine CallE.pure (h3) rfl ?_) | (refine CallE.lent (h3) rfl ?_) | (refine CallF.pure (h3) rfl ?_) | (refine CallF.lent (h3) rfl ?_) | (refine CallE.own (h3) ?_) | (refine CallH.pure (h3) rfl ?_) | (refine CallH.lent (h3) rfl ?_) | (refine CallH.own (h3) ?_)
        all_goals apply hr
        all_goals simp [Try.f57]
      · rw [if_neg k2]
        generalize decide (num (hasG l) 8 < 2 * num (wonG set l) 8) = z at h4
        refine wBody Try.tab Try.mixed Try.func57 rfl rfl Try.ntmps57 (by simp) (by simp) fun Q hr hn => ?_
        repeat' first | (refine hK _ ?_; clear hK) | (refine hK _ _ ?_; clear hK) | (clear hK; refine hK _ ?_; clear hK) | (clear hK; clear hK; refine hK _ ?_; clear hK) | (clear hK; clear hK; clear hK; refine hK _ ?_; clear hK) | (clear hK; clear hK; clear hK; clear hK; refine hK _ ?_; clear hK) | (refine wSeq fun K hK => ?_) | ((first | refine wReg ?_ | refine wDrwQ rfl (by kernel_rfl) ?_ | refine wDrwI ?_ | refine wDrw (by kernel_rfl) ?_); simp only [List.map_cons, List.map_nil, strip]) | ((first | refine wIs fun K hK => ?_ | refine wOs fun K hK => ?_ | refine wQs fun K hK => ?_ | refine CallK_plain ?_ | refine CallQ_plain ?_ | refine CallR_plain ?_ | refine wCond ?_); simp [k1, k2]) | (refine wIn ?_; refine And.intro (by kernel_rfl) ?_; try simp only [thenA_n]) | (first | refine wBlock ?_ | refine wScope ?_) | ((first | refine wRet ?_ | refine wExit ?_ | refine wSkip ?_); try simp) | ((first | refine wLabel ?_ | refine wOn ?_ | refine wQn ?_); try simp only [thenA_n]) | (refine CallE.pure (h1) rfl ?_) | (refine CallE.lent (h1) rfl ?_) | (refine CallF.pure (h1) rfl ?_) | (refine CallF.lent (h1) rfl ?_) | (refine CallE.own (h1) ?_) | (refine CallH.pure (h1) rfl ?_) | (refine CallH.lent (h1) rfl ?_) | (refine CallH.own (h1) ?_) | (refine CallE.pure (h4) rfl ?_) | (refine CallE.lent (h4) rfl ?_) | (refine CallF.pure (h4) rfl ?_) | (refine CallF.lent (h4) rfl ?_) | (refine CallE.own (h4) ?_) | (refine CallH.pure (h4) rfl ?_) | (refine CallH.lent (h4) rfl ?_) | (refine CallH.own (h4) ?_)
        all_goals apply hr
        all_goals simp [Try.f57]
  · have he : isQ c set = false := by unfold isQ; rw [if_neg hc]
    rw [he]
    generalize check c = z at h1 hc
    obtain ⟨ep, n, kind, l⟩ := c
    simp only [Cf.cells] at h1 ⊢
    refine wBody Try.tab Try.mixed Try.func57 rfl rfl Try.ntmps57 (by simp) (by simp) fun Q hr hn => ?_
    repeat' first | (refine hK _ ?_; clear hK) | (refine hK _ _ ?_; clear hK) | (clear hK; refine hK _ ?_; clear hK) | (clear hK; clear hK; refine hK _ ?_; clear hK) | (clear hK; clear hK; clear hK; refine hK _ ?_; clear hK) | (clear hK; clear hK; clear hK; clear hK; refine hK _ ?_; clear hK) | (refine wSeq fun K hK => ?_) | ((first | refine wReg ?_ | refine wDrwQ rfl (by kernel_rfl) ?_ | refine wDrwI ?_ | refine wDrw (by kernel_rfl) ?_); simp only [List.map_cons, List.map_nil, strip]) | ((first | refine wIs fun K hK => ?_ | refine wOs fun K hK => ?_ | refine wQs fun K hK => ?_ | refine CallK_plain ?_ | refine CallQ_plain ?_ | refine CallR_plain ?_ | refine wCond ?_); simp [hc]) | (refine wIn ?_; refine And.intro (by kernel_rfl) ?_; try simp only [thenA_n]) | (first | refine wBlock ?_ | refine wScope ?_) | ((first | refine wRet ?_ | refine wExit ?_ | refine wSkip ?_); try simp) | ((first | refine wLabel ?_ | refine wOn ?_ | refine wQn ?_); try simp only [thenA_n]) | (refine CallE.pure (h1) rfl ?_) | (refine CallE.lent (h1) rfl ?_) | (refine CallF.pure (h1) rfl ?_) | (refine CallF.lent (h1) rfl ?_) | (refine CallE.own (h1) ?_) | (refine CallH.pure (h1) rfl ?_) | (refine CallH.lent (h1) rfl ?_) | (refine CallH.own (h1) ?_)
    all_goals apply hr
    all_goals simp [Try.f57]
set_option maxHeartbeats 8000000 in
theorem is05_con (c : Cf) (set : List Int) (hl : c.ms.length ≤ 1000000) : ACon Try.prog 45 [.p (.agg c.cells), .p (.sl 1 (ints set))] (.p (B (isQ c set))) := by
  have hch := check04_con c hl
  by_cases hc : check c = 0
  rotate_left
  · have he : isQ c set = false := by unfold isQ; rw [if_neg hc]
    rw [he]
    generalize check c = z at hch hc
    obtain ⟨ep, n, kind, l⟩ := c
    simp only [Cf.cells] at hch ⊢
    refine wBody Try.tab Try.mixed Try.func45 rfl rfl Try.ntmps45 (by simp) (by simp) fun Q hr hn => ?_
    repeat' first | (refine hK _ ?_; clear hK) | (refine hK _ _ ?_; clear hK) | (clear hK; refine hK _ ?_; clear hK) | (clear hK; clear hK; refine hK _ ?_; clear hK) | (clear hK; clear hK; clear hK; refine hK _ ?_; clear hK) | (clear hK; clear hK; clear hK; clear hK; refine hK _ ?_; clear hK) | (refine wSeq fun K hK => ?_) | ((first | refine wReg ?_ | refine wDrwQ rfl (by kernel_rfl) ?_ | refine wDrwI ?_ | refine wDrw (by kernel_rfl) ?_); simp only [List.map_cons, List.map_nil, strip]) | ((first | refine wIs fun K hK => ?_ | refine wOs fun K hK => ?_ | refine wQs fun K hK => ?_ | refine CallK_plain ?_ | refine CallQ_plain ?_ | refine CallR_plain ?_ | refine wCond ?_); simp [hc]) | (refine wIn ?_; refine And.intro (by kernel_rfl) ?_; try simp only [thenA_n]) | (first | refine wBlock ?_ | refine wScope ?_) | ((first | refine wRet ?_ | refine wExit ?_ | refine wSkip ?_); try simp) | ((first | refine wLabel ?_ | refine wOn ?_ | refine wQn ?_); try simp only [thenA_n]) | (refine CallE.pure (hch) rfl ?_) | (refine CallE.lent (hch) rfl ?_) | (refine CallF.pure (hch) rfl ?_) | (refine CallF.lent (hch) rfl ?_) | (refine CallE.own (hch) ?_) | (refine CallH.pure (hch) rfl ?_) | (refine CallH.lent (hch) rfl ?_) | (refine CallH.own (hch) ?_)
    all_goals apply hr
    all_goals simp [Try.f45]
  obtain ⟨-, hf, -⟩ := check_ok hc
  have ho := fine_ok _ _ hf
  have he : isQ c set = enough c set := by unfold isQ; rw [if_pos hc]
  rw [he]
  rw [hc] at hch
  unfold enough
  obtain ⟨ep, n, kind, l⟩ := c
  simp only [Cf.cells] at hch hl ho ⊢
  refine wBody Try.tab Try.mixed Try.func45 rfl rfl Try.ntmps45 (by simp) (by simp) fun Q hr hn => ?_
  repeat' first | (refine hK _ ?_; clear hK) | (refine hK _ _ ?_; clear hK) | (clear hK; refine hK _ ?_; clear hK) | (clear hK; clear hK; refine hK _ ?_; clear hK) | (clear hK; clear hK; clear hK; refine hK _ ?_; clear hK) | (clear hK; clear hK; clear hK; clear hK; refine hK _ ?_; clear hK) | (refine wSeq fun K hK => ?_) | ((first | refine wReg ?_ | refine wDrwQ rfl (by kernel_rfl) ?_ | refine wDrwI ?_ | refine wDrw (by kernel_rfl) ?_); simp only [List.map_cons, List.map_nil, strip]) | ((first | refine wIs fun K hK => ?_ | refine wOs fun K hK => ?_ | refine wQs fun K hK => ?_ | refine CallK_plain ?_ | refine CallQ_plain ?_ | refine CallR_plain ?_ | refine wCond ?_); simp) | (refine wIn ?_; refine And.intro (by kernel_rfl) ?_; try simp only [thenA_n]) | (first | refine wBlock ?_ | refine wScope ?_) | ((first | refine wRet ?_ | refine wExit ?_ | refine wSkip ?_); try simp) | ((first | refine wLabel ?_ | refine wOn ?_ | refine wQn ?_); try simp only [thenA_n]) | (refine CallE.pure (hch) rfl ?_) | (refine CallE.lent (hch) rfl ?_) | (refine CallF.pure (hch) rfl ?_) | (refine CallF.lent (hch) rfl ?_) | (refine CallE.own (hch) ?_) | (refine CallH.pure (hch) rfl ?_) | (refine CallH.lent (hch) rfl ?_) | (refine CallH.own (hch) ?_)
  refine wLoop (fun N st => ∃ (k : Nat), k + N = l.length ∧ st.s 1 = .p (.sl 1 (ints set)) ∧ st.s 2 = .ptr 2 0 ∧ st.s 5 = .ptr 5 0 ∧ st.s 6 = .ptr 6 0 ∧ st.b 2 = some (.box 35 [.p (I ep), .p (I n), .p (I kind), .p (.sl 4 (mbs l))]) ∧ st.s 20 = .p (.sl 4 (mbs l)) ∧ st.s 21 = .p (I l.length) ∧ st.s 22 = .p (I k) ∧
    st.b 6 = some (.box 102 (bx (gs (inS set) (l.take k)))) ∧ st.b 5 = some (.box 102 (bx (gs yes (l.take k)))) ∧ st.s 7 = .p (I (tot one yes (l.take k))) ∧ st.s 8 = .p (I (tot one (inS set) (l.take k))) ∧ st.s 9 = .p (I (tot Mb.w yes (l.take k))) ∧ st.s 10 = .p (I (tot Mb.w (inS set) (l.take k)))) l.length ⟨0, by simp [bx, gs, List.range, List.range.loop, tot]⟩ fun K N st hL ⟨k, hk, h1, h2, h5, h6, b2, h20, h21, h22, b6, b5, h7, h8, h9, h10⟩ => ?_
  by_cases hlt : k < l.length
  · have hw := wrapS k _ hlt (by omega)
    have okk := okL_get ho k hlt
    obtain ⟨w0, w1⟩ := okk.2.2.1
    obtain ⟨g0, g1⟩ := okk.2.2.2
    have g2 : l[k].g.toNat < 8 := by omega
    have g1' : l[k].g < 8 := by omega
    by_cases o4 : l[k].r = 1
    · have hcall := has05_con set l[k].i
      have hlk : (l.take k).length ≤ 1000000 := by simp; omega
      have u1 := tot_bound one yes (l.take k) (fun m _ => by simp [one])
      have u2 := tot_bound one (inS set) (l.take k) (fun m _ => by simp [one])
      have u3 := tot_bound Mb.w yes (l.take k) (okL_w (okL_take ho k))
      have u4 := tot_bound Mb.w (inS set) (l.take k) (okL_w (okL_take ho k))
      have t1 := tot_bound Mb.w (inG yes l[k].g.toNat) (l.take k) (okL_w (okL_take ho k))
      have t2 := tot_bound Mb.w (inG (inS set) l[k].g.toNat) (l.take k) (okL_w (okL_take ho k))
      have hw1 : IntKind.i64.wrap (tot one yes (l.take k) + 1) = tot one yes (l.take k) + 1 := by rw [wrap_id] <;> omega
      have hw2 : IntKind.i64.wrap (tot one (inS set) (l.take k) + 1) = tot one (inS set) (l.take k) + 1 := by rw [wrap_id] <;> omega
      have hw3 : IntKind.i64.wrap (tot Mb.w yes (l.take k) + l[k].w) = tot Mb.w yes (l.take k) + l[k].w := by rw [wrap_id] <;> omega
      have hw4 : IntKind.i64.wrap (tot Mb.w (inS set) (l.take k) + l[k].w) = tot Mb.w (inS set) (l.take k) + l[k].w := by rw [wrap_id] <;> omega
      have hwa : IntKind.i64.wrap (tot Mb.w (inG yes l[k].g.toNat) (l.take k) + l[k].w) = tot Mb.w (inG yes l[k].g.toNat) (l.take k) + l[k].w := by rw [wrap_id] <;> omega
      have hwb : IntKind.i64.wrap (tot Mb.w (inG (inS set) l[k].g.toNat) (l.take k) + l[k].w) = tot Mb.w (inG (inS set) l[k].g.toNat) (l.take k) + l[k].w := by rw [wrap_id] <;> omega
      by_cases o5 : l[k].i ∈ set
      · have o6 : inS set l[k] = true := by simp [inS, o5]
        rw [decide_eq_true o5] at hcall
        repeat' first | (refine wDrwT 8 (by kernel_rfl) ?_; simp only [List.map_cons, List.map_nil, strip, List.take, List.drop]) | (refine hK _ ?_; clear hK) | (refine hK _ _ ?_; clear hK) | (clear hK; refine hK _ ?_; clear hK) | (clear hK; clear hK; refine hK _ ?_; clear hK) | (clear hK; clear hK; clear hK; refine hK _ ?_; clear hK) | (clear hK; clear hK; clear hK; clear hK; refine hK _ ?_; clear hK) | (refine wSeq fun K hK => ?_) | ((first | refine wReg ?_ | refine wDrwQ rfl (by kernel_rfl) ?_ | refine wDrwI ?_ | refine wDrw (by kernel_rfl) ?_); simp only [List.map_cons, List.map_nil, strip]) | ((first | refine wIs fun K hK => ?_ | refine wOs fun K hK => ?_ | refine wQs fun K hK => ?_ | refine CallK_plain ?_ | refine CallQ_plain ?_ | refine CallR_plain ?_ | refine wCond ?_); simp [h1, h2, h5, h6, b2, h20, h21, h22, b5, b6, h7, h8, h9, h10, hlt, hw, o4, g0, g1, g1', g2, hw1, hw2, hw3, hw4, hwa, hwb, PV.one]) | (refine wIn ?_; refine And.intro (by kernel_rfl) ?_; try simp only [thenA_n]) | (first | refine wBlock ?_ | refine wScope ?_) | ((first | refine wRet ?_ | refine wExit ?_ | refine wSkip ?_); try simp) | ((first | refine wLabel ?_ | refine wOn ?_ | refine wQn ?_); try simp only [thenA_n]) | (refine CallE.pure (hcall) rfl ?_) | (refine CallE.lent (hcall) rfl ?_) | (refine CallF.pure (hcall) rfl ?_) | (refine CallF.lent (hcall) rfl ?_) | (refine CallE.own (hcall) ?_) | (refine CallH.pure (hcall) rfl ?_) | (refine CallH.lent (hcall) rfl ?_) | (refine CallH.own (hcall) ?_)
        refine hL _ (N - 1) (by omega) ⟨k + 1, by omega, ?_⟩
        simp [h1, h2, h5, h6, b2, h20, h21, hw, hw1, hw2, hw3, hw4]
        rw [bx_put _ _ _ (by simpa using g2), bx_put _ _ _ (by simpa using g2), gs_snoc yes l k hlt okk o4 rfl, gs_snoc (inS set) l k hlt okk o4 o6]
        simp only [tot_snoc _ _ l k hlt, o4, o6, yes, one, and_self, if_true]
      · have o6 : ¬ (l[k].r = 1 ∧ inS set l[k] = true) := by simp [inS, o5]
        rw [decide_eq_false o5] at hcall
        repeat' first | (refine wDrwT 8 (by kernel_rfl) ?_; simp only [List.map_cons, List.map_nil, strip, List.take, List.drop]) | (refine hK _ ?_; clear hK) | (refine hK _ _ ?_; clear hK) | (clear hK; refine hK _ ?_; clear hK) | (clear hK; clear hK; refine hK _ ?_; clear hK) | (clear hK; clear hK; clear hK; refine hK _ ?_; clear hK) | (clear hK; clear hK; clear hK; clear hK; refine hK _ ?_; clear hK) | (refine wSeq fun K hK => ?_) | ((first | refine wReg ?_ | refine wDrwQ rfl (by kernel_rfl) ?_ | refine wDrwI ?_ | refine wDrw (by kernel_rfl) ?_); simp only [List.map_cons, List.map_nil, strip]) | ((first | refine wIs fun K hK => ?_ | refine wOs fun K hK => ?_ | refine wQs fun K hK => ?_ | refine CallK_plain ?_ | refine CallQ_plain ?_ | refine CallR_plain ?_ | refine wCond ?_); simp [h1, h2, h5, h6, b2, h20, h21, h22, b5, b6, h7, h8, h9, h10, hlt, hw, o4, g0, g1, g1', g2, hw1, hw2, hw3, hw4, hwa, hwb, PV.one]) | (refine wIn ?_; refine And.intro (by kernel_rfl) ?_; try simp only [thenA_n]) | (first | refine wBlock ?_ | refine wScope ?_) | ((first | refine wRet ?_ | refine wExit ?_ | refine wSkip ?_); try simp) | ((first | refine wLabel ?_ | refine wOn ?_ | refine wQn ?_); try simp only [thenA_n]) | (refine CallE.pure (hcall) rfl ?_) | (refine CallE.lent (hcall) rfl ?_) | (refine CallF.pure (hcall) rfl ?_) | (refine CallF.lent (hcall) rfl ?_) | (refine CallE.own (hcall) ?_) | (refine CallH.pure (hcall) rfl ?_) | (refine CallH.lent (hcall) rfl ?_) | (refine CallH.own (hcall) ?_)
        refine hL _ (N - 1) (by omega) ⟨k + 1, by omega, ?_⟩
        simp [h1, h2, h5, h6, b2, b6, h8, h10, h20, h21, hw, hw1, hw3]
        rw [bx_put _ _ _ (by simpa using g2), gs_snoc yes l k hlt okk o4 rfl, gs_skip (inS set) l k hlt o6]
        simp only [tot_snoc _ _ l k hlt]
        rw [if_neg o6, if_pos ⟨o4, rfl⟩]
        simp [one]
        rw [if_neg o6]
        simp [o4, yes]
    · repeat' first | (refine hK _ ?_; clear hK) | (refine hK _ _ ?_; clear hK) | (clear hK; refine hK _ ?_; clear hK) | (clear hK; clear hK; refine hK _ ?_; clear hK) | (clear hK; clear hK; clear hK; refine hK _ ?_; clear hK) | (clear hK; clear hK; clear hK; clear hK; refine hK _ ?_; clear hK) | (refine wSeq fun K hK => ?_) | ((first | refine wReg ?_ | refine wDrwQ rfl (by kernel_rfl) ?_ | refine wDrwI ?_ | refine wDrw (by kernel_rfl) ?_); simp only [List.map_cons, List.map_nil, strip]) | ((first | refine wIs fun K hK => ?_ | refine wOs fun K hK => ?_ | refine wQs fun K hK => ?_ | refine CallK_plain ?_ | refine CallQ_plain ?_ | refine CallR_plain ?_ | refine wCond ?_); simp [h1, h2, h5, h6, b2, h20, h21, h22, b5, b6, h7, h8, h9, h10, hlt, hw, o4]) | (refine wIn ?_; refine And.intro (by kernel_rfl) ?_; try simp only [thenA_n]) | (first | refine wBlock ?_ | refine wScope ?_) | ((first | refine wRet ?_ | refine wExit ?_ | refine wSkip ?_); try simp) | ((first | refine wLabel ?_ | refine wOn ?_ | refine wQn ?_); try simp only [thenA_n])
      refine hL _ (N - 1) (by omega) ⟨k + 1, by omega, ?_⟩
      simp [h1, h2, h5, h6, b2, b5, b6, h7, h8, h9, h10, h20, h21, hw]
      rw [gs_skip (inS set) l k hlt (fun x => o4 x.1), gs_skip yes l k hlt (fun x => o4 x.1)]
      simp [tot_snoc _ _ l k hlt, o4]
  · rw [List.take_of_length_le (by omega)] at b5 b6 h7 h8 h9 h10
    have u1 := tot_bound one yes l (fun m _ => by simp [one])
    have u2 := tot_bound one (inS set) l (fun m _ => by simp [one])
    have u3 := tot_bound Mb.w yes l (okL_w ho)
    have u4 := tot_bound Mb.w (inS set) l (okL_w ho)
    by_cases k1 : kind = 1
    · subst k1
      have hwx : IntKind.i64.wrap (2 * tot one (inS set) l) = 2 * tot one (inS set) l := by rw [wrap_id] <;> omega
      repeat' first | (refine hK _ ?_; clear hK) | (refine hK _ _ ?_; clear hK) | (clear hK; refine hK _ ?_; clear hK) | (clear hK; clear hK; refine hK _ ?_; clear hK) | (clear hK; clear hK; clear hK; refine hK _ ?_; clear hK) | (clear hK; clear hK; clear hK; clear hK; refine hK _ ?_; clear hK) | (refine wSeq fun K hK => ?_) | ((first | refine wReg ?_ | refine wDrwQ rfl (by kernel_rfl) ?_ | refine wDrwI ?_ | refine wDrw (by kernel_rfl) ?_); simp only [List.map_cons, List.map_nil, strip]) | ((first | refine wIs fun K hK => ?_ | refine wOs fun K hK => ?_ | refine wQs fun K hK => ?_ | refine CallK_plain ?_ | refine CallQ_plain ?_ | refine CallR_plain ?_ | refine wCond ?_); simp [h1, h2, h5, h6, b2, h20, h21, h22, b5, b6, h7, h8, h9, h10, hlt, hwx]) | (refine wIn ?_; refine And.intro (by kernel_rfl) ?_; try simp only [thenA_n]) | (first | refine wBlock ?_ | refine wScope ?_) | ((first | refine wRet ?_ | refine wExit ?_ | refine wSkip ?_); try simp) | ((first | refine wLabel ?_ | refine wOn ?_ | refine wQn ?_); try simp only [thenA_n])
      all_goals apply hr
      all_goals simp [Try.f45]
    by_cases k2 : kind = 2
    · subst k2
      have hwx : IntKind.i64.wrap (2 * tot Mb.w (inS set) l) = 2 * tot Mb.w (inS set) l := by rw [wrap_id] <;> omega
      repeat' first | (refine hK _ ?_; clear hK) | (refine hK _ _ ?_; clear hK) | (clear hK; refine hK _ ?_; clear hK) | (clear hK; clear hK; refine hK _ ?_; clear hK) | (clear hK; clear hK; clear hK; refine hK _ ?_; clear hK) | (clear hK; clear hK; clear hK; clear hK; refine hK _ ?_; clear hK) | (refine wSeq fun K hK => ?_) | ((first | refine wReg ?_ | refine wDrwQ rfl (by kernel_rfl) ?_ | refine wDrwI ?_ | refine wDrw (by kernel_rfl) ?_); simp only [List.map_cons, List.map_nil, strip]) | ((first | refine wIs fun K hK => ?_ | refine wOs fun K hK => ?_ | refine wQs fun K hK => ?_ | refine CallK_plain ?_ | refine CallQ_plain ?_ | refine CallR_plain ?_ | refine wCond ?_); simp [h1, h2, h5, h6, b2, h20, h21, h22, b5, b6, h7, h8, h9, h10, hlt, hwx]) | (refine wIn ?_; refine And.intro (by kernel_rfl) ?_; try simp only [thenA_n]) | (first | refine wBlock ?_ | refine wScope ?_) | ((first | refine wRet ?_ | refine wExit ?_ | refine wSkip ?_); try simp) | ((first | refine wLabel ?_ | refine wOn ?_ | refine wQn ?_); try simp only [thenA_n])
      all_goals apply hr
      all_goals simp [Try.f45]
    repeat' first | (refine hK _ ?_; clear hK) | (refine hK _ _ ?_; clear hK) | (clear hK; refine hK _ ?_; clear hK) | (clear hK; clear hK; refine hK _ ?_; clear hK) | (clear hK; clear hK; clear hK; refine hK _ ?_; clear hK) | (clear hK; clear hK; clear hK; clear hK; refine hK _ ?_; clear hK) | (refine wSeq fun K hK => ?_) | ((first | refine wReg ?_ | refine wDrwQ rfl (by kernel_rfl) ?_ | refine wDrwI ?_ | refine wDrw (by kernel_rfl) ?_); simp only [List.map_cons, List.map_nil, strip]) | ((first | refine wIs fun K hK => ?_ | refine wOs fun K hK => ?_ | refine wQs fun K hK => ?_ | refine CallK_plain ?_ | refine CallQ_plain ?_ | refine CallR_plain ?_ | refine wCond ?_); simp [h1, h2, h5, h6, b2, h20, h21, h22, b5, b6, h7, h8, h9, h10, hlt, k1, k2]) | (refine wIn ?_; refine And.intro (by kernel_rfl) ?_; try simp only [thenA_n]) | (first | refine wBlock ?_ | refine wScope ?_) | ((first | refine wRet ?_ | refine wExit ?_ | refine wSkip ?_); try simp) | ((first | refine wLabel ?_ | refine wOn ?_ | refine wQn ?_); try simp only [thenA_n])
    refine wLoop (fun N st => ∃ (k : Nat), k + N = 8 ∧ st.s 5 = .ptr 5 0 ∧ st.s 6 = .ptr 6 0 ∧ st.b 6 = some (.box 102 (bx (gs (inS set) l))) ∧ st.b 5 = some (.box 102 (bx (gs yes l))) ∧ st.s 76 = .p (I k) ∧ st.s 14 = .p (I (num (wonG set l) k)) ∧ st.s 13 = .p (I (num (hasG l) k))) 8 ⟨0, by simp [h5, b5, h6, b6, num]⟩ fun K' N' st' hL' ⟨j, hj, g5, g6, c6, c5, g76, g14, g13⟩ => ?_
    have nb1 := num_bound (wonG set l) j
    have nb2 := num_bound (hasG l) j
    by_cases hjl : j < 8
    · have hw := wrapS j 8 hjl (by omega)
      have hjI : (j : Int) < 8 := by omega
      have hwa : IntKind.i64.wrap (num (wonG set l) j + 1) = num (wonG set l) j + 1 := by rw [wrap_id] <;> omega
      have hwb : IntKind.i64.wrap (num (hasG l) j + 1) = num (hasG l) j + 1 := by rw [wrap_id] <;> omega
      have t1 := tot_bound Mb.w (inG yes j) l (okL_w ho)
      have t2 := tot_bound Mb.w (inG (inS set) j) l (okL_w ho)
      have hwc : IntKind.i64.wrap (2 * tot Mb.w (inG (inS set) j) l) = 2 * tot Mb.w (inG (inS set) j) l := by rw [wrap_id] <;> omega
      by_cases q1 : 0 < tot Mb.w (inG yes j) l
      · by_cases q2 : tot Mb.w (inG yes j) l < 2 * tot Mb.w (inG (inS set) j) l
        · repeat' first | (refine hK _ ?_; clear hK) | (refine hK _ _ ?_; clear hK) | (clear hK; refine hK _ ?_; clear hK) | (clear hK; clear hK; refine hK _ ?_; clear hK) | (clear hK; clear hK; clear hK; refine hK _ ?_; clear hK) | (clear hK; clear hK; clear hK; clear hK; refine hK _ ?_; clear hK) | (refine wSeq fun K hK => ?_) | ((first | refine wReg ?_ | refine wDrwQ rfl (by kernel_rfl) ?_ | refine wDrwI ?_ | refine wDrw (by kernel_rfl) ?_); simp only [List.map_cons, List.map_nil, strip]) | ((first | refine wIs fun K hK => ?_ | refine wOs fun K hK => ?_ | refine wQs fun K hK => ?_ | refine CallK_plain ?_ | refine CallQ_plain ?_ | refine CallR_plain ?_ | refine wCond ?_); simp [g5, g6, c5, c6, g76, g14, g13, hjl, hjI, hw, hwa, hwb, hwc, q1, q2, PV.one]) | (refine wIn ?_; refine And.intro (by kernel_rfl) ?_; try simp only [thenA_n]) | (first | refine wBlock ?_ | refine wScope ?_) | ((first | refine wRet ?_ | refine wExit ?_ | refine wSkip ?_); try simp) | ((first | refine wLabel ?_ | refine wOn ?_ | refine wQn ?_); try simp only [thenA_n])
          refine hL' _ (N' - 1) (by omega) ⟨j + 1, by omega, ?_⟩
          simp [g5, g6, c5, c6, hw, g14, g13, hwa, hwb]
          simp [num, hasG, wonG, q1, q2]
        · repeat' first | (refine hK _ ?_; clear hK) | (refine hK _ _ ?_; clear hK) | (clear hK; refine hK _ ?_; clear hK) | (clear hK; clear hK; refine hK _ ?_; clear hK) | (clear hK; clear hK; clear hK; refine hK _ ?_; clear hK) | (clear hK; clear hK; clear hK; clear hK; refine hK _ ?_; clear hK) | (refine wSeq fun K hK => ?_) | ((first | refine wReg ?_ | refine wDrwQ rfl (by kernel_rfl) ?_ | refine wDrwI ?_ | refine wDrw (by kernel_rfl) ?_); simp only [List.map_cons, List.map_nil, strip]) | ((first | refine wIs fun K hK => ?_ | refine wOs fun K hK => ?_ | refine wQs fun K hK => ?_ | refine CallK_plain ?_ | refine CallQ_plain ?_ | refine CallR_plain ?_ | refine wCond ?_); simp [g5, g6, c5, c6, g76, g14, g13, hjl, hjI, hw, hwa, hwb, hwc, q1, q2, PV.one]) | (refine wIn ?_; refine And.intro (by kernel_rfl) ?_; try simp only [thenA_n]) | (first | refine wBlock ?_ | refine wScope ?_) | ((first | refine wRet ?_ | refine wExit ?_ | refine wSkip ?_); try simp) | ((first | refine wLabel ?_ | refine wOn ?_ | refine wQn ?_); try simp only [thenA_n])
          refine hL' _ (N' - 1) (by omega) ⟨j + 1, by omega, ?_⟩
          simp [g5, g6, c5, c6, hw, g14, g13, hwa, hwb]
          simp [num, hasG, wonG, q1, q2]
      · by_cases q2 : tot Mb.w (inG yes j) l < 2 * tot Mb.w (inG (inS set) j) l
        · repeat' first | (refine hK _ ?_; clear hK) | (refine hK _ _ ?_; clear hK) | (clear hK; refine hK _ ?_; clear hK) | (clear hK; clear hK; refine hK _ ?_; clear hK) | (clear hK; clear hK; clear hK; refine hK _ ?_; clear hK) | (clear hK; clear hK; clear hK; clear hK; refine hK _ ?_; clear hK) | (refine wSeq fun K hK => ?_) | ((first | refine wReg ?_ | refine wDrwQ rfl (by kernel_rfl) ?_ | refine wDrwI ?_ | refine wDrw (by kernel_rfl) ?_); simp only [List.map_cons, List.map_nil, strip]) | ((first | refine wIs fun K hK => ?_ | refine wOs fun K hK => ?_ | refine wQs fun K hK => ?_ | refine CallK_plain ?_ | refine CallQ_plain ?_ | refine CallR_plain ?_ | refine wCond ?_); simp [g5, g6, c5, c6, g76, g14, g13, hjl, hjI, hw, hwa, hwb, hwc, q1, q2, PV.one]) | (refine wIn ?_; refine And.intro (by kernel_rfl) ?_; try simp only [thenA_n]) | (first | refine wBlock ?_ | refine wScope ?_) | ((first | refine wRet ?_ | refine wExit ?_ | refine wSkip ?_); try simp) | ((first | refine wLabel ?_ | refine wOn ?_ | refine wQn ?_); try simp only [thenA_n])
          refine hL' _ (N' - 1) (by omega) ⟨j + 1, by omega, ?_⟩
          simp [g5, g6, c5, c6, hw, g14, g13, hwa, hwb]
          simp [num, hasG, wonG, q1, q2]
        · repeat' first | (refine hK _ ?_; clear hK) | (refine hK _ _ ?_; clear hK) | (clear hK; refine hK _ ?_; clear hK) | (clear hK; clear hK; refine hK _ ?_; clear hK) | (clear hK; clear hK; clear hK; refine hK _ ?_; clear hK) | (clear hK; clear hK; clear hK; clear hK; refine hK _ ?_; clear hK) | (refine wSeq fun K hK => ?_) | ((first | refine wReg ?_ | refine wDrwQ rfl (by kernel_rfl) ?_ | refine wDrwI ?_ | refine wDrw (by kernel_rfl) ?_); simp only [List.map_cons, List.map_nil, strip]) | ((first | refine wIs fun K hK => ?_ | refine wOs fun K hK => ?_ | refine wQs fun K hK => ?_ | refine CallK_plain ?_ | refine CallQ_plain ?_ | refine CallR_plain ?_ | refine wCond ?_); simp [g5, g6, c5, c6, g76, g14, g13, hjl, hjI, hw, hwa, hwb, hwc, q1, q2, PV.one]) | (refine wIn ?_; refine And.intro (by kernel_rfl) ?_; try simp only [thenA_n]) | (first | refine wBlock ?_ | refine wScope ?_) | ((first | refine wRet ?_ | refine wExit ?_ | refine wSkip ?_); try simp) | ((first | refine wLabel ?_ | refine wOn ?_ | refine wQn ?_); try simp only [thenA_n])
          refine hL' _ (N' - 1) (by omega) ⟨j + 1, by omega, ?_⟩
          simp [g5, g6, c5, c6, hw, g14, g13, hwa, hwb]
          simp [num, hasG, wonG, q1, q2]
    · obtain rfl : j = 8 := by omega
      simp at g76
      have hwc : IntKind.i64.wrap (2 * num (wonG set l) 8) = 2 * num (wonG set l) 8 := by rw [wrap_id] <;> omega
      repeat' first | (refine hK _ ?_; clear hK) | (refine hK _ _ ?_; clear hK) | (clear hK; refine hK _ ?_; clear hK) | (clear hK; clear hK; refine hK _ ?_; clear hK) | (clear hK; clear hK; clear hK; refine hK _ ?_; clear hK) | (clear hK; clear hK; clear hK; clear hK; refine hK _ ?_; clear hK) | (refine wSeq fun K hK => ?_) | ((first | refine wReg ?_ | refine wDrwQ rfl (by kernel_rfl) ?_ | refine wDrwI ?_ | refine wDrw (by kernel_rfl) ?_); simp only [List.map_cons, List.map_nil, strip]) | ((first | refine wIs fun K hK => ?_ | refine wOs fun K hK => ?_ | refine wQs fun K hK => ?_ | refine CallK_plain ?_ | refine CallQ_plain ?_ | refine CallR_plain ?_ | refine wCond ?_); simp [g5, g6, c5, c6, g76, g14, g13, hwc]) | (refine wIn ?_; refine And.intro (by kernel_rfl) ?_; try simp only [thenA_n]) | (first | refine wBlock ?_ | refine wScope ?_) | ((first | refine wRet ?_ | refine wExit ?_ | refine wSkip ?_); try simp) | ((first | refine wLabel ?_ | refine wOn ?_ | refine wQn ?_); try simp only [thenA_n])
      apply hr
      simp [Try.f45, k1, k2]
end Go.Proofs.Ytnfcbkageifmfaa

/- Several configs; what is too far; any two quorums meet. -/
namespace Go.Proofs.Ytnfcbkageifmfaa
set_option linter.unusedSimpArgs false
set_option linter.unusedVariables false
open Go Go.Av
attribute [local simp] Try.T1 Try.T2 Try.T3 Try.T4 Try.T5 Try.T9 Try.T12 Try.T15 Try.T16 Try.T17 Try.T21 Try.T22 Try.T23 Try.T25 Try.T27 Try.T29 Try.T30 Try.T31 Try.T32 Try.T33 Try.T35 Try.T37 Try.T38 Try.T40 Try.T41 Try.T42 Try.T43 Try.T44 Try.T45 Try.T46 Try.T47 Try.T48 Try.T49 Try.T50 Try.T51 Try.T52 Try.T53 Try.T54 Try.T56 Try.T57 Try.T58 Try.T59 Try.T60 Try.T61 Try.T62 Try.T64 Try.T66 Try.T67 Try.T68 Try.T69 Try.T71 Try.T72 Try.T73 Try.T74 Try.T75 Try.T76 Try.T77 Try.T78 Try.T79 Try.T80 Try.T81 Try.T82 Try.T83 Try.T84 Try.T85 Try.T86 Try.T87 Try.T88 Try.T89 Try.T90 Try.T91 Try.T92 Try.T93 Try.T94 Try.T95 Try.T97 Try.T98 Try.T99 Try.T100 Try.T101 Try.T102 Try.T103 Try.T104 Try.T105 Try.T106 Try.T107 Try.T108 Try.T109 Try.T110 Try.T111 Try.T112 Try.T113 Try.T114 Try.T115 Try.T116 Try.T117 Try.T120 Try.T123 Try.T124 Try.T127 Try.T128
attribute [local irreducible] Go.Av.CallK Go.Av.CallE Go.Av.CallQ Go.Av.CallF Go.Av.CallR Go.Av.CallH Go.Av.Con
def mx (n : Int) : List (List Int) → Int
  | [] => n
  | s :: l => mx (if n < s.length then s.length else n) l
def lists (l : List (List Int)) : List (List PV) := l.map fun s => [.sl 1 (ints s)]
@[simp] theorem lists_len (l : List (List Int)) : (lists l).length = l.length := by simp [lists]
@[simp] theorem lists_getElem (l : List (List Int)) (k : Nat) (h : k < (lists l).length) : (lists l)[k] = [.sl 1 (ints (l[k]'(by simpa using h)))] := by simp [lists]
def cfs (l : List Cf) : List (List PV) := l.map Cf.cells
@[simp] theorem cfs_len (l : List Cf) : (cfs l).length = l.length := by simp [cfs]
@[simp] theorem cfs_getElem (l : List Cf) (k : Nat) (h : k < (cfs l).length) : (cfs l)[k] = [I (l[k]'(by simpa using h)).ep, I (l[k]'(by simpa using h)).n, I (l[k]'(by simpa using h)).kind, .sl 4 (mbs (l[k]'(by simpa using h)).ms)] := by simp [cfs, Cf.cells]
def allQ (l : List Cf) (set : List Int) : Bool := l.all (fun c => isQ c set) && decide (0 < l.length)
theorem all_con (l : List Cf) (set : List Int) (hl : l.length ≤ 1000) (hm : ∀ c ∈ l, c.ms.length ≤ 1000000) : ACon Try.prog 38 [.p (.sl 4 (cfs l)), .p (.sl 1 (ints set))] (.p (B (allQ l set))) := by
  refine wBody Try.tab Try.mixed Try.func38 rfl rfl Try.ntmps38 (by simp) (by simp) fun Q hr hn => ?_
  repeat' first | (refine hK _ ?_; clear hK) | (refine hK _ _ ?_; clear hK) | (clear hK; refine hK _ ?_; clear hK) | (clear hK; clear hK; refine hK _ ?_; clear hK) | (clear hK; clear hK; clear hK; refine hK _ ?_; clear hK) | (clear hK; clear hK; clear hK; clear hK; refine hK _ ?_; clear hK) | (refine wSeq fun K hK => ?_) | ((first | refine wReg ?_ | refine wDrwQ rfl (by kernel_rfl) ?_ | refine wDrwI ?_ | refine wDrw (by kernel_rfl) ?_); simp only [List.map_cons, List.map_nil, strip]) | ((first | refine wIs fun K hK => ?_ | refine wOs fun K hK => ?_ | refine wQs fun K hK => ?_ | refine CallK_plain ?_ | refine CallQ_plain ?_ | refine CallR_plain ?_ | refine wCond ?_); simp) | (refine wIn ?_; refine And.intro (by kernel_rfl) ?_; try simp only [thenA_n]) | (first | refine wBlock ?_ | refine wScope ?_) | ((first | refine wRet ?_ | refine wExit ?_ | refine wSkip ?_); try simp) | ((first | refine wLabel ?_ | refine wOn ?_ | refine wQn ?_); try simp only [thenA_n])
  refine wLoop (fun N st => ∃ (k : Nat), k + N = l.length ∧ st.s 0 = .p (.sl 4 (cfs l)) ∧ st.s 1 = .p (.sl 1 (ints set)) ∧ st.s 7 = .p (.sl 4 (cfs l)) ∧ st.s 8 = .p (I l.length) ∧ st.s 9 = .p (I k) ∧ (l.drop k).all (fun c => isQ c set) = l.all (fun c => isQ c set)) l.length ⟨0, by simp⟩ fun K N st hL ⟨k, hk, h0, h1, h7, h8, h9, hi⟩ => ?_
  by_cases hlt : k < l.length
  · have hw := wrapS k _ hlt (by omega)
    rw [List.drop_eq_getElem_cons hlt, List.all_cons] at hi
    have hx := is_con l[k] set (hm _ (List.getElem_mem hlt))
    simp only [Cf.cells] at hx
    cases hz : isQ l[k] set with
    | true =>
      rw [hz] at hx hi
      repeat' first | (refine hK _ ?_; clear hK) | (refine hK _ _ ?_; clear hK) | (clear hK; refine hK _ ?_; clear hK) | (clear hK; clear hK; refine hK _ ?_; clear hK) | (clear hK; clear hK; clear hK; refine hK _ ?_; clear hK) | (clear hK; clear hK; clear hK; clear hK; refine hK _ ?_; clear hK) | (refine wSeq fun K hK => ?_) | ((first | refine wReg ?_ | refine wDrwQ rfl (by kernel_rfl) ?_ | refine wDrwI ?_ | refine wDrw (by kernel_rfl) ?_); simp only [List.map_cons, List.map_nil, strip]) | ((first | refine wIs fun K hK => ?_ | refine wOs fun K hK => ?_ | refine wQs fun K hK => ?_ | refine CallK_plain ?_ | refine CallQ_plain ?_ | refine CallR_plain ?_ | refine wCond ?_); simp [h0, h1, h7, h8, h9, hlt, hw]) | (refine wIn ?_; refine And.intro (by kernel_rfl) ?_; try simp only [thenA_n]) | (first | refine wBlock ?_ | refine wScope ?_) | ((first | refine wRet ?_ | refine wExit ?_ | refine wSkip ?_); try simp) | ((first | refine wLabel ?_ | refine wOn ?_ | refine wQn ?_); try simp only [thenA_n]) | (refine CallE.pure (hx) rfl ?_) | (refine CallE.lent (hx) rfl ?_) | (refine CallF.pure (hx) rfl ?_) | (refine CallF.lent (hx) rfl ?_) | (refine CallE.own (hx) ?_) | (refine CallH.pure (hx) rfl ?_) | (refine CallH.lent (hx) rfl ?_) | (refine CallH.own (hx) ?_)
      refine hL _ (N - 1) (by omega) ⟨k + 1, by omega, ?_⟩
      rw [Bool.true_and] at hi
      simp only [h0, h1, h7, h8, hw, hi]
      simp [h0, h1, h7, h8, hw, hi]
    | false =>
      rw [hz] at hx hi
      rw [Bool.false_and] at hi
      repeat' first | (refine hK _ ?_; clear hK) | (refine hK _ _ ?_; clear hK) | (clear hK; refine hK _ ?_; clear hK) | (clear hK; clear hK; refine hK _ ?_; clear hK) | (clear hK; clear hK; clear hK; refine hK _ ?_; clear hK) | (clear hK; clear hK; clear hK; clear hK; refine hK _ ?_; clear hK) | (refine wSeq fun K hK => ?_) | ((first | refine wReg ?_ | refine wDrwQ rfl (by kernel_rfl) ?_ | refine wDrwI ?_ | refine wDrw (by kernel_rfl) ?_); simp only [List.map_cons, List.map_nil, strip]) | ((first | refine wIs fun K hK => ?_ | refine wOs fun K hK => ?_ | refine wQs fun K hK => ?_ | refine CallK_plain ?_ | refine CallQ_plain ?_ | refine CallR_plain ?_ | refine wCond ?_); simp [h0, h1, h7, h8, h9, hlt, hw]) | (refine wIn ?_; refine And.intro (by kernel_rfl) ?_; try simp only [thenA_n]) | (first | refine wBlock ?_ | refine wScope ?_) | ((first | refine wRet ?_ | refine wExit ?_ | refine wSkip ?_); try simp) | ((first | refine wLabel ?_ | refine wOn ?_ | refine wQn ?_); try simp only [thenA_n]) | (refine CallE.pure (hx) rfl ?_) | (refine CallE.lent (hx) rfl ?_) | (refine CallF.pure (hx) rfl ?_) | (refine CallF.lent (hx) rfl ?_) | (refine CallE.own (hx) ?_) | (refine CallH.pure (hx) rfl ?_) | (refine CallH.lent (hx) rfl ?_) | (refine CallH.own (hx) ?_)
      all_goals apply hr
      all_goals simp only [allQ, ← hi]
      all_goals simp [Try.f38]
  · rw [List.drop_of_length_le (by omega), List.all_nil] at hi
    repeat' first | (refine hK _ ?_; clear hK) | (refine hK _ _ ?_; clear hK) | (clear hK; refine hK _ ?_; clear hK) | (clear hK; clear hK; refine hK _ ?_; clear hK) | (clear hK; clear hK; clear hK; refine hK _ ?_; clear hK) | (clear hK; clear hK; clear hK; clear hK; refine hK _ ?_; clear hK) | (refine wSeq fun K hK => ?_) | ((first | refine wReg ?_ | refine wDrwQ rfl (by kernel_rfl) ?_ | refine wDrwI ?_ | refine wDrw (by kernel_rfl) ?_); simp only [List.map_cons, List.map_nil, strip]) | ((first | refine wIs fun K hK => ?_ | refine wOs fun K hK => ?_ | refine wQs fun K hK => ?_ | refine CallK_plain ?_ | refine CallQ_plain ?_ | refine CallR_plain ?_ | refine wCond ?_); simp [h0, h1, h7, h8, h9, hlt]) | (refine wIn ?_; refine And.intro (by kernel_rfl) ?_; try simp only [thenA_n]) | (first | refine wBlock ?_ | refine wScope ?_) | ((first | refine wRet ?_ | refine wExit ?_ | refine wSkip ?_); try simp) | ((first | refine wLabel ?_ | refine wOn ?_ | refine wQn ?_); try simp only [thenA_n])
    apply hr
    simp only [allQ, ← hi]
    simp [Try.f38]
theorem all05_con (l : List Cf) (set : List Int) (hl : l.length ≤ 1000) (hm : ∀ c ∈ l, c.ms.length ≤ 1000000) : ACon Try.prog 41 [.p (.sl 4 (cfs l)), .p (.sl 1 (ints set))] (.p (B (allQ l set))) := by
  refine wBody Try.tab Try.mixed Try.func41 rfl rfl Try.ntmps41 (by simp) (by simp) fun Q hr hn => ?_
  repeat' first | (refine hK _ ?_; clear hK) | (refine hK _ _ ?_; clear hK) | (clear hK; refine hK _ ?_; clear hK) | (clear hK; clear hK; refine hK _ ?_; clear hK) | (clear hK; clear hK; clear hK; refine hK _ ?_; clear hK) | (clear hK; clear hK; clear hK; clear hK; refine hK _ ?_; clear hK) | (refine wSeq fun K hK => ?_) | ((first | refine wReg ?_ | refine wDrwQ rfl (by kernel_rfl) ?_ | refine wDrwI ?_ | refine wDrw (by kernel_rfl) ?_); simp only [List.map_cons, List.map_nil, strip]) | ((first | refine wIs fun K hK => ?_ | refine wOs fun K hK => ?_ | refine wQs fun K hK => ?_ | refine CallK_plain ?_ | refine CallQ_plain ?_ | refine CallR_plain ?_ | refine wCond ?_); simp) | (refine wIn ?_; refine And.intro (by kernel_rfl) ?_; try simp only [thenA_n]) | (first | refine wBlock ?_ | refine wScope ?_) | ((first | refine wRet ?_ | refine wExit ?_ | refine wSkip ?_); try simp) | ((first | refine wLabel ?_ | refine wOn ?_ | refine wQn ?_); try simp only [thenA_n])
  refine wLoop (fun N st => ∃ (k : Nat), k + N = l.length ∧ st.s 0 = .p (.sl 4 (cfs l)) ∧ st.s 1 = .p (.sl 1 (ints set)) ∧ st.s 7 = .p (.sl 4 (cfs l)) ∧ st.s 8 = .p (I l.length) ∧ st.s 9 = .p (I k) ∧ (l.drop k).all (fun c => isQ c set) = l.all (fun c => isQ c set)) l.length ⟨0, by simp⟩ fun K N st hL ⟨k, hk, h0, h1, h7, h8, h9, hi⟩ => ?_
  by_cases hlt : k < l.length
  · have hw := wrapS k _ hlt (by omega)
    rw [List.drop_eq_getElem_cons hlt, List.all_cons] at hi
    have hx := is05_con l[k] set (hm _ (List.getElem_mem hlt))
    simp only [Cf.cells] at hx
    cases hz : isQ l[k] set with
    | true =>
      rw [hz] at hx hi
      repeat' first | (refine hK _ ?_; clear hK) | (refine hK _ _ ?_; clear hK) | (clear hK; refine hK _ ?_; clear hK) | (clear hK; clear hK; refine hK _ ?_; clear hK) | (clear hK; clear hK; clear hK; refine hK _ ?_; clear hK) | (clear hK; clear hK; clear hK; clear hK; refine hK _ ?_; clear hK) | (refine wSeq fun K hK => ?_) | ((first | refine wReg ?_ | refine wDrwQ rfl (by kernel_rfl) ?_ | refine wDrwI ?_ | refine wDrw (by kernel_rfl) ?_); simp only [List.map_cons, List.map_nil, strip]) | ((first | refine wIs fun K hK => ?_ | refine wOs fun K hK => ?_ | refine wQs fun K hK => ?_ | refine CallK_plain ?_ | refine CallQ_plain ?_ | refine CallR_plain ?_ | refine wCond ?_); simp [h0, h1, h7, h8, h9, hlt, hw]) | (refine wIn ?_; refine And.intro (by kernel_rfl) ?_; try simp only [thenA_n]) | (first | refine wBlock ?_ | refine wScope ?_) | ((first | refine wRet ?_ | refine wExit ?_ | refine wSkip ?_); try simp) | ((first | refine wLabel ?_ | refine wOn ?_ | refine wQn ?_); try simp only [thenA_n]) | (refine CallE.pure (hx) rfl ?_) | (refine CallE.lent (hx) rfl ?_) | (refine CallF.pure (hx) rfl ?_) | (refine CallF.lent (hx) rfl ?_) | (refine CallE.own (hx) ?_) | (refine CallH.pure (hx) rfl ?_) | (refine CallH.lent (hx) rfl ?_) | (refine CallH.own (hx) ?_)
      refine hL _ (N - 1) (by omega) ⟨k + 1, by omega, ?_⟩
      rw [Bool.true_and] at hi
      simp only [h0, h1, h7, h8, hw, hi]
      simp [h0, h1, h7, h8, hw, hi]
    | false =>
      rw [hz] at hx hi
      rw [Bool.false_and] at hi
      repeat' first | (refine hK _ ?_; clear hK) | (refine hK _ _ ?_; clear hK) | (clear hK; refine hK _ ?_; clear hK) | (clear hK; clear hK; refine hK _ ?_; clear hK) | (clear hK; clear hK; clear hK; refine hK _ ?_; clear hK) | (clear hK; clear hK; clear hK; clear hK; refine hK _ ?_; clear hK) | (refine wSeq fun K hK => ?_) | ((first | refine wReg ?_ | refine wDrwQ rfl (by kernel_rfl) ?_ | refine wDrwI ?_ | refine wDrw (by kernel_rfl) ?_); simp only [List.map_cons, List.map_nil, strip]) | ((first | refine wIs fun K hK => ?_ | refine wOs fun K hK => ?_ | refine wQs fun K hK => ?_ | refine CallK_plain ?_ | refine CallQ_plain ?_ | refine CallR_plain ?_ | refine wCond ?_); simp [h0, h1, h7, h8, h9, hlt, hw]) | (refine wIn ?_; refine And.intro (by kernel_rfl) ?_; try simp only [thenA_n]) | (first | refine wBlock ?_ | refine wScope ?_) | ((first | refine wRet ?_ | refine wExit ?_ | refine wSkip ?_); try simp) | ((first | refine wLabel ?_ | refine wOn ?_ | refine wQn ?_); try simp only [thenA_n]) | (refine CallE.pure (hx) rfl ?_) | (refine CallE.lent (hx) rfl ?_) | (refine CallF.pure (hx) rfl ?_) | (refine CallF.lent (hx) rfl ?_) | (refine CallE.own (hx) ?_) | (refine CallH.pure (hx) rfl ?_) | (refine CallH.lent (hx) rfl ?_) | (refine CallH.own (hx) ?_)
      all_goals apply hr
      all_goals simp only [allQ, ← hi]
      all_goals simp [Try.f41]
  · rw [List.drop_of_length_le (by omega), List.all_nil] at hi
    repeat' first | (refine hK _ ?_; clear hK) | (refine hK _ _ ?_; clear hK) | (clear hK; refine hK _ ?_; clear hK) | (clear hK; clear hK; refine hK _ ?_; clear hK) | (clear hK; clear hK; clear hK; refine hK _ ?_; clear hK) | (clear hK; clear hK; clear hK; clear hK; refine hK _ ?_; clear hK) | (refine wSeq fun K hK => ?_) | ((first | refine wReg ?_ | refine wDrwQ rfl (by kernel_rfl) ?_ | refine wDrwI ?_ | refine wDrw (by kernel_rfl) ?_); simp only [List.map_cons, List.map_nil, strip]) | ((first | refine wIs fun K hK => ?_ | refine wOs fun K hK => ?_ | refine wQs fun K hK => ?_ | refine CallK_plain ?_ | refine CallQ_plain ?_ | refine CallR_plain ?_ | refine wCond ?_); simp [h0, h1, h7, h8, h9, hlt]) | (refine wIn ?_; refine And.intro (by kernel_rfl) ?_; try simp only [thenA_n]) | (first | refine wBlock ?_ | refine wScope ?_) | ((first | refine wRet ?_ | refine wExit ?_ | refine wSkip ?_); try simp) | ((first | refine wLabel ?_ | refine wOn ?_ | refine wQn ?_); try simp only [thenA_n])
    apply hr
    simp only [allQ, ← hi]
    simp [Try.f41]
end Go.Proofs.Ytnfcbkageifmfaa

/- zxid.Cmp, and the document's. -/
namespace Go.Proofs.Ytnfcbkageifmfaa
set_option linter.unusedSimpArgs false
set_option linter.unusedVariables false
open Go Go.Av
attribute [local simp] Try.T1 Try.T2 Try.T3 Try.T4 Try.T5 Try.T9 Try.T12 Try.T15 Try.T16 Try.T17 Try.T21 Try.T22 Try.T23 Try.T25 Try.T27 Try.T29 Try.T30 Try.T31 Try.T32 Try.T33 Try.T35 Try.T37 Try.T38 Try.T40 Try.T41 Try.T42 Try.T43 Try.T44 Try.T45 Try.T46 Try.T47 Try.T48 Try.T49 Try.T50 Try.T51 Try.T52 Try.T53 Try.T54 Try.T56 Try.T57 Try.T58 Try.T59 Try.T60 Try.T61 Try.T62 Try.T64 Try.T66 Try.T67 Try.T68 Try.T69 Try.T71 Try.T72 Try.T73 Try.T74 Try.T75 Try.T76 Try.T77 Try.T78 Try.T79 Try.T80 Try.T81 Try.T82 Try.T83 Try.T84 Try.T85 Try.T86 Try.T87 Try.T88 Try.T89 Try.T90 Try.T91 Try.T92 Try.T93 Try.T94 Try.T95 Try.T97 Try.T98 Try.T99 Try.T100 Try.T101 Try.T102 Try.T103 Try.T104 Try.T105 Try.T106 Try.T107 Try.T108 Try.T109 Try.T110 Try.T111 Try.T112 Try.T113 Try.T114 Try.T115 Try.T116 Try.T117 Try.T120 Try.T123 Try.T124 Try.T127 Try.T128
attribute [local irreducible] Go.Av.CallK Go.Av.CallE Go.Av.CallQ Go.Av.CallF Go.Av.CallR Go.Av.CallH Go.Av.Con
theorem isNaN_con (n : Int) : ACon Try.prog 72 [.p (I n)] (.p (B false)) := by
  refine wBody Try.tab Try.mixed Try.func72 rfl rfl Try.ntmps72 (by simp) (by simp) fun Q hr hn => ?_
  repeat' first | (refine hK _ ?_; clear hK) | (refine hK _ _ ?_; clear hK) | (clear hK; refine hK _ ?_; clear hK) | (clear hK; clear hK; refine hK _ ?_; clear hK) | (clear hK; clear hK; clear hK; refine hK _ ?_; clear hK) | (clear hK; clear hK; clear hK; clear hK; refine hK _ ?_; clear hK) | (refine wSeq fun K hK => ?_) | ((first | refine wReg ?_ | refine wDrwQ rfl (by kernel_rfl) ?_ | refine wDrwI ?_ | refine wDrw (by kernel_rfl) ?_); simp only [List.map_cons, List.map_nil, strip]) | ((first | refine wIs fun K hK => ?_ | refine wOs fun K hK => ?_ | refine wQs fun K hK => ?_ | refine CallK_plain ?_ | refine CallQ_plain ?_ | refine CallR_plain ?_ | refine wCond ?_); simp) | (refine wIn ?_; refine And.intro (by kernel_rfl) ?_; try simp only [thenA_n]) | (first | refine wBlock ?_ | refine wScope ?_) | ((first | refine wRet ?_ | refine wExit ?_ | refine wSkip ?_); try simp) | ((first | refine wLabel ?_ | refine wOn ?_ | refine wQn ?_); try simp only [thenA_n])
  apply hr
  simp [Try.f72]
def cmpInt (a b : Int) : Int := if a < b then -1 else if b < a then 1 else 0
theorem compare_con (a b : Int) : ACon Try.prog 54 [.p (I a), .p (I b)] (.p (I (cmpInt a b))) := by
  refine wBody Try.tab Try.mixed Try.func54 rfl rfl Try.ntmps54 (by simp) (by simp) fun Q hr hn => ?_
  repeat' first | (refine hK _ ?_; clear hK) | (refine hK _ _ ?_; clear hK) | (clear hK; refine hK _ ?_; clear hK) | (clear hK; clear hK; refine hK _ ?_; clear hK) | (clear hK; clear hK; clear hK; refine hK _ ?_; clear hK) | (clear hK; clear hK; clear hK; clear hK; refine hK _ ?_; clear hK) | (refine wSeq fun K hK => ?_) | ((first | refine wReg ?_ | refine wDrwQ rfl (by kernel_rfl) ?_ | refine wDrwI ?_ | refine wDrw (by kernel_rfl) ?_); simp only [List.map_cons, List.map_nil, strip]) | ((first | refine wIs fun K hK => ?_ | refine wOs fun K hK => ?_ | refine wQs fun K hK => ?_ | refine CallK_plain ?_ | refine CallQ_plain ?_ | refine CallR_plain ?_ | refine wCond ?_); simp) | (refine wIn ?_; refine And.intro (by kernel_rfl) ?_; try simp only [thenA_n]) | (first | refine wBlock ?_ | refine wScope ?_) | ((first | refine wRet ?_ | refine wExit ?_ | refine wSkip ?_); try simp) | ((first | refine wLabel ?_ | refine wOn ?_ | refine wQn ?_); try simp only [thenA_n]) | (refine CallE.pure (isNaN_con _) rfl ?_) | (refine CallE.lent (isNaN_con _) rfl ?_) | (refine CallF.pure (isNaN_con _) rfl ?_) | (refine CallF.lent (isNaN_con _) rfl ?_) | (refine CallE.own (isNaN_con _) ?_) | (refine CallH.pure (isNaN_con _) rfl ?_) | (refine CallH.lent (isNaN_con _) rfl ?_) | (refine CallH.own (isNaN_con _) ?_) | (refine And.intro (fun _ => ?_) (fun _ => ?_))
  all_goals (apply hr; simp [Try.f54, cmpInt]; try omega)
def orL : List Int → Int
  | [] => 0
  | a :: l => if a = 0 then orL l else a
theorem or_con (l : List Int) : ACon Try.prog 53 [.p (.sl 1 (l.map fun n => [I n]))] (.p (I (orL l))) := by
  refine ACon.len ⟨Try.f53, Try.func53, rfl, rfl⟩ 0 _ _ rfl fun hlen => ?_
  simp only [List.length_map] at hlen
  refine wBody Try.tab Try.mixed Try.func53 rfl rfl Try.ntmps53 (by simp) (by simp) fun Q hr hn => ?_
  repeat' first | (refine hK _ ?_; clear hK) | (refine hK _ _ ?_; clear hK) | (clear hK; refine hK _ ?_; clear hK) | (clear hK; clear hK; refine hK _ ?_; clear hK) | (clear hK; clear hK; clear hK; refine hK _ ?_; clear hK) | (clear hK; clear hK; clear hK; clear hK; refine hK _ ?_; clear hK) | (refine wSeq fun K hK => ?_) | ((first | refine wReg ?_ | refine wDrwQ rfl (by kernel_rfl) ?_ | refine wDrwI ?_ | refine wDrw (by kernel_rfl) ?_); simp only [List.map_cons, List.map_nil, strip]) | ((first | refine wIs fun K hK => ?_ | refine wOs fun K hK => ?_ | refine wQs fun K hK => ?_ | refine CallK_plain ?_ | refine CallQ_plain ?_ | refine CallR_plain ?_ | refine wCond ?_); simp) | (refine wIn ?_; refine And.intro (by kernel_rfl) ?_; try simp only [thenA_n]) | (first | refine wBlock ?_ | refine wScope ?_) | ((first | refine wRet ?_ | refine wExit ?_ | refine wSkip ?_); try simp) | ((first | refine wLabel ?_ | refine wOn ?_ | refine wQn ?_); try simp only [thenA_n])
  refine wLoop (fun n st => ∃ k, k + n = l.length ∧ st.s 6 = .p (.sl 1 (l.map fun n => [I n])) ∧ st.s 7 = .p (I l.length) ∧ st.s 8 = .p (I k) ∧ st.s 3 = .p (I 0) ∧ orL (l.drop k) = orL l) l.length ⟨0, by simp⟩ fun K n st hL ⟨k, hk, h6, h7, h8, h3, hor⟩ => ?_
  by_cases hlt : k < l.length
  · have hw := wrapS k _ hlt hlen
    have hd : l.drop k = l[k] :: l.drop (k + 1) := List.drop_eq_getElem_cons hlt
    have he : l[k]? = some l[k] := List.getElem?_eq_getElem hlt
    rw [hd, orL] at hor
    repeat' first | (refine hK _ ?_; clear hK) | (refine hK _ _ ?_; clear hK) | (clear hK; refine hK _ ?_; clear hK) | (clear hK; clear hK; refine hK _ ?_; clear hK) | (clear hK; clear hK; clear hK; refine hK _ ?_; clear hK) | (clear hK; clear hK; clear hK; clear hK; refine hK _ ?_; clear hK) | (refine wSeq fun K hK => ?_) | ((first | refine wReg ?_ | refine wDrwQ rfl (by kernel_rfl) ?_ | refine wDrwI ?_ | refine wDrw (by kernel_rfl) ?_); simp only [List.map_cons, List.map_nil, strip]) | ((first | refine wIs fun K hK => ?_ | refine wOs fun K hK => ?_ | refine wQs fun K hK => ?_ | refine CallK_plain ?_ | refine CallQ_plain ?_ | refine CallR_plain ?_ | refine wCond ?_); simp [h6, h7, h8, h3, hlt, hw, he]) | (refine wIn ?_; refine And.intro (by kernel_rfl) ?_; try simp only [thenA_n]) | (first | refine wBlock ?_ | refine wScope ?_) | ((first | refine wRet ?_ | refine wExit ?_ | refine wSkip ?_); try simp) | ((first | refine wLabel ?_ | refine wOn ?_ | refine wQn ?_); try simp only [thenA_n]) | (refine And.intro (fun hc => ?_) (fun hc => ?_))
    · apply hr
      simp [Try.f53]
      rw [if_neg hc] at hor; exact hor.symm
    · refine hL _ (n - 1) (by omega) ⟨k + 1, by omega, ?_⟩
      rw [if_pos hc] at hor
      simp [h6, h7, h3, hw, hor]
  · have hd : l.drop k = [] := List.drop_of_length_le (by omega)
    rw [hd] at hor
    repeat' first | (refine hK _ ?_; clear hK) | (refine hK _ _ ?_; clear hK) | (clear hK; refine hK _ ?_; clear hK) | (clear hK; clear hK; refine hK _ ?_; clear hK) | (clear hK; clear hK; clear hK; refine hK _ ?_; clear hK) | (clear hK; clear hK; clear hK; clear hK; refine hK _ ?_; clear hK) | (refine wSeq fun K hK => ?_) | ((first | refine wReg ?_ | refine wDrwQ rfl (by kernel_rfl) ?_ | refine wDrwI ?_ | refine wDrw (by kernel_rfl) ?_); simp only [List.map_cons, List.map_nil, strip]) | ((first | refine wIs fun K hK => ?_ | refine wOs fun K hK => ?_ | refine wQs fun K hK => ?_ | refine CallK_plain ?_ | refine CallQ_plain ?_ | refine CallR_plain ?_ | refine wCond ?_); simp [h6, h7, h8, h3, hlt]) | (refine wIn ?_; refine And.intro (by kernel_rfl) ?_; try simp only [thenA_n]) | (first | refine wBlock ?_ | refine wScope ?_) | ((first | refine wRet ?_ | refine wExit ?_ | refine wSkip ?_); try simp) | ((first | refine wLabel ?_ | refine wOn ?_ | refine wQn ?_); try simp only [thenA_n])
    apply hr
    simp [Try.f53, h3, ← hor, orL]
def zcmp (a b c d : Int) : Int := if a = c ∧ b = d then 0 else orL [cmpInt a c, cmpInt b d]
theorem cmp_con (a b c d : Int) : ACon Try.prog 36 [.p (.agg [I a, I b]), .p (.agg [I c, I d])] (.p (I (zcmp a b c d))) := by
  have hor := or_con [cmpInt a c, cmpInt b d]
  simp only [List.map_cons, List.map_nil] at hor
  by_cases hab : a = c ∧ b = d
  · obtain ⟨rfl, rfl⟩ := hab
    refine wBody Try.tab Try.mixed Try.func36 rfl rfl Try.ntmps36 (by simp) (by simp) fun Q hr hn => ?_
    repeat' first | (refine hK _ ?_; clear hK) | (refine hK _ _ ?_; clear hK) | (clear hK; refine hK _ ?_; clear hK) | (clear hK; clear hK; refine hK _ ?_; clear hK) | (clear hK; clear hK; clear hK; refine hK _ ?_; clear hK) | (clear hK; clear hK; clear hK; clear hK; refine hK _ ?_; clear hK) | (refine wSeq fun K hK => ?_) | ((first | refine wReg ?_ | refine wDrwQ rfl (by kernel_rfl) ?_ | refine wDrwI ?_ | refine wDrw (by kernel_rfl) ?_); simp only [List.map_cons, List.map_nil, strip]) | ((first | refine wIs fun K hK => ?_ | refine wOs fun K hK => ?_ | refine wQs fun K hK => ?_ | refine CallK_plain ?_ | refine CallQ_plain ?_ | refine CallR_plain ?_ | refine wCond ?_); simp) | (refine wIn ?_; refine And.intro (by kernel_rfl) ?_; try simp only [thenA_n]) | (first | refine wBlock ?_ | refine wScope ?_) | ((first | refine wRet ?_ | refine wExit ?_ | refine wSkip ?_); try simp) | ((first | refine wLabel ?_ | refine wOn ?_ | refine wQn ?_); try simp only [thenA_n])
    apply hr
    simp [Try.f36, zcmp]
  · refine wBody Try.tab Try.mixed Try.func36 rfl rfl Try.ntmps36 (by simp) (by simp) fun Q hr hn => ?_
    repeat' first | (refine hK _ ?_; clear hK) | (refine hK _ _ ?_; clear hK) | (clear hK; refine hK _ ?_; clear hK) | (clear hK; clear hK; refine hK _ ?_; clear hK) | (clear hK; clear hK; clear hK; refine hK _ ?_; clear hK) | (clear hK; clear hK; clear hK; clear hK; refine hK _ ?_; clear hK) | (refine wSeq fun K hK => ?_) | ((first | refine wReg ?_ | refine wDrwQ rfl (by kernel_rfl) ?_ | refine wDrwI ?_ | refine wDrw (by kernel_rfl) ?_); simp only [List.map_cons, List.map_nil, strip]) | ((first | refine wIs fun K hK => ?_ | refine wOs fun K hK => ?_ | refine wQs fun K hK => ?_ | refine CallK_plain ?_ | refine CallQ_plain ?_ | refine CallR_plain ?_ | refine wCond ?_); simp [hab]) | (refine wIn ?_; refine And.intro (by kernel_rfl) ?_; try simp only [thenA_n]) | (first | refine wBlock ?_ | refine wScope ?_) | ((first | refine wRet ?_ | refine wExit ?_ | refine wSkip ?_); try simp) | ((first | refine wLabel ?_ | refine wOn ?_ | refine wQn ?_); try simp only [thenA_n]) | (refine CallE.pure (compare_con _ _) rfl ?_) | (refine CallE.lent (compare_con _ _) rfl ?_) | (refine CallF.pure (compare_con _ _) rfl ?_) | (refine CallF.lent (compare_con _ _) rfl ?_) | (refine CallE.own (compare_con _ _) ?_) | (refine CallH.pure (compare_con _ _) rfl ?_) | (refine CallH.lent (compare_con _ _) rfl ?_) | (refine CallH.own (compare_con _ _) ?_) | (refine CallE.pure (hor) rfl ?_) | (refine CallE.lent (hor) rfl ?_) | (refine CallF.pure (hor) rfl ?_) | (refine CallF.lent (hor) rfl ?_) | (refine CallE.own (hor) ?_) | (refine CallH.pure (hor) rfl ?_) | (refine CallH.lent (hor) rfl ?_) | (refine CallH.own (hor) ?_) | (intro _)
    all_goals first | exact hab | skip
    apply hr
    simp [Try.f36, zcmp, hab]
theorem zcmp_spec (a b c d : Int) : zcmp a b c d = if a = c ∧ b = d then 0 else if a < c ∨ (a = c ∧ b < d) then -1 else 1 := by
  unfold zcmp cmpInt
  simp only [orL]
  repeat' split
  all_goals omega
theorem cmp02_con (a b c d : Int) : ACon Try.prog 23 [.p (.agg [I a, I b]), .p (.agg [I c, I d])] (.p (I (zcmp a b c d))) := by
  rw [zcmp_spec]
  by_cases hab : a = c ∧ b = d
  · rw [if_pos hab]
    obtain ⟨rfl, rfl⟩ := hab
    refine wBody Try.tab Try.mixed Try.func23 rfl rfl Try.ntmps23 (by simp) (by simp) fun Q hr hn => ?_
    repeat' first | (refine hK _ ?_; clear hK) | (refine hK _ _ ?_; clear hK) | (clear hK; refine hK _ ?_; clear hK) | (clear hK; clear hK; refine hK _ ?_; clear hK) | (clear hK; clear hK; clear hK; refine hK _ ?_; clear hK) | (clear hK; clear hK; clear hK; clear hK; refine hK _ ?_; clear hK) | (refine wSeq fun K hK => ?_) | ((first | refine wReg ?_ | refine wDrwQ rfl (by kernel_rfl) ?_ | refine wDrwI ?_ | refine wDrw (by kernel_rfl) ?_); simp only [List.map_cons, List.map_nil, strip]) | ((first | refine wIs fun K hK => ?_ | refine wOs fun K hK => ?_ | refine wQs fun K hK => ?_ | refine CallK_plain ?_ | refine CallQ_plain ?_ | refine CallR_plain ?_ | refine wCond ?_); simp) | (refine wIn ?_; refine And.intro (by kernel_rfl) ?_; try simp only [thenA_n]) | (first | refine wBlock ?_ | refine wScope ?_) | ((first | refine wRet ?_ | refine wExit ?_ | refine wSkip ?_); try simp) | ((first | refine wLabel ?_ | refine wOn ?_ | refine wQn ?_); try simp only [thenA_n])
    all_goals apply hr
    all_goals simp [Try.f23]
  · rw [if_neg hab]
    by_cases h1 : a < c
    · have h2 : ¬ a = c := by omega
      refine wBody Try.tab Try.mixed Try.func23 rfl rfl Try.ntmps23 (by simp) (by simp) fun Q hr hn => ?_
      repeat' first | (refine hK _ ?_; clear hK) | (refine hK _ _ ?_; clear hK) | (clear hK; refine hK _ ?_; clear hK) | (clear hK; clear hK; refine hK _ ?_; clear hK) | (clear hK; clear hK; clear hK; refine hK _ ?_; clear hK) | (clear hK; clear hK; clear hK; clear hK; refine hK _ ?_; clear hK) | (refine wSeq fun K hK => ?_) | ((first | refine wReg ?_ | refine wDrwQ rfl (by kernel_rfl) ?_ | refine wDrwI ?_ | refine wDrw (by kernel_rfl) ?_); simp only [List.map_cons, List.map_nil, strip]) | ((first | refine wIs fun K hK => ?_ | refine wOs fun K hK => ?_ | refine wQs fun K hK => ?_ | refine CallK_plain ?_ | refine CallQ_plain ?_ | refine CallR_plain ?_ | refine wCond ?_); simp [hab, h1, h2]) | (refine wIn ?_; refine And.intro (by kernel_rfl) ?_; try simp only [thenA_n]) | (first | refine wBlock ?_ | refine wScope ?_) | ((first | refine wRet ?_ | refine wExit ?_ | refine wSkip ?_); try simp) | ((first | refine wLabel ?_ | refine wOn ?_ | refine wQn ?_); try simp only [thenA_n]) | (intro _)
      all_goals first | exact hab | skip
      all_goals apply hr
      all_goals simp [Try.f23, h1]
    · by_cases h2 : a = c
      · by_cases h3 : b < d
        · have h4 : ¬ b = d := by omega
          refine wBody Try.tab Try.mixed Try.func23 rfl rfl Try.ntmps23 (by simp) (by simp) fun Q hr hn => ?_
          repeat' first | (refine hK _ ?_; clear hK) | (refine hK _ _ ?_; clear hK) | (clear hK; refine hK _ ?_; clear hK) | (clear hK; clear hK; refine hK _ ?_; clear hK) | (clear hK; clear hK; clear hK; refine hK _ ?_; clear hK) | (clear hK; clear hK; clear hK; clear hK; refine hK _ ?_; clear hK) | (refine wSeq fun K hK => ?_) | ((first | refine wReg ?_ | refine wDrwQ rfl (by kernel_rfl) ?_ | refine wDrwI ?_ | refine wDrw (by kernel_rfl) ?_); simp only [List.map_cons, List.map_nil, strip]) | ((first | refine wIs fun K hK => ?_ | refine wOs fun K hK => ?_ | refine wQs fun K hK => ?_ | refine CallK_plain ?_ | refine CallQ_plain ?_ | refine CallR_plain ?_ | refine wCond ?_); simp [hab, h1, h2, h3, h4]) | (refine wIn ?_; refine And.intro (by kernel_rfl) ?_; try simp only [thenA_n]) | (first | refine wBlock ?_ | refine wScope ?_) | ((first | refine wRet ?_ | refine wExit ?_ | refine wSkip ?_); try simp) | ((first | refine wLabel ?_ | refine wOn ?_ | refine wQn ?_); try simp only [thenA_n]) | (intro _)
          all_goals first | exact hab | skip
          all_goals apply hr
          all_goals simp [Try.f23, h1, h2, h3]
        · have h4 : ¬ b = d := fun h => hab ⟨h2, h⟩
          refine wBody Try.tab Try.mixed Try.func23 rfl rfl Try.ntmps23 (by simp) (by simp) fun Q hr hn => ?_
          repeat' first | (refine hK _ ?_; clear hK) | (refine hK _ _ ?_; clear hK) | (clear hK; refine hK _ ?_; clear hK) | (clear hK; clear hK; refine hK _ ?_; clear hK) | (clear hK; clear hK; clear hK; refine hK _ ?_; clear hK) | (clear hK; clear hK; clear hK; clear hK; refine hK _ ?_; clear hK) | (refine wSeq fun K hK => ?_) | ((first | refine wReg ?_ | refine wDrwQ rfl (by kernel_rfl) ?_ | refine wDrwI ?_ | refine wDrw (by kernel_rfl) ?_); simp only [List.map_cons, List.map_nil, strip]) | ((first | refine wIs fun K hK => ?_ | refine wOs fun K hK => ?_ | refine wQs fun K hK => ?_ | refine CallK_plain ?_ | refine CallQ_plain ?_ | refine CallR_plain ?_ | refine wCond ?_); simp [hab, h1, h2, h3, h4]) | (refine wIn ?_; refine And.intro (by kernel_rfl) ?_; try simp only [thenA_n]) | (first | refine wBlock ?_ | refine wScope ?_) | ((first | refine wRet ?_ | refine wExit ?_ | refine wSkip ?_); try simp) | ((first | refine wLabel ?_ | refine wOn ?_ | refine wQn ?_); try simp only [thenA_n]) | (intro _)
          all_goals first | exact hab | skip
          all_goals apply hr
          all_goals simp [Try.f23, h1, h2, h3]
      · refine wBody Try.tab Try.mixed Try.func23 rfl rfl Try.ntmps23 (by simp) (by simp) fun Q hr hn => ?_
        repeat' first | (refine hK _ ?_; clear hK) | (refine hK _ _ ?_; clear hK) | (clear hK; refine hK _ ?_; clear hK) | (clear hK; clear hK; refine hK _ ?_; clear hK) | (clear hK; clear hK; clear hK; refine hK _ ?_; clear hK) | (clear hK; clear hK; clear hK; clear hK; refine hK _ ?_; clear hK) | (refine wSeq fun K hK => ?_) | ((first | refine wReg ?_ | refine wDrwQ rfl (by kernel_rfl) ?_ | refine wDrwI ?_ | refine wDrw (by kernel_rfl) ?_); simp only [List.map_cons, List.map_nil, strip]) | ((first | refine wIs fun K hK => ?_ | refine wOs fun K hK => ?_ | refine wQs fun K hK => ?_ | refine CallK_plain ?_ | refine CallQ_plain ?_ | refine CallR_plain ?_ | refine wCond ?_); simp [hab, h1, h2]) | (refine wIn ?_; refine And.intro (by kernel_rfl) ?_; try simp only [thenA_n]) | (first | refine wBlock ?_ | refine wScope ?_) | ((first | refine wRet ?_ | refine wExit ?_ | refine wSkip ?_); try simp) | ((first | refine wLabel ?_ | refine wOn ?_ | refine wQn ?_); try simp only [thenA_n]) | (intro _)
        all_goals first | exact hab | skip
        all_goals apply hr
        all_goals simp [Try.f23, h1, h2]
end Go.Proofs.Ytnfcbkageifmfaa

/- Layer 2: what comes next, which is last, whose an epoch is; the document's answers. -/
namespace Go.Proofs.Ytnfcbkageifmfaa
set_option linter.unusedSimpArgs false
set_option linter.unusedVariables false
open Go Go.Av
attribute [local simp] Try.T1 Try.T2 Try.T3 Try.T4 Try.T5 Try.T9 Try.T12 Try.T15 Try.T16 Try.T17 Try.T21 Try.T22 Try.T23 Try.T25 Try.T27 Try.T29 Try.T30 Try.T31 Try.T32 Try.T33 Try.T35 Try.T37 Try.T38 Try.T40 Try.T41 Try.T42 Try.T43 Try.T44 Try.T45 Try.T46 Try.T47 Try.T48 Try.T49 Try.T50 Try.T51 Try.T52 Try.T53 Try.T54 Try.T56 Try.T57 Try.T58 Try.T59 Try.T60 Try.T61 Try.T62 Try.T64 Try.T66 Try.T67 Try.T68 Try.T69 Try.T71 Try.T72 Try.T73 Try.T74 Try.T75 Try.T76 Try.T77 Try.T78 Try.T79 Try.T80 Try.T81 Try.T82 Try.T83 Try.T84 Try.T85 Try.T86 Try.T87 Try.T88 Try.T89 Try.T90 Try.T91 Try.T92 Try.T93 Try.T94 Try.T95 Try.T97 Try.T98 Try.T99 Try.T100 Try.T101 Try.T102 Try.T103 Try.T104 Try.T105 Try.T106 Try.T107 Try.T108 Try.T109 Try.T110 Try.T111 Try.T112 Try.T113 Try.T114 Try.T115 Try.T116 Try.T117 Try.T120 Try.T123 Try.T124 Try.T127 Try.T128
attribute [local irreducible] Go.Av.CallK Go.Av.CallE Go.Av.CallQ Go.Av.CallF Go.Av.CallR Go.Av.CallH Go.Av.Con
/-- Places. -/
structure Zx where
  (e n : Int)
  deriving DecidableEq
def zxs (l : List Zx) : List (List PV) := l.map fun z => [I z.e, I z.n]
@[simp] theorem zxs_len (l : List Zx) : (zxs l).length = l.length := by simp [zxs]
@[simp] theorem zxs_getE {l : List Zx} {k : Nat} (h : k < (zxs l).length) : (zxs l)[k] = [I (l[k]'(by simpa using h)).e, I (l[k]'(by simpa using h)).n] := by simp [zxs]
def lastZ : List Zx → Zx
  | [] => ⟨0, 0⟩
  | a :: r => r.foldl (fun m x => if 0 < zcmp x.e x.n m.e m.n then x else m) a
end Go.Proofs.Ytnfcbkageifmfaa

/- When two lists of numbers are the same, by the document. -/
namespace Go.Proofs.Ytnfcbkageifmfaa
set_option linter.unusedSimpArgs false
set_option linter.unusedVariables false
open Go Go.Av
attribute [local simp] Try.T1 Try.T2 Try.T3 Try.T4 Try.T5 Try.T9 Try.T12 Try.T15 Try.T16 Try.T17 Try.T21 Try.T22 Try.T23 Try.T25 Try.T27 Try.T29 Try.T30 Try.T31 Try.T32 Try.T33 Try.T35 Try.T37 Try.T38 Try.T40 Try.T41 Try.T42 Try.T43 Try.T44 Try.T45 Try.T46 Try.T47 Try.T48 Try.T49 Try.T50 Try.T51 Try.T52 Try.T53 Try.T54 Try.T56 Try.T57 Try.T58 Try.T59 Try.T60 Try.T61 Try.T62 Try.T64 Try.T66 Try.T67 Try.T68 Try.T69 Try.T71 Try.T72 Try.T73 Try.T74 Try.T75 Try.T76 Try.T77 Try.T78 Try.T79 Try.T80 Try.T81 Try.T82 Try.T83 Try.T84 Try.T85 Try.T86 Try.T87 Try.T88 Try.T89 Try.T90 Try.T91 Try.T92 Try.T93 Try.T94 Try.T95 Try.T97 Try.T98 Try.T99 Try.T100 Try.T101 Try.T102 Try.T103 Try.T104 Try.T105 Try.T106 Try.T107 Try.T108 Try.T109 Try.T110 Try.T111 Try.T112 Try.T113 Try.T114 Try.T115 Try.T116 Try.T117 Try.T120 Try.T123 Try.T124 Try.T127 Try.T128
attribute [local irreducible] Go.Av.CallK Go.Av.CallE Go.Av.CallQ Go.Av.CallF Go.Av.CallR Go.Av.CallH Go.Av.Con
end Go.Proofs.Ytnfcbkageifmfaa
