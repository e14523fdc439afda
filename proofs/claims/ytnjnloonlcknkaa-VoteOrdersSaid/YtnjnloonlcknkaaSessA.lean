/- Layer 11's functions, and the document's answers. -/
import Derived.Test.YtnjnloonlcknkaaLib
namespace Go.Proofs.Ytnjnloonlcknkaa
set_option linter.unusedSimpArgs false
set_option linter.unusedVariables false
open Go Go.Av
attribute [local simp] Try.T
attribute [local irreducible] Go.Av.CallK Go.Av.CallE Go.Av.CallQ Go.Av.CallF Go.Av.Con

theorem wrapS (k n : Nat) (h : k < n) (hn : n ≤ 9223372036854775807) : IntKind.i64.wrap ((k : Int) + 1) = ((k + 1 : Nat) : Int) := by
  rw [wrap_id] <;> omega

/-! ### What is in a list -/
def idx (n : Int) : List Int → Nat → Int
  | [], _ => -1
  | a :: l, k => if n = a then k else idx n l (k + 1)
theorem idx_mem (n : Int) : ∀ (l : List Int) (k : Nat), decide (0 ≤ idx n l k) = decide (n ∈ l)
  | [], k => by simp [idx]
  | a :: l, k => by
    by_cases h : n = a
    · subst h; simp [idx]
    · simp [idx, h, idx_mem n l (k + 1)]
def ints (l : List Int) : List (List PV) := l.map fun n => [I n]
@[simp] theorem ints_len (l : List Int) : (ints l).length = l.length := by simp [ints]
@[simp] theorem ints_getElem (l : List Int) (k : Nat) (h : k < (ints l).length) : (ints l)[k] = [I (l[k]'(by simpa using h))] := by simp [ints]
theorem ints_get {l : List Int} {k : Nat} (h : k < l.length) : (ints l)[k]? = some [I l[k]] := by simp [ints, h]

theorem index_con (l : List Int) (n : Int) : ACon Try.prog 29 [.p (.sl 1 (ints l)), .p (I n)] (.p (I (idx n l 0))) := by
  refine ACon.len ⟨Try.f29, Try.func29, rfl, rfl⟩ 0 _ _ rfl fun hlen => ?_
  simp only [ints_len] at hlen
  refine wBody Try.tab Try.mixed Try.func29 rfl rfl Try.ntmps29 (by simp) (by simp) fun Q hr hn => ?_
  repeat' first | (refine hK _ ?_; clear hK) | (clear hK; refine hK _ ?_; clear hK) | (clear hK; clear hK; refine hK _ ?_; clear hK) | (clear hK; clear hK; clear hK; refine hK _ ?_; clear hK) | (clear hK; clear hK; clear hK; clear hK; refine hK _ ?_; clear hK) | (refine wSeq fun K hK => ?_) | (refine wReg ?_; simp only [List.map_cons, List.map_nil, strip]) | (refine wDrw (by kernel_rfl) ?_; simp only [List.map_cons, List.map_nil, strip]) | (refine wOs fun K hK => ?_; simp) | (refine wQs fun K hK => ?_; simp) | (refine CallK_plain ?_; simp) | (refine CallQ_plain ?_; simp) | (refine wRet ?_; try simp) | (refine wCond ?_; simp) | (refine wBlock ?_) | (refine wExit ?_; try simp) | (refine wSkip ?_; try simp) | (refine wOn ?_; try simp only [thenA_n]) | (refine wQn ?_; try simp only [thenA_n])
  refine wLoop (fun N st => ∃ k, k + N = l.length ∧ st.s 0 = .p (.sl 1 (ints l)) ∧ st.s 1 = .p (I n) ∧ st.s 7 = .p (I l.length) ∧ st.s 8 = .p (I k) ∧ idx n (l.drop k) k = idx n l 0) l.length ⟨0, by simp⟩ fun K N st hL ⟨k, hk, h0, h1, h7, h8, hi⟩ => ?_
  by_cases hlt : k < l.length
  · have hw := wrapS k _ hlt hlen
    have he := ints_get hlt
    rw [List.drop_eq_getElem_cons hlt, idx] at hi
    repeat' first | (refine hK _ ?_; clear hK) | (clear hK; refine hK _ ?_; clear hK) | (clear hK; clear hK; refine hK _ ?_; clear hK) | (clear hK; clear hK; clear hK; refine hK _ ?_; clear hK) | (clear hK; clear hK; clear hK; clear hK; refine hK _ ?_; clear hK) | (refine wSeq fun K hK => ?_) | (refine wReg ?_; simp only [List.map_cons, List.map_nil, strip]) | (refine wDrw (by kernel_rfl) ?_; simp only [List.map_cons, List.map_nil, strip]) | (refine wOs fun K hK => ?_; simp [h0, h1, h7, h8, hlt, hw, he]) | (refine wQs fun K hK => ?_; simp [h0, h1, h7, h8, hlt, hw, he]) | (refine CallK_plain ?_; simp [h0, h1, h7, h8, hlt, hw, he]) | (refine CallQ_plain ?_; simp [h0, h1, h7, h8, hlt, hw, he]) | (refine wRet ?_; try simp) | (refine wCond ?_; simp [h0, h1, h7, h8, hlt, hw, he]) | (refine wBlock ?_) | (refine wExit ?_; try simp) | (refine wSkip ?_; try simp) | (refine wOn ?_; try simp only [thenA_n]) | (refine wQn ?_; try simp only [thenA_n]) | (refine And.intro (fun hc => ?_) (fun hc => ?_))
    · apply hr
      rw [if_pos hc] at hi
      simp [Try.f29, hi]
    · rw [if_neg hc] at hi
      refine hL _ (N - 1) (by omega) ⟨k + 1, by omega, ?_⟩
      simp [h0, h1, h7, hw, hi]
  · have hd : l.drop k = [] := List.drop_of_length_le (by omega)
    rw [hd] at hi
    repeat' first | (refine hK _ ?_; clear hK) | (clear hK; refine hK _ ?_; clear hK) | (clear hK; clear hK; refine hK _ ?_; clear hK) | (clear hK; clear hK; clear hK; refine hK _ ?_; clear hK) | (clear hK; clear hK; clear hK; clear hK; refine hK _ ?_; clear hK) | (refine wSeq fun K hK => ?_) | (refine wReg ?_; simp only [List.map_cons, List.map_nil, strip]) | (refine wDrw (by kernel_rfl) ?_; simp only [List.map_cons, List.map_nil, strip]) | (refine wOs fun K hK => ?_; simp [h0, h1, h7, h8, hlt]) | (refine wQs fun K hK => ?_; simp [h0, h1, h7, h8, hlt]) | (refine CallK_plain ?_; simp [h0, h1, h7, h8, hlt]) | (refine CallQ_plain ?_; simp [h0, h1, h7, h8, hlt]) | (refine wRet ?_; try simp) | (refine wCond ?_; simp [h0, h1, h7, h8, hlt]) | (refine wBlock ?_) | (refine wExit ?_; try simp) | (refine wSkip ?_; try simp) | (refine wOn ?_; try simp only [thenA_n]) | (refine wQn ?_; try simp only [thenA_n])
    apply hr
    simp [Try.f29, ← hi, idx]

theorem contains_con (l : List Int) (n : Int) : ACon Try.prog 25 [.p (.sl 1 (ints l)), .p (I n)] (.p (B (decide (n ∈ l)))) := by
  have h := index_con l n
  have hz := idx_mem n l 0
  generalize idx n l 0 = z at h hz
  rw [← hz]
  refine wBody Try.tab Try.mixed Try.func25 rfl rfl Try.ntmps25 (by simp) (by simp) fun Q hr hn => ?_
  repeat' first | (refine hK _ ?_; clear hK) | (clear hK; refine hK _ ?_; clear hK) | (clear hK; clear hK; refine hK _ ?_; clear hK) | (clear hK; clear hK; clear hK; refine hK _ ?_; clear hK) | (clear hK; clear hK; clear hK; clear hK; refine hK _ ?_; clear hK) | (refine wSeq fun K hK => ?_) | (refine wReg ?_; simp only [List.map_cons, List.map_nil, strip]) | (refine wDrw (by kernel_rfl) ?_; simp only [List.map_cons, List.map_nil, strip]) | (refine wOs fun K hK => ?_; simp) | (refine wQs fun K hK => ?_; simp) | (refine CallK_plain ?_; simp) | (refine CallQ_plain ?_; simp) | (refine wRet ?_; try simp) | (refine wCond ?_; simp) | (refine wBlock ?_) | (refine wExit ?_; try simp) | (refine wSkip ?_; try simp) | (refine wOn ?_; try simp only [thenA_n]) | (refine wQn ?_; try simp only [thenA_n]) | (refine CallE.pure (h) rfl ?_) | (refine CallE.lent (h) rfl ?_) | (refine CallF.pure (h) rfl ?_) | (refine CallF.lent (h) rfl ?_) | (refine CallE.own (h) ?_)
  apply hr
  simp [Try.f25]

theorem has11_con (l : List Int) (n : Int) : ACon Try.prog 26 [.p (.sl 1 (ints l)), .p (I n)] (.p (B (decide (n ∈ l)))) := by
  refine ACon.len ⟨Try.f26, Try.func26, rfl, rfl⟩ 0 _ _ rfl fun hlen => ?_
  simp only [ints_len] at hlen
  refine wBody Try.tab Try.mixed Try.func26 rfl rfl Try.ntmps26 (by simp) (by simp) fun Q hr hn => ?_
  repeat' first | (refine hK _ ?_; clear hK) | (clear hK; refine hK _ ?_; clear hK) | (clear hK; clear hK; refine hK _ ?_; clear hK) | (clear hK; clear hK; clear hK; refine hK _ ?_; clear hK) | (clear hK; clear hK; clear hK; clear hK; refine hK _ ?_; clear hK) | (refine wSeq fun K hK => ?_) | (refine wReg ?_; simp only [List.map_cons, List.map_nil, strip]) | (refine wDrw (by kernel_rfl) ?_; simp only [List.map_cons, List.map_nil, strip]) | (refine wOs fun K hK => ?_; simp) | (refine wQs fun K hK => ?_; simp) | (refine CallK_plain ?_; simp) | (refine CallQ_plain ?_; simp) | (refine wRet ?_; try simp) | (refine wCond ?_; simp) | (refine wBlock ?_) | (refine wExit ?_; try simp) | (refine wSkip ?_; try simp) | (refine wOn ?_; try simp only [thenA_n]) | (refine wQn ?_; try simp only [thenA_n])
  refine wLoop (fun N st => ∃ k, k + N = l.length ∧ st.s 1 = .p (I n) ∧ st.s 7 = .p (.sl 1 (ints l)) ∧ st.s 8 = .p (I l.length) ∧ st.s 9 = .p (I k) ∧ (n ∈ l ↔ n ∈ l.drop k)) l.length ⟨0, by simp⟩ fun K N st hL ⟨k, hk, h1, h7, h8, h9, hi⟩ => ?_
  by_cases hlt : k < l.length
  · have hw := wrapS k _ hlt hlen
    have he := ints_get hlt
    rw [List.drop_eq_getElem_cons hlt, List.mem_cons] at hi
    repeat' first | (refine hK _ ?_; clear hK) | (clear hK; refine hK _ ?_; clear hK) | (clear hK; clear hK; refine hK _ ?_; clear hK) | (clear hK; clear hK; clear hK; refine hK _ ?_; clear hK) | (clear hK; clear hK; clear hK; clear hK; refine hK _ ?_; clear hK) | (refine wSeq fun K hK => ?_) | (refine wReg ?_; simp only [List.map_cons, List.map_nil, strip]) | (refine wDrw (by kernel_rfl) ?_; simp only [List.map_cons, List.map_nil, strip]) | (refine wOs fun K hK => ?_; simp [h1, h7, h8, h9, hlt, hw, he]) | (refine wQs fun K hK => ?_; simp [h1, h7, h8, h9, hlt, hw, he]) | (refine CallK_plain ?_; simp [h1, h7, h8, h9, hlt, hw, he]) | (refine CallQ_plain ?_; simp [h1, h7, h8, h9, hlt, hw, he]) | (refine wRet ?_; try simp) | (refine wCond ?_; simp [h1, h7, h8, h9, hlt, hw, he]) | (refine wBlock ?_) | (refine wExit ?_; try simp) | (refine wSkip ?_; try simp) | (refine wOn ?_; try simp only [thenA_n]) | (refine wQn ?_; try simp only [thenA_n]) | (refine And.intro (fun hc => ?_) (fun hc => ?_))
    · apply hr
      simp [Try.f26]
      rw [hi]; exact .inl hc.symm
    · refine hL _ (N - 1) (by omega) ⟨k + 1, by omega, ?_⟩
      have hc' : ¬ n = l[k] := fun h => hc h.symm
      simp [h1, h7, h8, hw]
      rw [hi]; simp [hc']
  · have hd : l.drop k = [] := List.drop_of_length_le (by omega)
    rw [hd] at hi
    repeat' first | (refine hK _ ?_; clear hK) | (clear hK; refine hK _ ?_; clear hK) | (clear hK; clear hK; refine hK _ ?_; clear hK) | (clear hK; clear hK; clear hK; refine hK _ ?_; clear hK) | (clear hK; clear hK; clear hK; clear hK; refine hK _ ?_; clear hK) | (refine wSeq fun K hK => ?_) | (refine wReg ?_; simp only [List.map_cons, List.map_nil, strip]) | (refine wDrw (by kernel_rfl) ?_; simp only [List.map_cons, List.map_nil, strip]) | (refine wOs fun K hK => ?_; simp [h1, h7, h8, h9, hlt]) | (refine wQs fun K hK => ?_; simp [h1, h7, h8, h9, hlt]) | (refine CallK_plain ?_; simp [h1, h7, h8, h9, hlt]) | (refine CallQ_plain ?_; simp [h1, h7, h8, h9, hlt]) | (refine wRet ?_; try simp) | (refine wCond ?_; simp [h1, h7, h8, h9, hlt]) | (refine wBlock ?_) | (refine wExit ?_; try simp) | (refine wSkip ?_; try simp) | (refine wOn ?_; try simp only [thenA_n]) | (refine wQn ?_; try simp only [thenA_n])
    apply hr
    simp [Try.f26]
    simpa using hi

/-! ### The same -/
theorem ints01_con (a b : List Int) : ACon Try.prog 17 [.p (.sl 1 (ints a)), .p (.sl 1 (ints b))] (.p (B (decide (a = b)))) := by
  refine ACon.len ⟨Try.f17, Try.func17, rfl, rfl⟩ 0 _ _ rfl fun hlen => ?_
  simp only [ints_len] at hlen
  by_cases hl : a.length = b.length
  · refine wBody Try.tab Try.mixed Try.func17 rfl rfl Try.ntmps17 (by simp) (by simp) fun Q hr hn => ?_
    repeat' first | (refine hK _ ?_; clear hK) | (clear hK; refine hK _ ?_; clear hK) | (clear hK; clear hK; refine hK _ ?_; clear hK) | (clear hK; clear hK; clear hK; refine hK _ ?_; clear hK) | (clear hK; clear hK; clear hK; clear hK; refine hK _ ?_; clear hK) | (refine wSeq fun K hK => ?_) | (refine wReg ?_; simp only [List.map_cons, List.map_nil, strip]) | (refine wDrw (by kernel_rfl) ?_; simp only [List.map_cons, List.map_nil, strip]) | (refine wOs fun K hK => ?_; simp [hl]) | (refine wQs fun K hK => ?_; simp [hl]) | (refine CallK_plain ?_; simp [hl]) | (refine CallQ_plain ?_; simp [hl]) | (refine wRet ?_; try simp) | (refine wCond ?_; simp [hl]) | (refine wBlock ?_) | (refine wExit ?_; try simp) | (refine wSkip ?_; try simp) | (refine wOn ?_; try simp only [thenA_n]) | (refine wQn ?_; try simp only [thenA_n])
    refine wLoop (fun N st => ∃ k, k + N = a.length ∧ st.s 0 = .p (.sl 1 (ints a)) ∧ st.s 1 = .p (.sl 1 (ints b)) ∧ st.s 12 = .p (I a.length) ∧ st.s 13 = .p (I k) ∧ (a = b ↔ a.drop k = b.drop k)) a.length ⟨0, by simp [hl]⟩ fun K N st hL ⟨k, hk, h0, h1, h12, h13, hi⟩ => ?_
    by_cases hlt : k < a.length
    · have hw := wrapS k _ hlt hlen
      have he := ints_get hlt
      have he' := ints_get (l := b) (k := k) (by omega)
      rw [List.drop_eq_getElem_cons hlt, List.drop_eq_getElem_cons (l := b) (by omega), List.cons.injEq] at hi
      repeat' first | (refine hK _ ?_; clear hK) | (clear hK; refine hK _ ?_; clear hK) | (clear hK; clear hK; refine hK _ ?_; clear hK) | (clear hK; clear hK; clear hK; refine hK _ ?_; clear hK) | (clear hK; clear hK; clear hK; clear hK; refine hK _ ?_; clear hK) | (refine wSeq fun K hK => ?_) | (refine wReg ?_; simp only [List.map_cons, List.map_nil, strip]) | (refine wDrw (by kernel_rfl) ?_; simp only [List.map_cons, List.map_nil, strip]) | (refine wOs fun K hK => ?_; simp [h0, h1, h12, h13, hlt, hw, he, he']) | (refine wQs fun K hK => ?_; simp [h0, h1, h12, h13, hlt, hw, he, he']) | (refine CallK_plain ?_; simp [h0, h1, h12, h13, hlt, hw, he, he']) | (refine CallQ_plain ?_; simp [h0, h1, h12, h13, hlt, hw, he, he']) | (refine wRet ?_; try simp) | (refine wCond ?_; simp [h0, h1, h12, h13, hlt, hw, he, he']) | (refine wBlock ?_) | (refine wExit ?_; try simp) | (refine wSkip ?_; try simp) | (refine wOn ?_; try simp only [thenA_n]) | (refine wQn ?_; try simp only [thenA_n]) | (refine And.intro (fun hc => ?_) (fun hc => ?_))
      · apply hr
        simp [Try.f17]
        intro h
        exact hc (hi.1 h).1
      · refine hL _ (N - 1) (by omega) ⟨k + 1, by omega, ?_⟩
        simp [h0, h1, h12, hw]
        rw [hi]; simp [hc]
    · have hd : a.drop k = [] := List.drop_of_length_le (by omega)
      have hd' : b.drop k = [] := List.drop_of_length_le (by omega)
      rw [hd, hd'] at hi
      repeat' first | (refine hK _ ?_; clear hK) | (clear hK; refine hK _ ?_; clear hK) | (clear hK; clear hK; refine hK _ ?_; clear hK) | (clear hK; clear hK; clear hK; refine hK _ ?_; clear hK) | (clear hK; clear hK; clear hK; clear hK; refine hK _ ?_; clear hK) | (refine wSeq fun K hK => ?_) | (refine wReg ?_; simp only [List.map_cons, List.map_nil, strip]) | (refine wDrw (by kernel_rfl) ?_; simp only [List.map_cons, List.map_nil, strip]) | (refine wOs fun K hK => ?_; simp [h0, h1, h12, h13, hlt]) | (refine wQs fun K hK => ?_; simp [h0, h1, h12, h13, hlt]) | (refine CallK_plain ?_; simp [h0, h1, h12, h13, hlt]) | (refine CallQ_plain ?_; simp [h0, h1, h12, h13, hlt]) | (refine wRet ?_; try simp) | (refine wCond ?_; simp [h0, h1, h12, h13, hlt]) | (refine wBlock ?_) | (refine wExit ?_; try simp) | (refine wSkip ?_; try simp) | (refine wOn ?_; try simp only [thenA_n]) | (refine wQn ?_; try simp only [thenA_n])
      apply hr
      simp [Try.f17]
      simpa using hi
  · have hne : ¬ a = b := fun h => hl (by rw [h])
    have hl' : ¬ ((a.length : Int) = b.length) := by omega
    refine wBody Try.tab Try.mixed Try.func17 rfl rfl Try.ntmps17 (by simp) (by simp) fun Q hr hn => ?_
    repeat' first | (refine hK _ ?_; clear hK) | (clear hK; refine hK _ ?_; clear hK) | (clear hK; clear hK; refine hK _ ?_; clear hK) | (clear hK; clear hK; clear hK; refine hK _ ?_; clear hK) | (clear hK; clear hK; clear hK; clear hK; refine hK _ ?_; clear hK) | (refine wSeq fun K hK => ?_) | (refine wReg ?_; simp only [List.map_cons, List.map_nil, strip]) | (refine wDrw (by kernel_rfl) ?_; simp only [List.map_cons, List.map_nil, strip]) | (refine wOs fun K hK => ?_; simp [hl, hl']) | (refine wQs fun K hK => ?_; simp [hl, hl']) | (refine CallK_plain ?_; simp [hl, hl']) | (refine CallQ_plain ?_; simp [hl, hl']) | (refine wRet ?_; try simp) | (refine wCond ?_; simp [hl, hl']) | (refine wBlock ?_) | (refine wExit ?_; try simp) | (refine wSkip ?_; try simp) | (refine wOn ?_; try simp only [thenA_n]) | (refine wQn ?_; try simp only [thenA_n])
    all_goals apply hr
    all_goals simp [Try.f17, hne]

structure Sn where
  (id lf : Int)
  deriving DecidableEq
def Sn.cells (s : Sn) : List PV := [I s.id, I s.lf]
def seens (l : List Sn) : List (List PV) := l.map Sn.cells
@[simp] theorem seens_len (l : List Sn) : (seens l).length = l.length := by simp [seens]
@[simp] theorem seens_getElem (l : List Sn) (k : Nat) (h : k < (seens l).length) : (seens l)[k] = [I (l[k]'(by simpa using h)).id, I (l[k]'(by simpa using h)).lf] := by simp [seens, Sn.cells]
theorem seens_get {l : List Sn} {k : Nat} (h : k < l.length) : (seens l)[k]? = some [I l[k].id, I l[k].lf] := by simp [seens, h, Sn.cells]

theorem same11_con (a b : List Sn) : ACon Try.prog 12 [.p (.sl 2 (seens a)), .p (.sl 2 (seens b))] (.p (B (decide (a = b)))) := by
  refine ACon.len ⟨Try.f12, Try.func12, rfl, rfl⟩ 0 _ _ rfl fun hlen => ?_
  simp only [seens_len] at hlen
  by_cases hl : a.length = b.length
  · refine wBody Try.tab Try.mixed Try.func12 rfl rfl Try.ntmps12 (by simp) (by simp) fun Q hr hn => ?_
    repeat' first | (refine hK _ ?_; clear hK) | (clear hK; refine hK _ ?_; clear hK) | (clear hK; clear hK; refine hK _ ?_; clear hK) | (clear hK; clear hK; clear hK; refine hK _ ?_; clear hK) | (clear hK; clear hK; clear hK; clear hK; refine hK _ ?_; clear hK) | (refine wSeq fun K hK => ?_) | (refine wReg ?_; simp only [List.map_cons, List.map_nil, strip]) | (refine wDrw (by kernel_rfl) ?_; simp only [List.map_cons, List.map_nil, strip]) | (refine wOs fun K hK => ?_; simp [hl]) | (refine wQs fun K hK => ?_; simp [hl]) | (refine CallK_plain ?_; simp [hl]) | (refine CallQ_plain ?_; simp [hl]) | (refine wRet ?_; try simp) | (refine wCond ?_; simp [hl]) | (refine wBlock ?_) | (refine wExit ?_; try simp) | (refine wSkip ?_; try simp) | (refine wOn ?_; try simp only [thenA_n]) | (refine wQn ?_; try simp only [thenA_n])
    refine wLoop (fun N st => ∃ k, k + N = a.length ∧ st.s 0 = .p (.sl 2 (seens a)) ∧ st.s 1 = .p (.sl 2 (seens b)) ∧ st.s 12 = .p (I a.length) ∧ st.s 13 = .p (I k) ∧ (a = b ↔ a.drop k = b.drop k)) a.length ⟨0, by simp [hl]⟩ fun K N st hL ⟨k, hk, h0, h1, h12, h13, hi⟩ => ?_
    by_cases hlt : k < a.length
    · have hw := wrapS k _ hlt hlen
      have he := seens_get hlt
      have he' := seens_get (l := b) (k := k) (by omega)
      rw [List.drop_eq_getElem_cons hlt, List.drop_eq_getElem_cons (l := b) (by omega), List.cons.injEq] at hi
      by_cases hc : a[k] = b[k]
      · have hc1 : a[k].id = b[k].id := by rw [hc]
        have hc2 : a[k].lf = b[k].lf := by rw [hc]
        repeat' first | (refine hK _ ?_; clear hK) | (clear hK; refine hK _ ?_; clear hK) | (clear hK; clear hK; refine hK _ ?_; clear hK) | (clear hK; clear hK; clear hK; refine hK _ ?_; clear hK) | (clear hK; clear hK; clear hK; clear hK; refine hK _ ?_; clear hK) | (refine wSeq fun K hK => ?_) | (refine wReg ?_; simp only [List.map_cons, List.map_nil, strip]) | (refine wDrw (by kernel_rfl) ?_; simp only [List.map_cons, List.map_nil, strip]) | (refine wOs fun K hK => ?_; simp [h0, h1, h12, h13, hlt, hw, he, he', hc1, hc2]) | (refine wQs fun K hK => ?_; simp [h0, h1, h12, h13, hlt, hw, he, he', hc1, hc2]) | (refine CallK_plain ?_; simp [h0, h1, h12, h13, hlt, hw, he, he', hc1, hc2]) | (refine CallQ_plain ?_; simp [h0, h1, h12, h13, hlt, hw, he, he', hc1, hc2]) | (refine wRet ?_; try simp) | (refine wCond ?_; simp [h0, h1, h12, h13, hlt, hw, he, he', hc1, hc2]) | (refine wBlock ?_) | (refine wExit ?_; try simp) | (refine wSkip ?_; try simp) | (refine wOn ?_; try simp only [thenA_n]) | (refine wQn ?_; try simp only [thenA_n])
        refine hL _ (N - 1) (by omega) ⟨k + 1, by omega, ?_⟩
        simp [h0, h1, h12, hw]
        rw [hi]; simp [hc]
      · have hc' : ¬ (a[k].id = b[k].id ∧ a[k].lf = b[k].lf) := fun ⟨h1, h2⟩ => hc (by
          generalize a[k] = x at *
          generalize b[k] = y at *
          cases x; cases y; simp at h1 h2; simp [h1, h2])
        repeat' first | (refine hK _ ?_; clear hK) | (clear hK; refine hK _ ?_; clear hK) | (clear hK; clear hK; refine hK _ ?_; clear hK) | (clear hK; clear hK; clear hK; refine hK _ ?_; clear hK) | (clear hK; clear hK; clear hK; clear hK; refine hK _ ?_; clear hK) | (refine wSeq fun K hK => ?_) | (refine wReg ?_; simp only [List.map_cons, List.map_nil, strip]) | (refine wDrw (by kernel_rfl) ?_; simp only [List.map_cons, List.map_nil, strip]) | (refine wOs fun K hK => ?_; simp [h0, h1, h12, h13, hlt, hw, he, he', hc']) | (refine wQs fun K hK => ?_; simp [h0, h1, h12, h13, hlt, hw, he, he', hc']) | (refine CallK_plain ?_; simp [h0, h1, h12, h13, hlt, hw, he, he', hc']) | (refine CallQ_plain ?_; simp [h0, h1, h12, h13, hlt, hw, he, he', hc']) | (refine wRet ?_; try simp) | (refine wCond ?_; simp [h0, h1, h12, h13, hlt, hw, he, he', hc']) | (refine wBlock ?_) | (refine wExit ?_; try simp) | (refine wSkip ?_; try simp) | (refine wOn ?_; try simp only [thenA_n]) | (refine wQn ?_; try simp only [thenA_n]) | (intro _)
        all_goals first | exact hc' | skip
        apply hr
        simp [Try.f12]
        intro h
        exact hc (hi.1 h).1
    · have hd : a.drop k = [] := List.drop_of_length_le (by omega)
      have hd' : b.drop k = [] := List.drop_of_length_le (by omega)
      rw [hd, hd'] at hi
      repeat' first | (refine hK _ ?_; clear hK) | (clear hK; refine hK _ ?_; clear hK) | (clear hK; clear hK; refine hK _ ?_; clear hK) | (clear hK; clear hK; clear hK; refine hK _ ?_; clear hK) | (clear hK; clear hK; clear hK; clear hK; refine hK _ ?_; clear hK) | (refine wSeq fun K hK => ?_) | (refine wReg ?_; simp only [List.map_cons, List.map_nil, strip]) | (refine wDrw (by kernel_rfl) ?_; simp only [List.map_cons, List.map_nil, strip]) | (refine wOs fun K hK => ?_; simp [h0, h1, h12, h13, hlt]) | (refine wQs fun K hK => ?_; simp [h0, h1, h12, h13, hlt]) | (refine CallK_plain ?_; simp [h0, h1, h12, h13, hlt]) | (refine CallQ_plain ?_; simp [h0, h1, h12, h13, hlt]) | (refine wRet ?_; try simp) | (refine wCond ?_; simp [h0, h1, h12, h13, hlt]) | (refine wBlock ?_) | (refine wExit ?_; try simp) | (refine wSkip ?_; try simp) | (refine wOn ?_; try simp only [thenA_n]) | (refine wQn ?_; try simp only [thenA_n])
      apply hr
      simp [Try.f12]
      simpa using hi
  · have hne : ¬ a = b := fun h => hl (by rw [h])
    have hl' : ¬ ((a.length : Int) = b.length) := by omega
    refine wBody Try.tab Try.mixed Try.func12 rfl rfl Try.ntmps12 (by simp) (by simp) fun Q hr hn => ?_
    repeat' first | (refine hK _ ?_; clear hK) | (clear hK; refine hK _ ?_; clear hK) | (clear hK; clear hK; refine hK _ ?_; clear hK) | (clear hK; clear hK; clear hK; refine hK _ ?_; clear hK) | (clear hK; clear hK; clear hK; clear hK; refine hK _ ?_; clear hK) | (refine wSeq fun K hK => ?_) | (refine wReg ?_; simp only [List.map_cons, List.map_nil, strip]) | (refine wDrw (by kernel_rfl) ?_; simp only [List.map_cons, List.map_nil, strip]) | (refine wOs fun K hK => ?_; simp [hl, hl']) | (refine wQs fun K hK => ?_; simp [hl, hl']) | (refine CallK_plain ?_; simp [hl, hl']) | (refine CallQ_plain ?_; simp [hl, hl']) | (refine wRet ?_; try simp) | (refine wCond ?_; simp [hl, hl']) | (refine wBlock ?_) | (refine wExit ?_; try simp) | (refine wSkip ?_; try simp) | (refine wOn ?_; try simp only [thenA_n]) | (refine wQn ?_; try simp only [thenA_n])
    all_goals apply hr
    all_goals simp [Try.f12, hne]
end Go.Proofs.Ytnjnloonlcknkaa
