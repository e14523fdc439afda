/- Nodes of the tree: both ways to say what is a tree are one; order of paths. -/
import Derived.Test.YtpadfoaigbfekaaND
import Derived.Test.YtpadfoaigbfekaaPH
namespace Go.Proofs.Ytpadfoaigbfekaa
set_option linter.unusedSimpArgs false
set_option linter.unusedVariables false
open Go Go.Av

/-! ### The order of paths -/
theorem lss_eq : ∀ (x y : List UInt8), lss x y = decide (x < y)
  | [], [] => by simp [lss, Op.bytesLess]
  | [], y :: ys => by simp [lss, Op.bytesLess]
  | x :: xs, [] => by simp [lss, Op.bytesLess]
  | x :: xs, y :: ys => by
    have ih := lss_eq xs ys
    unfold lss at ih ⊢
    rw [Op.bytesLess, ih]
    simp only [List.cons_lt_cons_iff]
    by_cases h1 : x < y <;> by_cases h2 : x = y <;> by_cases h3 : xs < ys <;> simp [h1, h2, h3]
theorem lt_irr : ∀ (x : List UInt8), ¬ x < x
  | [], h => by simp at h
  | a :: x, h => by
    rw [List.cons_lt_cons_iff] at h
    rcases h with h | ⟨-, h⟩
    · exact UInt8.lt_irrefl a h
    · exact lt_irr x h
theorem lt_tr : ∀ {x y z : List UInt8}, x < y → y < z → x < z
  | _, [], _, h, _ => by simp at h
  | _, _ :: _, [], _, h => by simp at h
  | [], b :: y, c :: z, _, _ => by simp
  | a :: x, b :: y, c :: z, h, h' => by
    rw [List.cons_lt_cons_iff] at h h' ⊢
    rcases h with h | ⟨rfl, h⟩
    · rcases h' with h' | ⟨rfl, h'⟩
      · exact .inl (UInt8.lt_trans h h')
      · exact .inl h
    · rcases h' with h' | ⟨rfl, h'⟩
      · exact .inl h'
      · exact .inr ⟨rfl, lt_tr h h'⟩
theorem lt_tot : ∀ (x y : List UInt8), x < y ∨ x = y ∨ y < x
  | [], [] => .inr (.inl rfl)
  | [], b :: y => .inl (by simp)
  | a :: x, [] => .inr (.inr (by simp))
  | a :: x, b :: y => by
    simp only [List.cons_lt_cons_iff]
    rcases lt_tot x y with h | h | h
    all_goals
      by_cases h1 : a < b
      · exact .inl (.inl h1)
      by_cases h2 : b < a
      · exact .inr (.inr (.inl h2))
      have h3 : a = b := UInt8.le_antisymm (UInt8.not_lt.1 h2) (UInt8.not_lt.1 h1)
      subst h3
    · exact .inl (.inr ⟨rfl, h⟩)
    · exact .inr (.inl (by rw [h]))
    · exact .inr (.inr (.inr ⟨rfl, h⟩))
theorem lt_app : ∀ (t : List UInt8) (a : UInt8) (r : List UInt8), t < t ++ a :: r
  | [], a, r => by simp
  | b :: t, a, r => by rw [List.cons_append, List.cons_lt_cons_iff]; exact .inr ⟨rfl, lt_app t a r⟩
theorem par_of {p up : List UInt8} (h : parV p = .tup [.p (SB up), .p (B true)]) : par p = (up, true) := by
  rw [parV_par] at h
  generalize par p = q at h
  obtain ⟨a, b⟩ := q
  simpa using h
theorem par_lt {p : List UInt8} (h : chd p = true) : (par p).2 = true ∧ (par p).1 < p := by
  obtain ⟨t, n, up, hp, hn, hu, hc, hs⟩ := child_shape h
  rw [par_of hu]
  refine ⟨rfl, ?_⟩
  show up < p
  rcases hs with ⟨rfl, rfl⟩ | ⟨rfl, -, -⟩
  · simp only [chd, decide_eq_true_eq] at h
    rw [List.nil_append] at hp
    subst hp
    cases n with
    | nil => exact absurd rfl h.1
    | cons a r => exact lt_app [47] a r
  · rw [hp]; exact lt_app _ _ _

/-! ### Finding -/
theorem fnd_none : ∀ {l : List Zn} {p : List UInt8}, (∀ z ∈ l, ¬ z.p = p) → fnd l p = (zz, false)
  | [], _, _ => rfl
  | z :: r, p, h => by
    rw [fnd, if_neg (h z (by simp)), fnd_none fun x hx => h x (by simp [hx])]
theorem fnd_app : ∀ (a b : List Zn) (p : List UInt8), fnd (a ++ b) p = if (fnd a p).2 = true then fnd a p else fnd b p
  | [], b, p => by simp [fnd]
  | z :: a, b, p => by
    rw [List.cons_append, fnd, fnd]
    by_cases h : z.p = p
    · simp [h]
    · simp only [h, if_false]; exact fnd_app a b p
theorem fnd_false : ∀ {l : List Zn} {p : List UInt8}, (fnd l p).2 = false → fnd l p = (zz, false)
  | [], _, _ => rfl
  | z :: r, p, h => by
    rw [fnd] at h ⊢
    by_cases g : z.p = p
    · simp [g] at h
    · rw [if_neg g] at h ⊢; exact fnd_false h
theorem fnd_mem : ∀ {l : List Zn} {p : List UInt8}, (fnd l p).2 = true → (fnd l p).1 ∈ l ∧ (fnd l p).1.p = p
  | [], _, h => by simp [fnd] at h
  | z :: r, p, h => by
    rw [fnd] at h ⊢
    by_cases g : z.p = p
    · simp [g]
    · rw [if_neg g] at h ⊢
      obtain ⟨h1, h2⟩ := fnd_mem h
      exact ⟨by simp [h1], h2⟩
/-- Rising paths. -/
def ris (l : List Zn) : Prop := ∀ (i j : Nat) (hi : i < l.length) (hj : j < l.length), i < j → l[i].p < l[j].p
def okB (l : List Zn) (i : Nat) : Prop := ∀ z, l[i]? = some z → rgz z = true ∧ ∀ j y, i = j + 1 → l[j]? = some y → y.p < z.p
theorem okA_B {l : List Zn} {i : Nat} (h : okA l i = true) : okB l i := by
  intro z hz
  unfold okA at h
  rw [hz] at h
  simp only [Bool.and_eq_true] at h
  refine ⟨h.1, fun j y hj hy => ?_⟩
  subst hj
  have h2 := h.2
  simp only [hy, Bool.and_eq_true, lss_eq, decide_eq_true_eq] at h2
  exact h2.1
theorem okR_B {l : List Zn} {i : Nat} (h : okR l i = true) : okB l i := by
  intro z hz
  unfold okR at h
  rw [hz] at h
  simp only [Bool.and_eq_true] at h
  refine ⟨h.1, fun j y hj hy => ?_⟩
  subst hj
  have h2 := h.2
  simp only [hy, Bool.and_eq_true, lss_eq, decide_eq_true_eq] at h2
  exact h2.1
theorem ris_of {l : List Zn} (h : ∀ i, i < l.length → okB l i) : ris l := by
  intro i j hi hj hij
  induction j with
  | zero => omega
  | succ j ih =>
    have hj' : j < l.length := by omega
    have h1 := (h (j + 1) hj l[j + 1] (List.getElem?_eq_getElem hj)).2 j l[j] rfl (List.getElem?_eq_getElem hj')
    by_cases e : i = j
    · subst e; exact h1
    · exact lt_tr (ih hj' (by omega)) h1
theorem ok_same {l : List Zn} (hh : hdo l = true) (hB : ∀ i, i < l.length → okB l i) (i : Nat) (hi : i < l.length) : okA l i = okR l i := by
  have hr := ris_of hB
  have h0 : 0 < l.length := by omega
  have hz : l[i]? = some l[i] := List.getElem?_eq_getElem hi
  unfold okA okR
  rw [hz]
  simp only []
  cases i with
  | zero => rfl
  | succ j =>
    have hj : j < l.length := by omega
    simp only [List.getElem?_eq_getElem hj]
    have hroot : l[0].p = [47] := by
      unfold hdo at hh
      rw [List.getElem?_eq_getElem h0] at hh
      simp only [Bool.and_eq_true, decide_eq_true_eq] at hh
      exact hh.2.1
    have hrg := (hB (j + 1) hi l[j + 1] hz).1
    have hck : chk l[j + 1].p = 0 := by
      simp only [rgz, decide_eq_true_eq] at hrg
      exact hrg.1
    have hne : l[j + 1].p ≠ [47] := fun e => by
      have := hr 0 (j + 1) h0 hi (by omega)
      rw [hroot, e] at this
      exact lt_irr _ this
    have hch : chd l[j + 1].p = true := by rw [chd, decide_eq_true_eq]; exact ⟨hne, hck⟩
    obtain ⟨p1, p2⟩ := par_lt hch
    unfold hld
    rw [p1, Bool.true_and]
    have e : fnd l (par l[j + 1].p).1 = fnd (l.take (j + 1)) (par l[j + 1].p).1 := by
      have hs := List.take_append_drop (j + 1) l
      have hn : fnd (l.drop (j + 1)) (par l[j + 1].p).1 = (zz, false) := fnd_none fun z hz' e => by
        obtain ⟨k, hk, rfl⟩ := List.getElem_of_mem hz'
        rw [List.getElem_drop] at e
        rw [List.length_drop] at hk
        have hlt : l[j + 1].p < l[j + 1 + k].p ∨ l[j + 1].p = l[j + 1 + k].p := by
          by_cases hk0 : k = 0
          · subst hk0; exact .inr rfl
          · exact .inl (hr _ _ hi (by omega) (by omega))
        rw [e] at hlt
        rcases hlt with h | h
        · exact lt_irr _ (lt_tr h p2)
        · rw [← h] at p2; exact lt_irr _ p2
      generalize par l[j + 1].p = q at hn ⊢
      conv => lhs; rw [← hs, fnd_app, hn]
      cases hf : (fnd (l.take (j + 1)) q.1).2
      · rw [fnd_false hf]; rfl
      · rfl
    rw [e]
theorem tree_same (l : List Zn) : (hdo l && allr (okA l) l.length) = (hdo l && allr (okR l) l.length) := by
  cases hh : hdo l
  · rfl
  · rw [Bool.true_and, Bool.true_and, Bool.eq_iff_iff, allr_iff, allr_iff]
    constructor
    · intro h i hi
      rw [← ok_same hh (fun i hi => okA_B (h i hi)) i hi]; exact h i hi
    · intro h i hi
      rw [ok_same hh (fun i hi => okR_B (h i hi)) i hi]; exact h i hi
/-- What may be a tree. -/
def tre (l : List Zn) : Bool := hdo l && allr (okR l) l.length
end Go.Proofs.Ytpadfoaigbfekaa
