/- Nodes of the tree: both ways to say what is a tree are one; order of paths. -/
import Derived.Test.YtpadfoaigbfekaaND
import Derived.Test.YtpadfoaigbfekaaPH
namespace Go.Proofs.Ytpadfoaigbfekaa
set_option linter.unusedSimpArgs false
set_option linter.unusedVariables false
open Go Go.Av
/-! ### The order of paths -/
theorem lss_eq : ∀ (x y : List UInt8), lss x y = decide (x < y)
  | [], [] => by simp [lss, Op.bytesLess]
  | [], y :: ys => by simp [lss, Op.bytesLess]
  | x :: xs, [] => by simp [lss, Op.bytesLess]
  | x :: xs, y :: ys => by
    have ih := lss_eq xs ys
    unfold lss at ih ⊢
    rw [Op.bytesLess, ih]
    simp only [List.cons_lt_cons_iff]
    by_cases h1 : x < y <;> by_cases h2 : x = y <;> by_cases h3 : xs < ys <;> simp [h1, h2, h3]
theorem lt_irr : ∀ (x : List UInt8), ¬ x < x
  | [], h => by simp at h
  | a :: x, h => by
    rw [List.cons_lt_cons_iff] at h
    rcases h with h | ⟨-, h⟩
    · exact UInt8.lt_irrefl a h
    · exact lt_irr x h
theorem lt_tr : ∀ {x y z : List UInt8}, x < y → y < z → x < z
  | _, [], _, h, _ => by simp at h
  | _, _ :: _, [], _, h => by simp at h
  | [], b :: y, c :: z, _, _ => by simp
  | a :: x, b :: y, c :: z, h, h' => by
    rw [List.cons_lt_cons_iff] at h h' ⊢
    rcases h with h | ⟨rfl, h⟩
    · rcases h' with h' | ⟨rfl, h'⟩
      · exact .inl (UInt8.lt_trans h h')
      · exact .inl h
    · rcases h' with h' | ⟨rfl, h'⟩
      · exact .inl h'
      · exact .inr ⟨rfl, lt_tr h h'⟩
theorem lt_tot : ∀ (x y : List UInt8), x < y ∨ x = y ∨ y < x
  | [], [] => .inr (.inl rfl)
  | [], b :: y => .inl (by simp)
  | a :: x, [] => .inr (.inr (by simp))
  | a :: x, b :: y => by
    simp only [List.cons_lt_cons_iff]
    rcases lt_tot x y with h | h | h
    all_goals
      by_cases h1 : a < b
      · exact .inl (.inl h1)
      by_cases h2 : b < a
      · exact .inr (.inr (.inl h2))
      have h3 : a = b := UInt8.le_antisymm (UInt8.not_lt.1 h2) (UInt8.not_lt.1 h1)
      subst h3
    · exact .inl (.inr ⟨rfl, h⟩)
    · exact .inr (.inl (by rw [h]))
    · exact .inr (.inr (.inr ⟨rfl, h⟩))
/-! ### Finding -/
theorem fnd_none : ∀ {l : List Zn} {p : List UInt8}, (∀ z ∈ l, ¬ z.p = p) → fnd l p = (zz, false)
  | [], _, _ => rfl
  | z :: r, p, h => by
    rw [fnd, if_neg (h z (by simp)), fnd_none fun x hx => h x (by simp [hx])]
theorem fnd_app : ∀ (a b : List Zn) (p : List UInt8), fnd (a ++ b) p = if (fnd a p).2 = true then fnd a p else fnd b p
  | [], b, p => by simp [fnd]
  | z :: a, b, p => by
    rw [List.cons_append, fnd, fnd]
    by_cases h : z.p = p
    · simp [h]
    · simp only [h, if_false]; exact fnd_app a b p
theorem fnd_mem : ∀ {l : List Zn} {p : List UInt8}, (fnd l p).2 = true → (fnd l p).1 ∈ l ∧ (fnd l p).1.p = p
  | [], _, h => by simp [fnd] at h
  | z :: r, p, h => by
    rw [fnd] at h ⊢
    by_cases g : z.p = p
    · simp [g]
    · rw [if_neg g] at h ⊢
      obtain ⟨h1, h2⟩ := fnd_mem h
      exact ⟨by simp [h1], h2⟩
/-- Rising paths. -/
def ris (l : List Zn) : Prop := ∀ (i j : Nat) (hi : i < l.length) (hj : j < l.length), i < j → l[i].p < l[j].p
end Go.Proofs.Ytpadfoaigbfekaa
