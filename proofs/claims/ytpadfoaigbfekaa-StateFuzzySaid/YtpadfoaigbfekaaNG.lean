/- Nodes of the tree: what Put and Gone come to. -/
import Derived.Test.YtpadfoaigbfekaaNE
namespace Go.Proofs.Ytpadfoaigbfekaa
set_option linter.unusedSimpArgs false
set_option linter.unusedVariables false
open Go Go.Av
/-! ### Where a node is put -/
theorem att_spec : ∀ (l : List Zn) (q : List UInt8), (∀ z ∈ l.take (att l q), z.p < q) ∧ (∀ x r, l.drop (att l q) = x :: r → ¬ x.p < q)
  | [], q => by simp [att]
  | x :: l, q => by
    obtain ⟨h1, h2⟩ := att_spec l q
    unfold att
    cases h : lss x.p q
    · rw [if_neg (by simp)]
      rw [lss_eq] at h
      refine ⟨by simp, fun y r e => ?_⟩
      simp only [List.drop_zero, List.cons.injEq] at e
      rw [← e.1]
      simpa using h
    · rw [if_pos rfl]
      rw [lss_eq, decide_eq_true_eq] at h
      refine ⟨fun z hz => ?_, fun y r e => h2 y r (by simpa using e)⟩
      simp only [List.take_succ_cons, List.mem_cons] at hz
      rcases hz with rfl | hz
      · exact h
      · exact h1 z hz
theorem fnd_rst (l : List Zn) (q w : List UInt8) (h : ¬ w = q) : fnd (rst l q) w = fnd l w := by
  cases l with
  | nil => rfl
  | cons x r =>
    rw [rst]
    by_cases g : x.p = q
    · rw [if_pos g, fnd, if_neg (by rw [g]; exact fun e => h e.symm)]
    · rw [if_neg g]
/-- What is found behind a Put. -/
theorem fnd_put (l : List Zn) (z : Zn) (w : List UInt8) : fnd (putZ l z) w = if z.p = w then (z, true) else fnd l w := by
  unfold putZ
  obtain ⟨h1, h2⟩ := att_spec l z.p
  rw [fnd_app]
  by_cases g : z.p = w
  · rw [if_pos g]
    have : fnd (l.take (att l z.p)) w = (zz, false) := fnd_none fun x hx e => by
      have := h1 x hx
      rw [e, g] at this
      exact lt_irr _ this
    rw [this, if_neg (by simp), fnd, if_pos g]
  · rw [if_neg g, fnd, if_neg g, fnd_rst _ _ _ fun e => g e.symm]
    conv => rhs; rw [← List.take_append_drop (att l z.p) l, fnd_app]
theorem fnd_gone : ∀ (l : List Zn) (p w : List UInt8), fnd (gone l p) w = if w = p then (zz, false) else fnd l w
  | [], p, w => by simp [gone, fnd]
  | x :: l, p, w => by
    have ih := fnd_gone l p w
    unfold gone at ih ⊢
    by_cases g : x.p = p
    · rw [List.filter_cons_of_neg (by simp [g]), ih]
      by_cases h : w = p
      · rw [if_pos h, if_pos h]
      · rw [if_neg h, if_neg h, fnd, if_neg (by rw [g]; exact fun e => h e.symm)]
    · rw [List.filter_cons_of_pos (by simp [g]), fnd, ih]
      by_cases h : w = p
      · rw [if_pos h, if_pos h, if_neg (by rw [h]; exact g)]
      · rw [if_neg h, if_neg h, fnd]
/-! ### Rising lists -/
theorem ris_pw {l : List Zn} : ris l ↔ l.Pairwise fun a b => a.p < b.p := by
  rw [List.pairwise_iff_getElem]; rfl
theorem ris_gone {l : List Zn} (h : ris l) (p : List UInt8) : ris (gone l p) := by
  rw [ris_pw] at h ⊢
  exact h.filter _
theorem rst_sub (l : List Zn) (q : List UInt8) : (rst l q).Sublist l := by
  cases l with
  | nil => exact .slnil
  | cons x r =>
    rw [rst]; split
    · exact List.sublist_cons_self x r
    · exact List.Sublist.refl _
theorem rst_mem {l : List Zn} {q : List UInt8} (h : l.Pairwise fun a b => a.p < b.p) (hx : ∀ x r, l = x :: r → ¬ x.p < q) : ∀ z ∈ rst l q, q < z.p := by
  intro z hz
  cases l with
  | nil => simp [rst] at hz
  | cons x r =>
    rw [List.pairwise_cons] at h
    have h0 := hx x r rfl
    rw [rst] at hz
    by_cases g : x.p = q
    · rw [if_pos g] at hz
      have := h.1 z hz
      rw [g] at this; exact this
    · rw [if_neg g] at hz
      have h1 : q < x.p := by
        rcases lt_tot x.p q with h | h | h
        · exact absurd h h0
        · exact absurd h g
        · exact h
      rcases List.mem_cons.1 hz with rfl | hz
      · exact h1
      · exact lt_tr h1 (h.1 z hz)
theorem ris_put {l : List Zn} (h : ris l) (z : Zn) : ris (putZ l z) := by
  obtain ⟨h1, h2⟩ := att_spec l z.p
  rw [ris_pw] at h ⊢
  have hs := List.take_append_drop (att l z.p) l
  rw [← hs, List.pairwise_append] at h
  obtain ⟨p1, p2, p3⟩ := h
  have hm := rst_mem p2 h2
  unfold putZ
  rw [List.pairwise_append, List.pairwise_cons]
  refine ⟨p1, ⟨hm, p2.sublist (rst_sub _ _)⟩, fun a ha b hb => ?_⟩
  rcases List.mem_cons.1 hb with rfl | hb
  · exact h1 a ha
  · exact lt_tr (h1 a ha) (hm b hb)
/-- Two rising lists in which the same is found are one. -/
theorem ris_ext : ∀ {a b : List Zn}, ris a → ris b → (∀ w, fnd a w = fnd b w) → a = b
  | [], [], _, _, _ => rfl
  | [], y :: b, _, _, h => by have := h y.p; simp [fnd] at this
  | x :: a, [], _, _, h => by have := h x.p; simp [fnd] at this
  | x :: a, y :: b, ha, hb, h => by
    rw [ris_pw, List.pairwise_cons] at ha hb
    have hx := h x.p
    have hy := h y.p
    rw [fnd, if_pos rfl, fnd] at hx
    rw [fnd, fnd, if_pos rfl] at hy
    have e : x = y := by
      by_cases g : y.p = x.p
      · rw [if_pos g] at hx
        simpa using hx
      · exfalso
        rw [if_neg g] at hx
        rw [if_neg fun e => g e.symm] at hy
        have m1 := fnd_mem (l := b) (p := x.p) (by rw [← hx])
        have m2 := fnd_mem (l := a) (p := y.p) (by rw [hy])
        rw [← hx] at m1
        rw [hy] at m2
        exact lt_irr _ (lt_tr (ha.1 _ m2.1) (hb.1 _ m1.1))
    subst e
    rw [ris_ext (ris_pw.2 ha.2) (ris_pw.2 hb.2) fun w => ?_]
    have hw := h w
    rw [fnd, fnd] at hw
    by_cases g : x.p = w
    · subst g
      rw [fnd_none fun z hz e => ?_, fnd_none fun z hz e => ?_]
      · have := hb.1 z hz
        rw [e] at this; exact lt_irr _ this
      · have := ha.1 z hz
        rw [e] at this; exact lt_irr _ this
    · rw [if_neg g, if_neg g] at hw; exact hw
end Go.Proofs.Ytpadfoaigbfekaa
