/- Nodes of the tree: what Put and Gone come to. -/
import Derived.Test.YtpadfoaigbfekaaNE
namespace Go.Proofs.Ytpadfoaigbfekaa
set_option linter.unusedSimpArgs false
set_option linter.unusedVariables false
open Go Go.Av

/-! ### Where a node is put -/
theorem att_spec : ∀ (l : List Zn) (q : List UInt8), (∀ z ∈ l.take (att l q), z.p < q) ∧ (∀ x r, l.drop (att l q) = x :: r → ¬ x.p < q)
  | [], q => by simp [att]
  | x :: l, q => by
    obtain ⟨h1, h2⟩ := att_spec l q
    unfold att
    cases h : lss x.p q
    · rw [if_neg (by simp)]
      rw [lss_eq] at h
      refine ⟨by simp, fun y r e => ?_⟩
      simp only [List.drop_zero, List.cons.injEq] at e
      rw [← e.1]
      simpa using h
    · rw [if_pos rfl]
      rw [lss_eq, decide_eq_true_eq] at h
      refine ⟨fun z hz => ?_, fun y r e => h2 y r (by simpa using e)⟩
      simp only [List.take_succ_cons, List.mem_cons] at hz
      rcases hz with rfl | hz
      · exact h
      · exact h1 z hz
theorem att_app : ∀ (a b : List Zn) (q : List UInt8), (∀ z ∈ a, z.p < q) → att (a ++ b) q = a.length + att b q
  | [], b, q, _ => by simp
  | x :: a, b, q, h => by
    rw [List.cons_append, att, lss_eq, if_pos (decide_eq_true (h x (by simp))), att_app a b q fun z hz => h z (by simp [hz])]
    simp; omega
theorem fnd_rst (l : List Zn) (q w : List UInt8) (h : ¬ w = q) : fnd (rst l q) w = fnd l w := by
  cases l with
  | nil => rfl
  | cons x r =>
    rw [rst]
    by_cases g : x.p = q
    · rw [if_pos g, fnd, if_neg (by rw [g]; exact fun e => h e.symm)]
    · rw [if_neg g]
/-- What is found behind a Put. -/
theorem fnd_put (l : List Zn) (z : Zn) (w : List UInt8) : fnd (putZ l z) w = if z.p = w then (z, true) else fnd l w := by
  unfold putZ
  obtain ⟨h1, h2⟩ := att_spec l z.p
  rw [fnd_app]
  by_cases g : z.p = w
  · rw [if_pos g]
    have : fnd (l.take (att l z.p)) w = (zz, false) := fnd_none fun x hx e => by
      have := h1 x hx
      rw [e, g] at this
      exact lt_irr _ this
    rw [this, if_neg (by simp), fnd, if_pos g]
  · rw [if_neg g, fnd, if_neg g, fnd_rst _ _ _ fun e => g e.symm]
    conv => rhs; rw [← List.take_append_drop (att l z.p) l, fnd_app]
theorem put_put (l : List Zn) (z : Zn) : putZ (putZ l z) z = putZ l z := by
  obtain ⟨h1, h2⟩ := att_spec l z.p
  have ha : att (putZ l z) z.p = (l.take (att l z.p)).length := by
    rw [putZ, att_app _ _ _ h1, att, lss_eq, if_neg (by simp)]; rfl
  have e1 : (putZ l z).take (att (putZ l z) z.p) = l.take (att l z.p) := by rw [ha, putZ, List.take_left]
  have e2 : (putZ l z).drop (att (putZ l z) z.p) = z :: rst (l.drop (att l z.p)) z.p := by rw [ha, putZ, List.drop_left]
  have e3 : putZ (putZ l z) z = (putZ l z).take (att (putZ l z) z.p) ++ z :: rst ((putZ l z).drop (att (putZ l z) z.p)) z.p := rfl
  rw [e3, e1, e2, rst, if_pos rfl]; rfl
theorem fnd_gone : ∀ (l : List Zn) (p w : List UInt8), fnd (gone l p) w = if w = p then (zz, false) else fnd l w
  | [], p, w => by simp [gone, fnd]
  | x :: l, p, w => by
    have ih := fnd_gone l p w
    unfold gone at ih ⊢
    by_cases g : x.p = p
    · rw [List.filter_cons_of_neg (by simp [g]), ih]
      by_cases h : w = p
      · rw [if_pos h, if_pos h]
      · rw [if_neg h, if_neg h, fnd, if_neg (by rw [g]; exact fun e => h e.symm)]
    · rw [List.filter_cons_of_pos (by simp [g]), fnd, ih]
      by_cases h : w = p
      · rw [if_pos h, if_pos h, if_neg (by rw [h]; exact g)]
      · rw [if_neg h, if_neg h, fnd]
theorem gone_gone (l : List Zn) (p : List UInt8) : gone (gone l p) p = gone l p := by
  unfold gone; rw [List.filter_filter]; simp
/-! ### Rising lists -/
theorem ris_pw {l : List Zn} : ris l ↔ l.Pairwise fun a b => a.p < b.p := by
  rw [List.pairwise_iff_getElem]; rfl
theorem ris_fnd {l : List Zn} (h : ris l) {z : Zn} (hz : z ∈ l) : fnd l z.p = (z, true) := by
  rw [ris_pw] at h
  induction l with
  | nil => simp at hz
  | cons x l ih =>
    rw [List.pairwise_cons] at h
    rw [fnd]
    rcases List.mem_cons.1 hz with rfl | hz
    · rw [if_pos rfl]
    · have := h.1 z hz
      rw [if_neg (fun e => by rw [e] at this; exact lt_irr _ this)]
      exact ih h.2 hz
theorem ris_gone {l : List Zn} (h : ris l) (p : List UInt8) : ris (gone l p) := by
  rw [ris_pw] at h ⊢
  exact h.filter _
theorem rst_sub (l : List Zn) (q : List UInt8) : (rst l q).Sublist l := by
  cases l with
  | nil => exact .slnil
  | cons x r =>
    rw [rst]; split
    · exact List.sublist_cons_self x r
    · exact List.Sublist.refl _
theorem rst_mem {l : List Zn} {q : List UInt8} (h : l.Pairwise fun a b => a.p < b.p) (hx : ∀ x r, l = x :: r → ¬ x.p < q) : ∀ z ∈ rst l q, q < z.p := by
  intro z hz
  cases l with
  | nil => simp [rst] at hz
  | cons x r =>
    rw [List.pairwise_cons] at h
    have h0 := hx x r rfl
    rw [rst] at hz
    by_cases g : x.p = q
    · rw [if_pos g] at hz
      have := h.1 z hz
      rw [g] at this; exact this
    · rw [if_neg g] at hz
      have h1 : q < x.p := by
        rcases lt_tot x.p q with h | h | h
        · exact absurd h h0
        · exact absurd h g
        · exact h
      rcases List.mem_cons.1 hz with rfl | hz
      · exact h1
      · exact lt_tr h1 (h.1 z hz)
theorem ris_put {l : List Zn} (h : ris l) (z : Zn) : ris (putZ l z) := by
  obtain ⟨h1, h2⟩ := att_spec l z.p
  rw [ris_pw] at h ⊢
  have hs := List.take_append_drop (att l z.p) l
  rw [← hs, List.pairwise_append] at h
  obtain ⟨p1, p2, p3⟩ := h
  have hm := rst_mem p2 h2
  unfold putZ
  rw [List.pairwise_append, List.pairwise_cons]
  refine ⟨p1, ⟨hm, p2.sublist (rst_sub _ _)⟩, fun a ha b hb => ?_⟩
  rcases List.mem_cons.1 hb with rfl | hb
  · exact h1 a ha
  · exact lt_tr (h1 a ha) (hm b hb)
/-- Two rising lists in which the same is found are one. -/
theorem ris_ext : ∀ {a b : List Zn}, ris a → ris b → (∀ w, fnd a w = fnd b w) → a = b
  | [], [], _, _, _ => rfl
  | [], y :: b, _, _, h => by have := h y.p; simp [fnd] at this
  | x :: a, [], _, _, h => by have := h x.p; simp [fnd] at this
  | x :: a, y :: b, ha, hb, h => by
    rw [ris_pw, List.pairwise_cons] at ha hb
    have hx := h x.p
    have hy := h y.p
    rw [fnd, if_pos rfl, fnd] at hx
    rw [fnd, fnd, if_pos rfl] at hy
    have e : x = y := by
      by_cases g : y.p = x.p
      · rw [if_pos g] at hx
        simpa using hx
      · exfalso
        rw [if_neg g] at hx
        rw [if_neg fun e => g e.symm] at hy
        have m1 := fnd_mem (l := b) (p := x.p) (by rw [← hx])
        have m2 := fnd_mem (l := a) (p := y.p) (by rw [hy])
        rw [← hx] at m1
        rw [hy] at m2
        exact lt_irr _ (lt_tr (ha.1 _ m2.1) (hb.1 _ m1.1))
    subst e
    rw [ris_ext (ris_pw.2 ha.2) (ris_pw.2 hb.2) fun w => ?_]
    have hw := h w
    rw [fnd, fnd] at hw
    by_cases g : x.p = w
    · subst g
      rw [fnd_none fun z hz e => ?_, fnd_none fun z hz e => ?_]
      · have := hb.1 z hz
        rw [e] at this; exact lt_irr _ this
      · have := ha.1 z hz
        rw [e] at this; exact lt_irr _ this
    · rw [if_neg g, if_neg g] at hw; exact hw
/-! ### Trees -/
theorem tre_ris {l : List Zn} (h : tre l = true) : hdo l = true ∧ ris l ∧ (∀ z ∈ l, rgz z = true) ∧ (∀ z ∈ l, ¬ z.p = [47] → (fnd l (par z.p).1).2 = true ∧ (fnd l (par z.p).1).1.o = 0) := by
  unfold tre at h
  rw [Bool.and_eq_true, allr_iff] at h
  obtain ⟨h1, h2⟩ := h
  refine ⟨h1, ris_of fun i hi => okR_B (h2 i hi), fun z hz => ?_, fun z hz hne => ?_⟩
  · obtain ⟨i, hi, rfl⟩ := List.getElem_of_mem hz
    exact (okR_B (h2 i hi) l[i] (List.getElem?_eq_getElem hi)).1
  · obtain ⟨i, hi, rfl⟩ := List.getElem_of_mem hz
    have h0 : 0 < l.length := by omega
    cases i with
    | zero =>
      exfalso
      unfold hdo at h1
      rw [List.getElem?_eq_getElem h0] at h1
      simp only [Bool.and_eq_true, decide_eq_true_eq] at h1
      exact hne h1.2.1
    | succ j =>
      have hj : j < l.length := by omega
      have hk := h2 (j + 1) hi
      unfold okR at hk
      simp only [List.getElem?_eq_getElem hi, List.getElem?_eq_getElem hj, Bool.and_eq_true, decide_eq_true_eq] at hk
      exact hk.2.2
theorem tre_of {l : List Zn} (h1 : hdo l = true) (hr : ris l) (h2 : ∀ z ∈ l, rgz z = true) (h3 : ∀ z ∈ l, ¬ z.p = [47] → (fnd l (par z.p).1).2 = true ∧ (fnd l (par z.p).1).1.o = 0) : tre l = true := by
  unfold tre
  rw [h1, Bool.true_and, allr_iff]
  intro i hi
  have h0 : 0 < l.length := by omega
  have hroot : l[0].p = [47] := by
    unfold hdo at h1
    rw [List.getElem?_eq_getElem h0] at h1
    simp only [Bool.and_eq_true, decide_eq_true_eq] at h1
    exact h1.2.1
  unfold okR
  cases i with
  | zero =>
    simp only [List.getElem?_eq_getElem hi, Bool.and_true]
    exact h2 _ (List.getElem_mem hi)
  | succ j =>
    have hj : j < l.length := by omega
    have hlt := hr j (j + 1) hj hi (by omega)
    have hne : ¬ l[j + 1].p = [47] := fun e => by
      have := hr 0 (j + 1) h0 hi (by omega)
      rw [hroot, e] at this
      exact lt_irr _ this
    obtain ⟨a, b⟩ := h3 _ (List.getElem_mem hi) hne
    simp only [List.getElem?_eq_getElem hi, List.getElem?_eq_getElem hj, Bool.and_eq_true, decide_eq_true_eq, lss_eq]
    exact ⟨h2 _ (List.getElem_mem hi), hlt, a, b⟩
end Go.Proofs.Ytpadfoaigbfekaa
