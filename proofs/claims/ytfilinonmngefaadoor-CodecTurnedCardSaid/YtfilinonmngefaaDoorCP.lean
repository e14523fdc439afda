/- What was laid is read back, and what is read was laid so: the facts. -/
import Derived.Test.YtfilinonmngefaaDoorCN
namespace Go.Proofs.YtfilinonmngefaaDoor
set_option linter.unusedSimpArgs false
set_option linter.unusedVariables false
open Go Go.Av

theorem rdU_enc : ∀ (n v i u : Nat) (t : List UInt8), v ≤ n → i ≤ 9 → v * 128 ^ i < 18446744073709551616 → (0 < i → 0 < v) → rdU i u (enc v ++ t) = (0, u + v * 128 ^ i, i + (enc v).length) := by
  intro n
  induction n with
  | zero =>
    intro v i u t hv hi hlt h0
    have : v = 0 := by omega
    subst this
    rw [enc_small (by omega), List.cons_append, rdU, u8_toNat _ (by omega)]
    have : ¬ 0 < i := fun h => by have := h0 h; omega
    rw [if_neg (by omega), if_neg (by omega), if_neg (by omega)]
    simp
  | succ n ih =>
    intro v i u t hv hi hlt h0
    have hP := pow_le9 hi
    have hP0 : 0 < 128 ^ i := Nat.pow_pos (by omega)
    have h9 : i = 9 → v ≤ 1 := fun h => by subst h; omega
    by_cases hs : v < 128
    · rw [enc_small hs, List.cons_append, rdU, u8_toNat _ (by omega)]
      rw [if_neg (by omega), if_neg (by omega), if_neg (by omega), Nat.mod_eq_of_lt hs]
      simp
    · rw [enc_big hs, List.cons_append, rdU, u8_toNat _ (by omega)]
      rw [if_neg (by omega), if_pos (by omega)]
      have hm : (v % 128 + 128) % 128 = v % 128 := by omega
      have hle : v / 128 * 128 ^ (i + 1) ≤ v * 128 ^ i := by
        rw [Nat.pow_succ, Nat.mul_comm (128 ^ i), ← Nat.mul_assoc]
        exact Nat.mul_le_mul_right _ (Nat.div_mul_le_self v 128)
      have hsum : v % 128 * 128 ^ i + v / 128 * 128 ^ (i + 1) = v * 128 ^ i := by
        rw [Nat.pow_succ, Nat.mul_comm (128 ^ i), ← Nat.mul_assoc, ← Nat.add_mul]
        congr 1; omega
      rw [hm, ih (v / 128) (i + 1) _ t (by omega) (by omega) (by omega) (fun _ => by omega)]
      simp only [List.length_cons, Prod.mk.injEq, true_and]
      omega
theorem rdU_back (v : Nat) (t : List UInt8) (h : v < 18446744073709551616) : rdU 0 0 (enc v ++ t) = (0, v, (enc v).length) := by
  have := rdU_enc v v 0 0 t (Nat.le_refl _) (by omega) (by simpa using h) (by omega)
  simpa using this
theorem rdU_inv : ∀ (l : List UInt8) (i u w k : Nat), rdU i u l = (0, w, k) → ∃ v, w = u + v * 128 ^ i ∧ i < k ∧ k ≤ i + l.length ∧ l.take (k - i) = enc v ∧ (0 < i → 0 < v)
  | [], i, u, w, k, h => by simp [rdU] at h
  | c :: r, i, u, w, k, h => by
    have hc := c.toNat_lt
    rw [rdU] at h
    split at h
    · simp at h
    · split at h
      · rename_i o
        obtain ⟨v, h1, h2, h3, h4, h5⟩ := rdU_inv r (i + 1) _ w k h
        have hv := h5 (by omega)
        refine ⟨c.toNat % 128 + 128 * v, ?_, by omega, by simp only [List.length_cons]; omega, ?_, fun _ => by omega⟩
        · rw [h1, Nat.pow_succ, Nat.mul_comm (128 ^ i), ← Nat.mul_assoc, Nat.add_mul, Nat.mul_comm v, Nat.add_assoc]
        · rw [show k - i = (k - (i + 1)) + 1 by omega, List.take_succ_cons, h4, enc_big (u := c.toNat % 128 + 128 * v) (by omega)]
          rw [show (c.toNat % 128 + 128 * v) % 128 = c.toNat % 128 by omega, show (c.toNat % 128 + 128 * v) / 128 = v by omega]
          congr 1
          rw [← UInt8.toNat_inj, u8_toNat _ (by omega)]; omega
      · split at h
        · simp at h
        · rename_i o1 o2 o3
          simp only [Prod.mk.injEq, true_and] at h
          obtain ⟨h1, h2⟩ := h
          refine ⟨c.toNat, by rw [← h1, Nat.mod_eq_of_lt (by omega)], by omega, by simp only [List.length_cons]; omega, ?_, fun hi => by omega⟩
          rw [show k - i = 1 by omega, enc_small (by omega)]
          simp
theorem rdU_took {l : List UInt8} {w k : Nat} (h : rdU 0 0 l = (0, w, k)) : 0 < k ∧ k ≤ l.length ∧ l.take k = enc w := by
  obtain ⟨v, h1, h2, h3, h4, -⟩ := rdU_inv l 0 0 w k h
  simp at h1 h3 h4
  subst h1
  exact ⟨h2, h3, h4⟩
theorem drop_app (p t : List UInt8) : (p ++ t).drop p.length = t := by simp
/-! ### Numbers -/
theorem intT_back (p t : List UInt8) (n : Int) (hn : okI n) : intT (p ++ (enc (zz n) ++ t)) p.length = .tup [.p (I n), .p (I ((p.length + (enc (zz n)).length : Nat) : Int)), .p (I 0)] := by
  unfold intT
  rw [if_neg (by simp only [List.length_append]; omega), Int.toNat_natCast, drop_app, rdU_back _ _ (zz_lt hn), rdT_ok, unzz_zz]
/-! ### Lengths -/
theorem lnR_back (p t : List UInt8) (n tail : Nat) (hn : n ≤ 65536) (ht : n + tail ≤ t.length) : lnR (p ++ (enc (zz n) ++ t)).length p.length tail (rdU 0 0 ((p ++ (enc (zz n) ++ t)).drop p.length)) = (0, n, p.length + (enc (zz n)).length) := by
  rw [drop_app, rdU_back _ _ (zz_lt (zz_len n (by omega)))]
  unfold lnR
  simp only [unzz_zz]
  rw [if_neg (by simp), if_neg (by omega), if_neg (by omega), if_neg (by simp only [List.length_append]; omega)]
  simp
theorem textT_back (p s t : List UInt8) (hs : s.length ≤ 65536) : textT (p ++ (enc (zz s.length) ++ (s ++ t))) p.length = .tup [.p (SB s), .p (I ((p.length + (enc (zz s.length)).length + s.length : Nat) : Int)), .p (I 0)] := by
  unfold textT
  rw [if_neg (by simp only [List.length_append]; omega), Int.toNat_natCast, lnR_back p (s ++ t) s.length 0 hs (by rw [List.length_append]; omega)]
  unfold txT
  simp only [if_true]
  have : ((p ++ (enc (zz s.length) ++ (s ++ t))).drop (p.length + (enc (zz s.length)).length)).take s.length = s := by
    rw [← List.append_assoc p, show p.length + (enc (zz s.length)).length = (p ++ enc (zz s.length)).length by rw [List.length_append], drop_app]; simp
  rw [this]
/-! ### Frames -/
theorem frm_len (l : List UInt8) : (frm l).length = (enc (zz l.length)).length + l.length + 4 := by unfold frm; simp only [List.length_append, le4_len]
theorem opR_back (p l t : List UInt8) (hl : l.length ≤ 65536) : opR (p ++ (frm l ++ t)) p.length = (0, l.length, p.length + (enc (zz l.length)).length) := by
  have hb : p ++ (frm l ++ t) = p ++ (enc (zz l.length) ++ (l ++ (le4 (crc (enc (zz l.length) ++ l)) ++ t))) := by unfold frm; simp only [List.append_assoc]
  rw [hb]
  unfold opR
  rw [lnR_back p _ l.length 4 hl (by simp only [List.length_append, le4_len]; omega)]
  unfold frR
  simp only [if_true]
  have e1 : ((p ++ (enc (zz l.length) ++ (l ++ (le4 (crc (enc (zz l.length) ++ l)) ++ t)))).drop (p.length + (enc (zz l.length)).length + l.length)).take 4 = le4 (crc (enc (zz l.length) ++ l)) := by
    generalize hc : le4 (crc (enc (zz l.length) ++ l)) = s
    have hs : s.length = 4 := by rw [← hc, le4_len]
    have : p ++ (enc (zz l.length) ++ (l ++ (s ++ t))) = (p ++ (enc (zz l.length) ++ l)) ++ (s ++ t) := by simp only [List.append_assoc]
    rw [this, show p.length + (enc (zz l.length)).length + l.length = (p ++ (enc (zz l.length) ++ l)).length by simp only [List.length_append]; omega, drop_app, ← hs]; simp
  have e2 : ((p ++ (enc (zz l.length) ++ (l ++ (le4 (crc (enc (zz l.length) ++ l)) ++ t)))).take (p.length + (enc (zz l.length)).length + l.length)).drop p.length = enc (zz l.length) ++ l := by
    generalize le4 (crc (enc (zz l.length) ++ l)) = s
    have : p ++ (enc (zz l.length) ++ (l ++ (s ++ t))) = (p ++ (enc (zz l.length) ++ l)) ++ (s ++ t) := by simp only [List.append_assoc]
    rw [this, show p.length + (enc (zz l.length)).length + l.length = (p ++ (enc (zz l.length) ++ l)).length by simp only [List.length_append]; omega]
    rw [List.take_left]; simp
  rw [e1, e2, if_pos rfl]
theorem openT_back (p l t : List UInt8) (hl : l.length ≤ 65536) : openT (p ++ (frm l ++ t)) p.length = .tup [.p (.sl 1 (by8 l)), .p (I ((p.length + (frm l).length : Nat) : Int)), .p (I 0)] := by
  unfold openT
  rw [if_neg (by simp only [List.length_append]; omega), Int.toNat_natCast, opR_back p l t hl]
  unfold frT
  simp only [if_true]
  have : ((p ++ (frm l ++ t)).drop (p.length + (enc (zz l.length)).length)).take l.length = l := by
    have hb : p ++ (frm l ++ t) = (p ++ enc (zz l.length)) ++ (l ++ (le4 (crc (enc (zz l.length) ++ l)) ++ t)) := by unfold frm; simp only [List.append_assoc]
    rw [hb, show p.length + (enc (zz l.length)).length = (p ++ enc (zz l.length)).length by rw [List.length_append], drop_app]; simp
  rw [this, frm_len]
  simp only [Nat.add_assoc]

/-! ### What is read was laid so -/
theorem took_int {b : List UInt8} {a u k : Nat} (ha : a ≤ b.length) (h : rdU 0 0 (b.drop a) = (0, u, k)) : a < a + k ∧ a + k ≤ b.length ∧ b.take a ++ enc u = b.take (a + k) := by
  obtain ⟨h1, h2, h3⟩ := rdU_took h
  rw [List.length_drop] at h2
  exact ⟨by omega, by omega, by rw [List.take_add, h3]⟩
theorem took_ln {b : List UInt8} {a tail n q : Nat} (ha : a ≤ b.length) (h : lnR b.length a tail (rdU 0 0 (b.drop a)) = (0, n, q)) : a < q ∧ n ≤ 65536 ∧ q + n + tail ≤ b.length ∧ b.take a ++ enc (zz n) = b.take q := by
  obtain ⟨h1, h2, h3, h4, h5⟩ := lnR_ok h
  have hu : rdU 0 0 (b.drop a) = (0, (rdU 0 0 (b.drop a)).2.1, (rdU 0 0 (b.drop a)).2.2) := by rw [← h1]
  obtain ⟨g1, g2, g3⟩ := took_int ha hu
  have hz := zz_unzz (rdU 0 0 (b.drop a)).2.1
  rw [h2] at hz
  rw [← h4] at g1 g2 g3
  exact ⟨g1, h3, h5, by rw [hz]; exact g3⟩
theorem took_text {b : List UInt8} {a n q : Nat} (ha : a ≤ b.length) (h : lnR b.length a 0 (rdU 0 0 (b.drop a)) = (0, n, q)) : a < q + n ∧ q + n ≤ b.length ∧ ((b.drop q).take n).length = n ∧ n ≤ 65536 ∧ b.take a ++ (enc (zz n) ++ (b.drop q).take n) = b.take (q + n) := by
  obtain ⟨h1, h2, h3, h4⟩ := took_ln ha h
  refine ⟨by omega, by omega, by rw [List.length_take, List.length_drop]; omega, h2, ?_⟩
  rw [← List.append_assoc, h4, List.take_add]
theorem took_frm {b : List UInt8} {a : Nat} (ha : a ≤ b.length) (h : (opR b a).1 = 0) : ((b.drop (opR b a).2.2).take (opR b a).2.1).length = (opR b a).2.1 ∧ b.take a ++ frm ((b.drop (opR b a).2.2).take (opR b a).2.1) = b.take ((opR b a).2.2 + (opR b a).2.1 + 4) := by
  obtain ⟨h1, h2, h3, h4, h5⟩ := opR_ok h
  generalize hr : opR b a = r at h h1 h2 h3 h4 h5 ⊢
  obtain ⟨e, n, q⟩ := r
  simp only at h h1 h2 h3 h4 h5 ⊢
  subst h
  obtain ⟨-, -, -, g4⟩ := took_ln ha h4.symm
  have hl : ((b.drop q).take n).length = n := by rw [List.length_take, List.length_drop]; omega
  refine ⟨hl, ?_⟩
  have e1 : (b.take (q + n)).drop a = enc (zz n) ++ (b.drop q).take n := by
    rw [List.take_add, ← g4, List.append_assoc]
    have : (b.take a).length = a := by rw [List.length_take]; omega
    conv => lhs; rw [show a = (b.take a).length from this.symm]
    rw [show (b.take a).length = a from this, ← this]
    simp
  rw [e1] at h5
  unfold frm
  rw [hl, ← h5, List.take_add (i := q + n) (j := 4), ← List.append_assoc, ← List.append_assoc, g4, List.take_add (i := q) (j := n)]
end Go.Proofs.YtfilinonmngefaaDoor
