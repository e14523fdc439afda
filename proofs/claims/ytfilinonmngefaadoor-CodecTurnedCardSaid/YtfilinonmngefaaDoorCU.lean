/- Bits turned within 32 neighbouring ones are told by the sum: the facts. -/
import Derived.Test.YtfilinonmngefaaDoorCP
namespace Go.Proofs.YtfilinonmngefaaDoor
set_option linter.unusedSimpArgs false
set_option linter.unusedVariables false
open Go Go.Av
/-! ### Bit by bit -/
theorem bit_inj0 {z : W32} (h : bit z = 0#32) : z = 0#32 := by
  unfold bit at h
  cases hb : z.getLsbD 0 with
  | false =>
    rw [hb] at h
    simp only [Bool.false_eq_true, if_false] at h
    apply BitVec.eq_of_getLsbD_eq
    intro i hi
    cases i with
    | zero => rw [hb]; simp
    | succ i =>
      have := congrArg (fun x => x.getLsbD i) h
      simp only [BitVec.getLsbD_ushiftRight] at this
      rw [show i + 1 = 1 + i by omega, this]; simp
  | true =>
    exfalso
    rw [hb] at h
    simp only [if_true] at h
    have := congrArg (fun x => x.getLsbD 31) h
    simp only [BitVec.getLsbD_xor, BitVec.getLsbD_ushiftRight] at this
    rw [BitVec.getLsbD_of_ge z (1 + 31) (by omega)] at this
    revert this
    decide
theorem bit_zero : bit 0#32 = 0#32 := by decide
theorem bits_zero : ∀ n, bits n 0#32 = 0#32
  | 0 => rfl
  | n + 1 => by rw [bits, bit_zero, bits_zero n]
theorem bits_inj0 : ∀ (n : Nat) {z : W32}, bits n z = 0#32 → z = 0#32
  | 0, z, h => h
  | n + 1, z, h => bit_inj0 (bits_inj0 n (by rw [bits] at h; exact h))
theorem bits_xor : ∀ (n : Nat) (x y : W32), bits n (x ^^^ y) = bits n x ^^^ bits n y
  | 0, x, y => rfl
  | n + 1, x, y => by rw [bits, bit_xor, bits_xor n]; rfl
theorem bits_add : ∀ (m n : Nat) (x : W32), bits (m + n) x = bits n (bits m x)
  | 0, n, x => by rw [Nat.zero_add]; rfl
  | m + 1, n, x => by rw [show m + 1 + n = (m + n) + 1 by omega, bits, bits_add m n]; rfl
def b1 (b : Bool) : W32 := BitVec.ofNat 32 b.toNat
def nb : List Bool → Nat
  | [] => 0
  | b :: t => b.toNat + 2 * nb t
theorem nb_lt : ∀ l : List Bool, nb l < 2 ^ l.length
  | [] => by simp [nb]
  | b :: t => by
    have := nb_lt t
    have := Bool.toNat_lt b
    rw [nb, List.length_cons, Nat.pow_succ]; omega
theorem nb_app : ∀ (a b : List Bool), nb (a ++ b) = nb a + 2 ^ a.length * nb b
  | [], b => by simp [nb]
  | x :: t, b => by
    rw [List.cons_append, nb, nb, nb_app t b, List.length_cons, Nat.pow_succ, Nat.mul_add, Nat.add_assoc, Nat.mul_comm (2 ^ t.length) 2, Nat.mul_assoc]
theorem nb_zero : ∀ l : List Bool, nb l = 0 ↔ ∀ b ∈ l, b = false
  | [] => by simp [nb]
  | b :: t => by
    have ih := nb_zero t
    rw [nb]
    constructor
    · intro h x hx
      have hb : b.toNat = 0 := by omega
      have ht : nb t = 0 := by omega
      rcases List.mem_cons.1 hx with rfl | hx
      · cases x <;> simp_all
      · exact ih.1 ht x hx
    · intro h
      have h1 := h b (by simp)
      have h2 := ih.2 fun x hx => h x (by simp [hx])
      rw [h1, h2]; rfl
def fb (r : W32) : List Bool → W32
  | [] => r
  | b :: t => fb (bit (r ^^^ b1 b)) t
theorem fb_app : ∀ (a b : List Bool) (r : W32), fb r (a ++ b) = fb (fb r a) b
  | [], b, r => rfl
  | x :: t, b, r => by rw [List.cons_append, fb, fb, fb_app t b]
theorem cat_b1 (b : Bool) (m : Nat) (h : 2 * m < 4294967296) : BitVec.ofNat 32 (b.toNat + 2 * m) = b1 b ^^^ BitVec.ofNat 32 (2 * m) := by
  apply BitVec.eq_of_getLsbD_eq
  intro i hi
  unfold b1
  rw [BitVec.getLsbD_xor, BitVec.getLsbD_ofNat, BitVec.getLsbD_ofNat, BitVec.getLsbD_ofNat]
  simp only [hi, decide_true, Bool.true_and]
  cases i with
  | zero =>
    rw [Nat.testBit_zero, Nat.testBit_zero, Nat.testBit_zero]
    cases b <;> simp
  | succ i =>
    rw [Nat.testBit_succ, Nat.testBit_succ, Nat.testBit_succ]
    have e1 : (b.toNat + 2 * m) / 2 = m := by have := Bool.toNat_lt b; omega
    have e2 : b.toNat / 2 = 0 := by have := Bool.toNat_lt b; omega
    have e3 : 2 * m / 2 = m := by omega
    rw [e1, e2, e3, Nat.zero_testBit, Bool.false_xor]
theorem bit_dbl (m : Nat) (h : 2 * m < 4294967296) : bit (BitVec.ofNat 32 (2 * m)) = BitVec.ofNat 32 m := by
  rw [bit_even _ (by rw [BitVec.getLsbD_ofNat, Nat.testBit_zero]; simp)]
  apply BitVec.eq_of_toNat_eq
  rw [BitVec.toNat_ushiftRight, BitVec.toNat_ofNat, BitVec.toNat_ofNat, Nat.shiftRight_eq_div_pow, Nat.mod_eq_of_lt (by omega), Nat.mod_eq_of_lt (by omega)]
  omega
theorem fb_bits : ∀ (l : List Bool) (r : W32), l.length ≤ 32 → fb r l = bits l.length (r ^^^ BitVec.ofNat 32 (nb l))
  | [], r, _ => by simp [fb, nb, bits]
  | b :: t, r, h => by
    rw [List.length_cons] at h
    have hlt := nb_lt t
    have h31 : 2 ^ t.length ≤ 2 ^ 31 := Nat.pow_le_pow_right (by omega) (by omega)
    have h2 : 2 * nb t < 4294967296 := by omega
    rw [fb, fb_bits t _ (by omega), List.length_cons, bits, nb, cat_b1 b _ h2, ← BitVec.xor_assoc, bit_xor (r ^^^ b1 b), bit_dbl _ h2]
theorem fb_zero : ∀ n : Nat, fb 0#32 (List.replicate n false) = 0#32
  | 0 => rfl
  | n + 1 => by
    rw [List.replicate_succ, fb]
    have : bit (0#32 ^^^ b1 false) = 0#32 := by decide
    rw [this]; exact fb_zero n
theorem fb_rep : ∀ (n : Nat) (r : W32), fb r (List.replicate n false) = bits n r
  | 0, r => rfl
  | n + 1, r => by
    rw [List.replicate_succ, fb]
    have : r ^^^ b1 false = r := by
      have : b1 false = 0#32 := by decide
      rw [this, BitVec.xor_zero]
    rw [this, fb_rep n]; rfl
/-! ### Bytes as bits -/
def bt (c : UInt8) (j : Nat) : Bool := c.toNat.testBit j
def byt8 (c : UInt8) : List Bool := [bt c 0, bt c 1, bt c 2, bt c 3, bt c 4, bt c 5, bt c 6, bt c 7]
theorem bt_mod (c : UInt8) (j : Nat) : (bt c j).toNat = c.toNat / 2 ^ j % 2 := by
  unfold bt
  rw [Nat.testBit_eq_decide_div_mod_eq]
  have : c.toNat / 2 ^ j % 2 < 2 := Nat.mod_lt _ (by omega)
  by_cases h : c.toNat / 2 ^ j % 2 = 1
  · simp [h]
  · simp [h]; omega
theorem nb_byt8 (c : UInt8) : nb (byt8 c) = c.toNat := by
  have := c.toNat_lt
  simp only [byt8, nb, bt_mod]
  omega
def bitsOf (l : List UInt8) : List Bool := l.flatMap byt8
theorem bitsOf_len : ∀ l : List UInt8, (bitsOf l).length = 8 * l.length
  | [] => rfl
  | c :: r => by
    have := bitsOf_len r
    unfold bitsOf at this ⊢
    rw [List.flatMap_cons, List.length_append, this, List.length_cons]
    simp only [byt8, List.length_cons, List.length_nil]; omega
theorem nb_bitsOf : ∀ l : List UInt8, nb (bitsOf l) = le l
  | [] => rfl
  | c :: r => by
    have ih := nb_bitsOf r
    unfold bitsOf at ih ⊢
    rw [List.flatMap_cons, nb_app, ih, nb_byt8, le, show (byt8 c).length = 8 from rfl]
theorem feed_fb : ∀ (l : List UInt8) (r : W32), feed r l = fb r (bitsOf l)
  | [], r => rfl
  | c :: t, r => by
    have ih := feed_fb t (oct (r ^^^ cb c))
    unfold bitsOf at ih ⊢
    rw [List.flatMap_cons, fb_app]
    have : fb r (byt8 c) = oct (r ^^^ cb c) := by
      rw [fb_bits _ _ (by simp [byt8]), nb_byt8]; rfl
    rw [this, ← ih]; rfl
theorem feed_app (a b : List UInt8) (r : W32) : feed r (a ++ b) = feed (feed r a) b := by simp [feed]
/-! ### Differences -/
def xorL (a b : List UInt8) : List UInt8 := List.zipWith (fun x y => x ^^^ y) a b
theorem cb_xor (x y : UInt8) : cb (x ^^^ y) = cb x ^^^ cb y := by
  have hx := x.toNat_lt
  have hy := y.toNat_lt
  apply BitVec.eq_of_toNat_eq
  unfold cb
  rw [BitVec.toNat_xor, BitVec.toNat_ofNat, BitVec.toNat_ofNat, BitVec.toNat_ofNat, UInt8.toNat_xor, Nat.mod_eq_of_lt (a := x.toNat) (by omega), Nat.mod_eq_of_lt (a := y.toNat) (by omega)]
  have : x.toNat ^^^ y.toNat < 2 ^ 8 := Nat.xor_lt_two_pow hx hy
  rw [Nat.mod_eq_of_lt (by omega)]
theorem feed_xor : ∀ (a d : List UInt8) (r s : W32), a.length = d.length → feed (r ^^^ s) (xorL a d) = feed r a ^^^ feed s d
  | [], [], r, s, _ => rfl
  | x :: a, y :: d, r, s, h => by
    have ih := feed_xor a d (oct (r ^^^ cb x)) (oct (s ^^^ cb y)) (by simpa using h)
    show feed (oct ((r ^^^ s) ^^^ cb (x ^^^ y))) (xorL a d) = _
    have : (r ^^^ s) ^^^ cb (x ^^^ y) = (r ^^^ cb x) ^^^ (s ^^^ cb y) := by rw [cb_xor]; ac_rfl
    rw [this, oct_xor, ih]; rfl
  | [], y :: d, r, s, h => by simp at h
  | x :: a, [], r, s, h => by simp at h
/-- The sum of what was turned is none but for what wasn't turned within 32 neighbouring bits. -/
theorem burst (at' L k : Nat) (m : List Bool) (hm : m.length = L) (hL : L ≤ 32) : fb 0#32 (List.replicate at' false ++ (m ++ List.replicate k false)) = 0#32 ↔ ∀ b ∈ m, b = false := by
  rw [fb_app, fb_zero, fb_app, fb_rep, fb_bits m _ (by omega), BitVec.zero_xor, ← nb_zero]
  have hlt := nb_lt m
  have h32 : 2 ^ m.length ≤ 2 ^ 32 := Nat.pow_le_pow_right (by omega) (by omega)
  constructor
  · intro h
    have h1 := bits_inj0 _ (bits_inj0 _ h)
    have := congrArg BitVec.toNat h1
    rw [BitVec.toNat_ofNat, Nat.mod_eq_of_lt (by omega)] at this
    simpa using this
  · intro h
    rw [h, bits_zero, bits_zero]
end Go.Proofs.YtfilinonmngefaaDoor
