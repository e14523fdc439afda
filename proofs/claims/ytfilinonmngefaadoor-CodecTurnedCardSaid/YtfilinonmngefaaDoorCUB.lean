/- A frame with bits turned: what is opened of it. -/
import Derived.Test.YtfilinonmngefaaDoorCU
namespace Go.Proofs.YtfilinonmngefaaDoor
set_option linter.unusedSimpArgs false
set_option linter.unusedVariables false
open Go Go.Av
def wd (l : List UInt8) : W32 := BitVec.ofNat 32 (le l)
theorem feed_wd (l : List UInt8) (r : W32) (h : l.length ≤ 4) : feed r l = bits (8 * l.length) (r ^^^ wd l) := by
  rw [feed_fb, fb_bits _ _ (by rw [bitsOf_len]; omega), bitsOf_len, nb_bitsOf]; rfl
theorem xorL_len (a b : List UInt8) (h : a.length = b.length) : (xorL a b).length = a.length := by unfold xorL; rw [List.length_zipWith]; omega
theorem xor_cancel {x y : W32} (h : x ^^^ y = 0#32) : x = y := by
  have := congrArg (fun z => z ^^^ y) h
  simp only [BitVec.xor_assoc, BitVec.xor_self, BitVec.xor_zero, BitVec.zero_xor] at this
  exact this
theorem wd_xor (a b : List UInt8) (h : a.length = b.length) (h4 : a.length ≤ 4) : wd (xorL a b) = wd a ^^^ wd b := by
  have e := feed_xor a b 0#32 0#32 h
  rw [feed_wd _ _ (by rw [xorL_len _ _ h]; exact h4), feed_wd _ _ h4, feed_wd _ _ (by omega), xorL_len _ _ h, ← h, ← bits_xor] at e
  simp only [BitVec.zero_xor, BitVec.xor_self] at e
  refine xor_cancel (bits_inj0 (8 * a.length) ?_)
  rw [bits_xor, e, BitVec.xor_self]
theorem wd_le4 (n : Nat) (h : n < 4294967296) : wd (le4 n) = BitVec.ofNat 32 n := by unfold wd; rw [le_le4 n h]
/-- What was turned is not told just where its own sum is none. -/
theorem sum_turned (H l a s d1 d2 : List UInt8) (hl : l.length = d1.length) (hd : d2.length = 4) (ha : a = xorL l d1) (hs : s = xorL (le4 (crc (H ++ l))) d2) : s = le4 (crc (H ++ a)) ↔ feed 0#32 (d1 ++ d2) = 0#32 := by
  have hs4 : s.length = 4 := by rw [hs, xorL_len _ _ (by rw [le4_len, hd]), le4_len]
  have hc : crc (H ++ a) < 4294967296 := BitVec.isLt _
  have hc' : crc (H ++ l) < 4294967296 := BitVec.isLt _
  rw [← le_eq hs4 hc]
  have e1 : feed (BitVec.allOnes 32) (H ++ a) = feed (BitVec.allOnes 32) (H ++ l) ^^^ feed 0#32 d1 := by
    rw [feed_app, feed_app, ha, ← feed_xor l d1 _ _ hl, BitVec.xor_zero]
  have e2 : wd s = BitVec.ofNat 32 (crc (H ++ l)) ^^^ wd d2 := by rw [hs, wd_xor _ _ (by rw [le4_len, hd]) (by rw [le4_len]; omega), wd_le4 _ hc']
  have e3 : BitVec.ofNat 32 (crc (H ++ a)) = BitVec.ofNat 32 (crc (H ++ l)) ^^^ feed 0#32 d1 := by
    unfold crc
    rw [BitVec.ofNat_toNat, BitVec.ofNat_toNat, BitVec.setWidth_eq, BitVec.setWidth_eq, e1]
    rw [← BitVec.xor_allOnes (x := feed (BitVec.allOnes 32) (H ++ l) ^^^ feed 0#32 d1), ← BitVec.xor_allOnes (x := feed (BitVec.allOnes 32) (H ++ l))]
    ac_rfl
  have e4 : crc (H ++ a) = le s ↔ BitVec.ofNat 32 (crc (H ++ a)) = wd s := by
    unfold wd
    constructor
    · intro h; rw [h]
    · intro h
      have := congrArg BitVec.toNat h
      have hls := le_lt s
      rw [hs4] at hls
      rwa [BitVec.toNat_ofNat, BitVec.toNat_ofNat, Nat.mod_eq_of_lt (by omega), Nat.mod_eq_of_lt (by omega)] at this
  rw [e4, e3, e2, feed_app, feed_wd d2 _ (by omega)]
  generalize BitVec.ofNat 32 (crc (H ++ l)) = x
  generalize feed 0#32 d1 = y
  constructor
  · intro h
    have : y = wd d2 := by
      have := congrArg (fun z => x ^^^ z) h
      simp only [← BitVec.xor_assoc, BitVec.xor_self, BitVec.zero_xor] at this
      exact this
    rw [this, BitVec.xor_self, bits_zero]
  · intro h
    rw [xor_cancel (bits_inj0 _ h)]
/-! ### Places of bits -/
def bitAt (g : List UInt8) (p : Nat) : Bool := bt (g.getD (p / 8) 0) (p % 8)
theorem bitsOf_range : ∀ d : List UInt8, bitsOf d = (List.range (8 * d.length)).map (bitAt d)
  | [] => rfl
  | c :: r => by
    have ih := bitsOf_range r
    have hsh : ∀ p, bitAt (c :: r) (8 + p) = bitAt r p := fun p => by
      unfold bitAt
      rw [show (8 + p) / 8 = p / 8 + 1 by omega, show (8 + p) % 8 = p % 8 by omega]
      rfl
    rw [List.length_cons, show 8 * (r.length + 1) = 8 + 8 * r.length by omega, List.range_add, List.map_append, List.map_map]
    have e : ((bitAt (c :: r)) ∘ fun x => 8 + x) = bitAt r := funext hsh
    rw [e, ← ih]
    rfl
theorem bt_xor (x y : UInt8) (j : Nat) : bt (x ^^^ y) j = (bt x j ^^ bt y j) := by
  unfold bt; rw [UInt8.toNat_xor, Nat.testBit_xor]
theorem bitAt_xorL (a b : List UInt8) (h : a.length = b.length) (p : Nat) (hp : p < 8 * a.length) : bitAt (xorL a b) p = (bitAt a p ^^ bitAt b p) := by
  unfold bitAt xorL
  have h1 : p / 8 < a.length := by omega
  have h2 : p / 8 < b.length := by omega
  rw [← bt_xor]
  congr 1
  simp [List.getD_eq_getElem?_getD, List.getElem?_zipWith, h1, h2]
theorem xorL_back : ∀ (a b : List UInt8), a.length = b.length → xorL a (xorL a b) = b
  | [], [], _ => rfl
  | x :: a, y :: b, h => by
    have ih := xorL_back a b (by simpa using h)
    unfold xorL at ih ⊢
    rw [List.zipWith_cons_cons, List.zipWith_cons_cons, ih, ← UInt8.xor_assoc, UInt8.xor_self, UInt8.zero_xor]
  | [], y :: b, h => by simp at h
  | x :: a, [], h => by simp at h
theorem xorL_app (a b c d : List UInt8) (h : a.length = c.length) : xorL (a ++ b) (c ++ d) = xorL a c ++ xorL b d := by
  unfold xorL; rw [List.zipWith_append h]
def Sb (at' k m : Nat) (p : Nat) : Bool := decide (at' ≤ p ∧ p < at' + k) && m.testBit (p - at')
theorem range_S (at' m M : Nat) (h : at' < M) : (List.range M).map (Sb at' 32 m) = List.replicate at' false ++ ((List.range (min 32 (M - at'))).map (fun j => m.testBit j) ++ List.replicate (M - at' - min 32 (M - at')) false) := by
  generalize hL : min 32 (M - at') = L
  have hM : M = at' + (L + (M - at' - L)) := by omega
  conv => lhs; rw [hM, List.range_add, List.range_add, List.map_append, List.map_append, List.map_map, List.map_append, List.map_map, List.map_map]
  congr 1
  · rw [List.eq_replicate_iff]
    refine ⟨by simp, fun b hb => ?_⟩
    obtain ⟨p, hp, rfl⟩ := List.mem_map.1 hb
    have := List.mem_range.1 hp
    unfold Sb
    rw [decide_eq_false (by omega), Bool.false_and]
  · congr 1
    · refine List.map_congr_left fun p hp => ?_
      have := List.mem_range.1 hp
      simp only [Function.comp, Sb]
      rw [decide_eq_true (by omega), Bool.true_and, show at' + p - at' = p by omega]
    · rw [List.eq_replicate_iff]
      refine ⟨by simp, fun b hb => ?_⟩
      obtain ⟨p, hp, rfl⟩ := List.mem_map.1 hb
      have := List.mem_range.1 hp
      simp only [Function.comp, Sb]
      rw [decide_eq_false (by omega), Bool.false_and]
def turnd (at' k m M : Nat) : Bool := (List.range k).any fun j => m.testBit j && decide (at' + j < M)
theorem turnd_succ (at' k m M : Nat) : turnd at' (k + 1) m M = (turnd at' k m M || (m.testBit k && decide (at' + k < M))) := by
  unfold turnd; rw [List.range_succ, List.any_append]; simp
theorem turnd_any (at' m M : Nat) (h : at' < M) : turnd at' 32 m M = false ↔ ∀ b ∈ (List.range (min 32 (M - at'))).map (fun j => m.testBit j), b = false := by
  unfold turnd
  rw [List.any_eq_false]
  constructor
  · intro hh b hb
    obtain ⟨p, hp, rfl⟩ := List.mem_map.1 hb
    have hp := List.mem_range.1 hp
    have := hh p (List.mem_range.2 (by omega))
    rw [decide_eq_true (by omega), Bool.and_true] at this
    simpa using this
  · intro hh p hp
    have hp := List.mem_range.1 hp
    by_cases hM : at' + p < M
    · have := hh (m.testBit p) (List.mem_map.2 ⟨p, List.mem_range.2 (by omega), rfl⟩)
      rw [this]; simp
    · rw [decide_eq_false hM]; simp
/-- What is opened of a frame with bits turned behind its length. -/
theorem opR_turned (l body' : List UInt8) (hl : l.length ≤ 65536) (hb : body'.length = l.length + 4) (at' m : Nat) (hat : at' < 8 * (l.length + 4))
    (hS : ∀ p, p < 8 * (l.length + 4) → bitAt body' p = (bitAt (l ++ le4 (crc (enc (zz l.length) ++ l))) p ^^ Sb at' 32 m p)) :
    (opR (enc (zz l.length) ++ body') 0).1 = if turnd at' 32 m (8 * (l.length + 4)) then 4 else 0 := by
  have hln := lnR_back [] body' l.length 4 hl (by omega)
  rw [List.nil_append, List.length_nil] at hln
  generalize hH : enc (zz l.length) = H at hln hS ⊢
  generalize hbd : l ++ le4 (crc (H ++ l)) = body at hS
  have hbl : body.length = l.length + 4 := by rw [← hbd, List.length_append, le4_len]
  unfold opR
  rw [hln]
  unfold frR
  simp only [if_true, Nat.zero_add]
  have e1 : ((H ++ body').drop (H.length + l.length)).take 4 = body'.drop l.length := by
    rw [← List.drop_drop, drop_app, List.take_of_length_le (by rw [List.length_drop]; omega)]
  have e2 : ((H ++ body').take (H.length + l.length)).drop 0 = H ++ body'.take l.length := by
    rw [List.drop_zero, List.take_append, List.take_of_length_le (by omega)]
    congr 2; omega
  rw [e1, e2]
  have hd : xorL body (xorL body body') = body' := xorL_back _ _ (by omega)
  have hdl := xorL_len body body' (by omega)
  have hbits : bitsOf (xorL body body') = (List.range (8 * (l.length + 4))).map (Sb at' 32 m) := by
    rw [bitsOf_range, hdl, hbl]
    refine List.map_congr_left fun p hp => ?_
    have hp := List.mem_range.1 hp
    rw [bitAt_xorL _ _ (by omega) _ (by omega), hS p hp]
    cases bitAt body p <;> simp
  generalize xorL body body' = d at hd hdl hbits
  have hsp : d = d.take l.length ++ d.drop l.length := (List.take_append_drop ..).symm
  have hx : body' = xorL l (d.take l.length) ++ xorL (le4 (crc (H ++ l))) (d.drop l.length) := by
    rw [← hd, ← hbd]
    conv => lhs; rw [hsp]
    rw [xorL_app _ _ _ _ (by rw [List.length_take]; omega)]
  have hxl : (xorL l (d.take l.length)).length = l.length := xorL_len _ _ (by rw [List.length_take]; omega)
  have k1 : body'.take l.length = xorL l (d.take l.length) := by
    rw [hx]; exact List.take_left' hxl
  have k2 : body'.drop l.length = xorL (le4 (crc (H ++ l))) (d.drop l.length) := by
    rw [hx]; exact List.drop_left' hxl
  have key := sum_turned H l _ _ (d.take l.length) (d.drop l.length) (by rw [List.length_take]; omega) (by rw [List.length_drop]; omega) k1 k2
  rw [← hsp, feed_fb, hbits, range_S _ _ _ hat, burst at' (min 32 (8 * (l.length + 4) - at')) _ _ (by simp) (by omega), ← turnd_any _ _ _ hat] at key
  cases ht : turnd at' 32 m (8 * (l.length + 4)) with
  | true =>
    rw [if_neg (fun h => by have := key.1 h; rw [ht] at this; simp at this)]; rfl
  | false => rw [if_pos (key.2 ht)]; rfl
end Go.Proofs.YtfilinonmngefaaDoor
