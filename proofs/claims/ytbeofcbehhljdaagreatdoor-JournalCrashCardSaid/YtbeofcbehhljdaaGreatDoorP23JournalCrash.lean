/- Texts that the proof needs: WS CA. -/
import Derived.Test.YtbeofcbehhljdaaGreatDoorP13JournalCrash
import Derived.Test.YtbeofcbehhljdaaGreatDoorP17JournalCrash
import Derived.Test.YtbeofcbehhljdaaGreatDoorP20JournalCrash
import Derived.Test.YtbeofcbehhljdaaGreatDoorP22JournalCrash
import Derived.WalkKit
namespace Go.Proofs.YtbeofcbehhljdaaGreatDoor
open Go Go.Av
theorem wrapS (k n : Nat) (h : k < n) (hn : n <= 9223372036854775807) : IntKind.i64.wrap ((k : Int) + 1) = ((k + 1 : Nat) : Int) := by
 rw [wrap_id] <;> omega
end Go.Proofs.YtbeofcbehhljdaaGreatDoor
namespace Go.Proofs.YtbeofcbehhljdaaGreatDoor
set_option linter.unusedSimpArgs false
set_option linter.unusedVariables false
open Go Go.Av
def dcell (b : UInt8) : List PV := [.v (.int .u8 b.toNat)]
def by8 (l : List UInt8) : List (List PV) := l.map dcell
@[simp] theorem by8_len (l : List UInt8) : (by8 l).length = l.length := by simp [by8]
@[simp] theorem by8_getElem (l : List UInt8) (k : Nat) (h : k < (by8 l).length) : (by8 l)[k] = [.v (.int .u8 (l[k]'(by simpa using h)).toNat)] := by simp [by8, dcell]
theorem by8_get {l : List UInt8} {k : Nat} (h : k < l.length) : (by8 l)[k]? = some [.v (.int .u8 l[k].toNat)] := by simp [by8, h, dcell]
theorem by8_app (a b : List UInt8) : by8 a ++ by8 b = by8 (a ++ b) := by simp [by8]
theorem by8_snoc (l : List UInt8) (b : UInt8) (n : Int) (h : n = b.toNat) : by8 l ++ [[.v (.int .u8 n)]] = by8 (l ++ [b]) := by subst h; simp [by8, dcell]
theorem by8_take (l : List UInt8) (k : Nat) : (by8 l).take k = by8 (l.take k) := by simp [by8, List.map_take]
theorem by8_drop (l : List UInt8) (k : Nat) : (by8 l).drop k = by8 (l.drop k) := by simp [by8, List.map_drop]
theorem unL_by8 : ∀ l : List UInt8, unL (by8 l) = some (l.map fun b => (b.toNat : Int))
 | [] => rfl
 | b :: l => by
  show (match unL (by8 l) with | some ns => some ((b.toNat : Int) :: ns) | none => none) = _
  rw [unL_by8 l]; rfl
theorem push_bs (a : List UInt8) (b : UInt8) : (bs a).push (UInt8.ofNat (b.toNat : Int).toNat) = bs (a ++ [b]) := by
 have : UInt8.ofNat (b.toNat : Int).toNat = b := by simp
 rw [this]
 apply ByteArray.ext
 show a.toArray.push b = (a ++ [b]).toArray
 rw [List.push_toArray]
theorem strOf_by8 (l : List UInt8) : strOf (l.map fun b => (b.toNat : Int)) = bs l := by
 have key : ∀ (l a : List UInt8), (l.map fun b => (b.toNat : Int)).foldl (fun r n => r.push (UInt8.ofNat n.toNat)) (bs a) = bs (a ++ l) := by
  intro l
  induction l with
  | nil => intro a; rw [List.append_nil]; rfl
  | cons b l ih =>
   intro a
   rw [List.map_cons, List.foldl_cons, push_bs, ih, List.append_assoc]; rfl
 exact key l []
def okI (n : Int) : Prop := -9223372036854775808 <= n /\ n <= 9223372036854775807
theorem u64_wrap (a : Int) : IntKind.u64.wrap a = a % 18446744073709551616 := by simp [IntKind.wrap, IntKind.bits, IntKind.signed]
theorem u8_wrap (a : Int) : IntKind.u8.wrap a = a % 256 := by simp [IntKind.wrap, IntKind.bits, IntKind.signed]
theorem u32_wrap (a : Int) : IntKind.u32.wrap a = a % 4294967296 := by simp [IntKind.wrap, IntKind.bits, IntKind.signed]
theorem ofInt_nat (w : Nat) (n : Nat) : BitVec.ofInt w (n : Int) = BitVec.ofNat w n := by simp
def zz (n : Int) : Nat := if n < 0 then (-2 * n - 1).toNat else (2 * n).toNat
theorem zz_lt {n : Int} (h : okI n) : zz n < 18446744073709551616 := by unfold zz okI at *; split <;> omega
def unzz (u : Nat) : Int := if u % 2 = 1 then -((u / 2 : Nat) : Int) - 1 else ((u / 2 : Nat) : Int)
theorem unzz_zz (n : Int) : unzz (zz n) = n := by
 unfold zz unzz
 split <;> rename_i h <;> split <;> omega
theorem unzz_ok {u : Nat} (h : u < 18446744073709551616) : okI (unzz u) := by unfold unzz okI; split <;> omega
theorem zz_unzz (u : Nat) : zz (unzz u) = u := by
 unfold zz unzz
 split <;> rename_i h <;> split <;> omega
theorem xor_ones (x : Nat) (h : x < 18446744073709551616) : (BitVec.ofNat 64 x ^^^ BitVec.ofNat 64 18446744073709551615).toNat = 18446744073709551615 - x := by
 have e : BitVec.ofNat 64 18446744073709551615 = BitVec.allOnes 64 := by decide
 rw [e, BitVec.xor_allOnes, BitVec.toNat_not, BitVec.toNat_ofNat, Nat.mod_eq_of_lt (by omega)]
theorem zig {n : Int} (h : okI n) : IntKind.u64.wrap ((BitVec.ofInt IntKind.u64.bits (IntKind.u64.wrap (IntKind.u64.wrap n * 2 ^ min 1 IntKind.u64.bits)) ^^^ BitVec.ofInt IntKind.u64.bits (IntKind.u64.wrap (n.fdiv (2 ^ min 63 IntKind.i64.bits)))).toNat : Int) = (zz n : Int) := by
 obtain ⟨h0, h1⟩ := h
 unfold zz
 show IntKind.u64.wrap ((BitVec.ofInt 64 (IntKind.u64.wrap (IntKind.u64.wrap n * 2)) ^^^ BitVec.ofInt 64 (IntKind.u64.wrap (n.fdiv 9223372036854775808))).toNat : Int) = _
 have e1 : n.fdiv 9223372036854775808 = n / 9223372036854775808 := by rw [Int.fdiv_eq_ediv_of_nonneg _ (by omega)]
 rw [e1]
 by_cases hn : n < 0
 ·rw [if_pos hn]
  have e2 : IntKind.u64.wrap (n / 9223372036854775808) = ((18446744073709551615 : Nat) : Int) := by rw [u64_wrap]; omega
  have e3 : IntKind.u64.wrap (IntKind.u64.wrap n * 2) = ((2 * n + 18446744073709551616).toNat : Int) := by rw [u64_wrap, u64_wrap]; omega
  rw [e2, e3, ofInt_nat, ofInt_nat, xor_ones _ (by omega), u64_wrap]
  omega
 ·rw [if_neg hn]
  have e2 : IntKind.u64.wrap (n / 9223372036854775808) = ((0 : Nat) : Int) := by rw [u64_wrap]; omega
  have e3 : IntKind.u64.wrap (IntKind.u64.wrap n * 2) = ((2 * n).toNat : Int) := by rw [u64_wrap, u64_wrap]; omega
  rw [e2, e3, ofInt_nat, ofInt_nat]
  simp only [BitVec.ofNat_eq_ofNat, BitVec.xor_zero, BitVec.toNat_ofNat]
  rw [u64_wrap]
  omega
def enc (u : Nat) : List UInt8 := if u < 128 then [UInt8.ofNat u] else UInt8.ofNat (u % 128 + 128) :: enc (u / 128)
termination_by u
decreasing_by omega
theorem enc_small {u : Nat} (h : u < 128) : enc u = [UInt8.ofNat u] := by rw [enc, if_pos h]
theorem enc_big {u : Nat} (h : ¬ u < 128) : enc u = UInt8.ofNat (u % 128 + 128) :: enc (u / 128) := by rw [enc, if_neg h]
theorem or128 (x : Nat) (h : x < 256) : (BitVec.ofNat 8 x ||| BitVec.ofNat 8 128).toNat = x % 128 + 128 := by
 have : ∀ x : Fin 256, (BitVec.ofNat 8 x.val ||| BitVec.ofNat 8 128).toNat = x.val % 128 + 128 := by decide +kernel
 exact this ⟨x, h⟩
theorem and127 (x : Nat) (h : x < 256) : (BitVec.ofNat 8 x &&& BitVec.ofNat 8 127).toNat = x % 128 := by
 have : ∀ x : Fin 256, (BitVec.ofNat 8 x.val &&& BitVec.ofNat 8 127).toNat = x.val % 128 := by decide +kernel
 exact this ⟨x, h⟩
theorem u8_toNat (x : Nat) (h : x < 256) : (UInt8.ofNat x).toNat = x := by rw [UInt8.toNat_ofNat']; omega
theorem enc_len : ∀ (k u : Nat), u < 128 ^ (k + 1) -> (enc u).length <= k + 1
 | 0, u, h => by rw [enc_small (by simpa using h)]; simp
 | k + 1, u, h => by
  by_cases hu : u < 128
  ·rw [enc_small hu]; simp
  ·rw [enc_big hu]
   have := enc_len k (u / 128) (by rw [Nat.div_lt_iff_lt_mul (by omega), <- Nat.pow_succ]; exact h)
   simp; omega
theorem enc_len10 {u : Nat} (h : u < 18446744073709551616) : (enc u).length <= 10 := enc_len 9 u (Nat.lt_of_lt_of_le h (by decide))
end Go.Proofs.YtbeofcbehhljdaaGreatDoor
