/- Texts that the proof needs: WS CA CB TryA Try CC CD CE CES. -/
import Derived.Test.YtleejpddecjhcaaP12RecordHears
import Derived.Test.YtleejpddecjhcaaP16RecordHears
import Derived.Test.YtleejpddecjhcaaP17RecordHears
import Derived.Test.YtleejpddecjhcaaP18RecordHears
import Derived.WalkKit
import Derived.Test.YtleejpddecjhcaaP14RecordHears
import Derived.Defers
import Derived.Recover
namespace Go.Proofs.Ytleejpddecjhcaa
open Go Go.Av
theorem wrapS (k n : Nat) (h : k < n) (hn : n <= 9223372036854775807) : IntKind.i64.wrap ((k : Int) + 1) = ((k + 1 : Nat) : Int) := by
 rw [wrap_id] <;> omega
end Go.Proofs.Ytleejpddecjhcaa
namespace Go.Proofs.Ytleejpddecjhcaa
set_option linter.unusedSimpArgs false
set_option linter.unusedVariables false
open Go Go.Av
def dcell (b : UInt8) : List PV := [.v (.int .u8 b.toNat)]
def by8 (l : List UInt8) : List (List PV) := l.map dcell
@[simp] theorem by8_len (l : List UInt8) : (by8 l).length = l.length := by simp [by8]
@[simp] theorem by8_getElem (l : List UInt8) (k : Nat) (h : k < (by8 l).length) : (by8 l)[k] = [.v (.int .u8 (l[k]'(by simpa using h)).toNat)] := by simp [by8, dcell]
theorem by8_get {l : List UInt8} {k : Nat} (h : k < l.length) : (by8 l)[k]? = some [.v (.int .u8 l[k].toNat)] := by simp [by8, h, dcell]
theorem by8_app (a b : List UInt8) : by8 a ++ by8 b = by8 (a ++ b) := by simp [by8]
theorem by8_snoc (l : List UInt8) (b : UInt8) (n : Int) (h : n = b.toNat) : by8 l ++ [[.v (.int .u8 n)]] = by8 (l ++ [b]) := by subst h; simp [by8, dcell]
theorem by8_take (l : List UInt8) (k : Nat) : (by8 l).take k = by8 (l.take k) := by simp [by8, List.map_take]
theorem by8_drop (l : List UInt8) (k : Nat) : (by8 l).drop k = by8 (l.drop k) := by simp [by8, List.map_drop]
theorem unL_by8 : ∀ l : List UInt8, unL (by8 l) = some (l.map fun b => (b.toNat : Int))
 | [] => rfl
 | b :: l => by
  show (match unL (by8 l) with | some ns => some ((b.toNat : Int) :: ns) | none => none) = _
  rw [unL_by8 l]; rfl
theorem push_bs (a : List UInt8) (b : UInt8) : (bs a).push (UInt8.ofNat (b.toNat : Int).toNat) = bs (a ++ [b]) := by
 have : UInt8.ofNat (b.toNat : Int).toNat = b := by simp
 rw [this]
 apply ByteArray.ext
 show a.toArray.push b = (a ++ [b]).toArray
 rw [List.push_toArray]
theorem strOf_by8 (l : List UInt8) : strOf (l.map fun b => (b.toNat : Int)) = bs l := by
 have key : ∀ (l a : List UInt8), (l.map fun b => (b.toNat : Int)).foldl (fun r n => r.push (UInt8.ofNat n.toNat)) (bs a) = bs (a ++ l) := by
  intro l
  induction l with
  | nil => intro a; rw [List.append_nil]; rfl
  | cons b l ih =>
   intro a
   rw [List.map_cons, List.foldl_cons, push_bs, ih, List.append_assoc]; rfl
 exact key l []
def okI (n : Int) : Prop := -9223372036854775808 <= n /\ n <= 9223372036854775807
theorem u64_wrap (a : Int) : IntKind.u64.wrap a = a % 18446744073709551616 := by simp [IntKind.wrap, IntKind.bits, IntKind.signed]
theorem u8_wrap (a : Int) : IntKind.u8.wrap a = a % 256 := by simp [IntKind.wrap, IntKind.bits, IntKind.signed]
theorem ofInt_nat (w : Nat) (n : Nat) : BitVec.ofInt w (n : Int) = BitVec.ofNat w n := by simp
def zz (n : Int) : Nat := if n < 0 then (-2 * n - 1).toNat else (2 * n).toNat
theorem zz_lt {n : Int} (h : okI n) : zz n < 18446744073709551616 := by unfold zz okI at *; split <;> omega
def unzz (u : Nat) : Int := if u % 2 = 1 then -((u / 2 : Nat) : Int) - 1 else ((u / 2 : Nat) : Int)
theorem unzz_ok {u : Nat} (h : u < 18446744073709551616) : okI (unzz u) := by unfold unzz okI; split <;> omega
theorem zz_unzz (u : Nat) : zz (unzz u) = u := by
 unfold zz unzz
 split <;> rename_i h <;> split <;> omega
theorem xor_ones (x : Nat) (h : x < 18446744073709551616) : (BitVec.ofNat 64 x ^^^ BitVec.ofNat 64 18446744073709551615).toNat = 18446744073709551615 - x := by
 have e : BitVec.ofNat 64 18446744073709551615 = BitVec.allOnes 64 := by decide
 rw [e, BitVec.xor_allOnes, BitVec.toNat_not, BitVec.toNat_ofNat, Nat.mod_eq_of_lt (by omega)]
theorem zig {n : Int} (h : okI n) : IntKind.u64.wrap ((BitVec.ofInt IntKind.u64.bits (IntKind.u64.wrap (IntKind.u64.wrap n * 2 ^ min 1 IntKind.u64.bits)) ^^^ BitVec.ofInt IntKind.u64.bits (IntKind.u64.wrap (n.fdiv (2 ^ min 63 IntKind.i64.bits)))).toNat : Int) = (zz n : Int) := by
 obtain ⟨h0, h1⟩ := h
 unfold zz
 show IntKind.u64.wrap ((BitVec.ofInt 64 (IntKind.u64.wrap (IntKind.u64.wrap n * 2)) ^^^ BitVec.ofInt 64 (IntKind.u64.wrap (n.fdiv 9223372036854775808))).toNat : Int) = _
 have e1 : n.fdiv 9223372036854775808 = n / 9223372036854775808 := by rw [Int.fdiv_eq_ediv_of_nonneg _ (by omega)]
 rw [e1]
 by_cases hn : n < 0
 ·rw [if_pos hn]
  have e2 : IntKind.u64.wrap (n / 9223372036854775808) = ((18446744073709551615 : Nat) : Int) := by rw [u64_wrap]; omega
  have e3 : IntKind.u64.wrap (IntKind.u64.wrap n * 2) = ((2 * n + 18446744073709551616).toNat : Int) := by rw [u64_wrap, u64_wrap]; omega
  rw [e2, e3, ofInt_nat, ofInt_nat, xor_ones _ (by omega), u64_wrap]
  omega
 ·rw [if_neg hn]
  have e2 : IntKind.u64.wrap (n / 9223372036854775808) = ((0 : Nat) : Int) := by rw [u64_wrap]; omega
  have e3 : IntKind.u64.wrap (IntKind.u64.wrap n * 2) = ((2 * n).toNat : Int) := by rw [u64_wrap, u64_wrap]; omega
  rw [e2, e3, ofInt_nat, ofInt_nat]
  simp only [BitVec.ofNat_eq_ofNat, BitVec.xor_zero, BitVec.toNat_ofNat]
  rw [u64_wrap]
  omega
def enc (u : Nat) : List UInt8 := if u < 128 then [UInt8.ofNat u] else UInt8.ofNat (u % 128 + 128) :: enc (u / 128)
termination_by u
decreasing_by omega
theorem enc_small {u : Nat} (h : u < 128) : enc u = [UInt8.ofNat u] := by rw [enc, if_pos h]
theorem enc_big {u : Nat} (h : ¬ u < 128) : enc u = UInt8.ofNat (u % 128 + 128) :: enc (u / 128) := by rw [enc, if_neg h]
theorem or128 (x : Nat) (h : x < 256) : (BitVec.ofNat 8 x ||| BitVec.ofNat 8 128).toNat = x % 128 + 128 := by
 have : ∀ x : Fin 256, (BitVec.ofNat 8 x.val ||| BitVec.ofNat 8 128).toNat = x.val % 128 + 128 := by decide +kernel
 exact this ⟨x, h⟩
theorem and127 (x : Nat) (h : x < 256) : (BitVec.ofNat 8 x &&& BitVec.ofNat 8 127).toNat = x % 128 := by
 have : ∀ x : Fin 256, (BitVec.ofNat 8 x.val &&& BitVec.ofNat 8 127).toNat = x.val % 128 := by decide +kernel
 exact this ⟨x, h⟩
theorem and127_64 (x : Nat) : (BitVec.ofNat 64 x &&& BitVec.ofNat 64 127).toNat = x % 128 := by
 rw [BitVec.toNat_and, BitVec.toNat_ofNat, BitVec.toNat_ofNat, show 127 % 2 ^ 64 = 2 ^ 7 - 1 from rfl, Nat.and_two_pow_sub_one_eq_mod]
 omega
theorem u8_toNat (x : Nat) (h : x < 256) : (UInt8.ofNat x).toNat = x := by rw [UInt8.toNat_ofNat']; omega
theorem enc_len : ∀ (k u : Nat), u < 128 ^ (k + 1) -> (enc u).length <= k + 1
 | 0, u, h => by rw [enc_small (by simpa using h)]; simp
 | k + 1, u, h => by
  by_cases hu : u < 128
  ·rw [enc_small hu]; simp
  ·rw [enc_big hu]
   have := enc_len k (u / 128) (by rw [Nat.div_lt_iff_lt_mul (by omega), <- Nat.pow_succ]; exact h)
   simp; omega
theorem enc_len10 {u : Nat} (h : u < 18446744073709551616) : (enc u).length <= 10 := enc_len 9 u (Nat.lt_of_lt_of_le h (by decide))
theorem enc_pos (u : Nat) : 1 <= (enc u).length := by rw [enc]; split <;> simp
end Go.Proofs.Ytleejpddecjhcaa
namespace Go.Proofs.Ytleejpddecjhcaa
set_option linter.unusedSimpArgs false
set_option linter.unusedVariables false
open Go Go.Av
attribute [local irreducible] Go.Av.CallK Go.Av.CallE Go.Av.CallQ Go.Av.CallF Go.Av.CallR Go.Av.CallH Go.Av.Con
abbrev BCon (g : FuncId) (args : List V) (l : List UInt8) : Prop := Con Try.prog g args [] (.ret (.row 2048) [.row 5 1 (by8 l)] [])
theorem roomy_con (b : List UInt8) (n : Nat) (h : b.length + n <= 1000000000) : BCon 142 [.p (.sl 1 (by8 b)), .p (I n)] b := by
 have hw : IntKind.i64.wrap ((b.length : Int) + (n : Int)) = ((b.length + n : Nat) : Int) := by rw [wrap_id (by omega) (by omega)]; omega
 have h1 : (0 : Int) <= ((b.length + n : Nat) : Int) := by omega
 generalize hz : ((b.length + n : Nat) : Int) = z at hw h1
 have h2 : z <= 281474976710656 := by omega
 have h3 : z <= 9223372036854775807 := by omega
 refine wBodyR Try.tab Try.mixed Try.func142 rfl rfl Try.ntmps142 rfl (by simp) (by simp) fun Q hr hn => ?_
 repeat' first | (refine And.intro (by (try simp only [by8_len]); omega) ?_) | (rw [if_pos ⟨by omega, by omega⟩]) | (refine hK _ ?_; clear hK) | (refine hK _ _ ?_; clear hK) | (clear hK; refine hK _ ?_; clear hK) | (clear hK; clear hK; refine hK _ ?_; clear hK) | (clear hK; clear hK; clear hK; refine hK _ ?_; clear hK) | (clear hK; clear hK; clear hK; clear hK; refine hK _ ?_; clear hK) | (refine wSeq fun K hK => ?_) | ((first | refine wReg ?_ | refine wDrwQ rfl (by kernel_rfl) ?_ | refine wDrwI ?_ | refine wDrw (by kernel_rfl) ?_); simp only [List.map_cons, List.map_nil, strip]) | ((first | refine wIs fun K hK => ?_ | refine wOs fun K hK => ?_ | refine wQs fun K hK => ?_ | refine CallK_plain ?_ | refine CallQ_plain ?_ | refine CallR_plain ?_ | refine wCond ?_); simp [hw, h1, h2, h3]) | (refine wIn ?_; refine And.intro (by kernel_rfl) ?_; try simp only [thenA_n]) | (first | refine wBlock ?_ | refine wScope ?_) | ((first | refine wRet ?_ | refine wExit ?_ | refine wSkip ?_); try simp) | ((first | refine wLabel ?_ | refine wOn ?_ | refine wQn ?_); try simp only [thenA_n])
 all_goals refine hr _ 9 ?_ ?_ (by omega)
 all_goals simp [Try.f142]
theorem or_fact (u : Nat) (h : u < 18446744073709551616) : IntKind.u8.wrap ((BitVec.ofInt IntKind.u8.bits (IntKind.u8.wrap (u : Int)) ||| BitVec.ofInt IntKind.u8.bits 128).toNat : Int) = ((UInt8.ofNat (u % 128 + 128)).toNat : Int) := by
 have e1 : IntKind.u8.wrap (u : Int) = ((u % 256 : Nat) : Int) := by rw [u8_wrap]; omega
 rw [e1]
 show IntKind.u8.wrap ((BitVec.ofInt 8 ((u % 256 : Nat) : Int) ||| BitVec.ofNat 8 128).toNat : Int) = _
 rw [ofInt_nat]
 have := or128 (u % 256) (by omega)
 rw [this, u8_toNat _ (by omega), u8_wrap]
 omega
theorem shr7 (u : Nat) : (u : Int).fdiv (2 ^ min 7 IntKind.u64.bits) = ((u / 128 : Nat) : Int) := by
 show (u : Int).fdiv 128 = _
 rw [Int.fdiv_eq_ediv_of_nonneg _ (by omega)]; omega
theorem u8_small (u : Nat) (h : u < 128) : IntKind.u8.wrap (u : Int) = ((UInt8.ofNat u).toNat : Int) := by rw [u8_wrap, u8_toNat _ (by omega)]; omega
theorem layInt_con (b : List UInt8) (n : Int) (hn : okI n) (h : b.length <= 1000000000) : Con Try.prog 141 [.row 1024, .p (I n)] [.row 5 1 (by8 b)] (.ret (.row 1024) [] [.row 5 1 (by8 (b ++ enc (zz n)))]) := by
 have hz := zig hn
 simp at hz
 have hlt := zz_lt hn
 generalize zz n = z at hz hlt ⊢
 refine wBodyG Try.tab Try.mixed Try.func141 rfl rfl Try.ntmps141 (by simp) (by simp) fun Q hr hn hp => ?_
 repeat' first | (refine hK _ ?_; clear hK) | (refine hK _ _ ?_; clear hK) | (clear hK; refine hK _ ?_; clear hK) | (clear hK; clear hK; refine hK _ ?_; clear hK) | (clear hK; clear hK; clear hK; refine hK _ ?_; clear hK) | (clear hK; clear hK; clear hK; clear hK; refine hK _ ?_; clear hK) | (refine wSeq fun K hK => ?_) | ((first | refine wReg ?_ | refine wDrwQ rfl (by kernel_rfl) ?_ | refine wDrwI ?_ | refine wDrw (by kernel_rfl) ?_); simp only [List.map_cons, List.map_nil, strip]) | ((first | refine wIs fun K hK => ?_ | refine wOs fun K hK => ?_ | refine wQs fun K hK => ?_ | refine CallK_plain ?_ | refine CallQ_plain ?_ | refine CallR_plain ?_ | refine wCond ?_); simp [hz]) | (refine wIn ?_; refine And.intro (by kernel_rfl) ?_; try simp only [thenA_n]) | (first | refine wBlock ?_ | refine wScope ?_) | ((first | refine wRet ?_ | refine wExit ?_ | refine wSkip ?_); try simp) | ((first | refine wLabel ?_ | refine wOn ?_ | refine wQn ?_); try simp only [thenA_n])
 refine wLoop (fun N st => ∃ k u pre, k + N = 10 /\ st.s 0 = .row 1024 /\ st.s 5 = .p (.v (.int .u64 (u : Nat))) /\ st.s 13 = .p (I k) /\ st.b 1024 = some (.row 5 1 (by8 (b ++ pre))) /\ pre ++ enc u = enc z /\ pre.length = k /\ u * 128 ^ k < 18446744073709551616) 10 ⟨0, z, [], by simp [hz, hlt]⟩ fun K N st hL ⟨k, u, pre, hk, g0, g5, g13, b0, he, hp, hu⟩ => ?_
 have hu64 : u < 18446744073709551616 := Nat.lt_of_le_of_lt (Nat.le_mul_of_pos_right u (Nat.pow_pos (by omega))) hu
 have last : u < 128 -> by8 (b ++ pre) ++ [[.v (.int .u8 (IntKind.u8.wrap (u : Int)))]] = by8 (b ++ enc z) := fun h => by
  rw [by8_snoc _ (UInt8.ofNat u) _ (u8_small u h), <- he, enc_small h, List.append_assoc]
 by_cases hkl : k < 10
 ·have hkl' : (k : Int) < 10 := by omega
  have hw := wrapS k 10 hkl (by omega)
  by_cases o : u < 128
  ·have o' : (u : Int) < 128 := by omega
   have hl := last o
   repeat' first | (refine And.intro (by omega) ?_) | (refine hK _ ?_; clear hK) | (refine hK _ _ ?_; clear hK) | (clear hK; refine hK _ ?_; clear hK) | (clear hK; clear hK; refine hK _ ?_; clear hK) | (clear hK; clear hK; clear hK; refine hK _ ?_; clear hK) | (clear hK; clear hK; clear hK; clear hK; refine hK _ ?_; clear hK) | (refine wSeq fun K hK => ?_) | ((first | refine wReg ?_ | refine wDrwQ rfl (by kernel_rfl) ?_ | refine wDrwI ?_ | refine wDrw (by kernel_rfl) ?_); simp only [List.map_cons, List.map_nil, strip]) | ((first | refine wIs fun K hK => ?_ | refine wOs fun K hK => ?_ | refine wQs fun K hK => ?_ | refine CallK_plain ?_ | refine CallQ_plain ?_ | refine CallR_plain ?_ | refine wCond ?_); simp [g0, g5, g13, b0, hkl, hkl', hw, o, o']) | (refine wIn ?_; refine And.intro (by kernel_rfl) ?_; try simp only [thenA_n]) | (first | refine wBlock ?_ | refine wScope ?_) | ((first | refine wRet ?_ | refine wExit ?_ | refine wSkip ?_); try simp) | ((first | refine wLabel ?_ | refine wOn ?_ | refine wQn ?_); try simp only [thenA_n])
   all_goals apply hr
   all_goals refine ⟨[], by simp, by simp, ?_⟩
   all_goals simp [Try.f141, outR, outB, renB, gaN, hl]
  ·have o' : ¬ (u : Int) < 128 := by omega
   have hor := or_fact u hu64
   have hb := enc_big o
   generalize UInt8.ofNat (u % 128 + 128) = c at hor hb
   simp at hor
   have hsh := shr7 u
   simp at hsh
   have hx := by8_snoc (b ++ pre) c _ rfl
   rw [List.append_assoc] at hx
   repeat' first | (refine And.intro (by omega) ?_) | (refine hK _ ?_; clear hK) | (refine hK _ _ ?_; clear hK) | (clear hK; refine hK _ ?_; clear hK) | (clear hK; clear hK; refine hK _ ?_; clear hK) | (clear hK; clear hK; clear hK; refine hK _ ?_; clear hK) | (clear hK; clear hK; clear hK; clear hK; refine hK _ ?_; clear hK) | (refine wSeq fun K hK => ?_) | ((first | refine wReg ?_ | refine wDrwQ rfl (by kernel_rfl) ?_ | refine wDrwI ?_ | refine wDrw (by kernel_rfl) ?_); simp only [List.map_cons, List.map_nil, strip]) | ((first | refine wIs fun K hK => ?_ | refine wOs fun K hK => ?_ | refine wQs fun K hK => ?_ | refine CallK_plain ?_ | refine CallQ_plain ?_ | refine CallR_plain ?_ | refine wCond ?_); simp [g0, g5, g13, b0, hkl, hkl', hw, o, o', hor, hsh]) | (refine wIn ?_; refine And.intro (by kernel_rfl) ?_; try simp only [thenA_n]) | (first | refine wBlock ?_ | refine wScope ?_) | ((first | refine wRet ?_ | refine wExit ?_ | refine wSkip ?_); try simp) | ((first | refine wLabel ?_ | refine wOn ?_ | refine wQn ?_); try simp only [thenA_n])
   refine hL _ (N - 1) (by omega) ⟨k + 1, u / 128, pre ++ [c], by omega, ?_⟩
   simp [g0, g5, g13, b0, hw, hor, hsh, hx, hp]
   refine ⟨by rw [<- he, hb], Nat.lt_of_le_of_lt ?_ hu⟩
   rw [Nat.pow_succ, Nat.mul_comm (128 ^ k), <- Nat.mul_assoc]
   exact Nat.mul_le_mul_right _ (Nat.div_mul_le_self u 128)
 ·have hk10 : k = 10 := by omega
  subst hk10
  have o : u < 128 := by omega
  have hl := last o
  repeat' first | (refine And.intro (by omega) ?_) | (refine hK _ ?_; clear hK) | (refine hK _ _ ?_; clear hK) | (clear hK; refine hK _ ?_; clear hK) | (clear hK; clear hK; refine hK _ ?_; clear hK) | (clear hK; clear hK; clear hK; refine hK _ ?_; clear hK) | (clear hK; clear hK; clear hK; clear hK; refine hK _ ?_; clear hK) | (refine wSeq fun K hK => ?_) | ((first | refine wReg ?_ | refine wDrwQ rfl (by kernel_rfl) ?_ | refine wDrwI ?_ | refine wDrw (by kernel_rfl) ?_); simp only [List.map_cons, List.map_nil, strip]) | ((first | refine wIs fun K hK => ?_ | refine wOs fun K hK => ?_ | refine wQs fun K hK => ?_ | refine CallK_plain ?_ | refine CallQ_plain ?_ | refine CallR_plain ?_ | refine wCond ?_); simp [g0, g5, g13, b0]) | (refine wIn ?_; refine And.intro (by kernel_rfl) ?_; try simp only [thenA_n]) | (first | refine wBlock ?_ | refine wScope ?_) | ((first | refine wRet ?_ | refine wExit ?_ | refine wSkip ?_); try simp) | ((first | refine wLabel ?_ | refine wOn ?_ | refine wQn ?_); try simp only [thenA_n])
  all_goals apply hr
  all_goals refine ⟨[], by simp, by simp, ?_⟩
  all_goals simp [Try.f141, outR, outB, renB, gaN, hl]
theorem putInt_con (b : List UInt8) (n : Int) (hn : okI n) (h : b.length <= 100000000) : BCon 125 [.p (.sl 1 (by8 b)), .p (I n)] (b ++ enc (zz n)) := by
 have c1 := roomy_con b 10 (by omega)
 have c2 := layInt_con b n hn (by omega)
 simp at c1
 refine wBodyR Try.tab Try.mixed Try.func125 rfl rfl Try.ntmps125 rfl (by simp) (by simp) fun Q hr hn => ?_
 repeat' first | (refine CallK_gen [6] c2 (by decide) (by decide) (by simp [blksOf, inN, pos, renB, ren0]) (by simp [argsG, argG, ren0, inN, pos, renCs, renC]) ⟨[], by simp, by simp, ?_⟩; simp [lv, ouN, kpI, kpR, pos, ren, ren0, renB, renC, renCs]) | (refine hK _ ?_; clear hK) | (refine hK _ _ ?_; clear hK) | (clear hK; refine hK _ ?_; clear hK) | (clear hK; clear hK; refine hK _ ?_; clear hK) | (clear hK; clear hK; clear hK; refine hK _ ?_; clear hK) | (clear hK; clear hK; clear hK; clear hK; refine hK _ ?_; clear hK) | (refine wSeq fun K hK => ?_) | ((first | refine wReg ?_ | refine wDrwQ rfl (by kernel_rfl) ?_ | refine wDrwI ?_ | refine wDrw (by kernel_rfl) ?_); simp only [List.map_cons, List.map_nil, strip]) | ((first | refine wIs fun K hK => ?_ | refine wOs fun K hK => ?_ | refine wQs fun K hK => ?_ | refine CallK_plain ?_ | refine CallQ_plain ?_ | refine CallR_plain ?_ | refine wCond ?_); simp) | (refine wIn ?_; refine And.intro (by kernel_rfl) ?_; try simp only [thenA_n]) | (first | refine wBlock ?_ | refine wScope ?_) | ((first | refine wRet ?_ | refine wExit ?_ | refine wSkip ?_); try simp) | ((first | refine wLabel ?_ | refine wOn ?_ | refine wQn ?_); try simp only [thenA_n]) | (refine CallE.pure (c1) rfl ?_) | (refine CallE.lent (c1) rfl ?_) | (refine CallF.pure (c1) rfl ?_) | (refine CallF.lent (c1) rfl ?_) | (refine CallE.own (c1) ?_) | (refine CallH.pure (c1) rfl ?_) | (refine CallH.lent (c1) rfl ?_) | (refine CallH.own (c1) ?_)
 all_goals refine hr _ 6 ?_ ?_ (by omega)
 all_goals simp [Try.f125]
theorem and_fact (u : Nat) (h : u < 18446744073709551616) : IntKind.u64.wrap ((BitVec.ofInt IntKind.u64.bits (u : Int) &&& BitVec.ofInt IntKind.u64.bits 127).toNat : Int) = ((u % 128 : Nat) : Int) := by
 show IntKind.u64.wrap ((BitVec.ofInt 64 (u : Int) &&& BitVec.ofNat 64 127).toNat : Int) = _
 rw [ofInt_nat, and127_64, u64_wrap]; omega
theorem or_fact2 (x : Nat) (h : x < 128) : IntKind.u8.wrap ((BitVec.ofInt IntKind.u8.bits (IntKind.u8.wrap (x : Int)) ||| BitVec.ofInt IntKind.u8.bits 128).toNat : Int) = ((UInt8.ofNat (x + 128)).toNat : Int) := by
 have := or_fact x (by omega)
 rw [this, Nat.mod_eq_of_lt h]
theorem not64 (u : Nat) (h : u < 18446744073709551616) : IntKind.u64.wrap ((BitVec.ofInt IntKind.u64.bits (if IntKind.u64.signed = true then -1 else IntKind.u64.max) ^^^ BitVec.ofInt IntKind.u64.bits (u : Int)).toNat : Int) = ((18446744073709551615 - u : Nat) : Int) := by
 show IntKind.u64.wrap ((BitVec.ofInt 64 ((18446744073709551615 : Nat) : Int) ^^^ BitVec.ofInt 64 (u : Int)).toNat : Int) = _
 rw [ofInt_nat, ofInt_nat, BitVec.xor_comm, xor_ones u h, u64_wrap]; omega
theorem shl1 (n : Int) (hn : okI n) : IntKind.u64.wrap (IntKind.u64.wrap n * 2 ^ min 1 IntKind.u64.bits) = ((2 * n % 18446744073709551616).toNat : Int) := by
 obtain ⟨h0, h1⟩ := hn
 show IntKind.u64.wrap (IntKind.u64.wrap n * 2) = _
 rw [u64_wrap, u64_wrap]; omega
theorem putInt01_con (b : List UInt8) (n : Int) (hn : okI n) (h : b.length <= 100000000) : BCon 42 [.p (.sl 1 (by8 b)), .p (I n)] (b ++ enc (zz n)) := by
 have hlt := zz_lt hn
 have h1 := shl1 n hn
 have hzz : zz n = if n < 0 then 18446744073709551615 - (2 * n % 18446744073709551616).toNat else (2 * n % 18446744073709551616).toNat := by
  obtain ⟨h0, h1⟩ := hn
  unfold zz
  split <;> omega
 have hm : (2 * n % 18446744073709551616).toNat < 18446744073709551616 := by omega
 generalize (2 * n % 18446744073709551616).toNat = y at h1 hzz hm
 have h2 := not64 y hm
 generalize zz n = z at hlt hzz ⊢
 simp at h1 h2
 refine wBodyR Try.tab Try.mixed Try.func42 rfl rfl Try.ntmps42 rfl (by simp) (by simp) fun Q hr hn => ?_
 by_cases o : n < 0
 all_goals first | rw [if_pos o] at hzz | rw [if_neg o] at hzz
 all_goals
  repeat' first | (refine And.intro (by omega) (Or.inl ?_)) | (refine And.intro (by omega) ?_) | (refine hK _ ?_; clear hK) | (refine hK _ _ ?_; clear hK) | (clear hK; refine hK _ ?_; clear hK) | (clear hK; clear hK; refine hK _ ?_; clear hK) | (clear hK; clear hK; clear hK; refine hK _ ?_; clear hK) | (clear hK; clear hK; clear hK; clear hK; refine hK _ ?_; clear hK) | (refine wSeq fun K hK => ?_) | ((first | refine wReg ?_ | refine wDrwQ rfl (by kernel_rfl) ?_ | refine wDrwI ?_ | refine wDrw (by kernel_rfl) ?_); simp only [List.map_cons, List.map_nil, strip]) | ((first | refine wIs fun K hK => ?_ | refine wOs fun K hK => ?_ | refine wQs fun K hK => ?_ | refine CallK_plain ?_ | refine CallQ_plain ?_ | refine CallR_plain ?_ | refine wCond ?_); simp [o, h1, h2]) | (refine wIn ?_; refine And.intro (by kernel_rfl) ?_; try simp only [thenA_n]) | (first | refine wBlock ?_ | refine wScope ?_) | ((first | refine wRet ?_ | refine wExit ?_ | refine wSkip ?_); try simp) | ((first | refine wLabel ?_ | refine wOn ?_ | refine wQn ?_); try simp only [thenA_n])
  refine wLoop (fun N st => ∃ k u pre, k + N = 10 /\ st.s 6 = .row 16 /\ st.s 5 = .p (.v (.int .u64 (u : Nat))) /\ st.b 16 = some (.row 5 1 (by8 (b ++ pre))) /\ pre ++ enc u = enc z /\ pre.length = k /\ u * 128 ^ k < 18446744073709551616) 10 ⟨0, z, [], by simp [hzz, h1, h2]; try omega⟩ fun K N st hL ⟨k, u, pre, hk, g6, g5, b16, he, hp, hu⟩ => ?_
  have hu64 : u < 18446744073709551616 := Nat.lt_of_le_of_lt (Nat.le_mul_of_pos_right u (Nat.pow_pos (by omega))) hu
  by_cases q : u < 128
  ·have q' : (u : Int) < 128 := by omega
   have q2 : ¬ 128 <= (u : Int) := by omega
   have hl : by8 (b ++ pre) ++ [[.v (.int .u8 (IntKind.u8.wrap (u : Int)))]] = by8 (b ++ enc z) := by
    rw [by8_snoc _ (UInt8.ofNat u) _ (u8_small u q), <- he, enc_small q, List.append_assoc]
   repeat' first | (refine And.intro (by omega) (Or.inl ?_)) | (refine And.intro (by omega) ?_) | (refine hK _ ?_; clear hK) | (refine hK _ _ ?_; clear hK) | (clear hK; refine hK _ ?_; clear hK) | (clear hK; clear hK; refine hK _ ?_; clear hK) | (clear hK; clear hK; clear hK; refine hK _ ?_; clear hK) | (clear hK; clear hK; clear hK; clear hK; refine hK _ ?_; clear hK) | (refine wSeq fun K hK => ?_) | ((first | refine wReg ?_ | refine wDrwQ rfl (by kernel_rfl) ?_ | refine wDrwI ?_ | refine wDrw (by kernel_rfl) ?_); simp only [List.map_cons, List.map_nil, strip]) | ((first | refine wIs fun K hK => ?_ | refine wOs fun K hK => ?_ | refine wQs fun K hK => ?_ | refine CallK_plain ?_ | refine CallQ_plain ?_ | refine CallR_plain ?_ | refine wCond ?_); simp [g5, g6, b16, q, q', q2]) | (refine wIn ?_; refine And.intro (by kernel_rfl) ?_; try simp only [thenA_n]) | (first | refine wBlock ?_ | refine wScope ?_) | ((first | refine wRet ?_ | refine wExit ?_ | refine wSkip ?_); try simp) | ((first | refine wLabel ?_ | refine wOn ?_ | refine wQn ?_); try simp only [thenA_n])
   all_goals refine hr _ 16 ?_ ?_ (by omega)
   all_goals simp [Try.f42, hl]
  ·have q' : ¬ (u : Int) < 128 := by omega
   have q2 : 128 <= (u : Int) := by omega
   have hk10 : k < 10 := by
    refine Nat.lt_of_not_le fun hge => ?_
    have : k = 10 := by omega
    subst this
    omega
   have ha := and_fact u hu64
   have hor := or_fact2 (u % 128) (by omega)
   have hb := enc_big q
   generalize UInt8.ofNat (u % 128 + 128) = c at hor hb
   simp at ha hor
   have hsh := shr7 u
   simp at hsh
   have hx := by8_snoc (b ++ pre) c _ rfl
   rw [List.append_assoc] at hx
   repeat' first | (refine And.intro (by omega) (Or.inl ?_)) | (refine And.intro (by omega) ?_) | (refine hK _ ?_; clear hK) | (refine hK _ _ ?_; clear hK) | (clear hK; refine hK _ ?_; clear hK) | (clear hK; clear hK; refine hK _ ?_; clear hK) | (clear hK; clear hK; clear hK; refine hK _ ?_; clear hK) | (clear hK; clear hK; clear hK; clear hK; refine hK _ ?_; clear hK) | (refine wSeq fun K hK => ?_) | ((first | refine wReg ?_ | refine wDrwQ rfl (by kernel_rfl) ?_ | refine wDrwI ?_ | refine wDrw (by kernel_rfl) ?_); simp only [List.map_cons, List.map_nil, strip]) | ((first | refine wIs fun K hK => ?_ | refine wOs fun K hK => ?_ | refine wQs fun K hK => ?_ | refine CallK_plain ?_ | refine CallQ_plain ?_ | refine CallR_plain ?_ | refine wCond ?_); simp [g5, g6, b16, q, q', q2, ha, hor, hsh]) | (refine wIn ?_; refine And.intro (by kernel_rfl) ?_; try simp only [thenA_n]) | (first | refine wBlock ?_ | refine wScope ?_) | ((first | refine wRet ?_ | refine wExit ?_ | refine wSkip ?_); try simp) | ((first | refine wLabel ?_ | refine wOn ?_ | refine wQn ?_); try simp only [thenA_n])
   refine hL _ (N - 1) (by omega) ⟨k + 1, u / 128, pre ++ [c], by omega, ?_⟩
   simp [g5, g6, b16, ha, hor, hsh, hx, hp]
   refine ⟨by rw [<- he, hb], Nat.lt_of_le_of_lt ?_ hu⟩
   rw [Nat.pow_succ, Nat.mul_comm (128 ^ k), <- Nat.mul_assoc]
   exact Nat.mul_le_mul_right _ (Nat.div_mul_le_self u 128)
end Go.Proofs.Ytleejpddecjhcaa
namespace Go.Proofs.Ytleejpddecjhcaa
set_option linter.unusedSimpArgs false
set_option linter.unusedVariables false
open Go Go.Av Go.RowKit
theorem hp_move [Glob] {w w' : World} {F F' : Nat -> Prop} {m : Nm} {β : Nat -> Option Blk} (h : Hp w F m β) (hsz : w.heap.size <= w'.heap.size) (h1 : ∀ k, F' k -> k < w'.heap.size) (h2 : ∀ k, k < w.heap.size -> F' k -> F k)
 (h3 : ∀ k, k < w.heap.size -> ¬ F k -> w'.heap[k]? = w.heap[k]?) : Hp w' F' m β := by
 have ht : Turn w w' (Gd F m β) (Gd F' m β) := ⟨hsz, fun k hk hg => h3 k hk fun hf => hg (.inl hf), fun k hk hg => hg.imp (h2 k hk) id⟩
 refine ⟨h1, fun b k ho => ⟨Nat.lt_of_lt_of_le (h.own b k ho).1 hsz, fun hf => (h.own b k ho).2 (h2 k (h.own b k ho).1 hf)⟩, h.uniq, fun b blk hb => (h.blks b blk hb).keep ht fun k hk => ?_, fun g e he => (h.glob g e he).move ht.size ht.block ht.less⟩
 have ho : owns m β b k := by unfold owns; rw [hb]; cases blk <;> exact hk
 exact h3 k (h.own b k ho).1 (h.own b k ho).2
theorem catch_idle (k : Nat) (w : World) : CallsD Try.prog 128 #[.pointer (some ⟨k, 0, none⟩)] .returning w fun e u' w' => e = .returned (.tuple #[]) /\ u' = .returning /\ w' = w := by
 refine callsD_of_wpS Try.func128 rfl fun c₀ cs hu => ?_
 apply wpS_seq
 apply wpS_region
 simp [wpOpsS, go_sem, recoverD, hu, Try.ntmps128, Exit.thenS]
 refine wpS_of_wp ?_
 go_wp2
 cases c₀
 simp_all [bodyPostS, results, Try.results128, Exit.thenS]
set_option maxHeartbeats 1000000 in
theorem catch_take (k : Nat) (n : Int) (x : Value) (w : World) (hc : w.heap[k]? = some (.cells #[x] 25 (0, 0))) : CallsD Try.prog 128 #[.pointer (some ⟨k, 0, none⟩)] (.panicking [{ v := .iface 192 (.int .i64 n), recovered := false }]) w fun e u' w' =>
 e = .returned (.tuple #[]) /\ u' = .panicking [{ v := .iface 192 (.int .i64 n), recovered := true }] /\ w' = w.setCell ⟨k, 0, none⟩ (.int .i64 n) := by
 refine callsD_of_wpS Try.func128 rfl fun c₀ cs hu => ?_
 apply wpS_seq
 apply wpS_region
 simp [wpOpsS, go_sem, recoverD, hu, Try.ntmps128, Exit.thenS]
 refine wpS_of_wp ?_
 have hta : ∀ w : World, (Instr.typeAssert (.iface 192 (.int .i64 n)) 20 192 true).run Try.prog w = .ok (.tuple #[.int .i64 n, .bool true]) w := fun w => by
  simp [Instr.typeAssert, run_underlying Try.underlying192]
 have hcell : w.cell? ⟨k, 0, none⟩ = some x := by simp [World.cell?, hc]
 have hfz : w.frozen? ⟨k, 0, none⟩ = false := by simp [World.frozen?, hc]
 go_wp2
 cases c₀
 simp_all [bodyPostS, results, Try.results128, Exit.thenS]
end Go.Proofs.Ytleejpddecjhcaa
namespace Go.Proofs.Ytleejpddecjhcaa
set_option maxRecDepth 8000
set_option linter.unusedSimpArgs false
set_option linter.unusedVariables false
open Go Go.Av Go.RowKit
def errOf : Out -> Option (Int × List Blk)
 | .ret _ [] β => some (0, β)
 | .pan (.iface t (.int .i64 n)) β => if t = 192 then some (n, β) else none
 | _ => none
theorem try_con {g : FuncId} {caps : List Cap} {β β' : List Blk} {out : Out} {n : Int} (hc : Con Try.prog g (caps.map capV) β out) (ho : errOf out = some (n, β')) :
 Con Try.prog 93 [.clo ⟨g, false⟩ caps] β (.ret (.p (I n)) [] β') := by
 intro F w m xs hp hl har
 obtain ⟨x, hx, hr⟩ := har 0 _ rfl
 obtain ⟨cs, rfl, hcl, hcs⟩ := hr
 have hxs : xs = [fnv ⟨g, false⟩ cs] := by
  match xs, hl with
  | [y], _ => simpa using hx
 subst hxs
 refine .inl ⟨⟨Try.f93, Try.func93, rfl, rfl⟩, ?_⟩
 show Calls Try.prog 93 #[.func (.func g) #[] cs.toArray] w _
 let w1 := w.alloc (Obj.cells #[Value.int IntKind.i64 0] 25)
 let k0 := w.heap.size
 have s1 : w1.heap.size = w.heap.size + 1 := by simp [w1]
 have o1 : ∀ k, k < w.heap.size -> w1.heap[k]? = w.heap[k]? := fun k hk => Below.heap_alloc w _ k hk
 have n1 : w1.heap[k0]? = some (.cells #[.int .i64 0] 25 (0, 0)) := by show (w.heap.push _)[w.heap.size]? = _; simp
 let F' : Nat -> Prop := fun k => F k \/ k = k0
 have hp1 : Hp w1 F' m (nmF β []) := hp_move hp (by omega) (fun k hk => by
  rcases hk with hk | hk
  ·have := hp.fold k hk; omega
  ·show k < _; rw [s1, hk]; exact Nat.lt_succ_self _) (fun k hk hf => by
  rcases hf with hf | hf
  ·exact hf
  ·exact absurd hk (by rw [hf]; exact Nat.lt_irrefl _)) (fun k hk _ => o1 k hk)
 have ht1 : Turn w w1 (Gd F m (nmF β [])) (Gd F' m (nmF β [])) := ⟨by omega, fun k hk _ => o1 k hk, fun k hk hg => hg.imp (fun hf => by
  rcases hf with hf | hf
  ·exact hf
  ·exact absurd hk (by rw [hf]; exact Nat.lt_irrefl _)) id⟩
 have hcall := hc F' w1 m cs hp1 (by simp [hcl]) (fun i v hi => by
  rw [List.getElem?_map] at hi
  cases hci : caps[i]? with
  | none => rw [hci] at hi; simp at hi
  | some c =>
   rw [hci] at hi
   simp only [Option.map_some, Option.some.injEq] at hi
   obtain ⟨y, h4, h5⟩ := hcs i c hci
   refine ⟨y, h4, ?_⟩
   subst hi
   cases c with
   | box b => exact h5
   | val p => exact RV0.keep (v := .p p) ht1 h5
   | rp e j => exact RV0.keep (v := .rptr e j) ht1 h5)
 have hlt2 : ∀ {w2 : World}, Keeps (fun k => ∃ n, owns m (nmF β []) n k) w1 w2 -> w2.heap[k0]? = some (.cells #[.int .i64 0] 25 (0, 0)) /\ w.heap.size <= w2.heap.size /\ Keeps (fun k => ∃ n, owns m (nmF β []) n k) w w2 := fun {w2} hk => by
  have hno : ¬ ∃ n, owns m (nmF β []) n k0 := fun ⟨n, hn⟩ => (hp1.own n k0 hn).2 (.inr rfl)
  refine ⟨by rw [hk.block k0 (by rw [s1]; exact Nat.lt_succ_self _) hno]; exact n1, by have := hk.size; omega, ⟨hk.os, hk.tape, hk.output, by have := hk.size; omega, fun k hlt hX => ?_⟩⟩
  rw [hk.block k (by omega) hX, o1 k hlt]
 have fin : ∀ (w2 : World) (m2 : Nm) (z : Int), Keeps (fun k => ∃ n, owns m (nmF β []) n k) w1 w2 -> Hp w2 F' m2 (nmF β' []) -> (∀ n k, owns m2 (nmF β' []) n k -> w1.heap.size <= k \/ ∃ n, owns m (nmF β []) n k) -> (∀ n, 1024 <= n -> n < 2048 -> m2.i n = m.i n) →
  Keeps (fun k => ∃ n, owns m (nmF β []) n k) w (w2.setCell ⟨k0, 0, none⟩ (.int .i64 z)) /\ OutR w F (fun k => ∃ n, owns m (nmF β []) n k) m (.returned (.int .i64 z)) (w2.setCell ⟨k0, 0, none⟩ (.int .i64 z)) (.ret (.p (I z)) [] β') := fun w2 m2 z hk hp2 hown hnam => by
  obtain ⟨hc2, hs2, hkw⟩ := hlt2 hk
  have hb : ∀ k, k ≠ k0 -> (w2.setCell ⟨k0, 0, none⟩ (.int .i64 z)).heap[k]? = w2.heap[k]? := fun k hne => heap_setCell_other w2 ⟨k0, 0, none⟩ k _ hne
  refine ⟨⟨hkw.os, hkw.tape, hkw.output, by rw [World.size_setCell]; exact hs2, fun k hlt hX => ?_⟩, _, m2, rfl, ?_, fun n k ho => ?_, hnam, .of0 (v := .p _) (.v _ rfl)⟩
  ·rw [hb k (Nat.ne_of_lt hlt), hkw.block k hlt hX]
  ·refine hp_move hp2 (by rw [World.size_setCell]; exact Nat.le_refl _) (fun k hf => by rw [World.size_setCell]; have := hp.fold k hf; omega) (fun k _ hf => .inl hf) (fun k hlt hn => hb k fun he => hn (.inr he))
  ·rcases hown n k ho with h1 | h1
   ·exact .inl (by omega)
   ·exact .inr h1
 have hload : ∀ (w2 : World) (z : Int), w2.heap[k0]? = some (.cells #[.int .i64 0] 25 (0, 0)) -> (w2.setCell ⟨k0, 0, none⟩ (.int .i64 z)).cell? ⟨k0, 0, none⟩ = some (.int .i64 z) := fun w2 z h => World.cell?_setCell_same w2 ⟨k0, 0, none⟩ (.int .i64 z) (u := .int .i64 0) (by simp [World.cell?, h])
 have hcellW : ∀ (w2 : World) (x : Value), w2.heap[k0]? = some (.cells #[x] 25 (0, 0)) -> w2.cell? ⟨k0, 0, none⟩ = some x /\ w2.frozen? ⟨k0, 0, none⟩ = false := fun w2 x h => ⟨by simp [World.cell?, h], by simp [World.frozen?, h]⟩
 have retd : ∀ (x : Value) (w2 : World), (Keeps (fun k => ∃ n, owns m (nmF β []) n k) w1 w2 /\ OutR w1 F' (fun k => ∃ n, owns m (nmF β []) n k) m (.returned x) w2 out) -> n = 0 /\ Keeps (fun k => ∃ n, owns m (nmF β []) n k) w (w2.setCell ⟨k0, 0, none⟩ (.int .i64 0)) /\ OutR w F (fun k => ∃ n, owns m (nmF β []) n k) m (.returned (.int .i64 0)) (w2.setCell ⟨k0, 0, none⟩ (.int .i64 0)) (.ret (.p (I n)) [] β') /\ w2.heap[k0]? = some (.cells #[.int .i64 0] 25 (0, 0)) := fun x w2 ⟨hk, hout⟩ => by
  cases out with
  | ret v R β2 =>
   cases R with
   | nil =>
    simp only [errOf, Option.some.injEq, Prod.mk.injEq] at ho
    obtain ⟨rfl, rfl⟩ := ho
    obtain ⟨x', m2, -, hp2, hown, hnam, -⟩ := hout
    obtain ⟨h1, h2⟩ := fin w2 m2 0 hk hp2 hown hnam
    exact ⟨rfl, h1, h2, (hlt2 hk).1⟩
   | cons b R => simp [errOf] at ho
  | pan y β2 => obtain ⟨m2, he, -⟩ := hout; simp at he
 have pand : ∀ (ch : List PanicEntry) (w2 : World), (Keeps (fun k => ∃ n, owns m (nmF β []) n k) w1 w2 /\ OutR w1 F' (fun k => ∃ n, owns m (nmF β []) n k) m (.panicked ch) w2 out) -> ch = [{ v := .iface 192 (.int .i64 n), recovered := false }] /\ Keeps (fun k => ∃ n, owns m (nmF β []) n k) w (w2.setCell ⟨k0, 0, none⟩ (.int .i64 n)) /\ OutR w F (fun k => ∃ n, owns m (nmF β []) n k) m (.returned (.int .i64 n)) (w2.setCell ⟨k0, 0, none⟩ (.int .i64 n)) (.ret (.p (I n)) [] β') /\ w2.heap[k0]? = some (.cells #[.int .i64 0] 25 (0, 0)) := fun ch w2 ⟨hk, hout⟩ => by
  cases out with
  | ret v R β2 => obtain ⟨x', m2, he, -⟩ := hout; simp at he
  | pan y β2 =>
   obtain ⟨m2, he, hp2, hown, hnam⟩ := hout
   unfold errOf at ho
   split at ho
   ·rename_i hh; simp at hh
   ·rename_i t n' β3 hh
    simp only [Out.pan.injEq] at hh
    obtain ⟨rfl, rfl⟩ := hh
    split at ho
    ·rename_i ht
     subst ht
     simp only [Option.some.injEq, Prod.mk.injEq] at ho
     obtain ⟨rfl, rfl⟩ := ho
     simp only [Ending.panicked.injEq] at he
     obtain ⟨h1, h2⟩ := fin w2 m2 n' hk hp2 hown hnam
     exact ⟨he, h1, h2, (hlt2 hk).1⟩
    ·simp at ho
   ·simp at ho
 have hnog : ∀ w2, ¬ OutR w1 F' (fun k => ∃ n, owns m (nmF β []) n k) m .outgrown w2 out := fun w2 h => by
  cases out with
  | ret v R β2 => obtain ⟨x', m2, he, -⟩ := h; simp at he
  | pan y β2 => obtain ⟨m2, he, -⟩ := h; simp at he
 have hw1 : w.alloc (Obj.cells #[Value.int IntKind.i64 0] 25) = w1 := rfl
 have hk0 : w.heap.size = k0 := rfl
 clear_value k0 w1
 go_enter_defers Try.func93, Try.ntmps93
 go_wp2
 rename_i K1 hK1 K2 hK2
 have tail1 : ∀ (x : Value) (w2 : World), (Keeps (fun k => ∃ n, owns m (nmF β []) n k) w1 w2 /\ OutR w1 F' (fun k => ∃ n, owns m (nmF β []) n k) m (.returned x) w2 out) -> True := fun _ _ _ => trivial
 rcases hcall with ⟨⟨fn, f1, f2, f3⟩, hcl2⟩ | ⟨x, w2, hrun, hR⟩
 ·have f2' : ¬ fn.name = "runtime.NumGoroutine" := by simpa using f2
  have f3' : ¬ fn.body = none := by intro h0; rw [h0] at f3; simp at f3
  rw [show (callFunc g cs.toArray).run Try.prog w1 = .ok (.enter g cs.toArray) w1 by simp [callFunc, f1, f2', f3']]
  refine hcl2.mono fun e w2 hR => ?_
  cases e with
  | outgrown => exact absurd hR.2 (hnog w2)
  | returned x =>
   obtain ⟨hn, hk, ho2, hc2⟩ := retd x w2 hR
   obtain ⟨hc3, hf3⟩ := hcellW w2 _ hc2
   have hl := hload w2 0 hc2
   refine hK2 _ _ ?_
   go_wp2
   subst hn
   refine leaves_cons (f := 128) (args := #[.pointer (some ⟨k0, 0, none⟩)]) (by simp) (by simp [go_sem]) ?_
   refine (catch_idle k0 _).mono ?_
   rintro e u' w'' ⟨rfl, rfl, rfl⟩
   simp [Leaves, settle, results, Try.results93, go_sem, hl]
   exact ⟨hk, ho2⟩
  | panicked ch =>
   obtain ⟨hch, hk, ho2, hc2⟩ := pand ch w2 hR
   subst hch
   have hl := hload w2 n hc2
   show Leaves Try.prog Try.f93 _ _ _ _ _
   refine leaves_cons (f := 128) (args := #[.pointer (some ⟨k0, 0, none⟩)]) (by simp) (by simp [go_sem]) ?_
   refine (catch_take k0 n _ w2 hc2).mono ?_
   rintro e u' w'' ⟨rfl, rfl, rfl⟩
   simp [Leaves, settle, results, Try.results93, go_sem, hl]
   exact ⟨hk, ho2⟩
 ·rw [hrun]
  obtain ⟨hn, hk, ho2, hc2⟩ := retd x w2 hR
  obtain ⟨hc3, hf3⟩ := hcellW w2 _ hc2
  have hl := hload w2 0 hc2
  refine hK2 _ _ ?_
  go_wp2
  subst hn
  refine leaves_cons (f := 128) (args := #[.pointer (some ⟨k0, 0, none⟩)]) (by simp) (by simp [go_sem]) ?_
  refine (catch_idle k0 _).mono ?_
  rintro e u' w'' ⟨rfl, rfl, rfl⟩
  simp [Leaves, settle, results, Try.results93, go_sem, hl]
  exact ⟨hk, ho2⟩
end Go.Proofs.Ytleejpddecjhcaa
namespace Go.Proofs.Ytleejpddecjhcaa
set_option linter.unusedSimpArgs false
set_option linter.unusedVariables false
open Go Go.Av
attribute [local irreducible] Go.Av.CallK Go.Av.CallE Go.Av.CallQ Go.Av.CallF Go.Av.CallR Go.Av.CallH Go.Av.Con
def rdU : Nat -> Nat -> List UInt8 -> Int × Nat × Nat
 | i, _, [] => (2, 0, i)
 | i, u, c :: r =>
  if i = 9 /\ 1 < c.toNat then (5, 0, i + 1)
  else if 128 <= c.toNat then rdU (i + 1) (u + c.toNat % 128 * 128 ^ i) r
  else if c.toNat = 0 /\ 0 < i then (3, 0, i + 1)
  else (0, u + c.toNat % 128 * 128 ^ i, i + 1)
theorem and8_fact (c : UInt8) : IntKind.u8.wrap ((BitVec.ofInt IntKind.u8.bits (c.toNat : Int) &&& BitVec.ofInt IntKind.u8.bits 127).toNat : Int) = ((c.toNat % 128 : Nat) : Int) := by
 have hc := c.toNat_lt
 show IntKind.u8.wrap ((BitVec.ofInt 8 (c.toNat : Int) &&& BitVec.ofNat 8 127).toNat : Int) = _
 rw [ofInt_nat, and127 _ (by omega), u8_wrap]; omega
theorem pow7 (i : Nat) : 2 ^ (7 * i) = 128 ^ i := by rw [Nat.pow_mul]
theorem step_lt {u x i : Nat} (hu : u < 128 ^ i) (hx : x < 128) : u + x * 128 ^ i < 128 ^ (i + 1) := by
 rw [Nat.pow_succ]
 have : x * 128 ^ i <= 127 * 128 ^ i := Nat.mul_le_mul_right _ (by omega)
 omega
theorem step_lt64 {u x i : Nat} (hu : u < 128 ^ i) (hx : x < 128) (hi : i <= 9) (h9 : i = 9 -> x <= 1) : x * 128 ^ i < 18446744073709551616 /\ u + x * 128 ^ i < 18446744073709551616 := by
 by_cases h : i = 9
 ·subst h
  have := h9 rfl
  have : x * 128 ^ 9 <= 1 * 128 ^ 9 := Nat.mul_le_mul_right _ this
  omega
 ·have h8 : 128 ^ (i + 1) <= 128 ^ 9 := Nat.pow_le_pow_right (by omega) (by omega)
  have := step_lt hu hx
  omega
theorem or64_fact {u x i : Nat} (hu : u < 128 ^ i) (hx : x < 128) (hi : i <= 9) (h9 : i = 9 -> x <= 1) :
 IntKind.u64.wrap ((BitVec.ofInt IntKind.u64.bits (u : Int) ||| BitVec.ofInt IntKind.u64.bits (IntKind.u64.wrap ((x : Int) * 2 ^ min (7 * i) IntKind.u64.bits))).toNat : Int) = ((u + x * 128 ^ i : Nat) : Int) := by
 obtain ⟨h1, h2⟩ := step_lt64 hu hx hi h9
 have e1 : min (7 * i) IntKind.u64.bits = 7 * i := by show min (7 * i) 64 = _; omega
 have e2 : (x : Int) * 2 ^ (7 * i) = ((x * 128 ^ i : Nat) : Int) := by rw [<- pow7]; simp
 have e3 : IntKind.u64.wrap ((x * 128 ^ i : Nat) : Int) = ((x * 128 ^ i : Nat) : Int) := by rw [u64_wrap]; omega
 rw [e1, e2, e3]
 show IntKind.u64.wrap ((BitVec.ofInt 64 (u : Int) ||| BitVec.ofInt 64 ((x * 128 ^ i : Nat) : Int)).toNat : Int) = _
 rw [ofInt_nat, ofInt_nat, BitVec.toNat_or, BitVec.toNat_ofNat, BitVec.toNat_ofNat, Nat.mod_eq_of_lt (by omega), Nat.mod_eq_of_lt (by omega)]
 have e4 : u ||| x * 128 ^ i = u + x * 128 ^ i := by
  rw [<- pow7, <- Nat.shiftLeft_eq, Nat.or_comm, <- Nat.shiftLeft_add_eq_or_of_lt (by rw [pow7]; exact hu), Nat.add_comm]
 rw [e4, u64_wrap]; omega
theorem and1 (u : Nat) (h : u < 18446744073709551616) : IntKind.u64.wrap ((BitVec.ofInt IntKind.u64.bits (u : Int) &&& BitVec.ofInt IntKind.u64.bits 1).toNat : Int) = ((u % 2 : Nat) : Int) := by
 show IntKind.u64.wrap ((BitVec.ofInt 64 (u : Int) &&& BitVec.ofNat 64 1).toNat : Int) = _
 rw [ofInt_nat, BitVec.toNat_and, BitVec.toNat_ofNat, BitVec.toNat_ofNat, show 1 % 2 ^ 64 = 2 ^ 1 - 1 from rfl, Nat.and_two_pow_sub_one_eq_mod, u64_wrap]
 omega
theorem shr1 (u : Nat) : (u : Int).fdiv (2 ^ min 1 IntKind.u64.bits) = ((u / 2 : Nat) : Int) := by
 show (u : Int).fdiv 2 = _
 rw [Int.fdiv_eq_ediv_of_nonneg _ (by omega)]; omega
theorem unz_fact (u : Nat) (h : u < 18446744073709551616) : IntKind.i64.wrap ((BitVec.ofInt IntKind.i64.bits (IntKind.i64.wrap ((u / 2 : Nat) : Int)) ^^^ BitVec.ofInt IntKind.i64.bits (IntKind.i64.wrap (0 - IntKind.i64.wrap ((u % 2 : Nat) : Int)))).toNat : Int) = unzz u := by
 have e1 : IntKind.i64.wrap ((u / 2 : Nat) : Int) = ((u / 2 : Nat) : Int) := wrap_id (by omega) (by omega)
 have e2 : IntKind.i64.wrap ((u % 2 : Nat) : Int) = ((u % 2 : Nat) : Int) := wrap_id (by omega) (by omega)
 have e3 : IntKind.i64.wrap (0 - ((u % 2 : Nat) : Int)) = -((u % 2 : Nat) : Int) := by rw [wrap_id (by omega) (by omega)]; omega
 rw [e1, e2, e3]
 show IntKind.i64.wrap ((BitVec.ofInt 64 ((u / 2 : Nat) : Int) ^^^ BitVec.ofInt 64 (-((u % 2 : Nat) : Int))).toNat : Int) = _
 unfold unzz
 by_cases o : u % 2 = 1
 ·rw [if_pos o, o, show BitVec.ofInt 64 (-((1 : Nat) : Int)) = BitVec.ofNat 64 18446744073709551615 by decide, ofInt_nat, xor_ones _ (by omega), IntKind.wrap_i64]
  omega
 ·rw [if_neg o, show u % 2 = 0 by omega, show BitVec.ofInt 64 (-((0 : Nat) : Int)) = BitVec.ofNat 64 0 by decide, ofInt_nat]
  simp only [BitVec.ofNat_eq_ofNat, BitVec.xor_zero, BitVec.toNat_ofNat]
  rw [IntKind.wrap_i64]
  omega
theorem give_con (n : Int) (h : ¬ n = 0) : Con Try.prog 130 [.p (I n)] [] (.pan (.iface 192 (.int .i64 n)) []) := by
 refine wBodyG Try.tab Try.mixed Try.func130 rfl rfl Try.ntmps130 (by simp) (by simp) fun Q hr hn hp => ?_
 repeat' first | (refine hK _ ?_; clear hK) | (refine hK _ _ ?_; clear hK) | (clear hK; refine hK _ ?_; clear hK) | (clear hK; clear hK; refine hK _ ?_; clear hK) | (clear hK; clear hK; clear hK; refine hK _ ?_; clear hK) | (clear hK; clear hK; clear hK; clear hK; refine hK _ ?_; clear hK) | (refine wSeq fun K hK => ?_) | ((first | refine wReg ?_ | refine wDrwQ rfl (by kernel_rfl) ?_ | refine wDrwI ?_ | refine wDrw (by kernel_rfl) ?_); simp only [List.map_cons, List.map_nil, strip]) | ((first | refine wIs fun K hK => ?_ | refine wOs fun K hK => ?_ | refine wQs fun K hK => ?_ | refine CallK_plain ?_ | refine CallQ_plain ?_ | refine CallR_plain ?_ | refine wCond ?_); simp [h]) | (refine wIn ?_; refine And.intro (by kernel_rfl) ?_; try simp only [thenA_n]) | (first | refine wBlock ?_ | refine wScope ?_) | ((first | refine wRet ?_ | refine wExit ?_ | refine wSkip ?_); try simp) | ((first | refine wLabel ?_ | refine wOn ?_ | refine wQn ?_); try simp only [thenA_n])
 all_goals apply hp
 all_goals simp [AResP, outB]
def rdO (b : List UInt8) (at' : Nat) (r : Int × Nat × Nat) : Out :=
 if r.1 = 0 then .ret (.p (I (unzz r.2.1))) [] [.box 205 [.p (.sl 1 (by8 b)), .p (I ((at' + r.2.2 : Nat) : Int))]]
 else .pan (.iface 192 (.int .i64 r.1)) [.box 205 [.p (.sl 1 (by8 b)), .p (I ((at' + r.2.2 : Nat) : Int))]]
theorem rdO_ok {b : List UInt8} {a u k : Nat} : rdO b a (0, u, k) = .ret (.p (I (unzz u))) [] [.box 205 [.p (.sl 1 (by8 b)), .p (I ((a + k : Nat) : Int))]] := rfl
theorem rdO_err {b : List UInt8} {a u k : Nat} {e : Int} (h : ¬ e = 0) : rdO b a (e, u, k) = .pan (.iface 192 (.int .i64 e)) [.box 205 [.p (.sl 1 (by8 b)), .p (I ((a + k : Nat) : Int))]] := by unfold rdO; rw [if_neg h]
set_option maxHeartbeats 2000000 in
theorem number_con (b : List UInt8) (a : Nat) (ha : a <= b.length) (hb : b.length <= 1000000000) : Con Try.prog 144 [.ptr 1024 0] [.box 205 [.p (.sl 1 (by8 b)), .p (I a)]] (rdO b a (rdU 0 0 (b.drop a))) := by
 have e2 := give_con 2 (by decide)
 have e3 := give_con 3 (by decide)
 have e5 := give_con 5 (by decide)
 refine wBodyG Try.tab Try.mixed Try.func144 rfl rfl Try.ntmps144 (by simp) (by simp) fun Q hr hn hp => ?_
 repeat' first | (refine hK _ ?_; clear hK) | (refine hK _ _ ?_; clear hK) | (clear hK; refine hK _ ?_; clear hK) | (clear hK; clear hK; refine hK _ ?_; clear hK) | (clear hK; clear hK; clear hK; refine hK _ ?_; clear hK) | (clear hK; clear hK; clear hK; clear hK; refine hK _ ?_; clear hK) | (refine wSeq fun K hK => ?_) | ((first | refine wReg ?_ | refine wDrwQ rfl (by kernel_rfl) ?_ | refine wDrwI ?_ | refine wDrw (by kernel_rfl) ?_); simp only [List.map_cons, List.map_nil, strip]) | ((first | refine wIs fun K hK => ?_ | refine wOs fun K hK => ?_ | refine wQs fun K hK => ?_ | refine CallK_plain ?_ | refine CallQ_plain ?_ | refine CallR_plain ?_ | refine wCond ?_); simp) | (refine wIn ?_; refine And.intro (by kernel_rfl) ?_; try simp only [thenA_n]) | (first | refine wBlock ?_ | refine wScope ?_) | ((first | refine wRet ?_ | refine wExit ?_ | refine wSkip ?_); try simp) | ((first | refine wLabel ?_ | refine wOn ?_ | refine wQn ?_); try simp only [thenA_n])
 refine wLoop (fun N st => ∃ i q u, i + N = 10 /\ i <= 9 /\ q = a + i /\ st.s 0 = .ptr 1024 0 /\ st.s 3 = .p (.v (.int .u64 (u : Nat))) /\ st.s 6 = .p (I i) /\ st.b 1024 = some (.box 205 [.p (.sl 1 (by8 b)), .p (I q)]) /\ u < 128 ^ i /\ q <= b.length /\ rdU i u (b.drop q) = rdU 0 0 (b.drop a)) 10 ⟨0, a, 0, by simp; exact ha⟩ fun K N st hL ⟨i, q, u, hk, hi9, hq, g0, g3, g6, b0, hu, hqb, hrd⟩ => ?_
 have hi10 : (i : Int) < 10 := by omega
 by_cases hlt : q < b.length
 rotate_left
 ·have hae : q = b.length := by omega
  rw [List.drop_of_length_le (by omega), rdU] at hrd
  rw [<- hrd, rdO_err (by decide), <- hq] at hp
  have hae' : (q : Int) = (b.length : Int) := by omega
  repeat' first | (refine CallE.pan e2 ?_) | (refine hK _ ?_; clear hK) | (refine hK _ _ ?_; clear hK) | (clear hK; refine hK _ ?_; clear hK) | (clear hK; clear hK; refine hK _ ?_; clear hK) | (clear hK; clear hK; clear hK; refine hK _ ?_; clear hK) | (clear hK; clear hK; clear hK; clear hK; refine hK _ ?_; clear hK) | (refine wSeq fun K hK => ?_) | ((first | refine wReg ?_ | refine wDrwQ rfl (by kernel_rfl) ?_ | refine wDrwI ?_ | refine wDrw (by kernel_rfl) ?_); simp only [List.map_cons, List.map_nil, strip]) | ((first | refine wIs fun K hK => ?_ | refine wOs fun K hK => ?_ | refine wQs fun K hK => ?_ | refine CallK_plain ?_ | refine CallQ_plain ?_ | refine CallR_plain ?_ | refine wCond ?_); simp [g0, g3, g6, b0, hi10, hae, hae']) | (refine wIn ?_; refine And.intro (by kernel_rfl) ?_; try simp only [thenA_n]) | (first | refine wBlock ?_ | refine wScope ?_) | ((first | refine wRet ?_ | refine wExit ?_ | refine wSkip ?_); try simp) | ((first | refine wLabel ?_ | refine wOn ?_ | refine wQn ?_); try simp only [thenA_n])
  simp only [thenA_p, blockA_p]
  apply hp
  simp [AResP, outB, renB, gaN, b0, hae]
 have hlt' : ¬ (q : Int) = (b.length : Int) := by omega
 have hne : ¬ q = b.length := by omega
 have hw : IntKind.i64.wrap ((q : Int) + 1) = ((q + 1 : Nat) : Int) := by rw [wrap_id (by omega) (by omega)]; omega
 have hwi := wrapS i 10 (by omega) (by omega)
 have he := by8_get hlt
 rw [List.drop_eq_getElem_cons hlt, rdU] at hrd
 have hc256 := b[q].toNat_lt
 generalize hcq : b[q] = c at he hrd hc256
 obtain ⟨x, hx⟩ : ∃ x : Nat, x = c.toNat := ⟨_, rfl⟩
 rw [<- hx] at he hrd hc256
 have h8 := and8_fact c
 rw [<- hx] at h8
 have hcx : c.toNat = x := hx.symm
 simp at h8
 by_cases o1 : i = 9 /\ 1 < x
 ·rw [if_pos o1] at hrd
  rw [<- hrd, rdO_err (by decide), show a + (i + 1) = q + 1 by omega] at hp
  have o1' : (1 : Int) < (x : Int) := by omega
  have o2' : (i : Int) = 9 := by omega
  repeat' first | (refine CallE.pan e5 ?_) | (refine hK _ ?_; clear hK) | (refine hK _ _ ?_; clear hK) | (clear hK; refine hK _ ?_; clear hK) | (clear hK; clear hK; refine hK _ ?_; clear hK) | (clear hK; clear hK; clear hK; refine hK _ ?_; clear hK) | (clear hK; clear hK; clear hK; clear hK; refine hK _ ?_; clear hK) | (refine wSeq fun K hK => ?_) | ((first | refine wReg ?_ | refine wDrwQ rfl (by kernel_rfl) ?_ | refine wDrwI ?_ | refine wDrw (by kernel_rfl) ?_); simp only [List.map_cons, List.map_nil, strip]) | ((first | refine wIs fun K hK => ?_ | refine wOs fun K hK => ?_ | refine wQs fun K hK => ?_ | refine CallK_plain ?_ | refine CallQ_plain ?_ | refine CallR_plain ?_ | refine wCond ?_); simp [g0, g3, g6, b0, hi10, hlt, hlt', hne, hw, he, hcq, hcx, o1', o2', o1]) | (refine wIn ?_; refine And.intro (by kernel_rfl) ?_; try simp only [thenA_n]) | (first | refine wBlock ?_ | refine wScope ?_) | ((first | refine wRet ?_ | refine wExit ?_ | refine wSkip ?_); try simp) | ((first | refine wLabel ?_ | refine wOn ?_ | refine wQn ?_); try simp only [thenA_n])
  simp only [thenA_p, blockA_p]
  apply hp
  simp [AResP, outB, renB, gaN, b0, hw]
 rw [if_neg o1] at hrd
 have o1' : (i : Int) = 9 -> ¬ (1 : Int) < (x : Int) := by omega
 have hx9 : i = 9 -> x <= 1 := by omega
 have hxm : x % 128 < 128 := by omega
 have hor := or64_fact (x := x % 128) hu hxm hi9 (by omega)
 have hst := step_lt64 (x := x % 128) hu hxm hi9 (by omega)
 have hsl := step_lt (x := x % 128) hu hxm
 generalize u + x % 128 * 128 ^ i = u' at hor hst hsl hrd
 have hw7 : IntKind.i64.wrap (7 * (i : Int)) = 7 * (i : Int) := wrap_id (by omega) (by omega)
 have hn7 : ¬ 7 * (i : Int) < 0 := by omega
 have ht7 : (7 * (i : Int)).toNat = 7 * i := by omega
 have hcv : IntKind.u64.wrap ((x % 128 : Nat) : Int) = ((x % 128 : Nat) : Int) := by rw [u64_wrap]; omega
 simp at hor hcv
 by_cases o2 : 128 <= x
 ·rw [if_pos o2] at hrd
  have o2' : (128 : Int) <= (x : Int) := by omega
  have o3' : ¬ (i : Int) = 9 := by omega
  have o3 : ¬ i = 9 := by omega
  repeat' first | (refine hK _ ?_; clear hK) | (refine hK _ _ ?_; clear hK) | (clear hK; refine hK _ ?_; clear hK) | (clear hK; clear hK; refine hK _ ?_; clear hK) | (clear hK; clear hK; clear hK; refine hK _ ?_; clear hK) | (clear hK; clear hK; clear hK; clear hK; refine hK _ ?_; clear hK) | (refine wSeq fun K hK => ?_) | ((first | refine wReg ?_ | refine wDrwQ rfl (by kernel_rfl) ?_ | refine wDrwI ?_ | refine wDrw (by kernel_rfl) ?_); simp only [List.map_cons, List.map_nil, strip]) | ((first | refine wIs fun K hK => ?_ | refine wOs fun K hK => ?_ | refine wQs fun K hK => ?_ | refine CallK_plain ?_ | refine CallQ_plain ?_ | refine CallR_plain ?_ | refine wCond ?_); simp [g0, g3, g6, b0, hi10, hlt, hlt', hne, hw, he, hcq, hcx, o2', o2, o3, o3', h8, hor, hw7, hn7, ht7, hcv, hwi]) | (refine wIn ?_; refine And.intro (by kernel_rfl) ?_; try simp only [thenA_n]) | (first | refine wBlock ?_ | refine wScope ?_) | ((first | refine wRet ?_ | refine wExit ?_ | refine wSkip ?_); try simp) | ((first | refine wLabel ?_ | refine wOn ?_ | refine wQn ?_); try simp only [thenA_n])
  refine hL _ (N - 1) (by omega) ⟨i + 1, q + 1, u', by omega, by omega, by omega, ?_⟩
  simp [g0, g3, g6, b0, hw, hwi, h8, hor, hw7, hn7, ht7, hcv, hsl, hrd]
  omega
 rw [if_neg o2] at hrd
 have o2' : ¬ (128 : Int) <= (x : Int) := by omega
 by_cases o4 : x = 0 /\ 0 < i
 ·rw [if_pos o4] at hrd
  rw [<- hrd, rdO_err (by decide), show a + (i + 1) = q + 1 by omega] at hp
  obtain ⟨o4, o5⟩ := o4
  have o4' : (x : Int) = 0 := by omega
  have o5' : (0 : Int) < (i : Int) := by omega
  have o1x : ¬ (1 : Int) < (x : Int) := by omega
  by_cases o3 : i = 9
  ·have o3' : (i : Int) = 9 := by omega
   repeat' first | (refine CallE.pan e3 ?_) | (refine hK _ ?_; clear hK) | (refine hK _ _ ?_; clear hK) | (clear hK; refine hK _ ?_; clear hK) | (clear hK; clear hK; refine hK _ ?_; clear hK) | (clear hK; clear hK; clear hK; refine hK _ ?_; clear hK) | (clear hK; clear hK; clear hK; clear hK; refine hK _ ?_; clear hK) | (refine wSeq fun K hK => ?_) | ((first | refine wReg ?_ | refine wDrwQ rfl (by kernel_rfl) ?_ | refine wDrwI ?_ | refine wDrw (by kernel_rfl) ?_); simp only [List.map_cons, List.map_nil, strip]) | ((first | refine wIs fun K hK => ?_ | refine wOs fun K hK => ?_ | refine wQs fun K hK => ?_ | refine CallK_plain ?_ | refine CallQ_plain ?_ | refine CallR_plain ?_ | refine wCond ?_); simp [g0, g3, g6, b0, hi10, hlt, hlt', hne, hw, he, hcq, hcx, o2', o2, o3', o3, o1x, o4', o5', o4, o5, h8, hor, hw7, hn7, ht7, hcv]) | (refine wIn ?_; refine And.intro (by kernel_rfl) ?_; try simp only [thenA_n]) | (first | refine wBlock ?_ | refine wScope ?_) | ((first | refine wRet ?_ | refine wExit ?_ | refine wSkip ?_); try simp) | ((first | refine wLabel ?_ | refine wOn ?_ | refine wQn ?_); try simp only [thenA_n])
   simp only [thenA_p, blockA_p]
   apply hp
   simp [AResP, outB, renB, gaN, b0, hw]
  ·have o3' : ¬ (i : Int) = 9 := by omega
   repeat' first | (refine CallE.pan e3 ?_) | (refine hK _ ?_; clear hK) | (refine hK _ _ ?_; clear hK) | (clear hK; refine hK _ ?_; clear hK) | (clear hK; clear hK; refine hK _ ?_; clear hK) | (clear hK; clear hK; clear hK; refine hK _ ?_; clear hK) | (clear hK; clear hK; clear hK; clear hK; refine hK _ ?_; clear hK) | (refine wSeq fun K hK => ?_) | ((first | refine wReg ?_ | refine wDrwQ rfl (by kernel_rfl) ?_ | refine wDrwI ?_ | refine wDrw (by kernel_rfl) ?_); simp only [List.map_cons, List.map_nil, strip]) | ((first | refine wIs fun K hK => ?_ | refine wOs fun K hK => ?_ | refine wQs fun K hK => ?_ | refine CallK_plain ?_ | refine CallQ_plain ?_ | refine CallR_plain ?_ | refine wCond ?_); simp [g0, g3, g6, b0, hi10, hlt, hlt', hne, hw, he, hcq, hcx, o2', o2, o3', o3, o1x, o4', o5', o4, o5, h8, hor, hw7, hn7, ht7, hcv]) | (refine wIn ?_; refine And.intro (by kernel_rfl) ?_; try simp only [thenA_n]) | (first | refine wBlock ?_ | refine wScope ?_) | ((first | refine wRet ?_ | refine wExit ?_ | refine wSkip ?_); try simp) | ((first | refine wLabel ?_ | refine wOn ?_ | refine wQn ?_); try simp only [thenA_n])
   simp only [thenA_p, blockA_p]
   apply hp
   simp [AResP, outB, renB, gaN, b0, hw]
 rw [if_neg o4] at hrd
 rw [<- hrd, rdO_ok, show a + (i + 1) = q + 1 by omega] at hr
 have f1 := and1 u' hst.2
 have f2 := shr1 u'
 have f3 := unz_fact u' hst.2
 simp at f1 f2 f3
 have hlast : ∀ st : St, st.s 2 = .p (I (unzz u')) -> st.b 1024 = some (.box 205 [.p (.sl 1 (by8 b)), .p (I ((q + 1 : Nat) : Int))]) -> Q .ret st := fun st h1 h2 => by
  apply hr
  refine ⟨[], by simp, by simp, ?_⟩
  simp [Try.f144, outR, outB, renB, gaN, h1, h2]
 have o1x : (i : Int) = 9 -> ¬ (1 : Int) < (x : Int) := by omega
 by_cases o3 : i = 9
 ·have o3' : ((i : Int) = 9) = True := by simp; omega
  have o3t : (i = 9) = True := by simp [o3]
  have o1y : ¬ (1 : Int) < (x : Int) := by omega
  have o5' : (0 : Int) < (i : Int) := by omega
  have o4' : ¬ (x : Int) = 0 := by omega
  have o4n : ¬ x = 0 := by omega
  have o5n : 0 < i := by omega
  repeat' first | (refine hK _ ?_; clear hK) | (refine hK _ _ ?_; clear hK) | (clear hK; refine hK _ ?_; clear hK) | (clear hK; clear hK; refine hK _ ?_; clear hK) | (clear hK; clear hK; clear hK; refine hK _ ?_; clear hK) | (clear hK; clear hK; clear hK; clear hK; refine hK _ ?_; clear hK) | (refine wSeq fun K hK => ?_) | ((first | refine wReg ?_ | refine wDrwQ rfl (by kernel_rfl) ?_ | refine wDrwI ?_ | refine wDrw (by kernel_rfl) ?_); simp only [List.map_cons, List.map_nil, strip]) | ((first | refine wIs fun K hK => ?_ | refine wOs fun K hK => ?_ | refine wQs fun K hK => ?_ | refine CallK_plain ?_ | refine CallQ_plain ?_ | refine CallR_plain ?_ | refine wCond ?_); simp [g0, g3, g6, b0, hi10, hlt, hlt', hne, hw, he, hcq, hcx, o2', o2, o3', o3t, o1y, o4', o4n, o5n, o5', h8, hor, hw7, hn7, ht7, hcv, f1, f2, f3]) | (refine wIn ?_; refine And.intro (by kernel_rfl) ?_; try simp only [thenA_n]) | (first | refine wBlock ?_ | refine wScope ?_) | ((first | refine wRet ?_ | refine wExit ?_ | refine wSkip ?_); try simp) | ((first | refine wLabel ?_ | refine wOn ?_ | refine wQn ?_); try simp only [thenA_n])
  apply hlast
  all_goals simp [g0, g3, g6, b0, hw, h8, hor, hw7, hn7, ht7, hcv, f1, f2, f3]
 ·have o3' : ¬ (i : Int) = 9 := by omega
  by_cases o4x : x = 0
  ·have o4' : ((x : Int) = 0) = True := by simp; omega
   have o4t : (x = 0) = True := by simp [o4x]
   have o5' : ¬ (0 : Int) < (i : Int) := by omega
   have o5n : ¬ 0 < i := by omega
   repeat' first | (refine hK _ ?_; clear hK) | (refine hK _ _ ?_; clear hK) | (clear hK; refine hK _ ?_; clear hK) | (clear hK; clear hK; refine hK _ ?_; clear hK) | (clear hK; clear hK; clear hK; refine hK _ ?_; clear hK) | (clear hK; clear hK; clear hK; clear hK; refine hK _ ?_; clear hK) | (refine wSeq fun K hK => ?_) | ((first | refine wReg ?_ | refine wDrwQ rfl (by kernel_rfl) ?_ | refine wDrwI ?_ | refine wDrw (by kernel_rfl) ?_); simp only [List.map_cons, List.map_nil, strip]) | ((first | refine wIs fun K hK => ?_ | refine wOs fun K hK => ?_ | refine wQs fun K hK => ?_ | refine CallK_plain ?_ | refine CallQ_plain ?_ | refine CallR_plain ?_ | refine wCond ?_); simp [g0, g3, g6, b0, hi10, hlt, hlt', hne, hw, he, hcq, hcx, o2', o2, o3', o3, o4', o5', o4t, o5n, h8, hor, hw7, hn7, ht7, hcv, f1, f2, f3]) | (refine wIn ?_; refine And.intro (by kernel_rfl) ?_; try simp only [thenA_n]) | (first | refine wBlock ?_ | refine wScope ?_) | ((first | refine wRet ?_ | refine wExit ?_ | refine wSkip ?_); try simp) | ((first | refine wLabel ?_ | refine wOn ?_ | refine wQn ?_); try simp only [thenA_n])
   apply hlast
   all_goals simp [g0, g3, g6, b0, hw, h8, hor, hw7, hn7, ht7, hcv, f1, f2, f3]
  ·have o4' : ¬ (x : Int) = 0 := by omega
   repeat' first | (refine hK _ ?_; clear hK) | (refine hK _ _ ?_; clear hK) | (clear hK; refine hK _ ?_; clear hK) | (clear hK; clear hK; refine hK _ ?_; clear hK) | (clear hK; clear hK; clear hK; refine hK _ ?_; clear hK) | (clear hK; clear hK; clear hK; clear hK; refine hK _ ?_; clear hK) | (refine wSeq fun K hK => ?_) | ((first | refine wReg ?_ | refine wDrwQ rfl (by kernel_rfl) ?_ | refine wDrwI ?_ | refine wDrw (by kernel_rfl) ?_); simp only [List.map_cons, List.map_nil, strip]) | ((first | refine wIs fun K hK => ?_ | refine wOs fun K hK => ?_ | refine wQs fun K hK => ?_ | refine CallK_plain ?_ | refine CallQ_plain ?_ | refine CallR_plain ?_ | refine wCond ?_); simp [g0, g3, g6, b0, hi10, hlt, hlt', hne, hw, he, hcq, hcx, o2', o2, o3', o3, o4', o4x, h8, hor, hw7, hn7, ht7, hcv, f1, f2, f3]) | (refine wIn ?_; refine And.intro (by kernel_rfl) ?_; try simp only [thenA_n]) | (first | refine wBlock ?_ | refine wScope ?_) | ((first | refine wRet ?_ | refine wExit ?_ | refine wSkip ?_); try simp) | ((first | refine wLabel ?_ | refine wOn ?_ | refine wQn ?_); try simp only [thenA_n])
   apply hlast
   all_goals simp [g0, g3, g6, b0, hw, h8, hor, hw7, hn7, ht7, hcv, f1, f2, f3]
def rdT (a : Nat) (r : Int × Nat × Nat) : V := if r.1 = 0 then .tup [.p (I (unzz r.2.1)), .p (I ((a + r.2.2 : Nat) : Int)), .p (I 0)] else .tup [.p (I 0), .p (I 0), .p (I r.1)]
def intT (b : List UInt8) (at' : Int) : V := if at' < 0 \/ (b.length : Int) < at' then .tup [.p (I 0), .p (I 0), .p (I 1)] else rdT at'.toNat (rdU 0 0 (b.drop at'.toNat))
theorem rdT_ok {a u k : Nat} : rdT a (0, u, k) = .tup [.p (I (unzz u)), .p (I ((a + k : Nat) : Int)), .p (I 0)] := rfl
theorem rdT_err {a u k : Nat} {e : Int} (h : ¬ e = 0) : rdT a (e, u, k) = .tup [.p (I 0), .p (I 0), .p (I e)] := by unfold rdT; rw [if_neg h]
theorem unz_odd (u : Nat) (h : u < 18446744073709551616) (o : u % 2 = 1) : IntKind.i64.wrap ((18446744073709551615 - u / 2 : Nat) : Int) = unzz u := by
 unfold unzz; rw [if_pos o, IntKind.wrap_i64]; omega
theorem unz_even (u : Nat) (h : u < 18446744073709551616) (o : ¬ u % 2 = 1) : IntKind.i64.wrap ((u / 2 : Nat) : Int) = unzz u := by
 unfold unzz; rw [if_neg o, wrap_id (by omega) (by omega)]
set_option maxHeartbeats 2000000 in
theorem int01_con (b : List UInt8) (at' : Int) (hb : b.length <= 1000000000) : ACon Try.prog 131 [.p (.sl 1 (by8 b)), .p (I at')] (intT b at') := by
 by_cases h1 : at' < 0
 ·rw [show intT b at' = .tup [.p (I 0), .p (I 0), .p (I 1)] by unfold intT; rw [if_pos (.inl h1)]]
  refine wBody Try.tab Try.mixed Try.func131 rfl rfl Try.ntmps131 (by simp) (by simp) fun Q hr hn => ?_
  repeat' first | (refine hK _ ?_; clear hK) | (refine hK _ _ ?_; clear hK) | (clear hK; refine hK _ ?_; clear hK) | (clear hK; clear hK; refine hK _ ?_; clear hK) | (clear hK; clear hK; clear hK; refine hK _ ?_; clear hK) | (clear hK; clear hK; clear hK; clear hK; refine hK _ ?_; clear hK) | (refine wSeq fun K hK => ?_) | ((first | refine wReg ?_ | refine wDrwQ rfl (by kernel_rfl) ?_ | refine wDrwI ?_ | refine wDrw (by kernel_rfl) ?_); simp only [List.map_cons, List.map_nil, strip]) | ((first | refine wIs fun K hK => ?_ | refine wOs fun K hK => ?_ | refine wQs fun K hK => ?_ | refine CallK_plain ?_ | refine CallQ_plain ?_ | refine CallR_plain ?_ | refine wCond ?_); simp [h1]) | (refine wIn ?_; refine And.intro (by kernel_rfl) ?_; try simp only [thenA_n]) | (first | refine wBlock ?_ | refine wScope ?_) | ((first | refine wRet ?_ | refine wExit ?_ | refine wSkip ?_); try simp) | ((first | refine wLabel ?_ | refine wOn ?_ | refine wQn ?_); try simp only [thenA_n])
  all_goals apply hr
  all_goals simp [Try.f131]
 by_cases h2 : (b.length : Int) < at'
 ·rw [show intT b at' = .tup [.p (I 0), .p (I 0), .p (I 1)] by unfold intT; rw [if_pos (.inr h2)]]
  refine wBody Try.tab Try.mixed Try.func131 rfl rfl Try.ntmps131 (by simp) (by simp) fun Q hr hn => ?_
  repeat' first | (refine hK _ ?_; clear hK) | (refine hK _ _ ?_; clear hK) | (clear hK; refine hK _ ?_; clear hK) | (clear hK; clear hK; refine hK _ ?_; clear hK) | (clear hK; clear hK; clear hK; refine hK _ ?_; clear hK) | (clear hK; clear hK; clear hK; clear hK; refine hK _ ?_; clear hK) | (refine wSeq fun K hK => ?_) | ((first | refine wReg ?_ | refine wDrwQ rfl (by kernel_rfl) ?_ | refine wDrwI ?_ | refine wDrw (by kernel_rfl) ?_); simp only [List.map_cons, List.map_nil, strip]) | ((first | refine wIs fun K hK => ?_ | refine wOs fun K hK => ?_ | refine wQs fun K hK => ?_ | refine CallK_plain ?_ | refine CallQ_plain ?_ | refine CallR_plain ?_ | refine wCond ?_); simp [h1, h2]) | (refine wIn ?_; refine And.intro (by kernel_rfl) ?_; try simp only [thenA_n]) | (first | refine wBlock ?_ | refine wScope ?_) | ((first | refine wRet ?_ | refine wExit ?_ | refine wSkip ?_); try simp) | ((first | refine wLabel ?_ | refine wOn ?_ | refine wQn ?_); try simp only [thenA_n])
  all_goals apply hr
  all_goals simp [Try.f131]
 obtain ⟨a, rfl⟩ : ∃ a : Nat, at' = a := ⟨at'.toNat, by omega⟩
 rw [show intT b (a : Int) = rdT a (rdU 0 0 (b.drop a)) by unfold intT; rw [if_neg (by omega)]; simp]
 have hs0 : IntKind.i64.wrap ((b.length : Int) - (a : Int)) = (b.length : Int) - (a : Int) := wrap_id (by omega) (by omega)
 refine wBody Try.tab Try.mixed Try.func131 rfl rfl Try.ntmps131 (by simp) (by simp) fun Q hr hn => ?_
 repeat' first | (refine hK _ ?_; clear hK) | (refine hK _ _ ?_; clear hK) | (clear hK; refine hK _ ?_; clear hK) | (clear hK; clear hK; refine hK _ ?_; clear hK) | (clear hK; clear hK; clear hK; refine hK _ ?_; clear hK) | (clear hK; clear hK; clear hK; clear hK; refine hK _ ?_; clear hK) | (refine wSeq fun K hK => ?_) | ((first | refine wReg ?_ | refine wDrwQ rfl (by kernel_rfl) ?_ | refine wDrwI ?_ | refine wDrw (by kernel_rfl) ?_); simp only [List.map_cons, List.map_nil, strip]) | ((first | refine wIs fun K hK => ?_ | refine wOs fun K hK => ?_ | refine wQs fun K hK => ?_ | refine CallK_plain ?_ | refine CallQ_plain ?_ | refine CallR_plain ?_ | refine wCond ?_); simp [h1, h2]) | (refine wIn ?_; refine And.intro (by kernel_rfl) ?_; try simp only [thenA_n]) | (first | refine wBlock ?_ | refine wScope ?_) | ((first | refine wRet ?_ | refine wExit ?_ | refine wSkip ?_); try simp) | ((first | refine wLabel ?_ | refine wOn ?_ | refine wQn ?_); try simp only [thenA_n])
 refine wLoop (fun N st => ∃ i q u, i + N = 10 /\ i <= 9 /\ q = a + i /\ st.s 0 = .p (.sl 1 (by8 b)) /\ st.s 1 = .p (I a) /\ st.s 7 = .p (.v (.int .u64 (u : Nat))) /\ st.s 18 = .p (I i) /\ u < 128 ^ i /\ q <= b.length /\ rdU i u (b.drop q) = rdU 0 0 (b.drop a)) 10 ⟨0, a, 0, by simp; omega⟩ fun K N st hL ⟨i, q, u, hk, hi9, hq, g0, g1, g7, g18, hu, hqb, hrd⟩ => ?_
 have hi10 : (i : Int) < 10 := by omega
 by_cases hlt : q < b.length
 rotate_left
 ·have hae : q = b.length := by omega
  rw [List.drop_of_length_le (by omega), rdU] at hrd
  rw [<- hrd, rdT_err (by decide)] at hr
  have hae' : (b.length : Int) - (a : Int) <= (i : Int) := by omega
  repeat' first | (refine hK _ ?_; clear hK) | (refine hK _ _ ?_; clear hK) | (clear hK; refine hK _ ?_; clear hK) | (clear hK; clear hK; refine hK _ ?_; clear hK) | (clear hK; clear hK; clear hK; refine hK _ ?_; clear hK) | (clear hK; clear hK; clear hK; clear hK; refine hK _ ?_; clear hK) | (refine wSeq fun K hK => ?_) | ((first | refine wReg ?_ | refine wDrwQ rfl (by kernel_rfl) ?_ | refine wDrwI ?_ | refine wDrw (by kernel_rfl) ?_); simp only [List.map_cons, List.map_nil, strip]) | ((first | refine wIs fun K hK => ?_ | refine wOs fun K hK => ?_ | refine wQs fun K hK => ?_ | refine CallK_plain ?_ | refine CallQ_plain ?_ | refine CallR_plain ?_ | refine wCond ?_); simp [g0, g1, g7, g18, hi10, hs0, hae']) | (refine wIn ?_; refine And.intro (by kernel_rfl) ?_; try simp only [thenA_n]) | (first | refine wBlock ?_ | refine wScope ?_) | ((first | refine wRet ?_ | refine wExit ?_ | refine wSkip ?_); try simp) | ((first | refine wLabel ?_ | refine wOn ?_ | refine wQn ?_); try simp only [thenA_n])
  all_goals apply hr
  all_goals simp [Try.f131]
 have hlt' : ¬ (b.length : Int) - (a : Int) <= (i : Int) := by omega
 have hw : IntKind.i64.wrap ((a : Int) + (i : Int)) = (q : Int) := by rw [wrap_id (by omega) (by omega)]; omega
 have hw1 : IntKind.i64.wrap ((q : Int) + 1) = ((q + 1 : Nat) : Int) := by rw [wrap_id (by omega) (by omega)]; omega
 have hwi := wrapS i 10 (by omega) (by omega)
 have he := by8_get hlt
 rw [List.drop_eq_getElem_cons hlt, rdU] at hrd
 have hc256 := b[q].toNat_lt
 generalize hcq : b[q] = c at he hrd hc256
 obtain ⟨x, hx⟩ : ∃ x : Nat, x = c.toNat := ⟨_, rfl⟩
 rw [<- hx] at he hrd hc256
 have h8 := and8_fact c
 rw [<- hx] at h8
 have hcx : c.toNat = x := hx.symm
 simp at h8
 by_cases o1 : i = 9 /\ 1 < x
 ·rw [if_pos o1] at hrd
  rw [<- hrd, rdT_err (by decide)] at hr
  have o1' : (1 : Int) < (x : Int) := by omega
  have o2' : ((i : Int) = 9) = True := by simp; omega
  have o1t : (i = 9) = True := by simp [o1.1]
  have o1n := o1.2
  repeat' first | (refine hK _ ?_; clear hK) | (refine hK _ _ ?_; clear hK) | (clear hK; refine hK _ ?_; clear hK) | (clear hK; clear hK; refine hK _ ?_; clear hK) | (clear hK; clear hK; clear hK; refine hK _ ?_; clear hK) | (clear hK; clear hK; clear hK; clear hK; refine hK _ ?_; clear hK) | (refine wSeq fun K hK => ?_) | ((first | refine wReg ?_ | refine wDrwQ rfl (by kernel_rfl) ?_ | refine wDrwI ?_ | refine wDrw (by kernel_rfl) ?_); simp only [List.map_cons, List.map_nil, strip]) | ((first | refine wIs fun K hK => ?_ | refine wOs fun K hK => ?_ | refine wQs fun K hK => ?_ | refine CallK_plain ?_ | refine CallQ_plain ?_ | refine CallR_plain ?_ | refine wCond ?_); simp [g0, g1, g7, g18, hi10, hs0, hlt, hlt', hw, he, hcq, hcx, o1', o2', o1t, o1n]) | (refine wIn ?_; refine And.intro (by kernel_rfl) ?_; try simp only [thenA_n]) | (first | refine wBlock ?_ | refine wScope ?_) | ((first | refine wRet ?_ | refine wExit ?_ | refine wSkip ?_); try simp) | ((first | refine wLabel ?_ | refine wOn ?_ | refine wQn ?_); try simp only [thenA_n])
  all_goals apply hr
  all_goals simp [Try.f131]
 rw [if_neg o1] at hrd
 have hxm : x % 128 < 128 := by omega
 have hor := or64_fact (x := x % 128) hu hxm hi9 (by omega)
 have hst := step_lt64 (x := x % 128) hu hxm hi9 (by omega)
 have hsl := step_lt (x := x % 128) hu hxm
 generalize u + x % 128 * 128 ^ i = u' at hor hst hsl hrd
 have hw7 : IntKind.i64.wrap (7 * (i : Int)) = 7 * (i : Int) := wrap_id (by omega) (by omega)
 have hn7 : ¬ 7 * (i : Int) < 0 := by omega
 have ht7 : (7 * (i : Int)).toNat = 7 * i := by omega
 have hu7 : IntKind.u64.wrap (7 * (i : Int)) = 7 * (i : Int) := by rw [u64_wrap]; omega
 have hcv : IntKind.u64.wrap ((x % 128 : Nat) : Int) = ((x % 128 : Nat) : Int) := by rw [u64_wrap]; omega
 simp at hor hcv
 by_cases o2 : 128 <= x
 ·rw [if_pos o2] at hrd
  have o2' : (128 : Int) <= (x : Int) := by omega
  have o3' : ¬ (i : Int) = 9 := by omega
  have o3 : ¬ i = 9 := by omega
  repeat' first | (refine hK _ ?_; clear hK) | (refine hK _ _ ?_; clear hK) | (clear hK; refine hK _ ?_; clear hK) | (clear hK; clear hK; refine hK _ ?_; clear hK) | (clear hK; clear hK; clear hK; refine hK _ ?_; clear hK) | (clear hK; clear hK; clear hK; clear hK; refine hK _ ?_; clear hK) | (refine wSeq fun K hK => ?_) | ((first | refine wReg ?_ | refine wDrwQ rfl (by kernel_rfl) ?_ | refine wDrwI ?_ | refine wDrw (by kernel_rfl) ?_); simp only [List.map_cons, List.map_nil, strip]) | ((first | refine wIs fun K hK => ?_ | refine wOs fun K hK => ?_ | refine wQs fun K hK => ?_ | refine CallK_plain ?_ | refine CallQ_plain ?_ | refine CallR_plain ?_ | refine wCond ?_); simp [g0, g1, g7, g18, hi10, hs0, hlt, hlt', hw, he, hcq, hcx, o2', o2, o3, o3', h8, hor, hw7, hn7, ht7, hu7, hcv, hwi]) | (refine wIn ?_; refine And.intro (by kernel_rfl) ?_; try simp only [thenA_n]) | (first | refine wBlock ?_ | refine wScope ?_) | ((first | refine wRet ?_ | refine wExit ?_ | refine wSkip ?_); try simp) | ((first | refine wLabel ?_ | refine wOn ?_ | refine wQn ?_); try simp only [thenA_n])
  refine hL _ (N - 1) (by omega) ⟨i + 1, q + 1, u', by omega, by omega, by omega, ?_⟩
  simp [g0, g1, g7, g18, hw, hwi, h8, hor, hw7, hn7, ht7, hu7, hcv, hsl, hrd]
  omega
 rw [if_neg o2] at hrd
 have o2' : ¬ (128 : Int) <= (x : Int) := by omega
 by_cases o4 : x = 0 /\ 0 < i
 ·rw [if_pos o4] at hrd
  rw [<- hrd, rdT_err (by decide)] at hr
  obtain ⟨o4, o5⟩ := o4
  have o4' : ((x : Int) = 0) = True := by simp; omega
  have o4t : (x = 0) = True := by simp [o4]
  have o5' : (0 : Int) < (i : Int) := by omega
  have o1x : ¬ (1 : Int) < (x : Int) := by omega
  by_cases o3 : i = 9
  ·have o3' : ((i : Int) = 9) = True := by simp; omega
   have o3t : (i = 9) = True := by simp [o3]
   repeat' first | (refine hK _ ?_; clear hK) | (refine hK _ _ ?_; clear hK) | (clear hK; refine hK _ ?_; clear hK) | (clear hK; clear hK; refine hK _ ?_; clear hK) | (clear hK; clear hK; clear hK; refine hK _ ?_; clear hK) | (clear hK; clear hK; clear hK; clear hK; refine hK _ ?_; clear hK) | (refine wSeq fun K hK => ?_) | ((first | refine wReg ?_ | refine wDrwQ rfl (by kernel_rfl) ?_ | refine wDrwI ?_ | refine wDrw (by kernel_rfl) ?_); simp only [List.map_cons, List.map_nil, strip]) | ((first | refine wIs fun K hK => ?_ | refine wOs fun K hK => ?_ | refine wQs fun K hK => ?_ | refine CallK_plain ?_ | refine CallQ_plain ?_ | refine CallR_plain ?_ | refine wCond ?_); simp [g0, g1, g7, g18, hi10, hs0, hlt, hlt', hw, he, hcq, hcx, o2', o2, o3', o3t, o1x, o4', o4t, o5, o5', h8, hor, hw7, hn7, ht7, hu7, hcv]) | (refine wIn ?_; refine And.intro (by kernel_rfl) ?_; try simp only [thenA_n]) | (first | refine wBlock ?_ | refine wScope ?_) | ((first | refine wRet ?_ | refine wExit ?_ | refine wSkip ?_); try simp) | ((first | refine wLabel ?_ | refine wOn ?_ | refine wQn ?_); try simp only [thenA_n])
   all_goals apply hr
   all_goals simp [Try.f131]
  ·have o3' : ¬ (i : Int) = 9 := by omega
   repeat' first | (refine hK _ ?_; clear hK) | (refine hK _ _ ?_; clear hK) | (clear hK; refine hK _ ?_; clear hK) | (clear hK; clear hK; refine hK _ ?_; clear hK) | (clear hK; clear hK; clear hK; refine hK _ ?_; clear hK) | (clear hK; clear hK; clear hK; clear hK; refine hK _ ?_; clear hK) | (refine wSeq fun K hK => ?_) | ((first | refine wReg ?_ | refine wDrwQ rfl (by kernel_rfl) ?_ | refine wDrwI ?_ | refine wDrw (by kernel_rfl) ?_); simp only [List.map_cons, List.map_nil, strip]) | ((first | refine wIs fun K hK => ?_ | refine wOs fun K hK => ?_ | refine wQs fun K hK => ?_ | refine CallK_plain ?_ | refine CallQ_plain ?_ | refine CallR_plain ?_ | refine wCond ?_); simp [g0, g1, g7, g18, hi10, hs0, hlt, hlt', hw, he, hcq, hcx, o2', o2, o3', o3, o1x, o4', o4t, o5, o5', h8, hor, hw7, hn7, ht7, hu7, hcv]) | (refine wIn ?_; refine And.intro (by kernel_rfl) ?_; try simp only [thenA_n]) | (first | refine wBlock ?_ | refine wScope ?_) | ((first | refine wRet ?_ | refine wExit ?_ | refine wSkip ?_); try simp) | ((first | refine wLabel ?_ | refine wOn ?_ | refine wQn ?_); try simp only [thenA_n])
   all_goals apply hr
   all_goals simp [Try.f131]
 rw [if_neg o4] at hrd
 rw [<- hrd, rdT_ok, show a + (i + 1) = q + 1 by omega] at hr
 have f1 := and1 u' hst.2
 have f2 := shr1 u'
 have f3 := not64 (u' / 2) (by omega)
 have f4 := unz_odd u' hst.2
 have f5 := unz_even u' hst.2
 simp at f1 f2 f3
 have hlast : ∀ st : St, st.s 4 = .p (I (unzz u')) -> st.s 5 = .p (I ((q + 1 : Nat) : Int)) -> st.s 6 = .p (I 0) -> Q .ret st := fun st h1 h2 h3 => by
  apply hr
  simp [Try.f131, h1, h2, h3]
 by_cases o6 : u' % 2 = 1
 ·have f4 := f4 o6
  have o6' : ((u' : Int) % 2 = 1) = True := by simp; omega
  try simp at f4
  by_cases o3 : i = 9
  ·have o3' : ((i : Int) = 9) = True := by simp; omega
   have o3t : (i = 9) = True := by simp [o3]
   have o1y : ¬ (1 : Int) < (x : Int) := by omega
   have o5' : (0 : Int) < (i : Int) := by omega
   have o4' : ¬ (x : Int) = 0 := by omega
   have o4n : ¬ x = 0 := by omega
   have o5n : 0 < i := by omega
   repeat' first | (refine hK _ ?_; clear hK) | (refine hK _ _ ?_; clear hK) | (clear hK; refine hK _ ?_; clear hK) | (clear hK; clear hK; refine hK _ ?_; clear hK) | (clear hK; clear hK; clear hK; refine hK _ ?_; clear hK) | (clear hK; clear hK; clear hK; clear hK; refine hK _ ?_; clear hK) | (refine wSeq fun K hK => ?_) | ((first | refine wReg ?_ | refine wDrwQ rfl (by kernel_rfl) ?_ | refine wDrwI ?_ | refine wDrw (by kernel_rfl) ?_); simp only [List.map_cons, List.map_nil, strip]) | ((first | refine wIs fun K hK => ?_ | refine wOs fun K hK => ?_ | refine wQs fun K hK => ?_ | refine CallK_plain ?_ | refine CallQ_plain ?_ | refine CallR_plain ?_ | refine wCond ?_); simp [g0, g1, g7, g18, hi10, hs0, hlt, hlt', hw, hw1, he, hcq, hcx, o2', o2, o3', o3t, o1y, o4', o4n, o5n, o5', h8, hor, hw7, hn7, ht7, hu7, hcv, f1, f2, f3, f4, o6']) | (refine wIn ?_; refine And.intro (by kernel_rfl) ?_; try simp only [thenA_n]) | (first | refine wBlock ?_ | refine wScope ?_) | ((first | refine wRet ?_ | refine wExit ?_ | refine wSkip ?_); try simp) | ((first | refine wLabel ?_ | refine wOn ?_ | refine wQn ?_); try simp only [thenA_n])
   all_goals apply hlast
   all_goals simp [g0, g1, g7, g18, hw, hw1, h8, hor, hw7, hn7, ht7, hu7, hcv, f1, f2, f3, f4]
  ·have o3' : ¬ (i : Int) = 9 := by omega
   by_cases o4x : x = 0
   ·have o4' : ((x : Int) = 0) = True := by simp; omega
    have o4t : (x = 0) = True := by simp [o4x]
    have o5' : ¬ (0 : Int) < (i : Int) := by omega
    have o5n : ¬ 0 < i := by omega
    repeat' first | (refine hK _ ?_; clear hK) | (refine hK _ _ ?_; clear hK) | (clear hK; refine hK _ ?_; clear hK) | (clear hK; clear hK; refine hK _ ?_; clear hK) | (clear hK; clear hK; clear hK; refine hK _ ?_; clear hK) | (clear hK; clear hK; clear hK; clear hK; refine hK _ ?_; clear hK) | (refine wSeq fun K hK => ?_) | ((first | refine wReg ?_ | refine wDrwQ rfl (by kernel_rfl) ?_ | refine wDrwI ?_ | refine wDrw (by kernel_rfl) ?_); simp only [List.map_cons, List.map_nil, strip]) | ((first | refine wIs fun K hK => ?_ | refine wOs fun K hK => ?_ | refine wQs fun K hK => ?_ | refine CallK_plain ?_ | refine CallQ_plain ?_ | refine CallR_plain ?_ | refine wCond ?_); simp [g0, g1, g7, g18, hi10, hs0, hlt, hlt', hw, hw1, he, hcq, hcx, o2', o2, o3', o3, o4', o5', o4t, o5n, h8, hor, hw7, hn7, ht7, hu7, hcv, f1, f2, f3, f4, o6']) | (refine wIn ?_; refine And.intro (by kernel_rfl) ?_; try simp only [thenA_n]) | (first | refine wBlock ?_ | refine wScope ?_) | ((first | refine wRet ?_ | refine wExit ?_ | refine wSkip ?_); try simp) | ((first | refine wLabel ?_ | refine wOn ?_ | refine wQn ?_); try simp only [thenA_n])
    all_goals apply hlast
    all_goals simp [g0, g1, g7, g18, hw, hw1, h8, hor, hw7, hn7, ht7, hu7, hcv, f1, f2, f3, f4]
   ·have o4' : ¬ (x : Int) = 0 := by omega
    repeat' first | (refine hK _ ?_; clear hK) | (refine hK _ _ ?_; clear hK) | (clear hK; refine hK _ ?_; clear hK) | (clear hK; clear hK; refine hK _ ?_; clear hK) | (clear hK; clear hK; clear hK; refine hK _ ?_; clear hK) | (clear hK; clear hK; clear hK; clear hK; refine hK _ ?_; clear hK) | (refine wSeq fun K hK => ?_) | ((first | refine wReg ?_ | refine wDrwQ rfl (by kernel_rfl) ?_ | refine wDrwI ?_ | refine wDrw (by kernel_rfl) ?_); simp only [List.map_cons, List.map_nil, strip]) | ((first | refine wIs fun K hK => ?_ | refine wOs fun K hK => ?_ | refine wQs fun K hK => ?_ | refine CallK_plain ?_ | refine CallQ_plain ?_ | refine CallR_plain ?_ | refine wCond ?_); simp [g0, g1, g7, g18, hi10, hs0, hlt, hlt', hw, hw1, he, hcq, hcx, o2', o2, o3', o3, o4', o4x, h8, hor, hw7, hn7, ht7, hu7, hcv, f1, f2, f3, f4, o6']) | (refine wIn ?_; refine And.intro (by kernel_rfl) ?_; try simp only [thenA_n]) | (first | refine wBlock ?_ | refine wScope ?_) | ((first | refine wRet ?_ | refine wExit ?_ | refine wSkip ?_); try simp) | ((first | refine wLabel ?_ | refine wOn ?_ | refine wQn ?_); try simp only [thenA_n])
    all_goals apply hlast
    all_goals simp [g0, g1, g7, g18, hw, hw1, h8, hor, hw7, hn7, ht7, hu7, hcv, f1, f2, f3, f4]
 ·have f5 := f5 o6
  have o6' : ¬ (u' : Int) % 2 = 1 := by omega
  try simp at f5
  by_cases o3 : i = 9
  ·have o3' : ((i : Int) = 9) = True := by simp; omega
   have o3t : (i = 9) = True := by simp [o3]
   have o1y : ¬ (1 : Int) < (x : Int) := by omega
   have o5' : (0 : Int) < (i : Int) := by omega
   have o4' : ¬ (x : Int) = 0 := by omega
   have o4n : ¬ x = 0 := by omega
   have o5n : 0 < i := by omega
   repeat' first | (refine hK _ ?_; clear hK) | (refine hK _ _ ?_; clear hK) | (clear hK; refine hK _ ?_; clear hK) | (clear hK; clear hK; refine hK _ ?_; clear hK) | (clear hK; clear hK; clear hK; refine hK _ ?_; clear hK) | (clear hK; clear hK; clear hK; clear hK; refine hK _ ?_; clear hK) | (refine wSeq fun K hK => ?_) | ((first | refine wReg ?_ | refine wDrwQ rfl (by kernel_rfl) ?_ | refine wDrwI ?_ | refine wDrw (by kernel_rfl) ?_); simp only [List.map_cons, List.map_nil, strip]) | ((first | refine wIs fun K hK => ?_ | refine wOs fun K hK => ?_ | refine wQs fun K hK => ?_ | refine CallK_plain ?_ | refine CallQ_plain ?_ | refine CallR_plain ?_ | refine wCond ?_); simp [g0, g1, g7, g18, hi10, hs0, hlt, hlt', hw, hw1, he, hcq, hcx, o2', o2, o3', o3t, o1y, o4', o4n, o5n, o5', h8, hor, hw7, hn7, ht7, hu7, hcv, f1, f2, f3, f5, o6']) | (refine wIn ?_; refine And.intro (by kernel_rfl) ?_; try simp only [thenA_n]) | (first | refine wBlock ?_ | refine wScope ?_) | ((first | refine wRet ?_ | refine wExit ?_ | refine wSkip ?_); try simp) | ((first | refine wLabel ?_ | refine wOn ?_ | refine wQn ?_); try simp only [thenA_n])
   all_goals apply hlast
   all_goals simp [g0, g1, g7, g18, hw, hw1, h8, hor, hw7, hn7, ht7, hu7, hcv, f1, f2, f3, f5]
  ·have o3' : ¬ (i : Int) = 9 := by omega
   by_cases o4x : x = 0
   ·have o4' : ((x : Int) = 0) = True := by simp; omega
    have o4t : (x = 0) = True := by simp [o4x]
    have o5' : ¬ (0 : Int) < (i : Int) := by omega
    have o5n : ¬ 0 < i := by omega
    repeat' first | (refine hK _ ?_; clear hK) | (refine hK _ _ ?_; clear hK) | (clear hK; refine hK _ ?_; clear hK) | (clear hK; clear hK; refine hK _ ?_; clear hK) | (clear hK; clear hK; clear hK; refine hK _ ?_; clear hK) | (clear hK; clear hK; clear hK; clear hK; refine hK _ ?_; clear hK) | (refine wSeq fun K hK => ?_) | ((first | refine wReg ?_ | refine wDrwQ rfl (by kernel_rfl) ?_ | refine wDrwI ?_ | refine wDrw (by kernel_rfl) ?_); simp only [List.map_cons, List.map_nil, strip]) | ((first | refine wIs fun K hK => ?_ | refine wOs fun K hK => ?_ | refine wQs fun K hK => ?_ | refine CallK_plain ?_ | refine CallQ_plain ?_ | refine CallR_plain ?_ | refine wCond ?_); simp [g0, g1, g7, g18, hi10, hs0, hlt, hlt', hw, hw1, he, hcq, hcx, o2', o2, o3', o3, o4', o5', o4t, o5n, h8, hor, hw7, hn7, ht7, hu7, hcv, f1, f2, f3, f5, o6']) | (refine wIn ?_; refine And.intro (by kernel_rfl) ?_; try simp only [thenA_n]) | (first | refine wBlock ?_ | refine wScope ?_) | ((first | refine wRet ?_ | refine wExit ?_ | refine wSkip ?_); try simp) | ((first | refine wLabel ?_ | refine wOn ?_ | refine wQn ?_); try simp only [thenA_n])
    all_goals apply hlast
    all_goals simp [g0, g1, g7, g18, hw, hw1, h8, hor, hw7, hn7, ht7, hu7, hcv, f1, f2, f3, f5]
   ·have o4' : ¬ (x : Int) = 0 := by omega
    repeat' first | (refine hK _ ?_; clear hK) | (refine hK _ _ ?_; clear hK) | (clear hK; refine hK _ ?_; clear hK) | (clear hK; clear hK; refine hK _ ?_; clear hK) | (clear hK; clear hK; clear hK; refine hK _ ?_; clear hK) | (clear hK; clear hK; clear hK; clear hK; refine hK _ ?_; clear hK) | (refine wSeq fun K hK => ?_) | ((first | refine wReg ?_ | refine wDrwQ rfl (by kernel_rfl) ?_ | refine wDrwI ?_ | refine wDrw (by kernel_rfl) ?_); simp only [List.map_cons, List.map_nil, strip]) | ((first | refine wIs fun K hK => ?_ | refine wOs fun K hK => ?_ | refine wQs fun K hK => ?_ | refine CallK_plain ?_ | refine CallQ_plain ?_ | refine CallR_plain ?_ | refine wCond ?_); simp [g0, g1, g7, g18, hi10, hs0, hlt, hlt', hw, hw1, he, hcq, hcx, o2', o2, o3', o3, o4', o4x, h8, hor, hw7, hn7, ht7, hu7, hcv, f1, f2, f3, f5, o6']) | (refine wIn ?_; refine And.intro (by kernel_rfl) ?_; try simp only [thenA_n]) | (first | refine wBlock ?_ | refine wScope ?_) | ((first | refine wRet ?_ | refine wExit ?_ | refine wSkip ?_); try simp) | ((first | refine wLabel ?_ | refine wOn ?_ | refine wQn ?_); try simp only [thenA_n])
    all_goals apply hlast
    all_goals simp [g0, g1, g7, g18, hw, hw1, h8, hor, hw7, hn7, ht7, hu7, hcv, f1, f2, f3, f5]
section
variable (b : List UInt8) (at' : Int) (X : PV)
abbrev rbI (g : FuncId) (x : V) (q : Int) : List Blk := [.box 3 [.p (I at')], .box 22 [.p (.sl 1 (by8 b))], .box 200 [.p (.v (.func (.func g) #[] #[]))], .box 201 [.ptr 1029 0], .box 3 [x], .box 205 [.p (.sl 1 (by8 b)), .p (I q)]]
abbrev raI : List V := [.ptr 1024 0, .ptr 1025 0, .ptr 1026 0, .ptr 1027 0, .ptr 1028 0]
theorem rcBad_I (g : FuncId) (h : at' < 0 \/ (b.length : Int) < at') : Con Try.prog 148 raI (rbI b at' g (.p (I 0)) at') (.pan (.iface 192 (.int .i64 1)) (rbI b at' g (.p (I 0)) at')) := by
 have e1 := give_con 1 (by decide)
 by_cases h1 : at' < 0
 ·refine wBodyG Try.tab Try.mixed Try.func148 rfl rfl Try.ntmps148 (by simp) (by simp) fun Q hr hn hp => ?_
  repeat' first | (refine CallE.pan e1 ?_) | (refine hK _ ?_; clear hK) | (refine hK _ _ ?_; clear hK) | (clear hK; refine hK _ ?_; clear hK) | (clear hK; clear hK; refine hK _ ?_; clear hK) | (clear hK; clear hK; clear hK; refine hK _ ?_; clear hK) | (clear hK; clear hK; clear hK; clear hK; refine hK _ ?_; clear hK) | (refine wSeq fun K hK => ?_) | ((first | refine wReg ?_ | refine wDrwQ rfl (by kernel_rfl) ?_ | refine wDrwI ?_ | refine wDrw (by kernel_rfl) ?_); simp only [List.map_cons, List.map_nil, strip]) | ((first | refine wIs fun K hK => ?_ | refine wOs fun K hK => ?_ | refine wQs fun K hK => ?_ | refine CallK_plain ?_ | refine CallQ_plain ?_ | refine CallR_plain ?_ | refine wCond ?_); simp [h1]) | (refine wIn ?_; refine And.intro (by kernel_rfl) ?_; try simp only [thenA_n]) | (first | refine wBlock ?_ | refine wScope ?_) | ((first | refine wRet ?_ | refine wExit ?_ | refine wSkip ?_); try simp) | ((first | refine wLabel ?_ | refine wOn ?_ | refine wQn ?_); try simp only [thenA_n])
  all_goals try simp only [thenA_p, blockA_p]
  all_goals apply hp
  all_goals simp [AResP, outB, renB, gaN]
 ·have h2 : (b.length : Int) < at' := by omega
  refine wBodyG Try.tab Try.mixed Try.func148 rfl rfl Try.ntmps148 (by simp) (by simp) fun Q hr hn hp => ?_
  repeat' first | (refine CallE.pan e1 ?_) | (refine hK _ ?_; clear hK) | (refine hK _ _ ?_; clear hK) | (clear hK; refine hK _ ?_; clear hK) | (clear hK; clear hK; refine hK _ ?_; clear hK) | (clear hK; clear hK; clear hK; refine hK _ ?_; clear hK) | (clear hK; clear hK; clear hK; clear hK; refine hK _ ?_; clear hK) | (refine wSeq fun K hK => ?_) | ((first | refine wReg ?_ | refine wDrwQ rfl (by kernel_rfl) ?_ | refine wDrwI ?_ | refine wDrw (by kernel_rfl) ?_); simp only [List.map_cons, List.map_nil, strip]) | ((first | refine wIs fun K hK => ?_ | refine wOs fun K hK => ?_ | refine wQs fun K hK => ?_ | refine CallK_plain ?_ | refine CallQ_plain ?_ | refine CallR_plain ?_ | refine wCond ?_); simp [h1, h2]) | (refine wIn ?_; refine And.intro (by kernel_rfl) ?_; try simp only [thenA_n]) | (first | refine wBlock ?_ | refine wScope ?_) | ((first | refine wRet ?_ | refine wExit ?_ | refine wSkip ?_); try simp) | ((first | refine wLabel ?_ | refine wOn ?_ | refine wQn ?_); try simp only [thenA_n])
  all_goals try simp only [thenA_p, blockA_p]
  all_goals apply hp
  all_goals simp [AResP, outB, renB, gaN]
theorem rcOk_I (h : ¬ at' < 0 /\ ¬ (b.length : Int) < at') (q : Int) (hX : ∃ n, X = I n)
 (hc : Con Try.prog 144 [.ptr 1024 0] [.box 205 [.p (.sl 1 (by8 b)), .p (I at')]] (.ret (.p X) [] [.box 205 [.p (.sl 1 (by8 b)), .p (I q)]])) :
 Con Try.prog 148 raI (rbI b at' 144 (.p (I 0)) at') (.ret (.tup []) [] (rbI b at' 144 (.p X) q)) := by
 obtain ⟨xn, rfl⟩ := hX
 obtain ⟨h1, h2⟩ := h
 refine wBodyG Try.tab Try.mixed Try.func148 rfl rfl Try.ntmps148 (by simp) (by simp) fun Q hr hn hp => ?_
 repeat' first | (refine CallK_gen [1029] hc (by decide) (by decide) (by simp [blksOf, inN, pos, renB, ren0]) (by simp [argsG, argG, ren0, inN, pos, renCs, renC]) ⟨[], by simp, by simp, ?_⟩; simp [lv, ouN, kpI, kpR, pos, ren, ren0, renB, renC, renCs]) | (refine hK _ ?_; clear hK) | (refine hK _ _ ?_; clear hK) | (clear hK; refine hK _ ?_; clear hK) | (clear hK; clear hK; refine hK _ ?_; clear hK) | (clear hK; clear hK; clear hK; refine hK _ ?_; clear hK) | (clear hK; clear hK; clear hK; clear hK; refine hK _ ?_; clear hK) | (refine wSeq fun K hK => ?_) | ((first | refine wReg ?_ | refine wDrwQ rfl (by kernel_rfl) ?_ | refine wDrwI ?_ | refine wDrw (by kernel_rfl) ?_); simp only [List.map_cons, List.map_nil, strip]) | ((first | refine wIs fun K hK => ?_ | refine wOs fun K hK => ?_ | refine wQs fun K hK => ?_ | refine CallK_plain ?_ | refine CallQ_plain ?_ | refine CallR_plain ?_ | refine wCond ?_); simp [h1, h2, lv, ouN, kpI, kpR, pos, ren, ren0, renB, renC, renCs]) | (refine wIn ?_; refine And.intro (by kernel_rfl) ?_; try simp only [thenA_n]) | (first | refine wBlock ?_ | refine wScope ?_) | ((first | refine wRet ?_ | refine wExit ?_ | refine wSkip ?_); try simp) | ((first | refine wLabel ?_ | refine wOn ?_ | refine wQn ?_); try simp only [thenA_n])
 all_goals first | apply hr | apply hn
 all_goals refine ⟨[], by simp, by simp, ?_⟩
 all_goals simp [Try.f148, outR, outB, renB, gaN, lv, ouN, kpI, kpR, pos, ren, ren0, renC, renCs]
theorem rcPan_I (h : ¬ at' < 0 /\ ¬ (b.length : Int) < at') (q e : Int)
 (hc : Con Try.prog 144 [.ptr 1024 0] [.box 205 [.p (.sl 1 (by8 b)), .p (I at')]] (.pan (.iface 192 (.int .i64 e)) [.box 205 [.p (.sl 1 (by8 b)), .p (I q)]])) :
 Con Try.prog 148 raI (rbI b at' 144 (.p (I 0)) at') (.pan (.iface 192 (.int .i64 e)) (rbI b at' 144 (.p (I 0)) q)) := by
 obtain ⟨h1, h2⟩ := h
 refine wBodyG Try.tab Try.mixed Try.func148 rfl rfl Try.ntmps148 (by simp) (by simp) fun Q hr hn hp => ?_
 repeat' first | (refine CallK_gen [1029] hc (by decide) (by decide) (by simp [blksOf, inN, pos, renB, ren0]) (by simp [argsG, argG, ren0, inN, pos, renCs, renC]) ?_; simp [GenK, lv, ouN, kpI, kpR, pos, ren, ren0, renB, renC, renCs]) | (refine hK _ ?_; clear hK) | (refine hK _ _ ?_; clear hK) | (clear hK; refine hK _ ?_; clear hK) | (clear hK; clear hK; refine hK _ ?_; clear hK) | (clear hK; clear hK; clear hK; refine hK _ ?_; clear hK) | (clear hK; clear hK; clear hK; clear hK; refine hK _ ?_; clear hK) | (refine wSeq fun K hK => ?_) | ((first | refine wReg ?_ | refine wDrwQ rfl (by kernel_rfl) ?_ | refine wDrwI ?_ | refine wDrw (by kernel_rfl) ?_); simp only [List.map_cons, List.map_nil, strip]) | ((first | refine wIs fun K hK => ?_ | refine wOs fun K hK => ?_ | refine wQs fun K hK => ?_ | refine CallK_plain ?_ | refine CallQ_plain ?_ | refine CallR_plain ?_ | refine wCond ?_); simp [h1, h2, lv, ouN, kpI, kpR, pos, ren, ren0, renB, renC, renCs]) | (refine wIn ?_; refine And.intro (by kernel_rfl) ?_; try simp only [thenA_n]) | (first | refine wBlock ?_ | refine wScope ?_) | ((first | refine wRet ?_ | refine wExit ?_ | refine wSkip ?_); try simp) | ((first | refine wLabel ?_ | refine wOn ?_ | refine wQn ?_); try simp only [thenA_n])
 all_goals try simp only [thenA_p, blockA_p]
 all_goals apply hp
 all_goals simp [AResP, outB, renB, gaN, lv, ouN, kpI, kpR, pos, ren, ren0, renC, renCs]
end
set_option maxHeartbeats 4000000 in
theorem read0_I (b : List UInt8) (at' : Int) (g : FuncId) (X : PV) (q : Int) (hX : ∃ n, X = I n) (out : Out) (ho : errOf out = some (0, rbI b at' g (.p X) q))
 (hc : Con Try.prog 148 raI (rbI b at' g (.p (I 0)) at') out) :
 ACon Try.prog 143 [.p (.sl 1 (by8 b)), .p (I at'), .p (.v (.func (.func g) #[] #[]))] (.tup [.p X, .p (I q), .p (I 0)]) := by
 obtain ⟨xn, rfl⟩ := hX
 have he0 : ByteArray.empty = bs [] := rfl
 have ct := try_con (caps := [.box 1024, .box 1025, .box 1026, .box 1027, .box 1028]) hc ho
 refine wBody Try.tab Try.mixed Try.func143 rfl rfl Try.ntmps143 (by simp) (by simp) fun Q hr hn => ?_
 repeat' first | (refine CallK_gen [4, 3, 5, 11, 9, 16] ct (by decide) (by decide) (by simp [blksOf, inN, pos, renB, ren0, he0]) (by simp [argsG, argG, ren0, inN, pos, renCs, renC]) ⟨[], by simp, by simp, ?_⟩; simp [lv, ouN, kpI, kpR, pos, ren, ren0, renB, renC, renCs]) | (refine hK _ ?_; clear hK) | (refine hK _ _ ?_; clear hK) | (clear hK; refine hK _ ?_; clear hK) | (clear hK; clear hK; refine hK _ ?_; clear hK) | (clear hK; clear hK; clear hK; refine hK _ ?_; clear hK) | (clear hK; clear hK; clear hK; clear hK; refine hK _ ?_; clear hK) | (refine wSeq fun K hK => ?_) | ((first | refine wReg ?_ | refine wDrwQ rfl (by kernel_rfl) ?_ | refine wDrwI ?_ | refine wDrw (by kernel_rfl) ?_); simp only [List.map_cons, List.map_nil, strip]) | ((first | refine wIs fun K hK => ?_ | refine wOs fun K hK => ?_ | refine wQs fun K hK => ?_ | refine CallK_plain ?_ | refine CallQ_plain ?_ | refine CallR_plain ?_ | refine wCond ?_); simp [lv, ouN, kpI, kpR, pos, ren, ren0, renB, renC, renCs]) | (refine wIn ?_; refine And.intro (by kernel_rfl) ?_; try simp only [thenA_n]) | (first | refine wBlock ?_ | refine wScope ?_) | ((first | refine wRet ?_ | refine wExit ?_ | refine wSkip ?_); try simp) | ((first | refine wLabel ?_ | refine wOn ?_ | refine wQn ?_); try simp only [thenA_n])
 all_goals apply hr
 all_goals simp [Try.f143]
set_option maxHeartbeats 4000000 in
theorem readE_I (b : List UInt8) (at' : Int) (g : FuncId) (q e : Int) (out : Out) (ho : errOf out = some (e, rbI b at' g (.p (I 0)) q)) (h0 : ¬ e = 0)
 (hc : Con Try.prog 148 raI (rbI b at' g (.p (I 0)) at') out) :
 ACon Try.prog 143 [.p (.sl 1 (by8 b)), .p (I at'), .p (.v (.func (.func g) #[] #[]))] (.tup [.p (I 0), .p (I 0), .p (I e)]) := by
 have he0 : ByteArray.empty = bs [] := rfl
 have ct := try_con (caps := [.box 1024, .box 1025, .box 1026, .box 1027, .box 1028]) hc ho
 refine wBody Try.tab Try.mixed Try.func143 rfl rfl Try.ntmps143 (by simp) (by simp) fun Q hr hn => ?_
 repeat' first | (refine CallK_gen [4, 3, 5, 11, 9, 16] ct (by decide) (by decide) (by simp [blksOf, inN, pos, renB, ren0, he0]) (by simp [argsG, argG, ren0, inN, pos, renCs, renC]) ⟨[], by simp, by simp, ?_⟩; simp [lv, ouN, kpI, kpR, pos, ren, ren0, renB, renC, renCs]) | (refine hK _ ?_; clear hK) | (refine hK _ _ ?_; clear hK) | (clear hK; refine hK _ ?_; clear hK) | (clear hK; clear hK; refine hK _ ?_; clear hK) | (clear hK; clear hK; clear hK; refine hK _ ?_; clear hK) | (clear hK; clear hK; clear hK; clear hK; refine hK _ ?_; clear hK) | (refine wSeq fun K hK => ?_) | ((first | refine wReg ?_ | refine wDrwQ rfl (by kernel_rfl) ?_ | refine wDrwI ?_ | refine wDrw (by kernel_rfl) ?_); simp only [List.map_cons, List.map_nil, strip]) | ((first | refine wIs fun K hK => ?_ | refine wOs fun K hK => ?_ | refine wQs fun K hK => ?_ | refine CallK_plain ?_ | refine CallQ_plain ?_ | refine CallR_plain ?_ | refine wCond ?_); simp [h0, lv, ouN, kpI, kpR, pos, ren, ren0, renB, renC, renCs]) | (refine wIn ?_; refine And.intro (by kernel_rfl) ?_; try simp only [thenA_n]) | (first | refine wBlock ?_ | refine wScope ?_) | ((first | refine wRet ?_ | refine wExit ?_ | refine wSkip ?_); try simp) | ((first | refine wLabel ?_ | refine wOn ?_ | refine wQn ?_); try simp only [thenA_n])
 all_goals apply hr
 all_goals simp [Try.f143, he0]
section
variable (b : List UInt8) (at' : Int) (X : PV)
abbrev rbS (g : FuncId) (x : V) (q : Int) : List Blk := [.box 3 [.p (I at')], .box 22 [.p (.sl 1 (by8 b))], .box 203 [.p (.v (.func (.func g) #[] #[]))], .box 201 [.ptr 1029 0], .box 9 [x], .box 205 [.p (.sl 1 (by8 b)), .p (I q)]]
abbrev raS : List V := [.ptr 1024 0, .ptr 1025 0, .ptr 1026 0, .ptr 1027 0, .ptr 1028 0]
theorem rcBad_S (g : FuncId) (h : at' < 0 \/ (b.length : Int) < at') : Con Try.prog 149 raS (rbS b at' g (.p (SB [])) at') (.pan (.iface 192 (.int .i64 1)) (rbS b at' g (.p (SB [])) at')) := by
 have e1 := give_con 1 (by decide)
 by_cases h1 : at' < 0
 ·refine wBodyG Try.tab Try.mixed Try.func149 rfl rfl Try.ntmps149 (by simp) (by simp) fun Q hr hn hp => ?_
  repeat' first | (refine CallE.pan e1 ?_) | (refine hK _ ?_; clear hK) | (refine hK _ _ ?_; clear hK) | (clear hK; refine hK _ ?_; clear hK) | (clear hK; clear hK; refine hK _ ?_; clear hK) | (clear hK; clear hK; clear hK; refine hK _ ?_; clear hK) | (clear hK; clear hK; clear hK; clear hK; refine hK _ ?_; clear hK) | (refine wSeq fun K hK => ?_) | ((first | refine wReg ?_ | refine wDrwQ rfl (by kernel_rfl) ?_ | refine wDrwI ?_ | refine wDrw (by kernel_rfl) ?_); simp only [List.map_cons, List.map_nil, strip]) | ((first | refine wIs fun K hK => ?_ | refine wOs fun K hK => ?_ | refine wQs fun K hK => ?_ | refine CallK_plain ?_ | refine CallQ_plain ?_ | refine CallR_plain ?_ | refine wCond ?_); simp [h1]) | (refine wIn ?_; refine And.intro (by kernel_rfl) ?_; try simp only [thenA_n]) | (first | refine wBlock ?_ | refine wScope ?_) | ((first | refine wRet ?_ | refine wExit ?_ | refine wSkip ?_); try simp) | ((first | refine wLabel ?_ | refine wOn ?_ | refine wQn ?_); try simp only [thenA_n])
  all_goals try simp only [thenA_p, blockA_p]
  all_goals apply hp
  all_goals simp [AResP, outB, renB, gaN]
 ·have h2 : (b.length : Int) < at' := by omega
  refine wBodyG Try.tab Try.mixed Try.func149 rfl rfl Try.ntmps149 (by simp) (by simp) fun Q hr hn hp => ?_
  repeat' first | (refine CallE.pan e1 ?_) | (refine hK _ ?_; clear hK) | (refine hK _ _ ?_; clear hK) | (clear hK; refine hK _ ?_; clear hK) | (clear hK; clear hK; refine hK _ ?_; clear hK) | (clear hK; clear hK; clear hK; refine hK _ ?_; clear hK) | (clear hK; clear hK; clear hK; clear hK; refine hK _ ?_; clear hK) | (refine wSeq fun K hK => ?_) | ((first | refine wReg ?_ | refine wDrwQ rfl (by kernel_rfl) ?_ | refine wDrwI ?_ | refine wDrw (by kernel_rfl) ?_); simp only [List.map_cons, List.map_nil, strip]) | ((first | refine wIs fun K hK => ?_ | refine wOs fun K hK => ?_ | refine wQs fun K hK => ?_ | refine CallK_plain ?_ | refine CallQ_plain ?_ | refine CallR_plain ?_ | refine wCond ?_); simp [h1, h2]) | (refine wIn ?_; refine And.intro (by kernel_rfl) ?_; try simp only [thenA_n]) | (first | refine wBlock ?_ | refine wScope ?_) | ((first | refine wRet ?_ | refine wExit ?_ | refine wSkip ?_); try simp) | ((first | refine wLabel ?_ | refine wOn ?_ | refine wQn ?_); try simp only [thenA_n])
  all_goals try simp only [thenA_p, blockA_p]
  all_goals apply hp
  all_goals simp [AResP, outB, renB, gaN]
theorem rcOk_S (h : ¬ at' < 0 /\ ¬ (b.length : Int) < at') (q : Int) (hX : ∃ n, X = SB n)
 (hc : Con Try.prog 146 [.ptr 1024 0] [.box 205 [.p (.sl 1 (by8 b)), .p (I at')]] (.ret (.p X) [] [.box 205 [.p (.sl 1 (by8 b)), .p (I q)]])) :
 Con Try.prog 149 raS (rbS b at' 146 (.p (SB [])) at') (.ret (.tup []) [] (rbS b at' 146 (.p X) q)) := by
 obtain ⟨xn, rfl⟩ := hX
 obtain ⟨h1, h2⟩ := h
 refine wBodyG Try.tab Try.mixed Try.func149 rfl rfl Try.ntmps149 (by simp) (by simp) fun Q hr hn hp => ?_
 repeat' first | (refine CallK_gen [1029] hc (by decide) (by decide) (by simp [blksOf, inN, pos, renB, ren0]) (by simp [argsG, argG, ren0, inN, pos, renCs, renC]) ⟨[], by simp, by simp, ?_⟩; simp [lv, ouN, kpI, kpR, pos, ren, ren0, renB, renC, renCs]) | (refine hK _ ?_; clear hK) | (refine hK _ _ ?_; clear hK) | (clear hK; refine hK _ ?_; clear hK) | (clear hK; clear hK; refine hK _ ?_; clear hK) | (clear hK; clear hK; clear hK; refine hK _ ?_; clear hK) | (clear hK; clear hK; clear hK; clear hK; refine hK _ ?_; clear hK) | (refine wSeq fun K hK => ?_) | ((first | refine wReg ?_ | refine wDrwQ rfl (by kernel_rfl) ?_ | refine wDrwI ?_ | refine wDrw (by kernel_rfl) ?_); simp only [List.map_cons, List.map_nil, strip]) | ((first | refine wIs fun K hK => ?_ | refine wOs fun K hK => ?_ | refine wQs fun K hK => ?_ | refine CallK_plain ?_ | refine CallQ_plain ?_ | refine CallR_plain ?_ | refine wCond ?_); simp [h1, h2, lv, ouN, kpI, kpR, pos, ren, ren0, renB, renC, renCs]) | (refine wIn ?_; refine And.intro (by kernel_rfl) ?_; try simp only [thenA_n]) | (first | refine wBlock ?_ | refine wScope ?_) | ((first | refine wRet ?_ | refine wExit ?_ | refine wSkip ?_); try simp) | ((first | refine wLabel ?_ | refine wOn ?_ | refine wQn ?_); try simp only [thenA_n])
 all_goals first | apply hr | apply hn
 all_goals refine ⟨[], by simp, by simp, ?_⟩
 all_goals simp [Try.f149, outR, outB, renB, gaN, lv, ouN, kpI, kpR, pos, ren, ren0, renC, renCs]
theorem rcPan_S (h : ¬ at' < 0 /\ ¬ (b.length : Int) < at') (q e : Int)
 (hc : Con Try.prog 146 [.ptr 1024 0] [.box 205 [.p (.sl 1 (by8 b)), .p (I at')]] (.pan (.iface 192 (.int .i64 e)) [.box 205 [.p (.sl 1 (by8 b)), .p (I q)]])) :
 Con Try.prog 149 raS (rbS b at' 146 (.p (SB [])) at') (.pan (.iface 192 (.int .i64 e)) (rbS b at' 146 (.p (SB [])) q)) := by
 obtain ⟨h1, h2⟩ := h
 refine wBodyG Try.tab Try.mixed Try.func149 rfl rfl Try.ntmps149 (by simp) (by simp) fun Q hr hn hp => ?_
 repeat' first | (refine CallK_gen [1029] hc (by decide) (by decide) (by simp [blksOf, inN, pos, renB, ren0]) (by simp [argsG, argG, ren0, inN, pos, renCs, renC]) ?_; simp [GenK, lv, ouN, kpI, kpR, pos, ren, ren0, renB, renC, renCs]) | (refine hK _ ?_; clear hK) | (refine hK _ _ ?_; clear hK) | (clear hK; refine hK _ ?_; clear hK) | (clear hK; clear hK; refine hK _ ?_; clear hK) | (clear hK; clear hK; clear hK; refine hK _ ?_; clear hK) | (clear hK; clear hK; clear hK; clear hK; refine hK _ ?_; clear hK) | (refine wSeq fun K hK => ?_) | ((first | refine wReg ?_ | refine wDrwQ rfl (by kernel_rfl) ?_ | refine wDrwI ?_ | refine wDrw (by kernel_rfl) ?_); simp only [List.map_cons, List.map_nil, strip]) | ((first | refine wIs fun K hK => ?_ | refine wOs fun K hK => ?_ | refine wQs fun K hK => ?_ | refine CallK_plain ?_ | refine CallQ_plain ?_ | refine CallR_plain ?_ | refine wCond ?_); simp [h1, h2, lv, ouN, kpI, kpR, pos, ren, ren0, renB, renC, renCs]) | (refine wIn ?_; refine And.intro (by kernel_rfl) ?_; try simp only [thenA_n]) | (first | refine wBlock ?_ | refine wScope ?_) | ((first | refine wRet ?_ | refine wExit ?_ | refine wSkip ?_); try simp) | ((first | refine wLabel ?_ | refine wOn ?_ | refine wQn ?_); try simp only [thenA_n])
 all_goals try simp only [thenA_p, blockA_p]
 all_goals apply hp
 all_goals simp [AResP, outB, renB, gaN, lv, ouN, kpI, kpR, pos, ren, ren0, renC, renCs]
end
set_option maxHeartbeats 4000000 in
theorem read0_S (b : List UInt8) (at' : Int) (g : FuncId) (X : PV) (q : Int) (hX : ∃ n, X = SB n) (out : Out) (ho : errOf out = some (0, rbS b at' g (.p X) q))
 (hc : Con Try.prog 149 raS (rbS b at' g (.p (SB [])) at') out) :
 ACon Try.prog 145 [.p (.sl 1 (by8 b)), .p (I at'), .p (.v (.func (.func g) #[] #[]))] (.tup [.p X, .p (I q), .p (I 0)]) := by
 obtain ⟨xn, rfl⟩ := hX
 have he0 : ByteArray.empty = bs [] := rfl
 have ct := try_con (caps := [.box 1024, .box 1025, .box 1026, .box 1027, .box 1028]) hc ho
 refine wBody Try.tab Try.mixed Try.func145 rfl rfl Try.ntmps145 (by simp) (by simp) fun Q hr hn => ?_
 repeat' first | (refine CallK_gen [4, 3, 5, 11, 9, 16] ct (by decide) (by decide) (by simp [blksOf, inN, pos, renB, ren0, he0]) (by simp [argsG, argG, ren0, inN, pos, renCs, renC]) ⟨[], by simp, by simp, ?_⟩; simp [lv, ouN, kpI, kpR, pos, ren, ren0, renB, renC, renCs]) | (refine hK _ ?_; clear hK) | (refine hK _ _ ?_; clear hK) | (clear hK; refine hK _ ?_; clear hK) | (clear hK; clear hK; refine hK _ ?_; clear hK) | (clear hK; clear hK; clear hK; refine hK _ ?_; clear hK) | (clear hK; clear hK; clear hK; clear hK; refine hK _ ?_; clear hK) | (refine wSeq fun K hK => ?_) | ((first | refine wReg ?_ | refine wDrwQ rfl (by kernel_rfl) ?_ | refine wDrwI ?_ | refine wDrw (by kernel_rfl) ?_); simp only [List.map_cons, List.map_nil, strip]) | ((first | refine wIs fun K hK => ?_ | refine wOs fun K hK => ?_ | refine wQs fun K hK => ?_ | refine CallK_plain ?_ | refine CallQ_plain ?_ | refine CallR_plain ?_ | refine wCond ?_); simp [lv, ouN, kpI, kpR, pos, ren, ren0, renB, renC, renCs]) | (refine wIn ?_; refine And.intro (by kernel_rfl) ?_; try simp only [thenA_n]) | (first | refine wBlock ?_ | refine wScope ?_) | ((first | refine wRet ?_ | refine wExit ?_ | refine wSkip ?_); try simp) | ((first | refine wLabel ?_ | refine wOn ?_ | refine wQn ?_); try simp only [thenA_n])
 all_goals apply hr
 all_goals simp [Try.f145]
set_option maxHeartbeats 4000000 in
theorem readE_S (b : List UInt8) (at' : Int) (g : FuncId) (q e : Int) (out : Out) (ho : errOf out = some (e, rbS b at' g (.p (SB [])) q)) (h0 : ¬ e = 0)
 (hc : Con Try.prog 149 raS (rbS b at' g (.p (SB [])) at') out) :
 ACon Try.prog 145 [.p (.sl 1 (by8 b)), .p (I at'), .p (.v (.func (.func g) #[] #[]))] (.tup [.p (SB []), .p (I 0), .p (I e)]) := by
 have he0 : ByteArray.empty = bs [] := rfl
 have ct := try_con (caps := [.box 1024, .box 1025, .box 1026, .box 1027, .box 1028]) hc ho
 refine wBody Try.tab Try.mixed Try.func145 rfl rfl Try.ntmps145 (by simp) (by simp) fun Q hr hn => ?_
 repeat' first | (refine CallK_gen [4, 3, 5, 11, 9, 16] ct (by decide) (by decide) (by simp [blksOf, inN, pos, renB, ren0, he0]) (by simp [argsG, argG, ren0, inN, pos, renCs, renC]) ⟨[], by simp, by simp, ?_⟩; simp [lv, ouN, kpI, kpR, pos, ren, ren0, renB, renC, renCs]) | (refine hK _ ?_; clear hK) | (refine hK _ _ ?_; clear hK) | (clear hK; refine hK _ ?_; clear hK) | (clear hK; clear hK; refine hK _ ?_; clear hK) | (clear hK; clear hK; clear hK; refine hK _ ?_; clear hK) | (clear hK; clear hK; clear hK; clear hK; refine hK _ ?_; clear hK) | (refine wSeq fun K hK => ?_) | ((first | refine wReg ?_ | refine wDrwQ rfl (by kernel_rfl) ?_ | refine wDrwI ?_ | refine wDrw (by kernel_rfl) ?_); simp only [List.map_cons, List.map_nil, strip]) | ((first | refine wIs fun K hK => ?_ | refine wOs fun K hK => ?_ | refine wQs fun K hK => ?_ | refine CallK_plain ?_ | refine CallQ_plain ?_ | refine CallR_plain ?_ | refine wCond ?_); simp [h0, lv, ouN, kpI, kpR, pos, ren, ren0, renB, renC, renCs]) | (refine wIn ?_; refine And.intro (by kernel_rfl) ?_; try simp only [thenA_n]) | (first | refine wBlock ?_ | refine wScope ?_) | ((first | refine wRet ?_ | refine wExit ?_ | refine wSkip ?_); try simp) | ((first | refine wLabel ?_ | refine wOn ?_ | refine wQn ?_); try simp only [thenA_n])
 all_goals apply hr
 all_goals simp [Try.f145, he0]
end Go.Proofs.Ytleejpddecjhcaa
