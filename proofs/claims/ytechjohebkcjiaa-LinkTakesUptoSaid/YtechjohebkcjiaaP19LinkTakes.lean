/- Texts that the proof needs: WS CA CB TryA Try CC CD CE CES CF CG CH QLib QA RG1. -/
import Derived.Test.YtechjohebkcjiaaP12LinkTakes
import Derived.Test.YtechjohebkcjiaaP16LinkTakes
import Derived.Test.YtechjohebkcjiaaP17LinkTakes
import Derived.Test.YtechjohebkcjiaaP18LinkTakes
import Derived.WalkKit
import Derived.Test.YtechjohebkcjiaaP14LinkTakes
import Derived.Defers
import Derived.Recover
/- A counter's next value. -/
namespace Go.Proofs.Ytechjohebkcjiaa
open Go Go.Av
theorem wrapS (k n : Nat) (h : k < n) (hn : n ≤ 9223372036854775807) : IntKind.i64.wrap ((k : Int) + 1) = ((k + 1 : Nat) : Int) := by
  rw [wrap_id] <;> omega
end Go.Proofs.Ytechjohebkcjiaa
/- Bytes; numbers as bytes: the arithmetic. -/
namespace Go.Proofs.Ytechjohebkcjiaa
set_option linter.unusedSimpArgs false
set_option linter.unusedVariables false
open Go Go.Av
/-! ### Rows of bytes -/
def dcell (b : UInt8) : List PV := [.v (.int .u8 b.toNat)]
def by8 (l : List UInt8) : List (List PV) := l.map dcell
@[simp] theorem by8_len (l : List UInt8) : (by8 l).length = l.length := by simp [by8]
@[simp] theorem by8_getElem (l : List UInt8) (k : Nat) (h : k < (by8 l).length) : (by8 l)[k] = [.v (.int .u8 (l[k]'(by simpa using h)).toNat)] := by simp [by8, dcell]
theorem by8_app (a b : List UInt8) : by8 a ++ by8 b = by8 (a ++ b) := by simp [by8]
theorem by8_snoc (l : List UInt8) (b : UInt8) (n : Int) (h : n = b.toNat) : by8 l ++ [[.v (.int .u8 n)]] = by8 (l ++ [b]) := by subst h; simp [by8, dcell]
theorem unL_by8 : ∀ l : List UInt8, unL (by8 l) = some (l.map fun b => (b.toNat : Int))
  | [] => rfl
  | b :: l => by
    show (match unL (by8 l) with | some ns => some ((b.toNat : Int) :: ns) | none => none) = _
    rw [unL_by8 l]; rfl
theorem push_bs (a : List UInt8) (b : UInt8) : (bs a).push (UInt8.ofNat (b.toNat : Int).toNat) = bs (a ++ [b]) := by
  have : UInt8.ofNat (b.toNat : Int).toNat = b := by simp
  rw [this]
  apply ByteArray.ext
  show a.toArray.push b = (a ++ [b]).toArray
  rw [List.push_toArray]
theorem strOf_by8 (l : List UInt8) : strOf (l.map fun b => (b.toNat : Int)) = bs l := by
  have key : ∀ (l a : List UInt8), (l.map fun b => (b.toNat : Int)).foldl (fun r n => r.push (UInt8.ofNat n.toNat)) (bs a) = bs (a ++ l) := by
    intro l
    induction l with
    | nil => intro a; rw [List.append_nil]; rfl
    | cons b l ih =>
      intro a
      rw [List.map_cons, List.foldl_cons, push_bs, ih, List.append_assoc]; rfl
  exact key l []
/-! ### The numbers' arithmetic -/
def okI (n : Int) : Prop := -9223372036854775808 ≤ n ∧ n ≤ 9223372036854775807
theorem u64_wrap (a : Int) : IntKind.u64.wrap a = a % 18446744073709551616 := by simp [IntKind.wrap, IntKind.bits, IntKind.signed]
theorem u8_wrap (a : Int) : IntKind.u8.wrap a = a % 256 := by simp [IntKind.wrap, IntKind.bits, IntKind.signed]
theorem ofInt_nat (w : Nat) (n : Nat) : BitVec.ofInt w (n : Int) = BitVec.ofNat w n := by simp
/-- The number by its distance from nothing, the sign lowest. -/
def zz (n : Int) : Nat := if n < 0 then (-2 * n - 1).toNat else (2 * n).toNat
theorem zz_lt {n : Int} (h : okI n) : zz n < 18446744073709551616 := by unfold zz okI at *; split <;> omega
def unzz (u : Nat) : Int := if u % 2 = 1 then -((u / 2 : Nat) : Int) - 1 else ((u / 2 : Nat) : Int)
theorem unzz_ok {u : Nat} (h : u < 18446744073709551616) : okI (unzz u) := by unfold unzz okI; split <;> omega
theorem zz_unzz (u : Nat) : zz (unzz u) = u := by
  unfold zz unzz
  split <;> rename_i h <;> split <;> omega
theorem xor_ones (x : Nat) (h : x < 18446744073709551616) : (BitVec.ofNat 64 x ^^^ BitVec.ofNat 64 18446744073709551615).toNat = 18446744073709551615 - x := by
  have e : BitVec.ofNat 64 18446744073709551615 = BitVec.allOnes 64 := by decide
  rw [e, BitVec.xor_allOnes, BitVec.toNat_not, BitVec.toNat_ofNat, Nat.mod_eq_of_lt (by omega)]
/-- A number's bytes, seven bits each, the lowest first. -/
def enc (u : Nat) : List UInt8 := if u < 128 then [UInt8.ofNat u] else UInt8.ofNat (u % 128 + 128) :: enc (u / 128)
termination_by u
decreasing_by omega
theorem enc_small {u : Nat} (h : u < 128) : enc u = [UInt8.ofNat u] := by rw [enc, if_pos h]
theorem enc_big {u : Nat} (h : ¬ u < 128) : enc u = UInt8.ofNat (u % 128 + 128) :: enc (u / 128) := by rw [enc, if_neg h]
theorem or128 (x : Nat) (h : x < 256) : (BitVec.ofNat 8 x ||| BitVec.ofNat 8 128).toNat = x % 128 + 128 := by
  have : ∀ x : Fin 256, (BitVec.ofNat 8 x.val ||| BitVec.ofNat 8 128).toNat = x.val % 128 + 128 := by decide +kernel
  exact this ⟨x, h⟩
theorem and127_64 (x : Nat) : (BitVec.ofNat 64 x &&& BitVec.ofNat 64 127).toNat = x % 128 := by
  rw [BitVec.toNat_and, BitVec.toNat_ofNat, BitVec.toNat_ofNat, show 127 % 2 ^ 64 = 2 ^ 7 - 1 from rfl, Nat.and_two_pow_sub_one_eq_mod]
  omega
theorem u8_toNat (x : Nat) (h : x < 256) : (UInt8.ofNat x).toNat = x := by rw [UInt8.toNat_ofNat']; omega
theorem enc_len : ∀ (k u : Nat), u < 128 ^ (k + 1) → (enc u).length ≤ k + 1
  | 0, u, h => by rw [enc_small (by simpa using h)]; simp
  | k + 1, u, h => by
    by_cases hu : u < 128
    · rw [enc_small hu]; simp
    · rw [enc_big hu]
      have := enc_len k (u / 128) (by rw [Nat.div_lt_iff_lt_mul (by omega), ← Nat.pow_succ]; exact h)
      simp; omega
theorem enc_len10 {u : Nat} (h : u < 18446744073709551616) : (enc u).length ≤ 10 := enc_len 9 u (Nat.lt_of_lt_of_le h (by decide))
theorem enc_pos (u : Nat) : 1 ≤ (enc u).length := by rw [enc]; split <;> simp
end Go.Proofs.Ytechjohebkcjiaa
/- Numbers laid as bytes: the program's, the document's. -/
namespace Go.Proofs.Ytechjohebkcjiaa
set_option linter.unusedSimpArgs false
set_option linter.unusedVariables false
open Go Go.Av
attribute [local simp] Try.T1 Try.T2 Try.T3 Try.T4 Try.T5 Try.T9 Try.T12 Try.T15 Try.T16 Try.T17 Try.T21 Try.T22 Try.T23 Try.T24 Try.T25 Try.T27 Try.T29 Try.T30 Try.T31 Try.T32 Try.T33 Try.T35 Try.T37 Try.T38 Try.T40 Try.T41 Try.T42 Try.T44 Try.T45 Try.T47 Try.T49 Try.T51 Try.T53 Try.T54 Try.T55 Try.T56 Try.T57 Try.T58 Try.T59 Try.T60 Try.T61 Try.T62 Try.T63 Try.T64 Try.T66 Try.T67 Try.T68 Try.T69 Try.T70 Try.T72 Try.T74 Try.T76 Try.T77 Try.T78 Try.T79 Try.T80 Try.T81 Try.T82 Try.T83 Try.T84 Try.T85 Try.T87 Try.T88 Try.T89 Try.T90 Try.T91 Try.T92 Try.T93 Try.T94 Try.T96 Try.T97 Try.T98 Try.T99 Try.T100 Try.T101 Try.T102 Try.T103 Try.T104 Try.T105 Try.T106 Try.T107 Try.T108 Try.T109 Try.T110 Try.T111 Try.T113 Try.T114 Try.T115 Try.T116 Try.T117 Try.T118 Try.T119 Try.T120 Try.T121 Try.T122 Try.T123 Try.T124 Try.T125 Try.T126 Try.T127 Try.T128 Try.T129 Try.T130 Try.T133 Try.T136 Try.T137 Try.T140 Try.T141
attribute [local irreducible] Go.Av.CallK Go.Av.CallE Go.Av.CallQ Go.Av.CallF Go.Av.CallR Go.Av.CallH Go.Av.Con
abbrev BCon (g : FuncId) (args : List V) (l : List UInt8) : Prop := Con Try.prog g args [] (.ret (.row 2048) [.row 5 1 (by8 l)] [])
theorem or_fact (u : Nat) (h : u < 18446744073709551616) : IntKind.u8.wrap ((BitVec.ofInt IntKind.u8.bits (IntKind.u8.wrap (u : Int)) ||| BitVec.ofInt IntKind.u8.bits 128).toNat : Int) = ((UInt8.ofNat (u % 128 + 128)).toNat : Int) := by
  have e1 : IntKind.u8.wrap (u : Int) = ((u % 256 : Nat) : Int) := by rw [u8_wrap]; omega
  rw [e1]
  show IntKind.u8.wrap ((BitVec.ofInt 8 ((u % 256 : Nat) : Int) ||| BitVec.ofNat 8 128).toNat : Int) = _
  rw [ofInt_nat]
  have := or128 (u % 256) (by omega)
  rw [this, u8_toNat _ (by omega), u8_wrap]
  omega
theorem shr7 (u : Nat) : (u : Int).fdiv (2 ^ min 7 IntKind.u64.bits) = ((u / 128 : Nat) : Int) := by
  show (u : Int).fdiv 128 = _
  rw [Int.fdiv_eq_ediv_of_nonneg _ (by omega)]; omega
theorem u8_small (u : Nat) (h : u < 128) : IntKind.u8.wrap (u : Int) = ((UInt8.ofNat u).toNat : Int) := by rw [u8_wrap, u8_toNat _ (by omega)]; omega
theorem and_fact (u : Nat) (h : u < 18446744073709551616) : IntKind.u64.wrap ((BitVec.ofInt IntKind.u64.bits (u : Int) &&& BitVec.ofInt IntKind.u64.bits 127).toNat : Int) = ((u % 128 : Nat) : Int) := by
  show IntKind.u64.wrap ((BitVec.ofInt 64 (u : Int) &&& BitVec.ofNat 64 127).toNat : Int) = _
  rw [ofInt_nat, and127_64, u64_wrap]; omega
theorem or_fact2 (x : Nat) (h : x < 128) : IntKind.u8.wrap ((BitVec.ofInt IntKind.u8.bits (IntKind.u8.wrap (x : Int)) ||| BitVec.ofInt IntKind.u8.bits 128).toNat : Int) = ((UInt8.ofNat (x + 128)).toNat : Int) := by
  have := or_fact x (by omega)
  rw [this, Nat.mod_eq_of_lt h]
theorem not64 (u : Nat) (h : u < 18446744073709551616) : IntKind.u64.wrap ((BitVec.ofInt IntKind.u64.bits (if IntKind.u64.signed = true then -1 else IntKind.u64.max) ^^^ BitVec.ofInt IntKind.u64.bits (u : Int)).toNat : Int) = ((18446744073709551615 - u : Nat) : Int) := by
  show IntKind.u64.wrap ((BitVec.ofInt 64 ((18446744073709551615 : Nat) : Int) ^^^ BitVec.ofInt 64 (u : Int)).toNat : Int) = _
  rw [ofInt_nat, ofInt_nat, BitVec.xor_comm, xor_ones u h, u64_wrap]; omega
theorem shl1 (n : Int) (hn : okI n) : IntKind.u64.wrap (IntKind.u64.wrap n * 2 ^ min 1 IntKind.u64.bits) = ((2 * n % 18446744073709551616).toNat : Int) := by
  obtain ⟨h0, h1⟩ := hn
  show IntKind.u64.wrap (IntKind.u64.wrap n * 2) = _
  rw [u64_wrap, u64_wrap]; omega
theorem putInt01_con (b : List UInt8) (n : Int) (hn : okI n) (h : b.length ≤ 100000000) : BCon 42 [.p (.sl 1 (by8 b)), .p (I n)] (b ++ enc (zz n)) := by
  have hlt := zz_lt hn
  have h1 := shl1 n hn
  have hzz : zz n = if n < 0 then 18446744073709551615 - (2 * n % 18446744073709551616).toNat else (2 * n % 18446744073709551616).toNat := by
    obtain ⟨h0, h1⟩ := hn
    unfold zz
    split <;> omega
  have hm : (2 * n % 18446744073709551616).toNat < 18446744073709551616 := by omega
  generalize (2 * n % 18446744073709551616).toNat = y at h1 hzz hm
  have h2 := not64 y hm
  generalize zz n = z at hlt hzz ⊢
  simp at h1 h2
  refine wBodyR Try.tab Try.mixed Try.func42 rfl rfl Try.ntmps42 rfl (by simp) (by simp) fun Q hr hn => ?_
  by_cases o : n < 0
  all_goals first | rw [if_pos o] at hzz | rw [if_neg o] at hzz
  all_goals
    repeat' first | (refine And.intro (by omega) (Or.inl ?_)) | (refine And.intro (by omega) ?_) | (refine hK _ ?_; clear hK) | (refine hK _ _ ?_; clear hK) | (clear hK; refine hK _ ?_; clear hK) | (clear hK; clear hK; refine hK _ ?_; clear hK) | (clear hK; clear hK; clear hK; refine hK _ ?_; clear hK) | (clear hK; clear hK; clear hK; clear hK; refine hK _ ?_; clear hK) | (refine wSeq fun K hK => ?_) | ((first | refine wReg ?_ | refine wDrwQ rfl (by kernel_rfl) ?_ | refine wDrwI ?_ | refine wDrw (by kernel_rfl) ?_); simp only [List.map_cons, List.map_nil, strip]) | ((first | refine wIs fun K hK => ?_ | refine wOs fun K hK => ?_ | refine wQs fun K hK => ?_ | refine CallK_plain ?_ | refine CallQ_plain ?_ | refine CallR_plain ?_ | refine wCond ?_); simp [o, h1, h2]) | (refine wIn ?_; refine And.intro (by kernel_rfl) ?_; try simp only [thenA_n]) | (first | refine wBlock ?_ | refine wScope ?_) | ((first | refine wRet ?_ | refine wExit ?_ | refine wSkip ?_); try simp) | ((first | refine wLabel ?_ | refine wOn ?_ | refine wQn ?_); try simp only [thenA_n])
    refine wLoop (fun N st => ∃ k u pre, k + N = 10 ∧ st.s 6 = .row 16 ∧ st.s 5 = .p (.v (.int .u64 (u : Nat))) ∧ st.b 16 = some (.row 5 1 (by8 (b ++ pre))) ∧ pre ++ enc u = enc z ∧ pre.length = k ∧ u * 128 ^ k < 18446744073709551616) 10 ⟨0, z, [], by simp [hzz, h1, h2]; try omega⟩ fun K N st hL ⟨k, u, pre, hk, g6, g5, b16, he, hp, hu⟩ => ?_
    have hu64 : u < 18446744073709551616 := Nat.lt_of_le_of_lt (Nat.le_mul_of_pos_right u (Nat.pow_pos (by omega))) hu
    by_cases q : u < 128
    · have q' : (u : Int) < 128 := by omega
      have q2 : ¬ 128 ≤ (u : Int) := by omega
      have hl : by8 (b ++ pre) ++ [[.v (.int .u8 (IntKind.u8.wrap (u : Int)))]] = by8 (b ++ enc z) := by
        rw [by8_snoc _ (UInt8.ofNat u) _ (u8_small u q), ← he, enc_small q, List.append_assoc]
      repeat' first | (refine And.intro (by omega) (Or.inl ?_)) | (refine And.intro (by omega) ?_) | (refine hK _ ?_; clear hK) | (refine hK _ _ ?_; clear hK) | (clear hK; refine hK _ ?_; clear hK) | (clear hK; clear hK; refine hK _ ?_; clear hK) | (clear hK; clear hK; clear hK; refine hK _ ?_; clear hK) | (clear hK; clear hK; clear hK; clear hK; refine hK _ ?_; clear hK) | (refine wSeq fun K hK => ?_) | ((first | refine wReg ?_ | refine wDrwQ rfl (by kernel_rfl) ?_ | refine wDrwI ?_ | refine wDrw (by kernel_rfl) ?_); simp only [List.map_cons, List.map_nil, strip]) | ((first | refine wIs fun K hK => ?_ | refine wOs fun K hK => ?_ | refine wQs fun K hK => ?_ | refine CallK_plain ?_ | refine CallQ_plain ?_ | refine CallR_plain ?_ | refine wCond ?_); simp [g5, g6, b16, q, q', q2]) | (refine wIn ?_; refine And.intro (by kernel_rfl) ?_; try simp only [thenA_n]) | (first | refine wBlock ?_ | refine wScope ?_) | ((first | refine wRet ?_ | refine wExit ?_ | refine wSkip ?_); try simp) | ((first | refine wLabel ?_ | refine wOn ?_ | refine wQn ?_); try simp only [thenA_n])
      all_goals refine hr _ 16 ?_ ?_ (by omega)
      all_goals simp [Try.f42, hl]
    · have q' : ¬ (u : Int) < 128 := by omega
      have q2 : 128 ≤ (u : Int) := by omega
      have hk10 : k < 10 := by
        refine Nat.lt_of_not_le fun hge => ?_
        have : k = 10 := by omega
        subst this
        omega
      have ha := and_fact u hu64
      have hor := or_fact2 (u % 128) (by omega)
      have hb := enc_big q
      generalize UInt8.ofNat (u % 128 + 128) = c at hor hb
      simp at ha hor
      have hsh := shr7 u
      simp at hsh
      have hx := by8_snoc (b ++ pre) c _ rfl
      rw [List.append_assoc] at hx
      repeat' first | (refine And.intro (by omega) (Or.inl ?_)) | (refine And.intro (by omega) ?_) | (refine hK _ ?_; clear hK) | (refine hK _ _ ?_; clear hK) | (clear hK; refine hK _ ?_; clear hK) | (clear hK; clear hK; refine hK _ ?_; clear hK) | (clear hK; clear hK; clear hK; refine hK _ ?_; clear hK) | (clear hK; clear hK; clear hK; clear hK; refine hK _ ?_; clear hK) | (refine wSeq fun K hK => ?_) | ((first | refine wReg ?_ | refine wDrwQ rfl (by kernel_rfl) ?_ | refine wDrwI ?_ | refine wDrw (by kernel_rfl) ?_); simp only [List.map_cons, List.map_nil, strip]) | ((first | refine wIs fun K hK => ?_ | refine wOs fun K hK => ?_ | refine wQs fun K hK => ?_ | refine CallK_plain ?_ | refine CallQ_plain ?_ | refine CallR_plain ?_ | refine wCond ?_); simp [g5, g6, b16, q, q', q2, ha, hor, hsh]) | (refine wIn ?_; refine And.intro (by kernel_rfl) ?_; try simp only [thenA_n]) | (first | refine wBlock ?_ | refine wScope ?_) | ((first | refine wRet ?_ | refine wExit ?_ | refine wSkip ?_); try simp) | ((first | refine wLabel ?_ | refine wOn ?_ | refine wQn ?_); try simp only [thenA_n])
      refine hL _ (N - 1) (by omega) ⟨k + 1, u / 128, pre ++ [c], by omega, ?_⟩
      simp [g5, g6, b16, ha, hor, hsh, hx, hp]
      refine ⟨by rw [← he, hb], Nat.lt_of_le_of_lt ?_ hu⟩
      rw [Nat.pow_succ, Nat.mul_comm (128 ^ k), ← Nat.mul_assoc]
      exact Nat.mul_le_mul_right _ (Nat.div_mul_le_self u 128)
end Go.Proofs.Ytechjohebkcjiaa
/- fault.Try's deferred closure. -/
namespace Go.Proofs.Ytechjohebkcjiaa
set_option linter.unusedSimpArgs false
set_option linter.unusedVariables false
open Go Go.Av Go.RowKit
end Go.Proofs.Ytechjohebkcjiaa
/- fault.Try: what gives up deep in a call comes back as an error. -/
namespace Go.Proofs.Ytechjohebkcjiaa
set_option maxRecDepth 8000
set_option linter.unusedSimpArgs false
set_option linter.unusedVariables false
open Go Go.Av Go.RowKit
end Go.Proofs.Ytechjohebkcjiaa
/- Numbers read from bytes: the program's, the document's. -/
namespace Go.Proofs.Ytechjohebkcjiaa
set_option linter.unusedSimpArgs false
set_option linter.unusedVariables false
open Go Go.Av
attribute [local simp] Try.T1 Try.T2 Try.T3 Try.T4 Try.T5 Try.T9 Try.T12 Try.T15 Try.T16 Try.T17 Try.T21 Try.T22 Try.T23 Try.T24 Try.T25 Try.T27 Try.T29 Try.T30 Try.T31 Try.T32 Try.T33 Try.T35 Try.T37 Try.T38 Try.T40 Try.T41 Try.T42 Try.T44 Try.T45 Try.T47 Try.T49 Try.T51 Try.T53 Try.T54 Try.T55 Try.T56 Try.T57 Try.T58 Try.T59 Try.T60 Try.T61 Try.T62 Try.T63 Try.T64 Try.T66 Try.T67 Try.T68 Try.T69 Try.T70 Try.T72 Try.T74 Try.T76 Try.T77 Try.T78 Try.T79 Try.T80 Try.T81 Try.T82 Try.T83 Try.T84 Try.T85 Try.T87 Try.T88 Try.T89 Try.T90 Try.T91 Try.T92 Try.T93 Try.T94 Try.T96 Try.T97 Try.T98 Try.T99 Try.T100 Try.T101 Try.T102 Try.T103 Try.T104 Try.T105 Try.T106 Try.T107 Try.T108 Try.T109 Try.T110 Try.T111 Try.T113 Try.T114 Try.T115 Try.T116 Try.T117 Try.T118 Try.T119 Try.T120 Try.T121 Try.T122 Try.T123 Try.T124 Try.T125 Try.T126 Try.T127 Try.T128 Try.T129 Try.T130 Try.T133 Try.T136 Try.T137 Try.T140 Try.T141
attribute [local irreducible] Go.Av.CallK Go.Av.CallE Go.Av.CallQ Go.Av.CallF Go.Av.CallR Go.Av.CallH Go.Av.Con
/-- What the bytes from here on say: an error, or a number, and how many bytes were read. -/
def rdU : Nat → Nat → List UInt8 → Int × Nat × Nat
  | i, _, [] => (2, 0, i)
  | i, u, c :: r =>
    if i = 9 ∧ 1 < c.toNat then (5, 0, i + 1)
    else if 128 ≤ c.toNat then rdU (i + 1) (u + c.toNat % 128 * 128 ^ i) r
    else if c.toNat = 0 ∧ 0 < i then (3, 0, i + 1)
    else (0, u + c.toNat % 128 * 128 ^ i, i + 1)
theorem step_lt {u x i : Nat} (hu : u < 128 ^ i) (hx : x < 128) : u + x * 128 ^ i < 128 ^ (i + 1) := by
  rw [Nat.pow_succ]
  have : x * 128 ^ i ≤ 127 * 128 ^ i := Nat.mul_le_mul_right _ (by omega)
  omega
theorem step_lt64 {u x i : Nat} (hu : u < 128 ^ i) (hx : x < 128) (hi : i ≤ 9) (h9 : i = 9 → x ≤ 1) : x * 128 ^ i < 18446744073709551616 ∧ u + x * 128 ^ i < 18446744073709551616 := by
  by_cases h : i = 9
  · subst h
    have := h9 rfl
    have : x * 128 ^ 9 ≤ 1 * 128 ^ 9 := Nat.mul_le_mul_right _ this
    omega
  · have h8 : 128 ^ (i + 1) ≤ 128 ^ 9 := Nat.pow_le_pow_right (by omega) (by omega)
    have := step_lt hu hx
    omega
/- Numbers read, the document's. -/
/- What is read from a place on: a number (read, its closure). -/
section
variable (b : List UInt8) (at' : Int) (X : PV)
end
/- What is read from a place on: a text (read, its closure). -/
section
variable (b : List UInt8) (at' : Int) (X : PV)
end
/- Lengths and texts read; texts laid. -/
theorem rdU_le : ∀ (l : List UInt8) (i u : Nat), u < 128 ^ i → i ≤ 9 → i ≤ (rdU i u l).2.2 ∧ (rdU i u l).2.2 ≤ i + l.length ∧ (rdU i u l).2.1 < 18446744073709551616 ∧ ((rdU i u l).1 = 0 → i < (rdU i u l).2.2)
  | [], i, u, hu, hi => by simp [rdU]
  | c :: r, i, u, hu, hi => by
    have hc := c.toNat_lt
    rw [rdU]
    split
    · simp
    · rename_i o1
      have hx9 : i = 9 → c.toNat % 128 ≤ 1 := by omega
      have hst := step_lt64 (x := c.toNat % 128) hu (by omega) hi hx9
      split
      · rename_i o2
        have := rdU_le r (i + 1) _ (step_lt (x := c.toNat % 128) hu (by omega)) (by omega)
        simp only [List.length_cons]
        refine ⟨by omega, by omega, this.2.2.1, fun h => by have := this.2.2.2 h; omega⟩
      · split
        · simp
        · simp only [List.length_cons]
          exact ⟨by omega, by omega, hst.2, fun _ => by omega⟩
/-- A length, and the place behind it: or an error. -/
def lnR (L a tail : Nat) (r : Int × Nat × Nat) : Int × Nat × Nat :=
  if ¬ r.1 = 0 then (r.1, 0, a + r.2.2)
  else if unzz r.2.1 < 0 then (3, 0, a + r.2.2)
  else if 65536 < unzz r.2.1 then (5, 0, a + r.2.2)
  else if (L : Int) - ((a + r.2.2 : Nat) : Int) < unzz r.2.1 + tail then (2, 0, a + r.2.2)
  else (0, (unzz r.2.1).toNat, a + r.2.2)
theorem lnR_ok {L a tail : Nat} {r : Int × Nat × Nat} {n q : Nat} (h : lnR L a tail r = (0, n, q)) : r.1 = 0 ∧ unzz r.2.1 = n ∧ n ≤ 65536 ∧ q = a + r.2.2 ∧ q + n + tail ≤ L := by
  unfold lnR at h
  split at h
  · rename_i o; simp only [Prod.mk.injEq] at h; exact absurd h.1 o
  · rename_i o
    have o : r.1 = 0 := by simpa using o
    split at h
    · simp at h
    · split at h
      · simp at h
      · split at h
        · simp at h
        · simp only [Prod.mk.injEq, true_and] at h
          obtain ⟨h1, h2⟩ := h
          exact ⟨o, by omega, by omega, h2.symm, by omega⟩
/- Int, Text; texts laid; the laws CodecInts, CodecTexts. -/
/- Texts laid, and read by the document. -/
/- Small functions of the library; the closed calls of layers 5 and 17. -/
abbrev RCon (g : FuncId) (args : List V) (e c : Nat) (l : List (List PV)) : Prop := Con Try.prog g args [] (.ret (.row 2048) [.row e c l] [])
/- Layer 5's leaves: what is in a list, members, and what may be. -/
def ints (l : List Int) : List (List PV) := l.map fun n => [I n]
@[simp] theorem ints_len (l : List Int) : (ints l).length = l.length := by simp [ints]
@[simp] theorem ints_getElem (l : List Int) (k : Nat) (h : k < (ints l).length) : (ints l)[k] = [I (l[k]'(by simpa using h))] := by simp [ints]
theorem ints_get {l : List Int} {k : Nat} (h : k < l.length) : (ints l)[k]? = some [I l[k]] := by simp [ints, h]
/-! ### Members -/
structure Mb where
  (i r w g : Int)
  deriving DecidableEq
def Mb.cells (m : Mb) : List PV := [I m.i, I m.r, I m.w, I m.g]
def mbs (l : List Mb) : List (List PV) := l.map Mb.cells
@[simp] theorem mbs_len (l : List Mb) : (mbs l).length = l.length := by simp [mbs]
@[simp] theorem mbs_getElem (l : List Mb) (k : Nat) (h : k < (mbs l).length) : (mbs l)[k] = [I (l[k]'(by simpa using h)).i, I (l[k]'(by simpa using h)).r, I (l[k]'(by simpa using h)).w, I (l[k]'(by simpa using h)).g] := by simp [mbs, Mb.cells]
structure Cf where
  (ep n kind : Int)
  ms : List Mb
def Cf.cells (c : Cf) : List PV := [I c.ep, I c.n, I c.kind, .sl 4 (mbs c.ms)]
def okM (m : Mb) : Prop := (0 ≤ m.i ∧ m.i ≤ 15) ∧ (m.r = 1 ∨ m.r = 2) ∧ (0 ≤ m.w ∧ m.w ≤ 100) ∧ (0 ≤ m.g ∧ m.g ≤ 7)
instance (m : Mb) : Decidable (okM m) := by unfold okM; infer_instance
end Go.Proofs.Ytechjohebkcjiaa
/- Formats: what is laid as bytes, and read from them. -/
namespace Go.Proofs.Ytechjohebkcjiaa
set_option linter.unusedSimpArgs false
set_option linter.unusedVariables false
open Go Go.Av
/-- An error and the place with it. -/
abbrev RS := Int × Int
/-- A format: how many cells; which may be; their bytes; a bound of these; what is read from a place on; what stands there if nothing is read. -/
structure Fo where
  n : Nat
  ok : List PV → Prop
  en : List PV → List UInt8
  sz : List PV → Nat
  rd : List UInt8 → RS → List PV × RS
  ze : List PV
structure FoL (f : Fo) : Prop where
  len : ∀ cs, f.ok cs → cs.length = f.n
  szl : ∀ cs, f.ok cs → (f.en cs).length ≤ f.sz cs
  zok : f.ok f.ze
  rok : ∀ b st, f.ok (f.rd b st).1
  stk : ∀ b e a, ¬ e = 0 → f.rd b (e, a) = (f.ze, e, a)
  took : ∀ b a cs k, f.rd b (0, a) = (cs, 0, k) → 0 ≤ a ∧ a ≤ k ∧ k ≤ b.length ∧ b.take a.toNat ++ f.en cs = b.take k.toNat
/-! ### Numbers -/
theorem rdU_inv : ∀ (l : List UInt8) (i u w k : Nat), rdU i u l = (0, w, k) → ∃ v, w = u + v * 128 ^ i ∧ i < k ∧ k ≤ i + l.length ∧ l.take (k - i) = enc v ∧ (0 < i → 0 < v)
  | [], i, u, w, k, h => by simp [rdU] at h
  | c :: r, i, u, w, k, h => by
    have hc := c.toNat_lt
    rw [rdU] at h
    split at h
    · simp at h
    · split at h
      · rename_i o
        obtain ⟨v, h1, h2, h3, h4, h5⟩ := rdU_inv r (i + 1) _ w k h
        have hv := h5 (by omega)
        refine ⟨c.toNat % 128 + 128 * v, ?_, by omega, by simp only [List.length_cons]; omega, ?_, fun _ => by omega⟩
        · rw [h1, Nat.pow_succ, Nat.mul_comm (128 ^ i), ← Nat.mul_assoc, Nat.add_mul, Nat.mul_comm v, Nat.add_assoc]
        · rw [show k - i = (k - (i + 1)) + 1 by omega, List.take_succ_cons, h4, enc_big (u := c.toNat % 128 + 128 * v) (by omega)]
          rw [show (c.toNat % 128 + 128 * v) % 128 = c.toNat % 128 by omega, show (c.toNat % 128 + 128 * v) / 128 = v by omega]
          congr 1
          rw [← UInt8.toNat_inj, u8_toNat _ (by omega)]; omega
      · split at h
        · simp at h
        · rename_i o1 o2 o3
          simp only [Prod.mk.injEq, true_and] at h
          obtain ⟨h1, h2⟩ := h
          refine ⟨c.toNat, by rw [← h1, Nat.mod_eq_of_lt (by omega)], by omega, by simp only [List.length_cons]; omega, ?_, fun hi => by omega⟩
          rw [show k - i = 1 by omega, enc_small (by omega)]
          simp
theorem rdU_took {l : List UInt8} {w k : Nat} (h : rdU 0 0 l = (0, w, k)) : 0 < k ∧ k ≤ l.length ∧ l.take k = enc w := by
  obtain ⟨v, h1, h2, h3, h4, -⟩ := rdU_inv l 0 0 w k h
  simp at h1 h3 h4
  subst h1
  exact ⟨h2, h3, h4⟩
theorem int_took {b : List UInt8} {a u k : Nat} (ha : a ≤ b.length) (h : rdU 0 0 (b.drop a) = (0, u, k)) : a < a + k ∧ a + k ≤ b.length ∧ b.take a ++ enc u = b.take (a + k) := by
  obtain ⟨h1, h2, h3⟩ := rdU_took h
  rw [List.length_drop] at h2
  exact ⟨by omega, by omega, by rw [List.take_add, h3]⟩
def intP (b : List UInt8) (a : Int) : Int × Int × Int :=
  if a < 0 ∨ (b.length : Int) < a then (0, 0, 1)
  else if (rdU 0 0 (b.drop a.toNat)).1 = 0 then (unzz (rdU 0 0 (b.drop a.toNat)).2.1, ((a.toNat + (rdU 0 0 (b.drop a.toNat)).2.2 : Nat) : Int), 0)
  else (0, 0, (rdU 0 0 (b.drop a.toNat)).1)
theorem ok0 : okI 0 := ⟨by decide, by decide⟩
theorem intP_ok (b : List UInt8) (a : Int) : okI (intP b a).1 := by
  unfold intP
  split
  · exact ok0
  · split
    · exact unzz_ok (rdU_le _ 0 0 (by decide) (by omega)).2.2.1
    · exact ok0
theorem intP_took {b : List UInt8} {a : Int} (h : (intP b a).2.2 = 0) : 0 ≤ a ∧ a ≤ (intP b a).2.1 ∧ (intP b a).2.1 ≤ b.length ∧ b.take a.toNat ++ enc (zz (intP b a).1) = b.take (intP b a).2.1.toNat := by
  unfold intP at h ⊢
  split at h
  · simp at h
  · rename_i h1
    split at h
    · rename_i h2
      rw [if_neg h1, if_pos h2]
      have ha : a.toNat ≤ b.length := by omega
      have he : rdU 0 0 (b.drop a.toNat) = (0, (rdU 0 0 (b.drop a.toNat)).2.1, (rdU 0 0 (b.drop a.toNat)).2.2) := by rw [← h2]
      obtain ⟨g1, g2, g3⟩ := int_took ha he
      refine ⟨by omega, by simp only; omega, by simp only; omega, ?_⟩
      simp only [zz_unzz, Int.toNat_natCast]
      exact g3
    · rename_i h2
      exact absurd h h2
/-- A number read. -/
def rdN (b : List UInt8) (st : RS) : Int × RS :=
  if st.1 = 0 then (if (intP b st.2).2.2 = 0 then ((intP b st.2).1, 0, (intP b st.2).2.1) else (0, (intP b st.2).2.2, st.2)) else (0, st)
theorem rdN_ok (b : List UInt8) (st : RS) : okI (rdN b st).1 := by
  unfold rdN
  split
  · split
    · exact intP_ok _ _
    · exact ok0
  · exact ok0
theorem rdN_stk (b : List UInt8) {e : Int} (a : Int) (h : ¬ e = 0) : rdN b (e, a) = (0, e, a) := by unfold rdN; rw [if_neg h]
theorem rdN_took {b : List UInt8} {a n k : Int} (h : rdN b (0, a) = (n, 0, k)) : 0 ≤ a ∧ a ≤ k ∧ k ≤ b.length ∧ b.take a.toNat ++ enc (zz n) = b.take k.toNat := by
  unfold rdN at h
  rw [if_pos rfl] at h
  split at h
  · rename_i h1
    simp only [Prod.mk.injEq, true_and] at h
    obtain ⟨rfl, rfl⟩ := h
    exact intP_took h1
  · rename_i h1
    simp only [Prod.mk.injEq] at h
    exact absurd h.2.1 h1
def enI : List PV → List UInt8
  | [.v (.int _ n)] => enc (zz n)
  | _ => []
def foI : Fo := ⟨1, fun cs => ∃ n, cs = [I n] ∧ okI n, enI, fun _ => 10, fun b st => ([I (rdN b st).1], (rdN b st).2), [I 0]⟩
@[simp] theorem foI_en (n : Int) : foI.en [I n] = enc (zz n) := rfl
@[simp] theorem foI_n : foI.n = 1 := rfl
theorem foI_L : FoL foI where
  len := fun cs ⟨n, h, _⟩ => by subst h; rfl
  szl := fun cs ⟨n, h, ho⟩ => by subst h; exact enc_len10 (zz_lt ho)
  zok := ⟨0, rfl, ok0⟩
  rok := fun b st => ⟨_, rfl, rdN_ok b st⟩
  stk := fun b e a h => by show (_, _) = _; rw [rdN_stk b a h]; rfl
  took := fun b a cs k h => by
    simp only [foI, Prod.mk.injEq] at h
    obtain ⟨rfl, h⟩ := h
    have h' : rdN b (0, a) = ((rdN b (0, a)).1, 0, k) := by rw [← h]
    exact rdN_took h'
/-! ### Texts -/
def textP (b : List UInt8) (a : Int) : List UInt8 × Int × Int :=
  if a < 0 ∨ (b.length : Int) < a then ([], 0, 1)
  else if (lnR b.length a.toNat 0 (rdU 0 0 (b.drop a.toNat))).1 = 0 then ((b.drop (lnR b.length a.toNat 0 (rdU 0 0 (b.drop a.toNat))).2.2).take (lnR b.length a.toNat 0 (rdU 0 0 (b.drop a.toNat))).2.1, (((lnR b.length a.toNat 0 (rdU 0 0 (b.drop a.toNat))).2.2 + (lnR b.length a.toNat 0 (rdU 0 0 (b.drop a.toNat))).2.1 : Nat) : Int), 0)
  else ([], 0, (lnR b.length a.toNat 0 (rdU 0 0 (b.drop a.toNat))).1)
theorem textP_took {b : List UInt8} {a : Int} (h : (textP b a).2.2 = 0) : 0 ≤ a ∧ a ≤ (textP b a).2.1 ∧ (textP b a).2.1 ≤ b.length ∧ b.take a.toNat ++ (enc (zz (textP b a).1.length) ++ (textP b a).1) = b.take (textP b a).2.1.toNat := by
  unfold textP at h ⊢
  split at h
  · simp at h
  · rename_i h1
    split at h
    · rename_i h2
      rw [if_neg h1, if_pos h2]
      have ha : a.toNat ≤ b.length := by omega
      generalize hr : lnR b.length a.toNat 0 (rdU 0 0 (b.drop a.toNat)) = r at h2 ⊢
      obtain ⟨e, n, q⟩ := r
      simp only at h2
      subst h2
      obtain ⟨g1, g2, g3, g4, g5⟩ := lnR_ok hr
      have hu : rdU 0 0 (b.drop a.toNat) = (0, (rdU 0 0 (b.drop a.toNat)).2.1, (rdU 0 0 (b.drop a.toNat)).2.2) := by rw [← g1]
      obtain ⟨k1, k2, k3⟩ := int_took ha hu
      have hz := zz_unzz (rdU 0 0 (b.drop a.toNat)).2.1
      rw [g2] at hz
      rw [← g4] at k1 k2 k3
      have hl : ((b.drop q).take n).length = n := by rw [List.length_take, List.length_drop]; omega
      simp only [hl]
      refine ⟨by omega, by omega, by omega, ?_⟩
      rw [Int.toNat_natCast, ← List.append_assoc, hz, k3, List.take_add]
    · rename_i h2
      exact absurd h h2
theorem textP_len (b : List UInt8) (a : Int) : (textP b a).1.length ≤ 65536 := by
  unfold textP
  split
  · simp
  · split
    · rename_i h2
      generalize hr : lnR b.length a.toNat 0 (rdU 0 0 (b.drop a.toNat)) = r at h2 ⊢
      obtain ⟨e, n, q⟩ := r
      simp only at h2
      subst h2
      obtain ⟨g1, g2, g3, g4, g5⟩ := lnR_ok hr
      simp only [List.length_take, List.length_drop]; omega
    · simp
def rdS (b : List UInt8) (st : RS) : List UInt8 × RS :=
  if st.1 = 0 then (if (textP b st.2).2.2 = 0 then ((textP b st.2).1, 0, (textP b st.2).2.1) else ([], (textP b st.2).2.2, st.2)) else ([], st)
theorem rdS_stk (b : List UInt8) {e : Int} (a : Int) (h : ¬ e = 0) : rdS b (e, a) = ([], e, a) := by unfold rdS; rw [if_neg h]
theorem rdS_took {b x : List UInt8} {a k : Int} (h : rdS b (0, a) = (x, 0, k)) : 0 ≤ a ∧ a ≤ k ∧ k ≤ b.length ∧ b.take a.toNat ++ (enc (zz x.length) ++ x) = b.take k.toNat := by
  unfold rdS at h
  rw [if_pos rfl] at h
  split at h
  · rename_i h1
    simp only [Prod.mk.injEq, true_and] at h
    obtain ⟨rfl, rfl⟩ := h
    exact textP_took h1
  · rename_i h1
    simp only [Prod.mk.injEq] at h
    exact absurd h.2.1 h1
theorem rdS_len (b : List UInt8) (st : RS) : (rdS b st).1.length ≤ 65536 := by
  unfold rdS
  split
  · split
    · exact textP_len _ _
    · simp
  · simp
def enS : List PV → List UInt8
  | [.v (.string s)] => enc (zz s.data.toList.length) ++ s.data.toList
  | _ => []
def szS : List PV → Nat
  | [.v (.string s)] => 10 + s.data.toList.length
  | _ => 10
def foS : Fo := ⟨1, fun cs => ∃ s : List UInt8, cs = [SB s] ∧ s.length ≤ 9223372036854775807, enS, szS, fun b st => ([SB (rdS b st).1], (rdS b st).2), [SB []]⟩
@[simp] theorem foS_en (s : List UInt8) : foS.en [SB s] = enc (zz s.length) ++ s := by show enc (zz (bs s).data.toList.length) ++ (bs s).data.toList = _; rw [bs_list]
@[simp] theorem foS_sz (s : List UInt8) : foS.sz [SB s] = 10 + s.length := by show 10 + (bs s).data.toList.length = _; rw [bs_list]
@[simp] theorem foS_n : foS.n = 1 := rfl
theorem foS_L : FoL foS where
  len := fun cs ⟨s, h, _⟩ => by subst h; rfl
  szl := fun cs ⟨s, h, ho⟩ => by
    subst h
    have := enc_len10 (zz_lt (n := (s.length : Int)) ⟨by omega, by omega⟩)
    rw [foS_en, foS_sz, List.length_append]; omega
  zok := ⟨[], rfl, by simp⟩
  rok := fun b st => ⟨_, rfl, by have := rdS_len b st; omega⟩
  stk := fun b e a h => by show (_, _) = _; rw [rdS_stk b a h]; rfl
  took := fun b a cs k h => by
    simp only [foS, Prod.mk.injEq] at h
    obtain ⟨rfl, h⟩ := h
    have h' : rdS b (0, a) = ((rdS b (0, a)).1, 0, k) := by rw [← h]
    rw [foS_en]
    exact rdS_took h'
/-! ### Flags -/
def rdB (b : List UInt8) (st : RS) : Bool × RS :=
  if (rdN b st).2.1 = 0 ∧ ¬ ((rdN b st).1 = 0 ∨ (rdN b st).1 = 1) then (false, 3, (rdN b st).2.2) else (decide ((rdN b st).1 = 1), (rdN b st).2)
theorem rdB_stk (b : List UInt8) {e : Int} (a : Int) (h : ¬ e = 0) : rdB b (e, a) = (false, e, a) := by
  unfold rdB; rw [rdN_stk b a h]; simp [h]
theorem rdB_took {b : List UInt8} {x : Bool} {a k : Int} (h : rdB b (0, a) = (x, 0, k)) : 0 ≤ a ∧ a ≤ k ∧ k ≤ b.length ∧ b.take a.toNat ++ enc (zz (if x = true then 1 else 0)) = b.take k.toNat := by
  unfold rdB at h
  split at h
  · simp at h
  · rename_i h1
    simp only [Prod.mk.injEq] at h
    obtain ⟨rfl, h2⟩ := h
    have hn : (rdN b (0, a)).1 = 0 ∨ (rdN b (0, a)).1 = 1 := by
      rw [h2] at h1
      simp at h1
      by_cases h0 : (rdN b (0, a)).1 = 0
      · exact .inl h0
      · exact .inr (h1 h0)
    have h' : rdN b (0, a) = ((rdN b (0, a)).1, 0, k) := by rw [← h2]
    have := rdN_took h'
    rcases hn with hn | hn
    · rw [hn] at this ⊢; simpa using this
    · rw [hn] at this ⊢; simpa using this
def enB : List PV → List UInt8
  | [.v (.bool x)] => enc (zz (if x = true then 1 else 0))
  | _ => []
def foB : Fo := ⟨1, fun cs => ∃ x, cs = [B x], enB, fun _ => 10, fun b st => ([B (rdB b st).1], (rdB b st).2), [B false]⟩
@[simp] theorem foB_en (x : Bool) : foB.en [B x] = enc (zz (if x = true then 1 else 0)) := rfl
@[simp] theorem foB_n : foB.n = 1 := rfl
theorem foB_L : FoL foB where
  len := fun cs ⟨s, h⟩ => by subst h; rfl
  szl := fun cs ⟨x, h⟩ => by
    subst h
    rw [foB_en]
    exact enc_len10 (zz_lt (by cases x <;> exact ⟨by decide, by decide⟩))
  zok := ⟨false, rfl⟩
  rok := fun b st => ⟨_, rfl⟩
  stk := fun b e a h => by show (_, _) = _; rw [rdB_stk b a h]; rfl
  took := fun b a cs k h => by
    simp only [foB, Prod.mk.injEq] at h
    obtain ⟨rfl, h⟩ := h
    have h' : rdB b (0, a) = ((rdB b (0, a)).1, 0, k) := by rw [← h]
    rw [foB_en]
    exact rdB_took h'
/-! ### One behind the other -/
def sq (f g : Fo) : Fo :=
  ⟨f.n + g.n, fun cs => f.ok (cs.take f.n) ∧ g.ok (cs.drop f.n), fun cs => f.en (cs.take f.n) ++ g.en (cs.drop f.n), fun cs => f.sz (cs.take f.n) + g.sz (cs.drop f.n),
    fun b st => ((f.rd b st).1 ++ (g.rd b (f.rd b st).2).1, (g.rd b (f.rd b st).2).2), f.ze ++ g.ze⟩
@[simp] theorem sq_n (f g : Fo) : (sq f g).n = f.n + g.n := rfl
theorem sq_en (f g : Fo) (cs : List PV) : (sq f g).en cs = f.en (cs.take f.n) ++ g.en (cs.drop f.n) := rfl
theorem sq_sz (f g : Fo) (cs : List PV) : (sq f g).sz cs = f.sz (cs.take f.n) + g.sz (cs.drop f.n) := rfl
theorem sq_rd (f g : Fo) (b : List UInt8) (st : RS) : (sq f g).rd b st = ((f.rd b st).1 ++ (g.rd b (f.rd b st).2).1, (g.rd b (f.rd b st).2).2) := rfl
theorem take_app {α : Type} {n : Nat} {a b : List α} (h : a.length = n) : (a ++ b).take n = a := by subst h; simp
theorem drop_appN {α : Type} {n : Nat} {a b : List α} (h : a.length = n) : (a ++ b).drop n = b := by subst h; simp
theorem sq_L {f g : Fo} (hf : FoL f) (hg : FoL g) : FoL (sq f g) where
  len := fun cs ⟨h1, h2⟩ => by
    have e1 := hf.len _ h1
    have e2 := hg.len _ h2
    rw [List.length_take] at e1
    rw [List.length_drop] at e2
    show _ = f.n + g.n
    by_cases hz : f.n ≤ cs.length
    · omega
    · have : g.n = 0 := by omega
      omega
  szl := fun cs ⟨h1, h2⟩ => by
    have := hf.szl _ h1
    have := hg.szl _ h2
    rw [sq_en, sq_sz, List.length_append]; omega
  zok := by
    have e := hf.len _ hf.zok
    refine ⟨?_, ?_⟩
    · show f.ok ((f.ze ++ g.ze).take f.n); rw [take_app e]; exact hf.zok
    · show g.ok ((f.ze ++ g.ze).drop f.n); rw [drop_appN e]; exact hg.zok
  rok := fun b st => by
    have e := hf.len _ (hf.rok b st)
    refine ⟨?_, ?_⟩
    · show f.ok (((f.rd b st).1 ++ _).take f.n); rw [take_app e]; exact hf.rok b st
    · show g.ok (((f.rd b st).1 ++ _).drop f.n); rw [drop_appN e]; exact hg.rok b _
  stk := fun b e a h => by rw [sq_rd, hf.stk b e a h]; simp only; rw [hg.stk b e a h]; rfl
  took := fun b a cs k h => by
    rw [sq_rd] at h
    simp only [Prod.mk.injEq] at h
    obtain ⟨rfl, h2⟩ := h
    have e := hf.len _ (hf.rok b (0, a))
    rw [sq_en, take_app e, drop_appN e]
    generalize hr : f.rd b (0, a) = r at h2 ⊢
    obtain ⟨c1, e1, a1⟩ := r
    simp only at h2 ⊢
    by_cases h0 : e1 = 0
    · subst h0
      obtain ⟨p1, p2, p3, p4⟩ := hf.took b a c1 a1 hr
      have h2' : g.rd b (0, a1) = ((g.rd b (0, a1)).1, 0, k) := by rw [← h2]
      obtain ⟨q1, q2, q3, q4⟩ := hg.took b a1 _ k h2'
      exact ⟨p1, by omega, q3, by rw [← List.append_assoc, p4, q4]⟩
    · rw [hg.stk b e1 a1 h0] at h2
      simp only [Prod.mk.injEq] at h2
      exact absurd h2.1 h0
/-! ### Lists -/
def rdC (b : List UInt8) (st : RS) : Int × RS :=
  if ¬ (rdN b st).2.1 = 0 then (0, (rdN b st).2) else if (rdN b st).1 < 0 then (0, 3, (rdN b st).2.2) else if 1000 < (rdN b st).1 then (0, 5, (rdN b st).2.2) else rdN b st
theorem rdC_stk (b : List UInt8) {e : Int} (a : Int) (h : ¬ e = 0) : rdC b (e, a) = (0, e, a) := by unfold rdC; rw [rdN_stk b a h]; simp [h]
theorem rdC_bd (b : List UInt8) (st : RS) : 0 ≤ (rdC b st).1 ∧ (rdC b st).1 ≤ 1000 := by
  unfold rdC
  split
  · simp
  · split
    · simp
    · split
      · simp
      · omega
theorem rdC_took {b : List UInt8} {a n k : Int} (h : rdC b (0, a) = (n, 0, k)) : 0 ≤ a ∧ a ≤ k ∧ k ≤ b.length ∧ b.take a.toNat ++ enc (zz n) = b.take k.toNat := by
  unfold rdC at h
  split at h
  · rename_i h1
    simp only [Prod.mk.injEq] at h
    rw [h.2] at h1
    exact absurd rfl h1
  · split at h
    · simp at h
    · split at h
      · simp at h
      · exact rdN_took h
def rdL (rd : List UInt8 → RS → List PV × RS) (b : List UInt8) : Nat → RS → List (List PV) × RS
  | 0, st => ([], st)
  | k + 1, st => if st.1 = 0 then ((rd b st).1 :: (rdL rd b k (rd b st).2).1, (rdL rd b k (rd b st).2).2) else ([], st)
theorem rdL_stk (rd : List UInt8 → RS → List PV × RS) (b : List UInt8) (k : Nat) {e : Int} (a : Int) (h : ¬ e = 0) : rdL rd b k (e, a) = ([], e, a) := by
  cases k with
  | zero => rfl
  | succ k => unfold rdL; rw [if_neg h]
theorem rdL_len (rd : List UInt8 → RS → List PV × RS) (b : List UInt8) : ∀ k st, (rdL rd b k st).1.length ≤ k ∧ ((rdL rd b k st).2.1 = 0 → (rdL rd b k st).1.length = k)
  | 0, st => by simp [rdL]
  | k + 1, st => by
    unfold rdL
    split
    · have := rdL_len rd b k (rd b st).2
      simp only [List.length_cons]
      exact ⟨by omega, fun h => by have := this.2 h; omega⟩
    · rename_i h
      simp [h]
def enL (f : List PV → List UInt8) : List PV → List UInt8
  | [.sl _ rows] => enc (zz rows.length) ++ rows.flatMap f
  | _ => []
def szL (f : List PV → Nat) : List PV → Nat
  | [.sl _ rows] => 10 + (rows.map f).sum
  | _ => 10
def fl (c : Nat) (f : Fo) : Fo :=
  ⟨1, fun cs => ∃ rows, cs = [.sl c rows] ∧ rows.length ≤ 9223372036854775807 ∧ ∀ r ∈ rows, f.ok r, enL f.en, szL f.sz,
    fun b st => ([.sl c (rdL f.rd b (rdC b st).1.toNat (rdC b st).2).1], (rdL f.rd b (rdC b st).1.toNat (rdC b st).2).2), [.sl c []]⟩
@[simp] theorem fl_n (c : Nat) (f : Fo) : (fl c f).n = 1 := rfl
theorem fl_en (c : Nat) (f : Fo) (rows : List (List PV)) : (fl c f).en [.sl c rows] = enc (zz rows.length) ++ rows.flatMap f.en := rfl
theorem fl_sz (c : Nat) (f : Fo) (rows : List (List PV)) : (fl c f).sz [.sl c rows] = 10 + (rows.map f.sz).sum := rfl
theorem rdL_took {f : Fo} (hf : FoL f) {b : List UInt8} : ∀ (k : Nat) (a z : Int), 0 ≤ a → a ≤ b.length → (rdL f.rd b k (0, a)).2 = (0, z) → a ≤ z ∧ z ≤ b.length ∧ b.take a.toNat ++ (rdL f.rd b k (0, a)).1.flatMap f.en = b.take z.toNat
  | 0, a, z, h0, h1, h => by
    simp only [rdL, Prod.mk.injEq, true_and] at h
    subst h
    exact ⟨by omega, h1, by simp [rdL]⟩
  | k + 1, a, z, h0, h1, h => by
    unfold rdL at h ⊢
    simp only [if_true] at h ⊢
    generalize hr : f.rd b (0, a) = r at h ⊢
    obtain ⟨c1, e1, a1⟩ := r
    simp only at h ⊢
    by_cases hz : e1 = 0
    · subst hz
      obtain ⟨p1, p2, p3, p4⟩ := hf.took b a c1 a1 hr
      obtain ⟨q1, q2, q3⟩ := rdL_took hf k a1 z (by omega) p3 h
      refine ⟨by omega, q2, ?_⟩
      rw [List.flatMap_cons, ← List.append_assoc, p4, q3]
    · rw [rdL_stk _ _ _ _ hz] at h
      simp only [Prod.mk.injEq] at h
      exact absurd h.1 hz
theorem rdL_ok {f : Fo} (hf : FoL f) {b : List UInt8} : ∀ (k : Nat) (st : RS), ∀ r ∈ (rdL f.rd b k st).1, f.ok r
  | 0, st, r, h => by simp [rdL] at h
  | k + 1, st, r, h => by
    unfold rdL at h
    split at h
    · rcases List.mem_cons.1 h with rfl | h
      · exact hf.rok b st
      · exact rdL_ok hf k _ r h
    · simp at h
theorem flatMap_le {α : Type} {f : α → List UInt8} {g : α → Nat} {l : List α} (h : ∀ x ∈ l, (f x).length ≤ g x) : (l.flatMap f).length ≤ (l.map g).sum := by
  induction l with
  | nil => simp
  | cons x l ih =>
    rw [List.flatMap_cons, List.length_append, List.map_cons, List.sum_cons]
    have := h x List.mem_cons_self
    have := ih fun y hy => h y (List.mem_cons_of_mem _ hy)
    omega
theorem fl_L {f : Fo} (hf : FoL f) (c : Nat) : FoL (fl c f) where
  len := fun cs ⟨s, h, _⟩ => by subst h; rfl
  szl := fun cs ⟨rows, h, hl, ho⟩ => by
    subst h
    have := enc_len10 (zz_lt (n := (rows.length : Int)) ⟨by omega, by omega⟩)
    have := flatMap_le fun r hr => hf.szl r (ho r hr)
    rw [fl_en, fl_sz, List.length_append]; omega
  zok := ⟨[], rfl, by simp, by simp⟩
  rok := fun b st => ⟨_, rfl, by have := (rdL_len f.rd b (rdC b st).1.toNat (rdC b st).2).1; have := rdC_bd b st; omega, rdL_ok hf _ _⟩
  stk := fun b e a h => by show (_, _) = _; rw [rdC_stk b a h]; simp only; rw [rdL_stk _ _ _ _ h]; rfl
  took := fun b a cs k h => by
    simp only [fl, Prod.mk.injEq] at h
    obtain ⟨rfl, h⟩ := h
    rw [fl_en]
    have hb := rdC_bd b (0, a)
    have hl := rdL_len f.rd b (rdC b (0, a)).1.toNat (rdC b (0, a)).2
    generalize hr : rdC b (0, a) = r at h hb hl ⊢
    obtain ⟨n, e1, a1⟩ := r
    simp only at h hb hl ⊢
    by_cases hz : e1 = 0
    · subst hz
      obtain ⟨p1, p2, p3, p4⟩ := rdC_took hr
      obtain ⟨q1, q2, q3⟩ := rdL_took hf n.toNat a1 k (by omega) p3 h
      have hlen := hl.2 (by rw [h])
      refine ⟨p1, by omega, q2, ?_⟩
      rw [hlen, show ((n.toNat : Nat) : Int) = n by omega, ← List.append_assoc, p4, q3]
    · rw [rdL_stk _ _ _ _ hz] at h
      simp only [Prod.mk.injEq] at h
      exact absurd h.1 hz
/-- What is handed over: one cell is a value, several a struct. -/
def vOf : List PV → V
  | [p] => .p p
  | cs => .p (.agg cs)
@[simp] theorem vOf1 (p : PV) : vOf [p] = .p p := rfl
@[simp] theorem vOf2 (p q : PV) (l : List PV) : vOf (p :: q :: l) = .p (.agg (p :: q :: l)) := rfl
end Go.Proofs.Ytechjohebkcjiaa
