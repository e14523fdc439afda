/- Frames: the sum laid and read; Seal. -/
import Derived.Test.YtfilinonmngefaaDoorCH
import Derived.Test.YtfilinonmngefaaDoorCI
import Derived.Test.YtfilinonmngefaaDoorAvTup
namespace Go.Proofs.YtfilinonmngefaaDoor
set_option linter.unusedSimpArgs false
set_option linter.unusedVariables false
open Go Go.Av
attribute [local simp] Tryd.T1 Tryd.T2 Tryd.T3 Tryd.T4 Tryd.T5 Tryd.T9 Tryd.T12 Tryd.T15 Tryd.T16 Tryd.T17 Tryd.T21 Tryd.T22 Tryd.T23 Tryd.T24 Tryd.T25 Tryd.T27 Tryd.T28 Tryd.T29 Tryd.T31 Tryd.T32 Tryd.T34 Tryd.T35 Tryd.T36 Tryd.T38 Tryd.T39 Tryd.T41 Tryd.T42 Tryd.T43 Tryd.T44 Tryd.T45 Tryd.T46 Tryd.T47 Tryd.T48 Tryd.T49 Tryd.T50 Tryd.T51 Tryd.T52 Tryd.T53 Tryd.T54 Tryd.T55 Tryd.T56 Tryd.T57 Tryd.T58 Tryd.T59 Tryd.T60 Tryd.T61 Tryd.T62 Tryd.T63 Tryd.T65 Tryd.T66 Tryd.T67 Tryd.T68 Tryd.T69 Tryd.T70 Tryd.T73 Tryd.T78 Tryd.T79
attribute [local irreducible] Go.Av.CallK Go.Av.CallE Go.Av.CallQ Go.Av.CallF Go.Av.CallR Go.Av.CallH Go.Av.Con

/-- The four bytes of a sum. -/
def le4 (n : Nat) : List UInt8 := [UInt8.ofNat n, UInt8.ofNat (n / 256), UInt8.ofNat (n / 65536), UInt8.ofNat (n / 16777216)]
theorem le4_len (n : Nat) : (le4 n).length = 4 := rfl
theorem ofNat8 (n : Nat) : (UInt8.ofNat n).toNat = n % 256 := UInt8.toNat_ofNat'
theorem u8_wrapN (m : Nat) : IntKind.u8.wrap (m : Int) = ((UInt8.ofNat m).toNat : Int) := by rw [u8_wrap, ofNat8]; omega
theorem shr8k (n : Nat) : ∀ k, k < 4 → (n : Int).fdiv (2 ^ min (8 * k) IntKind.u32.bits) = ((n / 256 ^ k : Nat) : Int)
  | 0, _ => by show (n : Int).fdiv 1 = ((n / 1 : Nat) : Int); rw [Int.fdiv_eq_ediv_of_nonneg _ (by omega)]; omega
  | 1, _ => by show (n : Int).fdiv 256 = ((n / 256 : Nat) : Int); rw [Int.fdiv_eq_ediv_of_nonneg _ (by omega)]; omega
  | 2, _ => by show (n : Int).fdiv 65536 = ((n / 65536 : Nat) : Int); rw [Int.fdiv_eq_ediv_of_nonneg _ (by omega)]; omega
  | 3, _ => by show (n : Int).fdiv 16777216 = ((n / 16777216 : Nat) : Int); rw [Int.fdiv_eq_ediv_of_nonneg _ (by omega)]; omega
  | k + 4, h => absurd h (by omega)
theorem le4_succ (n : Nat) : ∀ k, k < 4 → (le4 n).take (k + 1) = (le4 n).take k ++ [UInt8.ofNat (n / 256 ^ k)]
  | 0, _ => by simp [le4]
  | 1, _ => by simp [le4]
  | 2, _ => by simp [le4]
  | 3, _ => by simp [le4]
  | k + 4, h => absurd h (by omega)

theorem laySum_con (b : List UInt8) (n : Nat) (h : b.length ≤ 1000000000) : Con Tryd.prog 34 [.row 1024, .p (.v (.int .u32 n))] [.row 5 1 (by8 b)] (.ret (.row 1024) [] [.row 5 1 (by8 (b ++ le4 n))]) := by
  refine wBodyG Tryd.tab Tryd.mixed Tryd.func34 rfl rfl Tryd.ntmps34 (by simp) (by simp) fun Q hr hn hp => ?_
  repeat' first | (refine hK _ ?_; clear hK) | (refine hK _ _ ?_; clear hK) | (clear hK; refine hK _ ?_; clear hK) | (clear hK; clear hK; refine hK _ ?_; clear hK) | (clear hK; clear hK; clear hK; refine hK _ ?_; clear hK) | (clear hK; clear hK; clear hK; clear hK; refine hK _ ?_; clear hK) | (refine wSeq fun K hK => ?_) | ((first | refine wReg ?_ | refine wDrwQ rfl (by kernel_rfl) ?_ | refine wDrwI ?_ | refine wDrw (by kernel_rfl) ?_); simp only [List.map_cons, List.map_nil, strip]) | ((first | refine wIs fun K hK => ?_ | refine wOs fun K hK => ?_ | refine wQs fun K hK => ?_ | refine CallK_plain ?_ | refine CallQ_plain ?_ | refine CallR_plain ?_ | refine wCond ?_); simp) | (refine wIn ?_; refine And.intro (by kernel_rfl) ?_; try simp only [thenA_n]) | (first | refine wBlock ?_ | refine wScope ?_) | ((first | refine wRet ?_ | refine wExit ?_ | refine wSkip ?_); try simp) | ((first | refine wLabel ?_ | refine wOn ?_ | refine wQn ?_); try simp only [thenA_n])
  refine wLoop (fun N st => ∃ k l, k + N = 4 ∧ l = b ++ (le4 n).take k ∧ st.s 0 = .row 1024 ∧ st.s 1 = .p (.v (.int .u32 (n : Nat))) ∧ st.s 6 = .p (I k) ∧ st.b 1024 = some (.row 5 1 (by8 l))) 4 ⟨0, b, by simp⟩ fun K N st hL ⟨k, l, hk, hl, g0, g1, g6, b0⟩ => ?_
  have hlen : l.length ≤ 1000000004 := by rw [hl, List.length_append, List.length_take, le4_len]; omega
  by_cases hlt : k < 4
  · have hlt' : (k : Int) < 4 := by omega
    have hw := wrapS k 4 hlt (by omega)
    have hw8 : IntKind.i64.wrap (8 * (k : Int)) = 8 * (k : Int) := wrap_id (by omega) (by omega)
    have hn8 : ¬ 8 * (k : Int) < 0 := by omega
    have ht8 : (8 * (k : Int)).toNat = 8 * k := by omega
    have f := shr8k n k hlt
    have fw := u8_wrapN (n / 256 ^ k)
    have ht := le4_succ n k hlt
    generalize UInt8.ofNat (n / 256 ^ k) = c at fw ht
    generalize n / 256 ^ k = m at f fw
    have hx := by8_snoc l c _ rfl
    try simp at f
    repeat' first | (refine And.intro (by omega) ?_) | (refine hK _ ?_; clear hK) | (refine hK _ _ ?_; clear hK) | (clear hK; refine hK _ ?_; clear hK) | (clear hK; clear hK; refine hK _ ?_; clear hK) | (clear hK; clear hK; clear hK; refine hK _ ?_; clear hK) | (clear hK; clear hK; clear hK; clear hK; refine hK _ ?_; clear hK) | (refine wSeq fun K hK => ?_) | ((first | refine wReg ?_ | refine wDrwQ rfl (by kernel_rfl) ?_ | refine wDrwI ?_ | refine wDrw (by kernel_rfl) ?_); simp only [List.map_cons, List.map_nil, strip]) | ((first | refine wIs fun K hK => ?_ | refine wOs fun K hK => ?_ | refine wQs fun K hK => ?_ | refine CallK_plain ?_ | refine CallQ_plain ?_ | refine CallR_plain ?_ | refine wCond ?_); simp [g0, g1, g6, b0, hlt', hlt, hw, hw8, hn8, ht8, f, fw]) | (refine wIn ?_; refine And.intro (by kernel_rfl) ?_; try simp only [thenA_n]) | (first | refine wBlock ?_ | refine wScope ?_) | ((first | refine wRet ?_ | refine wExit ?_ | refine wSkip ?_); try simp) | ((first | refine wLabel ?_ | refine wOn ?_ | refine wQn ?_); try simp only [thenA_n])
    refine hL _ (N - 1) (by omega) ⟨k + 1, l ++ [c], by omega, by rw [hl, ht, List.append_assoc], ?_⟩
    simp [g0, g1, g6, b0, hw, hw8, hn8, ht8, f, fw, hx]
  · have hk4 : k = 4 := by omega
    subst hk4
    rw [List.take_of_length_le (by simp [le4])] at hl
    subst hl
    repeat' first | (refine hK _ ?_; clear hK) | (refine hK _ _ ?_; clear hK) | (clear hK; refine hK _ ?_; clear hK) | (clear hK; clear hK; refine hK _ ?_; clear hK) | (clear hK; clear hK; clear hK; refine hK _ ?_; clear hK) | (clear hK; clear hK; clear hK; clear hK; refine hK _ ?_; clear hK) | (refine wSeq fun K hK => ?_) | ((first | refine wReg ?_ | refine wDrwQ rfl (by kernel_rfl) ?_ | refine wDrwI ?_ | refine wDrw (by kernel_rfl) ?_); simp only [List.map_cons, List.map_nil, strip]) | ((first | refine wIs fun K hK => ?_ | refine wOs fun K hK => ?_ | refine wQs fun K hK => ?_ | refine CallK_plain ?_ | refine CallQ_plain ?_ | refine CallR_plain ?_ | refine wCond ?_); simp [g0, g1, g6, b0]) | (refine wIn ?_; refine And.intro (by kernel_rfl) ?_; try simp only [thenA_n]) | (first | refine wBlock ?_ | refine wScope ?_) | ((first | refine wRet ?_ | refine wExit ?_ | refine wSkip ?_); try simp) | ((first | refine wLabel ?_ | refine wOn ?_ | refine wQn ?_); try simp only [thenA_n])
    all_goals apply hr
    all_goals refine ⟨[], by simp, by simp, ?_⟩
    all_goals simp [Tryd.f34, outR, outB, renB, gaN, g0, g1, g6, b0]

/-! ### The sum read -/
def le : List UInt8 → Nat
  | [] => 0
  | c :: r => c.toNat + 256 * le r
theorem le_snoc : ∀ (l : List UInt8) (c : UInt8), le (l ++ [c]) = le l + c.toNat * 256 ^ l.length
  | [], c => by simp [le]
  | a :: r, c => by
    rw [List.cons_append, le, le, le_snoc r c, List.length_cons, Nat.pow_succ, Nat.mul_add, Nat.add_assoc]
    congr 2
    rw [Nat.mul_comm (256 ^ r.length), ← Nat.mul_assoc, ← Nat.mul_assoc, Nat.mul_comm 256]
theorem le_lt : ∀ l : List UInt8, le l < 256 ^ l.length
  | [] => by simp [le]
  | a :: r => by
    have := le_lt r
    have := a.toNat_lt
    rw [le, List.length_cons, Nat.pow_succ]; omega
theorem le_le4 (n : Nat) (h : n < 4294967296) : le (le4 n) = n := by
  simp only [le4, le, ofNat8]; omega
theorem le4_le : ∀ s : List UInt8, s.length = 4 → le4 (le s) = s
  | [a, b, c, d], _ => by
    have := a.toNat_lt
    have := b.toNat_lt
    have := c.toNat_lt
    have := d.toNat_lt
    simp only [le4, le, List.cons.injEq, and_true, ← UInt8.toNat_inj, ofNat8]
    omega
theorem le_eq {s : List UInt8} {n : Nat} (hs : s.length = 4) (hn : n < 4294967296) : (n = le s) ↔ s = le4 n :=
  ⟨fun h => by rw [h, le4_le s hs], fun h => by rw [h, le_le4 n hn]⟩
theorem or32_fact {u x i : Nat} (hu : u < 256 ^ i) (hx : x < 256) (hi : i < 4) :
    IntKind.u32.wrap ((BitVec.ofInt IntKind.u32.bits (u : Int) ||| BitVec.ofInt IntKind.u32.bits (IntKind.u32.wrap ((x : Int) * 2 ^ min (8 * i) IntKind.u32.bits))).toNat : Int) = ((u + x * 256 ^ i : Nat) : Int) := by
  have hp : 2 ^ (8 * i) = 256 ^ i := by rw [Nat.pow_mul]
  have h2 : u + x * 256 ^ i < 4294967296 := by
    have h8 : 256 ^ (i + 1) ≤ 256 ^ 4 := Nat.pow_le_pow_right (by omega) (by omega)
    have : x * 256 ^ i ≤ 255 * 256 ^ i := Nat.mul_le_mul_right _ (by omega)
    rw [Nat.pow_succ] at h8
    omega
  have h1 : x * 256 ^ i < 4294967296 := by omega
  have e1 : min (8 * i) IntKind.u32.bits = 8 * i := by show min (8 * i) 32 = _; omega
  have e2 : (x : Int) * 2 ^ (8 * i) = ((x * 256 ^ i : Nat) : Int) := by rw [← hp]; simp
  have e3 : IntKind.u32.wrap ((x * 256 ^ i : Nat) : Int) = ((x * 256 ^ i : Nat) : Int) := by rw [u32_wrap]; omega
  rw [e1, e2, e3]
  show IntKind.u32.wrap ((BitVec.ofInt 32 (u : Int) ||| BitVec.ofInt 32 ((x * 256 ^ i : Nat) : Int)).toNat : Int) = _
  rw [ofInt_nat, ofInt_nat, BitVec.toNat_or, BitVec.toNat_ofNat, BitVec.toNat_ofNat, Nat.mod_eq_of_lt (by omega), Nat.mod_eq_of_lt (by omega)]
  have e4 : u ||| x * 256 ^ i = u + x * 256 ^ i := by
    rw [← hp, ← Nat.shiftLeft_eq, Nat.or_comm, ← Nat.shiftLeft_add_eq_or_of_lt (by rw [hp]; exact hu), Nat.add_comm]
  rw [e4, u32_wrap]; omega
theorem sum_con (b : List UInt8) (q : Int) (z : Nat) (hz : z + 4 ≤ b.length) (hb : b.length ≤ 1000000000) : Con Tryd.prog 43 [.ptr 1024 0, .p (I z)] [.box 65 [.p (.sl 1 (by8 b)), .p (I q)]] (.ret (.p (.v (.int .u32 (le ((b.drop z).take 4) : Nat)))) [] [.box 65 [.p (.sl 1 (by8 b)), .p (I q)]]) := by
  refine wBodyG Tryd.tab Tryd.mixed Tryd.func43 rfl rfl Tryd.ntmps43 (by simp) (by simp) fun Q hr hn hp => ?_
  repeat' first | (refine hK _ ?_; clear hK) | (refine hK _ _ ?_; clear hK) | (clear hK; refine hK _ ?_; clear hK) | (clear hK; clear hK; refine hK _ ?_; clear hK) | (clear hK; clear hK; clear hK; refine hK _ ?_; clear hK) | (clear hK; clear hK; clear hK; clear hK; refine hK _ ?_; clear hK) | (refine wSeq fun K hK => ?_) | ((first | refine wReg ?_ | refine wDrwQ rfl (by kernel_rfl) ?_ | refine wDrwI ?_ | refine wDrw (by kernel_rfl) ?_); simp only [List.map_cons, List.map_nil, strip]) | ((first | refine wIs fun K hK => ?_ | refine wOs fun K hK => ?_ | refine wQs fun K hK => ?_ | refine CallK_plain ?_ | refine CallQ_plain ?_ | refine CallR_plain ?_ | refine wCond ?_); simp) | (refine wIn ?_; refine And.intro (by kernel_rfl) ?_; try simp only [thenA_n]) | (first | refine wBlock ?_ | refine wScope ?_) | ((first | refine wRet ?_ | refine wExit ?_ | refine wSkip ?_); try simp) | ((first | refine wLabel ?_ | refine wOn ?_ | refine wQn ?_); try simp only [thenA_n])
  refine wLoop (fun N st => ∃ k y u, k + N = 4 ∧ y = z + k ∧ u = le ((b.drop z).take k) ∧ st.s 0 = .ptr 1024 0 ∧ st.s 1 = .p (I z) ∧ st.s 5 = .p (.v (.int .u32 (u : Nat))) ∧ st.s 7 = .p (I k) ∧ st.b 1024 = some (.box 65 [.p (.sl 1 (by8 b)), .p (I q)])) 4 ⟨0, z, 0, by simp [le]⟩ fun K N st hL ⟨k, y, u, hk, hy, hu, g0, g1, g5, g7, b0⟩ => ?_
  by_cases hlt : k < 4
  · have hlt' : (k : Int) < 4 := by omega
    have hw := wrapS k 4 hlt (by omega)
    have hwy : IntKind.i64.wrap ((z : Int) + (k : Int)) = (y : Int) := by rw [wrap_id (by omega) (by omega)]; omega
    have hyb : y < b.length := by omega
    have he := by8_get hyb
    have hw8 : IntKind.i64.wrap (8 * (k : Int)) = 8 * (k : Int) := wrap_id (by omega) (by omega)
    have hn8 : ¬ 8 * (k : Int) < 0 := by omega
    have ht8 : (8 * (k : Int)).toNat = 8 * k := by omega
    have hs : (b.drop z).take (k + 1) = (b.drop z).take k ++ [b[y]] := by
      rw [List.take_succ_eq_append_getElem (by rw [List.length_drop]; omega), List.getElem_drop]; congr 3; omega
    have hsl : ((b.drop z).take k).length = k := by rw [List.length_take, List.length_drop]; omega
    have hul := le_lt ((b.drop z).take k)
    have hls := le_snoc ((b.drop z).take k) b[y]
    rw [hsl, ← hu] at hls
    rw [← hu, hsl] at hul
    rw [← hs] at hls
    have hc := b[y].toNat_lt
    have hcq : ∃ x, x = b[y].toNat := ⟨_, rfl⟩
    obtain ⟨x, hx⟩ := hcq
    rw [← hx] at hc he hls
    have hor := or32_fact hul hc hlt
    rw [← hls] at hor
    generalize hU : le ((b.drop z).take (k + 1)) = u' at hor hls
    have hcv : IntKind.u32.wrap (x : Int) = (x : Int) := by rw [u32_wrap]; omega
    have hxb : b[y].toNat = x := hx.symm
    simp at hor
    repeat' first | (refine hK _ ?_; clear hK) | (refine hK _ _ ?_; clear hK) | (clear hK; refine hK _ ?_; clear hK) | (clear hK; clear hK; refine hK _ ?_; clear hK) | (clear hK; clear hK; clear hK; refine hK _ ?_; clear hK) | (clear hK; clear hK; clear hK; clear hK; refine hK _ ?_; clear hK) | (refine wSeq fun K hK => ?_) | ((first | refine wReg ?_ | refine wDrwQ rfl (by kernel_rfl) ?_ | refine wDrwI ?_ | refine wDrw (by kernel_rfl) ?_); simp only [List.map_cons, List.map_nil, strip]) | ((first | refine wIs fun K hK => ?_ | refine wOs fun K hK => ?_ | refine wQs fun K hK => ?_ | refine CallK_plain ?_ | refine CallQ_plain ?_ | refine CallR_plain ?_ | refine wCond ?_); simp [g0, g1, g5, g7, b0, hlt, hlt', hw, hwy, hyb, he, hxb, hw8, hn8, ht8, hor, hcv]) | (refine wIn ?_; refine And.intro (by kernel_rfl) ?_; try simp only [thenA_n]) | (first | refine wBlock ?_ | refine wScope ?_) | ((first | refine wRet ?_ | refine wExit ?_ | refine wSkip ?_); try simp) | ((first | refine wLabel ?_ | refine wOn ?_ | refine wQn ?_); try simp only [thenA_n])
    refine hL _ (N - 1) (by omega) ⟨k + 1, y + 1, u', by omega, by omega, ?_⟩
    simp [g0, g1, g5, g7, b0, hw, hwy, hw8, hn8, ht8, hor, hcv, hxb]
    exact hU.symm
  · have hk4 : k = 4 := by omega
    subst hk4
    rw [← hu] at hr
    repeat' first | (refine hK _ ?_; clear hK) | (refine hK _ _ ?_; clear hK) | (clear hK; refine hK _ ?_; clear hK) | (clear hK; clear hK; refine hK _ ?_; clear hK) | (clear hK; clear hK; clear hK; refine hK _ ?_; clear hK) | (clear hK; clear hK; clear hK; clear hK; refine hK _ ?_; clear hK) | (refine wSeq fun K hK => ?_) | ((first | refine wReg ?_ | refine wDrwQ rfl (by kernel_rfl) ?_ | refine wDrwI ?_ | refine wDrw (by kernel_rfl) ?_); simp only [List.map_cons, List.map_nil, strip]) | ((first | refine wIs fun K hK => ?_ | refine wOs fun K hK => ?_ | refine wQs fun K hK => ?_ | refine CallK_plain ?_ | refine CallQ_plain ?_ | refine CallR_plain ?_ | refine wCond ?_); simp [g0, g1, g5, g7, b0]) | (refine wIn ?_; refine And.intro (by kernel_rfl) ?_; try simp only [thenA_n]) | (first | refine wBlock ?_ | refine wScope ?_) | ((first | refine wRet ?_ | refine wExit ?_ | refine wSkip ?_); try simp) | ((first | refine wLabel ?_ | refine wOn ?_ | refine wQn ?_); try simp only [thenA_n])
    all_goals apply hr
    all_goals refine ⟨[], by simp, by simp, ?_⟩
    all_goals simp [Tryd.f43, outR, outB, renB, gaN, g0, g1, g5, g7, b0]

/-! ### Seal -/
def frm (l : List UInt8) : List UInt8 := enc (zz l.length) ++ l ++ le4 (crc (enc (zz l.length) ++ l))
def sealT (l : List UInt8) : V := if 65536 < l.length then .tup [.p (.sl 1 []), .p (I 5)] else .tup [.p (.sl 1 (by8 (frm l))), .p (I 0)]
theorem seal_con (l : List UInt8) (h : l.length ≤ 100000000) : ACon Tryd.prog 19 [.p (.sl 1 (by8 l))] (sealT l) := by
  unfold sealT
  by_cases h1 : 65536 < l.length
  · rw [if_pos h1]
    have h1' : (65536 : Int) < l.length := by omega
    refine wBody Tryd.tab Tryd.mixed Tryd.func19 rfl rfl Tryd.ntmps19 (by simp) (by simp) fun Q hr hn => ?_
    repeat' first | (refine hK _ ?_; clear hK) | (refine hK _ _ ?_; clear hK) | (clear hK; refine hK _ ?_; clear hK) | (clear hK; clear hK; refine hK _ ?_; clear hK) | (clear hK; clear hK; clear hK; refine hK _ ?_; clear hK) | (clear hK; clear hK; clear hK; clear hK; refine hK _ ?_; clear hK) | (refine wSeq fun K hK => ?_) | ((first | refine wReg ?_ | refine wDrwQ rfl (by kernel_rfl) ?_ | refine wDrwI ?_ | refine wDrw (by kernel_rfl) ?_); simp only [List.map_cons, List.map_nil, strip]) | ((first | refine wIs fun K hK => ?_ | refine wOs fun K hK => ?_ | refine wQs fun K hK => ?_ | refine CallK_plain ?_ | refine CallQ_plain ?_ | refine CallR_plain ?_ | refine wCond ?_); simp [h1, h1']) | (refine wIn ?_; refine And.intro (by kernel_rfl) ?_; try simp only [thenA_n]) | (first | refine wBlock ?_ | refine wScope ?_) | ((first | refine wRet ?_ | refine wExit ?_ | refine wSkip ?_); try simp) | ((first | refine wLabel ?_ | refine wOn ?_ | refine wQn ?_); try simp only [thenA_n])
    all_goals apply hr
    all_goals simp [Tryd.f19]
  rw [if_neg h1]
  have h1' : ¬ (65536 : Int) < l.length := by omega
  refine Con.toPureT (t := 5) ?_
  have hz := zz_len l.length (by omega)
  have hel := enc_len10 (zz_lt hz)
  have w1 : IntKind.i64.wrap (10 + (l.length : Int)) = 10 + (l.length : Int) := wrap_id (by omega) (by omega)
  have w2 : IntKind.i64.wrap (10 + (l.length : Int) + 4) = 10 + (l.length : Int) + 4 := wrap_id (by omega) (by omega)
  have c1 := roomy_con [] (10 + l.length + 4) (by simp; omega)
  have c2 := layInt_con [] l.length hz (by simp)
  rw [List.nil_append] at c2
  unfold frm
  have hx := by8_app (enc (zz l.length)) l
  have c3 := crc_con (enc (zz l.length) ++ l) (by rw [List.length_append]; omega)
  have c4 := laySum_con (enc (zz l.length) ++ l) (crc (enc (zz l.length) ++ l)) (by rw [List.length_append]; omega)
  generalize crc (enc (zz l.length) ++ l) = n at c3 c4 ⊢
  have hlen : (enc (zz l.length) ++ l).length ≤ 100000010 := by rw [List.length_append]; omega
  generalize enc (zz l.length) = x at c2 c3 c4 hx hel hlen ⊢
  simp at c1 hx
  unfold RCon at c1
  simp only [show by8 [] = [] from rfl] at c1 c2
  have hxl : ((x ++ l).length : Int) = x.length + l.length := by rw [List.length_append]; omega
  refine wBodyG Tryd.tab Tryd.mixed Tryd.func19 rfl rfl Tryd.ntmps19 (by simp) (by simp) fun Q hr hn hp => ?_
  repeat' first | (refine And.intro (by omega) ?_) | (refine CallK_gen [12] c2 (by decide) (by decide) (by simp [blksOf, inN, pos, renB, ren0]) (by simp [argsG, argG, ren0, inN, pos, renCs, renC]) ⟨[], by simp, by simp, ?_⟩; simp [lv, ouN, kpI, kpR, pos, ren, ren0, renB, renC, renCs]) | (refine CallK_gen [12] c4 (by decide) (by decide) (by simp [blksOf, inN, pos, renB, ren0]) (by simp [argsG, argG, ren0, inN, pos, renCs, renC]) ⟨[], by simp, by simp, ?_⟩; simp [lv, ouN, kpI, kpR, pos, ren, ren0, renB, renC, renCs]) | (refine hK _ ?_; clear hK) | (refine hK _ _ ?_; clear hK) | (clear hK; refine hK _ ?_; clear hK) | (clear hK; clear hK; refine hK _ ?_; clear hK) | (clear hK; clear hK; clear hK; refine hK _ ?_; clear hK) | (clear hK; clear hK; clear hK; clear hK; refine hK _ ?_; clear hK) | (refine wSeq fun K hK => ?_) | ((first | refine wReg ?_ | refine wDrwQ rfl (by kernel_rfl) ?_ | refine wDrwI ?_ | refine wDrw (by kernel_rfl) ?_); simp only [List.map_cons, List.map_nil, strip]) | ((first | refine wIs fun K hK => ?_ | refine wOs fun K hK => ?_ | refine wQs fun K hK => ?_ | refine CallK_plain ?_ | refine CallQ_plain ?_ | refine CallR_plain ?_ | refine wCond ?_); simp [h1, h1', w1, w2, hx]) | (refine wIn ?_; refine And.intro (by kernel_rfl) ?_; try simp only [thenA_n]) | (first | refine wBlock ?_ | refine wScope ?_) | ((first | refine wRet ?_ | refine wExit ?_ | refine wSkip ?_); try simp) | ((first | refine wLabel ?_ | refine wOn ?_ | refine wQn ?_); try simp only [thenA_n]) | (refine CallE.pure (c1) rfl ?_) | (refine CallE.lent (c1) rfl ?_) | (refine CallF.pure (c1) rfl ?_) | (refine CallF.lent (c1) rfl ?_) | (refine CallE.own (c1) ?_) | (refine CallH.pure (c1) rfl ?_) | (refine CallH.lent (c1) rfl ?_) | (refine CallH.own (c1) ?_) | (refine CallE.pure (c3) rfl ?_) | (refine CallE.lent (c3) rfl ?_) | (refine CallF.pure (c3) rfl ?_) | (refine CallF.lent (c3) rfl ?_) | (refine CallE.own (c3) ?_) | (refine CallH.pure (c3) rfl ?_) | (refine CallH.lent (c3) rfl ?_) | (refine CallH.own (c3) ?_)
  all_goals apply hr
  all_goals refine ⟨[12], by simp, by simp, ?_⟩
  all_goals simp [Tryd.f19, outR, outB, renB, gaN, hx]
theorem shrD (n : Nat) (d : Nat) (p : Int) (hp : p = (d : Int)) : (n : Int).fdiv p = ((n / d : Nat) : Int) := by
  subst hp; rw [Int.fdiv_eq_ediv_of_nonneg _ (by omega)]; omega
theorem seal01_con (l : List UInt8) (h : l.length ≤ 100000000) : ACon Tryd.prog 20 [.p (.sl 1 (by8 l))] (sealT l) := by
  unfold sealT
  by_cases h1 : 65536 < l.length
  · rw [if_pos h1]
    have h1' : (65536 : Int) < l.length := by omega
    refine wBody Tryd.tab Tryd.mixed Tryd.func20 rfl rfl Tryd.ntmps20 (by simp) (by simp) fun Q hr hn => ?_
    repeat' first | (refine hK _ ?_; clear hK) | (refine hK _ _ ?_; clear hK) | (clear hK; refine hK _ ?_; clear hK) | (clear hK; clear hK; refine hK _ ?_; clear hK) | (clear hK; clear hK; clear hK; refine hK _ ?_; clear hK) | (clear hK; clear hK; clear hK; clear hK; refine hK _ ?_; clear hK) | (refine wSeq fun K hK => ?_) | ((first | refine wReg ?_ | refine wDrwQ rfl (by kernel_rfl) ?_ | refine wDrwI ?_ | refine wDrw (by kernel_rfl) ?_); simp only [List.map_cons, List.map_nil, strip]) | ((first | refine wIs fun K hK => ?_ | refine wOs fun K hK => ?_ | refine wQs fun K hK => ?_ | refine CallK_plain ?_ | refine CallQ_plain ?_ | refine CallR_plain ?_ | refine wCond ?_); simp [h1, h1']) | (refine wIn ?_; refine And.intro (by kernel_rfl) ?_; try simp only [thenA_n]) | (first | refine wBlock ?_ | refine wScope ?_) | ((first | refine wRet ?_ | refine wExit ?_ | refine wSkip ?_); try simp) | ((first | refine wLabel ?_ | refine wOn ?_ | refine wQn ?_); try simp only [thenA_n])
    all_goals apply hr
    all_goals simp [Tryd.f20]
  rw [if_neg h1]
  have h1' : ¬ (65536 : Int) < l.length := by omega
  refine Con.toPureT (t := 5) ?_
  have hz := zz_len l.length (by omega)
  have hel := enc_len10 (zz_lt hz)
  have c1 := putInt01_con [] l.length hz (by simp)
  rw [List.nil_append] at c1
  unfold frm
  have hx := by8_app (enc (zz l.length)) l
  have c3 := crc01_con (enc (zz l.length) ++ l) (by rw [List.length_append]; omega)
  generalize crc (enc (zz l.length) ++ l) = n at c3 ⊢
  have hlen : (enc (zz l.length) ++ l).length ≤ 100000010 := by rw [List.length_append]; omega
  generalize enc (zz l.length) = x at c1 c3 hx hel hlen ⊢
  unfold RCon at c1
  simp only [show by8 [] = [] from rfl] at c1
  have hxl : ((x ++ l).length : Int) = x.length + l.length := by rw [List.length_append]; omega
  have f1 := shr8k n 1 (by omega)
  have f2 := shr8k n 2 (by omega)
  have f3 := shr8k n 3 (by omega)
  have k0 := u8_wrapN n
  have k1 := u8_wrapN (n / 256)
  have k2 := u8_wrapN (n / 65536)
  have k3 := u8_wrapN (n / 16777216)
  have hle : le4 n = [UInt8.ofNat n, UInt8.ofNat (n / 256), UInt8.ofNat (n / 65536), UInt8.ofNat (n / 16777216)] := rfl
  change _ = ((n / 256 : Nat) : Int) at f1
  change _ = ((n / 65536 : Nat) : Int) at f2
  change _ = ((n / 16777216 : Nat) : Int) at f3
  generalize UInt8.ofNat n = d0 at k0 hle
  generalize UInt8.ofNat (n / 256) = d1 at k1 hle
  generalize UInt8.ofNat (n / 65536) = d2 at k2 hle
  generalize UInt8.ofNat (n / 16777216) = d3 at k3 hle
  generalize n / 256 = m1 at f1 k1
  generalize n / 65536 = m2 at f2 k2
  generalize n / 16777216 = m3 at f3 k3
  try simp at f1 f2 f3
  have hy := by8_app (x ++ l) [d0, d1, d2, d3]
  simp [by8, dcell] at hy
  refine wBodyG Tryd.tab Tryd.mixed Tryd.func20 rfl rfl Tryd.ntmps20 (by simp) (by simp) fun Q hr hn hp => ?_
  repeat' first | (refine And.intro (by omega) ?_) | (refine hK _ ?_; clear hK) | (refine hK _ _ ?_; clear hK) | (clear hK; refine hK _ ?_; clear hK) | (clear hK; clear hK; refine hK _ ?_; clear hK) | (clear hK; clear hK; clear hK; refine hK _ ?_; clear hK) | (clear hK; clear hK; clear hK; clear hK; refine hK _ ?_; clear hK) | (refine wSeq fun K hK => ?_) | ((first | refine wReg ?_ | refine wDrwQ rfl (by kernel_rfl) ?_ | refine wDrwI ?_ | refine wDrw (by kernel_rfl) ?_); simp only [List.map_cons, List.map_nil, strip]) | ((first | refine wIs fun K hK => ?_ | refine wOs fun K hK => ?_ | refine wQs fun K hK => ?_ | refine CallK_plain ?_ | refine CallQ_plain ?_ | refine CallR_plain ?_ | refine wCond ?_); simp [h1, h1', hx, f1, f2, f3, k0, k1, k2, k3]) | (refine wIn ?_; refine And.intro (by kernel_rfl) ?_; try simp only [thenA_n]) | (first | refine wBlock ?_ | refine wScope ?_) | ((first | refine wRet ?_ | refine wExit ?_ | refine wSkip ?_); try simp) | ((first | refine wLabel ?_ | refine wOn ?_ | refine wQn ?_); try simp only [thenA_n]) | (refine CallE.pure (c1) rfl ?_) | (refine CallE.lent (c1) rfl ?_) | (refine CallF.pure (c1) rfl ?_) | (refine CallF.lent (c1) rfl ?_) | (refine CallE.own (c1) ?_) | (refine CallH.pure (c1) rfl ?_) | (refine CallH.lent (c1) rfl ?_) | (refine CallH.own (c1) ?_) | (refine CallE.pure (c3) rfl ?_) | (refine CallE.lent (c3) rfl ?_) | (refine CallF.pure (c3) rfl ?_) | (refine CallF.lent (c3) rfl ?_) | (refine CallE.own (c3) ?_) | (refine CallH.pure (c3) rfl ?_) | (refine CallH.lent (c3) rfl ?_) | (refine CallH.own (c3) ?_)
  all_goals apply hr
  all_goals refine ⟨[11], by simp, by simp, ?_⟩
  all_goals simp [Tryd.f20, outR, outB, renB, gaN, hx, hle, by8, dcell]
end Go.Proofs.YtfilinonmngefaaDoor
