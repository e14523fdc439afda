/- Numbers read from bytes: the program's, the document's. -/
import Derived.Test.YtfilinonmngefaaDoorCB
import Derived.Test.YtfilinonmngefaaDoorTry
namespace Go.Proofs.YtfilinonmngefaaDoor
set_option linter.unusedSimpArgs false
set_option linter.unusedVariables false
open Go Go.Av
attribute [local simp] Tryd.T1 Tryd.T2 Tryd.T3 Tryd.T4 Tryd.T5 Tryd.T9 Tryd.T12 Tryd.T15 Tryd.T16 Tryd.T17 Tryd.T21 Tryd.T22 Tryd.T23 Tryd.T24 Tryd.T25 Tryd.T27 Tryd.T28 Tryd.T29 Tryd.T31 Tryd.T32 Tryd.T34 Tryd.T35 Tryd.T36 Tryd.T38 Tryd.T39 Tryd.T41 Tryd.T42 Tryd.T43 Tryd.T44 Tryd.T45 Tryd.T46 Tryd.T47 Tryd.T48 Tryd.T49 Tryd.T50 Tryd.T51 Tryd.T52 Tryd.T53 Tryd.T54 Tryd.T55 Tryd.T56 Tryd.T57 Tryd.T58 Tryd.T59 Tryd.T60 Tryd.T61 Tryd.T62 Tryd.T63 Tryd.T65 Tryd.T66 Tryd.T67 Tryd.T68 Tryd.T69 Tryd.T70 Tryd.T73 Tryd.T78 Tryd.T79
attribute [local irreducible] Go.Av.CallK Go.Av.CallE Go.Av.CallQ Go.Av.CallF Go.Av.CallR Go.Av.CallH Go.Av.Con

/-- What the bytes from here on say: an error, or a number, and how many bytes were read. -/
def rdU : Nat → Nat → List UInt8 → Int × Nat × Nat
  | i, _, [] => (2, 0, i)
  | i, u, c :: r =>
    if i = 9 ∧ 1 < c.toNat then (5, 0, i + 1)
    else if 128 ≤ c.toNat then rdU (i + 1) (u + c.toNat % 128 * 128 ^ i) r
    else if c.toNat = 0 ∧ 0 < i then (3, 0, i + 1)
    else (0, u + c.toNat % 128 * 128 ^ i, i + 1)

theorem and8_fact (c : UInt8) : IntKind.u8.wrap ((BitVec.ofInt IntKind.u8.bits (c.toNat : Int) &&& BitVec.ofInt IntKind.u8.bits 127).toNat : Int) = ((c.toNat % 128 : Nat) : Int) := by
  have hc := c.toNat_lt
  show IntKind.u8.wrap ((BitVec.ofInt 8 (c.toNat : Int) &&& BitVec.ofNat 8 127).toNat : Int) = _
  rw [ofInt_nat, and127 _ (by omega), u8_wrap]; omega
theorem pow7 (i : Nat) : 2 ^ (7 * i) = 128 ^ i := by rw [Nat.pow_mul]
theorem pow_le9 {i : Nat} (h : i ≤ 9) : 128 ^ i ≤ 9223372036854775808 := Nat.le_trans (Nat.pow_le_pow_right (by omega) h) (by decide)
theorem step_lt {u x i : Nat} (hu : u < 128 ^ i) (hx : x < 128) : u + x * 128 ^ i < 128 ^ (i + 1) := by
  rw [Nat.pow_succ]
  have : x * 128 ^ i ≤ 127 * 128 ^ i := Nat.mul_le_mul_right _ (by omega)
  omega
theorem step_lt64 {u x i : Nat} (hu : u < 128 ^ i) (hx : x < 128) (hi : i ≤ 9) (h9 : i = 9 → x ≤ 1) : x * 128 ^ i < 18446744073709551616 ∧ u + x * 128 ^ i < 18446744073709551616 := by
  by_cases h : i = 9
  · subst h
    have := h9 rfl
    have : x * 128 ^ 9 ≤ 1 * 128 ^ 9 := Nat.mul_le_mul_right _ this
    omega
  · have h8 : 128 ^ (i + 1) ≤ 128 ^ 9 := Nat.pow_le_pow_right (by omega) (by omega)
    have := step_lt hu hx
    omega
theorem or64_fact {u x i : Nat} (hu : u < 128 ^ i) (hx : x < 128) (hi : i ≤ 9) (h9 : i = 9 → x ≤ 1) :
    IntKind.u64.wrap ((BitVec.ofInt IntKind.u64.bits (u : Int) ||| BitVec.ofInt IntKind.u64.bits (IntKind.u64.wrap ((x : Int) * 2 ^ min (7 * i) IntKind.u64.bits))).toNat : Int) = ((u + x * 128 ^ i : Nat) : Int) := by
  obtain ⟨h1, h2⟩ := step_lt64 hu hx hi h9
  have e1 : min (7 * i) IntKind.u64.bits = 7 * i := by show min (7 * i) 64 = _; omega
  have e2 : (x : Int) * 2 ^ (7 * i) = ((x * 128 ^ i : Nat) : Int) := by rw [← pow7]; simp
  have e3 : IntKind.u64.wrap ((x * 128 ^ i : Nat) : Int) = ((x * 128 ^ i : Nat) : Int) := by rw [u64_wrap]; omega
  rw [e1, e2, e3]
  show IntKind.u64.wrap ((BitVec.ofInt 64 (u : Int) ||| BitVec.ofInt 64 ((x * 128 ^ i : Nat) : Int)).toNat : Int) = _
  rw [ofInt_nat, ofInt_nat, BitVec.toNat_or, BitVec.toNat_ofNat, BitVec.toNat_ofNat, Nat.mod_eq_of_lt (by omega), Nat.mod_eq_of_lt (by omega)]
  have e4 : u ||| x * 128 ^ i = u + x * 128 ^ i := by
    rw [← pow7, ← Nat.shiftLeft_eq, Nat.or_comm, ← Nat.shiftLeft_add_eq_or_of_lt (by rw [pow7]; exact hu), Nat.add_comm]
  rw [e4, u64_wrap]; omega
theorem and1 (u : Nat) (h : u < 18446744073709551616) : IntKind.u64.wrap ((BitVec.ofInt IntKind.u64.bits (u : Int) &&& BitVec.ofInt IntKind.u64.bits 1).toNat : Int) = ((u % 2 : Nat) : Int) := by
  show IntKind.u64.wrap ((BitVec.ofInt 64 (u : Int) &&& BitVec.ofNat 64 1).toNat : Int) = _
  rw [ofInt_nat, BitVec.toNat_and, BitVec.toNat_ofNat, BitVec.toNat_ofNat, show 1 % 2 ^ 64 = 2 ^ 1 - 1 from rfl, Nat.and_two_pow_sub_one_eq_mod, u64_wrap]
  omega
theorem shr1 (u : Nat) : (u : Int).fdiv (2 ^ min 1 IntKind.u64.bits) = ((u / 2 : Nat) : Int) := by
  show (u : Int).fdiv 2 = _
  rw [Int.fdiv_eq_ediv_of_nonneg _ (by omega)]; omega
theorem unz_fact (u : Nat) (h : u < 18446744073709551616) : IntKind.i64.wrap ((BitVec.ofInt IntKind.i64.bits (IntKind.i64.wrap ((u / 2 : Nat) : Int)) ^^^ BitVec.ofInt IntKind.i64.bits (IntKind.i64.wrap (0 - IntKind.i64.wrap ((u % 2 : Nat) : Int)))).toNat : Int) = unzz u := by
  have e1 : IntKind.i64.wrap ((u / 2 : Nat) : Int) = ((u / 2 : Nat) : Int) := wrap_id (by omega) (by omega)
  have e2 : IntKind.i64.wrap ((u % 2 : Nat) : Int) = ((u % 2 : Nat) : Int) := wrap_id (by omega) (by omega)
  have e3 : IntKind.i64.wrap (0 - ((u % 2 : Nat) : Int)) = -((u % 2 : Nat) : Int) := by rw [wrap_id (by omega) (by omega)]; omega
  rw [e1, e2, e3]
  show IntKind.i64.wrap ((BitVec.ofInt 64 ((u / 2 : Nat) : Int) ^^^ BitVec.ofInt 64 (-((u % 2 : Nat) : Int))).toNat : Int) = _
  unfold unzz
  by_cases o : u % 2 = 1
  · rw [if_pos o, o, show BitVec.ofInt 64 (-((1 : Nat) : Int)) = BitVec.ofNat 64 18446744073709551615 by decide, ofInt_nat, xor_ones _ (by omega), IntKind.wrap_i64]
    omega
  · rw [if_neg o, show u % 2 = 0 by omega, show BitVec.ofInt 64 (-((0 : Nat) : Int)) = BitVec.ofNat 64 0 by decide, ofInt_nat]
    simp only [BitVec.ofNat_eq_ofNat, BitVec.xor_zero, BitVec.toNat_ofNat]
    rw [IntKind.wrap_i64]
    omega
theorem give_con (n : Int) (h : ¬ n = 0) : Con Tryd.prog 39 [.p (I n)] [] (.pan (.iface 70 (.int .i64 n)) []) := by
  refine wBodyG Tryd.tab Tryd.mixed Tryd.func39 rfl rfl Tryd.ntmps39 (by simp) (by simp) fun Q hr hn hp => ?_
  repeat' first | (refine hK _ ?_; clear hK) | (refine hK _ _ ?_; clear hK) | (clear hK; refine hK _ ?_; clear hK) | (clear hK; clear hK; refine hK _ ?_; clear hK) | (clear hK; clear hK; clear hK; refine hK _ ?_; clear hK) | (clear hK; clear hK; clear hK; clear hK; refine hK _ ?_; clear hK) | (refine wSeq fun K hK => ?_) | ((first | refine wReg ?_ | refine wDrwQ rfl (by kernel_rfl) ?_ | refine wDrwI ?_ | refine wDrw (by kernel_rfl) ?_); simp only [List.map_cons, List.map_nil, strip]) | ((first | refine wIs fun K hK => ?_ | refine wOs fun K hK => ?_ | refine wQs fun K hK => ?_ | refine CallK_plain ?_ | refine CallQ_plain ?_ | refine CallR_plain ?_ | refine wCond ?_); simp [h]) | (refine wIn ?_; refine And.intro (by kernel_rfl) ?_; try simp only [thenA_n]) | (first | refine wBlock ?_ | refine wScope ?_) | ((first | refine wRet ?_ | refine wExit ?_ | refine wSkip ?_); try simp) | ((first | refine wLabel ?_ | refine wOn ?_ | refine wQn ?_); try simp only [thenA_n])
  all_goals apply hp
  all_goals simp [AResP, outB]

def rdO (b : List UInt8) (at' : Nat) (r : Int × Nat × Nat) : Out :=
  if r.1 = 0 then .ret (.p (I (unzz r.2.1))) [] [.box 65 [.p (.sl 1 (by8 b)), .p (I ((at' + r.2.2 : Nat) : Int))]]
  else .pan (.iface 70 (.int .i64 r.1)) [.box 65 [.p (.sl 1 (by8 b)), .p (I ((at' + r.2.2 : Nat) : Int))]]
theorem rdO_ok {b : List UInt8} {a u k : Nat} : rdO b a (0, u, k) = .ret (.p (I (unzz u))) [] [.box 65 [.p (.sl 1 (by8 b)), .p (I ((a + k : Nat) : Int))]] := rfl
theorem rdO_err {b : List UInt8} {a u k : Nat} {e : Int} (h : ¬ e = 0) : rdO b a (e, u, k) = .pan (.iface 70 (.int .i64 e)) [.box 65 [.p (.sl 1 (by8 b)), .p (I ((a + k : Nat) : Int))]] := by unfold rdO; rw [if_neg h]

set_option maxHeartbeats 2000000 in
theorem number_con (b : List UInt8) (a : Nat) (ha : a ≤ b.length) (hb : b.length ≤ 1000000000) : Con Tryd.prog 31 [.ptr 1024 0] [.box 65 [.p (.sl 1 (by8 b)), .p (I a)]] (rdO b a (rdU 0 0 (b.drop a))) := by
  have e2 := give_con 2 (by decide)
  have e3 := give_con 3 (by decide)
  have e5 := give_con 5 (by decide)
  refine wBodyG Tryd.tab Tryd.mixed Tryd.func31 rfl rfl Tryd.ntmps31 (by simp) (by simp) fun Q hr hn hp => ?_
  repeat' first | (refine hK _ ?_; clear hK) | (refine hK _ _ ?_; clear hK) | (clear hK; refine hK _ ?_; clear hK) | (clear hK; clear hK; refine hK _ ?_; clear hK) | (clear hK; clear hK; clear hK; refine hK _ ?_; clear hK) | (clear hK; clear hK; clear hK; clear hK; refine hK _ ?_; clear hK) | (refine wSeq fun K hK => ?_) | ((first | refine wReg ?_ | refine wDrwQ rfl (by kernel_rfl) ?_ | refine wDrwI ?_ | refine wDrw (by kernel_rfl) ?_); simp only [List.map_cons, List.map_nil, strip]) | ((first | refine wIs fun K hK => ?_ | refine wOs fun K hK => ?_ | refine wQs fun K hK => ?_ | refine CallK_plain ?_ | refine CallQ_plain ?_ | refine CallR_plain ?_ | refine wCond ?_); simp) | (refine wIn ?_; refine And.intro (by kernel_rfl) ?_; try simp only [thenA_n]) | (first | refine wBlock ?_ | refine wScope ?_) | ((first | refine wRet ?_ | refine wExit ?_ | refine wSkip ?_); try simp) | ((first | refine wLabel ?_ | refine wOn ?_ | refine wQn ?_); try simp only [thenA_n])
  refine wLoop (fun N st => ∃ i q u, i + N = 10 ∧ i ≤ 9 ∧ q = a + i ∧ st.s 0 = .ptr 1024 0 ∧ st.s 3 = .p (.v (.int .u64 (u : Nat))) ∧ st.s 6 = .p (I i) ∧ st.b 1024 = some (.box 65 [.p (.sl 1 (by8 b)), .p (I q)]) ∧ u < 128 ^ i ∧ q ≤ b.length ∧ rdU i u (b.drop q) = rdU 0 0 (b.drop a)) 10 ⟨0, a, 0, by simp; exact ha⟩ fun K N st hL ⟨i, q, u, hk, hi9, hq, g0, g3, g6, b0, hu, hqb, hrd⟩ => ?_
  have hi10 : (i : Int) < 10 := by omega
  by_cases hlt : q < b.length
  rotate_left
  · have hae : q = b.length := by omega
    rw [List.drop_of_length_le (by omega), rdU] at hrd
    rw [← hrd, rdO_err (by decide), ← hq] at hp
    have hae' : (q : Int) = (b.length : Int) := by omega
    repeat' first | (refine CallE.pan e2 ?_) | (refine hK _ ?_; clear hK) | (refine hK _ _ ?_; clear hK) | (clear hK; refine hK _ ?_; clear hK) | (clear hK; clear hK; refine hK _ ?_; clear hK) | (clear hK; clear hK; clear hK; refine hK _ ?_; clear hK) | (clear hK; clear hK; clear hK; clear hK; refine hK _ ?_; clear hK) | (refine wSeq fun K hK => ?_) | ((first | refine wReg ?_ | refine wDrwQ rfl (by kernel_rfl) ?_ | refine wDrwI ?_ | refine wDrw (by kernel_rfl) ?_); simp only [List.map_cons, List.map_nil, strip]) | ((first | refine wIs fun K hK => ?_ | refine wOs fun K hK => ?_ | refine wQs fun K hK => ?_ | refine CallK_plain ?_ | refine CallQ_plain ?_ | refine CallR_plain ?_ | refine wCond ?_); simp [g0, g3, g6, b0, hi10, hae, hae']) | (refine wIn ?_; refine And.intro (by kernel_rfl) ?_; try simp only [thenA_n]) | (first | refine wBlock ?_ | refine wScope ?_) | ((first | refine wRet ?_ | refine wExit ?_ | refine wSkip ?_); try simp) | ((first | refine wLabel ?_ | refine wOn ?_ | refine wQn ?_); try simp only [thenA_n])
    simp only [thenA_p, blockA_p]
    apply hp
    simp [AResP, outB, renB, gaN, b0, hae]
  have hlt' : ¬ (q : Int) = (b.length : Int) := by omega
  have hne : ¬ q = b.length := by omega
  have hw : IntKind.i64.wrap ((q : Int) + 1) = ((q + 1 : Nat) : Int) := by rw [wrap_id (by omega) (by omega)]; omega
  have hwi := wrapS i 10 (by omega) (by omega)
  have he := by8_get hlt
  rw [List.drop_eq_getElem_cons hlt, rdU] at hrd
  have hc256 := b[q].toNat_lt
  generalize hcq : b[q] = c at he hrd hc256
  obtain ⟨x, hx⟩ : ∃ x : Nat, x = c.toNat := ⟨_, rfl⟩
  rw [← hx] at he hrd hc256
  have h8 := and8_fact c
  rw [← hx] at h8
  have hcx : c.toNat = x := hx.symm
  simp at h8
  by_cases o1 : i = 9 ∧ 1 < x
  · rw [if_pos o1] at hrd
    rw [← hrd, rdO_err (by decide), show a + (i + 1) = q + 1 by omega] at hp
    have o1' : (1 : Int) < (x : Int) := by omega
    have o2' : (i : Int) = 9 := by omega
    repeat' first | (refine CallE.pan e5 ?_) | (refine hK _ ?_; clear hK) | (refine hK _ _ ?_; clear hK) | (clear hK; refine hK _ ?_; clear hK) | (clear hK; clear hK; refine hK _ ?_; clear hK) | (clear hK; clear hK; clear hK; refine hK _ ?_; clear hK) | (clear hK; clear hK; clear hK; clear hK; refine hK _ ?_; clear hK) | (refine wSeq fun K hK => ?_) | ((first | refine wReg ?_ | refine wDrwQ rfl (by kernel_rfl) ?_ | refine wDrwI ?_ | refine wDrw (by kernel_rfl) ?_); simp only [List.map_cons, List.map_nil, strip]) | ((first | refine wIs fun K hK => ?_ | refine wOs fun K hK => ?_ | refine wQs fun K hK => ?_ | refine CallK_plain ?_ | refine CallQ_plain ?_ | refine CallR_plain ?_ | refine wCond ?_); simp [g0, g3, g6, b0, hi10, hlt, hlt', hne, hw, he, hcq, hcx, o1', o2', o1]) | (refine wIn ?_; refine And.intro (by kernel_rfl) ?_; try simp only [thenA_n]) | (first | refine wBlock ?_ | refine wScope ?_) | ((first | refine wRet ?_ | refine wExit ?_ | refine wSkip ?_); try simp) | ((first | refine wLabel ?_ | refine wOn ?_ | refine wQn ?_); try simp only [thenA_n])
    simp only [thenA_p, blockA_p]
    apply hp
    simp [AResP, outB, renB, gaN, b0, hw]
  rw [if_neg o1] at hrd
  have o1' : (i : Int) = 9 → ¬ (1 : Int) < (x : Int) := by omega
  have hx9 : i = 9 → x ≤ 1 := by omega
  have hxm : x % 128 < 128 := by omega
  have hor := or64_fact (x := x % 128) hu hxm hi9 (by omega)
  have hst := step_lt64 (x := x % 128) hu hxm hi9 (by omega)
  have hsl := step_lt (x := x % 128) hu hxm
  generalize u + x % 128 * 128 ^ i = u' at hor hst hsl hrd
  have hw7 : IntKind.i64.wrap (7 * (i : Int)) = 7 * (i : Int) := wrap_id (by omega) (by omega)
  have hn7 : ¬ 7 * (i : Int) < 0 := by omega
  have ht7 : (7 * (i : Int)).toNat = 7 * i := by omega
  have hcv : IntKind.u64.wrap ((x % 128 : Nat) : Int) = ((x % 128 : Nat) : Int) := by rw [u64_wrap]; omega
  simp at hor hcv
  by_cases o2 : 128 ≤ x
  · rw [if_pos o2] at hrd
    have o2' : (128 : Int) ≤ (x : Int) := by omega
    have o3' : ¬ (i : Int) = 9 := by omega
    have o3 : ¬ i = 9 := by omega
    repeat' first | (refine hK _ ?_; clear hK) | (refine hK _ _ ?_; clear hK) | (clear hK; refine hK _ ?_; clear hK) | (clear hK; clear hK; refine hK _ ?_; clear hK) | (clear hK; clear hK; clear hK; refine hK _ ?_; clear hK) | (clear hK; clear hK; clear hK; clear hK; refine hK _ ?_; clear hK) | (refine wSeq fun K hK => ?_) | ((first | refine wReg ?_ | refine wDrwQ rfl (by kernel_rfl) ?_ | refine wDrwI ?_ | refine wDrw (by kernel_rfl) ?_); simp only [List.map_cons, List.map_nil, strip]) | ((first | refine wIs fun K hK => ?_ | refine wOs fun K hK => ?_ | refine wQs fun K hK => ?_ | refine CallK_plain ?_ | refine CallQ_plain ?_ | refine CallR_plain ?_ | refine wCond ?_); simp [g0, g3, g6, b0, hi10, hlt, hlt', hne, hw, he, hcq, hcx, o2', o2, o3, o3', h8, hor, hw7, hn7, ht7, hcv, hwi]) | (refine wIn ?_; refine And.intro (by kernel_rfl) ?_; try simp only [thenA_n]) | (first | refine wBlock ?_ | refine wScope ?_) | ((first | refine wRet ?_ | refine wExit ?_ | refine wSkip ?_); try simp) | ((first | refine wLabel ?_ | refine wOn ?_ | refine wQn ?_); try simp only [thenA_n])
    refine hL _ (N - 1) (by omega) ⟨i + 1, q + 1, u', by omega, by omega, by omega, ?_⟩
    simp [g0, g3, g6, b0, hw, hwi, h8, hor, hw7, hn7, ht7, hcv, hsl, hrd]
    omega
  rw [if_neg o2] at hrd
  have o2' : ¬ (128 : Int) ≤ (x : Int) := by omega
  by_cases o4 : x = 0 ∧ 0 < i
  · rw [if_pos o4] at hrd
    rw [← hrd, rdO_err (by decide), show a + (i + 1) = q + 1 by omega] at hp
    obtain ⟨o4, o5⟩ := o4
    have o4' : (x : Int) = 0 := by omega
    have o5' : (0 : Int) < (i : Int) := by omega
    have o1x : ¬ (1 : Int) < (x : Int) := by omega
    by_cases o3 : i = 9
    · have o3' : (i : Int) = 9 := by omega
      repeat' first | (refine CallE.pan e3 ?_) | (refine hK _ ?_; clear hK) | (refine hK _ _ ?_; clear hK) | (clear hK; refine hK _ ?_; clear hK) | (clear hK; clear hK; refine hK _ ?_; clear hK) | (clear hK; clear hK; clear hK; refine hK _ ?_; clear hK) | (clear hK; clear hK; clear hK; clear hK; refine hK _ ?_; clear hK) | (refine wSeq fun K hK => ?_) | ((first | refine wReg ?_ | refine wDrwQ rfl (by kernel_rfl) ?_ | refine wDrwI ?_ | refine wDrw (by kernel_rfl) ?_); simp only [List.map_cons, List.map_nil, strip]) | ((first | refine wIs fun K hK => ?_ | refine wOs fun K hK => ?_ | refine wQs fun K hK => ?_ | refine CallK_plain ?_ | refine CallQ_plain ?_ | refine CallR_plain ?_ | refine wCond ?_); simp [g0, g3, g6, b0, hi10, hlt, hlt', hne, hw, he, hcq, hcx, o2', o2, o3', o3, o1x, o4', o5', o4, o5, h8, hor, hw7, hn7, ht7, hcv]) | (refine wIn ?_; refine And.intro (by kernel_rfl) ?_; try simp only [thenA_n]) | (first | refine wBlock ?_ | refine wScope ?_) | ((first | refine wRet ?_ | refine wExit ?_ | refine wSkip ?_); try simp) | ((first | refine wLabel ?_ | refine wOn ?_ | refine wQn ?_); try simp only [thenA_n])
      simp only [thenA_p, blockA_p]
      apply hp
      simp [AResP, outB, renB, gaN, b0, hw]
    · have o3' : ¬ (i : Int) = 9 := by omega
      repeat' first | (refine CallE.pan e3 ?_) | (refine hK _ ?_; clear hK) | (refine hK _ _ ?_; clear hK) | (clear hK; refine hK _ ?_; clear hK) | (clear hK; clear hK; refine hK _ ?_; clear hK) | (clear hK; clear hK; clear hK; refine hK _ ?_; clear hK) | (clear hK; clear hK; clear hK; clear hK; refine hK _ ?_; clear hK) | (refine wSeq fun K hK => ?_) | ((first | refine wReg ?_ | refine wDrwQ rfl (by kernel_rfl) ?_ | refine wDrwI ?_ | refine wDrw (by kernel_rfl) ?_); simp only [List.map_cons, List.map_nil, strip]) | ((first | refine wIs fun K hK => ?_ | refine wOs fun K hK => ?_ | refine wQs fun K hK => ?_ | refine CallK_plain ?_ | refine CallQ_plain ?_ | refine CallR_plain ?_ | refine wCond ?_); simp [g0, g3, g6, b0, hi10, hlt, hlt', hne, hw, he, hcq, hcx, o2', o2, o3', o3, o1x, o4', o5', o4, o5, h8, hor, hw7, hn7, ht7, hcv]) | (refine wIn ?_; refine And.intro (by kernel_rfl) ?_; try simp only [thenA_n]) | (first | refine wBlock ?_ | refine wScope ?_) | ((first | refine wRet ?_ | refine wExit ?_ | refine wSkip ?_); try simp) | ((first | refine wLabel ?_ | refine wOn ?_ | refine wQn ?_); try simp only [thenA_n])
      simp only [thenA_p, blockA_p]
      apply hp
      simp [AResP, outB, renB, gaN, b0, hw]
  rw [if_neg o4] at hrd
  rw [← hrd, rdO_ok, show a + (i + 1) = q + 1 by omega] at hr
  have f1 := and1 u' hst.2
  have f2 := shr1 u'
  have f3 := unz_fact u' hst.2
  simp at f1 f2 f3
  have hlast : ∀ st : St, st.s 2 = .p (I (unzz u')) → st.b 1024 = some (.box 65 [.p (.sl 1 (by8 b)), .p (I ((q + 1 : Nat) : Int))]) → Q .ret st := fun st h1 h2 => by
    apply hr
    refine ⟨[], by simp, by simp, ?_⟩
    simp [Tryd.f31, outR, outB, renB, gaN, h1, h2]
  have o1x : (i : Int) = 9 → ¬ (1 : Int) < (x : Int) := by omega
  by_cases o3 : i = 9
  · have o3' : ((i : Int) = 9) = True := by simp; omega
    have o3t : (i = 9) = True := by simp [o3]
    have o1y : ¬ (1 : Int) < (x : Int) := by omega
    have o5' : (0 : Int) < (i : Int) := by omega
    have o4' : ¬ (x : Int) = 0 := by omega
    have o4n : ¬ x = 0 := by omega
    have o5n : 0 < i := by omega
    repeat' first | (refine hK _ ?_; clear hK) | (refine hK _ _ ?_; clear hK) | (clear hK; refine hK _ ?_; clear hK) | (clear hK; clear hK; refine hK _ ?_; clear hK) | (clear hK; clear hK; clear hK; refine hK _ ?_; clear hK) | (clear hK; clear hK; clear hK; clear hK; refine hK _ ?_; clear hK) | (refine wSeq fun K hK => ?_) | ((first | refine wReg ?_ | refine wDrwQ rfl (by kernel_rfl) ?_ | refine wDrwI ?_ | refine wDrw (by kernel_rfl) ?_); simp only [List.map_cons, List.map_nil, strip]) | ((first | refine wIs fun K hK => ?_ | refine wOs fun K hK => ?_ | refine wQs fun K hK => ?_ | refine CallK_plain ?_ | refine CallQ_plain ?_ | refine CallR_plain ?_ | refine wCond ?_); simp [g0, g3, g6, b0, hi10, hlt, hlt', hne, hw, he, hcq, hcx, o2', o2, o3', o3t, o1y, o4', o4n, o5n, o5', h8, hor, hw7, hn7, ht7, hcv, f1, f2, f3]) | (refine wIn ?_; refine And.intro (by kernel_rfl) ?_; try simp only [thenA_n]) | (first | refine wBlock ?_ | refine wScope ?_) | ((first | refine wRet ?_ | refine wExit ?_ | refine wSkip ?_); try simp) | ((first | refine wLabel ?_ | refine wOn ?_ | refine wQn ?_); try simp only [thenA_n])
    apply hlast
    all_goals simp [g0, g3, g6, b0, hw, h8, hor, hw7, hn7, ht7, hcv, f1, f2, f3]
  · have o3' : ¬ (i : Int) = 9 := by omega
    by_cases o4x : x = 0
    · have o4' : ((x : Int) = 0) = True := by simp; omega
      have o4t : (x = 0) = True := by simp [o4x]
      have o5' : ¬ (0 : Int) < (i : Int) := by omega
      have o5n : ¬ 0 < i := by omega
      repeat' first | (refine hK _ ?_; clear hK) | (refine hK _ _ ?_; clear hK) | (clear hK; refine hK _ ?_; clear hK) | (clear hK; clear hK; refine hK _ ?_; clear hK) | (clear hK; clear hK; clear hK; refine hK _ ?_; clear hK) | (clear hK; clear hK; clear hK; clear hK; refine hK _ ?_; clear hK) | (refine wSeq fun K hK => ?_) | ((first | refine wReg ?_ | refine wDrwQ rfl (by kernel_rfl) ?_ | refine wDrwI ?_ | refine wDrw (by kernel_rfl) ?_); simp only [List.map_cons, List.map_nil, strip]) | ((first | refine wIs fun K hK => ?_ | refine wOs fun K hK => ?_ | refine wQs fun K hK => ?_ | refine CallK_plain ?_ | refine CallQ_plain ?_ | refine CallR_plain ?_ | refine wCond ?_); simp [g0, g3, g6, b0, hi10, hlt, hlt', hne, hw, he, hcq, hcx, o2', o2, o3', o3, o4', o5', o4t, o5n, h8, hor, hw7, hn7, ht7, hcv, f1, f2, f3]) | (refine wIn ?_; refine And.intro (by kernel_rfl) ?_; try simp only [thenA_n]) | (first | refine wBlock ?_ | refine wScope ?_) | ((first | refine wRet ?_ | refine wExit ?_ | refine wSkip ?_); try simp) | ((first | refine wLabel ?_ | refine wOn ?_ | refine wQn ?_); try simp only [thenA_n])
      apply hlast
      all_goals simp [g0, g3, g6, b0, hw, h8, hor, hw7, hn7, ht7, hcv, f1, f2, f3]
    · have o4' : ¬ (x : Int) = 0 := by omega
      repeat' first | (refine hK _ ?_; clear hK) | (refine hK _ _ ?_; clear hK) | (clear hK; refine hK _ ?_; clear hK) | (clear hK; clear hK; refine hK _ ?_; clear hK) | (clear hK; clear hK; clear hK; refine hK _ ?_; clear hK) | (clear hK; clear hK; clear hK; clear hK; refine hK _ ?_; clear hK) | (refine wSeq fun K hK => ?_) | ((first | refine wReg ?_ | refine wDrwQ rfl (by kernel_rfl) ?_ | refine wDrwI ?_ | refine wDrw (by kernel_rfl) ?_); simp only [List.map_cons, List.map_nil, strip]) | ((first | refine wIs fun K hK => ?_ | refine wOs fun K hK => ?_ | refine wQs fun K hK => ?_ | refine CallK_plain ?_ | refine CallQ_plain ?_ | refine CallR_plain ?_ | refine wCond ?_); simp [g0, g3, g6, b0, hi10, hlt, hlt', hne, hw, he, hcq, hcx, o2', o2, o3', o3, o4', o4x, h8, hor, hw7, hn7, ht7, hcv, f1, f2, f3]) | (refine wIn ?_; refine And.intro (by kernel_rfl) ?_; try simp only [thenA_n]) | (first | refine wBlock ?_ | refine wScope ?_) | ((first | refine wRet ?_ | refine wExit ?_ | refine wSkip ?_); try simp) | ((first | refine wLabel ?_ | refine wOn ?_ | refine wQn ?_); try simp only [thenA_n])
      apply hlast
      all_goals simp [g0, g3, g6, b0, hw, h8, hor, hw7, hn7, ht7, hcv, f1, f2, f3]

/-- What a reader tells: the number, the place behind it, the error. -/
def rdT (a : Nat) (r : Int × Nat × Nat) : V := if r.1 = 0 then .tup [.p (I (unzz r.2.1)), .p (I ((a + r.2.2 : Nat) : Int)), .p (I 0)] else .tup [.p (I 0), .p (I 0), .p (I r.1)]
def intT (b : List UInt8) (at' : Int) : V := if at' < 0 ∨ (b.length : Int) < at' then .tup [.p (I 0), .p (I 0), .p (I 1)] else rdT at'.toNat (rdU 0 0 (b.drop at'.toNat))
theorem rdT_ok {a u k : Nat} : rdT a (0, u, k) = .tup [.p (I (unzz u)), .p (I ((a + k : Nat) : Int)), .p (I 0)] := rfl
theorem rdT_err {a u k : Nat} {e : Int} (h : ¬ e = 0) : rdT a (e, u, k) = .tup [.p (I 0), .p (I 0), .p (I e)] := by unfold rdT; rw [if_neg h]
theorem unz_odd (u : Nat) (h : u < 18446744073709551616) (o : u % 2 = 1) : IntKind.i64.wrap ((18446744073709551615 - u / 2 : Nat) : Int) = unzz u := by
  unfold unzz; rw [if_pos o, IntKind.wrap_i64]; omega
theorem unz_even (u : Nat) (h : u < 18446744073709551616) (o : ¬ u % 2 = 1) : IntKind.i64.wrap ((u / 2 : Nat) : Int) = unzz u := by
  unfold unzz; rw [if_neg o, wrap_id (by omega) (by omega)]
end Go.Proofs.YtfilinonmngefaaDoor
