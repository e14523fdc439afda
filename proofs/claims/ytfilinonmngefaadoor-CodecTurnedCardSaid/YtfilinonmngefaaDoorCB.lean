/- Numbers laid as bytes: the program's, the document's. -/
import Derived.Test.YtfilinonmngefaaDoorCA
namespace Go.Proofs.YtfilinonmngefaaDoor
set_option linter.unusedSimpArgs false
set_option linter.unusedVariables false
open Go Go.Av
attribute [local simp] Tryd.T1 Tryd.T2 Tryd.T3 Tryd.T4 Tryd.T5 Tryd.T9 Tryd.T12 Tryd.T15 Tryd.T16 Tryd.T17 Tryd.T21 Tryd.T22 Tryd.T23 Tryd.T24 Tryd.T25 Tryd.T27 Tryd.T28 Tryd.T29 Tryd.T31 Tryd.T32 Tryd.T34 Tryd.T35 Tryd.T36 Tryd.T38 Tryd.T39 Tryd.T41 Tryd.T42 Tryd.T43 Tryd.T44 Tryd.T45 Tryd.T46 Tryd.T47 Tryd.T48 Tryd.T49 Tryd.T50 Tryd.T51 Tryd.T52 Tryd.T53 Tryd.T54 Tryd.T55 Tryd.T56 Tryd.T57 Tryd.T58 Tryd.T59 Tryd.T60 Tryd.T61 Tryd.T62 Tryd.T63 Tryd.T65 Tryd.T66 Tryd.T67 Tryd.T68 Tryd.T69 Tryd.T70 Tryd.T73 Tryd.T78 Tryd.T79
attribute [local irreducible] Go.Av.CallK Go.Av.CallE Go.Av.CallQ Go.Av.CallF Go.Av.CallR Go.Av.CallH Go.Av.Con
abbrev RCon (g : FuncId) (args : List V) (l : List UInt8) : Prop := Con Tryd.prog g args [] (.ret (.row 2048) [.row 5 1 (by8 l)] [])

theorem roomy_con (b : List UInt8) (n : Nat) (h : b.length + n ≤ 1000000000) : RCon 29 [.p (.sl 1 (by8 b)), .p (I n)] b := by
  have hw : IntKind.i64.wrap ((b.length : Int) + (n : Int)) = ((b.length + n : Nat) : Int) := by rw [wrap_id (by omega) (by omega)]; omega
  have h1 : (0 : Int) ≤ ((b.length + n : Nat) : Int) := by omega
  generalize hz : ((b.length + n : Nat) : Int) = z at hw h1
  have h2 : z ≤ 281474976710656 := by omega
  have h3 : z ≤ 9223372036854775807 := by omega
  refine wBodyR Tryd.tab Tryd.mixed Tryd.func29 rfl rfl Tryd.ntmps29 rfl (by simp) (by simp) fun Q hr hn => ?_
  repeat' first | (refine And.intro (by (try simp only [by8_len]); omega) ?_) | (rw [if_pos ⟨by omega, by omega⟩]) | (refine hK _ ?_; clear hK) | (refine hK _ _ ?_; clear hK) | (clear hK; refine hK _ ?_; clear hK) | (clear hK; clear hK; refine hK _ ?_; clear hK) | (clear hK; clear hK; clear hK; refine hK _ ?_; clear hK) | (clear hK; clear hK; clear hK; clear hK; refine hK _ ?_; clear hK) | (refine wSeq fun K hK => ?_) | ((first | refine wReg ?_ | refine wDrwQ rfl (by kernel_rfl) ?_ | refine wDrwI ?_ | refine wDrw (by kernel_rfl) ?_); simp only [List.map_cons, List.map_nil, strip]) | ((first | refine wIs fun K hK => ?_ | refine wOs fun K hK => ?_ | refine wQs fun K hK => ?_ | refine CallK_plain ?_ | refine CallQ_plain ?_ | refine CallR_plain ?_ | refine wCond ?_); simp [hw, h1, h2, h3]) | (refine wIn ?_; refine And.intro (by kernel_rfl) ?_; try simp only [thenA_n]) | (first | refine wBlock ?_ | refine wScope ?_) | ((first | refine wRet ?_ | refine wExit ?_ | refine wSkip ?_); try simp) | ((first | refine wLabel ?_ | refine wOn ?_ | refine wQn ?_); try simp only [thenA_n])
  all_goals refine hr _ 9 ?_ ?_ (by omega)
  all_goals simp [Tryd.f29]

theorem or_fact (u : Nat) (h : u < 18446744073709551616) : IntKind.u8.wrap ((BitVec.ofInt IntKind.u8.bits (IntKind.u8.wrap (u : Int)) ||| BitVec.ofInt IntKind.u8.bits 128).toNat : Int) = ((UInt8.ofNat (u % 128 + 128)).toNat : Int) := by
  have e1 : IntKind.u8.wrap (u : Int) = ((u % 256 : Nat) : Int) := by rw [u8_wrap]; omega
  rw [e1]
  show IntKind.u8.wrap ((BitVec.ofInt 8 ((u % 256 : Nat) : Int) ||| BitVec.ofNat 8 128).toNat : Int) = _
  rw [ofInt_nat]
  have := or128 (u % 256) (by omega)
  rw [this, u8_toNat _ (by omega), u8_wrap]
  omega
theorem shr7 (u : Nat) : (u : Int).fdiv (2 ^ min 7 IntKind.u64.bits) = ((u / 128 : Nat) : Int) := by
  show (u : Int).fdiv 128 = _
  rw [Int.fdiv_eq_ediv_of_nonneg _ (by omega)]; omega
theorem u8_small (u : Nat) (h : u < 128) : IntKind.u8.wrap (u : Int) = ((UInt8.ofNat u).toNat : Int) := by rw [u8_wrap, u8_toNat _ (by omega)]; omega

theorem layInt_con (b : List UInt8) (n : Int) (hn : okI n) (h : b.length ≤ 1000000000) : Con Tryd.prog 28 [.row 1024, .p (I n)] [.row 5 1 (by8 b)] (.ret (.row 1024) [] [.row 5 1 (by8 (b ++ enc (zz n)))]) := by
  have hz := zig hn
  simp at hz
  have hlt := zz_lt hn
  generalize zz n = z at hz hlt ⊢
  refine wBodyG Tryd.tab Tryd.mixed Tryd.func28 rfl rfl Tryd.ntmps28 (by simp) (by simp) fun Q hr hn hp => ?_
  repeat' first | (refine hK _ ?_; clear hK) | (refine hK _ _ ?_; clear hK) | (clear hK; refine hK _ ?_; clear hK) | (clear hK; clear hK; refine hK _ ?_; clear hK) | (clear hK; clear hK; clear hK; refine hK _ ?_; clear hK) | (clear hK; clear hK; clear hK; clear hK; refine hK _ ?_; clear hK) | (refine wSeq fun K hK => ?_) | ((first | refine wReg ?_ | refine wDrwQ rfl (by kernel_rfl) ?_ | refine wDrwI ?_ | refine wDrw (by kernel_rfl) ?_); simp only [List.map_cons, List.map_nil, strip]) | ((first | refine wIs fun K hK => ?_ | refine wOs fun K hK => ?_ | refine wQs fun K hK => ?_ | refine CallK_plain ?_ | refine CallQ_plain ?_ | refine CallR_plain ?_ | refine wCond ?_); simp [hz]) | (refine wIn ?_; refine And.intro (by kernel_rfl) ?_; try simp only [thenA_n]) | (first | refine wBlock ?_ | refine wScope ?_) | ((first | refine wRet ?_ | refine wExit ?_ | refine wSkip ?_); try simp) | ((first | refine wLabel ?_ | refine wOn ?_ | refine wQn ?_); try simp only [thenA_n])
  refine wLoop (fun N st => ∃ k u pre, k + N = 10 ∧ st.s 0 = .row 1024 ∧ st.s 5 = .p (.v (.int .u64 (u : Nat))) ∧ st.s 13 = .p (I k) ∧ st.b 1024 = some (.row 5 1 (by8 (b ++ pre))) ∧ pre ++ enc u = enc z ∧ pre.length = k ∧ u * 128 ^ k < 18446744073709551616) 10 ⟨0, z, [], by simp [hz, hlt]⟩ fun K N st hL ⟨k, u, pre, hk, g0, g5, g13, b0, he, hp, hu⟩ => ?_
  have hu64 : u < 18446744073709551616 := Nat.lt_of_le_of_lt (Nat.le_mul_of_pos_right u (Nat.pow_pos (by omega))) hu
  have last : u < 128 → by8 (b ++ pre) ++ [[.v (.int .u8 (IntKind.u8.wrap (u : Int)))]] = by8 (b ++ enc z) := fun h => by
    rw [by8_snoc _ (UInt8.ofNat u) _ (u8_small u h), ← he, enc_small h, List.append_assoc]
  by_cases hkl : k < 10
  · have hkl' : (k : Int) < 10 := by omega
    have hw := wrapS k 10 hkl (by omega)
    by_cases o : u < 128
    · have o' : (u : Int) < 128 := by omega
      have hl := last o
      repeat' first | (refine And.intro (by omega) ?_) | (refine hK _ ?_; clear hK) | (refine hK _ _ ?_; clear hK) | (clear hK; refine hK _ ?_; clear hK) | (clear hK; clear hK; refine hK _ ?_; clear hK) | (clear hK; clear hK; clear hK; refine hK _ ?_; clear hK) | (clear hK; clear hK; clear hK; clear hK; refine hK _ ?_; clear hK) | (refine wSeq fun K hK => ?_) | ((first | refine wReg ?_ | refine wDrwQ rfl (by kernel_rfl) ?_ | refine wDrwI ?_ | refine wDrw (by kernel_rfl) ?_); simp only [List.map_cons, List.map_nil, strip]) | ((first | refine wIs fun K hK => ?_ | refine wOs fun K hK => ?_ | refine wQs fun K hK => ?_ | refine CallK_plain ?_ | refine CallQ_plain ?_ | refine CallR_plain ?_ | refine wCond ?_); simp [g0, g5, g13, b0, hkl, hkl', hw, o, o']) | (refine wIn ?_; refine And.intro (by kernel_rfl) ?_; try simp only [thenA_n]) | (first | refine wBlock ?_ | refine wScope ?_) | ((first | refine wRet ?_ | refine wExit ?_ | refine wSkip ?_); try simp) | ((first | refine wLabel ?_ | refine wOn ?_ | refine wQn ?_); try simp only [thenA_n])
      all_goals apply hr
      all_goals refine ⟨[], by simp, by simp, ?_⟩
      all_goals simp [Tryd.f28, outR, outB, renB, gaN, hl]
    · have o' : ¬ (u : Int) < 128 := by omega
      have hor := or_fact u hu64
      have hb := enc_big o
      generalize UInt8.ofNat (u % 128 + 128) = c at hor hb
      simp at hor
      have hsh := shr7 u
      simp at hsh
      have hx := by8_snoc (b ++ pre) c _ rfl
      rw [List.append_assoc] at hx
      repeat' first | (refine And.intro (by omega) ?_) | (refine hK _ ?_; clear hK) | (refine hK _ _ ?_; clear hK) | (clear hK; refine hK _ ?_; clear hK) | (clear hK; clear hK; refine hK _ ?_; clear hK) | (clear hK; clear hK; clear hK; refine hK _ ?_; clear hK) | (clear hK; clear hK; clear hK; clear hK; refine hK _ ?_; clear hK) | (refine wSeq fun K hK => ?_) | ((first | refine wReg ?_ | refine wDrwQ rfl (by kernel_rfl) ?_ | refine wDrwI ?_ | refine wDrw (by kernel_rfl) ?_); simp only [List.map_cons, List.map_nil, strip]) | ((first | refine wIs fun K hK => ?_ | refine wOs fun K hK => ?_ | refine wQs fun K hK => ?_ | refine CallK_plain ?_ | refine CallQ_plain ?_ | refine CallR_plain ?_ | refine wCond ?_); simp [g0, g5, g13, b0, hkl, hkl', hw, o, o', hor, hsh]) | (refine wIn ?_; refine And.intro (by kernel_rfl) ?_; try simp only [thenA_n]) | (first | refine wBlock ?_ | refine wScope ?_) | ((first | refine wRet ?_ | refine wExit ?_ | refine wSkip ?_); try simp) | ((first | refine wLabel ?_ | refine wOn ?_ | refine wQn ?_); try simp only [thenA_n])
      refine hL _ (N - 1) (by omega) ⟨k + 1, u / 128, pre ++ [c], by omega, ?_⟩
      simp [g0, g5, g13, b0, hw, hor, hsh, hx, hp]
      refine ⟨by rw [← he, hb], Nat.lt_of_le_of_lt ?_ hu⟩
      rw [Nat.pow_succ, Nat.mul_comm (128 ^ k), ← Nat.mul_assoc]
      exact Nat.mul_le_mul_right _ (Nat.div_mul_le_self u 128)
  · have hk10 : k = 10 := by omega
    subst hk10
    have o : u < 128 := by omega
    have hl := last o
    repeat' first | (refine And.intro (by omega) ?_) | (refine hK _ ?_; clear hK) | (refine hK _ _ ?_; clear hK) | (clear hK; refine hK _ ?_; clear hK) | (clear hK; clear hK; refine hK _ ?_; clear hK) | (clear hK; clear hK; clear hK; refine hK _ ?_; clear hK) | (clear hK; clear hK; clear hK; clear hK; refine hK _ ?_; clear hK) | (refine wSeq fun K hK => ?_) | ((first | refine wReg ?_ | refine wDrwQ rfl (by kernel_rfl) ?_ | refine wDrwI ?_ | refine wDrw (by kernel_rfl) ?_); simp only [List.map_cons, List.map_nil, strip]) | ((first | refine wIs fun K hK => ?_ | refine wOs fun K hK => ?_ | refine wQs fun K hK => ?_ | refine CallK_plain ?_ | refine CallQ_plain ?_ | refine CallR_plain ?_ | refine wCond ?_); simp [g0, g5, g13, b0]) | (refine wIn ?_; refine And.intro (by kernel_rfl) ?_; try simp only [thenA_n]) | (first | refine wBlock ?_ | refine wScope ?_) | ((first | refine wRet ?_ | refine wExit ?_ | refine wSkip ?_); try simp) | ((first | refine wLabel ?_ | refine wOn ?_ | refine wQn ?_); try simp only [thenA_n])
    all_goals apply hr
    all_goals refine ⟨[], by simp, by simp, ?_⟩
    all_goals simp [Tryd.f28, outR, outB, renB, gaN, hl]

theorem putInt_con (b : List UInt8) (n : Int) (hn : okI n) (h : b.length ≤ 100000000) : RCon 11 [.p (.sl 1 (by8 b)), .p (I n)] (b ++ enc (zz n)) := by
  have c1 := roomy_con b 10 (by omega)
  have c2 := layInt_con b n hn (by omega)
  simp at c1
  refine wBodyR Tryd.tab Tryd.mixed Tryd.func11 rfl rfl Tryd.ntmps11 rfl (by simp) (by simp) fun Q hr hn => ?_
  repeat' first | (refine CallK_gen [6] c2 (by decide) (by decide) (by simp [blksOf, inN, pos, renB, ren0]) (by simp [argsG, argG, ren0, inN, pos, renCs, renC]) ⟨[], by simp, by simp, ?_⟩; simp [lv, ouN, kpI, kpR, pos, ren, ren0, renB, renC, renCs]) | (refine hK _ ?_; clear hK) | (refine hK _ _ ?_; clear hK) | (clear hK; refine hK _ ?_; clear hK) | (clear hK; clear hK; refine hK _ ?_; clear hK) | (clear hK; clear hK; clear hK; refine hK _ ?_; clear hK) | (clear hK; clear hK; clear hK; clear hK; refine hK _ ?_; clear hK) | (refine wSeq fun K hK => ?_) | ((first | refine wReg ?_ | refine wDrwQ rfl (by kernel_rfl) ?_ | refine wDrwI ?_ | refine wDrw (by kernel_rfl) ?_); simp only [List.map_cons, List.map_nil, strip]) | ((first | refine wIs fun K hK => ?_ | refine wOs fun K hK => ?_ | refine wQs fun K hK => ?_ | refine CallK_plain ?_ | refine CallQ_plain ?_ | refine CallR_plain ?_ | refine wCond ?_); simp) | (refine wIn ?_; refine And.intro (by kernel_rfl) ?_; try simp only [thenA_n]) | (first | refine wBlock ?_ | refine wScope ?_) | ((first | refine wRet ?_ | refine wExit ?_ | refine wSkip ?_); try simp) | ((first | refine wLabel ?_ | refine wOn ?_ | refine wQn ?_); try simp only [thenA_n]) | (refine CallE.pure (c1) rfl ?_) | (refine CallE.lent (c1) rfl ?_) | (refine CallF.pure (c1) rfl ?_) | (refine CallF.lent (c1) rfl ?_) | (refine CallE.own (c1) ?_) | (refine CallH.pure (c1) rfl ?_) | (refine CallH.lent (c1) rfl ?_) | (refine CallH.own (c1) ?_)

  all_goals refine hr _ 6 ?_ ?_ (by omega)
  all_goals simp [Tryd.f11]

theorem and_fact (u : Nat) (h : u < 18446744073709551616) : IntKind.u64.wrap ((BitVec.ofInt IntKind.u64.bits (u : Int) &&& BitVec.ofInt IntKind.u64.bits 127).toNat : Int) = ((u % 128 : Nat) : Int) := by
  show IntKind.u64.wrap ((BitVec.ofInt 64 (u : Int) &&& BitVec.ofNat 64 127).toNat : Int) = _
  rw [ofInt_nat, and127_64, u64_wrap]; omega
theorem or_fact2 (x : Nat) (h : x < 128) : IntKind.u8.wrap ((BitVec.ofInt IntKind.u8.bits (IntKind.u8.wrap (x : Int)) ||| BitVec.ofInt IntKind.u8.bits 128).toNat : Int) = ((UInt8.ofNat (x + 128)).toNat : Int) := by
  have := or_fact x (by omega)
  rw [this, Nat.mod_eq_of_lt h]
theorem not64 (u : Nat) (h : u < 18446744073709551616) : IntKind.u64.wrap ((BitVec.ofInt IntKind.u64.bits (if IntKind.u64.signed = true then -1 else IntKind.u64.max) ^^^ BitVec.ofInt IntKind.u64.bits (u : Int)).toNat : Int) = ((18446744073709551615 - u : Nat) : Int) := by
  show IntKind.u64.wrap ((BitVec.ofInt 64 ((18446744073709551615 : Nat) : Int) ^^^ BitVec.ofInt 64 (u : Int)).toNat : Int) = _
  rw [ofInt_nat, ofInt_nat, BitVec.xor_comm, xor_ones u h, u64_wrap]; omega
theorem shl1 (n : Int) (hn : okI n) : IntKind.u64.wrap (IntKind.u64.wrap n * 2 ^ min 1 IntKind.u64.bits) = ((2 * n % 18446744073709551616).toNat : Int) := by
  obtain ⟨h0, h1⟩ := hn
  show IntKind.u64.wrap (IntKind.u64.wrap n * 2) = _
  rw [u64_wrap, u64_wrap]; omega

theorem putInt01_con (b : List UInt8) (n : Int) (hn : okI n) (h : b.length ≤ 100000000) : RCon 12 [.p (.sl 1 (by8 b)), .p (I n)] (b ++ enc (zz n)) := by
  have hlt := zz_lt hn
  have h1 := shl1 n hn
  have hzz : zz n = if n < 0 then 18446744073709551615 - (2 * n % 18446744073709551616).toNat else (2 * n % 18446744073709551616).toNat := by
    obtain ⟨h0, h1⟩ := hn
    unfold zz
    split <;> omega
  have hm : (2 * n % 18446744073709551616).toNat < 18446744073709551616 := by omega
  generalize (2 * n % 18446744073709551616).toNat = y at h1 hzz hm
  have h2 := not64 y hm
  generalize zz n = z at hlt hzz ⊢
  simp at h1 h2
  refine wBodyR Tryd.tab Tryd.mixed Tryd.func12 rfl rfl Tryd.ntmps12 rfl (by simp) (by simp) fun Q hr hn => ?_
  by_cases o : n < 0
  all_goals first | rw [if_pos o] at hzz | rw [if_neg o] at hzz
  all_goals
    repeat' first | (refine And.intro (by omega) (Or.inl ?_)) | (refine And.intro (by omega) ?_) | (refine hK _ ?_; clear hK) | (refine hK _ _ ?_; clear hK) | (clear hK; refine hK _ ?_; clear hK) | (clear hK; clear hK; refine hK _ ?_; clear hK) | (clear hK; clear hK; clear hK; refine hK _ ?_; clear hK) | (clear hK; clear hK; clear hK; clear hK; refine hK _ ?_; clear hK) | (refine wSeq fun K hK => ?_) | ((first | refine wReg ?_ | refine wDrwQ rfl (by kernel_rfl) ?_ | refine wDrwI ?_ | refine wDrw (by kernel_rfl) ?_); simp only [List.map_cons, List.map_nil, strip]) | ((first | refine wIs fun K hK => ?_ | refine wOs fun K hK => ?_ | refine wQs fun K hK => ?_ | refine CallK_plain ?_ | refine CallQ_plain ?_ | refine CallR_plain ?_ | refine wCond ?_); simp [o, h1, h2]) | (refine wIn ?_; refine And.intro (by kernel_rfl) ?_; try simp only [thenA_n]) | (first | refine wBlock ?_ | refine wScope ?_) | ((first | refine wRet ?_ | refine wExit ?_ | refine wSkip ?_); try simp) | ((first | refine wLabel ?_ | refine wOn ?_ | refine wQn ?_); try simp only [thenA_n])
    refine wLoop (fun N st => ∃ k u pre, k + N = 10 ∧ st.s 6 = .row 16 ∧ st.s 5 = .p (.v (.int .u64 (u : Nat))) ∧ st.b 16 = some (.row 5 1 (by8 (b ++ pre))) ∧ pre ++ enc u = enc z ∧ pre.length = k ∧ u * 128 ^ k < 18446744073709551616) 10 ⟨0, z, [], by simp [hzz, h1, h2]; try omega⟩ fun K N st hL ⟨k, u, pre, hk, g6, g5, b16, he, hp, hu⟩ => ?_
    have hu64 : u < 18446744073709551616 := Nat.lt_of_le_of_lt (Nat.le_mul_of_pos_right u (Nat.pow_pos (by omega))) hu
    by_cases q : u < 128
    · have q' : (u : Int) < 128 := by omega
      have q2 : ¬ 128 ≤ (u : Int) := by omega
      have hl : by8 (b ++ pre) ++ [[.v (.int .u8 (IntKind.u8.wrap (u : Int)))]] = by8 (b ++ enc z) := by
        rw [by8_snoc _ (UInt8.ofNat u) _ (u8_small u q), ← he, enc_small q, List.append_assoc]
      repeat' first | (refine And.intro (by omega) (Or.inl ?_)) | (refine And.intro (by omega) ?_) | (refine hK _ ?_; clear hK) | (refine hK _ _ ?_; clear hK) | (clear hK; refine hK _ ?_; clear hK) | (clear hK; clear hK; refine hK _ ?_; clear hK) | (clear hK; clear hK; clear hK; refine hK _ ?_; clear hK) | (clear hK; clear hK; clear hK; clear hK; refine hK _ ?_; clear hK) | (refine wSeq fun K hK => ?_) | ((first | refine wReg ?_ | refine wDrwQ rfl (by kernel_rfl) ?_ | refine wDrwI ?_ | refine wDrw (by kernel_rfl) ?_); simp only [List.map_cons, List.map_nil, strip]) | ((first | refine wIs fun K hK => ?_ | refine wOs fun K hK => ?_ | refine wQs fun K hK => ?_ | refine CallK_plain ?_ | refine CallQ_plain ?_ | refine CallR_plain ?_ | refine wCond ?_); simp [g5, g6, b16, q, q', q2]) | (refine wIn ?_; refine And.intro (by kernel_rfl) ?_; try simp only [thenA_n]) | (first | refine wBlock ?_ | refine wScope ?_) | ((first | refine wRet ?_ | refine wExit ?_ | refine wSkip ?_); try simp) | ((first | refine wLabel ?_ | refine wOn ?_ | refine wQn ?_); try simp only [thenA_n])
      all_goals refine hr _ 16 ?_ ?_ (by omega)
      all_goals simp [Tryd.f12, hl]
    · have q' : ¬ (u : Int) < 128 := by omega
      have q2 : 128 ≤ (u : Int) := by omega
      have hk10 : k < 10 := by
        refine Nat.lt_of_not_le fun hge => ?_
        have : k = 10 := by omega
        subst this
        omega
      have ha := and_fact u hu64
      have hor := or_fact2 (u % 128) (by omega)
      have hb := enc_big q
      generalize UInt8.ofNat (u % 128 + 128) = c at hor hb
      simp at ha hor
      have hsh := shr7 u
      simp at hsh
      have hx := by8_snoc (b ++ pre) c _ rfl
      rw [List.append_assoc] at hx
      repeat' first | (refine And.intro (by omega) (Or.inl ?_)) | (refine And.intro (by omega) ?_) | (refine hK _ ?_; clear hK) | (refine hK _ _ ?_; clear hK) | (clear hK; refine hK _ ?_; clear hK) | (clear hK; clear hK; refine hK _ ?_; clear hK) | (clear hK; clear hK; clear hK; refine hK _ ?_; clear hK) | (clear hK; clear hK; clear hK; clear hK; refine hK _ ?_; clear hK) | (refine wSeq fun K hK => ?_) | ((first | refine wReg ?_ | refine wDrwQ rfl (by kernel_rfl) ?_ | refine wDrwI ?_ | refine wDrw (by kernel_rfl) ?_); simp only [List.map_cons, List.map_nil, strip]) | ((first | refine wIs fun K hK => ?_ | refine wOs fun K hK => ?_ | refine wQs fun K hK => ?_ | refine CallK_plain ?_ | refine CallQ_plain ?_ | refine CallR_plain ?_ | refine wCond ?_); simp [g5, g6, b16, q, q', q2, ha, hor, hsh]) | (refine wIn ?_; refine And.intro (by kernel_rfl) ?_; try simp only [thenA_n]) | (first | refine wBlock ?_ | refine wScope ?_) | ((first | refine wRet ?_ | refine wExit ?_ | refine wSkip ?_); try simp) | ((first | refine wLabel ?_ | refine wOn ?_ | refine wQn ?_); try simp only [thenA_n])
      refine hL _ (N - 1) (by omega) ⟨k + 1, u / 128, pre ++ [c], by omega, ?_⟩
      simp [g5, g6, b16, ha, hor, hsh, hx, hp]
      refine ⟨by rw [← he, hb], Nat.lt_of_le_of_lt ?_ hu⟩
      rw [Nat.pow_succ, Nat.mul_comm (128 ^ k), ← Nat.mul_assoc]
      exact Nat.mul_le_mul_right _ (Nat.div_mul_le_self u 128)
end Go.Proofs.YtfilinonmngefaaDoor
