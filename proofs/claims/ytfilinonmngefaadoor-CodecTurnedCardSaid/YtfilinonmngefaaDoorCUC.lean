/- The law CodecTurned: bits turned within 32 neighbouring ones are told by the sum. -/
import Derived.Test.YtfilinonmngefaaDoorCUB
namespace Go.Proofs.YtfilinonmngefaaDoor
set_option linter.unusedSimpArgs false
set_option linter.unusedVariables false
open Go Go.Av
attribute [local simp] Tryd.T1 Tryd.T2 Tryd.T3 Tryd.T4 Tryd.T5 Tryd.T9 Tryd.T12 Tryd.T15 Tryd.T16 Tryd.T17 Tryd.T21 Tryd.T22 Tryd.T23 Tryd.T24 Tryd.T25 Tryd.T27 Tryd.T28 Tryd.T29 Tryd.T31 Tryd.T32 Tryd.T34 Tryd.T35 Tryd.T36 Tryd.T38 Tryd.T39 Tryd.T41 Tryd.T42 Tryd.T43 Tryd.T44 Tryd.T45 Tryd.T46 Tryd.T47 Tryd.T48 Tryd.T49 Tryd.T50 Tryd.T51 Tryd.T52 Tryd.T53 Tryd.T54 Tryd.T55 Tryd.T56 Tryd.T57 Tryd.T58 Tryd.T59 Tryd.T60 Tryd.T61 Tryd.T62 Tryd.T63 Tryd.T65 Tryd.T66 Tryd.T67 Tryd.T68 Tryd.T69 Tryd.T70 Tryd.T73 Tryd.T78 Tryd.T79
attribute [local irreducible] Go.Av.CallK Go.Av.CallE Go.Av.CallQ Go.Av.CallF Go.Av.CallR Go.Av.CallH Go.Av.Con
theorem seal_long (l : List UInt8) (h1 : 65536 < l.length) : ACon Tryd.prog 19 [.p (.sl 1 (by8 l))] (.tup [.p (.sl 1 []), .p (I 5)]) := by
  have h1' : (65536 : Int) < l.length := by omega
  refine wBody Tryd.tab Tryd.mixed Tryd.func19 rfl rfl Tryd.ntmps19 (by simp) (by simp) fun Q hr hn => ?_
  repeat' first | (refine hK _ ?_; clear hK) | (refine hK _ _ ?_; clear hK) | (clear hK; refine hK _ ?_; clear hK) | (clear hK; clear hK; refine hK _ ?_; clear hK) | (clear hK; clear hK; clear hK; refine hK _ ?_; clear hK) | (clear hK; clear hK; clear hK; clear hK; refine hK _ ?_; clear hK) | (refine wSeq fun K hK => ?_) | ((first | refine wReg ?_ | refine wDrwQ rfl (by kernel_rfl) ?_ | refine wDrwI ?_ | refine wDrw (by kernel_rfl) ?_); simp only [List.map_cons, List.map_nil, strip]) | ((first | refine wIs fun K hK => ?_ | refine wOs fun K hK => ?_ | refine wQs fun K hK => ?_ | refine CallK_plain ?_ | refine CallQ_plain ?_ | refine CallR_plain ?_ | refine wCond ?_); simp [h1, h1']) | (refine wIn ?_; refine And.intro (by kernel_rfl) ?_; try simp only [thenA_n]) | (first | refine wBlock ?_ | refine wScope ?_) | ((first | refine wRet ?_ | refine wExit ?_ | refine wSkip ?_); try simp) | ((first | refine wLabel ?_ | refine wOn ?_ | refine wQn ?_); try simp only [thenA_n])
  all_goals apply hr
  all_goals simp [Tryd.f19]
theorem sealR_con (l : List UInt8) (h1 : ¬ 65536 < l.length) : Con Tryd.prog 19 [.p (.sl 1 (by8 l))] [] (.ret (.tup [.row 2048, .p (I 0)]) [.row 5 1 (by8 (frm l))] []) := by
  have h1' : ¬ (65536 : Int) < l.length := by omega
  have hz := zz_len l.length (by omega)
  have hel := enc_len10 (zz_lt hz)
  have w1 : IntKind.i64.wrap (10 + (l.length : Int)) = 10 + (l.length : Int) := wrap_id (by omega) (by omega)
  have w2 : IntKind.i64.wrap (10 + (l.length : Int) + 4) = 10 + (l.length : Int) + 4 := wrap_id (by omega) (by omega)
  have c1 := roomy_con [] (10 + l.length + 4) (by simp; omega)
  have c2 := layInt_con [] l.length hz (by simp)
  rw [List.nil_append] at c2
  unfold frm
  have hx := by8_app (enc (zz l.length)) l
  have c3 := crc_con (enc (zz l.length) ++ l) (by rw [List.length_append]; omega)
  have c4 := laySum_con (enc (zz l.length) ++ l) (crc (enc (zz l.length) ++ l)) (by rw [List.length_append]; omega)
  generalize crc (enc (zz l.length) ++ l) = n at c3 c4 ⊢
  have hlen : (enc (zz l.length) ++ l).length ≤ 100000010 := by rw [List.length_append]; omega
  generalize enc (zz l.length) = x at c2 c3 c4 hx hel hlen ⊢
  simp at c1 hx
  unfold RCon at c1
  simp only [show by8 [] = [] from rfl] at c1 c2
  have hxl : ((x ++ l).length : Int) = x.length + l.length := by rw [List.length_append]; omega
  refine wBodyG Tryd.tab Tryd.mixed Tryd.func19 rfl rfl Tryd.ntmps19 (by simp) (by simp) fun Q hr hn hp => ?_
  repeat' first | (refine And.intro (by omega) ?_) | (refine CallK_gen [12] c2 (by decide) (by decide) (by simp [blksOf, inN, pos, renB, ren0]) (by simp [argsG, argG, ren0, inN, pos, renCs, renC]) ⟨[], by simp, by simp, ?_⟩; simp [lv, ouN, kpI, kpR, pos, ren, ren0, renB, renC, renCs]) | (refine CallK_gen [12] c4 (by decide) (by decide) (by simp [blksOf, inN, pos, renB, ren0]) (by simp [argsG, argG, ren0, inN, pos, renCs, renC]) ⟨[], by simp, by simp, ?_⟩; simp [lv, ouN, kpI, kpR, pos, ren, ren0, renB, renC, renCs]) | (refine hK _ ?_; clear hK) | (refine hK _ _ ?_; clear hK) | (clear hK; refine hK _ ?_; clear hK) | (clear hK; clear hK; refine hK _ ?_; clear hK) | (clear hK; clear hK; clear hK; refine hK _ ?_; clear hK) | (clear hK; clear hK; clear hK; clear hK; refine hK _ ?_; clear hK) | (refine wSeq fun K hK => ?_) | ((first | refine wReg ?_ | refine wDrwQ rfl (by kernel_rfl) ?_ | refine wDrwI ?_ | refine wDrw (by kernel_rfl) ?_); simp only [List.map_cons, List.map_nil, strip]) | ((first | refine wIs fun K hK => ?_ | refine wOs fun K hK => ?_ | refine wQs fun K hK => ?_ | refine CallK_plain ?_ | refine CallQ_plain ?_ | refine CallR_plain ?_ | refine wCond ?_); simp [h1, h1', w1, w2, hx]) | (refine wIn ?_; refine And.intro (by kernel_rfl) ?_; try simp only [thenA_n]) | (first | refine wBlock ?_ | refine wScope ?_) | ((first | refine wRet ?_ | refine wExit ?_ | refine wSkip ?_); try simp) | ((first | refine wLabel ?_ | refine wOn ?_ | refine wQn ?_); try simp only [thenA_n]) | (refine CallE.pure (c1) rfl ?_) | (refine CallE.lent (c1) rfl ?_) | (refine CallF.pure (c1) rfl ?_) | (refine CallF.lent (c1) rfl ?_) | (refine CallE.own (c1) ?_) | (refine CallH.pure (c1) rfl ?_) | (refine CallH.lent (c1) rfl ?_) | (refine CallH.own (c1) ?_) | (refine CallE.pure (c3) rfl ?_) | (refine CallE.lent (c3) rfl ?_) | (refine CallF.pure (c3) rfl ?_) | (refine CallF.lent (c3) rfl ?_) | (refine CallE.own (c3) ?_) | (refine CallH.pure (c3) rfl ?_) | (refine CallH.lent (c3) rfl ?_) | (refine CallH.own (c3) ?_)
  all_goals apply hr
  all_goals refine ⟨[12], by simp, by simp, ?_⟩
  all_goals simp [Tryd.f19, outR, outB, renB, gaN, hx]
/-! ### A bit turned -/
def pw (r : Nat) : UInt8 := UInt8.ofNat (2 ^ r)
theorem pw_toNat (r : Nat) (h : r < 8) : (pw r).toNat = 2 ^ r := by
  unfold pw
  have : 2 ^ r < 2 ^ 8 := Nat.pow_lt_pow_right (by omega) h
  rw [u8_toNat _ (by omega)]
theorem bt_pw (r j : Nat) (h : r < 8) : bt (pw r) j = decide (r = j) := by
  unfold bt; rw [pw_toNat r h, Nat.testBit_two_pow]
theorem bitAt_set (g : List UInt8) (i r p : Nat) (hi : i < g.length) (hr : r < 8) : bitAt (g.set i (g[i] ^^^ pw r)) p = (bitAt g p ^^ decide (p = 8 * i + r)) := by
  unfold bitAt
  rw [List.getD_eq_getElem?_getD, List.getD_eq_getElem?_getD, List.getElem?_set]
  by_cases h : i = p / 8
  · subst h
    rw [if_pos rfl, if_pos hi, List.getElem?_eq_getElem hi]
    simp only [Option.getD_some]
    rw [bt_xor, bt_pw r _ hr]
    congr 1
    by_cases hp : r = p % 8
    · rw [decide_eq_true hp, decide_eq_true (by omega)]
    · rw [decide_eq_false hp, decide_eq_false (by omega)]
  · rw [if_neg h, decide_eq_false (by omega)]; simp
theorem Sb_succ (a k m p : Nat) : Sb a (k + 1) m p = (Sb a k m p ^^ (decide (p = a + k) && m.testBit k)) := by
  unfold Sb
  by_cases h1 : p = a + k
  · subst h1
    rw [decide_eq_true (by omega), decide_eq_false (by omega), decide_eq_true rfl, show a + k - a = k by omega]; simp
  · rw [decide_eq_false h1]
    by_cases h2 : a ≤ p ∧ p < a + k
    · rw [decide_eq_true h2, decide_eq_true (by omega)]; simp
    · rw [decide_eq_false h2, decide_eq_false (by omega)]; simp
theorem Sb_zero (a m p : Nat) : Sb a 0 m p = false := by unfold Sb; rw [decide_eq_false (by omega)]; rfl
theorem by8_set (g : List UInt8) (i : Nat) (c : UInt8) (n : Int) (h : n = c.toNat) : (by8 g).set i [.v (.int .u8 n)] = by8 (g.set i c) := by
  subst h; unfold by8; rw [List.map_set]; rfl
theorem set_right (H g : List UInt8) (i : Nat) (c : UInt8) : (H ++ g).set (H.length + i) c = H ++ g.set i c := by
  rw [List.set_append_right _ _ (by omega)]; congr 2; omega
theorem and1_32 (x : Nat) (h : x < 4294967296) : IntKind.u32.wrap ((BitVec.ofInt IntKind.u32.bits (x : Int) &&& BitVec.ofInt IntKind.u32.bits 1).toNat : Int) = ((x % 2 : Nat) : Int) := by
  show IntKind.u32.wrap ((BitVec.ofInt 32 (x : Int) &&& BitVec.ofNat 32 1).toNat : Int) = _
  rw [ofInt_nat, BitVec.toNat_and, BitVec.toNat_ofNat, BitVec.toNat_ofNat, show 1 % 2 ^ 32 = 2 ^ 1 - 1 from rfl, Nat.and_two_pow_sub_one_eq_mod, u32_wrap]
  omega
theorem shrM (m k : Nat) (hk : k < 32) : (m : Int).fdiv (2 ^ min k IntKind.u32.bits) = ((m / 2 ^ k : Nat) : Int) := by
  have e : min k IntKind.u32.bits = k := by show min k 32 = k; omega
  rw [e, Int.fdiv_eq_ediv_of_nonneg _ (Int.pow_nonneg (by omega))]
  have : (2 : Int) ^ k = ((2 ^ k : Nat) : Int) := by simp
  rw [this]; rfl
theorem shl8 (r : Nat) (h : r < 8) : IntKind.u8.wrap (1 * 2 ^ min r IntKind.u8.bits) = ((pw r).toNat : Int) := by
  have e : min r IntKind.u8.bits = r := by show min r 8 = r; omega
  have : 2 ^ r < 2 ^ 8 := Nat.pow_lt_pow_right (by omega) h
  have e2 : (1 : Int) * 2 ^ r = ((2 ^ r : Nat) : Int) := by simp
  rw [e, e2, pw_toNat r h, u8_wrap]
  generalize 2 ^ r = z at this ⊢
  omega
theorem xor8 (x y : UInt8) : IntKind.u8.wrap ((BitVec.ofInt IntKind.u8.bits (x.toNat : Int) ^^^ BitVec.ofInt IntKind.u8.bits (y.toNat : Int)).toNat : Int) = ((x ^^^ y).toNat : Int) := by
  have hx := x.toNat_lt
  have hy := y.toNat_lt
  show IntKind.u8.wrap ((BitVec.ofInt 8 (x.toNat : Int) ^^^ BitVec.ofInt 8 (y.toNat : Int)).toNat : Int) = _
  rw [ofInt_nat, ofInt_nat, BitVec.toNat_xor, BitVec.toNat_ofNat, BitVec.toNat_ofNat, Nat.mod_eq_of_lt (by omega), Nat.mod_eq_of_lt (by omega), UInt8.toNat_xor, u8_wrap]
  have : x.toNat ^^^ y.toNat < 2 ^ 8 := Nat.xor_lt_two_pow hx hy
  omega
theorem bitM (m k : Nat) : m.testBit k = decide (m / 2 ^ k % 2 = 1) := Nat.testBit_eq_decide_div_mod_eq
section
variable {Q : AExit → St → Prop} {st : St} (l : List UInt8) (a m : Nat)
abbrev bodyOf (l : List UInt8) : List UInt8 := l ++ le4 (crc (enc (zz l.length) ++ l))
set_option maxHeartbeats 4000000 in
theorem turnedL (hl : l.length ≤ 3000) (ha : a < 8 * (l.length + 4)) (hm : m < 4294967296) (H : List UInt8) (hH : H = enc (zz l.length)) (hHl : H.length ≤ 10)
    (hend : ∀ st g, g.length = l.length + 4 → (∀ p, p < 8 * (l.length + 4) → bitAt g p = (bitAt (bodyOf l) p ^^ Sb a 32 m p)) → st.s 7 = .row 18 → st.s 11 = .p (B (turnd a 32 m (8 * (l.length + 4)))) → st.b 18 = some (.row 5 1 (by8 (H ++ g))) → Q (.exit 0) st)
    (h1 : st.s 1 = .p (I a)) (h2 : st.s 2 = .p (.v (.int .u32 m))) (h7 : st.s 7 = .row 18) (h9 : st.s 9 = .p (I H.length)) (h10 : st.s 10 = .p (I ((8 * (l.length + 4) : Nat) : Int))) (h11 : st.s 11 = .p (B false)) (h53 : st.s 53 = .p (I 0)) (hb : st.b 18 = some (.row 5 1 (by8 (H ++ bodyOf l)))) :
    WC Tryd.prog Tryd.T 107 (lp Tryd.f9 0) Q st := by
  have hbl : (bodyOf l).length = l.length + 4 := by unfold bodyOf; rw [List.length_append, le4_len]
  generalize bodyOf l = body at hend hb hbl
  generalize hM : 8 * (l.length + 4) = M at *
  refine wLoop (fun N st => ∃ k g t, k + N = 32 ∧ g.length = l.length + 4 ∧ (∀ p, p < M → bitAt g p = (bitAt body p ^^ Sb a k m p)) ∧ t = turnd a k m M ∧ st.s 1 = .p (I a) ∧ st.s 2 = .p (.v (.int .u32 (m : Nat))) ∧ st.s 7 = .row 18 ∧ st.s 9 = .p (I H.length) ∧ st.s 10 = .p (I M) ∧ st.s 11 = .p (B t) ∧ st.s 53 = .p (I k) ∧ st.b 18 = some (.row 5 1 (by8 (H ++ g)))) 32 ⟨0, body, false, by simp [Sb_zero, turnd, hbl, h1, h2, h7, h9, h10, h11, h53, hb]⟩ fun K N st hL ⟨k, g, t, hk, hgl, hS, ht, g1, g2, g7, g9, g10, g11, g53, b18⟩ => ?_
  by_cases hk32 : k < 32
  rotate_left
  · have hk' : k = 32 := by omega
    subst hk'
    subst ht
    repeat' first | (refine hK _ ?_; clear hK) | (refine hK _ _ ?_; clear hK) | (clear hK; refine hK _ ?_; clear hK) | (clear hK; clear hK; refine hK _ ?_; clear hK) | (clear hK; clear hK; clear hK; refine hK _ ?_; clear hK) | (clear hK; clear hK; clear hK; clear hK; refine hK _ ?_; clear hK) | (refine wSeq fun K hK => ?_) | ((first | refine wReg ?_ | refine wDrwQ rfl (by kernel_rfl) ?_ | refine wDrwI ?_ | refine wDrw (by kernel_rfl) ?_); simp only [List.map_cons, List.map_nil, strip]) | ((first | refine wIs fun K hK => ?_ | refine wOs fun K hK => ?_ | refine wQs fun K hK => ?_ | refine CallK_plain ?_ | refine CallQ_plain ?_ | refine CallR_plain ?_ | refine wCond ?_); simp [g1, g2, g7, g9, g10, g11, g53, b18]) | (refine wIn ?_; refine And.intro (by kernel_rfl) ?_; try simp only [thenA_n]) | (first | refine wBlock ?_ | refine wScope ?_) | ((first | refine wRet ?_ | refine wExit ?_ | refine wSkip ?_); try simp) | ((first | refine wLabel ?_ | refine wOn ?_ | refine wQn ?_); try simp only [thenA_n])
    refine hend _ g hgl hS ?_ ?_ ?_
    all_goals simp [g7, g11, b18]
  have hk32' : (k : Int) < 32 := by omega
  have hw := wrapS k 32 hk32 (by omega)
  have hku : IntKind.u64.wrap (k : Int) = (k : Int) := by rw [u64_wrap]; omega
  have hkn : ¬ (k : Int) < 0 := by omega
  have f1 := shrM m k hk32
  have hmk : m / 2 ^ k ≤ m := Nat.div_le_self _ _
  have f2 := and1_32 (m / 2 ^ k) (by omega)
  have hbit := bitM m k
  have htn := turnd_succ a k m M
  rw [hbit, ← ht] at htn
  have hSn := fun p => Sb_succ a k m p
  rw [hbit] at hSn
  generalize m / 2 ^ k % 2 = x at f2 htn hSn
  generalize m / 2 ^ k = mk at f1 f2
  obtain ⟨y, hy⟩ : ∃ y, y = a + k := ⟨_, rfl⟩
  rw [← hy] at htn hSn
  have hwy : IntKind.i64.wrap ((a : Int) + (k : Int)) = (y : Int) := by rw [wrap_id (by omega) (by omega)]; omega
  simp at f2
  try simp at f1
  by_cases hx : x = 1
  rotate_left
  · have hx' : ¬ (x : Int) = 1 := by omega
    rw [decide_eq_false hx] at htn hSn
    simp only [Bool.false_and, Bool.or_false, Bool.and_false, Bool.xor_false] at htn hSn
    repeat' first | (refine hK _ ?_; clear hK) | (refine hK _ _ ?_; clear hK) | (clear hK; refine hK _ ?_; clear hK) | (clear hK; clear hK; refine hK _ ?_; clear hK) | (clear hK; clear hK; clear hK; refine hK _ ?_; clear hK) | (clear hK; clear hK; clear hK; clear hK; refine hK _ ?_; clear hK) | (refine wSeq fun K hK => ?_) | ((first | refine wReg ?_ | refine wDrwQ rfl (by kernel_rfl) ?_ | refine wDrwI ?_ | refine wDrw (by kernel_rfl) ?_); simp only [List.map_cons, List.map_nil, strip]) | ((first | refine wIs fun K hK => ?_ | refine wOs fun K hK => ?_ | refine wQs fun K hK => ?_ | refine CallK_plain ?_ | refine CallQ_plain ?_ | refine CallR_plain ?_ | refine wCond ?_); simp [g1, g2, g7, g9, g10, g11, g53, b18, hk32, hk32', hw, hku, hkn, f1, f2, hx, hx', hwy]) | (refine wIn ?_; refine And.intro (by kernel_rfl) ?_; try simp only [thenA_n]) | (first | refine wBlock ?_ | refine wScope ?_) | ((first | refine wRet ?_ | refine wExit ?_ | refine wSkip ?_); try simp) | ((first | refine wLabel ?_ | refine wOn ?_ | refine wQn ?_); try simp only [thenA_n])
    refine hL _ (N - 1) (by omega) ⟨k + 1, g, t, by omega, hgl, fun p hp => by rw [hS p hp, hSn p], htn.symm, ?_⟩
    simp [g1, g2, g7, g9, g10, g11, g53, b18, hw]
  have hxT : (x = 1) = True := by simp [hx]
  have hxT' : ((x : Int) = 1) = True := by simp [hx]
  rw [decide_eq_true hx] at htn hSn
  simp only [Bool.true_and, Bool.and_true] at htn hSn
  by_cases hyM : y < M
  rotate_left
  · have hyM' : ¬ (y : Int) < M := by omega
    rw [decide_eq_false hyM, Bool.or_false] at htn
    repeat' first | (refine hK _ ?_; clear hK) | (refine hK _ _ ?_; clear hK) | (clear hK; refine hK _ ?_; clear hK) | (clear hK; clear hK; refine hK _ ?_; clear hK) | (clear hK; clear hK; clear hK; refine hK _ ?_; clear hK) | (clear hK; clear hK; clear hK; clear hK; refine hK _ ?_; clear hK) | (refine wSeq fun K hK => ?_) | ((first | refine wReg ?_ | refine wDrwQ rfl (by kernel_rfl) ?_ | refine wDrwI ?_ | refine wDrw (by kernel_rfl) ?_); simp only [List.map_cons, List.map_nil, strip]) | ((first | refine wIs fun K hK => ?_ | refine wOs fun K hK => ?_ | refine wQs fun K hK => ?_ | refine CallK_plain ?_ | refine CallQ_plain ?_ | refine CallR_plain ?_ | refine wCond ?_); simp [g1, g2, g7, g9, g10, g11, g53, b18, hk32, hk32', hw, hku, hkn, f1, f2, hxT, hxT', hwy, hyM, hyM']) | (refine wIn ?_; refine And.intro (by kernel_rfl) ?_; try simp only [thenA_n]) | (first | refine wBlock ?_ | refine wScope ?_) | ((first | refine wRet ?_ | refine wExit ?_ | refine wSkip ?_); try simp) | ((first | refine wLabel ?_ | refine wOn ?_ | refine wQn ?_); try simp only [thenA_n])
    refine hL _ (N - 1) (by omega) ⟨k + 1, g, t, by omega, hgl, fun p hp => by rw [hS p hp, hSn p, decide_eq_false (by omega)]; simp, htn.symm, ?_⟩
    simp [g1, g2, g7, g9, g10, g11, g53, b18, hw]
  have hyM' : (y : Int) < M := by omega
  rw [decide_eq_true hyM, Bool.or_true] at htn
  have q1 : (y : Int).tdiv 8 = ((y / 8 : Nat) : Int) := by rw [Int.tdiv_eq_ediv_of_nonneg (by omega)]; omega
  have q2 : (y : Int).tmod 8 = ((y % 8 : Nat) : Int) := by rw [Int.tmod_eq_emod_of_nonneg (by omega)]; omega
  have hr8 : y % 8 < 8 := Nat.mod_lt _ (by omega)
  have hi : y / 8 < g.length := by omega
  have hbs := fun p => bitAt_set g (y / 8) (y % 8) p hi hr8
  have hyy : ∀ p, decide (p = 8 * (y / 8) + y % 8) = decide (p = y) := fun p => by rw [show 8 * (y / 8) + y % 8 = y by omega]
  have hnew : ∀ p, p < M → bitAt (g.set (y / 8) (g[y / 8] ^^^ pw (y % 8))) p = (bitAt body p ^^ Sb a (k + 1) m p) := fun p hp => by
    rw [hbs p, hS p hp, hSn p, hyy p]; simp
  have hsl : (g.set (y / 8) (g[y / 8] ^^^ pw (y % 8))).length = l.length + 4 := by rw [List.length_set, hgl]
  have hsr := set_right H g (y / 8) (g[y / 8] ^^^ pw (y % 8))
  have s8 := shl8 (y % 8) hr8
  have x8 := xor8 g[y / 8] (pw (y % 8))
  have hget : (by8 (H ++ g))[H.length + y / 8]? = some [.v (.int .u8 g[y / 8].toNat)] := by
    have hlt : H.length + y / 8 < (H ++ g).length := by rw [List.length_append]; omega
    have e : (H ++ g)[H.length + y / 8]'hlt = g[y / 8] := by rw [List.getElem_append_right (by omega)]; simp only [Nat.add_sub_cancel_left]
    rw [by8_get hlt, e]
  have hru : IntKind.u64.wrap ((y % 8 : Nat) : Int) = ((y % 8 : Nat) : Int) := by rw [u64_wrap]; omega
  have hwq : IntKind.i64.wrap ((y / 8 : Nat) : Int) = ((y / 8 : Nat) : Int) := wrap_id (by omega) (by omega)
  have hwr : IntKind.i64.wrap ((y % 8 : Nat) : Int) = ((y % 8 : Nat) : Int) := wrap_id (by omega) (by omega)
  generalize g.set (y / 8) (g[y / 8] ^^^ pw (y % 8)) = g' at hnew hsl hsr
  have hst := by8_set (H ++ g) (H.length + y / 8) (g[y / 8] ^^^ pw (y % 8)) _ rfl
  rw [hsr] at hst
  generalize g[y / 8] ^^^ pw (y % 8) = c2 at x8 hst
  generalize hc1 : g[y / 8] = c1 at x8 hget
  generalize hpw : (pw (y % 8)).toNat = pn at s8 x8
  have hil : H.length + y / 8 < (H ++ g).length := by rw [List.length_append]; omega
  obtain ⟨i, hii⟩ : ∃ i, i = H.length + y / 8 := ⟨_, rfl⟩
  rw [← hii] at hget hst hil
  have hwi : IntKind.i64.wrap ((H.length : Int) + ((y / 8 : Nat) : Int)) = (i : Int) := by rw [wrap_id (by omega) (by omega)]; omega
  have hgetE : (by8 (H ++ g))[i]'(by rw [by8_len]; exact hil) = [.v (.int .u8 c1.toNat)] := by
    rw [List.getElem?_eq_getElem (by rw [by8_len]; exact hil)] at hget; exact Option.some.inj hget
  have hblen : (by8 (H ++ g)).length = (H ++ g).length := by8_len _
  generalize y / 8 = yq at q1 hwq hwi
  generalize y % 8 = yr at q2 hwr hru s8
  generalize hG : H ++ g = G at b18 hst hget hil hgetE hblen
  have hil' : (i : Int) < (G.length : Int) := by omega
  have hin : ¬ (i : Int) < 0 := by omega
  simp at s8 x8
  repeat' first | (refine hK _ ?_; clear hK) | (refine hK _ _ ?_; clear hK) | (clear hK; refine hK _ ?_; clear hK) | (clear hK; clear hK; refine hK _ ?_; clear hK) | (clear hK; clear hK; clear hK; refine hK _ ?_; clear hK) | (clear hK; clear hK; clear hK; clear hK; refine hK _ ?_; clear hK) | (refine wSeq fun K hK => ?_) | ((first | refine wReg ?_ | refine wDrwQ rfl (by kernel_rfl) ?_ | refine wDrwI ?_ | refine wDrw (by kernel_rfl) ?_); simp only [List.map_cons, List.map_nil, strip]) | ((first | refine wIs fun K hK => ?_ | refine wOs fun K hK => ?_ | refine wQs fun K hK => ?_ | refine CallK_plain ?_ | refine CallQ_plain ?_ | refine CallR_plain ?_ | refine wCond ?_); simp [g1, g2, g7, g9, g10, g11, g53, b18, hk32, hk32', hw, hku, hkn, f1, f2, hxT, hxT', hwy, hyM, hyM', q1, q2, hwq, hwr, hru, hwi, s8, x8, hget, hgetE, hblen, hil, hil', hst]) | (refine wIn ?_; refine And.intro (by kernel_rfl) ?_; try simp only [thenA_n]) | (first | refine wBlock ?_ | refine wScope ?_) | ((first | refine wRet ?_ | refine wExit ?_ | refine wSkip ?_); try simp) | ((first | refine wLabel ?_ | refine wOn ?_ | refine wQn ?_); try simp only [thenA_n])
  refine hL _ (N - 1) (by omega) ⟨k + 1, g', true, by omega, hsl, hnew, htn.symm, ?_⟩
  simp [g1, g2, g7, g9, g10, g11, g53, b18, hw, hst]
end
theorem lenE (l : List UInt8) (hl : l.length ≤ 3000) : (frm l).length = (enc (zz l.length)).length + (l.length + 4) ∧ (enc (zz l.length)).length ≤ 10 ∧ 1 ≤ (enc (zz l.length)).length := by
  have h1 := enc_len10 (zz_lt (zz_len l.length (by omega)))
  have h2 := enc_pos (zz (l.length : Int))
  exact ⟨by rw [frm_len]; omega, h1, h2⟩
set_option maxHeartbeats 4000000 in
theorem codecTurned_con (l : List UInt8) (a : Int) (m : Nat) (hm : m < 4294967296) : ACon Tryd.prog 9 [.p (.sl 1 (by8 l)), .p (I a), .p (.v (.int .u32 m))] (.p (B true)) := by
  by_cases h0 : 65536 < l.length
  · have h1 : 3000 < l.length := by omega
    have h1' : (3000 : Int) < l.length := by omega
    have cs := seal_long l h0
    refine wBody Tryd.tab Tryd.mixed Tryd.func9 rfl rfl Tryd.ntmps9 (by simp) (by simp) fun Q hr hn => ?_
    repeat' first | (refine hK _ ?_; clear hK) | (refine hK _ _ ?_; clear hK) | (clear hK; refine hK _ ?_; clear hK) | (clear hK; clear hK; refine hK _ ?_; clear hK) | (clear hK; clear hK; clear hK; refine hK _ ?_; clear hK) | (clear hK; clear hK; clear hK; clear hK; refine hK _ ?_; clear hK) | (refine wSeq fun K hK => ?_) | ((first | refine wReg ?_ | refine wDrwQ rfl (by kernel_rfl) ?_ | refine wDrwI ?_ | refine wDrw (by kernel_rfl) ?_); simp only [List.map_cons, List.map_nil, strip]) | ((first | refine wIs fun K hK => ?_ | refine wOs fun K hK => ?_ | refine wQs fun K hK => ?_ | refine CallK_plain ?_ | refine CallQ_plain ?_ | refine CallR_plain ?_ | refine wCond ?_); simp [h1, h1']) | (refine wIn ?_; refine And.intro (by kernel_rfl) ?_; try simp only [thenA_n]) | (first | refine wBlock ?_ | refine wScope ?_) | ((first | refine wRet ?_ | refine wExit ?_ | refine wSkip ?_); try simp) | ((first | refine wLabel ?_ | refine wOn ?_ | refine wQn ?_); try simp only [thenA_n]) | (refine CallE.pure (cs) rfl ?_) | (refine CallE.lent (cs) rfl ?_) | (refine CallF.pure (cs) rfl ?_) | (refine CallF.lent (cs) rfl ?_) | (refine CallE.own (cs) ?_) | (refine CallH.pure (cs) rfl ?_) | (refine CallH.lent (cs) rfl ?_) | (refine CallH.own (cs) ?_) | (refine CallE.pure (awake01) rfl ?_) | (refine CallE.lent (awake01) rfl ?_) | (refine CallF.pure (awake01) rfl ?_) | (refine CallF.lent (awake01) rfl ?_) | (refine CallE.own (awake01) ?_) | (refine CallH.pure (awake01) rfl ?_) | (refine CallH.lent (awake01) rfl ?_) | (refine CallH.own (awake01) ?_)
    all_goals apply hr
    all_goals simp [Tryd.f9]
  by_cases h1 : 3000 < l.length
  · have h1' : (3000 : Int) < l.length := by omega
    have cs := seal_con l (by omega)
    unfold sealT at cs
    rw [if_neg h0] at cs
    generalize frm l = fx at cs
    refine wBody Tryd.tab Tryd.mixed Tryd.func9 rfl rfl Tryd.ntmps9 (by simp) (by simp) fun Q hr hn => ?_
    repeat' first | (refine hK _ ?_; clear hK) | (refine hK _ _ ?_; clear hK) | (clear hK; refine hK _ ?_; clear hK) | (clear hK; clear hK; refine hK _ ?_; clear hK) | (clear hK; clear hK; clear hK; refine hK _ ?_; clear hK) | (clear hK; clear hK; clear hK; clear hK; refine hK _ ?_; clear hK) | (refine wSeq fun K hK => ?_) | ((first | refine wReg ?_ | refine wDrwQ rfl (by kernel_rfl) ?_ | refine wDrwI ?_ | refine wDrw (by kernel_rfl) ?_); simp only [List.map_cons, List.map_nil, strip]) | ((first | refine wIs fun K hK => ?_ | refine wOs fun K hK => ?_ | refine wQs fun K hK => ?_ | refine CallK_plain ?_ | refine CallQ_plain ?_ | refine CallR_plain ?_ | refine wCond ?_); simp [h1, h1']) | (refine wIn ?_; refine And.intro (by kernel_rfl) ?_; try simp only [thenA_n]) | (first | refine wBlock ?_ | refine wScope ?_) | ((first | refine wRet ?_ | refine wExit ?_ | refine wSkip ?_); try simp) | ((first | refine wLabel ?_ | refine wOn ?_ | refine wQn ?_); try simp only [thenA_n]) | (refine CallE.pure (cs) rfl ?_) | (refine CallE.lent (cs) rfl ?_) | (refine CallF.pure (cs) rfl ?_) | (refine CallF.lent (cs) rfl ?_) | (refine CallE.own (cs) ?_) | (refine CallH.pure (cs) rfl ?_) | (refine CallH.lent (cs) rfl ?_) | (refine CallH.own (cs) ?_) | (refine CallE.pure (awake01) rfl ?_) | (refine CallE.lent (awake01) rfl ?_) | (refine CallF.pure (awake01) rfl ?_) | (refine CallF.lent (awake01) rfl ?_) | (refine CallE.own (awake01) ?_) | (refine CallH.pure (awake01) rfl ?_) | (refine CallH.lent (awake01) rfl ?_) | (refine CallH.own (awake01) ?_)
    all_goals apply hr
    all_goals simp [Tryd.f9]
  have h1' : ¬ (3000 : Int) < l.length := by omega
  have cs := sealR_con l h0
  obtain ⟨hfl, hH10, hH1⟩ := lenE l (by omega)
  have hfr : frm l = enc (zz l.length) ++ bodyOf l := by unfold frm bodyOf; rw [List.append_assoc]
  have hop := fun b' hb a0 m0 ha hS => opR_turned l b' (by omega) hb a0 m0 ha hS
  obtain ⟨H, hH⟩ : ∃ H, H = enc (zz l.length) := ⟨_, rfl⟩
  rw [← hH] at hfl hH10 hH1 hfr
  have hblen : (by8 (frm l)).length = (frm l).length := by8_len _
  rw [hfr] at cs hfl hblen
  generalize hfd : H ++ bodyOf l = fd at cs hfl hblen
  have k1 : ¬ (fd.length : Int) < (l.length : Int) + 5 := by omega
  have k1n : ¬ fd.length < l.length + 5 := by omega
  have w1 : IntKind.i64.wrap ((l.length : Int) + 5) = (l.length : Int) + 5 := wrap_id (by omega) (by omega)
  have w2 : IntKind.i64.wrap ((fd.length : Int) - (l.length : Int)) = ((H.length + 4 : Nat) : Int) := by rw [wrap_id (by omega) (by omega)]; omega
  have w3 : IntKind.i64.wrap (((H.length + 4 : Nat) : Int) - 4) = (H.length : Int) := by rw [wrap_id (by omega) (by omega)]; omega
  have w4 : IntKind.i64.wrap ((l.length : Int) + 4) = ((l.length + 4 : Nat) : Int) := by rw [wrap_id (by omega) (by omega)]; omega
  have w5 : IntKind.i64.wrap (8 * ((l.length + 4 : Nat) : Int)) = ((8 * (l.length + 4) : Nat) : Int) := by rw [wrap_id (by omega) (by omega)]; omega
  generalize hh4 : H.length + 4 = h4 at w2 w3
  generalize hl4 : l.length + 4 = l4 at w4 w5
  generalize hM : 8 * l4 = M at w5
  by_cases a1 : a < 0
  · refine wBody Tryd.tab Tryd.mixed Tryd.func9 rfl rfl Tryd.ntmps9 (by simp) (by simp) fun Q hr hn => ?_
    repeat' first | (refine CallK_gen [] cs (by decide) (by decide) (by simp [blksOf, inN, pos, renB, ren0]) (by simp [argsG, argG, ren0, inN, pos, renCs, renC]) ⟨[18], by simp, by simp, ?_⟩; simp [lv, ouN, kpI, kpR, pos, ren, ren0, renB, renC, renCs]) | (refine hK _ ?_; clear hK) | (refine hK _ _ ?_; clear hK) | (clear hK; refine hK _ ?_; clear hK) | (clear hK; clear hK; refine hK _ ?_; clear hK) | (clear hK; clear hK; clear hK; refine hK _ ?_; clear hK) | (clear hK; clear hK; clear hK; clear hK; refine hK _ ?_; clear hK) | (refine wSeq fun K hK => ?_) | ((first | refine wReg ?_ | refine wDrwQ rfl (by kernel_rfl) ?_ | refine wDrwI ?_ | refine wDrw (by kernel_rfl) ?_); simp only [List.map_cons, List.map_nil, strip]) | ((first | refine wIs fun K hK => ?_ | refine wOs fun K hK => ?_ | refine wQs fun K hK => ?_ | refine CallK_plain ?_ | refine CallQ_plain ?_ | refine CallR_plain ?_ | refine wCond ?_); simp [h1, h1', k1, k1n, hblen, w1, w2, w3, w4, w5, a1]) | (refine wIn ?_; refine And.intro (by kernel_rfl) ?_; try simp only [thenA_n]) | (first | refine wBlock ?_ | refine wScope ?_) | ((first | refine wRet ?_ | refine wExit ?_ | refine wSkip ?_); try simp) | ((first | refine wLabel ?_ | refine wOn ?_ | refine wQn ?_); try simp only [thenA_n]) | (refine CallE.pure (awake01) rfl ?_) | (refine CallE.lent (awake01) rfl ?_) | (refine CallF.pure (awake01) rfl ?_) | (refine CallF.lent (awake01) rfl ?_) | (refine CallE.own (awake01) ?_) | (refine CallH.pure (awake01) rfl ?_) | (refine CallH.lent (awake01) rfl ?_) | (refine CallH.own (awake01) ?_)
    all_goals apply hr
    all_goals simp [Tryd.f9]
  by_cases a2 : (M : Int) ≤ a
  · refine wBody Tryd.tab Tryd.mixed Tryd.func9 rfl rfl Tryd.ntmps9 (by simp) (by simp) fun Q hr hn => ?_
    repeat' first | (refine CallK_gen [] cs (by decide) (by decide) (by simp [blksOf, inN, pos, renB, ren0]) (by simp [argsG, argG, ren0, inN, pos, renCs, renC]) ⟨[18], by simp, by simp, ?_⟩; simp [lv, ouN, kpI, kpR, pos, ren, ren0, renB, renC, renCs]) | (refine hK _ ?_; clear hK) | (refine hK _ _ ?_; clear hK) | (clear hK; refine hK _ ?_; clear hK) | (clear hK; clear hK; refine hK _ ?_; clear hK) | (clear hK; clear hK; clear hK; refine hK _ ?_; clear hK) | (clear hK; clear hK; clear hK; clear hK; refine hK _ ?_; clear hK) | (refine wSeq fun K hK => ?_) | ((first | refine wReg ?_ | refine wDrwQ rfl (by kernel_rfl) ?_ | refine wDrwI ?_ | refine wDrw (by kernel_rfl) ?_); simp only [List.map_cons, List.map_nil, strip]) | ((first | refine wIs fun K hK => ?_ | refine wOs fun K hK => ?_ | refine wQs fun K hK => ?_ | refine CallK_plain ?_ | refine CallQ_plain ?_ | refine CallR_plain ?_ | refine wCond ?_); simp [h1, h1', k1, k1n, hblen, w1, w2, w3, w4, w5, a1, a2]) | (refine wIn ?_; refine And.intro (by kernel_rfl) ?_; try simp only [thenA_n]) | (first | refine wBlock ?_ | refine wScope ?_) | ((first | refine wRet ?_ | refine wExit ?_ | refine wSkip ?_); try simp) | ((first | refine wLabel ?_ | refine wOn ?_ | refine wQn ?_); try simp only [thenA_n]) | (refine CallE.pure (awake01) rfl ?_) | (refine CallE.lent (awake01) rfl ?_) | (refine CallF.pure (awake01) rfl ?_) | (refine CallF.lent (awake01) rfl ?_) | (refine CallE.own (awake01) ?_) | (refine CallH.pure (awake01) rfl ?_) | (refine CallH.lent (awake01) rfl ?_) | (refine CallH.own (awake01) ?_)
    all_goals apply hr
    all_goals simp [Tryd.f9]
  obtain ⟨a, rfl⟩ : ∃ n : Nat, a = n := ⟨a.toNat, by omega⟩
  have a2n : ¬ M ≤ a := by omega
  have a1n : ¬ a < 0 := by omega
  have hL := fun {Q : AExit → St → Prop} {st} => turnedL (Q := Q) (st := st) l a m (by omega) (by omega) hm H hH hH10
  refine wBody Tryd.tab Tryd.mixed Tryd.func9 rfl rfl Tryd.ntmps9 (by simp) (by simp) fun Q hr hn => ?_
  repeat' first | (refine hL ?_ ?_ ?_ ?_ ?_ ?_ ?_ ?_ ?_) | (refine CallK_gen [] cs (by decide) (by decide) (by simp [blksOf, inN, pos, renB, ren0]) (by simp [argsG, argG, ren0, inN, pos, renCs, renC]) ⟨[18], by simp, by simp, ?_⟩; simp [lv, ouN, kpI, kpR, pos, ren, ren0, renB, renC, renCs]) | (refine hK _ ?_; clear hK) | (refine hK _ _ ?_; clear hK) | (clear hK; refine hK _ ?_; clear hK) | (clear hK; clear hK; refine hK _ ?_; clear hK) | (clear hK; clear hK; clear hK; refine hK _ ?_; clear hK) | (clear hK; clear hK; clear hK; clear hK; refine hK _ ?_; clear hK) | (refine wSeq fun K hK => ?_) | ((first | refine wReg ?_ | refine wDrwQ rfl (by kernel_rfl) ?_ | refine wDrwI ?_ | refine wDrw (by kernel_rfl) ?_); simp only [List.map_cons, List.map_nil, strip]) | ((first | refine wIs fun K hK => ?_ | refine wOs fun K hK => ?_ | refine wQs fun K hK => ?_ | refine CallK_plain ?_ | refine CallQ_plain ?_ | refine CallR_plain ?_ | refine wCond ?_); simp [h1, h1', k1, k1n, hblen, w1, w2, w3, w4, w5, a1, a2, a1n, a2n]) | (refine wIn ?_; refine And.intro (by kernel_rfl) ?_; try simp only [thenA_n]) | (first | refine wBlock ?_ | refine wScope ?_) | ((first | refine wRet ?_ | refine wExit ?_ | refine wSkip ?_); try simp) | ((first | refine wLabel ?_ | refine wOn ?_ | refine wQn ?_); try simp only [thenA_n])
  · intro st g hgl hS g7 g11 b18
    simp only [blockA_e, if_true, thenA_n]
    have ho := hop g hgl a m (by omega) hS
    have co := open_con (H ++ g) 0 (by rw [List.length_append]; omega)
    unfold openT at co
    rw [if_neg (by omega)] at co
    rw [← hH] at ho
    simp only [show (0 : Int).toNat = 0 from rfl] at co
    generalize opR (H ++ g) 0 = r at ho co
    obtain ⟨e, n, q⟩ := r
    simp only at ho
    unfold frT at co
    simp only at co
    generalize H ++ g = G at co b18
    cases ht : turnd a 32 m (8 * (l.length + 4)) with
    | true =>
      rw [ht] at g11 ho
      simp only [if_true] at ho
      subst ho
      rw [if_neg (by decide)] at co
      have e7 : (frzL st [.frz 18]).s 7 = .p (.sl 1 (by8 G)) := by simp [g7, b18]
      have e11 : (frzL st [.frz 18]).s 11 = .p (B true) := by simp [g11, b18]
      repeat' first | (refine wFrz (st := st) [.frz 18] ?_; generalize frzL st [.frz 18] = st2 at e7 e11 ⊢) | (refine hK _ ?_; clear hK) | (refine hK _ _ ?_; clear hK) | (clear hK; refine hK _ ?_; clear hK) | (clear hK; clear hK; refine hK _ ?_; clear hK) | (clear hK; clear hK; clear hK; refine hK _ ?_; clear hK) | (clear hK; clear hK; clear hK; clear hK; refine hK _ ?_; clear hK) | (refine wSeq fun K hK => ?_) | ((first | refine wReg ?_ | refine wDrwQ rfl (by kernel_rfl) ?_ | refine wDrwI ?_ | refine wDrw (by kernel_rfl) ?_); simp only [List.map_cons, List.map_nil, strip]) | ((first | refine wIs fun K hK => ?_ | refine wOs fun K hK => ?_ | refine wQs fun K hK => ?_ | refine CallK_plain ?_ | refine CallQ_plain ?_ | refine CallR_plain ?_ | refine wCond ?_); simp [e7, e11]) | (refine wIn ?_; refine And.intro (by kernel_rfl) ?_; try simp only [thenA_n]) | (first | refine wBlock ?_ | refine wScope ?_) | ((first | refine wRet ?_ | refine wExit ?_ | refine wSkip ?_); try simp) | ((first | refine wLabel ?_ | refine wOn ?_ | refine wQn ?_); try simp only [thenA_n]) | (refine CallE.pure (co) rfl ?_) | (refine CallE.lent (co) rfl ?_) | (refine CallF.pure (co) rfl ?_) | (refine CallF.lent (co) rfl ?_) | (refine CallE.own (co) ?_) | (refine CallH.pure (co) rfl ?_) | (refine CallH.lent (co) rfl ?_) | (refine CallH.own (co) ?_) | (refine CallE.pure (awake01) rfl ?_) | (refine CallE.lent (awake01) rfl ?_) | (refine CallF.pure (awake01) rfl ?_) | (refine CallF.lent (awake01) rfl ?_) | (refine CallE.own (awake01) ?_) | (refine CallH.pure (awake01) rfl ?_) | (refine CallH.lent (awake01) rfl ?_) | (refine CallH.own (awake01) ?_)
      all_goals apply hr
      all_goals simp [Tryd.f9]
    | false =>
      rw [ht] at g11 ho
      simp only [Bool.false_eq_true, if_false] at ho
      subst ho
      rw [if_pos rfl] at co
      generalize (G.drop q).take n = x at co
      generalize q + n + 4 = z at co
      have e7 : (frzL st [.frz 18]).s 7 = .p (.sl 1 (by8 G)) := by simp [g7, b18]
      have e11 : (frzL st [.frz 18]).s 11 = .p (B false) := by simp [g11, b18]
      repeat' first | (refine wFrz (st := st) [.frz 18] ?_; generalize frzL st [.frz 18] = st2 at e7 e11 ⊢) | (refine hK _ ?_; clear hK) | (refine hK _ _ ?_; clear hK) | (clear hK; refine hK _ ?_; clear hK) | (clear hK; clear hK; refine hK _ ?_; clear hK) | (clear hK; clear hK; clear hK; refine hK _ ?_; clear hK) | (clear hK; clear hK; clear hK; clear hK; refine hK _ ?_; clear hK) | (refine wSeq fun K hK => ?_) | ((first | refine wReg ?_ | refine wDrwQ rfl (by kernel_rfl) ?_ | refine wDrwI ?_ | refine wDrw (by kernel_rfl) ?_); simp only [List.map_cons, List.map_nil, strip]) | ((first | refine wIs fun K hK => ?_ | refine wOs fun K hK => ?_ | refine wQs fun K hK => ?_ | refine CallK_plain ?_ | refine CallQ_plain ?_ | refine CallR_plain ?_ | refine wCond ?_); simp [e7, e11]) | (refine wIn ?_; refine And.intro (by kernel_rfl) ?_; try simp only [thenA_n]) | (first | refine wBlock ?_ | refine wScope ?_) | ((first | refine wRet ?_ | refine wExit ?_ | refine wSkip ?_); try simp) | ((first | refine wLabel ?_ | refine wOn ?_ | refine wQn ?_); try simp only [thenA_n]) | (refine CallE.pure (co) rfl ?_) | (refine CallE.lent (co) rfl ?_) | (refine CallF.pure (co) rfl ?_) | (refine CallF.lent (co) rfl ?_) | (refine CallE.own (co) ?_) | (refine CallH.pure (co) rfl ?_) | (refine CallH.lent (co) rfl ?_) | (refine CallH.own (co) ?_) | (refine CallE.pure (awake01) rfl ?_) | (refine CallE.lent (awake01) rfl ?_) | (refine CallF.pure (awake01) rfl ?_) | (refine CallF.lent (awake01) rfl ?_) | (refine CallE.own (awake01) ?_) | (refine CallH.pure (awake01) rfl ?_) | (refine CallH.lent (awake01) rfl ?_) | (refine CallH.own (awake01) ?_)
      all_goals apply hr
      all_goals simp [Tryd.f9]
  all_goals simp [hfd, hM, hl4]
end Go.Proofs.YtfilinonmngefaaDoor
