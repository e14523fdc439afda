/- The sum of bytes: the program's, four bits at once, and the document's, bit by bit. -/
import Derived.Test.YtfilinonmngefaaDoorCB
namespace Go.Proofs.YtfilinonmngefaaDoor
set_option linter.unusedSimpArgs false
set_option linter.unusedVariables false
open Go Go.Av
attribute [local simp] Tryd.T1 Tryd.T2 Tryd.T3 Tryd.T4 Tryd.T5 Tryd.T9 Tryd.T12 Tryd.T15 Tryd.T16 Tryd.T17 Tryd.T21 Tryd.T22 Tryd.T23 Tryd.T24 Tryd.T25 Tryd.T27 Tryd.T28 Tryd.T29 Tryd.T31 Tryd.T32 Tryd.T34 Tryd.T35 Tryd.T36 Tryd.T38 Tryd.T39 Tryd.T41 Tryd.T42 Tryd.T43 Tryd.T44 Tryd.T45 Tryd.T46 Tryd.T47 Tryd.T48 Tryd.T49 Tryd.T50 Tryd.T51 Tryd.T52 Tryd.T53 Tryd.T54 Tryd.T55 Tryd.T56 Tryd.T57 Tryd.T58 Tryd.T59 Tryd.T60 Tryd.T61 Tryd.T62 Tryd.T63 Tryd.T65 Tryd.T66 Tryd.T67 Tryd.T68 Tryd.T69 Tryd.T70 Tryd.T73 Tryd.T78 Tryd.T79
attribute [local irreducible] Go.Av.CallK Go.Av.CallE Go.Av.CallQ Go.Av.CallF Go.Av.CallR Go.Av.CallH Go.Av.Con

abbrev W32 := BitVec 32
def bit (x : W32) : W32 := if x.getLsbD 0 then (x >>> 1) ^^^ 2197175160#32 else x >>> 1
def nib (x : W32) : W32 := bit (bit (bit (bit x)))
def oct (x : W32) : W32 := nib (nib x)
def cb (c : UInt8) : W32 := BitVec.ofNat 32 c.toNat
def feed (x : W32) (l : List UInt8) : W32 := l.foldl (fun x c => oct (x ^^^ cb c)) x
def crc (l : List UInt8) : Nat := (~~~ feed (BitVec.allOnes 32) l).toNat
theorem feed_snoc (x : W32) (l : List UInt8) (k : Nat) (h : k < l.length) : feed x (l.take (k + 1)) = oct (feed x (l.take k) ^^^ cb l[k]) := by
  rw [List.take_succ_eq_append_getElem h]; simp only [feed, List.foldl_append, List.foldl_cons, List.foldl_nil]
theorem bit_xor (x y : W32) : bit (x ^^^ y) = bit x ^^^ bit y := by
  unfold bit
  rw [BitVec.getLsbD_xor]
  cases x.getLsbD 0 <;> cases y.getLsbD 0 <;> simp only [Bool.xor_false, Bool.false_xor, Bool.xor_true, Bool.not_false, Bool.not_true, if_true, if_false, Bool.false_eq_true, BitVec.ushiftRight_xor_distrib]
  · rw [BitVec.xor_assoc]
  · rw [BitVec.xor_assoc, BitVec.xor_assoc]; congr 1; rw [BitVec.xor_comm]
  · have : (x >>> 1 ^^^ 2197175160#32) ^^^ (y >>> 1 ^^^ 2197175160#32) = x >>> 1 ^^^ y >>> 1 ^^^ (2197175160#32 ^^^ 2197175160#32) := by ac_rfl
    rw [this]; simp
theorem bit_even (x : W32) (h : x.getLsbD 0 = false) : bit x = x >>> 1 := by unfold bit; rw [h]; simp
theorem nib_xor (x y : W32) : nib (x ^^^ y) = nib x ^^^ nib y := by simp only [nib, bit_xor]
theorem oct_xor (x y : W32) : oct (x ^^^ y) = oct x ^^^ oct y := by simp only [oct, nib_xor]
theorem nib_high (x : W32) : nib (x &&& 4294967280#32) = x >>> 4 := by
  have g : ∀ i, i < 4 → (x &&& 4294967280#32).getLsbD i = false := fun i hi => by
    rw [BitVec.getLsbD_and]
    have : (4294967280#32).getLsbD i = false := by
      have : ∀ i : Fin 4, (4294967280#32).getLsbD i.val = false := by decide
      exact this ⟨i, hi⟩
    rw [this]; simp
  have s : ∀ (y : W32) (i j : Nat), (y >>> i).getLsbD j = y.getLsbD (i + j) := fun y i j => BitVec.getLsbD_ushiftRight ..
  generalize hh : x &&& 4294967280#32 = h at g
  have e1 : bit h = h >>> 1 := bit_even _ (g 0 (by omega))
  have e2 : bit (h >>> 1) = h >>> 1 >>> 1 := bit_even _ (by rw [s]; exact g 1 (by omega))
  have e3 : bit (h >>> 1 >>> 1) = h >>> 1 >>> 1 >>> 1 := bit_even _ (by rw [s, s]; exact g 2 (by omega))
  have e4 : bit (h >>> 1 >>> 1 >>> 1) = h >>> 1 >>> 1 >>> 1 >>> 1 := bit_even _ (by rw [s, s, s]; exact g 3 (by omega))
  unfold nib
  rw [e1, e2, e3, e4]
  apply BitVec.eq_of_getLsbD_eq
  intro i hi
  rw [s, s, s, s, s, ← hh, BitVec.getLsbD_and, show 1 + (1 + (1 + (1 + i))) = 4 + i by omega]
  by_cases h : 4 + i < 32
  · have : (4294967280#32).getLsbD (4 + i) = true := by
      have : ∀ i : Fin 28, (4294967280#32).getLsbD (4 + i.val) = true := by decide
      exact this ⟨i, by omega⟩
    rw [this]; simp
  · rw [BitVec.getLsbD_of_ge x (4 + i) (by omega)]; simp
def tabN (n : Nat) : Nat := (nib (BitVec.ofNat 32 n)).toNat
theorem nib_tab (x : W32) : nib x = x >>> 4 ^^^ nib (BitVec.ofNat 32 (x.toNat % 16)) := by
  have e : x = (x &&& 4294967280#32) ^^^ (x &&& 15#32) := by
    apply BitVec.eq_of_getLsbD_eq
    intro i hi
    rw [BitVec.getLsbD_xor, BitVec.getLsbD_and, BitVec.getLsbD_and]
    have : (4294967280#32).getLsbD i = !(15#32).getLsbD i := by
      have : ∀ i : Fin 32, (4294967280#32).getLsbD i.val = !(15#32).getLsbD i.val := by decide
      exact this ⟨i, hi⟩
    rw [this]
    cases x.getLsbD i <;> cases (15#32).getLsbD i <;> rfl
  have e2 : x &&& 15#32 = BitVec.ofNat 32 (x.toNat % 16) := by
    apply BitVec.eq_of_toNat_eq
    rw [BitVec.toNat_and, BitVec.toNat_ofNat, BitVec.toNat_ofNat, show 15 % 2 ^ 32 = 2 ^ 4 - 1 from rfl, Nat.and_two_pow_sub_one_eq_mod]
    omega
  rw [← e2]
  conv => lhs; rw [e, nib_xor, nib_high]
def stepsL : List PV := (Glob.g 0).getD []
theorem glob0 : Glob.g 0 = some stepsL := rfl
theorem steps_get : ∀ n, n < 16 → stepsL[n]? = some (.v (.int .u32 (tabN n)))
  | 0, _ => rfl | 1, _ => rfl | 2, _ => rfl | 3, _ => rfl | 4, _ => rfl | 5, _ => rfl | 6, _ => rfl | 7, _ => rfl
  | 8, _ => rfl | 9, _ => rfl | 10, _ => rfl | 11, _ => rfl | 12, _ => rfl | 13, _ => rfl | 14, _ => rfl | 15, _ => rfl
  | n + 16, h => absurd h (by omega)
attribute [local irreducible] stepsL tabN

theorem xor32 (a b : Nat) (ha : a < 4294967296) (hb : b < 4294967296) : IntKind.u32.wrap ((BitVec.ofInt IntKind.u32.bits (a : Int) ^^^ BitVec.ofInt IntKind.u32.bits (b : Int)).toNat : Int) = ((BitVec.ofNat 32 a ^^^ BitVec.ofNat 32 b).toNat : Int) := by
  show IntKind.u32.wrap ((BitVec.ofInt 32 (a : Int) ^^^ BitVec.ofInt 32 (b : Int)).toNat : Int) = _
  rw [ofInt_nat, ofInt_nat, u32_wrap]
  have := (BitVec.ofNat 32 a ^^^ BitVec.ofNat 32 b).isLt
  omega
theorem xorF (x y : W32) : IntKind.u32.wrap ((BitVec.ofInt IntKind.u32.bits (x.toNat : Int) ^^^ BitVec.ofInt IntKind.u32.bits (y.toNat : Int)).toNat : Int) = ((x ^^^ y).toNat : Int) := by
  rw [xor32 _ _ x.isLt y.isLt, BitVec.ofNat_toNat, BitVec.ofNat_toNat]; simp
theorem shr4F (x : W32) : (x.toNat : Int).fdiv (2 ^ min 4 IntKind.u32.bits) = ((x >>> 4).toNat : Int) := by
  show (x.toNat : Int).fdiv 16 = _
  rw [Int.fdiv_eq_ediv_of_nonneg _ (by omega), BitVec.toNat_ushiftRight, Nat.shiftRight_eq_div_pow]; omega
theorem and15F (x : W32) : IntKind.u32.wrap ((BitVec.ofInt IntKind.u32.bits (x.toNat : Int) &&& BitVec.ofInt IntKind.u32.bits 15).toNat : Int) = ((x.toNat % 16 : Nat) : Int) := by
  show IntKind.u32.wrap ((BitVec.ofInt 32 (x.toNat : Int) &&& BitVec.ofNat 32 15).toNat : Int) = _
  rw [ofInt_nat, BitVec.toNat_and, BitVec.toNat_ofNat, BitVec.toNat_ofNat, show 15 % 2 ^ 32 = 2 ^ 4 - 1 from rfl, Nat.and_two_pow_sub_one_eq_mod, u32_wrap]
  have := x.isLt
  omega
theorem cbF (c : UInt8) : IntKind.u32.wrap (c.toNat : Int) = ((cb c).toNat : Int) := by
  have := c.toNat_lt
  rw [u32_wrap, cb, BitVec.toNat_ofNat]; omega
theorem notF (x : W32) : IntKind.u32.wrap ((BitVec.ofInt IntKind.u32.bits (if IntKind.u32.signed = true then -1 else IntKind.u32.max) ^^^ BitVec.ofInt IntKind.u32.bits (x.toNat : Int)).toNat : Int) = ((~~~ x).toNat : Int) := by
  show IntKind.u32.wrap ((BitVec.ofInt 32 ((4294967295 : Nat) : Int) ^^^ BitVec.ofInt 32 (x.toNat : Int)).toNat : Int) = _
  rw [ofInt_nat, ofInt_nat, u32_wrap, BitVec.ofNat_toNat, show BitVec.ofNat 32 4294967295 = BitVec.allOnes 32 by decide, BitVec.xor_comm]
  simp only [BitVec.setWidth_eq, BitVec.xor_allOnes]
  have := (~~~ x).isLt
  omega
theorem wrapL (k n : Nat) (h : k < n) (hn : n ≤ 1000000000) : IntKind.i64.wrap ((k : Int) + 1) = ((k + 1 : Nat) : Int) := wrapS k n h (by omega)

set_option maxHeartbeats 1000000 in
theorem crc_con (l : List UInt8) (hl : l.length ≤ 1000000000) : ACon Tryd.prog 21 [.p (.sl 1 (by8 l))] (.p (.v (.int .u32 (crc l)))) := by
  have hin : (4294967295 : Int) = ((BitVec.allOnes 32).toNat : Int) := by decide
  unfold crc
  refine wBody Tryd.tab Tryd.mixed Tryd.func21 rfl rfl Tryd.ntmps21 (by simp) (by simp) fun Q hr hn => ?_
  repeat' first | (refine hK _ ?_; clear hK) | (refine hK _ _ ?_; clear hK) | (clear hK; refine hK _ ?_; clear hK) | (clear hK; clear hK; refine hK _ ?_; clear hK) | (clear hK; clear hK; clear hK; refine hK _ ?_; clear hK) | (clear hK; clear hK; clear hK; clear hK; refine hK _ ?_; clear hK) | (refine wSeq fun K hK => ?_) | ((first | refine wReg ?_ | refine wDrwQ rfl (by kernel_rfl) ?_ | refine wDrwI ?_ | refine wDrw (by kernel_rfl) ?_); simp only [List.map_cons, List.map_nil, strip]) | ((first | refine wIs fun K hK => ?_ | refine wOs fun K hK => ?_ | refine wQs fun K hK => ?_ | refine CallK_plain ?_ | refine CallQ_plain ?_ | refine CallR_plain ?_ | refine wCond ?_); simp) | (refine wIn ?_; refine And.intro (by kernel_rfl) ?_; try simp only [thenA_n]) | (first | refine wBlock ?_ | refine wScope ?_) | ((first | refine wRet ?_ | refine wExit ?_ | refine wSkip ?_); try simp) | ((first | refine wLabel ?_ | refine wOn ?_ | refine wQn ?_); try simp only [thenA_n])
  refine wLoop (fun N st => ∃ k r, k + N = l.length ∧ r = (feed (BitVec.allOnes 32) (l.take k)).toNat ∧ st.s 3 = .p (.v (.int .u32 (r : Nat))) ∧ st.s 6 = .p (.sl 1 (by8 l)) ∧ st.s 7 = .p (I l.length) ∧ st.s 8 = .p (I k)) l.length ⟨0, 4294967295, by simp; decide⟩ fun K N st hL ⟨k, r, hk, hr0, g3, g6, g7, g8⟩ => ?_
  by_cases hlt : k < l.length
  · have hw := wrapL k _ hlt hl
    have he := by8_get hlt
    have hs := feed_snoc (BitVec.allOnes 32) l k hlt
    generalize hcq : l[k] = c at he hs
    generalize feed (BitVec.allOnes 32) (l.take k) = x at hr0 hs
    have f1 := cbF c
    have f2 := xorF x (cb c)
    rw [← f1] at f2
    rw [← hr0] at f2
    unfold oct at hs
    generalize x ^^^ cb c = y at f2 hs
    have f3 := shr4F y
    have f4 := and15F y
    have f5 := nib_tab y
    have h16 : y.toNat % 16 < 16 := Nat.mod_lt _ (by omega)
    have f6 := steps_get _ h16
    have f7 := xorF (y >>> 4) (nib (BitVec.ofNat 32 (y.toNat % 16)))
    rw [← f5, ← f3] at f7
    have e7 : (nib (BitVec.ofNat 32 (y.toNat % 16))).toNat = tabN (y.toNat % 16) := by unfold tabN; rfl
    rw [e7] at f7
    generalize y.toNat % 16 = n at f4 f6 f7 h16
    generalize nib y = z at f7 hs
    have p3 := shr4F z
    have p4 := and15F z
    have p5 := nib_tab z
    have p16 : z.toNat % 16 < 16 := Nat.mod_lt _ (by omega)
    have p6 := steps_get _ p16
    have p7 := xorF (z >>> 4) (nib (BitVec.ofNat 32 (z.toNat % 16)))
    rw [← p5, ← p3] at p7
    have q7 : (nib (BitVec.ofNat 32 (z.toNat % 16))).toNat = tabN (z.toNat % 16) := by unfold tabN; rfl
    rw [q7] at p7
    generalize z.toNat % 16 = n2 at p4 p6 p7 p16
    rw [← hs] at p7
    generalize hr' : (feed (BitVec.allOnes 32) (l.take (k + 1))).toNat = r' at p7
    generalize y.toNat = ry at f2 f3 f4 f7
    generalize z.toNat = rz at f7 p3 p4 p7
    generalize tabN n = t1 at f6 f7
    generalize tabN n2 = t2 at p6 p7
    have b16 : (n : Int) < 16 := by omega
    have b16' : (n2 : Int) < 16 := by omega
    clear f1 hr0 hs f5 p5 e7 q7
    simp at f2 f4 f7 p4 p7
    repeat' first | (refine hK _ ?_; clear hK) | (refine hK _ _ ?_; clear hK) | (clear hK; refine hK _ ?_; clear hK) | (clear hK; clear hK; refine hK _ ?_; clear hK) | (clear hK; clear hK; clear hK; refine hK _ ?_; clear hK) | (clear hK; clear hK; clear hK; clear hK; refine hK _ ?_; clear hK) | (refine wSeq fun K hK => ?_) | ((first | refine wReg ?_ | refine wDrwQ rfl (by kernel_rfl) ?_ | refine wDrwI ?_ | refine wDrw (by kernel_rfl) ?_); simp only [List.map_cons, List.map_nil, strip]) | ((first | refine wIs fun K hK => ?_ | refine wOs fun K hK => ?_ | refine wQs fun K hK => ?_ | refine CallK_plain ?_ | refine CallQ_plain ?_ | refine CallR_plain ?_ | refine wCond ?_); simp [g3, g6, g7, g8, hlt, hw, he, hcq, f2, f4, f7, p4, p7, f6, p6, h16, p16, glob0]) | (refine wIn ?_; refine And.intro (by kernel_rfl) ?_; try simp only [thenA_n]) | (first | refine wBlock ?_ | refine wScope ?_) | ((first | refine wRet ?_ | refine wExit ?_ | refine wSkip ?_); try simp) | ((first | refine wLabel ?_ | refine wOn ?_ | refine wQn ?_); try simp only [thenA_n])
    refine hL _ (N - 1) (by omega) ⟨k + 1, r', by omega, hr'.symm, ?_⟩
    simp [g3, g6, g7, g8, hw, hcq, f2, f4, f7, p4, p7, f6, p6, h16, p16, glob0]
  · rw [List.take_of_length_le (by omega)] at hr0
    have f1 := notF (feed (BitVec.allOnes 32) l)
    rw [← hr0] at f1
    generalize (~~~ feed (BitVec.allOnes 32) l).toNat = z at f1 hr
    simp at f1
    repeat' first | (refine hK _ ?_; clear hK) | (refine hK _ _ ?_; clear hK) | (clear hK; refine hK _ ?_; clear hK) | (clear hK; clear hK; refine hK _ ?_; clear hK) | (clear hK; clear hK; clear hK; refine hK _ ?_; clear hK) | (clear hK; clear hK; clear hK; clear hK; refine hK _ ?_; clear hK) | (refine wSeq fun K hK => ?_) | ((first | refine wReg ?_ | refine wDrwQ rfl (by kernel_rfl) ?_ | refine wDrwI ?_ | refine wDrw (by kernel_rfl) ?_); simp only [List.map_cons, List.map_nil, strip]) | ((first | refine wIs fun K hK => ?_ | refine wOs fun K hK => ?_ | refine wQs fun K hK => ?_ | refine CallK_plain ?_ | refine CallQ_plain ?_ | refine CallR_plain ?_ | refine wCond ?_); simp [g3, g6, g7, g8, hlt, f1]) | (refine wIn ?_; refine And.intro (by kernel_rfl) ?_; try simp only [thenA_n]) | (first | refine wBlock ?_ | refine wScope ?_) | ((first | refine wRet ?_ | refine wExit ?_ | refine wSkip ?_); try simp) | ((first | refine wLabel ?_ | refine wOn ?_ | refine wQn ?_); try simp only [thenA_n])
    all_goals apply hr
    all_goals simp [Tryd.f21, f1]
theorem shr1F (x : W32) : (x.toNat : Int).fdiv (2 ^ min 1 IntKind.u32.bits) = ((x >>> 1).toNat : Int) := by
  show (x.toNat : Int).fdiv 2 = _
  rw [Int.fdiv_eq_ediv_of_nonneg _ (by omega), BitVec.toNat_ushiftRight, Nat.shiftRight_eq_div_pow]; omega
theorem and1F (x : W32) : IntKind.u32.wrap ((BitVec.ofInt IntKind.u32.bits (x.toNat : Int) &&& BitVec.ofInt IntKind.u32.bits 1).toNat : Int) = ((x.toNat % 2 : Nat) : Int) := by
  show IntKind.u32.wrap ((BitVec.ofInt 32 (x.toNat : Int) &&& BitVec.ofNat 32 1).toNat : Int) = _
  rw [ofInt_nat, BitVec.toNat_and, BitVec.toNat_ofNat, BitVec.toNat_ofNat, show 1 % 2 ^ 32 = 2 ^ 1 - 1 from rfl, Nat.and_two_pow_sub_one_eq_mod, u32_wrap]
  have := x.isLt
  omega
def bits : Nat → W32 → W32
  | 0, x => x
  | n + 1, x => bits n (bit x)
theorem bits8 (x : W32) : bits 8 x = oct x := rfl
theorem lsb_mod (x : W32) : x.getLsbD 0 = decide (x.toNat % 2 = 1) := by
  rw [BitVec.getLsbD, Nat.testBit_zero]
set_option maxHeartbeats 1000000 in
theorem crc01_con (l : List UInt8) (hl : l.length ≤ 1000000000) : ACon Tryd.prog 22 [.p (.sl 1 (by8 l))] (.p (.v (.int .u32 (crc l)))) := by
  unfold crc
  refine wBody Tryd.tab Tryd.mixed Tryd.func22 rfl rfl Tryd.ntmps22 (by simp) (by simp) fun Q hr hn => ?_
  repeat' first | (refine hK _ ?_; clear hK) | (refine hK _ _ ?_; clear hK) | (clear hK; refine hK _ ?_; clear hK) | (clear hK; clear hK; refine hK _ ?_; clear hK) | (clear hK; clear hK; clear hK; refine hK _ ?_; clear hK) | (clear hK; clear hK; clear hK; clear hK; refine hK _ ?_; clear hK) | (refine wSeq fun K hK => ?_) | ((first | refine wReg ?_ | refine wDrwQ rfl (by kernel_rfl) ?_ | refine wDrwI ?_ | refine wDrw (by kernel_rfl) ?_); simp only [List.map_cons, List.map_nil, strip]) | ((first | refine wIs fun K hK => ?_ | refine wOs fun K hK => ?_ | refine wQs fun K hK => ?_ | refine CallK_plain ?_ | refine CallQ_plain ?_ | refine CallR_plain ?_ | refine wCond ?_); simp) | (refine wIn ?_; refine And.intro (by kernel_rfl) ?_; try simp only [thenA_n]) | (first | refine wBlock ?_ | refine wScope ?_) | ((first | refine wRet ?_ | refine wExit ?_ | refine wSkip ?_); try simp) | ((first | refine wLabel ?_ | refine wOn ?_ | refine wQn ?_); try simp only [thenA_n])
  refine wLoop (fun N st => ∃ k r, k + N = l.length ∧ r = (feed (BitVec.allOnes 32) (l.take k)).toNat ∧ st.s 3 = .p (.v (.int .u32 (r : Nat))) ∧ st.s 7 = .p (.sl 1 (by8 l)) ∧ st.s 8 = .p (I l.length) ∧ st.s 9 = .p (I k)) l.length ⟨0, 4294967295, by simp; decide⟩ fun K N st hL ⟨k, r, hk, hr0, g3, g7, g8, g9⟩ => ?_
  by_cases hlt : k < l.length
  · have hw := wrapL k _ hlt hl
    have he := by8_get hlt
    have hs := feed_snoc (BitVec.allOnes 32) l k hlt
    generalize hcq : l[k] = c at he hs
    generalize feed (BitVec.allOnes 32) (l.take k) = x at hr0 hs
    have f1 := cbF c
    have f2 := xorF x (cb c)
    rw [← f1] at f2
    rw [← hr0] at f2
    generalize x ^^^ cb c = y at f2 hs
    rw [← bits8] at hs
    generalize hry : y.toNat = ry at f2
    simp at f2
    repeat' first | (refine hK _ ?_; clear hK) | (refine hK _ _ ?_; clear hK) | (clear hK; refine hK _ ?_; clear hK) | (clear hK; clear hK; refine hK _ ?_; clear hK) | (clear hK; clear hK; clear hK; refine hK _ ?_; clear hK) | (clear hK; clear hK; clear hK; clear hK; refine hK _ ?_; clear hK) | (refine wSeq fun K hK => ?_) | ((first | refine wReg ?_ | refine wDrwQ rfl (by kernel_rfl) ?_ | refine wDrwI ?_ | refine wDrw (by kernel_rfl) ?_); simp only [List.map_cons, List.map_nil, strip]) | ((first | refine wIs fun K hK => ?_ | refine wOs fun K hK => ?_ | refine wQs fun K hK => ?_ | refine CallK_plain ?_ | refine CallQ_plain ?_ | refine CallR_plain ?_ | refine wCond ?_); simp [g3, g7, g8, g9, hlt, hw, he, hcq, f2]) | (refine wIn ?_; refine And.intro (by kernel_rfl) ?_; try simp only [thenA_n]) | (first | refine wBlock ?_ | refine wScope ?_) | ((first | refine wRet ?_ | refine wExit ?_ | refine wSkip ?_); try simp) | ((first | refine wLabel ?_ | refine wOn ?_ | refine wQn ?_); try simp only [thenA_n])
    refine wLoop (fun N st => ∃ j r x, j + N = 8 ∧ r = x.toNat ∧ bits (8 - j) x = bits 8 y ∧ st.s 3 = .p (.v (.int .u32 (r : Nat))) ∧ st.s 7 = .p (.sl 1 (by8 l)) ∧ st.s 8 = .p (I l.length) ∧ st.s 9 = .p (I k) ∧ st.s 17 = .p (I j)) 8 ⟨0, ry, y, by simp [g3, g7, g8, g9, f2, hry, hcq]⟩ fun K M st hM ⟨j, r, x, hj, hrx, hb, g3, g7, g8, g9, g17⟩ => ?_
    by_cases hj8 : j < 8
    · have hj8' : (j : Int) < 8 := by omega
      have hwj := wrapL j 8 hj8 (by omega)
      rw [show 8 - j = (8 - (j + 1)) + 1 by omega, bits] at hb
      have p1 := and1F x
      have p2 := shr1F x
      have p3 := xorF (x >>> 1) 2197175160#32
      rw [← p2] at p3
      have hbit : bit x = if x.toNat % 2 = 1 then (x >>> 1) ^^^ 2197175160#32 else x >>> 1 := by
        unfold bit
        by_cases o : x.toNat % 2 = 1
        · rw [lsb_mod, decide_eq_true o, if_pos rfl, if_pos o]
        · rw [lsb_mod, decide_eq_false o, if_neg (by decide), if_neg o]
      rw [← hrx] at p1 p2 p3 hbit
      by_cases o : r % 2 = 1
      · rw [if_pos o] at hbit
        rw [← hbit] at p3
        rw [show (2197175160#32).toNat = 2197175160 from rfl] at p3
        generalize hz : (bit x).toNat = z at p3
        have o' : ((r : Int) % 2 = 1) = True := by simp; omega
        simp at p1 p3
        repeat' first | (refine hK _ ?_; clear hK) | (refine hK _ _ ?_; clear hK) | (clear hK; refine hK _ ?_; clear hK) | (clear hK; clear hK; refine hK _ ?_; clear hK) | (clear hK; clear hK; clear hK; refine hK _ ?_; clear hK) | (clear hK; clear hK; clear hK; clear hK; refine hK _ ?_; clear hK) | (refine wSeq fun K hK => ?_) | ((first | refine wReg ?_ | refine wDrwQ rfl (by kernel_rfl) ?_ | refine wDrwI ?_ | refine wDrw (by kernel_rfl) ?_); simp only [List.map_cons, List.map_nil, strip]) | ((first | refine wIs fun K hK => ?_ | refine wOs fun K hK => ?_ | refine wQs fun K hK => ?_ | refine CallK_plain ?_ | refine CallQ_plain ?_ | refine CallR_plain ?_ | refine wCond ?_); simp [g3, g7, g8, g9, g17, hj8, hj8', hwj, p1, p3, o']) | (refine wIn ?_; refine And.intro (by kernel_rfl) ?_; try simp only [thenA_n]) | (first | refine wBlock ?_ | refine wScope ?_) | ((first | refine wRet ?_ | refine wExit ?_ | refine wSkip ?_); try simp) | ((first | refine wLabel ?_ | refine wOn ?_ | refine wQn ?_); try simp only [thenA_n])
        refine hM _ (M - 1) (by omega) ⟨j + 1, z, bit x, by omega, hz.symm, hb, ?_⟩
        simp [g3, g7, g8, g9, g17, hwj, p1, p3]
      · rw [if_neg o] at hbit
        rw [← hbit] at p2
        generalize hz : (bit x).toNat = z at p2
        have o' : ¬ ((r : Int) % 2 = 1) := by omega
        simp at p1 p2
        repeat' first | (refine hK _ ?_; clear hK) | (refine hK _ _ ?_; clear hK) | (clear hK; refine hK _ ?_; clear hK) | (clear hK; clear hK; refine hK _ ?_; clear hK) | (clear hK; clear hK; clear hK; refine hK _ ?_; clear hK) | (clear hK; clear hK; clear hK; clear hK; refine hK _ ?_; clear hK) | (refine wSeq fun K hK => ?_) | ((first | refine wReg ?_ | refine wDrwQ rfl (by kernel_rfl) ?_ | refine wDrwI ?_ | refine wDrw (by kernel_rfl) ?_); simp only [List.map_cons, List.map_nil, strip]) | ((first | refine wIs fun K hK => ?_ | refine wOs fun K hK => ?_ | refine wQs fun K hK => ?_ | refine CallK_plain ?_ | refine CallQ_plain ?_ | refine CallR_plain ?_ | refine wCond ?_); simp [g3, g7, g8, g9, g17, hj8, hj8', hwj, p1, p2, o']) | (refine wIn ?_; refine And.intro (by kernel_rfl) ?_; try simp only [thenA_n]) | (first | refine wBlock ?_ | refine wScope ?_) | ((first | refine wRet ?_ | refine wExit ?_ | refine wSkip ?_); try simp) | ((first | refine wLabel ?_ | refine wOn ?_ | refine wQn ?_); try simp only [thenA_n])
        refine hM _ (M - 1) (by omega) ⟨j + 1, z, bit x, by omega, hz.symm, hb, ?_⟩
        simp [g3, g7, g8, g9, g17, hwj, p1, p2]
    · obtain rfl : j = 8 := by omega
      rw [bits] at hb
      repeat' first | (refine hK _ ?_; clear hK) | (refine hK _ _ ?_; clear hK) | (clear hK; refine hK _ ?_; clear hK) | (clear hK; clear hK; refine hK _ ?_; clear hK) | (clear hK; clear hK; clear hK; refine hK _ ?_; clear hK) | (clear hK; clear hK; clear hK; clear hK; refine hK _ ?_; clear hK) | (refine wSeq fun K hK => ?_) | ((first | refine wReg ?_ | refine wDrwQ rfl (by kernel_rfl) ?_ | refine wDrwI ?_ | refine wDrw (by kernel_rfl) ?_); simp only [List.map_cons, List.map_nil, strip]) | ((first | refine wIs fun K hK => ?_ | refine wOs fun K hK => ?_ | refine wQs fun K hK => ?_ | refine CallK_plain ?_ | refine CallQ_plain ?_ | refine CallR_plain ?_ | refine wCond ?_); simp [g3, g7, g8, g9, g17, hw]) | (refine wIn ?_; refine And.intro (by kernel_rfl) ?_; try simp only [thenA_n]) | (first | refine wBlock ?_ | refine wScope ?_) | ((first | refine wRet ?_ | refine wExit ?_ | refine wSkip ?_); try simp) | ((first | refine wLabel ?_ | refine wOn ?_ | refine wQn ?_); try simp only [thenA_n])
      refine hL _ (N - 1) (by omega) ⟨k + 1, r, by omega, by rw [hs, ← hb, hrx], ?_⟩
      simp [g3, g7, g8, g9, hw]
  · rw [List.take_of_length_le (by omega)] at hr0
    have f1 := notF (feed (BitVec.allOnes 32) l)
    rw [← hr0] at f1
    generalize (~~~ feed (BitVec.allOnes 32) l).toNat = z at f1 hr
    simp at f1
    repeat' first | (refine hK _ ?_; clear hK) | (refine hK _ _ ?_; clear hK) | (clear hK; refine hK _ ?_; clear hK) | (clear hK; clear hK; refine hK _ ?_; clear hK) | (clear hK; clear hK; clear hK; refine hK _ ?_; clear hK) | (clear hK; clear hK; clear hK; clear hK; refine hK _ ?_; clear hK) | (refine wSeq fun K hK => ?_) | ((first | refine wReg ?_ | refine wDrwQ rfl (by kernel_rfl) ?_ | refine wDrwI ?_ | refine wDrw (by kernel_rfl) ?_); simp only [List.map_cons, List.map_nil, strip]) | ((first | refine wIs fun K hK => ?_ | refine wOs fun K hK => ?_ | refine wQs fun K hK => ?_ | refine CallK_plain ?_ | refine CallQ_plain ?_ | refine CallR_plain ?_ | refine wCond ?_); simp [g3, g7, g8, g9, hlt, f1]) | (refine wIn ?_; refine And.intro (by kernel_rfl) ?_; try simp only [thenA_n]) | (first | refine wBlock ?_ | refine wScope ?_) | ((first | refine wRet ?_ | refine wExit ?_ | refine wSkip ?_); try simp) | ((first | refine wLabel ?_ | refine wOn ?_ | refine wQn ?_); try simp only [thenA_n])
    all_goals apply hr
    all_goals simp [Tryd.f22, f1]
end Go.Proofs.YtfilinonmngefaaDoor
