/- The law CodecBack: what was laid is read back. -/
import Derived.Test.YtfilinonmngefaaDoorCP
namespace Go.Proofs.YtfilinonmngefaaDoor
set_option linter.unusedSimpArgs false
set_option linter.unusedVariables false
open Go Go.Av
attribute [local simp] Tryd.T1 Tryd.T2 Tryd.T3 Tryd.T4 Tryd.T5 Tryd.T9 Tryd.T12 Tryd.T15 Tryd.T16 Tryd.T17 Tryd.T21 Tryd.T22 Tryd.T23 Tryd.T24 Tryd.T25 Tryd.T27 Tryd.T28 Tryd.T29 Tryd.T31 Tryd.T32 Tryd.T34 Tryd.T35 Tryd.T36 Tryd.T38 Tryd.T39 Tryd.T41 Tryd.T42 Tryd.T43 Tryd.T44 Tryd.T45 Tryd.T46 Tryd.T47 Tryd.T48 Tryd.T49 Tryd.T50 Tryd.T51 Tryd.T52 Tryd.T53 Tryd.T54 Tryd.T55 Tryd.T56 Tryd.T57 Tryd.T58 Tryd.T59 Tryd.T60 Tryd.T61 Tryd.T62 Tryd.T63 Tryd.T65 Tryd.T66 Tryd.T67 Tryd.T68 Tryd.T69 Tryd.T70 Tryd.T73 Tryd.T78 Tryd.T79
attribute [local irreducible] Go.Av.CallK Go.Av.CallE Go.Av.CallQ Go.Av.CallF Go.Av.CallR Go.Av.CallH Go.Av.Con
def ints (l : List Int) : List (List PV) := l.map fun n => [I n]
@[simp] theorem ints_len (l : List Int) : (ints l).length = l.length := by simp [ints]
theorem ints_get {l : List Int} {k : Nat} (h : k < l.length) : (ints l)[k]? = some [I l[k]] := by simp [ints, h]
def txs (l : List (List UInt8)) : List (List PV) := l.map fun x => [SB x]
@[simp] theorem txs_len (l : List (List UInt8)) : (txs l).length = l.length := by simp [txs]
theorem txs_get {l : List (List UInt8)} {k : Nat} (h : k < l.length) : (txs l)[k]? = some [SB l[k]] := by simp [txs, h]
def catI (l : List Int) : List UInt8 := l.flatMap fun n => enc (zz n)
def encT (x : List UInt8) : List UInt8 := enc (zz x.length) ++ x
def catT (l : List (List UInt8)) : List UInt8 := l.flatMap encT
theorem catI_snoc {l : List Int} {k : Nat} (h : k < l.length) : catI (l.take (k + 1)) = catI (l.take k) ++ enc (zz l[k]) := by
  rw [List.take_succ_eq_append_getElem h]; simp only [catI, List.flatMap_append, List.flatMap_cons, List.flatMap_nil, List.append_nil]
theorem catT_snoc {l : List (List UInt8)} {k : Nat} (h : k < l.length) : catT (l.take (k + 1)) = catT (l.take k) ++ encT l[k] := by
  rw [List.take_succ_eq_append_getElem h]; simp only [catT, List.flatMap_append, List.flatMap_cons, List.flatMap_nil, List.append_nil]
theorem catI_split {l : List Int} {k : Nat} (h : k < l.length) : catI l = catI (l.take k) ++ (enc (zz l[k]) ++ catI (l.drop (k + 1))) := by
  conv => lhs; rw [← List.take_append_drop k l, List.drop_eq_getElem_cons h]
  simp only [catI, List.flatMap_append, List.flatMap_cons]
theorem catT_split {l : List (List UInt8)} {k : Nat} (h : k < l.length) : catT l = catT (l.take k) ++ (encT l[k] ++ catT (l.drop (k + 1))) := by
  conv => lhs; rw [← List.take_append_drop k l, List.drop_eq_getElem_cons h]
  simp only [catT, List.flatMap_append, List.flatMap_cons]
section
variable {Q : AExit → St → Prop} {st : St} (l : List Int) (s : List (List UInt8)) (ld : List UInt8)
abbrev in3 (st : St) : Prop := st.s 0 = .p (.sl 1 (ints l)) ∧ st.s 1 = .p (.sl 1 (txs s)) ∧ st.s 2 = .p (.sl 1 (by8 ld))
set_option maxHeartbeats 2000000 in
theorem backL1 (hl : l.length ≤ 100) (hok : ∀ n ∈ l, okI n)
    (hend : ∀ st r, (r = 7 ∨ r = 49) → in3 l s ld st → st.s 7 = .row r → st.b r = some (.row 5 1 (by8 (catI l))) → (catI l).length ≤ 1000 → Q (.exit 0) st)
    (h0 : in3 l s ld st) (h7 : st.s 7 = .nil 1) (h41 : st.s 41 = .p (.sl 1 (ints l))) (h42 : st.s 42 = .p (I l.length)) (h43 : st.s 43 = .p (I 0)) :
    WC Tryd.prog Tryd.T 144 (lp Tryd.f6 0) Q st := by
  obtain ⟨g0, g1, g2⟩ := h0
  refine wLoopG [.row 7 5 1] (fun N st => ∃ k r p, k + N = l.length ∧ (r = 7 ∨ r = 49) ∧ p = catI (l.take k) ∧ p.length ≤ 10 * k ∧ st.s 0 = .p (.sl 1 (ints l)) ∧ st.s 1 = .p (.sl 1 (txs s)) ∧ st.s 2 = .p (.sl 1 (by8 ld)) ∧ st.s 7 = .row r ∧ st.s 41 = .p (.sl 1 (ints l)) ∧ st.s 42 = .p (I l.length) ∧ st.s 43 = .p (I k) ∧ st.b r = some (.row 5 1 (by8 p))) l.length ⟨0, 7, [], by simp [catI, g0, g1, g2, h7, h41, h42, h43, by8]⟩ fun K N st hL ⟨k, r, p, hk, hr, hp, hpl, g0, g1, g2, g7, g41, g42, g43, br⟩ => ?_
  by_cases hlt : k < l.length
  · have hlt' : (k : Int) < l.length := by omega
    have hw := wrapS k _ hlt (by omega)
    have he := ints_get hlt
    have hq1 : (ints l)[k]'(by simpa using hlt) = [I l[k]] := by simp [ints]
    have hon := hok l[k] (List.getElem_mem hlt)
    have c := putInt_con p l[k] hon (by omega)
    have hel := enc_len10 (zz_lt hon)
    have hsn := catI_snoc hlt
    rw [← hp] at hsn
    have hfl := flatL_by8 p
    generalize l[k] = n at he hq1 c hsn hel
    rcases hr with rfl | rfl
    all_goals
      repeat' first | (refine CallE.ownL c (flatL_by8 _) ?_) | (refine hK _ ?_; clear hK) | (refine hK _ _ ?_; clear hK) | (clear hK; refine hK _ ?_; clear hK) | (clear hK; clear hK; refine hK _ ?_; clear hK) | (clear hK; clear hK; clear hK; refine hK _ ?_; clear hK) | (clear hK; clear hK; clear hK; clear hK; refine hK _ ?_; clear hK) | (refine wSeq fun K hK => ?_) | ((first | refine wReg ?_ | refine wDrwQ rfl (by kernel_rfl) ?_ | refine wDrwI ?_ | refine wDrw (by kernel_rfl) ?_); simp only [List.map_cons, List.map_nil, strip]) | ((first | refine wIs fun K hK => ?_ | refine wOs fun K hK => ?_ | refine wQs fun K hK => ?_ | refine CallK_plain ?_ | refine CallQ_plain ?_ | refine CallR_plain ?_ | refine wCond ?_); simp [g0, g1, g2, g7, g41, g42, g43, br, hlt, hlt', hw, he, hq1]) | (refine wIn ?_; refine And.intro (by kernel_rfl) ?_; try simp only [thenA_n]) | (first | refine wBlock ?_ | refine wScope ?_) | ((first | refine wRet ?_ | refine wExit ?_ | refine wSkip ?_); try simp) | ((first | refine wLabel ?_ | refine wOn ?_ | refine wQn ?_); try simp only [thenA_n])
      refine hL _ (N - 1) (by omega) ⟨k + 1, 49, p ++ enc (zz n), by omega, .inr rfl, hsn.symm, by rw [List.length_append]; omega, ?_⟩
      simp [g0, g1, g2, g7, g41, g42, g43, br, hw]
  · have hlt' : ¬ (k : Int) < l.length := by omega
    rw [List.take_of_length_le (by omega)] at hp
    subst hp
    have hb : (catI l).length ≤ 1000 := by omega
    have hr' := hr
    rcases hr with rfl | rfl
    all_goals
      repeat' first | (refine hK _ ?_; clear hK) | (refine hK _ _ ?_; clear hK) | (clear hK; refine hK _ ?_; clear hK) | (clear hK; clear hK; refine hK _ ?_; clear hK) | (clear hK; clear hK; clear hK; refine hK _ ?_; clear hK) | (clear hK; clear hK; clear hK; clear hK; refine hK _ ?_; clear hK) | (refine wSeq fun K hK => ?_) | ((first | refine wReg ?_ | refine wDrwQ rfl (by kernel_rfl) ?_ | refine wDrwI ?_ | refine wDrw (by kernel_rfl) ?_); simp only [List.map_cons, List.map_nil, strip]) | ((first | refine wIs fun K hK => ?_ | refine wOs fun K hK => ?_ | refine wQs fun K hK => ?_ | refine CallK_plain ?_ | refine CallQ_plain ?_ | refine CallR_plain ?_ | refine wCond ?_); simp [g0, g1, g2, g7, g41, g42, g43, br, hlt, hlt']) | (refine wIn ?_; refine And.intro (by kernel_rfl) ?_; try simp only [thenA_n]) | (first | refine wBlock ?_ | refine wScope ?_) | ((first | refine wRet ?_ | refine wExit ?_ | refine wSkip ?_); try simp) | ((first | refine wLabel ?_ | refine wOn ?_ | refine wQn ?_); try simp only [thenA_n])
      refine hend _ _ hr' ⟨?_, ?_, ?_⟩ ?_ ?_ hb
      all_goals simp [g0, g1, g2, g7, br]
set_option maxHeartbeats 4000000 in
theorem backL2 (b0 : List UInt8) (hb0 : b0.length ≤ 1000) (hs : s.length ≤ 100) (r0 : Nat) (hr0 : r0 = 7 ∨ r0 = 49)
    (hret : ∀ st, st.s 6 = .p (B true) → Q .ret st)
    (hend : ∀ st r, (r = 7 ∨ r = 49 ∨ r = 63) → in3 l s ld st → st.s 7 = .row r → st.b r = some (.row 5 1 (by8 (b0 ++ catT s))) → (catT s).length ≤ 31000 → (∀ i (h : i < s.length), s[i].length ≤ 300) → Q (.exit 2) st)
    (h0 : in3 l s ld st) (h7 : st.s 7 = .row r0) (hb : st.b r0 = some (.row 5 1 (by8 b0))) (h51 : st.s 51 = .p (.sl 1 (txs s))) (h52 : st.s 52 = .p (I s.length)) (h53 : st.s 53 = .p (I 0)) :
    WC Tryd.prog Tryd.T 144 (lp Tryd.f6 1) Q st := by
  obtain ⟨g0, g1, g2⟩ := h0
  refine wLoop (fun N st => ∃ k r p, k + N = s.length ∧ (r = 7 ∨ r = 49 ∨ r = 63) ∧ p = catT (s.take k) ∧ p.length ≤ 310 * k ∧ (∀ i (h : i < s.length), i < k → s[i].length ≤ 300) ∧ st.s 0 = .p (.sl 1 (ints l)) ∧ st.s 1 = .p (.sl 1 (txs s)) ∧ st.s 2 = .p (.sl 1 (by8 ld)) ∧ st.s 7 = .row r ∧ st.s 51 = .p (.sl 1 (txs s)) ∧ st.s 52 = .p (I s.length) ∧ st.s 53 = .p (I k) ∧ st.b r = some (.row 5 1 (by8 (b0 ++ p)))) s.length ⟨0, r0, [], by rcases hr0 with rfl | rfl <;> simp [catT, g0, g1, g2, h7, h51, h52, h53, hb]⟩ fun K N st hL ⟨k, r, p, hk, hr, hp, hpl, hlen, g0, g1, g2, g7, g51, g52, g53, br⟩ => ?_
  by_cases hlt : k < s.length
  · have hlt' : (k : Int) < s.length := by omega
    have hw := wrapS k _ hlt (by omega)
    have he := txs_get hlt
    have hq1 : (txs s)[k]'(by simpa using hlt) = [SB s[k]] := by simp [txs]
    have hsn := catT_snoc hlt
    have hle := hlen
    by_cases hlg : 300 < s[k].length
    · have hlg' : (300 : Int) < s[k].length := by omega
      generalize s[k] = x at he hq1 hlg hlg'
      rcases hr with rfl | rfl | rfl
      all_goals
        repeat' first | (refine hK _ ?_; clear hK) | (refine hK _ _ ?_; clear hK) | (clear hK; refine hK _ ?_; clear hK) | (clear hK; clear hK; refine hK _ ?_; clear hK) | (clear hK; clear hK; clear hK; refine hK _ ?_; clear hK) | (clear hK; clear hK; clear hK; clear hK; refine hK _ ?_; clear hK) | (refine wSeq fun K hK => ?_) | ((first | refine wReg ?_ | refine wDrwQ rfl (by kernel_rfl) ?_ | refine wDrwI ?_ | refine wDrw (by kernel_rfl) ?_); simp only [List.map_cons, List.map_nil, strip]) | ((first | refine wIs fun K hK => ?_ | refine wOs fun K hK => ?_ | refine wQs fun K hK => ?_ | refine CallK_plain ?_ | refine CallQ_plain ?_ | refine CallR_plain ?_ | refine wCond ?_); simp [g0, g1, g2, g7, g51, g52, g53, br, hlt, hlt', hw, he, hq1, hlg, hlg']) | (refine wIn ?_; refine And.intro (by kernel_rfl) ?_; try simp only [thenA_n]) | (first | refine wBlock ?_ | refine wScope ?_) | ((first | refine wRet ?_ | refine wExit ?_ | refine wSkip ?_); try simp) | ((first | refine wLabel ?_ | refine wOn ?_ | refine wQn ?_); try simp only [thenA_n]) | (refine CallE.pure (awake01) rfl ?_) | (refine CallE.lent (awake01) rfl ?_) | (refine CallF.pure (awake01) rfl ?_) | (refine CallF.lent (awake01) rfl ?_) | (refine CallE.own (awake01) ?_) | (refine CallH.pure (awake01) rfl ?_) | (refine CallH.lent (awake01) rfl ?_) | (refine CallH.own (awake01) ?_)
        try simp only [thenA_r, blockA_r]
        apply hret
        simp
    have hlg' : ¬ (300 : Int) < s[k].length := by omega
    have c := putText_con (b0 ++ p) s[k] (by rw [List.length_append]; omega) (by omega)
    have hel := enc_len10 (zz_lt (zz_len s[k].length (by omega)))
    have hlen2 : ∀ i (h : i < s.length), i < k + 1 → s[i].length ≤ 300 := fun i h hi => by
      by_cases hik : i < k
      · exact hlen i h hik
      · have : i = k := by omega
        subst this; omega
    rw [← hp] at hsn
    have hla : (b0 ++ p).length ≤ 40000 := by rw [List.length_append]; omega
    have hass : b0 ++ p ++ encT s[k] = b0 ++ (p ++ encT s[k]) := List.append_assoc ..
    have hcl : (p ++ encT s[k]).length ≤ 310 * (k + 1) := by unfold encT; simp only [List.length_append]; omega
    change RCon _ _ (b0 ++ p ++ encT s[k]) at c
    rw [hass] at c
    generalize hpx : p ++ encT s[k] = p2 at c hsn hcl
    generalize s[k] = x at he hq1 c hlg hlg'
    generalize hpp : b0 ++ p = pp at c br
    rcases hr with rfl | rfl | rfl
    all_goals
      repeat' first | (refine CallE.ownL c (flatL_by8 _) ?_) | (refine hK _ ?_; clear hK) | (refine hK _ _ ?_; clear hK) | (clear hK; refine hK _ ?_; clear hK) | (clear hK; clear hK; refine hK _ ?_; clear hK) | (clear hK; clear hK; clear hK; refine hK _ ?_; clear hK) | (clear hK; clear hK; clear hK; clear hK; refine hK _ ?_; clear hK) | (refine wSeq fun K hK => ?_) | ((first | refine wReg ?_ | refine wDrwQ rfl (by kernel_rfl) ?_ | refine wDrwI ?_ | refine wDrw (by kernel_rfl) ?_); simp only [List.map_cons, List.map_nil, strip]) | ((first | refine wIs fun K hK => ?_ | refine wOs fun K hK => ?_ | refine wQs fun K hK => ?_ | refine CallK_plain ?_ | refine CallQ_plain ?_ | refine CallR_plain ?_ | refine wCond ?_); simp [g0, g1, g2, g7, g51, g52, g53, br, hlt, hlt', hw, he, hq1, hlg, hlg']) | (refine wIn ?_; refine And.intro (by kernel_rfl) ?_; try simp only [thenA_n]) | (first | refine wBlock ?_ | refine wScope ?_) | ((first | refine wRet ?_ | refine wExit ?_ | refine wSkip ?_); try simp) | ((first | refine wLabel ?_ | refine wOn ?_ | refine wQn ?_); try simp only [thenA_n])
      refine hL _ (N - 1) (by omega) ⟨k + 1, 63, p2, by omega, .inr (.inr rfl), hsn.symm, hcl, hlen2, ?_⟩
      simp [g0, g1, g2, g7, g51, g52, g53, br, hw]
  · have hlt' : ¬ (k : Int) < s.length := by omega
    rw [List.take_of_length_le (by omega)] at hp
    subst hp
    have hb : (catT s).length ≤ 31000 := by omega
    have hall : ∀ i (h : i < s.length), s[i].length ≤ 300 := fun i h => hlen i h (by omega)
    have hr' := hr
    rcases hr with rfl | rfl | rfl
    all_goals
      repeat' first | (refine hK _ ?_; clear hK) | (refine hK _ _ ?_; clear hK) | (clear hK; refine hK _ ?_; clear hK) | (clear hK; clear hK; refine hK _ ?_; clear hK) | (clear hK; clear hK; clear hK; refine hK _ ?_; clear hK) | (clear hK; clear hK; clear hK; clear hK; refine hK _ ?_; clear hK) | (refine wSeq fun K hK => ?_) | ((first | refine wReg ?_ | refine wDrwQ rfl (by kernel_rfl) ?_ | refine wDrwI ?_ | refine wDrw (by kernel_rfl) ?_); simp only [List.map_cons, List.map_nil, strip]) | ((first | refine wIs fun K hK => ?_ | refine wOs fun K hK => ?_ | refine wQs fun K hK => ?_ | refine CallK_plain ?_ | refine CallQ_plain ?_ | refine CallR_plain ?_ | refine wCond ?_); simp [g0, g1, g2, g7, g51, g52, g53, br, hlt, hlt']) | (refine wIn ?_; refine And.intro (by kernel_rfl) ?_; try simp only [thenA_n]) | (first | refine wBlock ?_ | refine wScope ?_) | ((first | refine wRet ?_ | refine wExit ?_ | refine wSkip ?_); try simp) | ((first | refine wLabel ?_ | refine wOn ?_ | refine wQn ?_); try simp only [thenA_n])
      refine hend _ _ hr' ⟨?_, ?_, ?_⟩ ?_ ?_ hb hall
      all_goals simp [g0, g1, g2, g7, br]
set_option maxHeartbeats 2000000 in
theorem backL3 (t : List UInt8) (ht : t.length ≤ 100000) (hl : l.length ≤ 100) (hci : (catI l).length ≤ 1000) (hok : ∀ n ∈ l, okI n) (r : Nat) (hr : r = 7 ∨ r = 49 ∨ r = 63)
    (hend : ∀ st, st.s 1 = .p (.sl 1 (txs s)) → st.s 2 = .p (.sl 1 (by8 ld)) → st.s 7 = .p (.sl 1 (by8 (catI l ++ t))) → st.s 14 = .p (I (catI l).length) → Q (.exit 4) st)
    (h0 : in3 l s ld st) (h7 : st.s 7 = .row r) (hb : st.b r = some (.row 5 1 (by8 (catI l ++ t)))) (h14 : st.s 14 = .p (I 0)) (h75 : st.s 75 = .p (.sl 1 (ints l))) (h76 : st.s 76 = .p (I l.length)) (h77 : st.s 77 = .p (I 0)) :
    WC Tryd.prog Tryd.T 144 (lp Tryd.f6 2) Q st := by
  obtain ⟨g0, g1, g2⟩ := h0
  refine wLoopG [.frz r] (fun N st => ∃ k a, k + N = l.length ∧ a = (catI (l.take k)).length ∧ st.s 1 = .p (.sl 1 (txs s)) ∧ st.s 2 = .p (.sl 1 (by8 ld)) ∧ st.s 7 = .p (.sl 1 (by8 (catI l ++ t))) ∧ st.s 14 = .p (I a) ∧ st.s 75 = .p (.sl 1 (ints l)) ∧ st.s 76 = .p (I l.length) ∧ st.s 77 = .p (I k)) l.length ⟨0, 0, by rcases hr with rfl | rfl | rfl <;> simp [catI, g0, g1, g2, h7, h14, h75, h76, h77, hb]⟩ fun K N st hL ⟨k, a, hk, ha, g1, g2, g7, g14, g75, g76, g77⟩ => ?_
  by_cases hlt : k < l.length
  · have hlt' : (k : Int) < l.length := by omega
    have hw := wrapS k _ hlt (by omega)
    have he := ints_get hlt
    have hq1 : (ints l)[k]'(by simpa using hlt) = [I l[k]] := by simp [ints]
    have hon := hok l[k] (List.getElem_mem hlt)
    have c := int_con (catI l ++ t) (catI (l.take k)).length (by rw [List.length_append]; omega)
    have hsp : catI l ++ t = catI (l.take k) ++ (enc (zz l[k]) ++ (catI (l.drop (k + 1)) ++ t)) := by
      conv => lhs; rw [catI_split hlt]
      simp only [List.append_assoc]
    have hib := intT_back (catI (l.take k)) (catI (l.drop (k + 1)) ++ t) l[k] hon
    rw [← hsp] at hib
    rw [hib, ← List.length_append, ← catI_snoc hlt, ← ha] at c
    generalize hBt : catI l ++ t = bt at c g7 hL
    generalize l[k] = n at he hq1 c
    repeat' first | (refine hK _ ?_; clear hK) | (refine hK _ _ ?_; clear hK) | (clear hK; refine hK _ ?_; clear hK) | (clear hK; clear hK; refine hK _ ?_; clear hK) | (clear hK; clear hK; clear hK; refine hK _ ?_; clear hK) | (clear hK; clear hK; clear hK; clear hK; refine hK _ ?_; clear hK) | (refine wSeq fun K hK => ?_) | ((first | refine wReg ?_ | refine wDrwQ rfl (by kernel_rfl) ?_ | refine wDrwI ?_ | refine wDrw (by kernel_rfl) ?_); simp only [List.map_cons, List.map_nil, strip]) | ((first | refine wIs fun K hK => ?_ | refine wOs fun K hK => ?_ | refine wQs fun K hK => ?_ | refine CallK_plain ?_ | refine CallQ_plain ?_ | refine CallR_plain ?_ | refine wCond ?_); simp [g1, g2, g7, g14, g75, g76, g77, hlt, hlt', hw, he, hq1]) | (refine wIn ?_; refine And.intro (by kernel_rfl) ?_; try simp only [thenA_n]) | (first | refine wBlock ?_ | refine wScope ?_) | ((first | refine wRet ?_ | refine wExit ?_ | refine wSkip ?_); try simp) | ((first | refine wLabel ?_ | refine wOn ?_ | refine wQn ?_); try simp only [thenA_n]) | (refine CallE.pure (c) rfl ?_) | (refine CallE.lent (c) rfl ?_) | (refine CallF.pure (c) rfl ?_) | (refine CallF.lent (c) rfl ?_) | (refine CallE.own (c) ?_) | (refine CallH.pure (c) rfl ?_) | (refine CallH.lent (c) rfl ?_) | (refine CallH.own (c) ?_)
    refine hL _ (N - 1) (by omega) ⟨k + 1, _, by omega, rfl, ?_⟩
    simp [g1, g2, g7, g14, g75, g76, g77, hw]
  · have hlt' : ¬ (k : Int) < l.length := by omega
    rw [List.take_of_length_le (by omega)] at ha
    subst ha
    repeat' first | (refine hK _ ?_; clear hK) | (refine hK _ _ ?_; clear hK) | (clear hK; refine hK _ ?_; clear hK) | (clear hK; clear hK; refine hK _ ?_; clear hK) | (clear hK; clear hK; clear hK; refine hK _ ?_; clear hK) | (clear hK; clear hK; clear hK; clear hK; refine hK _ ?_; clear hK) | (refine wSeq fun K hK => ?_) | ((first | refine wReg ?_ | refine wDrwQ rfl (by kernel_rfl) ?_ | refine wDrwI ?_ | refine wDrw (by kernel_rfl) ?_); simp only [List.map_cons, List.map_nil, strip]) | ((first | refine wIs fun K hK => ?_ | refine wOs fun K hK => ?_ | refine wQs fun K hK => ?_ | refine CallK_plain ?_ | refine CallQ_plain ?_ | refine CallR_plain ?_ | refine wCond ?_); simp [g1, g2, g7, g14, g75, g76, g77, hlt, hlt']) | (refine wIn ?_; refine And.intro (by kernel_rfl) ?_; try simp only [thenA_n]) | (first | refine wBlock ?_ | refine wScope ?_) | ((first | refine wRet ?_ | refine wExit ?_ | refine wSkip ?_); try simp) | ((first | refine wLabel ?_ | refine wOn ?_ | refine wQn ?_); try simp only [thenA_n])
    refine hend _ ?_ ?_ ?_ ?_
    all_goals simp [g1, g2, g7, g14]
set_option maxHeartbeats 2000000 in
theorem backL4 (p t : List UInt8) (ht : t.length ≤ 100000) (hp : p.length ≤ 1000) (hs : s.length ≤ 100) (hct : (catT s).length ≤ 31000) (hall : ∀ i (h : i < s.length), s[i].length ≤ 300)
    (hend : ∀ st, st.s 2 = .p (.sl 1 (by8 ld)) → st.s 7 = .p (.sl 1 (by8 (p ++ (catT s ++ t)))) → st.s 14 = .p (I (p ++ catT s).length) → Q (.exit 6) st)
    (g2 : st.s 2 = .p (.sl 1 (by8 ld))) (h7 : st.s 7 = .p (.sl 1 (by8 (p ++ (catT s ++ t))))) (h14 : st.s 14 = .p (I p.length)) (h97 : st.s 97 = .p (.sl 1 (txs s))) (h98 : st.s 98 = .p (I s.length)) (h99 : st.s 99 = .p (I 0)) :
    WC Tryd.prog Tryd.T 144 (lp Tryd.f6 3) Q st := by
  refine wLoop (fun N st => ∃ k a, k + N = s.length ∧ a = (p ++ catT (s.take k)).length ∧ st.s 2 = .p (.sl 1 (by8 ld)) ∧ st.s 7 = .p (.sl 1 (by8 (p ++ (catT s ++ t)))) ∧ st.s 14 = .p (I a) ∧ st.s 97 = .p (.sl 1 (txs s)) ∧ st.s 98 = .p (I s.length) ∧ st.s 99 = .p (I k)) s.length ⟨0, p.length, by simp [catT, g2, h7, h14, h97, h98, h99]⟩ fun K N st hL ⟨k, a, hk, ha, g2, g7, g14, g97, g98, g99⟩ => ?_
  by_cases hlt : k < s.length
  · have hlt' : (k : Int) < s.length := by omega
    have hw := wrapS k _ hlt (by omega)
    have he := txs_get hlt
    have hq1 : (txs s)[k]'(by simpa using hlt) = [SB s[k]] := by simp [txs]
    have hle := hall k hlt
    have c := text_all (p ++ (catT s ++ t)) (p ++ catT (s.take k)).length (by simp only [List.length_append]; omega)
    have hsp : p ++ (catT s ++ t) = (p ++ catT (s.take k)) ++ (enc (zz s[k].length) ++ (s[k] ++ (catT (s.drop (k + 1)) ++ t))) := by
      conv => lhs; rw [catT_split hlt]
      unfold encT
      simp only [List.append_assoc]
    have hib := textT_back (p ++ catT (s.take k)) s[k] (catT (s.drop (k + 1)) ++ t) (by omega)
    rw [← hsp] at hib
    have hn : (p ++ catT (s.take k)).length + (enc (zz s[k].length)).length + s[k].length = (p ++ catT (s.take (k + 1))).length := by
      rw [catT_snoc hlt]; unfold encT; simp only [List.length_append]; omega
    rw [hn] at hib
    rw [hib, ← ha] at c
    generalize hBt : p ++ (catT s ++ t) = bt at c g7 hL
    generalize s[k] = x at he hq1 c
    repeat' first | (refine hK _ ?_; clear hK) | (refine hK _ _ ?_; clear hK) | (clear hK; refine hK _ ?_; clear hK) | (clear hK; clear hK; refine hK _ ?_; clear hK) | (clear hK; clear hK; clear hK; refine hK _ ?_; clear hK) | (clear hK; clear hK; clear hK; clear hK; refine hK _ ?_; clear hK) | (refine wSeq fun K hK => ?_) | ((first | refine wReg ?_ | refine wDrwQ rfl (by kernel_rfl) ?_ | refine wDrwI ?_ | refine wDrw (by kernel_rfl) ?_); simp only [List.map_cons, List.map_nil, strip]) | ((first | refine wIs fun K hK => ?_ | refine wOs fun K hK => ?_ | refine wQs fun K hK => ?_ | refine CallK_plain ?_ | refine CallQ_plain ?_ | refine CallR_plain ?_ | refine wCond ?_); simp [g2, g7, g14, g97, g98, g99, hlt, hlt', hw, he, hq1]) | (refine wIn ?_; refine And.intro (by kernel_rfl) ?_; try simp only [thenA_n]) | (first | refine wBlock ?_ | refine wScope ?_) | ((first | refine wRet ?_ | refine wExit ?_ | refine wSkip ?_); try simp) | ((first | refine wLabel ?_ | refine wOn ?_ | refine wQn ?_); try simp only [thenA_n]) | (refine CallE.pure (c) rfl ?_) | (refine CallE.lent (c) rfl ?_) | (refine CallF.pure (c) rfl ?_) | (refine CallF.lent (c) rfl ?_) | (refine CallE.own (c) ?_) | (refine CallH.pure (c) rfl ?_) | (refine CallH.lent (c) rfl ?_) | (refine CallH.own (c) ?_)
    refine hL _ (N - 1) (by omega) ⟨k + 1, _, by omega, rfl, ?_⟩
    simp [g2, g7, g14, g97, g98, g99, hw]
  · have hlt' : ¬ (k : Int) < s.length := by omega
    rw [List.take_of_length_le (by omega)] at ha
    subst ha
    repeat' first | (refine hK _ ?_; clear hK) | (refine hK _ _ ?_; clear hK) | (clear hK; refine hK _ ?_; clear hK) | (clear hK; clear hK; refine hK _ ?_; clear hK) | (clear hK; clear hK; clear hK; refine hK _ ?_; clear hK) | (clear hK; clear hK; clear hK; clear hK; refine hK _ ?_; clear hK) | (refine wSeq fun K hK => ?_) | ((first | refine wReg ?_ | refine wDrwQ rfl (by kernel_rfl) ?_ | refine wDrwI ?_ | refine wDrw (by kernel_rfl) ?_); simp only [List.map_cons, List.map_nil, strip]) | ((first | refine wIs fun K hK => ?_ | refine wOs fun K hK => ?_ | refine wQs fun K hK => ?_ | refine CallK_plain ?_ | refine CallQ_plain ?_ | refine CallR_plain ?_ | refine wCond ?_); simp [g2, g7, g14, g97, g98, g99, hlt, hlt']) | (refine wIn ?_; refine And.intro (by kernel_rfl) ?_; try simp only [thenA_n]) | (first | refine wBlock ?_ | refine wScope ?_) | ((first | refine wRet ?_ | refine wExit ?_ | refine wSkip ?_); try simp) | ((first | refine wLabel ?_ | refine wOn ?_ | refine wQn ?_); try simp only [thenA_n])
    refine hend _ ?_ ?_ ?_
    all_goals simp [g2, g7, g14]
end
set_option maxHeartbeats 4000000 in
theorem codecBack_con (l : List Int) (s : List (List UInt8)) (ld : List UInt8) (hok : ∀ n ∈ l, okI n) : ACon Tryd.prog 6 [.p (.sl 1 (ints l)), .p (.sl 1 (txs s)), .p (.sl 1 (by8 ld))] (.p (B true)) := by
  by_cases h1 : 100 < l.length
  · have h1' : (100 : Int) < l.length := by omega
    refine wBody Tryd.tab Tryd.mixed Tryd.func6 rfl rfl Tryd.ntmps6 (by simp) (by simp) fun Q hr hn => ?_
    repeat' first | (refine hK _ ?_; clear hK) | (refine hK _ _ ?_; clear hK) | (clear hK; refine hK _ ?_; clear hK) | (clear hK; clear hK; refine hK _ ?_; clear hK) | (clear hK; clear hK; clear hK; refine hK _ ?_; clear hK) | (clear hK; clear hK; clear hK; clear hK; refine hK _ ?_; clear hK) | (refine wSeq fun K hK => ?_) | ((first | refine wReg ?_ | refine wDrwQ rfl (by kernel_rfl) ?_ | refine wDrwI ?_ | refine wDrw (by kernel_rfl) ?_); simp only [List.map_cons, List.map_nil, strip]) | ((first | refine wIs fun K hK => ?_ | refine wOs fun K hK => ?_ | refine wQs fun K hK => ?_ | refine CallK_plain ?_ | refine CallQ_plain ?_ | refine CallR_plain ?_ | refine wCond ?_); simp [h1, h1']) | (refine wIn ?_; refine And.intro (by kernel_rfl) ?_; try simp only [thenA_n]) | (first | refine wBlock ?_ | refine wScope ?_) | ((first | refine wRet ?_ | refine wExit ?_ | refine wSkip ?_); try simp) | ((first | refine wLabel ?_ | refine wOn ?_ | refine wQn ?_); try simp only [thenA_n]) | (refine CallE.pure (awake01) rfl ?_) | (refine CallE.lent (awake01) rfl ?_) | (refine CallF.pure (awake01) rfl ?_) | (refine CallF.lent (awake01) rfl ?_) | (refine CallE.own (awake01) ?_) | (refine CallH.pure (awake01) rfl ?_) | (refine CallH.lent (awake01) rfl ?_) | (refine CallH.own (awake01) ?_)
    all_goals apply hr
    all_goals simp [Tryd.f6]
  have h1' : ¬ (100 : Int) < l.length := by omega
  by_cases h2 : 100 < s.length
  · have h2' : (100 : Int) < s.length := by omega
    refine wBody Tryd.tab Tryd.mixed Tryd.func6 rfl rfl Tryd.ntmps6 (by simp) (by simp) fun Q hr hn => ?_
    repeat' first | (refine hK _ ?_; clear hK) | (refine hK _ _ ?_; clear hK) | (clear hK; refine hK _ ?_; clear hK) | (clear hK; clear hK; refine hK _ ?_; clear hK) | (clear hK; clear hK; clear hK; refine hK _ ?_; clear hK) | (clear hK; clear hK; clear hK; clear hK; refine hK _ ?_; clear hK) | (refine wSeq fun K hK => ?_) | ((first | refine wReg ?_ | refine wDrwQ rfl (by kernel_rfl) ?_ | refine wDrwI ?_ | refine wDrw (by kernel_rfl) ?_); simp only [List.map_cons, List.map_nil, strip]) | ((first | refine wIs fun K hK => ?_ | refine wOs fun K hK => ?_ | refine wQs fun K hK => ?_ | refine CallK_plain ?_ | refine CallQ_plain ?_ | refine CallR_plain ?_ | refine wCond ?_); simp [h1, h1', h2, h2']) | (refine wIn ?_; refine And.intro (by kernel_rfl) ?_; try simp only [thenA_n]) | (first | refine wBlock ?_ | refine wScope ?_) | ((first | refine wRet ?_ | refine wExit ?_ | refine wSkip ?_); try simp) | ((first | refine wLabel ?_ | refine wOn ?_ | refine wQn ?_); try simp only [thenA_n]) | (refine CallE.pure (awake01) rfl ?_) | (refine CallE.lent (awake01) rfl ?_) | (refine CallF.pure (awake01) rfl ?_) | (refine CallF.lent (awake01) rfl ?_) | (refine CallE.own (awake01) ?_) | (refine CallH.pure (awake01) rfl ?_) | (refine CallH.lent (awake01) rfl ?_) | (refine CallH.own (awake01) ?_)
    all_goals apply hr
    all_goals simp [Tryd.f6]
  have h2' : ¬ (100 : Int) < s.length := by omega
  by_cases h3 : 3000 < ld.length
  · have h3' : (3000 : Int) < ld.length := by omega
    refine wBody Tryd.tab Tryd.mixed Tryd.func6 rfl rfl Tryd.ntmps6 (by simp) (by simp) fun Q hr hn => ?_
    repeat' first | (refine hK _ ?_; clear hK) | (refine hK _ _ ?_; clear hK) | (clear hK; refine hK _ ?_; clear hK) | (clear hK; clear hK; refine hK _ ?_; clear hK) | (clear hK; clear hK; clear hK; refine hK _ ?_; clear hK) | (clear hK; clear hK; clear hK; clear hK; refine hK _ ?_; clear hK) | (refine wSeq fun K hK => ?_) | ((first | refine wReg ?_ | refine wDrwQ rfl (by kernel_rfl) ?_ | refine wDrwI ?_ | refine wDrw (by kernel_rfl) ?_); simp only [List.map_cons, List.map_nil, strip]) | ((first | refine wIs fun K hK => ?_ | refine wOs fun K hK => ?_ | refine wQs fun K hK => ?_ | refine CallK_plain ?_ | refine CallQ_plain ?_ | refine CallR_plain ?_ | refine wCond ?_); simp [h1, h1', h2, h2', h3, h3']) | (refine wIn ?_; refine And.intro (by kernel_rfl) ?_; try simp only [thenA_n]) | (first | refine wBlock ?_ | refine wScope ?_) | ((first | refine wRet ?_ | refine wExit ?_ | refine wSkip ?_); try simp) | ((first | refine wLabel ?_ | refine wOn ?_ | refine wQn ?_); try simp only [thenA_n]) | (refine CallE.pure (awake01) rfl ?_) | (refine CallE.lent (awake01) rfl ?_) | (refine CallF.pure (awake01) rfl ?_) | (refine CallF.lent (awake01) rfl ?_) | (refine CallE.own (awake01) ?_) | (refine CallH.pure (awake01) rfl ?_) | (refine CallH.lent (awake01) rfl ?_) | (refine CallH.own (awake01) ?_)
    all_goals apply hr
    all_goals simp [Tryd.f6]
  have h3' : ¬ (3000 : Int) < ld.length := by omega
  have cs := seal_con ld (by omega)
  unfold sealT at cs
  rw [if_neg (by omega)] at cs
  have hfl : (frm ld).length ≤ 4000 := by
    have := enc_len10 (zz_lt (zz_len ld.length (by omega)))
    rw [frm_len]; omega
  have hL1 := fun {Q : AExit → St → Prop} {st} => backL1 (Q := Q) (st := st) l s ld (by omega) hok
  have hL2 := fun {Q : AExit → St → Prop} {st} => backL2 (Q := Q) (st := st) l s ld (catI l)
  have hL3 := fun {Q : AExit → St → Prop} {st} => backL3 (Q := Q) (st := st) l s ld (catT s ++ frm ld)
  have hL4 := fun {Q : AExit → St → Prop} {st} => backL4 (Q := Q) (st := st) s ld (catI l) (frm ld) (by omega)
  have hob := openT_back (catI l ++ catT s) ld [] (by omega)
  rw [List.append_nil] at hob
  have co := fun h => open_con (catI l ++ catT s ++ frm ld) (catI l ++ catT s).length h
  rw [hob, ← List.length_append] at co
  generalize hfd : frm ld = fd at cs hfl hL3 hL4 co
  have hassoc : catI l ++ (catT s ++ fd) = catI l ++ catT s ++ fd := (List.append_assoc ..).symm
  rw [hassoc] at hL3 hL4
  have u := unL_by8 ld
  have v := strOf_by8 ld
  refine wBody Tryd.tab Tryd.mixed Tryd.func6 rfl rfl Tryd.ntmps6 (by simp) (by simp) fun Q hr hn => ?_
  repeat' first | (refine hL1 ?_ ⟨?_, ?_, ?_⟩ ?_ ?_ ?_ ?_) | (refine hK _ ?_; clear hK) | (refine hK _ _ ?_; clear hK) | (clear hK; refine hK _ ?_; clear hK) | (clear hK; clear hK; refine hK _ ?_; clear hK) | (clear hK; clear hK; clear hK; refine hK _ ?_; clear hK) | (clear hK; clear hK; clear hK; clear hK; refine hK _ ?_; clear hK) | (refine wSeq fun K hK => ?_) | ((first | refine wReg ?_ | refine wDrwQ rfl (by kernel_rfl) ?_ | refine wDrwI ?_ | refine wDrw (by kernel_rfl) ?_); simp only [List.map_cons, List.map_nil, strip]) | ((first | refine wIs fun K hK => ?_ | refine wOs fun K hK => ?_ | refine wQs fun K hK => ?_ | refine CallK_plain ?_ | refine CallQ_plain ?_ | refine CallR_plain ?_ | refine wCond ?_); simp [h1, h1', h2, h2', h3, h3']) | (refine wIn ?_; refine And.intro (by kernel_rfl) ?_; try simp only [thenA_n]) | (first | refine wBlock ?_ | refine wScope ?_) | ((first | refine wRet ?_ | refine wExit ?_ | refine wSkip ?_); try simp) | ((first | refine wLabel ?_ | refine wOn ?_ | refine wQn ?_); try simp only [thenA_n])
  · intro st r hr0 ⟨g0, g1, g2⟩ g7 br hbl
    simp only [blockA_e, if_true, thenA_n]
    repeat' first | (refine hL2 hbl (by omega) r hr0 ?_ ?_ ⟨?_, ?_, ?_⟩ ?_ ?_ ?_ ?_ ?_) | (refine hK _ ?_; clear hK) | (refine hK _ _ ?_; clear hK) | (clear hK; refine hK _ ?_; clear hK) | (clear hK; clear hK; refine hK _ ?_; clear hK) | (clear hK; clear hK; clear hK; refine hK _ ?_; clear hK) | (clear hK; clear hK; clear hK; clear hK; refine hK _ ?_; clear hK) | (refine wSeq fun K hK => ?_) | ((first | refine wReg ?_ | refine wDrwQ rfl (by kernel_rfl) ?_ | refine wDrwI ?_ | refine wDrw (by kernel_rfl) ?_); simp only [List.map_cons, List.map_nil, strip]) | ((first | refine wIs fun K hK => ?_ | refine wOs fun K hK => ?_ | refine wQs fun K hK => ?_ | refine CallK_plain ?_ | refine CallQ_plain ?_ | refine CallR_plain ?_ | refine wCond ?_); simp [g0, g1, g2, g7, br]) | (refine wIn ?_; refine And.intro (by kernel_rfl) ?_; try simp only [thenA_n]) | (first | refine wBlock ?_ | refine wScope ?_) | ((first | refine wRet ?_ | refine wExit ?_ | refine wSkip ?_); try simp) | ((first | refine wLabel ?_ | refine wOn ?_ | refine wQn ?_); try simp only [thenA_n])
    · intro st h6
      simp only [blockA_r, thenA_r]
      apply hr
      simp [Tryd.f6, h6]
    · intro st r hr0 ⟨g0, g1, g2⟩ g7 br hcl hall
      simp only [blockA_e, if_true, thenA_n]
      have hx : by8 (catI l ++ catT s) ++ by8 fd = by8 (catI l ++ catT s ++ fd) := by8_app _ _
      have hlb : (catI l ++ catT s).length ≤ 40000 := by rw [List.length_append]; omega
      repeat' first | (refine And.intro (by (try simp only [by8_len]); omega) ?_) | (refine hL3 (by rw [List.length_append]; omega) (by omega) hbl hok r hr0 ?_ ⟨?_, ?_, ?_⟩ ?_ ?_ ?_ ?_ ?_ ?_) | (refine hK _ ?_; clear hK) | (refine hK _ _ ?_; clear hK) | (clear hK; refine hK _ ?_; clear hK) | (clear hK; clear hK; refine hK _ ?_; clear hK) | (clear hK; clear hK; clear hK; refine hK _ ?_; clear hK) | (clear hK; clear hK; clear hK; clear hK; refine hK _ ?_; clear hK) | (refine wSeq fun K hK => ?_) | ((first | refine wReg ?_ | refine wDrwQ rfl (by kernel_rfl) ?_ | refine wDrwI ?_ | refine wDrw (by kernel_rfl) ?_); simp only [List.map_cons, List.map_nil, strip]) | ((first | refine wIs fun K hK => ?_ | refine wOs fun K hK => ?_ | refine wQs fun K hK => ?_ | refine CallK_plain ?_ | refine CallQ_plain ?_ | refine CallR_plain ?_ | refine wCond ?_); simp [g0, g1, g2, g7, br, hx]) | (refine wIn ?_; refine And.intro (by kernel_rfl) ?_; try simp only [thenA_n]) | (first | refine wBlock ?_ | refine wScope ?_) | ((first | refine wRet ?_ | refine wExit ?_ | refine wSkip ?_); try simp) | ((first | refine wLabel ?_ | refine wOn ?_ | refine wQn ?_); try simp only [thenA_n]) | (refine CallE.pure (cs) rfl ?_) | (refine CallE.lent (cs) rfl ?_) | (refine CallF.pure (cs) rfl ?_) | (refine CallF.lent (cs) rfl ?_) | (refine CallE.own (cs) ?_) | (refine CallH.pure (cs) rfl ?_) | (refine CallH.lent (cs) rfl ?_) | (refine CallH.own (cs) ?_)
      · intro st g1 g2 g7 g14
        simp only [blockA_e, if_true, thenA_n]
        repeat' first | (refine hL4 hbl (by omega) hcl hall ?_ ?_ ?_ ?_ ?_ ?_ ?_) | (refine hK _ ?_; clear hK) | (refine hK _ _ ?_; clear hK) | (clear hK; refine hK _ ?_; clear hK) | (clear hK; clear hK; refine hK _ ?_; clear hK) | (clear hK; clear hK; clear hK; refine hK _ ?_; clear hK) | (clear hK; clear hK; clear hK; clear hK; refine hK _ ?_; clear hK) | (refine wSeq fun K hK => ?_) | ((first | refine wReg ?_ | refine wDrwQ rfl (by kernel_rfl) ?_ | refine wDrwI ?_ | refine wDrw (by kernel_rfl) ?_); simp only [List.map_cons, List.map_nil, strip]) | ((first | refine wIs fun K hK => ?_ | refine wOs fun K hK => ?_ | refine wQs fun K hK => ?_ | refine CallK_plain ?_ | refine CallQ_plain ?_ | refine CallR_plain ?_ | refine wCond ?_); simp [g1, g2, g7, g14]) | (refine wIn ?_; refine And.intro (by kernel_rfl) ?_; try simp only [thenA_n]) | (first | refine wBlock ?_ | refine wScope ?_) | ((first | refine wRet ?_ | refine wExit ?_ | refine wSkip ?_); try simp) | ((first | refine wLabel ?_ | refine wOn ?_ | refine wQn ?_); try simp only [thenA_n])
        · intro st g2 g7 g14
          simp only [blockA_e, if_true, thenA_n]
          have c := co (by simp only [List.length_append] at hlb ⊢; omega)
          generalize (catI l ++ catT s).length = pl at g14 c
          generalize catI l ++ catT s ++ fd = B at g7 c
          repeat' first | (refine hK _ ?_; clear hK) | (refine hK _ _ ?_; clear hK) | (clear hK; refine hK _ ?_; clear hK) | (clear hK; clear hK; refine hK _ ?_; clear hK) | (clear hK; clear hK; clear hK; refine hK _ ?_; clear hK) | (clear hK; clear hK; clear hK; clear hK; refine hK _ ?_; clear hK) | (refine wSeq fun K hK => ?_) | ((first | refine wReg ?_ | refine wDrwQ rfl (by kernel_rfl) ?_ | refine wDrwI ?_ | refine wDrw (by kernel_rfl) ?_); simp only [List.map_cons, List.map_nil, strip]) | ((first | refine wIs fun K hK => ?_ | refine wOs fun K hK => ?_ | refine wQs fun K hK => ?_ | refine CallK_plain ?_ | refine CallQ_plain ?_ | refine CallR_plain ?_ | refine wCond ?_); simp [g2, g7, g14, u, v]) | (refine wIn ?_; refine And.intro (by kernel_rfl) ?_; try simp only [thenA_n]) | (first | refine wBlock ?_ | refine wScope ?_) | ((first | refine wRet ?_ | refine wExit ?_ | refine wSkip ?_); try simp) | ((first | refine wLabel ?_ | refine wOn ?_ | refine wQn ?_); try simp only [thenA_n]) | (refine CallE.pure (c) rfl ?_) | (refine CallE.lent (c) rfl ?_) | (refine CallF.pure (c) rfl ?_) | (refine CallF.lent (c) rfl ?_) | (refine CallE.own (c) ?_) | (refine CallH.pure (c) rfl ?_) | (refine CallH.lent (c) rfl ?_) | (refine CallH.own (c) ?_) | (refine CallE.pure (awake01) rfl ?_) | (refine CallE.lent (awake01) rfl ?_) | (refine CallF.pure (awake01) rfl ?_) | (refine CallF.lent (awake01) rfl ?_) | (refine CallE.own (awake01) ?_) | (refine CallH.pure (awake01) rfl ?_) | (refine CallH.lent (awake01) rfl ?_) | (refine CallH.own (awake01) ?_)
          all_goals apply hr
          all_goals simp [Tryd.f6]
        all_goals simp [g1, g2, g7, g14]
      all_goals simp [g0, g1, g2, g7, br, hx]
    all_goals simp [g0, g1, g2, g7, br]
  all_goals simp
end Go.Proofs.YtfilinonmngefaaDoor
