/- The law CodecTorn: of frames cut off anywhere just the whole ones are told. -/
import Derived.Test.YtfilinonmngefaaDoorCP
namespace Go.Proofs.YtfilinonmngefaaDoor
set_option linter.unusedSimpArgs false
set_option linter.unusedVariables false
open Go Go.Av
attribute [local simp] Tryd.T1 Tryd.T2 Tryd.T3 Tryd.T4 Tryd.T5 Tryd.T9 Tryd.T12 Tryd.T15 Tryd.T16 Tryd.T17 Tryd.T21 Tryd.T22 Tryd.T23 Tryd.T24 Tryd.T25 Tryd.T27 Tryd.T28 Tryd.T29 Tryd.T31 Tryd.T32 Tryd.T34 Tryd.T35 Tryd.T36 Tryd.T38 Tryd.T39 Tryd.T41 Tryd.T42 Tryd.T43 Tryd.T44 Tryd.T45 Tryd.T46 Tryd.T47 Tryd.T48 Tryd.T49 Tryd.T50 Tryd.T51 Tryd.T52 Tryd.T53 Tryd.T54 Tryd.T55 Tryd.T56 Tryd.T57 Tryd.T58 Tryd.T59 Tryd.T60 Tryd.T61 Tryd.T62 Tryd.T63 Tryd.T65 Tryd.T66 Tryd.T67 Tryd.T68 Tryd.T69 Tryd.T70 Tryd.T73 Tryd.T78 Tryd.T79
attribute [local irreducible] Go.Av.CallK Go.Av.CallE Go.Av.CallQ Go.Av.CallF Go.Av.CallR Go.Av.CallH Go.Av.Con
def fs (l : List (List UInt8)) : List UInt8 := l.flatMap frm
theorem fs_cons (x : List UInt8) (l : List (List UInt8)) : fs (x :: l) = frm x ++ fs l := rfl
theorem fs_snoc {l : List (List UInt8)} {k : Nat} (h : k < l.length) : fs (l.take (k + 1)) = fs (l.take k) ++ frm l[k] := by
  rw [List.take_succ_eq_append_getElem h]; simp only [fs, List.flatMap_append, List.flatMap_cons, List.flatMap_nil, List.append_nil]
theorem fs_split {l : List (List UInt8)} {k : Nat} (h : k < l.length) : fs l = fs (l.take k) ++ (frm l[k] ++ fs (l.drop (k + 1))) := by
  conv => lhs; rw [← List.take_append_drop k l, List.drop_eq_getElem_cons h]
  simp only [fs, List.flatMap_append, List.flatMap_cons]
theorem load_back (p l t : List UInt8) : ((p ++ (frm l ++ t)).drop (p.length + (enc (zz l.length)).length)).take l.length = l := by
  have hb : p ++ (frm l ++ t) = (p ++ enc (zz l.length)) ++ (l ++ (le4 (crc (enc (zz l.length) ++ l)) ++ t)) := by unfold frm; simp only [List.append_assoc]
  rw [hb, show p.length + (enc (zz l.length)).length = (p ++ enc (zz l.length)).length by rw [List.length_append], drop_app]; simp
theorem frs_whole (t : List UInt8) : ∀ (l : List (List UInt8)) (p : List UInt8) (f : Nat), (∀ x ∈ l, x.length ≤ 65536) → (fs l).length + t.length ≤ f →
    (t = [] ∨ ¬ (opR (p ++ fs l ++ t) (p ++ fs l).length).1 = 0) → frs (p ++ fs l ++ t) f p.length = (l, (p ++ fs l).length)
  | [], p, f, hl, hf, ht => by
    simp only [fs, List.flatMap_nil, List.append_nil] at ht ⊢
    rcases ht with rfl | ht
    · rw [List.append_nil, frs_end (Nat.le_refl _)]
    · cases f with
      | zero => rfl
      | succ f =>
        rw [frs]
        split
        · first | rfl | rw [if_neg ht]
        · rfl
  | x :: l, p, f, hl, hf, ht => by
    have hx := hl x (by simp)
    have hfl := frm_len x
    rw [fs_cons, List.length_append] at hf
    cases f with
    | zero => omega
    | succ f =>
      have hb : p ++ fs (x :: l) ++ t = p ++ (frm x ++ (fs l ++ t)) := by rw [fs_cons]; simp only [List.append_assoc]
      have hb2 : p ++ fs (x :: l) ++ t = (p ++ frm x) ++ fs l ++ t := by rw [fs_cons]; simp only [List.append_assoc]
      have hp2 : p ++ fs (x :: l) = (p ++ frm x) ++ fs l := by rw [fs_cons]; simp only [List.append_assoc]
      have ho := opR_back p x (fs l ++ t) hx
      have hlo := load_back p x (fs l ++ t)
      rw [← hb] at ho hlo
      rw [frs, if_pos (by rw [hb]; simp only [List.length_append]; omega), ho]
      simp only [if_true]
      rw [hlo, show p.length + (enc (zz x.length)).length + x.length + 4 = (p ++ frm x).length by rw [List.length_append, hfl]; omega]
      rw [hb2, hp2] at ht
      rw [hb2, frs_whole t l (p ++ frm x) f (fun y hy => hl y (by simp [hy])) (by omega) ht, hp2]
theorem frm_torn (p x u t : List UInt8) (hx : x.length ≤ 65536) (h : frm x = t ++ u) (hu : u ≠ []) : ¬ (opR (p ++ t) p.length).1 = 0 := by
  intro h0
  obtain ⟨g1, g2⟩ := took_frm (b := p ++ t) (a := p.length) (by rw [List.length_append]; omega) h0
  obtain ⟨-, -, g3, -⟩ := opR_ok h0
  generalize ((p ++ t).drop (opR (p ++ t) p.length).2.2).take (opR (p ++ t) p.length).2.1 = y at g1 g2
  generalize hz : (opR (p ++ t) p.length).2.2 + (opR (p ++ t) p.length).2.1 + 4 = z at g2
  rw [List.take_left] at g2
  have e1 : p ++ t = p ++ (frm y ++ (p ++ t).drop z) := by
    rw [← List.append_assoc, g2, List.take_append_drop]
  have e2 := List.append_cancel_left e1
  generalize (p ++ t).drop z = t' at e2
  rw [e2, List.append_assoc] at h
  have o1 := opR_back [] x [] hx
  have o2 := opR_back [] y (t' ++ u) (by omega)
  rw [List.append_nil, List.nil_append] at o1
  rw [List.nil_append, ← h, o1] at o2
  simp only [Prod.mk.injEq, true_and] at o2
  have hxy := o2.1
  have l1 := congrArg List.length h
  have l2 := frm_len x
  have l3 := frm_len y
  rw [← hxy] at l3
  have hul : 0 < u.length := List.length_pos_iff.2 hu
  simp only [List.length_append] at l1
  omega
/-- Frames cut off: the whole ones, and where they end. -/
theorem frs_torn (l : List (List UInt8)) (hl : ∀ x ∈ l, x.length ≤ 65536) (cut n : Nat) (hn : n ≤ l.length) (h1 : (fs (l.take n)).length ≤ cut) (h2 : n = l.length ∨ cut < (fs (l.take (n + 1))).length) (hc : cut ≤ (fs l).length) :
    frs ((fs l).take cut) ((fs l).take cut).length 0 = (l.take n, (fs (l.take n)).length) := by
  have hlt : ∀ x ∈ l.take n, x.length ≤ 65536 := fun x hx => hl x (List.mem_of_mem_take hx)
  have key : ∃ t, (fs l).take cut = fs (l.take n) ++ t ∧ (t = [] ∨ ¬ (opR (fs (l.take n) ++ t) (fs (l.take n)).length).1 = 0) := by
    by_cases hnl : n = l.length
    · subst hnl
      rw [List.take_length] at h1 ⊢
      exact ⟨[], by rw [List.append_nil, List.take_of_length_le (by omega)], .inl rfl⟩
    · have hlt' : n < l.length := by omega
      have h2 := h2.resolve_left hnl
      rw [fs_snoc hlt', List.length_append] at h2
      have hx := hl l[n] (List.getElem_mem hlt')
      refine ⟨(frm l[n]).take (cut - (fs (l.take n)).length), ?_, .inr ?_⟩
      · conv => lhs; rw [fs_split hlt']
        rw [List.take_append, List.take_of_length_le h1, List.take_append_of_le_length (by omega)]
      · refine frm_torn _ l[n] ((frm l[n]).drop (cut - (fs (l.take n)).length)) _ hx (List.take_append_drop ..).symm ?_
        intro h
        have := congrArg List.length h
        rw [List.length_drop, List.length_nil] at this
        omega
  obtain ⟨t, e, ht⟩ := key
  have := frs_whole t (l.take n) [] ((fs l).take cut).length hlt (by rw [e, List.length_append]; omega) (by simpa using ht)
  rw [List.nil_append, ← e] at this
  exact this
def eds (l : List (List UInt8)) (k : Nat) : List (List PV) := (List.range (k + 1)).map fun j => [I ((fs (l.take j)).length : Nat)]
@[simp] theorem eds_len (l : List (List UInt8)) (k : Nat) : (eds l k).length = k + 1 := by simp [eds]
theorem eds_snoc (l : List (List UInt8)) (k : Nat) : eds l (k + 1) = eds l k ++ [[I ((fs (l.take (k + 1))).length : Nat)]] := by
  unfold eds; rw [List.range_succ]; simp
theorem eds_get {l : List (List UInt8)} {k j : Nat} (h : j < k + 1) : (eds l k)[j]? = some [I ((fs (l.take j)).length : Nat)] := by
  simp [eds, h]
section
variable {Q : AExit → St → Prop} {st : St} (l : List (List UInt8)) (cut : Int)
set_option maxHeartbeats 4000000 in
theorem tornL1 (hl : l.length ≤ 40)
    (hret : ∀ st, st.s 4 = .p (B true) → Q .ret st)
    (hend : ∀ st r, (r = true ∧ st.s 6 = .full 1 (eds l l.length) ∨ r = false ∧ st.s 6 = .row 43 ∧ st.b 43 = some (.row 3 1 (eds l l.length))) → st.s 0 = .p (.sl 1 (lds l)) → st.s 1 = .p (I cut) → st.s 5 = .row 5 → st.b 5 = some (.row 5 1 (by8 (fs l))) → (fs l).length ≤ 13000 → (∀ x ∈ l, x.length ≤ 300) → Q (.exit 0) st)
    (g0 : st.s 0 = .p (.sl 1 (lds l))) (g1 : st.s 1 = .p (I cut)) (h5 : st.s 5 = .nil 1) (h6 : st.s 6 = .full 1 [[I 0]]) (h19 : st.s 19 = .p (.sl 1 (lds l))) (h20 : st.s 20 = .p (I l.length)) (h21 : st.s 21 = .p (I 0)) :
    WC Tryd.prog Tryd.T 93 (lp Tryd.f8 0) Q st := by
  refine wLoopG [.row 5 5 1] (fun N st => ∃ k p es, k + N = l.length ∧ p = fs (l.take k) ∧ p.length ≤ 320 * k ∧ es = eds l k ∧ (∀ i (h : i < l.length), i < k → l[i].length ≤ 300) ∧ (st.s 6 = .full 1 es ∨ st.s 6 = .row 43 ∧ st.b 43 = some (.row 3 1 es)) ∧ st.s 0 = .p (.sl 1 (lds l)) ∧ st.s 1 = .p (I cut) ∧ st.s 5 = .row 5 ∧ st.s 19 = .p (.sl 1 (lds l)) ∧ st.s 20 = .p (I l.length) ∧ st.s 21 = .p (I k) ∧ st.b 5 = some (.row 5 1 (by8 p))) l.length ⟨0, [], [[I 0]], by simp [fs, eds, g0, g1, h5, h6, h19, h20, h21, by8]⟩ fun K N st hL ⟨k, p, es, hk, hp, hpl, hes, hlen, h6, g0, g1, g5, g19, g20, g21, b5⟩ => ?_
  have hesl : es.length = k + 1 := by rw [hes, eds_len]
  by_cases hlt : k < l.length
  · have hlt' : (k : Int) < l.length := by omega
    have hw := wrapS k _ hlt (by omega)
    have he := lds_get hlt
    have hq1 : (lds l)[k]'(by simpa using hlt) = [.sl 1 (by8 l[k])] := by simp [lds]
    have hsn := fs_snoc hlt
    have hsn2 := eds_snoc l k
    rw [← hp] at hsn
    rw [hsn, ← hes] at hsn2
    by_cases hlg : 300 < l[k].length
    · have hlg' : (300 : Int) < l[k].length := by omega
      generalize l[k] = x at he hq1 hlg hlg'
      repeat' first | (refine hK _ ?_; clear hK) | (refine hK _ _ ?_; clear hK) | (clear hK; refine hK _ ?_; clear hK) | (clear hK; clear hK; refine hK _ ?_; clear hK) | (clear hK; clear hK; clear hK; refine hK _ ?_; clear hK) | (clear hK; clear hK; clear hK; clear hK; refine hK _ ?_; clear hK) | (refine wSeq fun K hK => ?_) | ((first | refine wReg ?_ | refine wDrwQ rfl (by kernel_rfl) ?_ | refine wDrwI ?_ | refine wDrw (by kernel_rfl) ?_); simp only [List.map_cons, List.map_nil, strip]) | ((first | refine wIs fun K hK => ?_ | refine wOs fun K hK => ?_ | refine wQs fun K hK => ?_ | refine CallK_plain ?_ | refine CallQ_plain ?_ | refine CallR_plain ?_ | refine wCond ?_); simp [g0, g1, g5, g19, g20, g21, b5, hlt, hlt', hw, he, hq1, hlg, hlg']) | (refine wIn ?_; refine And.intro (by kernel_rfl) ?_; try simp only [thenA_n]) | (first | refine wBlock ?_ | refine wScope ?_) | ((first | refine wRet ?_ | refine wExit ?_ | refine wSkip ?_); try simp) | ((first | refine wLabel ?_ | refine wOn ?_ | refine wQn ?_); try simp only [thenA_n]) | (refine CallE.pure (awake01) rfl ?_) | (refine CallE.lent (awake01) rfl ?_) | (refine CallF.pure (awake01) rfl ?_) | (refine CallF.lent (awake01) rfl ?_) | (refine CallE.own (awake01) ?_) | (refine CallH.pure (awake01) rfl ?_) | (refine CallH.lent (awake01) rfl ?_) | (refine CallH.own (awake01) ?_)
      try simp only [thenA_r, blockA_r]
      apply hret
      simp
    have hlg' : ¬ (300 : Int) < l[k].length := by omega
    have c := seal_con l[k] (by omega)
    unfold sealT at c
    rw [if_neg (by omega)] at c
    have hfl : (frm l[k]).length ≤ 320 := by
      have := enc_len10 (zz_lt (zz_len l[k].length (by omega)))
      rw [frm_len]; omega
    have hlen2 : ∀ i (h : i < l.length), i < k + 1 → l[i].length ≤ 300 := fun i h hi => by
      by_cases hik : i < k
      · exact hlen i h hik
      · have : i = k := by omega
        subst this; omega
    generalize frm l[k] = fx at c hfl hsn hsn2
    have hx := by8_app p fx
    have hpl2 : (p ++ fx).length ≤ 320 * (k + 1) := by rw [List.length_append]; omega
    have hil : ((p.length : Int) + (fx.length : Int)) = ((p ++ fx).length : Int) := by rw [List.length_append]; omega
    have hbl : (by8 (p ++ fx)).length = (p ++ fx).length := by8_len _
    generalize hpf : p ++ fx = p2 at hx hsn hsn2 hpl2 hil hbl
    generalize l[k] = x at he hq1 c hlg hlg'
    rcases h6 with h6 | ⟨h6, b43⟩
    · repeat' first | (refine Or.inl ?_) | (refine And.intro (by (try simp only [by8_len]); omega) ?_) | (refine hK _ ?_; clear hK) | (refine hK _ _ ?_; clear hK) | (clear hK; refine hK _ ?_; clear hK) | (clear hK; clear hK; refine hK _ ?_; clear hK) | (clear hK; clear hK; clear hK; refine hK _ ?_; clear hK) | (clear hK; clear hK; clear hK; clear hK; refine hK _ ?_; clear hK) | (refine wSeq fun K hK => ?_) | ((first | refine wReg ?_ | refine wDrwQ rfl (by kernel_rfl) ?_ | refine wDrwI ?_ | refine wDrw (by kernel_rfl) ?_); simp only [List.map_cons, List.map_nil, strip]) | ((first | refine wIs fun K hK => ?_ | refine wOs fun K hK => ?_ | refine wQs fun K hK => ?_ | refine CallK_plain ?_ | refine CallQ_plain ?_ | refine CallR_plain ?_ | refine wCond ?_); simp [g0, g1, g5, g19, g20, g21, b5, h6, hlt, hlt', hw, he, hq1, hlg, hlg', hx, hbl]) | (refine wIn ?_; refine And.intro (by kernel_rfl) ?_; try simp only [thenA_n]) | (first | refine wBlock ?_ | refine wScope ?_) | ((first | refine wRet ?_ | refine wExit ?_ | refine wSkip ?_); try simp) | ((first | refine wLabel ?_ | refine wOn ?_ | refine wQn ?_); try simp only [thenA_n]) | (refine CallE.pure (c) rfl ?_) | (refine CallE.lent (c) rfl ?_) | (refine CallF.pure (c) rfl ?_) | (refine CallF.lent (c) rfl ?_) | (refine CallE.own (c) ?_) | (refine CallH.pure (c) rfl ?_) | (refine CallH.lent (c) rfl ?_) | (refine CallH.own (c) ?_)
      refine hL _ (N - 1) (by omega) ⟨k + 1, p2, es ++ [[I p2.length]], by omega, hsn.symm, hpl2, hsn2.symm, hlen2, .inr ?_, ?_⟩
      all_goals simp [g0, g1, g5, g19, g20, g21, b5, h6, hw, hx, hbl]
    · repeat' first | (refine Or.inl ?_) | (refine And.intro (by (try simp only [by8_len]); omega) ?_) | (refine hK _ ?_; clear hK) | (refine hK _ _ ?_; clear hK) | (clear hK; refine hK _ ?_; clear hK) | (clear hK; clear hK; refine hK _ ?_; clear hK) | (clear hK; clear hK; clear hK; refine hK _ ?_; clear hK) | (clear hK; clear hK; clear hK; clear hK; refine hK _ ?_; clear hK) | (refine wSeq fun K hK => ?_) | ((first | refine wReg ?_ | refine wDrwQ rfl (by kernel_rfl) ?_ | refine wDrwI ?_ | refine wDrw (by kernel_rfl) ?_); simp only [List.map_cons, List.map_nil, strip]) | ((first | refine wIs fun K hK => ?_ | refine wOs fun K hK => ?_ | refine wQs fun K hK => ?_ | refine CallK_plain ?_ | refine CallQ_plain ?_ | refine CallR_plain ?_ | refine wCond ?_); simp [g0, g1, g5, g19, g20, g21, b5, b43, h6, hlt, hlt', hw, he, hq1, hlg, hlg', hx, hbl]) | (refine wIn ?_; refine And.intro (by kernel_rfl) ?_; try simp only [thenA_n]) | (first | refine wBlock ?_ | refine wScope ?_) | ((first | refine wRet ?_ | refine wExit ?_ | refine wSkip ?_); try simp) | ((first | refine wLabel ?_ | refine wOn ?_ | refine wQn ?_); try simp only [thenA_n]) | (refine CallE.pure (c) rfl ?_) | (refine CallE.lent (c) rfl ?_) | (refine CallF.pure (c) rfl ?_) | (refine CallF.lent (c) rfl ?_) | (refine CallE.own (c) ?_) | (refine CallH.pure (c) rfl ?_) | (refine CallH.lent (c) rfl ?_) | (refine CallH.own (c) ?_)
      refine hL _ (N - 1) (by omega) ⟨k + 1, p2, es ++ [[I p2.length]], by omega, hsn.symm, hpl2, hsn2.symm, hlen2, .inr ?_, ?_⟩
      all_goals simp [g0, g1, g5, g19, g20, g21, b5, b43, h6, hw, hx, hbl]
  · have hlt' : ¬ (k : Int) < l.length := by omega
    have hkl : k = l.length := by omega
    subst hkl
    rw [List.take_length] at hp
    subst hp
    subst hes
    have hb : (fs l).length ≤ 13000 := by omega
    have hall : ∀ x ∈ l, x.length ≤ 300 := fun x hx => by
      obtain ⟨i, hi, rfl⟩ := List.getElem_of_mem hx
      exact hlen i hi hi
    rcases h6 with h6 | ⟨h6, b43⟩
    · repeat' first | (refine hK _ ?_; clear hK) | (refine hK _ _ ?_; clear hK) | (clear hK; refine hK _ ?_; clear hK) | (clear hK; clear hK; refine hK _ ?_; clear hK) | (clear hK; clear hK; clear hK; refine hK _ ?_; clear hK) | (clear hK; clear hK; clear hK; clear hK; refine hK _ ?_; clear hK) | (refine wSeq fun K hK => ?_) | ((first | refine wReg ?_ | refine wDrwQ rfl (by kernel_rfl) ?_ | refine wDrwI ?_ | refine wDrw (by kernel_rfl) ?_); simp only [List.map_cons, List.map_nil, strip]) | ((first | refine wIs fun K hK => ?_ | refine wOs fun K hK => ?_ | refine wQs fun K hK => ?_ | refine CallK_plain ?_ | refine CallQ_plain ?_ | refine CallR_plain ?_ | refine wCond ?_); simp [g0, g1, g5, g19, g20, g21, b5, h6, hlt']) | (refine wIn ?_; refine And.intro (by kernel_rfl) ?_; try simp only [thenA_n]) | (first | refine wBlock ?_ | refine wScope ?_) | ((first | refine wRet ?_ | refine wExit ?_ | refine wSkip ?_); try simp) | ((first | refine wLabel ?_ | refine wOn ?_ | refine wQn ?_); try simp only [thenA_n])
      refine hend _ true (.inl ⟨rfl, ?_⟩) ?_ ?_ ?_ ?_ hb hall
      all_goals simp [g0, g1, g5, b5, h6]
    · repeat' first | (refine hK _ ?_; clear hK) | (refine hK _ _ ?_; clear hK) | (clear hK; refine hK _ ?_; clear hK) | (clear hK; clear hK; refine hK _ ?_; clear hK) | (clear hK; clear hK; clear hK; refine hK _ ?_; clear hK) | (clear hK; clear hK; clear hK; clear hK; refine hK _ ?_; clear hK) | (refine wSeq fun K hK => ?_) | ((first | refine wReg ?_ | refine wDrwQ rfl (by kernel_rfl) ?_ | refine wDrwI ?_ | refine wDrw (by kernel_rfl) ?_); simp only [List.map_cons, List.map_nil, strip]) | ((first | refine wIs fun K hK => ?_ | refine wOs fun K hK => ?_ | refine wQs fun K hK => ?_ | refine CallK_plain ?_ | refine CallQ_plain ?_ | refine CallR_plain ?_ | refine wCond ?_); simp [g0, g1, g5, g19, g20, g21, b5, b43, h6, hlt']) | (refine wIn ?_; refine And.intro (by kernel_rfl) ?_; try simp only [thenA_n]) | (first | refine wBlock ?_ | refine wScope ?_) | ((first | refine wRet ?_ | refine wExit ?_ | refine wSkip ?_); try simp) | ((first | refine wLabel ?_ | refine wOn ?_ | refine wQn ?_); try simp only [thenA_n])
      refine hend _ false (.inr ⟨rfl, ?_, ?_⟩) ?_ ?_ ?_ ?_ hb hall
      all_goals simp [g0, g1, g5, b5, b43, h6]
set_option maxHeartbeats 4000000 in
theorem tornL2 (c : Nat) (hc : c ≤ 13000) (hl : l.length ≤ 40) (gs : List Gh) (E : V) (hE : E = .full 1 (eds l l.length) ∨ E = .p (.sl 1 (eds l l.length)))
    (hend : ∀ st n, n ≤ l.length → (fs (l.take n)).length ≤ c → (n = l.length ∨ c < (fs (l.take (n + 1))).length) → st.s 0 = .p (.sl 1 (lds l)) → st.s 1 = .p (I c) → st.s 5 = .p (.sl 1 (by8 (fs l))) → st.s 6 = E → st.s 11 = .p (I n) → Q (.exit 2) st)
    (h0 : (frzL st gs).s 0 = .p (.sl 1 (lds l)) ∧ (frzL st gs).s 1 = .p (I c) ∧ (frzL st gs).s 5 = .p (.sl 1 (by8 (fs l))) ∧ (frzL st gs).s 6 = E ∧ (frzL st gs).s 11 = .p (I 0)) :
    WC Tryd.prog Tryd.T 93 (lp Tryd.f8 1) Q st := by
  obtain ⟨a0, a1, a5, a6, a11⟩ := h0
  refine wLoopG gs (fun N st => ∃ n, n + N = l.length ∧ (fs (l.take n)).length ≤ c ∧ st.s 0 = .p (.sl 1 (lds l)) ∧ st.s 1 = .p (I c) ∧ st.s 5 = .p (.sl 1 (by8 (fs l))) ∧ st.s 6 = E ∧ st.s 11 = .p (I n)) l.length ⟨0, by simp [fs, a0, a1, a5, a6, a11]⟩ fun K N st hL ⟨n, hn, hle, g0, g1, g5, g6, g11⟩ => ?_
  have hw := wrapS n 41 (by omega) (by omega)
  have hlen := eds_len l l.length
  by_cases hnl : n = l.length
  · have hx : ¬ ((n + 1 : Nat) : Int) < ((l.length + 1 : Nat) : Int) := by omega
    have hx2 : ¬ n < l.length := by omega
    have hx3 : ¬ (n : Int) < (l.length : Int) := by omega
    rcases hE with rfl | rfl
    all_goals
      repeat' first | (refine hK _ ?_; clear hK) | (refine hK _ _ ?_; clear hK) | (clear hK; refine hK _ ?_; clear hK) | (clear hK; clear hK; refine hK _ ?_; clear hK) | (clear hK; clear hK; clear hK; refine hK _ ?_; clear hK) | (clear hK; clear hK; clear hK; clear hK; refine hK _ ?_; clear hK) | (refine wSeq fun K hK => ?_) | ((first | refine wReg ?_ | refine wDrwQ rfl (by kernel_rfl) ?_ | refine wDrwI ?_ | refine wDrw (by kernel_rfl) ?_); simp only [List.map_cons, List.map_nil, strip]) | ((first | refine wIs fun K hK => ?_ | refine wOs fun K hK => ?_ | refine wQs fun K hK => ?_ | refine CallK_plain ?_ | refine CallQ_plain ?_ | refine CallR_plain ?_ | refine wCond ?_); simp [g0, g1, g5, g6, g11, hw, hlen, hx, hx2, hx3]) | (refine wIn ?_; refine And.intro (by kernel_rfl) ?_; try simp only [thenA_n]) | (first | refine wBlock ?_ | refine wScope ?_) | ((first | refine wRet ?_ | refine wExit ?_ | refine wSkip ?_); try simp) | ((first | refine wLabel ?_ | refine wOn ?_ | refine wQn ?_); try simp only [thenA_n])
      refine hend _ n (by omega) hle (.inl hnl) ?_ ?_ ?_ ?_ ?_
      all_goals simp [g0, g1, g5, g6, g11]
  have hx : ((n + 1 : Nat) : Int) < ((l.length + 1 : Nat) : Int) := by omega
  have hx2 : n < l.length := by omega
  have hx3 : (n : Int) < (l.length : Int) := by omega
  have he := eds_get (l := l) (k := l.length) (j := n + 1) (by omega)
  have hb1 : n + 1 < l.length + 1 := by omega
  have hq1 : (eds l l.length)[n + 1]'(by rw [eds_len]; omega) = [I ((fs (l.take (n + 1))).length : Nat)] := by
    rw [List.getElem?_eq_getElem (by rw [eds_len]; omega)] at he; exact Option.some.inj he
  generalize hz : (fs (l.take (n + 1))).length = z at he hq1
  by_cases hzc : z ≤ c
  · have hzc' : (z : Int) ≤ c := by omega
    rcases hE with rfl | rfl
    all_goals
      repeat' first | (refine hK _ ?_; clear hK) | (refine hK _ _ ?_; clear hK) | (clear hK; refine hK _ ?_; clear hK) | (clear hK; clear hK; refine hK _ ?_; clear hK) | (clear hK; clear hK; clear hK; refine hK _ ?_; clear hK) | (clear hK; clear hK; clear hK; clear hK; refine hK _ ?_; clear hK) | (refine wSeq fun K hK => ?_) | ((first | refine wReg ?_ | refine wDrwQ rfl (by kernel_rfl) ?_ | refine wDrwI ?_ | refine wDrw (by kernel_rfl) ?_); simp only [List.map_cons, List.map_nil, strip]) | ((first | refine wIs fun K hK => ?_ | refine wOs fun K hK => ?_ | refine wQs fun K hK => ?_ | refine CallK_plain ?_ | refine CallQ_plain ?_ | refine CallR_plain ?_ | refine wCond ?_); simp [g0, g1, g5, g6, g11, hw, hlen, hx, hx2, hx3, he, hb1, hq1, hzc, hzc']) | (refine wIn ?_; refine And.intro (by kernel_rfl) ?_; try simp only [thenA_n]) | (first | refine wBlock ?_ | refine wScope ?_) | ((first | refine wRet ?_ | refine wExit ?_ | refine wSkip ?_); try simp) | ((first | refine wLabel ?_ | refine wOn ?_ | refine wQn ?_); try simp only [thenA_n])
      refine hL _ (N - 1) (by omega) ⟨n + 1, by omega, by omega, ?_⟩
      simp [g0, g1, g5, g6, g11, hw]
  · have hzc' : ¬ (z : Int) ≤ c := by omega
    rcases hE with rfl | rfl
    all_goals
      repeat' first | (refine hK _ ?_; clear hK) | (refine hK _ _ ?_; clear hK) | (clear hK; refine hK _ ?_; clear hK) | (clear hK; clear hK; refine hK _ ?_; clear hK) | (clear hK; clear hK; clear hK; refine hK _ ?_; clear hK) | (clear hK; clear hK; clear hK; clear hK; refine hK _ ?_; clear hK) | (refine wSeq fun K hK => ?_) | ((first | refine wReg ?_ | refine wDrwQ rfl (by kernel_rfl) ?_ | refine wDrwI ?_ | refine wDrw (by kernel_rfl) ?_); simp only [List.map_cons, List.map_nil, strip]) | ((first | refine wIs fun K hK => ?_ | refine wOs fun K hK => ?_ | refine wQs fun K hK => ?_ | refine CallK_plain ?_ | refine CallQ_plain ?_ | refine CallR_plain ?_ | refine wCond ?_); simp [g0, g1, g5, g6, g11, hw, hlen, hx, hx2, hx3, he, hb1, hq1, hzc, hzc']) | (refine wIn ?_; refine And.intro (by kernel_rfl) ?_; try simp only [thenA_n]) | (first | refine wBlock ?_ | refine wScope ?_) | ((first | refine wRet ?_ | refine wExit ?_ | refine wSkip ?_); try simp) | ((first | refine wLabel ?_ | refine wOn ?_ | refine wQn ?_); try simp only [thenA_n])
      refine hend _ n (by omega) hle (.inr (by omega)) ?_ ?_ ?_ ?_ ?_
      all_goals simp [g0, g1, g5, g6, g11]
end
theorem lds_take (l : List (List UInt8)) (n : Nat) : (lds l).take n = lds (l.take n) := by simp [lds, List.map_take]
set_option maxHeartbeats 4000000 in
theorem codecTorn_con (l : List (List UInt8)) (cut : Int) : ACon Tryd.prog 8 [.p (.sl 1 (lds l)), .p (I cut)] (.p (B true)) := by
  by_cases h1 : 40 < l.length
  · have h1' : (40 : Int) < l.length := by omega
    refine wBody Tryd.tab Tryd.mixed Tryd.func8 rfl rfl Tryd.ntmps8 (by simp) (by simp) fun Q hr hn => ?_
    repeat' first | (refine hK _ ?_; clear hK) | (refine hK _ _ ?_; clear hK) | (clear hK; refine hK _ ?_; clear hK) | (clear hK; clear hK; refine hK _ ?_; clear hK) | (clear hK; clear hK; clear hK; refine hK _ ?_; clear hK) | (clear hK; clear hK; clear hK; clear hK; refine hK _ ?_; clear hK) | (refine wSeq fun K hK => ?_) | ((first | refine wReg ?_ | refine wDrwQ rfl (by kernel_rfl) ?_ | refine wDrwI ?_ | refine wDrw (by kernel_rfl) ?_); simp only [List.map_cons, List.map_nil, strip]) | ((first | refine wIs fun K hK => ?_ | refine wOs fun K hK => ?_ | refine wQs fun K hK => ?_ | refine CallK_plain ?_ | refine CallQ_plain ?_ | refine CallR_plain ?_ | refine wCond ?_); simp [h1, h1']) | (refine wIn ?_; refine And.intro (by kernel_rfl) ?_; try simp only [thenA_n]) | (first | refine wBlock ?_ | refine wScope ?_) | ((first | refine wRet ?_ | refine wExit ?_ | refine wSkip ?_); try simp) | ((first | refine wLabel ?_ | refine wOn ?_ | refine wQn ?_); try simp only [thenA_n]) | (refine CallE.pure (awake01) rfl ?_) | (refine CallE.lent (awake01) rfl ?_) | (refine CallF.pure (awake01) rfl ?_) | (refine CallF.lent (awake01) rfl ?_) | (refine CallE.own (awake01) ?_) | (refine CallH.pure (awake01) rfl ?_) | (refine CallH.lent (awake01) rfl ?_) | (refine CallH.own (awake01) ?_)
    all_goals apply hr
    all_goals simp [Tryd.f8]
  have h1' : ¬ (40 : Int) < l.length := by omega
  have hL1 := fun {Q : AExit → St → Prop} {st} => tornL1 (Q := Q) (st := st) l cut (by omega)
  refine wBody Tryd.tab Tryd.mixed Tryd.func8 rfl rfl Tryd.ntmps8 (by simp) (by simp) fun Q hr hn => ?_
  repeat' first | (refine hL1 ?_ ?_ ?_ ?_ ?_ ?_ ?_ ?_ ?_) | (refine hK _ ?_; clear hK) | (refine hK _ _ ?_; clear hK) | (clear hK; refine hK _ ?_; clear hK) | (clear hK; clear hK; refine hK _ ?_; clear hK) | (clear hK; clear hK; clear hK; refine hK _ ?_; clear hK) | (clear hK; clear hK; clear hK; clear hK; refine hK _ ?_; clear hK) | (refine wSeq fun K hK => ?_) | ((first | refine wReg ?_ | refine wDrwQ rfl (by kernel_rfl) ?_ | refine wDrwI ?_ | refine wDrw (by kernel_rfl) ?_); simp only [List.map_cons, List.map_nil, strip]) | ((first | refine wIs fun K hK => ?_ | refine wOs fun K hK => ?_ | refine wQs fun K hK => ?_ | refine CallK_plain ?_ | refine CallQ_plain ?_ | refine CallR_plain ?_ | refine wCond ?_); simp [h1, h1']) | (refine wIn ?_; refine And.intro (by kernel_rfl) ?_; try simp only [thenA_n]) | (first | refine wBlock ?_ | refine wScope ?_) | ((first | refine wRet ?_ | refine wExit ?_ | refine wSkip ?_); try simp) | ((first | refine wLabel ?_ | refine wOn ?_ | refine wQn ?_); try simp only [thenA_n])
  · intro st h4
    simp only [blockA_r, thenA_r]
    apply hr
    simp [Tryd.f8, h4]
  · intro st r h6 g0 g1 g5 b5 hfl hall
    simp only [blockA_e, if_true, thenA_n]
    by_cases c1 : cut < 0
    · repeat' first | (refine hK _ ?_; clear hK) | (refine hK _ _ ?_; clear hK) | (clear hK; refine hK _ ?_; clear hK) | (clear hK; clear hK; refine hK _ ?_; clear hK) | (clear hK; clear hK; clear hK; refine hK _ ?_; clear hK) | (clear hK; clear hK; clear hK; clear hK; refine hK _ ?_; clear hK) | (refine wSeq fun K hK => ?_) | ((first | refine wReg ?_ | refine wDrwQ rfl (by kernel_rfl) ?_ | refine wDrwI ?_ | refine wDrw (by kernel_rfl) ?_); simp only [List.map_cons, List.map_nil, strip]) | ((first | refine wIs fun K hK => ?_ | refine wOs fun K hK => ?_ | refine wQs fun K hK => ?_ | refine CallK_plain ?_ | refine CallQ_plain ?_ | refine CallR_plain ?_ | refine wCond ?_); simp [g0, g1, g5, b5, c1]) | (refine wIn ?_; refine And.intro (by kernel_rfl) ?_; try simp only [thenA_n]) | (first | refine wBlock ?_ | refine wScope ?_) | ((first | refine wRet ?_ | refine wExit ?_ | refine wSkip ?_); try simp) | ((first | refine wLabel ?_ | refine wOn ?_ | refine wQn ?_); try simp only [thenA_n]) | (refine CallE.pure (awake01) rfl ?_) | (refine CallE.lent (awake01) rfl ?_) | (refine CallF.pure (awake01) rfl ?_) | (refine CallF.lent (awake01) rfl ?_) | (refine CallE.own (awake01) ?_) | (refine CallH.pure (awake01) rfl ?_) | (refine CallH.lent (awake01) rfl ?_) | (refine CallH.own (awake01) ?_)
      all_goals apply hr
      all_goals simp [Tryd.f8]
    by_cases c2 : ((fs l).length : Int) < cut
    · repeat' first | (refine hK _ ?_; clear hK) | (refine hK _ _ ?_; clear hK) | (clear hK; refine hK _ ?_; clear hK) | (clear hK; clear hK; refine hK _ ?_; clear hK) | (clear hK; clear hK; clear hK; refine hK _ ?_; clear hK) | (clear hK; clear hK; clear hK; clear hK; refine hK _ ?_; clear hK) | (refine wSeq fun K hK => ?_) | ((first | refine wReg ?_ | refine wDrwQ rfl (by kernel_rfl) ?_ | refine wDrwI ?_ | refine wDrw (by kernel_rfl) ?_); simp only [List.map_cons, List.map_nil, strip]) | ((first | refine wIs fun K hK => ?_ | refine wOs fun K hK => ?_ | refine wQs fun K hK => ?_ | refine CallK_plain ?_ | refine CallQ_plain ?_ | refine CallR_plain ?_ | refine wCond ?_); simp [g0, g1, g5, b5, c1, c2]) | (refine wIn ?_; refine And.intro (by kernel_rfl) ?_; try simp only [thenA_n]) | (first | refine wBlock ?_ | refine wScope ?_) | ((first | refine wRet ?_ | refine wExit ?_ | refine wSkip ?_); try simp) | ((first | refine wLabel ?_ | refine wOn ?_ | refine wQn ?_); try simp only [thenA_n]) | (refine CallE.pure (awake01) rfl ?_) | (refine CallE.lent (awake01) rfl ?_) | (refine CallF.pure (awake01) rfl ?_) | (refine CallF.lent (awake01) rfl ?_) | (refine CallE.own (awake01) ?_) | (refine CallH.pure (awake01) rfl ?_) | (refine CallH.lent (awake01) rfl ?_) | (refine CallH.own (awake01) ?_)
      all_goals apply hr
      all_goals simp [Tryd.f8]
    obtain ⟨c, rfl⟩ : ∃ c : Nat, cut = c := ⟨cut.toNat, by omega⟩
    have c1n : ¬ c < 0 := by omega
    have c2n : ¬ (fs l).length < c := by omega
    have hfin : ∀ (E : V), (E = .full 1 (eds l l.length) ∨ E = .p (.sl 1 (eds l l.length))) → ∀ st n, n ≤ l.length → (fs (l.take n)).length ≤ c → (n = l.length ∨ c < (fs (l.take (n + 1))).length) → st.s 0 = .p (.sl 1 (lds l)) → st.s 1 = .p (I c) → st.s 5 = .p (.sl 1 (by8 (fs l))) → st.s 6 = E → st.s 11 = .p (I n) → WC Tryd.prog Tryd.T 93 (sfx Tryd.f8 8) Q st := fun E hE st n hn hle hor g0 g1 g5 g6 g11 => by
      unfold sfx
      simp only [Tryd.f8, sfxC]
      have hft := frs_torn l (fun x hx => by have := hall x hx; omega) c n hn hle hor (by omega)
      have cf := frames_con ((fs l).take c) (by rw [List.length_take]; omega)
      unfold framesT at cf
      rw [hft] at cf
      simp only at cf
      have cs := same_con (l.take n) (l.take n) (by rw [List.length_take]; omega) (by rw [List.length_take]; omega)
      rw [decide_eq_true rfl] at cs
      have d1 := by8_take (fs l) c
      have d2 := lds_take l n
      have hlen := eds_len l l.length
      have he := eds_get (l := l) (k := l.length) (j := n) (by omega)
      have hb1 : n < l.length + 1 := by omega
      have hq1 : (eds l l.length)[n]'(by rw [eds_len]; omega) = [I ((fs (l.take n)).length : Nat)] := by
        rw [List.getElem?_eq_getElem (by rw [eds_len]; omega)] at he; exact Option.some.inj he
      have hcl : c ≤ (fs l).length := by omega
      have hcl' : (c : Int) ≤ (fs l).length := by omega
      have hnl' : (n : Int) ≤ l.length := by omega
      generalize (fs (l.take n)).length = z at cf he hq1
      generalize (fs l).take c = tb at cf d1
      generalize l.take n = tl at cf cs d2
      rcases hE with rfl | rfl
      all_goals
        repeat' first | (refine hK _ ?_; clear hK) | (refine hK _ _ ?_; clear hK) | (clear hK; refine hK _ ?_; clear hK) | (clear hK; clear hK; refine hK _ ?_; clear hK) | (clear hK; clear hK; clear hK; refine hK _ ?_; clear hK) | (clear hK; clear hK; clear hK; clear hK; refine hK _ ?_; clear hK) | (refine wSeq fun K hK => ?_) | ((first | refine wReg ?_ | refine wDrwQ rfl (by kernel_rfl) ?_ | refine wDrwI ?_ | refine wDrw (by kernel_rfl) ?_); simp only [List.map_cons, List.map_nil, strip]) | ((first | refine wIs fun K hK => ?_ | refine wOs fun K hK => ?_ | refine wQs fun K hK => ?_ | refine CallK_plain ?_ | refine CallQ_plain ?_ | refine CallR_plain ?_ | refine wCond ?_); simp [g0, g1, g5, g6, g11, hlen, he, hb1, hq1, d1, d2, hcl, hcl', hn, hnl']) | (refine wIn ?_; refine And.intro (by kernel_rfl) ?_; try simp only [thenA_n]) | (first | refine wBlock ?_ | refine wScope ?_) | ((first | refine wRet ?_ | refine wExit ?_ | refine wSkip ?_); try simp) | ((first | refine wLabel ?_ | refine wOn ?_ | refine wQn ?_); try simp only [thenA_n]) | (refine CallE.pure (cf) rfl ?_) | (refine CallE.lent (cf) rfl ?_) | (refine CallF.pure (cf) rfl ?_) | (refine CallF.lent (cf) rfl ?_) | (refine CallE.own (cf) ?_) | (refine CallH.pure (cf) rfl ?_) | (refine CallH.lent (cf) rfl ?_) | (refine CallH.own (cf) ?_) | (refine CallE.pure (cs) rfl ?_) | (refine CallE.lent (cs) rfl ?_) | (refine CallF.pure (cs) rfl ?_) | (refine CallF.lent (cs) rfl ?_) | (refine CallE.own (cs) ?_) | (refine CallH.pure (cs) rfl ?_) | (refine CallH.lent (cs) rfl ?_) | (refine CallH.own (cs) ?_) | (refine CallE.pure (awake01) rfl ?_) | (refine CallE.lent (awake01) rfl ?_) | (refine CallF.pure (awake01) rfl ?_) | (refine CallF.lent (awake01) rfl ?_) | (refine CallE.own (awake01) ?_) | (refine CallH.pure (awake01) rfl ?_) | (refine CallH.lent (awake01) rfl ?_) | (refine CallH.own (awake01) ?_)
        all_goals apply hr
        all_goals simp [Tryd.f8]
    unfold sfx at hfin
    simp only [Tryd.f8, sfxC] at hfin
    rcases h6 with ⟨-, g6⟩ | ⟨-, g6, b43⟩
    · have hL2 := fun {Q : AExit → St → Prop} {st} => tornL2 (Q := Q) (st := st) l c (by omega) (by omega) [.frz 5] (.full 1 (eds l l.length)) (.inl rfl)
      repeat' first | (refine hL2 ?_ ⟨?_, ?_, ?_, ?_, ?_⟩) | (refine hK _ ?_; clear hK) | (refine hK _ _ ?_; clear hK) | (clear hK; refine hK _ ?_; clear hK) | (clear hK; clear hK; refine hK _ ?_; clear hK) | (clear hK; clear hK; clear hK; refine hK _ ?_; clear hK) | (clear hK; clear hK; clear hK; clear hK; refine hK _ ?_; clear hK) | (refine wSeq fun K hK => ?_) | ((first | refine wReg ?_ | refine wDrwQ rfl (by kernel_rfl) ?_ | refine wDrwI ?_ | refine wDrw (by kernel_rfl) ?_); simp only [List.map_cons, List.map_nil, strip]) | ((first | refine wIs fun K hK => ?_ | refine wOs fun K hK => ?_ | refine wQs fun K hK => ?_ | refine CallK_plain ?_ | refine CallQ_plain ?_ | refine CallR_plain ?_ | refine wCond ?_); simp [g0, g1, g5, b5, g6, c1, c2, c1n, c2n]) | (refine wIn ?_; refine And.intro (by kernel_rfl) ?_; try simp only [thenA_n]) | (first | refine wBlock ?_ | refine wScope ?_) | ((first | refine wRet ?_ | refine wExit ?_ | refine wSkip ?_); try simp) | ((first | refine wLabel ?_ | refine wOn ?_ | refine wQn ?_); try simp only [thenA_n])
      · intro st n k1 k2 k3 e0 e1 e5 e6 e11
        simp only [blockA_e, if_true, thenA_n]
        repeat' first | (exact hfin _ (.inl rfl) _ n k1 k2 k3 e0 e1 e5 e6 e11) | (refine hK _ ?_; clear hK) | (refine hK _ _ ?_; clear hK) | (clear hK; refine hK _ ?_; clear hK) | (clear hK; clear hK; refine hK _ ?_; clear hK) | (clear hK; clear hK; clear hK; refine hK _ ?_; clear hK) | (clear hK; clear hK; clear hK; clear hK; refine hK _ ?_; clear hK) | (refine wSeq fun K hK => ?_) | ((first | refine wReg ?_ | refine wDrwQ rfl (by kernel_rfl) ?_ | refine wDrwI ?_ | refine wDrw (by kernel_rfl) ?_); simp only [List.map_cons, List.map_nil, strip]) | ((first | refine wIs fun K hK => ?_ | refine wOs fun K hK => ?_ | refine wQs fun K hK => ?_ | refine CallK_plain ?_ | refine CallQ_plain ?_ | refine CallR_plain ?_ | refine wCond ?_); simp [e0]) | (refine wIn ?_; refine And.intro (by kernel_rfl) ?_; try simp only [thenA_n]) | (first | refine wBlock ?_ | refine wScope ?_) | ((first | refine wRet ?_ | refine wExit ?_ | refine wSkip ?_); try simp) | ((first | refine wLabel ?_ | refine wOn ?_ | refine wQn ?_); try simp only [thenA_n])
      all_goals simp [g0, g1, g5, b5, g6]
    · have hL2 := fun {Q : AExit → St → Prop} {st} => tornL2 (Q := Q) (st := st) l c (by omega) (by omega) [.frz 5, .frz 43] (.p (.sl 1 (eds l l.length))) (.inr rfl)
      repeat' first | (refine hL2 ?_ ⟨?_, ?_, ?_, ?_, ?_⟩) | (refine hK _ ?_; clear hK) | (refine hK _ _ ?_; clear hK) | (clear hK; refine hK _ ?_; clear hK) | (clear hK; clear hK; refine hK _ ?_; clear hK) | (clear hK; clear hK; clear hK; refine hK _ ?_; clear hK) | (clear hK; clear hK; clear hK; clear hK; refine hK _ ?_; clear hK) | (refine wSeq fun K hK => ?_) | ((first | refine wReg ?_ | refine wDrwQ rfl (by kernel_rfl) ?_ | refine wDrwI ?_ | refine wDrw (by kernel_rfl) ?_); simp only [List.map_cons, List.map_nil, strip]) | ((first | refine wIs fun K hK => ?_ | refine wOs fun K hK => ?_ | refine wQs fun K hK => ?_ | refine CallK_plain ?_ | refine CallQ_plain ?_ | refine CallR_plain ?_ | refine wCond ?_); simp [g0, g1, g5, b5, g6, b43, c1, c2, c1n, c2n]) | (refine wIn ?_; refine And.intro (by kernel_rfl) ?_; try simp only [thenA_n]) | (first | refine wBlock ?_ | refine wScope ?_) | ((first | refine wRet ?_ | refine wExit ?_ | refine wSkip ?_); try simp) | ((first | refine wLabel ?_ | refine wOn ?_ | refine wQn ?_); try simp only [thenA_n])
      · intro st n k1 k2 k3 e0 e1 e5 e6 e11
        simp only [blockA_e, if_true, thenA_n]
        repeat' first | (exact hfin _ (.inr rfl) _ n k1 k2 k3 e0 e1 e5 e6 e11) | (refine hK _ ?_; clear hK) | (refine hK _ _ ?_; clear hK) | (clear hK; refine hK _ ?_; clear hK) | (clear hK; clear hK; refine hK _ ?_; clear hK) | (clear hK; clear hK; clear hK; refine hK _ ?_; clear hK) | (clear hK; clear hK; clear hK; clear hK; refine hK _ ?_; clear hK) | (refine wSeq fun K hK => ?_) | ((first | refine wReg ?_ | refine wDrwQ rfl (by kernel_rfl) ?_ | refine wDrwI ?_ | refine wDrw (by kernel_rfl) ?_); simp only [List.map_cons, List.map_nil, strip]) | ((first | refine wIs fun K hK => ?_ | refine wOs fun K hK => ?_ | refine wQs fun K hK => ?_ | refine CallK_plain ?_ | refine CallQ_plain ?_ | refine CallR_plain ?_ | refine wCond ?_); simp [e0]) | (refine wIn ?_; refine And.intro (by kernel_rfl) ?_; try simp only [thenA_n]) | (first | refine wBlock ?_ | refine wScope ?_) | ((first | refine wRet ?_ | refine wExit ?_ | refine wSkip ?_); try simp) | ((first | refine wLabel ?_ | refine wOn ?_ | refine wQn ?_); try simp only [thenA_n])
      all_goals simp [g0, g1, g5, b5, g6, b43]
  all_goals simp
end Go.Proofs.YtfilinonmngefaaDoor
