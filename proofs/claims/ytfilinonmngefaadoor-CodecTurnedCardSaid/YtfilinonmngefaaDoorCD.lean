/- Numbers read, the document's. -/
import Derived.Test.YtfilinonmngefaaDoorCC
namespace Go.Proofs.YtfilinonmngefaaDoor
set_option linter.unusedSimpArgs false
set_option linter.unusedVariables false
open Go Go.Av
attribute [local simp] Tryd.T1 Tryd.T2 Tryd.T3 Tryd.T4 Tryd.T5 Tryd.T9 Tryd.T12 Tryd.T15 Tryd.T16 Tryd.T17 Tryd.T21 Tryd.T22 Tryd.T23 Tryd.T24 Tryd.T25 Tryd.T27 Tryd.T28 Tryd.T29 Tryd.T31 Tryd.T32 Tryd.T34 Tryd.T35 Tryd.T36 Tryd.T38 Tryd.T39 Tryd.T41 Tryd.T42 Tryd.T43 Tryd.T44 Tryd.T45 Tryd.T46 Tryd.T47 Tryd.T48 Tryd.T49 Tryd.T50 Tryd.T51 Tryd.T52 Tryd.T53 Tryd.T54 Tryd.T55 Tryd.T56 Tryd.T57 Tryd.T58 Tryd.T59 Tryd.T60 Tryd.T61 Tryd.T62 Tryd.T63 Tryd.T65 Tryd.T66 Tryd.T67 Tryd.T68 Tryd.T69 Tryd.T70 Tryd.T73 Tryd.T78 Tryd.T79
attribute [local irreducible] Go.Av.CallK Go.Av.CallE Go.Av.CallQ Go.Av.CallF Go.Av.CallR Go.Av.CallH Go.Av.Con

set_option maxHeartbeats 2000000 in
theorem int01_con (b : List UInt8) (at' : Int) (hb : b.length ≤ 1000000000) : ACon Tryd.prog 14 [.p (.sl 1 (by8 b)), .p (I at')] (intT b at') := by
  by_cases h1 : at' < 0
  · rw [show intT b at' = .tup [.p (I 0), .p (I 0), .p (I 1)] by unfold intT; rw [if_pos (.inl h1)]]
    refine wBody Tryd.tab Tryd.mixed Tryd.func14 rfl rfl Tryd.ntmps14 (by simp) (by simp) fun Q hr hn => ?_
    repeat' first | (refine hK _ ?_; clear hK) | (refine hK _ _ ?_; clear hK) | (clear hK; refine hK _ ?_; clear hK) | (clear hK; clear hK; refine hK _ ?_; clear hK) | (clear hK; clear hK; clear hK; refine hK _ ?_; clear hK) | (clear hK; clear hK; clear hK; clear hK; refine hK _ ?_; clear hK) | (refine wSeq fun K hK => ?_) | ((first | refine wReg ?_ | refine wDrwQ rfl (by kernel_rfl) ?_ | refine wDrwI ?_ | refine wDrw (by kernel_rfl) ?_); simp only [List.map_cons, List.map_nil, strip]) | ((first | refine wIs fun K hK => ?_ | refine wOs fun K hK => ?_ | refine wQs fun K hK => ?_ | refine CallK_plain ?_ | refine CallQ_plain ?_ | refine CallR_plain ?_ | refine wCond ?_); simp [h1]) | (refine wIn ?_; refine And.intro (by kernel_rfl) ?_; try simp only [thenA_n]) | (first | refine wBlock ?_ | refine wScope ?_) | ((first | refine wRet ?_ | refine wExit ?_ | refine wSkip ?_); try simp) | ((first | refine wLabel ?_ | refine wOn ?_ | refine wQn ?_); try simp only [thenA_n])
    all_goals apply hr
    all_goals simp [Tryd.f14]
  by_cases h2 : (b.length : Int) < at'
  · rw [show intT b at' = .tup [.p (I 0), .p (I 0), .p (I 1)] by unfold intT; rw [if_pos (.inr h2)]]
    refine wBody Tryd.tab Tryd.mixed Tryd.func14 rfl rfl Tryd.ntmps14 (by simp) (by simp) fun Q hr hn => ?_
    repeat' first | (refine hK _ ?_; clear hK) | (refine hK _ _ ?_; clear hK) | (clear hK; refine hK _ ?_; clear hK) | (clear hK; clear hK; refine hK _ ?_; clear hK) | (clear hK; clear hK; clear hK; refine hK _ ?_; clear hK) | (clear hK; clear hK; clear hK; clear hK; refine hK _ ?_; clear hK) | (refine wSeq fun K hK => ?_) | ((first | refine wReg ?_ | refine wDrwQ rfl (by kernel_rfl) ?_ | refine wDrwI ?_ | refine wDrw (by kernel_rfl) ?_); simp only [List.map_cons, List.map_nil, strip]) | ((first | refine wIs fun K hK => ?_ | refine wOs fun K hK => ?_ | refine wQs fun K hK => ?_ | refine CallK_plain ?_ | refine CallQ_plain ?_ | refine CallR_plain ?_ | refine wCond ?_); simp [h1, h2]) | (refine wIn ?_; refine And.intro (by kernel_rfl) ?_; try simp only [thenA_n]) | (first | refine wBlock ?_ | refine wScope ?_) | ((first | refine wRet ?_ | refine wExit ?_ | refine wSkip ?_); try simp) | ((first | refine wLabel ?_ | refine wOn ?_ | refine wQn ?_); try simp only [thenA_n])
    all_goals apply hr
    all_goals simp [Tryd.f14]
  obtain ⟨a, rfl⟩ : ∃ a : Nat, at' = a := ⟨at'.toNat, by omega⟩
  rw [show intT b (a : Int) = rdT a (rdU 0 0 (b.drop a)) by unfold intT; rw [if_neg (by omega)]; simp]
  have hs0 : IntKind.i64.wrap ((b.length : Int) - (a : Int)) = (b.length : Int) - (a : Int) := wrap_id (by omega) (by omega)
  refine wBody Tryd.tab Tryd.mixed Tryd.func14 rfl rfl Tryd.ntmps14 (by simp) (by simp) fun Q hr hn => ?_
  repeat' first | (refine hK _ ?_; clear hK) | (refine hK _ _ ?_; clear hK) | (clear hK; refine hK _ ?_; clear hK) | (clear hK; clear hK; refine hK _ ?_; clear hK) | (clear hK; clear hK; clear hK; refine hK _ ?_; clear hK) | (clear hK; clear hK; clear hK; clear hK; refine hK _ ?_; clear hK) | (refine wSeq fun K hK => ?_) | ((first | refine wReg ?_ | refine wDrwQ rfl (by kernel_rfl) ?_ | refine wDrwI ?_ | refine wDrw (by kernel_rfl) ?_); simp only [List.map_cons, List.map_nil, strip]) | ((first | refine wIs fun K hK => ?_ | refine wOs fun K hK => ?_ | refine wQs fun K hK => ?_ | refine CallK_plain ?_ | refine CallQ_plain ?_ | refine CallR_plain ?_ | refine wCond ?_); simp [h1, h2]) | (refine wIn ?_; refine And.intro (by kernel_rfl) ?_; try simp only [thenA_n]) | (first | refine wBlock ?_ | refine wScope ?_) | ((first | refine wRet ?_ | refine wExit ?_ | refine wSkip ?_); try simp) | ((first | refine wLabel ?_ | refine wOn ?_ | refine wQn ?_); try simp only [thenA_n])
  refine wLoop (fun N st => ∃ i q u, i + N = 10 ∧ i ≤ 9 ∧ q = a + i ∧ st.s 0 = .p (.sl 1 (by8 b)) ∧ st.s 1 = .p (I a) ∧ st.s 7 = .p (.v (.int .u64 (u : Nat))) ∧ st.s 18 = .p (I i) ∧ u < 128 ^ i ∧ q ≤ b.length ∧ rdU i u (b.drop q) = rdU 0 0 (b.drop a)) 10 ⟨0, a, 0, by simp; omega⟩ fun K N st hL ⟨i, q, u, hk, hi9, hq, g0, g1, g7, g18, hu, hqb, hrd⟩ => ?_
  have hi10 : (i : Int) < 10 := by omega
  by_cases hlt : q < b.length
  rotate_left
  · have hae : q = b.length := by omega
    rw [List.drop_of_length_le (by omega), rdU] at hrd
    rw [← hrd, rdT_err (by decide)] at hr
    have hae' : (b.length : Int) - (a : Int) ≤ (i : Int) := by omega
    repeat' first | (refine hK _ ?_; clear hK) | (refine hK _ _ ?_; clear hK) | (clear hK; refine hK _ ?_; clear hK) | (clear hK; clear hK; refine hK _ ?_; clear hK) | (clear hK; clear hK; clear hK; refine hK _ ?_; clear hK) | (clear hK; clear hK; clear hK; clear hK; refine hK _ ?_; clear hK) | (refine wSeq fun K hK => ?_) | ((first | refine wReg ?_ | refine wDrwQ rfl (by kernel_rfl) ?_ | refine wDrwI ?_ | refine wDrw (by kernel_rfl) ?_); simp only [List.map_cons, List.map_nil, strip]) | ((first | refine wIs fun K hK => ?_ | refine wOs fun K hK => ?_ | refine wQs fun K hK => ?_ | refine CallK_plain ?_ | refine CallQ_plain ?_ | refine CallR_plain ?_ | refine wCond ?_); simp [g0, g1, g7, g18, hi10, hs0, hae']) | (refine wIn ?_; refine And.intro (by kernel_rfl) ?_; try simp only [thenA_n]) | (first | refine wBlock ?_ | refine wScope ?_) | ((first | refine wRet ?_ | refine wExit ?_ | refine wSkip ?_); try simp) | ((first | refine wLabel ?_ | refine wOn ?_ | refine wQn ?_); try simp only [thenA_n])
    all_goals apply hr
    all_goals simp [Tryd.f14]
  have hlt' : ¬ (b.length : Int) - (a : Int) ≤ (i : Int) := by omega
  have hw : IntKind.i64.wrap ((a : Int) + (i : Int)) = (q : Int) := by rw [wrap_id (by omega) (by omega)]; omega
  have hw1 : IntKind.i64.wrap ((q : Int) + 1) = ((q + 1 : Nat) : Int) := by rw [wrap_id (by omega) (by omega)]; omega
  have hwi := wrapS i 10 (by omega) (by omega)
  have he := by8_get hlt
  rw [List.drop_eq_getElem_cons hlt, rdU] at hrd
  have hc256 := b[q].toNat_lt
  generalize hcq : b[q] = c at he hrd hc256
  obtain ⟨x, hx⟩ : ∃ x : Nat, x = c.toNat := ⟨_, rfl⟩
  rw [← hx] at he hrd hc256
  have h8 := and8_fact c
  rw [← hx] at h8
  have hcx : c.toNat = x := hx.symm
  simp at h8
  by_cases o1 : i = 9 ∧ 1 < x
  · rw [if_pos o1] at hrd
    rw [← hrd, rdT_err (by decide)] at hr
    have o1' : (1 : Int) < (x : Int) := by omega
    have o2' : ((i : Int) = 9) = True := by simp; omega
    have o1t : (i = 9) = True := by simp [o1.1]
    have o1n := o1.2
    repeat' first | (refine hK _ ?_; clear hK) | (refine hK _ _ ?_; clear hK) | (clear hK; refine hK _ ?_; clear hK) | (clear hK; clear hK; refine hK _ ?_; clear hK) | (clear hK; clear hK; clear hK; refine hK _ ?_; clear hK) | (clear hK; clear hK; clear hK; clear hK; refine hK _ ?_; clear hK) | (refine wSeq fun K hK => ?_) | ((first | refine wReg ?_ | refine wDrwQ rfl (by kernel_rfl) ?_ | refine wDrwI ?_ | refine wDrw (by kernel_rfl) ?_); simp only [List.map_cons, List.map_nil, strip]) | ((first | refine wIs fun K hK => ?_ | refine wOs fun K hK => ?_ | refine wQs fun K hK => ?_ | refine CallK_plain ?_ | refine CallQ_plain ?_ | refine CallR_plain ?_ | refine wCond ?_); simp [g0, g1, g7, g18, hi10, hs0, hlt, hlt', hw, he, hcq, hcx, o1', o2', o1t, o1n]) | (refine wIn ?_; refine And.intro (by kernel_rfl) ?_; try simp only [thenA_n]) | (first | refine wBlock ?_ | refine wScope ?_) | ((first | refine wRet ?_ | refine wExit ?_ | refine wSkip ?_); try simp) | ((first | refine wLabel ?_ | refine wOn ?_ | refine wQn ?_); try simp only [thenA_n])
    all_goals apply hr
    all_goals simp [Tryd.f14]
  rw [if_neg o1] at hrd
  have hxm : x % 128 < 128 := by omega
  have hor := or64_fact (x := x % 128) hu hxm hi9 (by omega)
  have hst := step_lt64 (x := x % 128) hu hxm hi9 (by omega)
  have hsl := step_lt (x := x % 128) hu hxm
  generalize u + x % 128 * 128 ^ i = u' at hor hst hsl hrd
  have hw7 : IntKind.i64.wrap (7 * (i : Int)) = 7 * (i : Int) := wrap_id (by omega) (by omega)
  have hn7 : ¬ 7 * (i : Int) < 0 := by omega
  have ht7 : (7 * (i : Int)).toNat = 7 * i := by omega
  have hu7 : IntKind.u64.wrap (7 * (i : Int)) = 7 * (i : Int) := by rw [u64_wrap]; omega
  have hcv : IntKind.u64.wrap ((x % 128 : Nat) : Int) = ((x % 128 : Nat) : Int) := by rw [u64_wrap]; omega
  simp at hor hcv
  by_cases o2 : 128 ≤ x
  · rw [if_pos o2] at hrd
    have o2' : (128 : Int) ≤ (x : Int) := by omega
    have o3' : ¬ (i : Int) = 9 := by omega
    have o3 : ¬ i = 9 := by omega
    repeat' first | (refine hK _ ?_; clear hK) | (refine hK _ _ ?_; clear hK) | (clear hK; refine hK _ ?_; clear hK) | (clear hK; clear hK; refine hK _ ?_; clear hK) | (clear hK; clear hK; clear hK; refine hK _ ?_; clear hK) | (clear hK; clear hK; clear hK; clear hK; refine hK _ ?_; clear hK) | (refine wSeq fun K hK => ?_) | ((first | refine wReg ?_ | refine wDrwQ rfl (by kernel_rfl) ?_ | refine wDrwI ?_ | refine wDrw (by kernel_rfl) ?_); simp only [List.map_cons, List.map_nil, strip]) | ((first | refine wIs fun K hK => ?_ | refine wOs fun K hK => ?_ | refine wQs fun K hK => ?_ | refine CallK_plain ?_ | refine CallQ_plain ?_ | refine CallR_plain ?_ | refine wCond ?_); simp [g0, g1, g7, g18, hi10, hs0, hlt, hlt', hw, he, hcq, hcx, o2', o2, o3, o3', h8, hor, hw7, hn7, ht7, hu7, hcv, hwi]) | (refine wIn ?_; refine And.intro (by kernel_rfl) ?_; try simp only [thenA_n]) | (first | refine wBlock ?_ | refine wScope ?_) | ((first | refine wRet ?_ | refine wExit ?_ | refine wSkip ?_); try simp) | ((first | refine wLabel ?_ | refine wOn ?_ | refine wQn ?_); try simp only [thenA_n])
    refine hL _ (N - 1) (by omega) ⟨i + 1, q + 1, u', by omega, by omega, by omega, ?_⟩
    simp [g0, g1, g7, g18, hw, hwi, h8, hor, hw7, hn7, ht7, hu7, hcv, hsl, hrd]
    omega
  rw [if_neg o2] at hrd
  have o2' : ¬ (128 : Int) ≤ (x : Int) := by omega
  by_cases o4 : x = 0 ∧ 0 < i
  · rw [if_pos o4] at hrd
    rw [← hrd, rdT_err (by decide)] at hr
    obtain ⟨o4, o5⟩ := o4
    have o4' : ((x : Int) = 0) = True := by simp; omega
    have o4t : (x = 0) = True := by simp [o4]
    have o5' : (0 : Int) < (i : Int) := by omega
    have o1x : ¬ (1 : Int) < (x : Int) := by omega
    by_cases o3 : i = 9
    · have o3' : ((i : Int) = 9) = True := by simp; omega
      have o3t : (i = 9) = True := by simp [o3]
      repeat' first | (refine hK _ ?_; clear hK) | (refine hK _ _ ?_; clear hK) | (clear hK; refine hK _ ?_; clear hK) | (clear hK; clear hK; refine hK _ ?_; clear hK) | (clear hK; clear hK; clear hK; refine hK _ ?_; clear hK) | (clear hK; clear hK; clear hK; clear hK; refine hK _ ?_; clear hK) | (refine wSeq fun K hK => ?_) | ((first | refine wReg ?_ | refine wDrwQ rfl (by kernel_rfl) ?_ | refine wDrwI ?_ | refine wDrw (by kernel_rfl) ?_); simp only [List.map_cons, List.map_nil, strip]) | ((first | refine wIs fun K hK => ?_ | refine wOs fun K hK => ?_ | refine wQs fun K hK => ?_ | refine CallK_plain ?_ | refine CallQ_plain ?_ | refine CallR_plain ?_ | refine wCond ?_); simp [g0, g1, g7, g18, hi10, hs0, hlt, hlt', hw, he, hcq, hcx, o2', o2, o3', o3t, o1x, o4', o4t, o5, o5', h8, hor, hw7, hn7, ht7, hu7, hcv]) | (refine wIn ?_; refine And.intro (by kernel_rfl) ?_; try simp only [thenA_n]) | (first | refine wBlock ?_ | refine wScope ?_) | ((first | refine wRet ?_ | refine wExit ?_ | refine wSkip ?_); try simp) | ((first | refine wLabel ?_ | refine wOn ?_ | refine wQn ?_); try simp only [thenA_n])
      all_goals apply hr
      all_goals simp [Tryd.f14]
    · have o3' : ¬ (i : Int) = 9 := by omega
      repeat' first | (refine hK _ ?_; clear hK) | (refine hK _ _ ?_; clear hK) | (clear hK; refine hK _ ?_; clear hK) | (clear hK; clear hK; refine hK _ ?_; clear hK) | (clear hK; clear hK; clear hK; refine hK _ ?_; clear hK) | (clear hK; clear hK; clear hK; clear hK; refine hK _ ?_; clear hK) | (refine wSeq fun K hK => ?_) | ((first | refine wReg ?_ | refine wDrwQ rfl (by kernel_rfl) ?_ | refine wDrwI ?_ | refine wDrw (by kernel_rfl) ?_); simp only [List.map_cons, List.map_nil, strip]) | ((first | refine wIs fun K hK => ?_ | refine wOs fun K hK => ?_ | refine wQs fun K hK => ?_ | refine CallK_plain ?_ | refine CallQ_plain ?_ | refine CallR_plain ?_ | refine wCond ?_); simp [g0, g1, g7, g18, hi10, hs0, hlt, hlt', hw, he, hcq, hcx, o2', o2, o3', o3, o1x, o4', o4t, o5, o5', h8, hor, hw7, hn7, ht7, hu7, hcv]) | (refine wIn ?_; refine And.intro (by kernel_rfl) ?_; try simp only [thenA_n]) | (first | refine wBlock ?_ | refine wScope ?_) | ((first | refine wRet ?_ | refine wExit ?_ | refine wSkip ?_); try simp) | ((first | refine wLabel ?_ | refine wOn ?_ | refine wQn ?_); try simp only [thenA_n])
      all_goals apply hr
      all_goals simp [Tryd.f14]
  rw [if_neg o4] at hrd
  rw [← hrd, rdT_ok, show a + (i + 1) = q + 1 by omega] at hr
  have f1 := and1 u' hst.2
  have f2 := shr1 u'
  have f3 := not64 (u' / 2) (by omega)
  have f4 := unz_odd u' hst.2
  have f5 := unz_even u' hst.2
  simp at f1 f2 f3
  have hlast : ∀ st : St, st.s 4 = .p (I (unzz u')) → st.s 5 = .p (I ((q + 1 : Nat) : Int)) → st.s 6 = .p (I 0) → Q .ret st := fun st h1 h2 h3 => by
    apply hr
    simp [Tryd.f14, h1, h2, h3]
  by_cases o6 : u' % 2 = 1
  · have f4 := f4 o6
    have o6' : ((u' : Int) % 2 = 1) = True := by simp; omega
    try simp at f4
    by_cases o3 : i = 9
    · have o3' : ((i : Int) = 9) = True := by simp; omega
      have o3t : (i = 9) = True := by simp [o3]
      have o1y : ¬ (1 : Int) < (x : Int) := by omega
      have o5' : (0 : Int) < (i : Int) := by omega
      have o4' : ¬ (x : Int) = 0 := by omega
      have o4n : ¬ x = 0 := by omega
      have o5n : 0 < i := by omega
      repeat' first | (refine hK _ ?_; clear hK) | (refine hK _ _ ?_; clear hK) | (clear hK; refine hK _ ?_; clear hK) | (clear hK; clear hK; refine hK _ ?_; clear hK) | (clear hK; clear hK; clear hK; refine hK _ ?_; clear hK) | (clear hK; clear hK; clear hK; clear hK; refine hK _ ?_; clear hK) | (refine wSeq fun K hK => ?_) | ((first | refine wReg ?_ | refine wDrwQ rfl (by kernel_rfl) ?_ | refine wDrwI ?_ | refine wDrw (by kernel_rfl) ?_); simp only [List.map_cons, List.map_nil, strip]) | ((first | refine wIs fun K hK => ?_ | refine wOs fun K hK => ?_ | refine wQs fun K hK => ?_ | refine CallK_plain ?_ | refine CallQ_plain ?_ | refine CallR_plain ?_ | refine wCond ?_); simp [g0, g1, g7, g18, hi10, hs0, hlt, hlt', hw, hw1, he, hcq, hcx, o2', o2, o3', o3t, o1y, o4', o4n, o5n, o5', h8, hor, hw7, hn7, ht7, hu7, hcv, f1, f2, f3, f4, o6']) | (refine wIn ?_; refine And.intro (by kernel_rfl) ?_; try simp only [thenA_n]) | (first | refine wBlock ?_ | refine wScope ?_) | ((first | refine wRet ?_ | refine wExit ?_ | refine wSkip ?_); try simp) | ((first | refine wLabel ?_ | refine wOn ?_ | refine wQn ?_); try simp only [thenA_n])
      all_goals apply hlast
      all_goals simp [g0, g1, g7, g18, hw, hw1, h8, hor, hw7, hn7, ht7, hu7, hcv, f1, f2, f3, f4]
    · have o3' : ¬ (i : Int) = 9 := by omega
      by_cases o4x : x = 0
      · have o4' : ((x : Int) = 0) = True := by simp; omega
        have o4t : (x = 0) = True := by simp [o4x]
        have o5' : ¬ (0 : Int) < (i : Int) := by omega
        have o5n : ¬ 0 < i := by omega
        repeat' first | (refine hK _ ?_; clear hK) | (refine hK _ _ ?_; clear hK) | (clear hK; refine hK _ ?_; clear hK) | (clear hK; clear hK; refine hK _ ?_; clear hK) | (clear hK; clear hK; clear hK; refine hK _ ?_; clear hK) | (clear hK; clear hK; clear hK; clear hK; refine hK _ ?_; clear hK) | (refine wSeq fun K hK => ?_) | ((first | refine wReg ?_ | refine wDrwQ rfl (by kernel_rfl) ?_ | refine wDrwI ?_ | refine wDrw (by kernel_rfl) ?_); simp only [List.map_cons, List.map_nil, strip]) | ((first | refine wIs fun K hK => ?_ | refine wOs fun K hK => ?_ | refine wQs fun K hK => ?_ | refine CallK_plain ?_ | refine CallQ_plain ?_ | refine CallR_plain ?_ | refine wCond ?_); simp [g0, g1, g7, g18, hi10, hs0, hlt, hlt', hw, hw1, he, hcq, hcx, o2', o2, o3', o3, o4', o5', o4t, o5n, h8, hor, hw7, hn7, ht7, hu7, hcv, f1, f2, f3, f4, o6']) | (refine wIn ?_; refine And.intro (by kernel_rfl) ?_; try simp only [thenA_n]) | (first | refine wBlock ?_ | refine wScope ?_) | ((first | refine wRet ?_ | refine wExit ?_ | refine wSkip ?_); try simp) | ((first | refine wLabel ?_ | refine wOn ?_ | refine wQn ?_); try simp only [thenA_n])
        all_goals apply hlast
        all_goals simp [g0, g1, g7, g18, hw, hw1, h8, hor, hw7, hn7, ht7, hu7, hcv, f1, f2, f3, f4]
      · have o4' : ¬ (x : Int) = 0 := by omega
        repeat' first | (refine hK _ ?_; clear hK) | (refine hK _ _ ?_; clear hK) | (clear hK; refine hK _ ?_; clear hK) | (clear hK; clear hK; refine hK _ ?_; clear hK) | (clear hK; clear hK; clear hK; refine hK _ ?_; clear hK) | (clear hK; clear hK; clear hK; clear hK; refine hK _ ?_; clear hK) | (refine wSeq fun K hK => ?_) | ((first | refine wReg ?_ | refine wDrwQ rfl (by kernel_rfl) ?_ | refine wDrwI ?_ | refine wDrw (by kernel_rfl) ?_); simp only [List.map_cons, List.map_nil, strip]) | ((first | refine wIs fun K hK => ?_ | refine wOs fun K hK => ?_ | refine wQs fun K hK => ?_ | refine CallK_plain ?_ | refine CallQ_plain ?_ | refine CallR_plain ?_ | refine wCond ?_); simp [g0, g1, g7, g18, hi10, hs0, hlt, hlt', hw, hw1, he, hcq, hcx, o2', o2, o3', o3, o4', o4x, h8, hor, hw7, hn7, ht7, hu7, hcv, f1, f2, f3, f4, o6']) | (refine wIn ?_; refine And.intro (by kernel_rfl) ?_; try simp only [thenA_n]) | (first | refine wBlock ?_ | refine wScope ?_) | ((first | refine wRet ?_ | refine wExit ?_ | refine wSkip ?_); try simp) | ((first | refine wLabel ?_ | refine wOn ?_ | refine wQn ?_); try simp only [thenA_n])
        all_goals apply hlast
        all_goals simp [g0, g1, g7, g18, hw, hw1, h8, hor, hw7, hn7, ht7, hu7, hcv, f1, f2, f3, f4]
  · have f5 := f5 o6
    have o6' : ¬ (u' : Int) % 2 = 1 := by omega
    try simp at f5
    by_cases o3 : i = 9
    · have o3' : ((i : Int) = 9) = True := by simp; omega
      have o3t : (i = 9) = True := by simp [o3]
      have o1y : ¬ (1 : Int) < (x : Int) := by omega
      have o5' : (0 : Int) < (i : Int) := by omega
      have o4' : ¬ (x : Int) = 0 := by omega
      have o4n : ¬ x = 0 := by omega
      have o5n : 0 < i := by omega
      repeat' first | (refine hK _ ?_; clear hK) | (refine hK _ _ ?_; clear hK) | (clear hK; refine hK _ ?_; clear hK) | (clear hK; clear hK; refine hK _ ?_; clear hK) | (clear hK; clear hK; clear hK; refine hK _ ?_; clear hK) | (clear hK; clear hK; clear hK; clear hK; refine hK _ ?_; clear hK) | (refine wSeq fun K hK => ?_) | ((first | refine wReg ?_ | refine wDrwQ rfl (by kernel_rfl) ?_ | refine wDrwI ?_ | refine wDrw (by kernel_rfl) ?_); simp only [List.map_cons, List.map_nil, strip]) | ((first | refine wIs fun K hK => ?_ | refine wOs fun K hK => ?_ | refine wQs fun K hK => ?_ | refine CallK_plain ?_ | refine CallQ_plain ?_ | refine CallR_plain ?_ | refine wCond ?_); simp [g0, g1, g7, g18, hi10, hs0, hlt, hlt', hw, hw1, he, hcq, hcx, o2', o2, o3', o3t, o1y, o4', o4n, o5n, o5', h8, hor, hw7, hn7, ht7, hu7, hcv, f1, f2, f3, f5, o6']) | (refine wIn ?_; refine And.intro (by kernel_rfl) ?_; try simp only [thenA_n]) | (first | refine wBlock ?_ | refine wScope ?_) | ((first | refine wRet ?_ | refine wExit ?_ | refine wSkip ?_); try simp) | ((first | refine wLabel ?_ | refine wOn ?_ | refine wQn ?_); try simp only [thenA_n])
      all_goals apply hlast
      all_goals simp [g0, g1, g7, g18, hw, hw1, h8, hor, hw7, hn7, ht7, hu7, hcv, f1, f2, f3, f5]
    · have o3' : ¬ (i : Int) = 9 := by omega
      by_cases o4x : x = 0
      · have o4' : ((x : Int) = 0) = True := by simp; omega
        have o4t : (x = 0) = True := by simp [o4x]
        have o5' : ¬ (0 : Int) < (i : Int) := by omega
        have o5n : ¬ 0 < i := by omega
        repeat' first | (refine hK _ ?_; clear hK) | (refine hK _ _ ?_; clear hK) | (clear hK; refine hK _ ?_; clear hK) | (clear hK; clear hK; refine hK _ ?_; clear hK) | (clear hK; clear hK; clear hK; refine hK _ ?_; clear hK) | (clear hK; clear hK; clear hK; clear hK; refine hK _ ?_; clear hK) | (refine wSeq fun K hK => ?_) | ((first | refine wReg ?_ | refine wDrwQ rfl (by kernel_rfl) ?_ | refine wDrwI ?_ | refine wDrw (by kernel_rfl) ?_); simp only [List.map_cons, List.map_nil, strip]) | ((first | refine wIs fun K hK => ?_ | refine wOs fun K hK => ?_ | refine wQs fun K hK => ?_ | refine CallK_plain ?_ | refine CallQ_plain ?_ | refine CallR_plain ?_ | refine wCond ?_); simp [g0, g1, g7, g18, hi10, hs0, hlt, hlt', hw, hw1, he, hcq, hcx, o2', o2, o3', o3, o4', o5', o4t, o5n, h8, hor, hw7, hn7, ht7, hu7, hcv, f1, f2, f3, f5, o6']) | (refine wIn ?_; refine And.intro (by kernel_rfl) ?_; try simp only [thenA_n]) | (first | refine wBlock ?_ | refine wScope ?_) | ((first | refine wRet ?_ | refine wExit ?_ | refine wSkip ?_); try simp) | ((first | refine wLabel ?_ | refine wOn ?_ | refine wQn ?_); try simp only [thenA_n])
        all_goals apply hlast
        all_goals simp [g0, g1, g7, g18, hw, hw1, h8, hor, hw7, hn7, ht7, hu7, hcv, f1, f2, f3, f5]
      · have o4' : ¬ (x : Int) = 0 := by omega
        repeat' first | (refine hK _ ?_; clear hK) | (refine hK _ _ ?_; clear hK) | (clear hK; refine hK _ ?_; clear hK) | (clear hK; clear hK; refine hK _ ?_; clear hK) | (clear hK; clear hK; clear hK; refine hK _ ?_; clear hK) | (clear hK; clear hK; clear hK; clear hK; refine hK _ ?_; clear hK) | (refine wSeq fun K hK => ?_) | ((first | refine wReg ?_ | refine wDrwQ rfl (by kernel_rfl) ?_ | refine wDrwI ?_ | refine wDrw (by kernel_rfl) ?_); simp only [List.map_cons, List.map_nil, strip]) | ((first | refine wIs fun K hK => ?_ | refine wOs fun K hK => ?_ | refine wQs fun K hK => ?_ | refine CallK_plain ?_ | refine CallQ_plain ?_ | refine CallR_plain ?_ | refine wCond ?_); simp [g0, g1, g7, g18, hi10, hs0, hlt, hlt', hw, hw1, he, hcq, hcx, o2', o2, o3', o3, o4', o4x, h8, hor, hw7, hn7, ht7, hu7, hcv, f1, f2, f3, f5, o6']) | (refine wIn ?_; refine And.intro (by kernel_rfl) ?_; try simp only [thenA_n]) | (first | refine wBlock ?_ | refine wScope ?_) | ((first | refine wRet ?_ | refine wExit ?_ | refine wSkip ?_); try simp) | ((first | refine wLabel ?_ | refine wOn ?_ | refine wQn ?_); try simp only [thenA_n])
        all_goals apply hlast
        all_goals simp [g0, g1, g7, g18, hw, hw1, h8, hor, hw7, hn7, ht7, hu7, hcv, f1, f2, f3, f5]
end Go.Proofs.YtfilinonmngefaaDoor
