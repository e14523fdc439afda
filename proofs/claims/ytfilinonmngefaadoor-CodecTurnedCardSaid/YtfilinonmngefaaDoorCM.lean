/- Frames opened by the document. -/
import Derived.Test.YtfilinonmngefaaDoorCL
namespace Go.Proofs.YtfilinonmngefaaDoor
set_option linter.unusedSimpArgs false
set_option linter.unusedVariables false
open Go Go.Av
attribute [local simp] Tryd.T1 Tryd.T2 Tryd.T3 Tryd.T4 Tryd.T5 Tryd.T9 Tryd.T12 Tryd.T15 Tryd.T16 Tryd.T17 Tryd.T21 Tryd.T22 Tryd.T23 Tryd.T24 Tryd.T25 Tryd.T27 Tryd.T28 Tryd.T29 Tryd.T31 Tryd.T32 Tryd.T34 Tryd.T35 Tryd.T36 Tryd.T38 Tryd.T39 Tryd.T41 Tryd.T42 Tryd.T43 Tryd.T44 Tryd.T45 Tryd.T46 Tryd.T47 Tryd.T48 Tryd.T49 Tryd.T50 Tryd.T51 Tryd.T52 Tryd.T53 Tryd.T54 Tryd.T55 Tryd.T56 Tryd.T57 Tryd.T58 Tryd.T59 Tryd.T60 Tryd.T61 Tryd.T62 Tryd.T63 Tryd.T65 Tryd.T66 Tryd.T67 Tryd.T68 Tryd.T69 Tryd.T70 Tryd.T73 Tryd.T78 Tryd.T79
attribute [local irreducible] Go.Av.CallK Go.Av.CallE Go.Av.CallQ Go.Av.CallF Go.Av.CallR Go.Av.CallH Go.Av.Con
theorem take_step {s : List UInt8} {l : List UInt8} {k : Nat} (h1 : k < s.length) (h2 : k < l.length) (h : s.take k = l.take k) (he : s[k] = l[k]) : s.take (k + 1) = l.take (k + 1) := by
  rw [List.take_succ_eq_append_getElem h1, List.take_succ_eq_append_getElem h2, h, he]
theorem le4_at (n : Nat) : ∀ k (h : k < 4), (le4 n)[k]'(by rw [le4_len]; exact h) = UInt8.ofNat (n / 256 ^ k)
  | 0, _ => by simp [le4]
  | 1, _ => rfl
  | 2, _ => rfl
  | 3, _ => rfl
  | k + 4, h => absurd h (by omega)
set_option maxHeartbeats 2000000 in
theorem open01_con (b : List UInt8) (at' : Int) (hb : b.length ≤ 1000000000) : ACon Tryd.prog 24 [.p (.sl 1 (by8 b)), .p (I at')] (openT b at') := by
  have hc := int01_con b at' hb
  unfold intT at hc
  unfold openT
  by_cases h : at' < 0 ∨ (b.length : Int) < at'
  · rw [if_pos h] at hc ⊢
    refine wBody Tryd.tab Tryd.mixed Tryd.func24 rfl rfl Tryd.ntmps24 (by simp) (by simp) fun Q hr hn => ?_
    repeat' first | (refine hK _ ?_; clear hK) | (refine hK _ _ ?_; clear hK) | (clear hK; refine hK _ ?_; clear hK) | (clear hK; clear hK; refine hK _ ?_; clear hK) | (clear hK; clear hK; clear hK; refine hK _ ?_; clear hK) | (clear hK; clear hK; clear hK; clear hK; refine hK _ ?_; clear hK) | (refine wSeq fun K hK => ?_) | ((first | refine wReg ?_ | refine wDrwQ rfl (by kernel_rfl) ?_ | refine wDrwI ?_ | refine wDrw (by kernel_rfl) ?_); simp only [List.map_cons, List.map_nil, strip]) | ((first | refine wIs fun K hK => ?_ | refine wOs fun K hK => ?_ | refine wQs fun K hK => ?_ | refine CallK_plain ?_ | refine CallQ_plain ?_ | refine CallR_plain ?_ | refine wCond ?_); simp) | (refine wIn ?_; refine And.intro (by kernel_rfl) ?_; try simp only [thenA_n]) | (first | refine wBlock ?_ | refine wScope ?_) | ((first | refine wRet ?_ | refine wExit ?_ | refine wSkip ?_); try simp) | ((first | refine wLabel ?_ | refine wOn ?_ | refine wQn ?_); try simp only [thenA_n]) | (refine CallE.pure (hc) rfl ?_) | (refine CallE.lent (hc) rfl ?_) | (refine CallF.pure (hc) rfl ?_) | (refine CallF.lent (hc) rfl ?_) | (refine CallE.own (hc) ?_) | (refine CallH.pure (hc) rfl ?_) | (refine CallH.lent (hc) rfl ?_) | (refine CallH.own (hc) ?_)
    all_goals apply hr
    all_goals simp [Tryd.f24]
  rw [if_neg h] at hc ⊢
  obtain ⟨a, rfl⟩ : ∃ a : Nat, at' = a := ⟨at'.toNat, by omega⟩
  unfold opR
  simp only [Int.toNat_natCast] at hc ⊢
  obtain ⟨-, hk, hv, -⟩ := rdU_le (b.drop a) 0 0 (by decide) (by omega)
  rw [List.length_drop] at hk
  generalize rdU 0 0 (b.drop a) = r at hc hk hv ⊢
  obtain ⟨e, v, k⟩ := r
  have hok := unzz_ok hv
  obtain ⟨hok1, hok2⟩ := hok
  simp only at hk hv hok1 hok2
  unfold lnR
  simp only
  by_cases h0 : e = 0
  rotate_left
  · rw [if_pos h0]
    rw [rdT_err h0] at hc
    unfold frT frR
    simp only [h0, if_false]
    refine wBody Tryd.tab Tryd.mixed Tryd.func24 rfl rfl Tryd.ntmps24 (by simp) (by simp) fun Q hr hn => ?_
    repeat' first | (refine hK _ ?_; clear hK) | (refine hK _ _ ?_; clear hK) | (clear hK; refine hK _ ?_; clear hK) | (clear hK; clear hK; refine hK _ ?_; clear hK) | (clear hK; clear hK; clear hK; refine hK _ ?_; clear hK) | (clear hK; clear hK; clear hK; clear hK; refine hK _ ?_; clear hK) | (refine wSeq fun K hK => ?_) | ((first | refine wReg ?_ | refine wDrwQ rfl (by kernel_rfl) ?_ | refine wDrwI ?_ | refine wDrw (by kernel_rfl) ?_); simp only [List.map_cons, List.map_nil, strip]) | ((first | refine wIs fun K hK => ?_ | refine wOs fun K hK => ?_ | refine wQs fun K hK => ?_ | refine CallK_plain ?_ | refine CallQ_plain ?_ | refine CallR_plain ?_ | refine wCond ?_); simp [h0]) | (refine wIn ?_; refine And.intro (by kernel_rfl) ?_; try simp only [thenA_n]) | (first | refine wBlock ?_ | refine wScope ?_) | ((first | refine wRet ?_ | refine wExit ?_ | refine wSkip ?_); try simp) | ((first | refine wLabel ?_ | refine wOn ?_ | refine wQn ?_); try simp only [thenA_n]) | (refine CallE.pure (hc) rfl ?_) | (refine CallE.lent (hc) rfl ?_) | (refine CallF.pure (hc) rfl ?_) | (refine CallF.lent (hc) rfl ?_) | (refine CallE.own (hc) ?_) | (refine CallH.pure (hc) rfl ?_) | (refine CallH.lent (hc) rfl ?_) | (refine CallH.own (hc) ?_)
    all_goals apply hr
    all_goals simp [Tryd.f24]
  subst h0
  rw [rdT_ok] at hc
  rw [if_neg (by simp)]
  obtain ⟨q, hq⟩ : ∃ q, q = a + k := ⟨_, rfl⟩
  rw [← hq] at hc ⊢
  generalize unzz v = n at hc hok1 hok2 ⊢
  have w1 : IntKind.i64.wrap ((b.length : Int) - (q : Int)) = (b.length : Int) - (q : Int) := wrap_id (by omega) (by omega)
  have w4 : IntKind.i64.wrap ((b.length : Int) - (q : Int) - 4) = (b.length : Int) - (q : Int) - 4 := wrap_id (by omega) (by omega)
  by_cases h1 : n < 0
  · rw [if_pos h1]
    unfold frT frR
    simp only [show ¬ (3 : Int) = 0 by decide, if_false]
    refine wBody Tryd.tab Tryd.mixed Tryd.func24 rfl rfl Tryd.ntmps24 (by simp) (by simp) fun Q hr hn => ?_
    repeat' first | (refine hK _ ?_; clear hK) | (refine hK _ _ ?_; clear hK) | (clear hK; refine hK _ ?_; clear hK) | (clear hK; clear hK; refine hK _ ?_; clear hK) | (clear hK; clear hK; clear hK; refine hK _ ?_; clear hK) | (clear hK; clear hK; clear hK; clear hK; refine hK _ ?_; clear hK) | (refine wSeq fun K hK => ?_) | ((first | refine wReg ?_ | refine wDrwQ rfl (by kernel_rfl) ?_ | refine wDrwI ?_ | refine wDrw (by kernel_rfl) ?_); simp only [List.map_cons, List.map_nil, strip]) | ((first | refine wIs fun K hK => ?_ | refine wOs fun K hK => ?_ | refine wQs fun K hK => ?_ | refine CallK_plain ?_ | refine CallQ_plain ?_ | refine CallR_plain ?_ | refine wCond ?_); simp [h1]) | (refine wIn ?_; refine And.intro (by kernel_rfl) ?_; try simp only [thenA_n]) | (first | refine wBlock ?_ | refine wScope ?_) | ((first | refine wRet ?_ | refine wExit ?_ | refine wSkip ?_); try simp) | ((first | refine wLabel ?_ | refine wOn ?_ | refine wQn ?_); try simp only [thenA_n]) | (refine CallE.pure (hc) rfl ?_) | (refine CallE.lent (hc) rfl ?_) | (refine CallF.pure (hc) rfl ?_) | (refine CallF.lent (hc) rfl ?_) | (refine CallE.own (hc) ?_) | (refine CallH.pure (hc) rfl ?_) | (refine CallH.lent (hc) rfl ?_) | (refine CallH.own (hc) ?_)
    all_goals apply hr
    all_goals simp [Tryd.f24]
  rw [if_neg h1]
  by_cases h2 : 65536 < n
  · rw [if_pos h2]
    unfold frT frR
    simp only [show ¬ (5 : Int) = 0 by decide, if_false]
    refine wBody Tryd.tab Tryd.mixed Tryd.func24 rfl rfl Tryd.ntmps24 (by simp) (by simp) fun Q hr hn => ?_
    repeat' first | (refine hK _ ?_; clear hK) | (refine hK _ _ ?_; clear hK) | (clear hK; refine hK _ ?_; clear hK) | (clear hK; clear hK; refine hK _ ?_; clear hK) | (clear hK; clear hK; clear hK; refine hK _ ?_; clear hK) | (clear hK; clear hK; clear hK; clear hK; refine hK _ ?_; clear hK) | (refine wSeq fun K hK => ?_) | ((first | refine wReg ?_ | refine wDrwQ rfl (by kernel_rfl) ?_ | refine wDrwI ?_ | refine wDrw (by kernel_rfl) ?_); simp only [List.map_cons, List.map_nil, strip]) | ((first | refine wIs fun K hK => ?_ | refine wOs fun K hK => ?_ | refine wQs fun K hK => ?_ | refine CallK_plain ?_ | refine CallQ_plain ?_ | refine CallR_plain ?_ | refine wCond ?_); simp [h1, h2]) | (refine wIn ?_; refine And.intro (by kernel_rfl) ?_; try simp only [thenA_n]) | (first | refine wBlock ?_ | refine wScope ?_) | ((first | refine wRet ?_ | refine wExit ?_ | refine wSkip ?_); try simp) | ((first | refine wLabel ?_ | refine wOn ?_ | refine wQn ?_); try simp only [thenA_n]) | (refine CallE.pure (hc) rfl ?_) | (refine CallE.lent (hc) rfl ?_) | (refine CallF.pure (hc) rfl ?_) | (refine CallF.lent (hc) rfl ?_) | (refine CallE.own (hc) ?_) | (refine CallH.pure (hc) rfl ?_) | (refine CallH.lent (hc) rfl ?_) | (refine CallH.own (hc) ?_)
    all_goals apply hr
    all_goals simp [Tryd.f24]
  rw [if_neg h2]
  by_cases h3 : (b.length : Int) - (q : Int) < n + (4 : Nat)
  · rw [if_pos h3]
    unfold frT frR
    simp only [show ¬ (2 : Int) = 0 by decide, if_false]
    by_cases h4 : (b.length : Int) - (q : Int) < 4
    · refine wBody Tryd.tab Tryd.mixed Tryd.func24 rfl rfl Tryd.ntmps24 (by simp) (by simp) fun Q hr hn => ?_
      repeat' first | (refine hK _ ?_; clear hK) | (refine hK _ _ ?_; clear hK) | (clear hK; refine hK _ ?_; clear hK) | (clear hK; clear hK; refine hK _ ?_; clear hK) | (clear hK; clear hK; clear hK; refine hK _ ?_; clear hK) | (clear hK; clear hK; clear hK; clear hK; refine hK _ ?_; clear hK) | (refine wSeq fun K hK => ?_) | ((first | refine wReg ?_ | refine wDrwQ rfl (by kernel_rfl) ?_ | refine wDrwI ?_ | refine wDrw (by kernel_rfl) ?_); simp only [List.map_cons, List.map_nil, strip]) | ((first | refine wIs fun K hK => ?_ | refine wOs fun K hK => ?_ | refine wQs fun K hK => ?_ | refine CallK_plain ?_ | refine CallQ_plain ?_ | refine CallR_plain ?_ | refine wCond ?_); simp [h1, h2, h4, w1, w4]) | (refine wIn ?_; refine And.intro (by kernel_rfl) ?_; try simp only [thenA_n]) | (first | refine wBlock ?_ | refine wScope ?_) | ((first | refine wRet ?_ | refine wExit ?_ | refine wSkip ?_); try simp) | ((first | refine wLabel ?_ | refine wOn ?_ | refine wQn ?_); try simp only [thenA_n]) | (refine CallE.pure (hc) rfl ?_) | (refine CallE.lent (hc) rfl ?_) | (refine CallF.pure (hc) rfl ?_) | (refine CallF.lent (hc) rfl ?_) | (refine CallE.own (hc) ?_) | (refine CallH.pure (hc) rfl ?_) | (refine CallH.lent (hc) rfl ?_) | (refine CallH.own (hc) ?_)
      all_goals apply hr
      all_goals simp [Tryd.f24]
    · have h5 : (b.length : Int) - (q : Int) - 4 < n := by omega
      refine wBody Tryd.tab Tryd.mixed Tryd.func24 rfl rfl Tryd.ntmps24 (by simp) (by simp) fun Q hr hn => ?_
      repeat' first | (refine hK _ ?_; clear hK) | (refine hK _ _ ?_; clear hK) | (clear hK; refine hK _ ?_; clear hK) | (clear hK; clear hK; refine hK _ ?_; clear hK) | (clear hK; clear hK; clear hK; refine hK _ ?_; clear hK) | (clear hK; clear hK; clear hK; clear hK; refine hK _ ?_; clear hK) | (refine wSeq fun K hK => ?_) | ((first | refine wReg ?_ | refine wDrwQ rfl (by kernel_rfl) ?_ | refine wDrwI ?_ | refine wDrw (by kernel_rfl) ?_); simp only [List.map_cons, List.map_nil, strip]) | ((first | refine wIs fun K hK => ?_ | refine wOs fun K hK => ?_ | refine wQs fun K hK => ?_ | refine CallK_plain ?_ | refine CallQ_plain ?_ | refine CallR_plain ?_ | refine wCond ?_); simp [h1, h2, h4, h5, w1, w4]) | (refine wIn ?_; refine And.intro (by kernel_rfl) ?_; try simp only [thenA_n]) | (first | refine wBlock ?_ | refine wScope ?_) | ((first | refine wRet ?_ | refine wExit ?_ | refine wSkip ?_); try simp) | ((first | refine wLabel ?_ | refine wOn ?_ | refine wQn ?_); try simp only [thenA_n]) | (refine CallE.pure (hc) rfl ?_) | (refine CallE.lent (hc) rfl ?_) | (refine CallF.pure (hc) rfl ?_) | (refine CallF.lent (hc) rfl ?_) | (refine CallE.own (hc) ?_) | (refine CallH.pure (hc) rfl ?_) | (refine CallH.lent (hc) rfl ?_) | (refine CallH.own (hc) ?_)
      all_goals apply hr
      all_goals simp [Tryd.f24]
  rw [if_neg h3]
  have h4 : ¬ (b.length : Int) - (q : Int) < 4 := by omega
  have h5 : ¬ (b.length : Int) - (q : Int) - 4 < n := by omega
  obtain ⟨m, rfl⟩ : ∃ m : Nat, n = m := ⟨n.toNat, by omega⟩
  obtain ⟨z, hz⟩ : ∃ z, z = q + m := ⟨_, rfl⟩
  unfold frR
  simp only [Int.toNat_natCast, if_true]
  rw [← hz]
  have w2 : IntKind.i64.wrap ((q : Int) + (m : Int)) = (z : Int) := by rw [wrap_id (by omega) (by omega)]; omega
  have w3 : IntKind.i64.wrap ((z : Int) + 4) = ((z + 4 : Nat) : Int) := by rw [wrap_id (by omega) (by omega)]; omega
  have hzb : z ≤ b.length := by omega
  have hqz : q ≤ z := by omega
  have haz : a ≤ z := by omega
  have ht : (b.take z).drop q = (b.drop q).take m := by rw [hz, List.drop_take]; congr 1; omega
  have d1 := by8_take b z
  have d2 := by8_drop (b.take z) q
  have d3 := by8_drop (b.take z) a
  rw [ht] at d2
  have c2 := crc01_con ((b.take z).drop a) (by rw [List.length_drop, List.length_take]; omega)
  have hs4 : ((b.drop z).take 4).length = 4 := by rw [List.length_take, List.length_drop]; omega
  generalize crc ((b.take z).drop a) = cx at c2 ⊢
  have hsg : ∀ k y (hyb : y < b.length), k < 4 → y = z + k → ((b.drop z).take 4)[k]? = some b[y] := fun k y hyb hk hy => by subst hy; rw [List.getElem?_eq_getElem (by omega), List.getElem_take, List.getElem_drop]
  generalize hsd : (b.drop z).take 4 = s at hs4 hsg ⊢
  generalize (b.take z).drop a = x1 at c2 d3
  by_cases hs : s = le4 cx
  · rw [if_pos hs]
    simp only [frT, if_true]
    rw [← hz]
    generalize hload : (b.drop q).take m = load at d2 ⊢
    have hll : load.length ≤ 1000000000 := by rw [← hload, List.length_take]; omega
    refine Con.toPureT3 (t := 5) ?_
    refine wBodyG Tryd.tab Tryd.mixed Tryd.func24 rfl rfl Tryd.ntmps24 (by simp) (by simp) fun Q hr hn hp => ?_
    repeat' first | (refine hK _ ?_; clear hK) | (refine hK _ _ ?_; clear hK) | (clear hK; refine hK _ ?_; clear hK) | (clear hK; clear hK; refine hK _ ?_; clear hK) | (clear hK; clear hK; clear hK; refine hK _ ?_; clear hK) | (clear hK; clear hK; clear hK; clear hK; refine hK _ ?_; clear hK) | (refine wSeq fun K hK => ?_) | ((first | refine wReg ?_ | refine wDrwQ rfl (by kernel_rfl) ?_ | refine wDrwI ?_ | refine wDrw (by kernel_rfl) ?_); simp only [List.map_cons, List.map_nil, strip]) | ((first | refine wIs fun K hK => ?_ | refine wOs fun K hK => ?_ | refine wQs fun K hK => ?_ | refine CallK_plain ?_ | refine CallQ_plain ?_ | refine CallR_plain ?_ | refine wCond ?_); simp [h1, h2, h4, h5, w1, w2, w4, hzb, hqz, haz, d1, d2, d3]) | (refine wIn ?_; refine And.intro (by kernel_rfl) ?_; try simp only [thenA_n]) | (first | refine wBlock ?_ | refine wScope ?_) | ((first | refine wRet ?_ | refine wExit ?_ | refine wSkip ?_); try simp) | ((first | refine wLabel ?_ | refine wOn ?_ | refine wQn ?_); try simp only [thenA_n]) | (refine CallE.pure (hc) rfl ?_) | (refine CallE.lent (hc) rfl ?_) | (refine CallF.pure (hc) rfl ?_) | (refine CallF.lent (hc) rfl ?_) | (refine CallE.own (hc) ?_) | (refine CallH.pure (hc) rfl ?_) | (refine CallH.lent (hc) rfl ?_) | (refine CallH.own (hc) ?_) | (refine CallE.pure (c2) rfl ?_) | (refine CallE.lent (c2) rfl ?_) | (refine CallF.pure (c2) rfl ?_) | (refine CallF.lent (c2) rfl ?_) | (refine CallE.own (c2) ?_) | (refine CallH.pure (c2) rfl ?_) | (refine CallH.lent (c2) rfl ?_) | (refine CallH.own (c2) ?_)
    refine wLoop (fun N st => ∃ k y, k + N = 4 ∧ y = z + k ∧ st.s 0 = .p (.sl 1 (by8 b)) ∧ st.s 7 = .p (I m) ∧ st.s 8 = .p (I q) ∧ st.s 10 = .p (.v (.int .u32 (cx : Nat))) ∧ st.s 51 = .p (I k)) 4 ⟨0, z, by simp⟩ fun K N st hL ⟨k, y, hk, hy, g0, g7, g8, g10, g51⟩ => ?_
    by_cases hlt : k < 4
    · have hlt' : (k : Int) < 4 := by omega
      have hw := wrapS k 4 hlt (by omega)
      have hwy : IntKind.i64.wrap ((z : Int) + (k : Int)) = (y : Int) := by rw [wrap_id (by omega) (by omega)]; omega
      have hyb : y < b.length := by omega
      have he := by8_get hyb
      have hw8 : IntKind.i64.wrap (8 * (k : Int)) = 8 * (k : Int) := wrap_id (by omega) (by omega)
      have hu8 : IntKind.u64.wrap (8 * (k : Int)) = 8 * (k : Int) := by rw [u64_wrap]; omega
      have hn8 : ¬ 8 * (k : Int) < 0 := by omega
      have ht8 : (8 * (k : Int)).toNat = 8 * k := by omega
      have f := shr8k cx k hlt
      have fw := u8_wrapN (cx / 256 ^ k)
      have hla := le4_at cx k hlt
      have hsk : s[k]'(by omega) = b[y] := by have := hsg k y hyb hlt hy; rw [List.getElem?_eq_getElem (by omega)] at this; exact Option.some.inj this
      generalize hcq : b[y] = c at he hsk
      generalize UInt8.ofNat (cx / 256 ^ k) = d at fw hla
      generalize cx / 256 ^ k = mm at f fw
      have hcd : c = d := by rw [← hsk, ← hla]; simp only [hs]
      subst hcd
      repeat' first | (refine hK _ ?_; clear hK) | (refine hK _ _ ?_; clear hK) | (clear hK; refine hK _ ?_; clear hK) | (clear hK; clear hK; refine hK _ ?_; clear hK) | (clear hK; clear hK; clear hK; refine hK _ ?_; clear hK) | (clear hK; clear hK; clear hK; clear hK; refine hK _ ?_; clear hK) | (refine wSeq fun K hK => ?_) | ((first | refine wReg ?_ | refine wDrwQ rfl (by kernel_rfl) ?_ | refine wDrwI ?_ | refine wDrw (by kernel_rfl) ?_); simp only [List.map_cons, List.map_nil, strip]) | ((first | refine wIs fun K hK => ?_ | refine wOs fun K hK => ?_ | refine wQs fun K hK => ?_ | refine CallK_plain ?_ | refine CallQ_plain ?_ | refine CallR_plain ?_ | refine wCond ?_); simp [g0, g7, g8, g10, g51, hlt, hlt', hw, w2, hwy, hyb, he, hcq, hw8, hu8, hn8, ht8, f, fw]) | (refine wIn ?_; refine And.intro (by kernel_rfl) ?_; try simp only [thenA_n]) | (first | refine wBlock ?_ | refine wScope ?_) | ((first | refine wRet ?_ | refine wExit ?_ | refine wSkip ?_); try simp) | ((first | refine wLabel ?_ | refine wOn ?_ | refine wQn ?_); try simp only [thenA_n])
      refine hL _ (N - 1) (by omega) ⟨k + 1, y + 1, by omega, by omega, ?_⟩
      simp [g0, g7, g8, g10, g51, hw, w2, hwy, hw8, hu8, hn8, ht8, f, fw, hcq]
    · have hk4 : k = 4 := by omega
      subst hk4
      repeat' first | (refine Or.inl ?_) | (refine And.intro (by (try simp only [by8_len]); omega) ?_) | (refine hK _ ?_; clear hK) | (refine hK _ _ ?_; clear hK) | (clear hK; refine hK _ ?_; clear hK) | (clear hK; clear hK; refine hK _ ?_; clear hK) | (clear hK; clear hK; clear hK; refine hK _ ?_; clear hK) | (clear hK; clear hK; clear hK; clear hK; refine hK _ ?_; clear hK) | (refine wSeq fun K hK => ?_) | ((first | refine wReg ?_ | refine wDrwQ rfl (by kernel_rfl) ?_ | refine wDrwI ?_ | refine wDrw (by kernel_rfl) ?_); simp only [List.map_cons, List.map_nil, strip]) | ((first | refine wIs fun K hK => ?_ | refine wOs fun K hK => ?_ | refine wQs fun K hK => ?_ | refine CallK_plain ?_ | refine CallQ_plain ?_ | refine CallR_plain ?_ | refine wCond ?_); simp [g0, g7, g8, g10, g51, w2, w3, hzb, hqz, d1, d2]) | (refine wIn ?_; refine And.intro (by kernel_rfl) ?_; try simp only [thenA_n]) | (first | refine wBlock ?_ | refine wScope ?_) | ((first | refine wRet ?_ | refine wExit ?_ | refine wSkip ?_); try simp) | ((first | refine wLabel ?_ | refine wOn ?_ | refine wQn ?_); try simp only [thenA_n])
      all_goals apply hr
      all_goals refine ⟨[77], by simp, by simp, ?_⟩
      all_goals simp [Tryd.f24, outR, outB, renB, gaN, w2, w3]
  · rw [if_neg hs]
    simp only [frT, show ¬ (4 : Int) = 0 by decide, if_false]
    refine wBody Tryd.tab Tryd.mixed Tryd.func24 rfl rfl Tryd.ntmps24 (by simp) (by simp) fun Q hr hn => ?_
    repeat' first | (refine hK _ ?_; clear hK) | (refine hK _ _ ?_; clear hK) | (clear hK; refine hK _ ?_; clear hK) | (clear hK; clear hK; refine hK _ ?_; clear hK) | (clear hK; clear hK; clear hK; refine hK _ ?_; clear hK) | (clear hK; clear hK; clear hK; clear hK; refine hK _ ?_; clear hK) | (refine wSeq fun K hK => ?_) | ((first | refine wReg ?_ | refine wDrwQ rfl (by kernel_rfl) ?_ | refine wDrwI ?_ | refine wDrw (by kernel_rfl) ?_); simp only [List.map_cons, List.map_nil, strip]) | ((first | refine wIs fun K hK => ?_ | refine wOs fun K hK => ?_ | refine wQs fun K hK => ?_ | refine CallK_plain ?_ | refine CallQ_plain ?_ | refine CallR_plain ?_ | refine wCond ?_); simp [h1, h2, h4, h5, w1, w2, w4, hzb, hqz, haz, d1, d2, d3]) | (refine wIn ?_; refine And.intro (by kernel_rfl) ?_; try simp only [thenA_n]) | (first | refine wBlock ?_ | refine wScope ?_) | ((first | refine wRet ?_ | refine wExit ?_ | refine wSkip ?_); try simp) | ((first | refine wLabel ?_ | refine wOn ?_ | refine wQn ?_); try simp only [thenA_n]) | (refine CallE.pure (hc) rfl ?_) | (refine CallE.lent (hc) rfl ?_) | (refine CallF.pure (hc) rfl ?_) | (refine CallF.lent (hc) rfl ?_) | (refine CallE.own (hc) ?_) | (refine CallH.pure (hc) rfl ?_) | (refine CallH.lent (hc) rfl ?_) | (refine CallH.own (hc) ?_) | (refine CallE.pure (c2) rfl ?_) | (refine CallE.lent (c2) rfl ?_) | (refine CallF.pure (c2) rfl ?_) | (refine CallF.lent (c2) rfl ?_) | (refine CallE.own (c2) ?_) | (refine CallH.pure (c2) rfl ?_) | (refine CallH.lent (c2) rfl ?_) | (refine CallH.own (c2) ?_)
    refine wLoop (fun N st => ∃ k y, k + N = 4 ∧ y = z + k ∧ s.take k = (le4 cx).take k ∧ st.s 0 = .p (.sl 1 (by8 b)) ∧ st.s 7 = .p (I m) ∧ st.s 8 = .p (I q) ∧ st.s 10 = .p (.v (.int .u32 (cx : Nat))) ∧ st.s 51 = .p (I k)) 4 ⟨0, z, by simp⟩ fun K N st hL ⟨k, y, hk, hy, hpre, g0, g7, g8, g10, g51⟩ => ?_
    have hlt : k < 4 := by
      refine Decidable.byContradiction fun hlt => hs ?_
      have hk4 : k = 4 := by omega
      subst hk4
      rwa [List.take_of_length_le (by omega), List.take_of_length_le (by rw [le4_len]; omega)] at hpre
    have hlt' : (k : Int) < 4 := by omega
    have hw := wrapS k 4 hlt (by omega)
    have hwy : IntKind.i64.wrap ((z : Int) + (k : Int)) = (y : Int) := by rw [wrap_id (by omega) (by omega)]; omega
    have hyb : y < b.length := by omega
    have he := by8_get hyb
    have hw8 : IntKind.i64.wrap (8 * (k : Int)) = 8 * (k : Int) := wrap_id (by omega) (by omega)
    have hu8 : IntKind.u64.wrap (8 * (k : Int)) = 8 * (k : Int) := by rw [u64_wrap]; omega
    have hn8 : ¬ 8 * (k : Int) < 0 := by omega
    have ht8 : (8 * (k : Int)).toNat = 8 * k := by omega
    have f := shr8k cx k hlt
    have fw := u8_wrapN (cx / 256 ^ k)
    have hla := le4_at cx k hlt
    have hsk : s[k]'(by omega) = b[y] := by have := hsg k y hyb hlt hy; rw [List.getElem?_eq_getElem (by omega)] at this; exact Option.some.inj this
    generalize hcq : b[y] = c at he hsk
    generalize UInt8.ofNat (cx / 256 ^ k) = d at fw hla
    generalize cx / 256 ^ k = mm at f fw
    by_cases hcd : c = d
    · subst hcd
      repeat' first | (refine hK _ ?_; clear hK) | (refine hK _ _ ?_; clear hK) | (clear hK; refine hK _ ?_; clear hK) | (clear hK; clear hK; refine hK _ ?_; clear hK) | (clear hK; clear hK; clear hK; refine hK _ ?_; clear hK) | (clear hK; clear hK; clear hK; clear hK; refine hK _ ?_; clear hK) | (refine wSeq fun K hK => ?_) | ((first | refine wReg ?_ | refine wDrwQ rfl (by kernel_rfl) ?_ | refine wDrwI ?_ | refine wDrw (by kernel_rfl) ?_); simp only [List.map_cons, List.map_nil, strip]) | ((first | refine wIs fun K hK => ?_ | refine wOs fun K hK => ?_ | refine wQs fun K hK => ?_ | refine CallK_plain ?_ | refine CallQ_plain ?_ | refine CallR_plain ?_ | refine wCond ?_); simp [g0, g7, g8, g10, g51, hlt, hlt', hw, w2, hwy, hyb, he, hcq, hw8, hu8, hn8, ht8, f, fw]) | (refine wIn ?_; refine And.intro (by kernel_rfl) ?_; try simp only [thenA_n]) | (first | refine wBlock ?_ | refine wScope ?_) | ((first | refine wRet ?_ | refine wExit ?_ | refine wSkip ?_); try simp) | ((first | refine wLabel ?_ | refine wOn ?_ | refine wQn ?_); try simp only [thenA_n])
      refine hL _ (N - 1) (by omega) ⟨k + 1, y + 1, by omega, by omega, take_step (by omega) (by rw [le4_len]; omega) hpre (by rw [hsk, hla]), ?_⟩
      simp [g0, g7, g8, g10, g51, hw, w2, hwy, hw8, hu8, hn8, ht8, f, fw, hcq]
    · have hcd1 : ¬ c.toNat = d.toNat := by rw [UInt8.toNat_inj]; exact hcd
      have hcd2 : ¬ (c.toNat : Int) = (d.toNat : Int) := by omega
      repeat' first | (refine hK _ ?_; clear hK) | (refine hK _ _ ?_; clear hK) | (clear hK; refine hK _ ?_; clear hK) | (clear hK; clear hK; refine hK _ ?_; clear hK) | (clear hK; clear hK; clear hK; refine hK _ ?_; clear hK) | (clear hK; clear hK; clear hK; clear hK; refine hK _ ?_; clear hK) | (refine wSeq fun K hK => ?_) | ((first | refine wReg ?_ | refine wDrwQ rfl (by kernel_rfl) ?_ | refine wDrwI ?_ | refine wDrw (by kernel_rfl) ?_); simp only [List.map_cons, List.map_nil, strip]) | ((first | refine wIs fun K hK => ?_ | refine wOs fun K hK => ?_ | refine wQs fun K hK => ?_ | refine CallK_plain ?_ | refine CallQ_plain ?_ | refine CallR_plain ?_ | refine wCond ?_); simp [g0, g7, g8, g10, g51, hlt, hlt', hw, w2, hwy, hyb, he, hcq, hw8, hu8, hn8, ht8, f, fw, hcd, hcd1, hcd2]) | (refine wIn ?_; refine And.intro (by kernel_rfl) ?_; try simp only [thenA_n]) | (first | refine wBlock ?_ | refine wScope ?_) | ((first | refine wRet ?_ | refine wExit ?_ | refine wSkip ?_); try simp) | ((first | refine wLabel ?_ | refine wOn ?_ | refine wQn ?_); try simp only [thenA_n])
      all_goals apply hr
      all_goals simp [Tryd.f24]
end Go.Proofs.YtfilinonmngefaaDoor
