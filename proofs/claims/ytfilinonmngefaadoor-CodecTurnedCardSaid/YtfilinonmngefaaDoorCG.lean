/- Int, Text; texts laid; the laws CodecInts, CodecTexts. -/
import Derived.Test.YtfilinonmngefaaDoorCE
import Derived.Test.YtfilinonmngefaaDoorCES
import Derived.Test.YtfilinonmngefaaDoorCF
namespace Go.Proofs.YtfilinonmngefaaDoor
set_option linter.unusedSimpArgs false
set_option linter.unusedVariables false
open Go Go.Av
attribute [local simp] Tryd.T1 Tryd.T2 Tryd.T3 Tryd.T4 Tryd.T5 Tryd.T9 Tryd.T12 Tryd.T15 Tryd.T16 Tryd.T17 Tryd.T21 Tryd.T22 Tryd.T23 Tryd.T24 Tryd.T25 Tryd.T27 Tryd.T28 Tryd.T29 Tryd.T31 Tryd.T32 Tryd.T34 Tryd.T35 Tryd.T36 Tryd.T38 Tryd.T39 Tryd.T41 Tryd.T42 Tryd.T43 Tryd.T44 Tryd.T45 Tryd.T46 Tryd.T47 Tryd.T48 Tryd.T49 Tryd.T50 Tryd.T51 Tryd.T52 Tryd.T53 Tryd.T54 Tryd.T55 Tryd.T56 Tryd.T57 Tryd.T58 Tryd.T59 Tryd.T60 Tryd.T61 Tryd.T62 Tryd.T63 Tryd.T65 Tryd.T66 Tryd.T67 Tryd.T68 Tryd.T69 Tryd.T70 Tryd.T73 Tryd.T78 Tryd.T79
attribute [local irreducible] Go.Av.CallK Go.Av.CallE Go.Av.CallQ Go.Av.CallF Go.Av.CallR Go.Av.CallH Go.Av.Con

theorem intT_shape (b : List UInt8) (at' : Int) : ∃ x y e : Int, intT b at' = .tup [.p (I x), .p (I y), .p (I e)] := by
  unfold intT rdT
  split
  · exact ⟨_, _, _, rfl⟩
  · split
    · exact ⟨_, _, _, rfl⟩
    · exact ⟨_, _, _, rfl⟩
/-- What Int tells. -/
theorem int_con (b : List UInt8) (at' : Int) (hb : b.length ≤ 1000000000) : ACon Tryd.prog 13 [.p (.sl 1 (by8 b)), .p (I at')] (intT b at') := by
  have hc : ACon Tryd.prog 30 [.p (.sl 1 (by8 b)), .p (I at'), .p (.v (.func (.func 31) #[] #[]))] (intT b at') := by
    by_cases h : at' < 0 ∨ (b.length : Int) < at'
    · have := readE_I b at' 31 at' 1 _ rfl (by decide) (rcBad_I b at' _ h)
      unfold intT; rw [if_pos h]; exact this
    · obtain ⟨a, rfl⟩ : ∃ a : Nat, at' = a := ⟨at'.toNat, by omega⟩
      have hn := number_con b a (by omega) hb
      unfold intT
      rw [if_neg h]
      simp only [Int.toNat_natCast]
      generalize rdU 0 0 (b.drop a) = r at hn ⊢
      obtain ⟨e, u, k⟩ := r
      by_cases h0 : e = 0
      · subst h0
        rw [rdO_ok] at hn
        have := read0_I b a 31 (I (unzz u)) ((a + k : Nat) : Int) ⟨_, rfl⟩ _ rfl (rcOk_I b a _ (by omega) _ ⟨_, rfl⟩ hn)
        exact this
      · rw [rdO_err h0] at hn
        have := readE_I b a 31 ((a + k : Nat) : Int) e _ rfl h0 (rcPan_I b a (by omega) _ _ hn)
        rw [rdT_err h0]; exact this
  obtain ⟨x, y, e, hk⟩ := intT_shape b at'
  rw [hk] at hc ⊢
  refine wBody Tryd.tab Tryd.mixed Tryd.func13 rfl rfl Tryd.ntmps13 (by simp) (by simp) fun Q hr hn => ?_
  repeat' first | (refine hK _ ?_; clear hK) | (refine hK _ _ ?_; clear hK) | (clear hK; refine hK _ ?_; clear hK) | (clear hK; clear hK; refine hK _ ?_; clear hK) | (clear hK; clear hK; clear hK; refine hK _ ?_; clear hK) | (clear hK; clear hK; clear hK; clear hK; refine hK _ ?_; clear hK) | (refine wSeq fun K hK => ?_) | ((first | refine wReg ?_ | refine wDrwQ rfl (by kernel_rfl) ?_ | refine wDrwI ?_ | refine wDrw (by kernel_rfl) ?_); simp only [List.map_cons, List.map_nil, strip]) | ((first | refine wIs fun K hK => ?_ | refine wOs fun K hK => ?_ | refine wQs fun K hK => ?_ | refine CallK_plain ?_ | refine CallQ_plain ?_ | refine CallR_plain ?_ | refine wCond ?_); simp) | (refine wIn ?_; refine And.intro (by kernel_rfl) ?_; try simp only [thenA_n]) | (first | refine wBlock ?_ | refine wScope ?_) | ((first | refine wRet ?_ | refine wExit ?_ | refine wSkip ?_); try simp) | ((first | refine wLabel ?_ | refine wOn ?_ | refine wQn ?_); try simp only [thenA_n]) | (refine CallE.pure (hc) rfl ?_) | (refine CallE.lent (hc) rfl ?_) | (refine CallF.pure (hc) rfl ?_) | (refine CallF.lent (hc) rfl ?_) | (refine CallE.own (hc) ?_) | (refine CallH.pure (hc) rfl ?_) | (refine CallH.lent (hc) rfl ?_) | (refine CallH.own (hc) ?_)
  all_goals apply hr
  all_goals simp [Tryd.f13]

def txT (b : List UInt8) (r : Int × Nat × Nat) : V := if r.1 = 0 then .tup [.p (SB ((b.drop r.2.2).take r.2.1)), .p (I ((r.2.2 + r.2.1 : Nat) : Int)), .p (I 0)] else .tup [.p (SB []), .p (I 0), .p (I r.1)]
def textT (b : List UInt8) (at' : Int) : V := if at' < 0 ∨ (b.length : Int) < at' then .tup [.p (SB []), .p (I 0), .p (I 1)] else txT b (lnR b.length at'.toNat 0 (rdU 0 0 (b.drop at'.toNat)))
theorem textT_shape (b : List UInt8) (at' : Int) : ∃ (x : List UInt8) (y e : Int), textT b at' = .tup [.p (SB x), .p (I y), .p (I e)] := by
  unfold textT txT
  split
  · exact ⟨_, _, _, rfl⟩
  · split
    · exact ⟨_, _, _, rfl⟩
    · exact ⟨_, _, _, rfl⟩
theorem text_all (b : List UInt8) (at' : Int) (hb : b.length ≤ 1000000000) : ACon Tryd.prog 17 [.p (.sl 1 (by8 b)), .p (I at')] (textT b at') := by
  have hc : ACon Tryd.prog 32 [.p (.sl 1 (by8 b)), .p (I at'), .p (.v (.func (.func 33) #[] #[]))] (textT b at') := by
    by_cases h : at' < 0 ∨ (b.length : Int) < at'
    · have := readE_S b at' 33 at' 1 _ rfl (by decide) (rcBad_S b at' _ h)
      unfold textT; rw [if_pos h]; exact this
    · obtain ⟨a, rfl⟩ : ∃ a : Nat, at' = a := ⟨at'.toNat, by omega⟩
      have hn := text_con b a (by omega) hb
      unfold textT
      rw [if_neg h]
      simp only [Int.toNat_natCast]
      generalize lnR b.length a 0 (rdU 0 0 (b.drop a)) = r at hn ⊢
      obtain ⟨e, n, q⟩ := r
      unfold txO at hn
      unfold txT
      simp only at hn ⊢
      by_cases h0 : e = 0
      · subst h0
        rw [if_pos rfl] at hn
        have := read0_S b a 33 (SB ((b.drop q).take n)) ((q + n : Nat) : Int) ⟨_, rfl⟩ _ rfl (rcOk_S b a _ (by omega) _ ⟨_, rfl⟩ hn)
        exact this
      · rw [if_neg h0] at hn
        have := readE_S b a 33 (q : Int) e _ rfl h0 (rcPan_S b a (by omega) _ _ hn)
        rw [if_neg h0]; exact this
  obtain ⟨x, y, e, hk⟩ := textT_shape b at'
  rw [hk] at hc ⊢
  refine wBody Tryd.tab Tryd.mixed Tryd.func17 rfl rfl Tryd.ntmps17 (by simp) (by simp) fun Q hr hn => ?_
  repeat' first | (refine hK _ ?_; clear hK) | (refine hK _ _ ?_; clear hK) | (clear hK; refine hK _ ?_; clear hK) | (clear hK; clear hK; refine hK _ ?_; clear hK) | (clear hK; clear hK; clear hK; refine hK _ ?_; clear hK) | (clear hK; clear hK; clear hK; clear hK; refine hK _ ?_; clear hK) | (refine wSeq fun K hK => ?_) | ((first | refine wReg ?_ | refine wDrwQ rfl (by kernel_rfl) ?_ | refine wDrwI ?_ | refine wDrw (by kernel_rfl) ?_); simp only [List.map_cons, List.map_nil, strip]) | ((first | refine wIs fun K hK => ?_ | refine wOs fun K hK => ?_ | refine wQs fun K hK => ?_ | refine CallK_plain ?_ | refine CallQ_plain ?_ | refine CallR_plain ?_ | refine wCond ?_); simp) | (refine wIn ?_; refine And.intro (by kernel_rfl) ?_; try simp only [thenA_n]) | (first | refine wBlock ?_ | refine wScope ?_) | ((first | refine wRet ?_ | refine wExit ?_ | refine wSkip ?_); try simp) | ((first | refine wLabel ?_ | refine wOn ?_ | refine wQn ?_); try simp only [thenA_n]) | (refine CallE.pure (hc) rfl ?_) | (refine CallE.lent (hc) rfl ?_) | (refine CallF.pure (hc) rfl ?_) | (refine CallF.lent (hc) rfl ?_) | (refine CallE.own (hc) ?_) | (refine CallH.pure (hc) rfl ?_) | (refine CallH.lent (hc) rfl ?_) | (refine CallH.own (hc) ?_)
  all_goals apply hr
  all_goals simp [Tryd.f17]

theorem text01_con (b : List UInt8) (at' : Int) (hb : b.length ≤ 1000000000) : ACon Tryd.prog 18 [.p (.sl 1 (by8 b)), .p (I at')] (textT b at') := by
  have hc := int01_con b at' hb
  unfold intT at hc
  unfold textT
  by_cases h : at' < 0 ∨ (b.length : Int) < at'
  · rw [if_pos h] at hc ⊢
    refine wBody Tryd.tab Tryd.mixed Tryd.func18 rfl rfl Tryd.ntmps18 (by simp) (by simp) fun Q hr hn => ?_
    repeat' first | (refine hK _ ?_; clear hK) | (refine hK _ _ ?_; clear hK) | (clear hK; refine hK _ ?_; clear hK) | (clear hK; clear hK; refine hK _ ?_; clear hK) | (clear hK; clear hK; clear hK; refine hK _ ?_; clear hK) | (clear hK; clear hK; clear hK; clear hK; refine hK _ ?_; clear hK) | (refine wSeq fun K hK => ?_) | ((first | refine wReg ?_ | refine wDrwQ rfl (by kernel_rfl) ?_ | refine wDrwI ?_ | refine wDrw (by kernel_rfl) ?_); simp only [List.map_cons, List.map_nil, strip]) | ((first | refine wIs fun K hK => ?_ | refine wOs fun K hK => ?_ | refine wQs fun K hK => ?_ | refine CallK_plain ?_ | refine CallQ_plain ?_ | refine CallR_plain ?_ | refine wCond ?_); simp) | (refine wIn ?_; refine And.intro (by kernel_rfl) ?_; try simp only [thenA_n]) | (first | refine wBlock ?_ | refine wScope ?_) | ((first | refine wRet ?_ | refine wExit ?_ | refine wSkip ?_); try simp) | ((first | refine wLabel ?_ | refine wOn ?_ | refine wQn ?_); try simp only [thenA_n]) | (refine CallE.pure (hc) rfl ?_) | (refine CallE.lent (hc) rfl ?_) | (refine CallF.pure (hc) rfl ?_) | (refine CallF.lent (hc) rfl ?_) | (refine CallE.own (hc) ?_) | (refine CallH.pure (hc) rfl ?_) | (refine CallH.lent (hc) rfl ?_) | (refine CallH.own (hc) ?_)
    all_goals apply hr
    all_goals simp [Tryd.f18]
  rw [if_neg h] at hc ⊢
  obtain ⟨a, rfl⟩ : ∃ a : Nat, at' = a := ⟨at'.toNat, by omega⟩
  simp only [Int.toNat_natCast] at hc ⊢
  obtain ⟨-, hk, hv, -⟩ := rdU_le (b.drop a) 0 0 (by decide) (by omega)
  rw [List.length_drop] at hk
  generalize rdU 0 0 (b.drop a) = r at hc hk hv ⊢
  obtain ⟨e, v, k⟩ := r
  have hok := unzz_ok hv
  obtain ⟨hok1, hok2⟩ := hok
  simp only at hk hv hok1 hok2
  unfold lnR
  simp only
  by_cases h0 : e = 0
  rotate_left
  · rw [if_pos h0]
    rw [rdT_err h0] at hc
    unfold txT
    simp only
    rw [if_neg h0]
    refine wBody Tryd.tab Tryd.mixed Tryd.func18 rfl rfl Tryd.ntmps18 (by simp) (by simp) fun Q hr hn => ?_
    repeat' first | (refine hK _ ?_; clear hK) | (refine hK _ _ ?_; clear hK) | (clear hK; refine hK _ ?_; clear hK) | (clear hK; clear hK; refine hK _ ?_; clear hK) | (clear hK; clear hK; clear hK; refine hK _ ?_; clear hK) | (clear hK; clear hK; clear hK; clear hK; refine hK _ ?_; clear hK) | (refine wSeq fun K hK => ?_) | ((first | refine wReg ?_ | refine wDrwQ rfl (by kernel_rfl) ?_ | refine wDrwI ?_ | refine wDrw (by kernel_rfl) ?_); simp only [List.map_cons, List.map_nil, strip]) | ((first | refine wIs fun K hK => ?_ | refine wOs fun K hK => ?_ | refine wQs fun K hK => ?_ | refine CallK_plain ?_ | refine CallQ_plain ?_ | refine CallR_plain ?_ | refine wCond ?_); simp [h0]) | (refine wIn ?_; refine And.intro (by kernel_rfl) ?_; try simp only [thenA_n]) | (first | refine wBlock ?_ | refine wScope ?_) | ((first | refine wRet ?_ | refine wExit ?_ | refine wSkip ?_); try simp) | ((first | refine wLabel ?_ | refine wOn ?_ | refine wQn ?_); try simp only [thenA_n]) | (refine CallE.pure (hc) rfl ?_) | (refine CallE.lent (hc) rfl ?_) | (refine CallF.pure (hc) rfl ?_) | (refine CallF.lent (hc) rfl ?_) | (refine CallE.own (hc) ?_) | (refine CallH.pure (hc) rfl ?_) | (refine CallH.lent (hc) rfl ?_) | (refine CallH.own (hc) ?_)
    all_goals apply hr
    all_goals simp [Tryd.f18]
  subst h0
  rw [rdT_ok] at hc
  rw [if_neg (by simp)]
  obtain ⟨q, hq⟩ : ∃ q, q = a + k := ⟨_, rfl⟩
  rw [← hq] at hc ⊢
  generalize unzz v = n at hc hok1 hok2 ⊢
  have w1 : IntKind.i64.wrap ((b.length : Int) - (q : Int)) = (b.length : Int) - (q : Int) := wrap_id (by omega) (by omega)
  by_cases h1 : n < 0
  · rw [if_pos h1]
    simp only [txT]
    rw [if_neg (by decide)]
    refine wBody Tryd.tab Tryd.mixed Tryd.func18 rfl rfl Tryd.ntmps18 (by simp) (by simp) fun Q hr hn => ?_
    repeat' first | (refine hK _ ?_; clear hK) | (refine hK _ _ ?_; clear hK) | (clear hK; refine hK _ ?_; clear hK) | (clear hK; clear hK; refine hK _ ?_; clear hK) | (clear hK; clear hK; clear hK; refine hK _ ?_; clear hK) | (clear hK; clear hK; clear hK; clear hK; refine hK _ ?_; clear hK) | (refine wSeq fun K hK => ?_) | ((first | refine wReg ?_ | refine wDrwQ rfl (by kernel_rfl) ?_ | refine wDrwI ?_ | refine wDrw (by kernel_rfl) ?_); simp only [List.map_cons, List.map_nil, strip]) | ((first | refine wIs fun K hK => ?_ | refine wOs fun K hK => ?_ | refine wQs fun K hK => ?_ | refine CallK_plain ?_ | refine CallQ_plain ?_ | refine CallR_plain ?_ | refine wCond ?_); simp [h1]) | (refine wIn ?_; refine And.intro (by kernel_rfl) ?_; try simp only [thenA_n]) | (first | refine wBlock ?_ | refine wScope ?_) | ((first | refine wRet ?_ | refine wExit ?_ | refine wSkip ?_); try simp) | ((first | refine wLabel ?_ | refine wOn ?_ | refine wQn ?_); try simp only [thenA_n]) | (refine CallE.pure (hc) rfl ?_) | (refine CallE.lent (hc) rfl ?_) | (refine CallF.pure (hc) rfl ?_) | (refine CallF.lent (hc) rfl ?_) | (refine CallE.own (hc) ?_) | (refine CallH.pure (hc) rfl ?_) | (refine CallH.lent (hc) rfl ?_) | (refine CallH.own (hc) ?_)
    all_goals apply hr
    all_goals simp [Tryd.f18]
  rw [if_neg h1]
  by_cases h2 : 65536 < n
  · rw [if_pos h2]
    simp only [txT]
    rw [if_neg (by decide)]
    refine wBody Tryd.tab Tryd.mixed Tryd.func18 rfl rfl Tryd.ntmps18 (by simp) (by simp) fun Q hr hn => ?_
    repeat' first | (refine hK _ ?_; clear hK) | (refine hK _ _ ?_; clear hK) | (clear hK; refine hK _ ?_; clear hK) | (clear hK; clear hK; refine hK _ ?_; clear hK) | (clear hK; clear hK; clear hK; refine hK _ ?_; clear hK) | (clear hK; clear hK; clear hK; clear hK; refine hK _ ?_; clear hK) | (refine wSeq fun K hK => ?_) | ((first | refine wReg ?_ | refine wDrwQ rfl (by kernel_rfl) ?_ | refine wDrwI ?_ | refine wDrw (by kernel_rfl) ?_); simp only [List.map_cons, List.map_nil, strip]) | ((first | refine wIs fun K hK => ?_ | refine wOs fun K hK => ?_ | refine wQs fun K hK => ?_ | refine CallK_plain ?_ | refine CallQ_plain ?_ | refine CallR_plain ?_ | refine wCond ?_); simp [h1, h2]) | (refine wIn ?_; refine And.intro (by kernel_rfl) ?_; try simp only [thenA_n]) | (first | refine wBlock ?_ | refine wScope ?_) | ((first | refine wRet ?_ | refine wExit ?_ | refine wSkip ?_); try simp) | ((first | refine wLabel ?_ | refine wOn ?_ | refine wQn ?_); try simp only [thenA_n]) | (refine CallE.pure (hc) rfl ?_) | (refine CallE.lent (hc) rfl ?_) | (refine CallF.pure (hc) rfl ?_) | (refine CallF.lent (hc) rfl ?_) | (refine CallE.own (hc) ?_) | (refine CallH.pure (hc) rfl ?_) | (refine CallH.lent (hc) rfl ?_) | (refine CallH.own (hc) ?_)
    all_goals apply hr
    all_goals simp [Tryd.f18]
  rw [if_neg h2]
  by_cases h3 : (b.length : Int) - (q : Int) < n + (0 : Nat)
  · rw [if_pos h3]
    simp only [txT]
    rw [if_neg (by decide)]
    have h3' : (b.length : Int) - (q : Int) < n := by omega
    refine wBody Tryd.tab Tryd.mixed Tryd.func18 rfl rfl Tryd.ntmps18 (by simp) (by simp) fun Q hr hn => ?_
    repeat' first | (refine hK _ ?_; clear hK) | (refine hK _ _ ?_; clear hK) | (clear hK; refine hK _ ?_; clear hK) | (clear hK; clear hK; refine hK _ ?_; clear hK) | (clear hK; clear hK; clear hK; refine hK _ ?_; clear hK) | (clear hK; clear hK; clear hK; clear hK; refine hK _ ?_; clear hK) | (refine wSeq fun K hK => ?_) | ((first | refine wReg ?_ | refine wDrwQ rfl (by kernel_rfl) ?_ | refine wDrwI ?_ | refine wDrw (by kernel_rfl) ?_); simp only [List.map_cons, List.map_nil, strip]) | ((first | refine wIs fun K hK => ?_ | refine wOs fun K hK => ?_ | refine wQs fun K hK => ?_ | refine CallK_plain ?_ | refine CallQ_plain ?_ | refine CallR_plain ?_ | refine wCond ?_); simp [h1, h2, h3', w1]) | (refine wIn ?_; refine And.intro (by kernel_rfl) ?_; try simp only [thenA_n]) | (first | refine wBlock ?_ | refine wScope ?_) | ((first | refine wRet ?_ | refine wExit ?_ | refine wSkip ?_); try simp) | ((first | refine wLabel ?_ | refine wOn ?_ | refine wQn ?_); try simp only [thenA_n]) | (refine CallE.pure (hc) rfl ?_) | (refine CallE.lent (hc) rfl ?_) | (refine CallF.pure (hc) rfl ?_) | (refine CallF.lent (hc) rfl ?_) | (refine CallE.own (hc) ?_) | (refine CallH.pure (hc) rfl ?_) | (refine CallH.lent (hc) rfl ?_) | (refine CallH.own (hc) ?_)
    all_goals apply hr
    all_goals simp [Tryd.f18]
  rw [if_neg h3]
  have h3' : ¬ (b.length : Int) - (q : Int) < n := by omega
  obtain ⟨m, rfl⟩ : ∃ m : Nat, n = m := ⟨n.toNat, by omega⟩
  simp only [txT, Int.toNat_natCast]
  rw [if_pos trivial]
  obtain ⟨z, hz⟩ : ∃ z, z = q + m := ⟨_, rfl⟩
  rw [← hz]
  have w2 : IntKind.i64.wrap ((q : Int) + (m : Int)) = (z : Int) := by rw [wrap_id (by omega) (by omega)]; omega
  have hzb : z ≤ b.length := by omega
  have hqz : q ≤ z := by omega
  have ht : (b.take z).drop q = (b.drop q).take m := by rw [hz, List.drop_take]; congr 1; omega
  have d1 := by8_take b z
  have d2 := by8_drop (b.take z) q
  rw [ht] at d2
  have u1 := unL_by8 ((b.drop q).take m)
  have u2 := strOf_by8 ((b.drop q).take m)
  generalize (b.drop q).take m = s at d2 u1 u2 ⊢
  refine wBody Tryd.tab Tryd.mixed Tryd.func18 rfl rfl Tryd.ntmps18 (by simp) (by simp) fun Q hr hn => ?_
  repeat' first | (refine hK _ ?_; clear hK) | (refine hK _ _ ?_; clear hK) | (clear hK; refine hK _ ?_; clear hK) | (clear hK; clear hK; refine hK _ ?_; clear hK) | (clear hK; clear hK; clear hK; refine hK _ ?_; clear hK) | (clear hK; clear hK; clear hK; clear hK; refine hK _ ?_; clear hK) | (refine wSeq fun K hK => ?_) | ((first | refine wReg ?_ | refine wDrwQ rfl (by kernel_rfl) ?_ | refine wDrwI ?_ | refine wDrw (by kernel_rfl) ?_); simp only [List.map_cons, List.map_nil, strip]) | ((first | refine wIs fun K hK => ?_ | refine wOs fun K hK => ?_ | refine wQs fun K hK => ?_ | refine CallK_plain ?_ | refine CallQ_plain ?_ | refine CallR_plain ?_ | refine wCond ?_); simp [h1, h2, h3', w1, w2, hzb, hqz, d1, d2, u1, u2]) | (refine wIn ?_; refine And.intro (by kernel_rfl) ?_; try simp only [thenA_n]) | (first | refine wBlock ?_ | refine wScope ?_) | ((first | refine wRet ?_ | refine wExit ?_ | refine wSkip ?_); try simp) | ((first | refine wLabel ?_ | refine wOn ?_ | refine wQn ?_); try simp only [thenA_n]) | (refine CallE.pure (hc) rfl ?_) | (refine CallE.lent (hc) rfl ?_) | (refine CallF.pure (hc) rfl ?_) | (refine CallF.lent (hc) rfl ?_) | (refine CallE.own (hc) ?_) | (refine CallH.pure (hc) rfl ?_) | (refine CallH.lent (hc) rfl ?_) | (refine CallH.own (hc) ?_)
  all_goals apply hr
  all_goals simp [Tryd.f18]
end Go.Proofs.YtfilinonmngefaaDoor
