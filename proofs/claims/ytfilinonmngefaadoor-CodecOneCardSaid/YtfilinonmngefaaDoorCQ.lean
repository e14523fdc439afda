/- The law CodecOne: there is one form. -/
import Derived.Test.YtfilinonmngefaaDoorCP
namespace Go.Proofs.YtfilinonmngefaaDoor
set_option linter.unusedSimpArgs false
set_option linter.unusedVariables false
open Go Go.Av
attribute [local simp] Tryd.T1 Tryd.T2 Tryd.T3 Tryd.T4 Tryd.T5 Tryd.T9 Tryd.T12 Tryd.T15 Tryd.T16 Tryd.T17 Tryd.T21 Tryd.T22 Tryd.T23 Tryd.T24 Tryd.T25 Tryd.T27 Tryd.T28 Tryd.T29 Tryd.T31 Tryd.T32 Tryd.T34 Tryd.T35 Tryd.T36 Tryd.T38 Tryd.T39 Tryd.T41 Tryd.T42 Tryd.T43 Tryd.T44 Tryd.T45 Tryd.T46 Tryd.T47 Tryd.T48 Tryd.T49 Tryd.T50 Tryd.T51 Tryd.T52 Tryd.T53 Tryd.T54 Tryd.T55 Tryd.T56 Tryd.T57 Tryd.T58 Tryd.T59 Tryd.T60 Tryd.T61 Tryd.T62 Tryd.T63 Tryd.T65 Tryd.T66 Tryd.T67 Tryd.T68 Tryd.T69 Tryd.T70 Tryd.T73 Tryd.T78 Tryd.T79
attribute [local irreducible] Go.Av.CallK Go.Av.CallE Go.Av.CallQ Go.Av.CallF Go.Av.CallR Go.Av.CallH Go.Av.Con
theorem intT_one (b : List UInt8) (a : Nat) (ha : a ≤ b.length) : (∃ (x : Int) (k : Nat), intT b a = .tup [.p (I x), .p (I k), .p (I 0)] ∧ okI x ∧ a < k ∧ k ≤ b.length ∧ b.take a ++ enc (zz x) = b.take k) ∨ (∃ x y e : Int, ¬ e = 0 ∧ intT b a = .tup [.p (I x), .p (I y), .p (I e)]) := by
  unfold intT
  rw [if_neg (by omega), Int.toNat_natCast]
  obtain ⟨-, -, hv, -⟩ := rdU_le (b.drop a) 0 0 (by decide) (by omega)
  generalize hr : rdU 0 0 (b.drop a) = r at hv ⊢
  obtain ⟨e, u, k⟩ := r
  simp only at hv
  by_cases h0 : e = 0
  · subst h0
    obtain ⟨g1, g2, g3⟩ := took_int ha hr
    exact .inl ⟨unzz u, a + k, rdT_ok, unzz_ok hv, g1, g2, by rw [zz_unzz]; exact g3⟩
  · exact .inr ⟨0, 0, e, h0, rdT_err h0⟩
theorem textT_one (b : List UInt8) (a : Nat) (ha : a ≤ b.length) : (∃ (x : List UInt8) (k : Nat), textT b a = .tup [.p (SB x), .p (I k), .p (I 0)] ∧ x.length ≤ 65536 ∧ a < k ∧ k ≤ b.length ∧ b.take a ++ (enc (zz x.length) ++ x) = b.take k) ∨ (∃ (x : List UInt8) (y e : Int), ¬ e = 0 ∧ textT b a = .tup [.p (SB x), .p (I y), .p (I e)]) := by
  unfold textT
  rw [if_neg (by omega), Int.toNat_natCast]
  generalize hr : lnR b.length a 0 (rdU 0 0 (b.drop a)) = r
  obtain ⟨e, n, q⟩ := r
  unfold txT
  simp only
  by_cases h0 : e = 0
  · subst h0
    obtain ⟨g1, g2, g3, g4, g5⟩ := took_text ha hr
    refine .inl ⟨(b.drop q).take n, q + n, by rw [if_pos rfl], by omega, g1, g2, by rw [g3]; exact g5⟩
  · exact .inr ⟨[], 0, e, h0, by rw [if_neg h0]⟩
theorem openT_one (b : List UInt8) (a : Nat) (ha : a ≤ b.length) : (∃ (x : List UInt8) (k : Nat), openT b a = .tup [.p (.sl 1 (by8 x)), .p (I k), .p (I 0)] ∧ x.length ≤ 65536 ∧ a < k ∧ k ≤ b.length ∧ frm x = (b.take k).drop a) ∨ (∃ (x : List UInt8) (y e : Int), ¬ e = 0 ∧ openT b a = .tup [.p (.sl 1 (by8 x)), .p (I y), .p (I e)]) := by
  unfold openT
  rw [if_neg (by omega), Int.toNat_natCast]
  by_cases h0 : (opR b a).1 = 0
  · obtain ⟨h1, h2, h3, -, -⟩ := opR_ok h0
    obtain ⟨h4, h5⟩ := took_frm ha h0
    generalize opR b a = r at h0 h1 h2 h3 h4 h5 ⊢
    obtain ⟨e, n, q⟩ := r
    simp only at h0 h1 h2 h3 h4 h5
    subst h0
    refine .inl ⟨(b.drop q).take n, q + n + 4, rfl, by omega, by omega, by omega, ?_⟩
    rw [← h5]
    have : (b.take a).length = a := by rw [List.length_take]; omega
    conv => rhs; rw [show a = (b.take a).length from this.symm]
    rw [show (b.take a).length = a from this]
    conv => rhs; arg 1; rw [← this]
    simp
  · refine .inr ⟨[], 0, (opR b a).1, h0, ?_⟩
    unfold frT
    rw [if_neg h0]; rfl
theorem take_len {b : List UInt8} {k : Nat} (h : k ≤ b.length) : (b.take k).length = k := by rw [List.length_take]; omega

set_option maxHeartbeats 4000000 in
theorem oneO {Q : AExit → St → Prop} {st : St} (b : List UInt8) (a : Nat) (hb : b.length ≤ 3000) (ha : a ≤ b.length) (hret : ∀ st, st.s 4 = .p (B true) → Q .ret st) (g0 : st.s 0 = .p (.sl 1 (by8 b))) (g1 : st.s 1 = .p (I a)) :
    WC Tryd.prog Tryd.T 134 (sfx Tryd.f7 4) Q st := by
  have c := open_con b a (by omega)
  unfold sfx
  simp only [Tryd.f7, sfxC]
  rcases openT_one b a ha with ⟨x, k, h1, h2, h3, h4, h5⟩ | ⟨x, y, e, h0, h1⟩
  · rw [h1] at c
    have cs := seal_con x (by omega)
    unfold sealT at cs
    rw [if_neg (by omega), h5] at cs
    have d1 := by8_take b k
    have d2 := by8_drop (b.take k) a
    generalize (b.take k).drop a = z at cs d2
    have u := unL_by8 z
    have v := strOf_by8 z
    have k1 : ¬ (k : Int) ≤ a := by omega
    have k2 : ¬ (b.length : Int) < k := by omega
    have k3 : ¬ k ≤ a := by omega
    have k4 : ¬ b.length < k := by omega
    have k5 : a ≤ k := by omega
    have k6 : (a : Int) ≤ k := by omega
    have k7 : (k : Int) ≤ b.length := by omega
    repeat' first | (refine hK _ ?_; clear hK) | (refine hK _ _ ?_; clear hK) | (clear hK; refine hK _ ?_; clear hK) | (clear hK; clear hK; refine hK _ ?_; clear hK) | (clear hK; clear hK; clear hK; refine hK _ ?_; clear hK) | (clear hK; clear hK; clear hK; clear hK; refine hK _ ?_; clear hK) | (refine wSeq fun K hK => ?_) | ((first | refine wReg ?_ | refine wDrwQ rfl (by kernel_rfl) ?_ | refine wDrwI ?_ | refine wDrw (by kernel_rfl) ?_); simp only [List.map_cons, List.map_nil, strip]) | ((first | refine wIs fun K hK => ?_ | refine wOs fun K hK => ?_ | refine wQs fun K hK => ?_ | refine CallK_plain ?_ | refine CallQ_plain ?_ | refine CallR_plain ?_ | refine wCond ?_); simp [g0, g1, d1, d2, u, v, k1, k2, k3, k4, k5, k6, k7, h4, ha]) | (refine wIn ?_; refine And.intro (by kernel_rfl) ?_; try simp only [thenA_n]) | (first | refine wBlock ?_ | refine wScope ?_) | ((first | refine wRet ?_ | refine wExit ?_ | refine wSkip ?_); try simp) | ((first | refine wLabel ?_ | refine wOn ?_ | refine wQn ?_); try simp only [thenA_n]) | (refine CallE.pure (c) rfl ?_) | (refine CallE.lent (c) rfl ?_) | (refine CallF.pure (c) rfl ?_) | (refine CallF.lent (c) rfl ?_) | (refine CallE.own (c) ?_) | (refine CallH.pure (c) rfl ?_) | (refine CallH.lent (c) rfl ?_) | (refine CallH.own (c) ?_) | (refine CallE.pure (cs) rfl ?_) | (refine CallE.lent (cs) rfl ?_) | (refine CallF.pure (cs) rfl ?_) | (refine CallF.lent (cs) rfl ?_) | (refine CallE.own (cs) ?_) | (refine CallH.pure (cs) rfl ?_) | (refine CallH.lent (cs) rfl ?_) | (refine CallH.own (cs) ?_) | (refine CallE.pure (awake01) rfl ?_) | (refine CallE.lent (awake01) rfl ?_) | (refine CallF.pure (awake01) rfl ?_) | (refine CallF.lent (awake01) rfl ?_) | (refine CallE.own (awake01) ?_) | (refine CallH.pure (awake01) rfl ?_) | (refine CallH.lent (awake01) rfl ?_) | (refine CallH.own (awake01) ?_)
    all_goals apply hret
    all_goals simp
  · rw [h1] at c
    repeat' first | (refine hK _ ?_; clear hK) | (refine hK _ _ ?_; clear hK) | (clear hK; refine hK _ ?_; clear hK) | (clear hK; clear hK; refine hK _ ?_; clear hK) | (clear hK; clear hK; clear hK; refine hK _ ?_; clear hK) | (clear hK; clear hK; clear hK; clear hK; refine hK _ ?_; clear hK) | (refine wSeq fun K hK => ?_) | ((first | refine wReg ?_ | refine wDrwQ rfl (by kernel_rfl) ?_ | refine wDrwI ?_ | refine wDrw (by kernel_rfl) ?_); simp only [List.map_cons, List.map_nil, strip]) | ((first | refine wIs fun K hK => ?_ | refine wOs fun K hK => ?_ | refine wQs fun K hK => ?_ | refine CallK_plain ?_ | refine CallQ_plain ?_ | refine CallR_plain ?_ | refine wCond ?_); simp [g0, g1, h0]) | (refine wIn ?_; refine And.intro (by kernel_rfl) ?_; try simp only [thenA_n]) | (first | refine wBlock ?_ | refine wScope ?_) | ((first | refine wRet ?_ | refine wExit ?_ | refine wSkip ?_); try simp) | ((first | refine wLabel ?_ | refine wOn ?_ | refine wQn ?_); try simp only [thenA_n]) | (refine CallE.pure (c) rfl ?_) | (refine CallE.lent (c) rfl ?_) | (refine CallF.pure (c) rfl ?_) | (refine CallF.lent (c) rfl ?_) | (refine CallE.own (c) ?_) | (refine CallH.pure (c) rfl ?_) | (refine CallH.lent (c) rfl ?_) | (refine CallH.own (c) ?_) | (refine CallE.pure (awake01) rfl ?_) | (refine CallE.lent (awake01) rfl ?_) | (refine CallF.pure (awake01) rfl ?_) | (refine CallF.lent (awake01) rfl ?_) | (refine CallE.own (awake01) ?_) | (refine CallH.pure (awake01) rfl ?_) | (refine CallH.lent (awake01) rfl ?_) | (refine CallH.own (awake01) ?_)
    all_goals apply hret
    all_goals simp
set_option maxHeartbeats 4000000 in
theorem oneT {Q : AExit → St → Prop} {st : St} (b : List UInt8) (a : Nat) (hb : b.length ≤ 3000) (ha : a ≤ b.length) (hret : ∀ st, st.s 4 = .p (B true) → Q .ret st) (g0 : st.s 0 = .p (.sl 1 (by8 b))) (g1 : st.s 1 = .p (I a)) :
    WC Tryd.prog Tryd.T 134 (sfx Tryd.f7 3) Q st := by
  have hS := fun {st} h h' => oneO (Q := Q) (st := st) b a hb ha hret h h'
  have c := text_all b a (by omega)
  unfold sfx at hS ⊢
  simp only [Tryd.f7, sfxC] at hS ⊢
  rcases textT_one b a ha with ⟨x, k, h1, h2, h3, h4, h5⟩ | ⟨x, y, e, h0, h1⟩
  · rw [h1] at c
    have cs := (putText_con (b.take a) x (by rw [take_len ha]; omega) (by omega)).toPure
    rw [h5] at cs
    have d1 := by8_take b k
    have d2 := by8_take b a
    have u := unL_by8 (b.take k)
    have v := strOf_by8 (b.take k)
    generalize b.take k = z at cs d1 u v
    generalize b.take a = w at cs d2
    have k1 : ¬ (k : Int) ≤ a := by omega
    have k2 : ¬ (b.length : Int) < k := by omega
    have k3 : ¬ k ≤ a := by omega
    have k4 : ¬ b.length < k := by omega
    repeat' first | (refine hS ?_ ?_) | (refine hK _ ?_; clear hK) | (refine hK _ _ ?_; clear hK) | (clear hK; refine hK _ ?_; clear hK) | (clear hK; clear hK; refine hK _ ?_; clear hK) | (clear hK; clear hK; clear hK; refine hK _ ?_; clear hK) | (clear hK; clear hK; clear hK; clear hK; refine hK _ ?_; clear hK) | (refine wSeq fun K hK => ?_) | ((first | refine wReg ?_ | refine wDrwQ rfl (by kernel_rfl) ?_ | refine wDrwI ?_ | refine wDrw (by kernel_rfl) ?_); simp only [List.map_cons, List.map_nil, strip]) | ((first | refine wIs fun K hK => ?_ | refine wOs fun K hK => ?_ | refine wQs fun K hK => ?_ | refine CallK_plain ?_ | refine CallQ_plain ?_ | refine CallR_plain ?_ | refine wCond ?_); simp [g0, g1, d1, d2, u, v, k1, k2, k3, k4, h4, ha]) | (refine wIn ?_; refine And.intro (by kernel_rfl) ?_; try simp only [thenA_n]) | (first | refine wBlock ?_ | refine wScope ?_) | ((first | refine wRet ?_ | refine wExit ?_ | refine wSkip ?_); try simp) | ((first | refine wLabel ?_ | refine wOn ?_ | refine wQn ?_); try simp only [thenA_n]) | (refine CallE.pure (c) rfl ?_) | (refine CallE.lent (c) rfl ?_) | (refine CallF.pure (c) rfl ?_) | (refine CallF.lent (c) rfl ?_) | (refine CallE.own (c) ?_) | (refine CallH.pure (c) rfl ?_) | (refine CallH.lent (c) rfl ?_) | (refine CallH.own (c) ?_) | (refine CallE.pure (cs) rfl ?_) | (refine CallE.lent (cs) rfl ?_) | (refine CallF.pure (cs) rfl ?_) | (refine CallF.lent (cs) rfl ?_) | (refine CallE.own (cs) ?_) | (refine CallH.pure (cs) rfl ?_) | (refine CallH.lent (cs) rfl ?_) | (refine CallH.own (cs) ?_)
    all_goals simp [g0, g1]
  · rw [h1] at c
    repeat' first | (refine hS ?_ ?_) | (refine hK _ ?_; clear hK) | (refine hK _ _ ?_; clear hK) | (clear hK; refine hK _ ?_; clear hK) | (clear hK; clear hK; refine hK _ ?_; clear hK) | (clear hK; clear hK; clear hK; refine hK _ ?_; clear hK) | (clear hK; clear hK; clear hK; clear hK; refine hK _ ?_; clear hK) | (refine wSeq fun K hK => ?_) | ((first | refine wReg ?_ | refine wDrwQ rfl (by kernel_rfl) ?_ | refine wDrwI ?_ | refine wDrw (by kernel_rfl) ?_); simp only [List.map_cons, List.map_nil, strip]) | ((first | refine wIs fun K hK => ?_ | refine wOs fun K hK => ?_ | refine wQs fun K hK => ?_ | refine CallK_plain ?_ | refine CallQ_plain ?_ | refine CallR_plain ?_ | refine wCond ?_); simp [g0, g1, h0]) | (refine wIn ?_; refine And.intro (by kernel_rfl) ?_; try simp only [thenA_n]) | (first | refine wBlock ?_ | refine wScope ?_) | ((first | refine wRet ?_ | refine wExit ?_ | refine wSkip ?_); try simp) | ((first | refine wLabel ?_ | refine wOn ?_ | refine wQn ?_); try simp only [thenA_n]) | (refine CallE.pure (c) rfl ?_) | (refine CallE.lent (c) rfl ?_) | (refine CallF.pure (c) rfl ?_) | (refine CallF.lent (c) rfl ?_) | (refine CallE.own (c) ?_) | (refine CallH.pure (c) rfl ?_) | (refine CallH.lent (c) rfl ?_) | (refine CallH.own (c) ?_)
    all_goals simp [g0, g1]
set_option maxHeartbeats 4000000 in
theorem oneI {Q : AExit → St → Prop} {st : St} (b : List UInt8) (a : Nat) (hb : b.length ≤ 3000) (ha : a ≤ b.length) (hret : ∀ st, st.s 4 = .p (B true) → Q .ret st) (g0 : st.s 0 = .p (.sl 1 (by8 b))) (g1 : st.s 1 = .p (I a)) :
    WC Tryd.prog Tryd.T 134 (sfx Tryd.f7 2) Q st := by
  have hS := fun {st} h h' => oneT (Q := Q) (st := st) b a hb ha hret h h'
  have c := int_con b a (by omega)
  unfold sfx at hS ⊢
  simp only [Tryd.f7, sfxC] at hS ⊢
  rcases intT_one b a ha with ⟨x, k, h1, h2, h3, h4, h5⟩ | ⟨x, y, e, h0, h1⟩
  · rw [h1] at c
    have cs := (putInt_con (b.take a) x h2 (by rw [take_len ha]; omega)).toPure
    rw [h5] at cs
    have d1 := by8_take b k
    have d2 := by8_take b a
    have u := unL_by8 (b.take k)
    have v := strOf_by8 (b.take k)
    generalize b.take k = z at cs d1 u v
    generalize b.take a = w at cs d2
    have k1 : ¬ (k : Int) ≤ a := by omega
    have k2 : ¬ (b.length : Int) < k := by omega
    have k3 : ¬ k ≤ a := by omega
    have k4 : ¬ b.length < k := by omega
    repeat' first | (refine hS ?_ ?_) | (refine hK _ ?_; clear hK) | (refine hK _ _ ?_; clear hK) | (clear hK; refine hK _ ?_; clear hK) | (clear hK; clear hK; refine hK _ ?_; clear hK) | (clear hK; clear hK; clear hK; refine hK _ ?_; clear hK) | (clear hK; clear hK; clear hK; clear hK; refine hK _ ?_; clear hK) | (refine wSeq fun K hK => ?_) | ((first | refine wReg ?_ | refine wDrwQ rfl (by kernel_rfl) ?_ | refine wDrwI ?_ | refine wDrw (by kernel_rfl) ?_); simp only [List.map_cons, List.map_nil, strip]) | ((first | refine wIs fun K hK => ?_ | refine wOs fun K hK => ?_ | refine wQs fun K hK => ?_ | refine CallK_plain ?_ | refine CallQ_plain ?_ | refine CallR_plain ?_ | refine wCond ?_); simp [g0, g1, d1, d2, u, v, k1, k2, k3, k4, h4, ha]) | (refine wIn ?_; refine And.intro (by kernel_rfl) ?_; try simp only [thenA_n]) | (first | refine wBlock ?_ | refine wScope ?_) | ((first | refine wRet ?_ | refine wExit ?_ | refine wSkip ?_); try simp) | ((first | refine wLabel ?_ | refine wOn ?_ | refine wQn ?_); try simp only [thenA_n]) | (refine CallE.pure (c) rfl ?_) | (refine CallE.lent (c) rfl ?_) | (refine CallF.pure (c) rfl ?_) | (refine CallF.lent (c) rfl ?_) | (refine CallE.own (c) ?_) | (refine CallH.pure (c) rfl ?_) | (refine CallH.lent (c) rfl ?_) | (refine CallH.own (c) ?_) | (refine CallE.pure (cs) rfl ?_) | (refine CallE.lent (cs) rfl ?_) | (refine CallF.pure (cs) rfl ?_) | (refine CallF.lent (cs) rfl ?_) | (refine CallE.own (cs) ?_) | (refine CallH.pure (cs) rfl ?_) | (refine CallH.lent (cs) rfl ?_) | (refine CallH.own (cs) ?_)
    all_goals simp [g0, g1]
  · rw [h1] at c
    repeat' first | (refine hS ?_ ?_) | (refine hK _ ?_; clear hK) | (refine hK _ _ ?_; clear hK) | (clear hK; refine hK _ ?_; clear hK) | (clear hK; clear hK; refine hK _ ?_; clear hK) | (clear hK; clear hK; clear hK; refine hK _ ?_; clear hK) | (clear hK; clear hK; clear hK; clear hK; refine hK _ ?_; clear hK) | (refine wSeq fun K hK => ?_) | ((first | refine wReg ?_ | refine wDrwQ rfl (by kernel_rfl) ?_ | refine wDrwI ?_ | refine wDrw (by kernel_rfl) ?_); simp only [List.map_cons, List.map_nil, strip]) | ((first | refine wIs fun K hK => ?_ | refine wOs fun K hK => ?_ | refine wQs fun K hK => ?_ | refine CallK_plain ?_ | refine CallQ_plain ?_ | refine CallR_plain ?_ | refine wCond ?_); simp [g0, g1, h0]) | (refine wIn ?_; refine And.intro (by kernel_rfl) ?_; try simp only [thenA_n]) | (first | refine wBlock ?_ | refine wScope ?_) | ((first | refine wRet ?_ | refine wExit ?_ | refine wSkip ?_); try simp) | ((first | refine wLabel ?_ | refine wOn ?_ | refine wQn ?_); try simp only [thenA_n]) | (refine CallE.pure (c) rfl ?_) | (refine CallE.lent (c) rfl ?_) | (refine CallF.pure (c) rfl ?_) | (refine CallF.lent (c) rfl ?_) | (refine CallE.own (c) ?_) | (refine CallH.pure (c) rfl ?_) | (refine CallH.lent (c) rfl ?_) | (refine CallH.own (c) ?_)
    all_goals simp [g0, g1]
set_option maxHeartbeats 4000000 in
theorem codecOne_con (b : List UInt8) (a : Int) : ACon Tryd.prog 7 [.p (.sl 1 (by8 b)), .p (I a)] (.p (B true)) := by
  by_cases h1 : 3000 < b.length
  · have h1' : (3000 : Int) < b.length := by omega
    refine wBody Tryd.tab Tryd.mixed Tryd.func7 rfl rfl Tryd.ntmps7 (by simp) (by simp) fun Q hr hn => ?_
    repeat' first | (refine hK _ ?_; clear hK) | (refine hK _ _ ?_; clear hK) | (clear hK; refine hK _ ?_; clear hK) | (clear hK; clear hK; refine hK _ ?_; clear hK) | (clear hK; clear hK; clear hK; refine hK _ ?_; clear hK) | (clear hK; clear hK; clear hK; clear hK; refine hK _ ?_; clear hK) | (refine wSeq fun K hK => ?_) | ((first | refine wReg ?_ | refine wDrwQ rfl (by kernel_rfl) ?_ | refine wDrwI ?_ | refine wDrw (by kernel_rfl) ?_); simp only [List.map_cons, List.map_nil, strip]) | ((first | refine wIs fun K hK => ?_ | refine wOs fun K hK => ?_ | refine wQs fun K hK => ?_ | refine CallK_plain ?_ | refine CallQ_plain ?_ | refine CallR_plain ?_ | refine wCond ?_); simp [h1, h1']) | (refine wIn ?_; refine And.intro (by kernel_rfl) ?_; try simp only [thenA_n]) | (first | refine wBlock ?_ | refine wScope ?_) | ((first | refine wRet ?_ | refine wExit ?_ | refine wSkip ?_); try simp) | ((first | refine wLabel ?_ | refine wOn ?_ | refine wQn ?_); try simp only [thenA_n]) | (refine CallE.pure (awake01) rfl ?_) | (refine CallE.lent (awake01) rfl ?_) | (refine CallF.pure (awake01) rfl ?_) | (refine CallF.lent (awake01) rfl ?_) | (refine CallE.own (awake01) ?_) | (refine CallH.pure (awake01) rfl ?_) | (refine CallH.lent (awake01) rfl ?_) | (refine CallH.own (awake01) ?_)
    all_goals apply hr
    all_goals simp [Tryd.f7]
  have h1' : ¬ (3000 : Int) < b.length := by omega
  by_cases h2 : a < 0
  · refine wBody Tryd.tab Tryd.mixed Tryd.func7 rfl rfl Tryd.ntmps7 (by simp) (by simp) fun Q hr hn => ?_
    repeat' first | (refine hK _ ?_; clear hK) | (refine hK _ _ ?_; clear hK) | (clear hK; refine hK _ ?_; clear hK) | (clear hK; clear hK; refine hK _ ?_; clear hK) | (clear hK; clear hK; clear hK; refine hK _ ?_; clear hK) | (clear hK; clear hK; clear hK; clear hK; refine hK _ ?_; clear hK) | (refine wSeq fun K hK => ?_) | ((first | refine wReg ?_ | refine wDrwQ rfl (by kernel_rfl) ?_ | refine wDrwI ?_ | refine wDrw (by kernel_rfl) ?_); simp only [List.map_cons, List.map_nil, strip]) | ((first | refine wIs fun K hK => ?_ | refine wOs fun K hK => ?_ | refine wQs fun K hK => ?_ | refine CallK_plain ?_ | refine CallQ_plain ?_ | refine CallR_plain ?_ | refine wCond ?_); simp [h1, h1', h2]) | (refine wIn ?_; refine And.intro (by kernel_rfl) ?_; try simp only [thenA_n]) | (first | refine wBlock ?_ | refine wScope ?_) | ((first | refine wRet ?_ | refine wExit ?_ | refine wSkip ?_); try simp) | ((first | refine wLabel ?_ | refine wOn ?_ | refine wQn ?_); try simp only [thenA_n]) | (refine CallE.pure (awake01) rfl ?_) | (refine CallE.lent (awake01) rfl ?_) | (refine CallF.pure (awake01) rfl ?_) | (refine CallF.lent (awake01) rfl ?_) | (refine CallE.own (awake01) ?_) | (refine CallH.pure (awake01) rfl ?_) | (refine CallH.lent (awake01) rfl ?_) | (refine CallH.own (awake01) ?_)
    all_goals apply hr
    all_goals simp [Tryd.f7]
  by_cases h3 : (b.length : Int) < a
  · refine wBody Tryd.tab Tryd.mixed Tryd.func7 rfl rfl Tryd.ntmps7 (by simp) (by simp) fun Q hr hn => ?_
    repeat' first | (refine hK _ ?_; clear hK) | (refine hK _ _ ?_; clear hK) | (clear hK; refine hK _ ?_; clear hK) | (clear hK; clear hK; refine hK _ ?_; clear hK) | (clear hK; clear hK; clear hK; refine hK _ ?_; clear hK) | (clear hK; clear hK; clear hK; clear hK; refine hK _ ?_; clear hK) | (refine wSeq fun K hK => ?_) | ((first | refine wReg ?_ | refine wDrwQ rfl (by kernel_rfl) ?_ | refine wDrwI ?_ | refine wDrw (by kernel_rfl) ?_); simp only [List.map_cons, List.map_nil, strip]) | ((first | refine wIs fun K hK => ?_ | refine wOs fun K hK => ?_ | refine wQs fun K hK => ?_ | refine CallK_plain ?_ | refine CallQ_plain ?_ | refine CallR_plain ?_ | refine wCond ?_); simp [h1, h1', h2, h3]) | (refine wIn ?_; refine And.intro (by kernel_rfl) ?_; try simp only [thenA_n]) | (first | refine wBlock ?_ | refine wScope ?_) | ((first | refine wRet ?_ | refine wExit ?_ | refine wSkip ?_); try simp) | ((first | refine wLabel ?_ | refine wOn ?_ | refine wQn ?_); try simp only [thenA_n]) | (refine CallE.pure (awake01) rfl ?_) | (refine CallE.lent (awake01) rfl ?_) | (refine CallF.pure (awake01) rfl ?_) | (refine CallF.lent (awake01) rfl ?_) | (refine CallE.own (awake01) ?_) | (refine CallH.pure (awake01) rfl ?_) | (refine CallH.lent (awake01) rfl ?_) | (refine CallH.own (awake01) ?_)
    all_goals apply hr
    all_goals simp [Tryd.f7]
  obtain ⟨a, rfl⟩ : ∃ n : Nat, a = n := ⟨a.toNat, by omega⟩
  have h3' : ¬ b.length < a := by omega
  have h2' : ¬ a < 0 := by omega
  have hS := fun (Q : AExit → St → Prop) {st} hq h h' => oneI (Q := Q) (st := st) b a (by omega) (by omega) hq h h'
  unfold sfx at hS
  simp only [Tryd.f7, sfxC] at hS
  refine wBody Tryd.tab Tryd.mixed Tryd.func7 rfl rfl Tryd.ntmps7 (by simp) (by simp) fun Q hr hn => ?_
  repeat' first | (refine hS Q (fun st h4 => hr st (by simp [Tryd.f7, h4])) ?_ ?_) | (refine hK _ ?_; clear hK) | (refine hK _ _ ?_; clear hK) | (clear hK; refine hK _ ?_; clear hK) | (clear hK; clear hK; refine hK _ ?_; clear hK) | (clear hK; clear hK; clear hK; refine hK _ ?_; clear hK) | (clear hK; clear hK; clear hK; clear hK; refine hK _ ?_; clear hK) | (refine wSeq fun K hK => ?_) | ((first | refine wReg ?_ | refine wDrwQ rfl (by kernel_rfl) ?_ | refine wDrwI ?_ | refine wDrw (by kernel_rfl) ?_); simp only [List.map_cons, List.map_nil, strip]) | ((first | refine wIs fun K hK => ?_ | refine wOs fun K hK => ?_ | refine wQs fun K hK => ?_ | refine CallK_plain ?_ | refine CallQ_plain ?_ | refine CallR_plain ?_ | refine wCond ?_); simp [h1, h1', h2, h3, h2', h3']) | (refine wIn ?_; refine And.intro (by kernel_rfl) ?_; try simp only [thenA_n]) | (first | refine wBlock ?_ | refine wScope ?_) | ((first | refine wRet ?_ | refine wExit ?_ | refine wSkip ?_); try simp) | ((first | refine wLabel ?_ | refine wOn ?_ | refine wQn ?_); try simp only [thenA_n]) | (refine CallE.pure (awake01) rfl ?_) | (refine CallE.lent (awake01) rfl ?_) | (refine CallF.pure (awake01) rfl ?_) | (refine CallF.lent (awake01) rfl ?_) | (refine CallE.own (awake01) ?_) | (refine CallH.pure (awake01) rfl ?_) | (refine CallH.lent (awake01) rfl ?_) | (refine CallH.own (awake01) ?_)
  all_goals simp
end Go.Proofs.YtfilinonmngefaaDoor
