/- The laws of layer 11. -/
import Derived.Test.YtnjnloonlcknkaaSessB
namespace Go.Proofs.Ytnjnloonlcknkaa
set_option linter.unusedSimpArgs false
set_option linter.unusedVariables false
open Go Go.Av
attribute [local simp] Try.T
attribute [local irreducible] Go.Av.CallK Go.Av.CallE Go.Av.CallQ Go.Av.CallF Go.Av.Con

theorem tables_con (t : List Sn) (l : List Int) (span : Int) : ACon Try.prog 3 [.p (.sl 2 (seens t)), .p (.sl 1 (ints l)), .p (I span)] (.p (B true)) := by
  by_cases ht : 300 < t.length
  · have ht' : (300 : Int) < t.length := by omega
    refine wBody Try.tab Try.mixed Try.func3 rfl rfl Try.ntmps3 (by simp) (by simp) fun Q hr hn => ?_
    repeat' first | (refine hK _ ?_; clear hK) | (clear hK; refine hK _ ?_; clear hK) | (clear hK; clear hK; refine hK _ ?_; clear hK) | (clear hK; clear hK; clear hK; refine hK _ ?_; clear hK) | (clear hK; clear hK; clear hK; clear hK; refine hK _ ?_; clear hK) | (refine wSeq fun K hK => ?_) | (refine wReg ?_; simp only [List.map_cons, List.map_nil, strip]) | (refine wDrw (by kernel_rfl) ?_; simp only [List.map_cons, List.map_nil, strip]) | (refine wOs fun K hK => ?_; simp [ht, ht']) | (refine wQs fun K hK => ?_; simp [ht, ht']) | (refine CallK_plain ?_; simp [ht, ht']) | (refine CallQ_plain ?_; simp [ht, ht']) | (refine wRet ?_; try simp) | (refine wCond ?_; simp [ht, ht']) | (refine wBlock ?_) | (refine wExit ?_; try simp) | (refine wSkip ?_; try simp) | (refine wOn ?_; try simp only [thenA_n]) | (refine wQn ?_; try simp only [thenA_n]) | (refine CallE.pure (awake11) rfl ?_) | (refine CallE.lent (awake11) rfl ?_) | (refine CallF.pure (awake11) rfl ?_) | (refine CallF.lent (awake11) rfl ?_) | (refine CallE.own (awake11) ?_)
    apply hr
    simp [Try.f3]
  · have ht' : ¬ (300 : Int) < t.length := by omega
    by_cases hl : 300 < l.length
    · have hl' : (300 : Int) < l.length := by omega
      refine wBody Try.tab Try.mixed Try.func3 rfl rfl Try.ntmps3 (by simp) (by simp) fun Q hr hn => ?_
      repeat' first | (refine hK _ ?_; clear hK) | (clear hK; refine hK _ ?_; clear hK) | (clear hK; clear hK; refine hK _ ?_; clear hK) | (clear hK; clear hK; clear hK; refine hK _ ?_; clear hK) | (clear hK; clear hK; clear hK; clear hK; refine hK _ ?_; clear hK) | (refine wSeq fun K hK => ?_) | (refine wReg ?_; simp only [List.map_cons, List.map_nil, strip]) | (refine wDrw (by kernel_rfl) ?_; simp only [List.map_cons, List.map_nil, strip]) | (refine wOs fun K hK => ?_; simp [ht, ht', hl, hl']) | (refine wQs fun K hK => ?_; simp [ht, ht', hl, hl']) | (refine CallK_plain ?_; simp [ht, ht', hl, hl']) | (refine CallQ_plain ?_; simp [ht, ht', hl, hl']) | (refine wRet ?_; try simp) | (refine wCond ?_; simp [ht, ht', hl, hl']) | (refine wBlock ?_) | (refine wExit ?_; try simp) | (refine wSkip ?_; try simp) | (refine wOn ?_; try simp only [thenA_n]) | (refine wQn ?_; try simp only [thenA_n]) | (refine CallE.pure (awake11) rfl ?_) | (refine CallE.lent (awake11) rfl ?_) | (refine CallF.pure (awake11) rfl ?_) | (refine CallF.lent (awake11) rfl ?_) | (refine CallE.own (awake11) ?_)
      all_goals apply hr
      all_goals simp [Try.f3]
    · have hl' : ¬ (300 : Int) < l.length := by omega
      have h1 := tick_con t (by omega)
      have h2 := tick11_con t (by omega)
      have h3 := renew_con t l span (by omega) (by omega)
      have h4 := renew11_con t l span (by omega) (by omega)
      have h5 := touch_con t l span (by omega)
      have h6 := touch11_con t l span (by omega)
      have h7 := same11_con (renew t l span) (renew t l span)
      have h8 := same11_con (touch t l span) (touch t l span)
      have h9 := same11_con (tick t) (tick t)
      have h10 := ints01_con (overs (tick t)) (overs (tick t))
      rw [decide_eq_true rfl] at h7 h8 h9 h10
      refine wBody Try.tab Try.mixed Try.func3 rfl rfl Try.ntmps3 (by simp) (by simp) fun Q hr hn => ?_
      repeat' first | (refine hK _ ?_; clear hK) | (clear hK; refine hK _ ?_; clear hK) | (clear hK; clear hK; refine hK _ ?_; clear hK) | (clear hK; clear hK; clear hK; refine hK _ ?_; clear hK) | (clear hK; clear hK; clear hK; clear hK; refine hK _ ?_; clear hK) | (refine wSeq fun K hK => ?_) | (refine wReg ?_; simp only [List.map_cons, List.map_nil, strip]) | (refine wDrw (by kernel_rfl) ?_; simp only [List.map_cons, List.map_nil, strip]) | (refine wOs fun K hK => ?_; simp [ht, ht', hl, hl']) | (refine wQs fun K hK => ?_; simp [ht, ht', hl, hl']) | (refine CallK_plain ?_; simp [ht, ht', hl, hl']) | (refine CallQ_plain ?_; simp [ht, ht', hl, hl']) | (refine wRet ?_; try simp) | (refine wCond ?_; simp [ht, ht', hl, hl']) | (refine wBlock ?_) | (refine wExit ?_; try simp) | (refine wSkip ?_; try simp) | (refine wOn ?_; try simp only [thenA_n]) | (refine wQn ?_; try simp only [thenA_n]) | (refine CallE.pure (awake11) rfl ?_) | (refine CallE.lent (awake11) rfl ?_) | (refine CallF.pure (awake11) rfl ?_) | (refine CallF.lent (awake11) rfl ?_) | (refine CallE.own (awake11) ?_) | (refine CallE.pure (h1) rfl ?_) | (refine CallE.lent (h1) rfl ?_) | (refine CallF.pure (h1) rfl ?_) | (refine CallF.lent (h1) rfl ?_) | (refine CallE.own (h1) ?_) | (refine CallE.pure (h2) rfl ?_) | (refine CallE.lent (h2) rfl ?_) | (refine CallF.pure (h2) rfl ?_) | (refine CallF.lent (h2) rfl ?_) | (refine CallE.own (h2) ?_) | (refine CallE.pure (h3) rfl ?_) | (refine CallE.lent (h3) rfl ?_) | (refine CallF.pure (h3) rfl ?_) | (refine CallF.lent (h3) rfl ?_) | (refine CallE.own (h3) ?_) | (refine CallE.pure (h4) rfl ?_) | (refine CallE.lent (h4) rfl ?_) | (refine CallF.pure (h4) rfl ?_) | (refine CallF.lent (h4) rfl ?_) | (refine CallE.own (h4) ?_) | (refine CallE.pure (h5) rfl ?_) | (refine CallE.lent (h5) rfl ?_) | (refine CallF.pure (h5) rfl ?_) | (refine CallF.lent (h5) rfl ?_) | (refine CallE.own (h5) ?_) | (refine CallE.pure (h6) rfl ?_) | (refine CallE.lent (h6) rfl ?_) | (refine CallF.pure (h6) rfl ?_) | (refine CallF.lent (h6) rfl ?_) | (refine CallE.own (h6) ?_) | (refine CallE.pure (h7) rfl ?_) | (refine CallE.lent (h7) rfl ?_) | (refine CallF.pure (h7) rfl ?_) | (refine CallF.lent (h7) rfl ?_) | (refine CallE.own (h7) ?_) | (refine CallE.pure (h8) rfl ?_) | (refine CallE.lent (h8) rfl ?_) | (refine CallF.pure (h8) rfl ?_) | (refine CallF.lent (h8) rfl ?_) | (refine CallE.own (h8) ?_) | (refine CallE.pure (h9) rfl ?_) | (refine CallE.lent (h9) rfl ?_) | (refine CallF.pure (h9) rfl ?_) | (refine CallF.lent (h9) rfl ?_) | (refine CallE.own (h9) ?_) | (refine CallE.pure (h10) rfl ?_) | (refine CallE.lent (h10) rfl ?_) | (refine CallF.pure (h10) rfl ?_) | (refine CallF.lent (h10) rfl ?_) | (refine CallE.own (h10) ?_)
      apply hr
      simp [Try.f3]

def bools (l : List Bool) : List (List PV) := l.map fun b => [B b]
@[simp] theorem bools_len (l : List Bool) : (bools l).length = l.length := by simp [bools]
@[simp] theorem bools_getElem (l : List Bool) (k : Nat) (h : k < (bools l).length) : (bools l)[k] = [B (l[k]'(by simpa using h))] := by simp [bools]

theorem lives_con (id span : Int) (l : List Bool) : ACon Try.prog 4 [.p (I id), .p (I span), .p (.sl 1 (bools l))] (.p (B true)) := by
  by_cases h1 : span < 1
  · refine wBody Try.tab Try.mixed Try.func4 rfl rfl Try.ntmps4 (by simp) (by simp) fun Q hr hn => ?_
    repeat' first | (refine hK _ ?_; clear hK) | (clear hK; refine hK _ ?_; clear hK) | (clear hK; clear hK; refine hK _ ?_; clear hK) | (clear hK; clear hK; clear hK; refine hK _ ?_; clear hK) | (clear hK; clear hK; clear hK; clear hK; refine hK _ ?_; clear hK) | (refine wSeq fun K hK => ?_) | (refine wReg ?_; simp only [List.map_cons, List.map_nil, strip]) | (refine wDrw (by kernel_rfl) ?_; simp only [List.map_cons, List.map_nil, strip]) | (refine wOs fun K hK => ?_; simp [h1]) | (refine wQs fun K hK => ?_; simp [h1]) | (refine CallK_plain ?_; simp [h1]) | (refine CallQ_plain ?_; simp [h1]) | (refine wRet ?_; try simp) | (refine wCond ?_; simp [h1]) | (refine wBlock ?_) | (refine wExit ?_; try simp) | (refine wSkip ?_; try simp) | (refine wOn ?_; try simp only [thenA_n]) | (refine wQn ?_; try simp only [thenA_n]) | (refine CallE.pure (awake11) rfl ?_) | (refine CallE.lent (awake11) rfl ?_) | (refine CallF.pure (awake11) rfl ?_) | (refine CallF.lent (awake11) rfl ?_) | (refine CallE.own (awake11) ?_)
    all_goals apply hr
    all_goals simp [Try.f4]
  by_cases h2 : 1000 < span
  · refine wBody Try.tab Try.mixed Try.func4 rfl rfl Try.ntmps4 (by simp) (by simp) fun Q hr hn => ?_
    repeat' first | (refine hK _ ?_; clear hK) | (clear hK; refine hK _ ?_; clear hK) | (clear hK; clear hK; refine hK _ ?_; clear hK) | (clear hK; clear hK; clear hK; refine hK _ ?_; clear hK) | (clear hK; clear hK; clear hK; clear hK; refine hK _ ?_; clear hK) | (refine wSeq fun K hK => ?_) | (refine wReg ?_; simp only [List.map_cons, List.map_nil, strip]) | (refine wDrw (by kernel_rfl) ?_; simp only [List.map_cons, List.map_nil, strip]) | (refine wOs fun K hK => ?_; simp [h1, h2]) | (refine wQs fun K hK => ?_; simp [h1, h2]) | (refine CallK_plain ?_; simp [h1, h2]) | (refine CallQ_plain ?_; simp [h1, h2]) | (refine wRet ?_; try simp) | (refine wCond ?_; simp [h1, h2]) | (refine wBlock ?_) | (refine wExit ?_; try simp) | (refine wSkip ?_; try simp) | (refine wOn ?_; try simp only [thenA_n]) | (refine wQn ?_; try simp only [thenA_n]) | (refine CallE.pure (awake11) rfl ?_) | (refine CallE.lent (awake11) rfl ?_) | (refine CallF.pure (awake11) rfl ?_) | (refine CallF.lent (awake11) rfl ?_) | (refine CallE.own (awake11) ?_)
    all_goals apply hr
    all_goals simp [Try.f4]
  by_cases h3 : 300 < l.length
  · have h3' : (300 : Int) < l.length := by omega
    refine wBody Try.tab Try.mixed Try.func4 rfl rfl Try.ntmps4 (by simp) (by simp) fun Q hr hn => ?_
    repeat' first | (refine hK _ ?_; clear hK) | (clear hK; refine hK _ ?_; clear hK) | (clear hK; clear hK; refine hK _ ?_; clear hK) | (clear hK; clear hK; clear hK; refine hK _ ?_; clear hK) | (clear hK; clear hK; clear hK; clear hK; refine hK _ ?_; clear hK) | (refine wSeq fun K hK => ?_) | (refine wReg ?_; simp only [List.map_cons, List.map_nil, strip]) | (refine wDrw (by kernel_rfl) ?_; simp only [List.map_cons, List.map_nil, strip]) | (refine wOs fun K hK => ?_; simp [h1, h2, h3, h3']) | (refine wQs fun K hK => ?_; simp [h1, h2, h3, h3']) | (refine CallK_plain ?_; simp [h1, h2, h3, h3']) | (refine CallQ_plain ?_; simp [h1, h2, h3, h3']) | (refine wRet ?_; try simp) | (refine wCond ?_; simp [h1, h2, h3, h3']) | (refine wBlock ?_) | (refine wExit ?_; try simp) | (refine wSkip ?_; try simp) | (refine wOn ?_; try simp only [thenA_n]) | (refine wQn ?_; try simp only [thenA_n]) | (refine CallE.pure (awake11) rfl ?_) | (refine CallE.lent (awake11) rfl ?_) | (refine CallF.pure (awake11) rfl ?_) | (refine CallF.lent (awake11) rfl ?_) | (refine CallE.own (awake11) ?_)
    all_goals apply hr
    all_goals simp [Try.f4]
  have h3' : ¬ (300 : Int) < l.length := by omega
  have hren := renew_con [] [id] span (by simp) (by simp)
  have e1 : renew [] [id] span = [⟨id, span⟩] := rfl
  rw [e1] at hren
  simp only [seens, ints, List.map_nil, List.map_cons, Sn.cells] at hren
  refine wBody Try.tab Try.mixed Try.func4 rfl rfl Try.ntmps4 (by simp) (by simp) fun Q hr hn => ?_
  repeat' first | (refine hK _ ?_; clear hK) | (clear hK; refine hK _ ?_; clear hK) | (clear hK; clear hK; refine hK _ ?_; clear hK) | (clear hK; clear hK; clear hK; refine hK _ ?_; clear hK) | (clear hK; clear hK; clear hK; clear hK; refine hK _ ?_; clear hK) | (refine wSeq fun K hK => ?_) | (refine wReg ?_; simp only [List.map_cons, List.map_nil, strip]) | (refine wDrw (by kernel_rfl) ?_; simp only [List.map_cons, List.map_nil, strip]) | (refine wOs fun K hK => ?_; simp [h1, h2, h3, h3']) | (refine wQs fun K hK => ?_; simp [h1, h2, h3, h3']) | (refine CallK_plain ?_; simp [h1, h2, h3, h3']) | (refine CallQ_plain ?_; simp [h1, h2, h3, h3']) | (refine wRet ?_; try simp) | (refine wCond ?_; simp [h1, h2, h3, h3']) | (refine wBlock ?_) | (refine wExit ?_; try simp) | (refine wSkip ?_; try simp) | (refine wOn ?_; try simp only [thenA_n]) | (refine wQn ?_; try simp only [thenA_n]) | (refine CallE.pure (hren) rfl ?_) | (refine CallE.lent (hren) rfl ?_) | (refine CallF.pure (hren) rfl ?_) | (refine CallF.lent (hren) rfl ?_) | (refine CallE.own (hren) ?_)
  refine wLoop (fun N st => ∃ (k : Nat) (lf since : Int), k + N = l.length ∧ st.s 0 = .p (I id) ∧ st.s 1 = .p (I span) ∧ st.s 7 = .p (.sl 2 [[I id, I lf]]) ∧ st.s 8 = .p (I since) ∧ st.s 29 = .p (.sl 1 (bools l)) ∧ st.s 30 = .p (I l.length) ∧ st.s 31 = .p (I k) ∧
    0 ≤ since ∧ since ≤ k ∧ ((since ≤ span ∧ lf = span - since) ∨ (span < since ∧ lf = 0))) l.length ⟨0, span, 0, by simp; omega⟩ fun K N st hL ⟨k, lf, since, hk, h0, h1', h7, h8, h29, h30, h31, hs0, hsk, hlf⟩ => ?_
  by_cases hlt : k < l.length
  · have hw := wrapS k _ hlt (by omega)
    have key : ∀ (lf since : Int), 0 ≤ since → since ≤ k → ((since ≤ span ∧ lf = span - since) ∨ (span < since ∧ lf = 0)) → ∃ lf' b, ACon Try.prog 10 [.p (.sl 2 [[I id, I lf]])] (.tup [.p (.sl 2 [[I id, I lf']]), .p (.sl 1 (if b then [[I id]] else []))]) ∧ (b = true ↔ span ≤ since + 1) ∧ ((since + 1 ≤ span ∧ lf' = span - (since + 1)) ∨ (span < since + 1 ∧ lf' = 0)) := fun lf since g1 g2 g3 => by
      have ht := tick_con [⟨id, lf⟩] (by simp)
      by_cases hp : 0 < lf
      · have hw1 : IntKind.i64.wrap (lf - 1) = lf - 1 := by rw [wrap_id] <;> omega
        have e2 : tick [⟨id, lf⟩] = [⟨id, lf - 1⟩] := by simp [tick, dec, hp, hw1]
        rw [e2] at ht
        refine ⟨lf - 1, decide (lf - 1 ≤ 0), ?_, by simp; omega, by omega⟩
        by_cases hq : lf - 1 ≤ 0
        · simpa [seens, ints, overs, Sn.cells, hq] using ht
        · simpa [seens, ints, overs, Sn.cells, hq] using ht
      · have e2 : tick [⟨id, lf⟩] = [⟨id, lf⟩] := by simp [tick, dec, hp]
        rw [e2] at ht
        have hq : lf ≤ 0 := by omega
        refine ⟨lf, true, ?_, by simp; omega, by omega⟩
        simpa [seens, ints, overs, Sn.cells, hq] using ht
    by_cases hb : l[k] = true
    · obtain ⟨lf', b, ht, hbi, hlf'⟩ := key span 0 (by omega) (by omega) (by omega)
      have hto := touch_con [⟨id, lf⟩] [id] span (by simp)
      have e3 : touch [⟨id, lf⟩] [id] span = [⟨id, span⟩] := by simp [touch]
      rw [e3] at hto
      simp only [seens, ints, List.map_nil, List.map_cons, Sn.cells] at hto
      have hw3 : IntKind.i64.wrap 1 = 1 := by rw [wrap_id] <;> omega
      cases b with
      | true =>
        have hge : span ≤ 1 := by simpa using hbi.1 rfl
        simp only [if_true] at ht
        repeat' first | (refine hK _ ?_; clear hK) | (clear hK; refine hK _ ?_; clear hK) | (clear hK; clear hK; refine hK _ ?_; clear hK) | (clear hK; clear hK; clear hK; refine hK _ ?_; clear hK) | (clear hK; clear hK; clear hK; clear hK; refine hK _ ?_; clear hK) | (refine wSeq fun K hK => ?_) | (refine wReg ?_; simp only [List.map_cons, List.map_nil, strip]) | (refine wDrw (by kernel_rfl) ?_; simp only [List.map_cons, List.map_nil, strip]) | (refine wOs fun K hK => ?_; simp [h0, h1', h7, h8, h29, h30, h31, hlt, hw, hb, hge, hw3]) | (refine wQs fun K hK => ?_; simp [h0, h1', h7, h8, h29, h30, h31, hlt, hw, hb, hge, hw3]) | (refine CallK_plain ?_; simp [h0, h1', h7, h8, h29, h30, h31, hlt, hw, hb, hge, hw3]) | (refine CallQ_plain ?_; simp [h0, h1', h7, h8, h29, h30, h31, hlt, hw, hb, hge, hw3]) | (refine wRet ?_; try simp) | (refine wCond ?_; simp [h0, h1', h7, h8, h29, h30, h31, hlt, hw, hb, hge, hw3]) | (refine wBlock ?_) | (refine wExit ?_; try simp) | (refine wSkip ?_; try simp) | (refine wOn ?_; try simp only [thenA_n]) | (refine wQn ?_; try simp only [thenA_n]) | (refine CallE.pure (hto) rfl ?_) | (refine CallE.lent (hto) rfl ?_) | (refine CallF.pure (hto) rfl ?_) | (refine CallF.lent (hto) rfl ?_) | (refine CallE.own (hto) ?_) | (refine CallE.pure (ht) rfl ?_) | (refine CallE.lent (ht) rfl ?_) | (refine CallF.pure (ht) rfl ?_) | (refine CallF.lent (ht) rfl ?_) | (refine CallE.own (ht) ?_)
        refine hL _ (N - 1) (by omega) ⟨k + 1, lf', 1, by omega, ?_⟩
        simp [h0, h1', h29, h30, hw, hw3]
        omega
      | false =>
        have hge : ¬ span ≤ 1 := fun h => by have := hbi.2 (by omega); simp at this
        simp only [Bool.false_eq_true, if_false] at ht
        repeat' first | (refine hK _ ?_; clear hK) | (clear hK; refine hK _ ?_; clear hK) | (clear hK; clear hK; refine hK _ ?_; clear hK) | (clear hK; clear hK; clear hK; refine hK _ ?_; clear hK) | (clear hK; clear hK; clear hK; clear hK; refine hK _ ?_; clear hK) | (refine wSeq fun K hK => ?_) | (refine wReg ?_; simp only [List.map_cons, List.map_nil, strip]) | (refine wDrw (by kernel_rfl) ?_; simp only [List.map_cons, List.map_nil, strip]) | (refine wOs fun K hK => ?_; simp [h0, h1', h7, h8, h29, h30, h31, hlt, hw, hb, hge, hw3]) | (refine wQs fun K hK => ?_; simp [h0, h1', h7, h8, h29, h30, h31, hlt, hw, hb, hge, hw3]) | (refine CallK_plain ?_; simp [h0, h1', h7, h8, h29, h30, h31, hlt, hw, hb, hge, hw3]) | (refine CallQ_plain ?_; simp [h0, h1', h7, h8, h29, h30, h31, hlt, hw, hb, hge, hw3]) | (refine wRet ?_; try simp) | (refine wCond ?_; simp [h0, h1', h7, h8, h29, h30, h31, hlt, hw, hb, hge, hw3]) | (refine wBlock ?_) | (refine wExit ?_; try simp) | (refine wSkip ?_; try simp) | (refine wOn ?_; try simp only [thenA_n]) | (refine wQn ?_; try simp only [thenA_n]) | (refine CallE.pure (hto) rfl ?_) | (refine CallE.lent (hto) rfl ?_) | (refine CallF.pure (hto) rfl ?_) | (refine CallF.lent (hto) rfl ?_) | (refine CallE.own (hto) ?_) | (refine CallE.pure (ht) rfl ?_) | (refine CallE.lent (ht) rfl ?_) | (refine CallF.pure (ht) rfl ?_) | (refine CallF.lent (ht) rfl ?_) | (refine CallE.own (ht) ?_)
        refine hL _ (N - 1) (by omega) ⟨k + 1, lf', 1, by omega, ?_⟩
        simp [h0, h1', h29, h30, hw, hw3]
        omega
    · have hb' : l[k] = false := by simpa using hb
      obtain ⟨lf', b, ht, hbi, hlf'⟩ := key lf since hs0 hsk hlf
      have hw3 : IntKind.i64.wrap (since + 1) = since + 1 := by rw [wrap_id] <;> omega
      cases b with
      | true =>
        have hge : span ≤ since + 1 := by simpa using hbi.1 rfl
        simp only [if_true] at ht
        repeat' first | (refine hK _ ?_; clear hK) | (clear hK; refine hK _ ?_; clear hK) | (clear hK; clear hK; refine hK _ ?_; clear hK) | (clear hK; clear hK; clear hK; refine hK _ ?_; clear hK) | (clear hK; clear hK; clear hK; clear hK; refine hK _ ?_; clear hK) | (refine wSeq fun K hK => ?_) | (refine wReg ?_; simp only [List.map_cons, List.map_nil, strip]) | (refine wDrw (by kernel_rfl) ?_; simp only [List.map_cons, List.map_nil, strip]) | (refine wOs fun K hK => ?_; simp [h0, h1', h7, h8, h29, h30, h31, hlt, hw, hb', hge, hw3]) | (refine wQs fun K hK => ?_; simp [h0, h1', h7, h8, h29, h30, h31, hlt, hw, hb', hge, hw3]) | (refine CallK_plain ?_; simp [h0, h1', h7, h8, h29, h30, h31, hlt, hw, hb', hge, hw3]) | (refine CallQ_plain ?_; simp [h0, h1', h7, h8, h29, h30, h31, hlt, hw, hb', hge, hw3]) | (refine wRet ?_; try simp) | (refine wCond ?_; simp [h0, h1', h7, h8, h29, h30, h31, hlt, hw, hb', hge, hw3]) | (refine wBlock ?_) | (refine wExit ?_; try simp) | (refine wSkip ?_; try simp) | (refine wOn ?_; try simp only [thenA_n]) | (refine wQn ?_; try simp only [thenA_n]) | (refine CallE.pure (ht) rfl ?_) | (refine CallE.lent (ht) rfl ?_) | (refine CallF.pure (ht) rfl ?_) | (refine CallF.lent (ht) rfl ?_) | (refine CallE.own (ht) ?_)
        refine hL _ (N - 1) (by omega) ⟨k + 1, lf', since + 1, by omega, ?_⟩
        simp [h0, h1', h29, h30, hw, hw3]
        omega
      | false =>
        have hge : ¬ span ≤ since + 1 := fun h => by have := hbi.2 (by omega); simp at this
        simp only [Bool.false_eq_true, if_false] at ht
        repeat' first | (refine hK _ ?_; clear hK) | (clear hK; refine hK _ ?_; clear hK) | (clear hK; clear hK; refine hK _ ?_; clear hK) | (clear hK; clear hK; clear hK; refine hK _ ?_; clear hK) | (clear hK; clear hK; clear hK; clear hK; refine hK _ ?_; clear hK) | (refine wSeq fun K hK => ?_) | (refine wReg ?_; simp only [List.map_cons, List.map_nil, strip]) | (refine wDrw (by kernel_rfl) ?_; simp only [List.map_cons, List.map_nil, strip]) | (refine wOs fun K hK => ?_; simp [h0, h1', h7, h8, h29, h30, h31, hlt, hw, hb', hge, hw3]) | (refine wQs fun K hK => ?_; simp [h0, h1', h7, h8, h29, h30, h31, hlt, hw, hb', hge, hw3]) | (refine CallK_plain ?_; simp [h0, h1', h7, h8, h29, h30, h31, hlt, hw, hb', hge, hw3]) | (refine CallQ_plain ?_; simp [h0, h1', h7, h8, h29, h30, h31, hlt, hw, hb', hge, hw3]) | (refine wRet ?_; try simp) | (refine wCond ?_; simp [h0, h1', h7, h8, h29, h30, h31, hlt, hw, hb', hge, hw3]) | (refine wBlock ?_) | (refine wExit ?_; try simp) | (refine wSkip ?_; try simp) | (refine wOn ?_; try simp only [thenA_n]) | (refine wQn ?_; try simp only [thenA_n]) | (refine CallE.pure (ht) rfl ?_) | (refine CallE.lent (ht) rfl ?_) | (refine CallF.pure (ht) rfl ?_) | (refine CallF.lent (ht) rfl ?_) | (refine CallE.own (ht) ?_)
        refine hL _ (N - 1) (by omega) ⟨k + 1, lf', since + 1, by omega, ?_⟩
        simp [h0, h1', h29, h30, hw, hw3]
        omega
  · repeat' first | (refine hK _ ?_; clear hK) | (clear hK; refine hK _ ?_; clear hK) | (clear hK; clear hK; refine hK _ ?_; clear hK) | (clear hK; clear hK; clear hK; refine hK _ ?_; clear hK) | (clear hK; clear hK; clear hK; clear hK; refine hK _ ?_; clear hK) | (refine wSeq fun K hK => ?_) | (refine wReg ?_; simp only [List.map_cons, List.map_nil, strip]) | (refine wDrw (by kernel_rfl) ?_; simp only [List.map_cons, List.map_nil, strip]) | (refine wOs fun K hK => ?_; simp [h0, h1', h7, h8, h29, h30, h31, hlt]) | (refine wQs fun K hK => ?_; simp [h0, h1', h7, h8, h29, h30, h31, hlt]) | (refine CallK_plain ?_; simp [h0, h1', h7, h8, h29, h30, h31, hlt]) | (refine CallQ_plain ?_; simp [h0, h1', h7, h8, h29, h30, h31, hlt]) | (refine wRet ?_; try simp) | (refine wCond ?_; simp [h0, h1', h7, h8, h29, h30, h31, hlt]) | (refine wBlock ?_) | (refine wExit ?_; try simp) | (refine wSkip ?_; try simp) | (refine wOn ?_; try simp only [thenA_n]) | (refine wQn ?_; try simp only [thenA_n]) | (refine CallE.pure (awake11) rfl ?_) | (refine CallE.lent (awake11) rfl ?_) | (refine CallF.pure (awake11) rfl ?_) | (refine CallF.lent (awake11) rfl ?_) | (refine CallE.own (awake11) ?_)
    apply hr
    simp [Try.f4]
end Go.Proofs.Ytnjnloonlcknkaa
