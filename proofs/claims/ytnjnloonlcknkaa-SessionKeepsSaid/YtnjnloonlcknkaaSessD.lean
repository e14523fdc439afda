/- Two laws more of layer 11. -/
import Derived.Test.YtnjnloonlcknkaaSessB
namespace Go.Proofs.Ytnjnloonlcknkaa
set_option linter.unusedSimpArgs false
set_option linter.unusedVariables false
open Go Go.Av
attribute [local simp] Try.T
attribute [local irreducible] Go.Av.CallK Go.Av.CallE Go.Av.CallQ Go.Av.CallF Go.Av.Con

theorem rowOf_cons (a : Sn) (r : List Sn) (s span : Int) : rowOf (a :: r) s span = if a.id = s then a else rowOf r s span := by
  unfold rowOf
  by_cases h : a.id = s <;> simp [h]
theorem keeps_con (t : List Sn) (l : List Int) (span : Int) : ACon Try.prog 5 [.p (.sl 2 (seens t)), .p (.sl 1 (ints l)), .p (I span)] (.p (B true)) := by
  by_cases ht : 300 < t.length
  · have ht' : (300 : Int) < t.length := by omega
    refine wBody Try.tab Try.mixed Try.func5 rfl rfl Try.ntmps5 (by simp) (by simp) fun Q hr hn => ?_
    repeat' first | (refine hK _ ?_; clear hK) | (clear hK; refine hK _ ?_; clear hK) | (clear hK; clear hK; refine hK _ ?_; clear hK) | (clear hK; clear hK; clear hK; refine hK _ ?_; clear hK) | (clear hK; clear hK; clear hK; clear hK; refine hK _ ?_; clear hK) | (refine wSeq fun K hK => ?_) | (refine wReg ?_; simp only [List.map_cons, List.map_nil, strip]) | (refine wDrw (by kernel_rfl) ?_; simp only [List.map_cons, List.map_nil, strip]) | (refine wOs fun K hK => ?_; simp [ht, ht']) | (refine wQs fun K hK => ?_; simp [ht, ht']) | (refine CallK_plain ?_; simp [ht, ht']) | (refine CallQ_plain ?_; simp [ht, ht']) | (refine wRet ?_; try simp) | (refine wCond ?_; simp [ht, ht']) | (refine wBlock ?_) | (refine wExit ?_; try simp) | (refine wSkip ?_; try simp) | (refine wOn ?_; try simp only [thenA_n]) | (refine wQn ?_; try simp only [thenA_n]) | (refine CallE.pure (awake11) rfl ?_) | (refine CallE.lent (awake11) rfl ?_) | (refine CallF.pure (awake11) rfl ?_) | (refine CallF.lent (awake11) rfl ?_) | (refine CallE.own (awake11) ?_)
    apply hr
    simp [Try.f5]
  have ht' : ¬ (300 : Int) < t.length := by omega
  by_cases hl : 300 < l.length
  · have hl' : (300 : Int) < l.length := by omega
    refine wBody Try.tab Try.mixed Try.func5 rfl rfl Try.ntmps5 (by simp) (by simp) fun Q hr hn => ?_
    repeat' first | (refine hK _ ?_; clear hK) | (clear hK; refine hK _ ?_; clear hK) | (clear hK; clear hK; refine hK _ ?_; clear hK) | (clear hK; clear hK; clear hK; refine hK _ ?_; clear hK) | (clear hK; clear hK; clear hK; clear hK; refine hK _ ?_; clear hK) | (refine wSeq fun K hK => ?_) | (refine wReg ?_; simp only [List.map_cons, List.map_nil, strip]) | (refine wDrw (by kernel_rfl) ?_; simp only [List.map_cons, List.map_nil, strip]) | (refine wOs fun K hK => ?_; simp [ht, ht', hl, hl']) | (refine wQs fun K hK => ?_; simp [ht, ht', hl, hl']) | (refine CallK_plain ?_; simp [ht, ht', hl, hl']) | (refine CallQ_plain ?_; simp [ht, ht', hl, hl']) | (refine wRet ?_; try simp) | (refine wCond ?_; simp [ht, ht', hl, hl']) | (refine wBlock ?_) | (refine wExit ?_; try simp) | (refine wSkip ?_; try simp) | (refine wOn ?_; try simp only [thenA_n]) | (refine wQn ?_; try simp only [thenA_n]) | (refine CallE.pure (awake11) rfl ?_) | (refine CallE.lent (awake11) rfl ?_) | (refine CallF.pure (awake11) rfl ?_) | (refine CallF.lent (awake11) rfl ?_) | (refine CallE.own (awake11) ?_)
    all_goals apply hr
    all_goals simp [Try.f5]
  have hl' : ¬ (300 : Int) < l.length := by omega
  have c1 := renew_con t l span (by omega) (by omega)
  have hxl : (renew t l span).length = l.length := by simp [renew]
  have c2 := renew_con (renew t l span) l span (by omega) (by omega)
  have hget : ∀ (k : Nat) (h : k < l.length) (h' : k < (renew t l span).length), (renew t l span)[k] = rowOf t l[k] span := fun k h h' => by simp [renew]
  have again : renew (renew t l span) l span = renew t l span := by
    have h1 : ∀ n ∈ l, rowOf (renew t l span) n span = rowOf t n span := fun n hn => by
      have hid : ∀ m, (rowOf t m span).id = m := fun m => by
        unfold rowOf
        cases hf : t.find? (fun r => decide (r.id = m)) with
        | none => rfl
        | some r => have := List.find?_some hf; simpa using this
      have : (renew t l span).find? (fun r => decide (r.id = n)) = some (rowOf t n span) := by
        unfold renew
        rw [List.find?_map]
        have h2 : l.find? ((fun r => decide (Sn.id r = n)) ∘ fun m => rowOf t m span) = some n := by
          have e : ((fun r => decide (Sn.id r = n)) ∘ fun m => rowOf t m span) = fun m => decide (m = n) := funext fun m => by simp [hid]
          rw [e]
          cases h3 : l.find? (fun m => decide (m = n)) with
          | none => rw [List.find?_eq_none] at h3; exact absurd (by simp) (h3 n hn)
          | some m => have := List.find?_some h3; simp at this; rw [this]
        rw [h2]; rfl
      conv => lhs; unfold rowOf
      rw [this]; rfl
    conv => lhs; unfold renew
    conv => rhs; unfold renew
    exact List.map_congr_left h1
  rw [again] at c2
  have c3 := same11_con (renew t l span) (renew t l span)
  rw [decide_eq_true rfl] at c3
  clear again
  generalize renew t l span = xs at c1 c2 c3 hxl hget
  have hxl' : (xs.length : Int) = l.length := by omega
  refine wBody Try.tab Try.mixed Try.func5 rfl rfl Try.ntmps5 (by simp) (by simp) fun Q hr hn => ?_
  repeat' first | (refine hK _ ?_; clear hK) | (clear hK; refine hK _ ?_; clear hK) | (clear hK; clear hK; refine hK _ ?_; clear hK) | (clear hK; clear hK; clear hK; refine hK _ ?_; clear hK) | (clear hK; clear hK; clear hK; clear hK; refine hK _ ?_; clear hK) | (refine wSeq fun K hK => ?_) | (refine wReg ?_; simp only [List.map_cons, List.map_nil, strip]) | (refine wDrw (by kernel_rfl) ?_; simp only [List.map_cons, List.map_nil, strip]) | (refine wOs fun K hK => ?_; simp [ht, ht', hl, hl', hxl, hxl']) | (refine wQs fun K hK => ?_; simp [ht, ht', hl, hl', hxl, hxl']) | (refine CallK_plain ?_; simp [ht, ht', hl, hl', hxl, hxl']) | (refine CallQ_plain ?_; simp [ht, ht', hl, hl', hxl, hxl']) | (refine wRet ?_; try simp) | (refine wCond ?_; simp [ht, ht', hl, hl', hxl, hxl']) | (refine wBlock ?_) | (refine wExit ?_; try simp) | (refine wSkip ?_; try simp) | (refine wOn ?_; try simp only [thenA_n]) | (refine wQn ?_; try simp only [thenA_n]) | (refine CallE.pure (c1) rfl ?_) | (refine CallE.lent (c1) rfl ?_) | (refine CallF.pure (c1) rfl ?_) | (refine CallF.lent (c1) rfl ?_) | (refine CallE.own (c1) ?_) | (refine CallE.pure (c2) rfl ?_) | (refine CallE.lent (c2) rfl ?_) | (refine CallF.pure (c2) rfl ?_) | (refine CallF.lent (c2) rfl ?_) | (refine CallE.own (c2) ?_) | (refine CallE.pure (c3) rfl ?_) | (refine CallE.lent (c3) rfl ?_) | (refine CallF.pure (c3) rfl ?_) | (refine CallF.lent (c3) rfl ?_) | (refine CallE.own (c3) ?_)
  refine wLoop (fun N st => ∃ k : Nat, k + N = l.length ∧ st.s 0 = .p (.sl 2 (seens t)) ∧ st.s 2 = .p (I span) ∧ st.s 7 = .p (.sl 2 (seens xs)) ∧ st.s 40 = .p (.sl 1 (ints l)) ∧ st.s 41 = .p (I l.length) ∧ st.s 42 = .p (I k)) l.length ⟨0, by simp⟩ fun K N st hL ⟨k, hk, h0, h2, h7, h40, h41, h42⟩ => ?_
  by_cases hlt : k < l.length
  · have hw := wrapS k _ hlt (by omega)
    have hxk : k < xs.length := by omega
    have hx := hget k hlt hxk
    repeat' first | (refine hK _ ?_; clear hK) | (clear hK; refine hK _ ?_; clear hK) | (clear hK; clear hK; refine hK _ ?_; clear hK) | (clear hK; clear hK; clear hK; refine hK _ ?_; clear hK) | (clear hK; clear hK; clear hK; clear hK; refine hK _ ?_; clear hK) | (refine wSeq fun K hK => ?_) | (refine wReg ?_; simp only [List.map_cons, List.map_nil, strip]) | (refine wDrw (by kernel_rfl) ?_; simp only [List.map_cons, List.map_nil, strip]) | (refine wOs fun K hK => ?_; simp [h0, h2, h7, h40, h41, h42, hlt, hw]) | (refine wQs fun K hK => ?_; simp [h0, h2, h7, h40, h41, h42, hlt, hw]) | (refine CallK_plain ?_; simp [h0, h2, h7, h40, h41, h42, hlt, hw]) | (refine CallQ_plain ?_; simp [h0, h2, h7, h40, h41, h42, hlt, hw]) | (refine wRet ?_; try simp) | (refine wCond ?_; simp [h0, h2, h7, h40, h41, h42, hlt, hw]) | (refine wBlock ?_) | (refine wExit ?_; try simp) | (refine wSkip ?_; try simp) | (refine wOn ?_; try simp only [thenA_n]) | (refine wQn ?_; try simp only [thenA_n])
    refine wLoop (fun N st => ∃ (j : Nat) (fd : Bool), j + N = t.length ∧ st.s 0 = .p (.sl 2 (seens t)) ∧ st.s 2 = .p (I span) ∧ st.s 7 = .p (.sl 2 (seens xs)) ∧ st.s 8 = .p (I k) ∧ st.s 9 = .p (I l[k]) ∧ st.s 10 = .p (B fd) ∧ st.s 40 = .p (.sl 1 (ints l)) ∧ st.s 41 = .p (I l.length) ∧ st.s 42 = .p (I k) ∧
      st.s 47 = .p (.sl 2 (seens t)) ∧ st.s 48 = .p (I t.length) ∧ st.s 49 = .p (I j) ∧ (fd = false → rowOf t l[k] span = rowOf (t.drop j) l[k] span)) t.length ⟨0, false, by simp [h0, h2, h7, h40, h41, h42]⟩ fun K' N' st' hL' ⟨j, fd, hj, g0, g2, g7, g8, g9, g10, g40, g41, g42, g47, g48, g49, hfd⟩ => ?_
    by_cases hjt : j < t.length
    · have hwj := wrapS j _ hjt (by omega)
      rw [List.drop_eq_getElem_cons hjt] at hfd
      by_cases hc : t[j].id = l[k]
      · cases fd with
        | false =>
          have hr1 : xs[k] = t[j] := by rw [hx, hfd rfl, rowOf_cons, if_pos hc]
          have e1 : xs[k].id = t[j].id := by rw [hr1]
          have e2 : xs[k].lf = t[j].lf := by rw [hr1]
          repeat' first | (refine hK _ ?_; clear hK) | (clear hK; refine hK _ ?_; clear hK) | (clear hK; clear hK; refine hK _ ?_; clear hK) | (clear hK; clear hK; clear hK; refine hK _ ?_; clear hK) | (clear hK; clear hK; clear hK; clear hK; refine hK _ ?_; clear hK) | (refine wSeq fun K hK => ?_) | (refine wReg ?_; simp only [List.map_cons, List.map_nil, strip]) | (refine wDrw (by kernel_rfl) ?_; simp only [List.map_cons, List.map_nil, strip]) | (refine wOs fun K hK => ?_; simp [g0, g2, g7, g8, g9, g10, g40, g41, g42, g47, g48, g49, hjt, hwj, hc, hxk, e1, e2]) | (refine wQs fun K hK => ?_; simp [g0, g2, g7, g8, g9, g10, g40, g41, g42, g47, g48, g49, hjt, hwj, hc, hxk, e1, e2]) | (refine CallK_plain ?_; simp [g0, g2, g7, g8, g9, g10, g40, g41, g42, g47, g48, g49, hjt, hwj, hc, hxk, e1, e2]) | (refine CallQ_plain ?_; simp [g0, g2, g7, g8, g9, g10, g40, g41, g42, g47, g48, g49, hjt, hwj, hc, hxk, e1, e2]) | (refine wRet ?_; try simp) | (refine wCond ?_; simp [g0, g2, g7, g8, g9, g10, g40, g41, g42, g47, g48, g49, hjt, hwj, hc, hxk, e1, e2]) | (refine wBlock ?_) | (refine wExit ?_; try simp) | (refine wSkip ?_; try simp) | (refine wOn ?_; try simp only [thenA_n]) | (refine wQn ?_; try simp only [thenA_n])
          refine hL' _ (N' - 1) (by omega) ⟨j + 1, true, by omega, ?_⟩
          simp [g0, g2, g7, g8, g9, g40, g41, g42, g47, g48, hwj]
        | true =>
          repeat' first | (refine hK _ ?_; clear hK) | (clear hK; refine hK _ ?_; clear hK) | (clear hK; clear hK; refine hK _ ?_; clear hK) | (clear hK; clear hK; clear hK; refine hK _ ?_; clear hK) | (clear hK; clear hK; clear hK; clear hK; refine hK _ ?_; clear hK) | (refine wSeq fun K hK => ?_) | (refine wReg ?_; simp only [List.map_cons, List.map_nil, strip]) | (refine wDrw (by kernel_rfl) ?_; simp only [List.map_cons, List.map_nil, strip]) | (refine wOs fun K hK => ?_; simp [g0, g2, g7, g8, g9, g10, g40, g41, g42, g47, g48, g49, hjt, hwj, hc, hxk]) | (refine wQs fun K hK => ?_; simp [g0, g2, g7, g8, g9, g10, g40, g41, g42, g47, g48, g49, hjt, hwj, hc, hxk]) | (refine CallK_plain ?_; simp [g0, g2, g7, g8, g9, g10, g40, g41, g42, g47, g48, g49, hjt, hwj, hc, hxk]) | (refine CallQ_plain ?_; simp [g0, g2, g7, g8, g9, g10, g40, g41, g42, g47, g48, g49, hjt, hwj, hc, hxk]) | (refine wRet ?_; try simp) | (refine wCond ?_; simp [g0, g2, g7, g8, g9, g10, g40, g41, g42, g47, g48, g49, hjt, hwj, hc, hxk]) | (refine wBlock ?_) | (refine wExit ?_; try simp) | (refine wSkip ?_; try simp) | (refine wOn ?_; try simp only [thenA_n]) | (refine wQn ?_; try simp only [thenA_n])
          refine hL' _ (N' - 1) (by omega) ⟨j + 1, true, by omega, ?_⟩
          simp [g0, g2, g7, g8, g9, g10, g40, g41, g42, g47, g48, hwj]
      · repeat' first | (refine hK _ ?_; clear hK) | (clear hK; refine hK _ ?_; clear hK) | (clear hK; clear hK; refine hK _ ?_; clear hK) | (clear hK; clear hK; clear hK; refine hK _ ?_; clear hK) | (clear hK; clear hK; clear hK; clear hK; refine hK _ ?_; clear hK) | (refine wSeq fun K hK => ?_) | (refine wReg ?_; simp only [List.map_cons, List.map_nil, strip]) | (refine wDrw (by kernel_rfl) ?_; simp only [List.map_cons, List.map_nil, strip]) | (refine wOs fun K hK => ?_; simp [g0, g2, g7, g8, g9, g10, g40, g41, g42, g47, g48, g49, hjt, hwj, hc, hxk]) | (refine wQs fun K hK => ?_; simp [g0, g2, g7, g8, g9, g10, g40, g41, g42, g47, g48, g49, hjt, hwj, hc, hxk]) | (refine CallK_plain ?_; simp [g0, g2, g7, g8, g9, g10, g40, g41, g42, g47, g48, g49, hjt, hwj, hc, hxk]) | (refine CallQ_plain ?_; simp [g0, g2, g7, g8, g9, g10, g40, g41, g42, g47, g48, g49, hjt, hwj, hc, hxk]) | (refine wRet ?_; try simp) | (refine wCond ?_; simp [g0, g2, g7, g8, g9, g10, g40, g41, g42, g47, g48, g49, hjt, hwj, hc, hxk]) | (refine wBlock ?_) | (refine wExit ?_; try simp) | (refine wSkip ?_; try simp) | (refine wOn ?_; try simp only [thenA_n]) | (refine wQn ?_; try simp only [thenA_n])
        refine hL' _ (N' - 1) (by omega) ⟨j + 1, fd, by omega, ?_⟩
        simp [g0, g2, g7, g8, g9, g10, g40, g41, g42, g47, g48, hwj]
        intro h; rw [hfd h, rowOf_cons, if_neg hc]
    · cases fd with
      | false =>
        have hr1 : xs[k] = ⟨l[k], span⟩ := by
          rw [hx, hfd rfl, List.drop_of_length_le (by omega)]; rfl
        have e1 : xs[k].id = l[k] := by rw [hr1]
        have e2 : xs[k].lf = span := by rw [hr1]
        repeat' first | (refine hK _ ?_; clear hK) | (clear hK; refine hK _ ?_; clear hK) | (clear hK; clear hK; refine hK _ ?_; clear hK) | (clear hK; clear hK; clear hK; refine hK _ ?_; clear hK) | (clear hK; clear hK; clear hK; clear hK; refine hK _ ?_; clear hK) | (refine wSeq fun K hK => ?_) | (refine wReg ?_; simp only [List.map_cons, List.map_nil, strip]) | (refine wDrw (by kernel_rfl) ?_; simp only [List.map_cons, List.map_nil, strip]) | (refine wOs fun K hK => ?_; simp [g0, g2, g7, g8, g9, g10, g40, g41, g42, g47, g48, g49, hjt, hxk, e1, e2, hw]) | (refine wQs fun K hK => ?_; simp [g0, g2, g7, g8, g9, g10, g40, g41, g42, g47, g48, g49, hjt, hxk, e1, e2, hw]) | (refine CallK_plain ?_; simp [g0, g2, g7, g8, g9, g10, g40, g41, g42, g47, g48, g49, hjt, hxk, e1, e2, hw]) | (refine CallQ_plain ?_; simp [g0, g2, g7, g8, g9, g10, g40, g41, g42, g47, g48, g49, hjt, hxk, e1, e2, hw]) | (refine wRet ?_; try simp) | (refine wCond ?_; simp [g0, g2, g7, g8, g9, g10, g40, g41, g42, g47, g48, g49, hjt, hxk, e1, e2, hw]) | (refine wBlock ?_) | (refine wExit ?_; try simp) | (refine wSkip ?_; try simp) | (refine wOn ?_; try simp only [thenA_n]) | (refine wQn ?_; try simp only [thenA_n])
        refine hL _ (N - 1) (by omega) ⟨k + 1, by omega, ?_⟩
        simp [g0, g2, g7, g40, g41, g42, hw]
      | true =>
        repeat' first | (refine hK _ ?_; clear hK) | (clear hK; refine hK _ ?_; clear hK) | (clear hK; clear hK; refine hK _ ?_; clear hK) | (clear hK; clear hK; clear hK; refine hK _ ?_; clear hK) | (clear hK; clear hK; clear hK; clear hK; refine hK _ ?_; clear hK) | (refine wSeq fun K hK => ?_) | (refine wReg ?_; simp only [List.map_cons, List.map_nil, strip]) | (refine wDrw (by kernel_rfl) ?_; simp only [List.map_cons, List.map_nil, strip]) | (refine wOs fun K hK => ?_; simp [g0, g2, g7, g8, g9, g10, g40, g41, g42, g47, g48, g49, hjt, hxk, hw]) | (refine wQs fun K hK => ?_; simp [g0, g2, g7, g8, g9, g10, g40, g41, g42, g47, g48, g49, hjt, hxk, hw]) | (refine CallK_plain ?_; simp [g0, g2, g7, g8, g9, g10, g40, g41, g42, g47, g48, g49, hjt, hxk, hw]) | (refine CallQ_plain ?_; simp [g0, g2, g7, g8, g9, g10, g40, g41, g42, g47, g48, g49, hjt, hxk, hw]) | (refine wRet ?_; try simp) | (refine wCond ?_; simp [g0, g2, g7, g8, g9, g10, g40, g41, g42, g47, g48, g49, hjt, hxk, hw]) | (refine wBlock ?_) | (refine wExit ?_; try simp) | (refine wSkip ?_; try simp) | (refine wOn ?_; try simp only [thenA_n]) | (refine wQn ?_; try simp only [thenA_n])
        refine hL _ (N - 1) (by omega) ⟨k + 1, by omega, ?_⟩
        simp [g0, g2, g7, g40, g41, g42, hw]
  · repeat' first | (refine hK _ ?_; clear hK) | (clear hK; refine hK _ ?_; clear hK) | (clear hK; clear hK; refine hK _ ?_; clear hK) | (clear hK; clear hK; clear hK; refine hK _ ?_; clear hK) | (clear hK; clear hK; clear hK; clear hK; refine hK _ ?_; clear hK) | (refine wSeq fun K hK => ?_) | (refine wReg ?_; simp only [List.map_cons, List.map_nil, strip]) | (refine wDrw (by kernel_rfl) ?_; simp only [List.map_cons, List.map_nil, strip]) | (refine wOs fun K hK => ?_; simp [h0, h2, h7, h40, h41, h42, hlt]) | (refine wQs fun K hK => ?_; simp [h0, h2, h7, h40, h41, h42, hlt]) | (refine CallK_plain ?_; simp [h0, h2, h7, h40, h41, h42, hlt]) | (refine CallQ_plain ?_; simp [h0, h2, h7, h40, h41, h42, hlt]) | (refine wRet ?_; try simp) | (refine wCond ?_; simp [h0, h2, h7, h40, h41, h42, hlt]) | (refine wBlock ?_) | (refine wExit ?_; try simp) | (refine wSkip ?_; try simp) | (refine wOn ?_; try simp only [thenA_n]) | (refine wQn ?_; try simp only [thenA_n]) | (refine CallE.pure (awake11) rfl ?_) | (refine CallE.lent (awake11) rfl ?_) | (refine CallF.pure (awake11) rfl ?_) | (refine CallF.lent (awake11) rfl ?_) | (refine CallE.own (awake11) ?_)
    apply hr
    simp [Try.f5]

theorem overs_append : ∀ (a b : List Sn), overs (a ++ b) = overs a ++ overs b
  | [], b => by simp [overs]
  | r :: a, b => by by_cases h : r.lf ≤ 0 <;> simp [overs, h, overs_append a b]
theorem overs_at (l : List Sn) (i : Nat) (h : i < l.length) (hz : l[i].lf ≤ 0) : (overs l)[(overs (l.take i)).length]? = some l[i].id := by
  have e : overs l = overs (l.take i) ++ (l[i].id :: overs (l.drop (i + 1))) := by
    conv => lhs; rw [← List.take_append_drop i l, List.drop_eq_getElem_cons h, overs_append]
    congr 1
    simp [overs, hz]
  rw [e, List.getElem?_append_right (by omega)]
  simp

set_option maxHeartbeats 8000000 in
theorem apart_con (t : List Sn) (l : List Int) (span : Int) : ACon Try.prog 6 [.p (.sl 2 (seens t)), .p (.sl 1 (ints l)), .p (I span)] (.p (B true)) := by
  by_cases ht : 300 < t.length
  · have ht' : (300 : Int) < t.length := by omega
    refine wBody Try.tab Try.mixed Try.func6 rfl rfl Try.ntmps6 (by simp) (by simp) fun Q hr hn => ?_
    repeat' first | (refine hK _ ?_; clear hK) | (clear hK; refine hK _ ?_; clear hK) | (clear hK; clear hK; refine hK _ ?_; clear hK) | (clear hK; clear hK; clear hK; refine hK _ ?_; clear hK) | (clear hK; clear hK; clear hK; clear hK; refine hK _ ?_; clear hK) | (refine wSeq fun K hK => ?_) | (refine wReg ?_; simp only [List.map_cons, List.map_nil, strip]) | (refine wDrw (by kernel_rfl) ?_; simp only [List.map_cons, List.map_nil, strip]) | (refine wOs fun K hK => ?_; simp [ht, ht']) | (refine wQs fun K hK => ?_; simp [ht, ht']) | (refine CallK_plain ?_; simp [ht, ht']) | (refine CallQ_plain ?_; simp [ht, ht']) | (refine wRet ?_; try simp) | (refine wCond ?_; simp [ht, ht']) | (refine wBlock ?_) | (refine wExit ?_; try simp) | (refine wSkip ?_; try simp) | (refine wOn ?_; try simp only [thenA_n]) | (refine wQn ?_; try simp only [thenA_n]) | (refine CallE.pure (awake11) rfl ?_) | (refine CallE.lent (awake11) rfl ?_) | (refine CallF.pure (awake11) rfl ?_) | (refine CallF.lent (awake11) rfl ?_) | (refine CallE.own (awake11) ?_)
    apply hr
    simp [Try.f6]
  have ht' : ¬ (300 : Int) < t.length := by omega
  by_cases hl : 300 < l.length
  · have hl' : (300 : Int) < l.length := by omega
    refine wBody Try.tab Try.mixed Try.func6 rfl rfl Try.ntmps6 (by simp) (by simp) fun Q hr hn => ?_
    repeat' first | (refine hK _ ?_; clear hK) | (clear hK; refine hK _ ?_; clear hK) | (clear hK; clear hK; refine hK _ ?_; clear hK) | (clear hK; clear hK; clear hK; refine hK _ ?_; clear hK) | (clear hK; clear hK; clear hK; clear hK; refine hK _ ?_; clear hK) | (refine wSeq fun K hK => ?_) | (refine wReg ?_; simp only [List.map_cons, List.map_nil, strip]) | (refine wDrw (by kernel_rfl) ?_; simp only [List.map_cons, List.map_nil, strip]) | (refine wOs fun K hK => ?_; simp [ht, ht', hl, hl']) | (refine wQs fun K hK => ?_; simp [ht, ht', hl, hl']) | (refine CallK_plain ?_; simp [ht, ht', hl, hl']) | (refine CallQ_plain ?_; simp [ht, ht', hl, hl']) | (refine wRet ?_; try simp) | (refine wCond ?_; simp [ht, ht', hl, hl']) | (refine wBlock ?_) | (refine wExit ?_; try simp) | (refine wSkip ?_; try simp) | (refine wOn ?_; try simp only [thenA_n]) | (refine wQn ?_; try simp only [thenA_n]) | (refine CallE.pure (awake11) rfl ?_) | (refine CallE.lent (awake11) rfl ?_) | (refine CallF.pure (awake11) rfl ?_) | (refine CallF.lent (awake11) rfl ?_) | (refine CallE.own (awake11) ?_)
    all_goals apply hr
    all_goals simp [Try.f6]
  have hl' : ¬ (300 : Int) < l.length := by omega
  have c1 := touch_con t l span (by omega)
  have c2 := tick_con t (by omega)
  have hxl : (touch t l span).length = t.length := by simp [touch]
  have hyl : (tick t).length = t.length := by simp [tick]
  have hxg : ∀ (k : Nat) (h : k < t.length) (h' : k < (touch t l span).length), (touch t l span)[k] = if t[k].id ∈ l then ⟨t[k].id, span⟩ else t[k] := fun k h h' => by simp [touch]
  have hyg : ∀ (k : Nat) (h : k < t.length) (h' : k < (tick t).length), (tick t)[k] = dec t[k] := fun k h h' => by simp [tick]
  generalize touch t l span = xs at c1 hxl hxg
  generalize hys : tick t = ys at c2 hyl hyg
  have hol := overs_len ys
  have hxl' : (xs.length : Int) = t.length := by omega
  have hyl' : (ys.length : Int) = t.length := by omega
  refine wBody Try.tab Try.mixed Try.func6 rfl rfl Try.ntmps6 (by simp) (by simp) fun Q hr hn => ?_
  repeat' first | (refine hK _ ?_; clear hK) | (clear hK; refine hK _ ?_; clear hK) | (clear hK; clear hK; refine hK _ ?_; clear hK) | (clear hK; clear hK; clear hK; refine hK _ ?_; clear hK) | (clear hK; clear hK; clear hK; clear hK; refine hK _ ?_; clear hK) | (refine wSeq fun K hK => ?_) | (refine wReg ?_; simp only [List.map_cons, List.map_nil, strip]) | (refine wDrw (by kernel_rfl) ?_; simp only [List.map_cons, List.map_nil, strip]) | (refine wOs fun K hK => ?_; simp [ht, ht', hl, hl', hxl, hyl]) | (refine wQs fun K hK => ?_; simp [ht, ht', hl, hl', hxl, hyl]) | (refine CallK_plain ?_; simp [ht, ht', hl, hl', hxl, hyl]) | (refine CallQ_plain ?_; simp [ht, ht', hl, hl', hxl, hyl]) | (refine wRet ?_; try simp) | (refine wCond ?_; simp [ht, ht', hl, hl', hxl, hyl]) | (refine wBlock ?_) | (refine wExit ?_; try simp) | (refine wSkip ?_; try simp) | (refine wOn ?_; try simp only [thenA_n]) | (refine wQn ?_; try simp only [thenA_n]) | (refine CallE.pure (c1) rfl ?_) | (refine CallE.lent (c1) rfl ?_) | (refine CallF.pure (c1) rfl ?_) | (refine CallF.lent (c1) rfl ?_) | (refine CallE.own (c1) ?_) | (refine CallE.pure (c2) rfl ?_) | (refine CallE.lent (c2) rfl ?_) | (refine CallF.pure (c2) rfl ?_) | (refine CallF.lent (c2) rfl ?_) | (refine CallE.own (c2) ?_)
  refine wLoop (fun N st => ∃ k : Nat, k + N = t.length ∧ st.s 0 = .p (.sl 2 (seens t)) ∧ st.s 1 = .p (.sl 1 (ints l)) ∧ st.s 2 = .p (I span) ∧ st.s 7 = .p (.sl 2 (seens xs)) ∧ st.s 8 = .p (.sl 2 (seens ys)) ∧ st.s 9 = .p (.sl 1 (ints (overs ys))) ∧ st.s 10 = .p (I (overs (ys.take k)).length) ∧
    st.s 47 = .p (.sl 2 (seens t)) ∧ st.s 48 = .p (I t.length) ∧ st.s 49 = .p (I k)) t.length ⟨0, by simp [overs]⟩ fun K N st hL ⟨k, hk, h0, h1, h2, h7, h8, h9, h10, h47, h48, h49⟩ => ?_
  by_cases hlt : k < t.length
  · have hw := wrapS k _ hlt (by omega)
    have hxk : k < xs.length := by omega
    have hyk : k < ys.length := by omega
    repeat' first | (refine hK _ ?_; clear hK) | (clear hK; refine hK _ ?_; clear hK) | (clear hK; clear hK; refine hK _ ?_; clear hK) | (clear hK; clear hK; clear hK; refine hK _ ?_; clear hK) | (clear hK; clear hK; clear hK; clear hK; refine hK _ ?_; clear hK) | (refine wSeq fun K hK => ?_) | (refine wReg ?_; simp only [List.map_cons, List.map_nil, strip]) | (refine wDrw (by kernel_rfl) ?_; simp only [List.map_cons, List.map_nil, strip]) | (refine wOs fun K hK => ?_; simp [h0, h1, h2, h7, h8, h9, h10, h47, h48, h49, hlt]) | (refine wQs fun K hK => ?_; simp [h0, h1, h2, h7, h8, h9, h10, h47, h48, h49, hlt]) | (refine CallK_plain ?_; simp [h0, h1, h2, h7, h8, h9, h10, h47, h48, h49, hlt]) | (refine CallQ_plain ?_; simp [h0, h1, h2, h7, h8, h9, h10, h47, h48, h49, hlt]) | (refine wRet ?_; try simp) | (refine wCond ?_; simp [h0, h1, h2, h7, h8, h9, h10, h47, h48, h49, hlt]) | (refine wBlock ?_) | (refine wExit ?_; try simp) | (refine wSkip ?_; try simp) | (refine wOn ?_; try simp only [thenA_n]) | (refine wQn ?_; try simp only [thenA_n])
    refine wLoop (fun N st => ∃ j : Nat, j + N = l.length ∧ st.s 0 = .p (.sl 2 (seens t)) ∧ st.s 1 = .p (.sl 1 (ints l)) ∧ st.s 2 = .p (I span) ∧ st.s 7 = .p (.sl 2 (seens xs)) ∧ st.s 8 = .p (.sl 2 (seens ys)) ∧ st.s 9 = .p (.sl 1 (ints (overs ys))) ∧ st.s 10 = .p (I (overs (ys.take k)).length) ∧
      st.s 47 = .p (.sl 2 (seens t)) ∧ st.s 48 = .p (I t.length) ∧ st.s 49 = .p (I k) ∧ st.s 11 = .p (I k) ∧ st.s 12 = .p (B (decide (t[k].id ∈ l.take j))) ∧ st.s 52 = .p (.sl 1 (ints l)) ∧ st.s 53 = .p (I l.length) ∧ st.s 54 = .p (I j)) l.length ⟨0, by simp [h0, h1, h2, h7, h8, h9, h10, h47, h48, h49]⟩ fun K' N' st' hL' ⟨j, hj, g0, g1, g2, g7, g8, g9, g10, g47, g48, g49, g11, g12, g52, g53, g54⟩ => ?_
    by_cases hjt : j < l.length
    · have hwj := wrapS j _ hjt (by omega)
      have hmm : t[k].id ∈ l.take (j + 1) ↔ t[k].id ∈ l.take j ∨ l[j] = t[k].id := by
        rw [take_snoc _ _ hjt, List.mem_append, List.mem_singleton]
        exact or_congr_right eq_comm
      by_cases hm : t[k].id ∈ l.take j
      · have hmem : decide (t[k].id ∈ l.take (j + 1)) = true := decide_eq_true (hmm.2 (.inl hm))
        rw [decide_eq_true hm] at g12
        repeat' first | (refine hK _ ?_; clear hK) | (clear hK; refine hK _ ?_; clear hK) | (clear hK; clear hK; refine hK _ ?_; clear hK) | (clear hK; clear hK; clear hK; refine hK _ ?_; clear hK) | (clear hK; clear hK; clear hK; clear hK; refine hK _ ?_; clear hK) | (refine wSeq fun K hK => ?_) | (refine wReg ?_; simp only [List.map_cons, List.map_nil, strip]) | (refine wDrw (by kernel_rfl) ?_; simp only [List.map_cons, List.map_nil, strip]) | (refine wOs fun K hK => ?_; simp [g0, g1, g2, g7, g8, g9, g10, g47, g48, g49, g11, g12, g52, g53, g54, hjt, hwj, hlt]) | (refine wQs fun K hK => ?_; simp [g0, g1, g2, g7, g8, g9, g10, g47, g48, g49, g11, g12, g52, g53, g54, hjt, hwj, hlt]) | (refine CallK_plain ?_; simp [g0, g1, g2, g7, g8, g9, g10, g47, g48, g49, g11, g12, g52, g53, g54, hjt, hwj, hlt]) | (refine CallQ_plain ?_; simp [g0, g1, g2, g7, g8, g9, g10, g47, g48, g49, g11, g12, g52, g53, g54, hjt, hwj, hlt]) | (refine wRet ?_; try simp) | (refine wCond ?_; simp [g0, g1, g2, g7, g8, g9, g10, g47, g48, g49, g11, g12, g52, g53, g54, hjt, hwj, hlt]) | (refine wBlock ?_) | (refine wExit ?_; try simp) | (refine wSkip ?_; try simp) | (refine wOn ?_; try simp only [thenA_n]) | (refine wQn ?_; try simp only [thenA_n])
        refine hL' _ (N' - 1) (by omega) ⟨j + 1, by omega, ?_⟩
        simp only [hmem]
        simp [g0, g1, g2, g7, g8, g9, g10, g47, g48, g49, g11, g12, g52, g53, hwj]
      · have hmem : decide (t[k].id ∈ l.take (j + 1)) = decide (l[j] = t[k].id) := decide_eq_decide.2 (by rw [hmm]; simp [hm])
        rw [decide_eq_false hm] at g12
        repeat' first | (refine hK _ ?_; clear hK) | (clear hK; refine hK _ ?_; clear hK) | (clear hK; clear hK; refine hK _ ?_; clear hK) | (clear hK; clear hK; clear hK; refine hK _ ?_; clear hK) | (clear hK; clear hK; clear hK; clear hK; refine hK _ ?_; clear hK) | (refine wSeq fun K hK => ?_) | (refine wReg ?_; simp only [List.map_cons, List.map_nil, strip]) | (refine wDrw (by kernel_rfl) ?_; simp only [List.map_cons, List.map_nil, strip]) | (refine wOs fun K hK => ?_; simp [g0, g1, g2, g7, g8, g9, g10, g47, g48, g49, g11, g12, g52, g53, g54, hjt, hwj, hlt]) | (refine wQs fun K hK => ?_; simp [g0, g1, g2, g7, g8, g9, g10, g47, g48, g49, g11, g12, g52, g53, g54, hjt, hwj, hlt]) | (refine CallK_plain ?_; simp [g0, g1, g2, g7, g8, g9, g10, g47, g48, g49, g11, g12, g52, g53, g54, hjt, hwj, hlt]) | (refine CallQ_plain ?_; simp [g0, g1, g2, g7, g8, g9, g10, g47, g48, g49, g11, g12, g52, g53, g54, hjt, hwj, hlt]) | (refine wRet ?_; try simp) | (refine wCond ?_; simp [g0, g1, g2, g7, g8, g9, g10, g47, g48, g49, g11, g12, g52, g53, g54, hjt, hwj, hlt]) | (refine wBlock ?_) | (refine wExit ?_; try simp) | (refine wSkip ?_; try simp) | (refine wOn ?_; try simp only [thenA_n]) | (refine wQn ?_; try simp only [thenA_n])
        refine hL' _ (N' - 1) (by omega) ⟨j + 1, by omega, ?_⟩
        simp only [hmem]
        simp [g0, g1, g2, g7, g8, g9, g10, g47, g48, g49, g11, g12, g52, g53, hwj]
        rfl
    · have hlj : l.take j = l := List.take_of_length_le (by omega)
      rw [hlj] at g12
      have hsl : List.drop k (List.take (k + 1) (seens t)) = [[I t[k].id, I t[k].lf]] := by
        rw [take_snoc _ k (by simpa using hlt), List.drop_append_of_le_length (by simp; omega), List.drop_of_length_le (by simp; omega)]
        simp
      have hle : k + 1 ≤ t.length := hlt
      have h01 : (0 : Int) ≤ (k : Int) + 1 := by omega
      have ctk := tick_con [t[k]] (by simp)
      have hyk1 := hyg k hlt hyk
      have hxk1 := hxg k hlt hxk
      have hdid : (dec t[k]).id = t[k].id := by unfold dec; split <;> rfl
      have e3 : tick [t[k]] = [dec t[k]] := rfl
      have hos : overs (ys.take (k + 1)) = overs (ys.take k) ++ (if (dec t[k]).lf ≤ 0 then [(dec t[k]).id] else []) := by
        rw [take_snoc _ _ hyk, overs_snoc, hyk1]
      have hat := overs_at ys k hyk
      rw [hyk1] at hat
      rw [e3] at ctk
      generalize dec t[k] = d at *
      have y1 : ys[k].id = d.id := by rw [hyk1]
      have y2 : ys[k].lf = d.lf := by rw [hyk1]
      simp only [seens, ints, List.map_cons, List.map_nil, Sn.cells] at ctk
      have hw5 : IntKind.i64.wrap (((overs (ys.take k)).length : Int) + 1) = (((overs (ys.take k)).length + 1 : Nat) : Int) := by
        have := overs_len (ys.take k)
        have h2 : (ys.take k).length ≤ k := List.length_take_le _ _
        rw [wrap_id] <;> omega
      by_cases hm : t[k].id ∈ l
      · have x1 : xs[k].id = t[k].id := by rw [hxk1, if_pos hm]
        have x2 : xs[k].lf = span := by rw [hxk1, if_pos hm]
        by_cases hz : d.lf ≤ 0
        · have hat' := hat hz
          obtain ⟨hlt5, hget5⟩ := List.getElem?_eq_some_iff.1 hat'
          have hlt6 : ((overs (ys.take k)).length : Int) < (overs ys).length := by omega
          have hnle : ¬ (overs ys).length ≤ (overs (ys.take k)).length := by omega
          simp only [overs, if_pos hz, List.map_cons, List.map_nil] at ctk
          repeat' first | (refine hK _ ?_; clear hK) | (clear hK; refine hK _ ?_; clear hK) | (clear hK; clear hK; refine hK _ ?_; clear hK) | (clear hK; clear hK; clear hK; refine hK _ ?_; clear hK) | (clear hK; clear hK; clear hK; clear hK; refine hK _ ?_; clear hK) | (refine wSeq fun K hK => ?_) | (refine wReg ?_; simp only [List.map_cons, List.map_nil, strip]) | (refine wDrw (by kernel_rfl) ?_; simp only [List.map_cons, List.map_nil, strip]) | (refine wOs fun K hK => ?_; simp [g0, g1, g2, g7, g8, g9, g10, g47, g48, g49, g11, g12, g52, g53, g54, hjt, hlt, hw, hsl, hle, h01, hm, hz, hxk, hyk, x1, x2, y1, y2, hlt5, hlt6, hnle, hget5, hdid, hw5]) | (refine wQs fun K hK => ?_; simp [g0, g1, g2, g7, g8, g9, g10, g47, g48, g49, g11, g12, g52, g53, g54, hjt, hlt, hw, hsl, hle, h01, hm, hz, hxk, hyk, x1, x2, y1, y2, hlt5, hlt6, hnle, hget5, hdid, hw5]) | (refine CallK_plain ?_; simp [g0, g1, g2, g7, g8, g9, g10, g47, g48, g49, g11, g12, g52, g53, g54, hjt, hlt, hw, hsl, hle, h01, hm, hz, hxk, hyk, x1, x2, y1, y2, hlt5, hlt6, hnle, hget5, hdid, hw5]) | (refine CallQ_plain ?_; simp [g0, g1, g2, g7, g8, g9, g10, g47, g48, g49, g11, g12, g52, g53, g54, hjt, hlt, hw, hsl, hle, h01, hm, hz, hxk, hyk, x1, x2, y1, y2, hlt5, hlt6, hnle, hget5, hdid, hw5]) | (refine wRet ?_; try simp) | (refine wCond ?_; simp [g0, g1, g2, g7, g8, g9, g10, g47, g48, g49, g11, g12, g52, g53, g54, hjt, hlt, hw, hsl, hle, h01, hm, hz, hxk, hyk, x1, x2, y1, y2, hlt5, hlt6, hnle, hget5, hdid, hw5]) | (refine wBlock ?_) | (refine wExit ?_; try simp) | (refine wSkip ?_; try simp) | (refine wOn ?_; try simp only [thenA_n]) | (refine wQn ?_; try simp only [thenA_n]) | (refine CallE.pure (ctk) rfl ?_) | (refine CallE.lent (ctk) rfl ?_) | (refine CallF.pure (ctk) rfl ?_) | (refine CallF.lent (ctk) rfl ?_) | (refine CallE.own (ctk) ?_)
          refine hL _ (N - 1) (by omega) ⟨k + 1, by omega, ?_⟩
          rw [hos, if_pos hz]
          simp [g0, g1, g2, g7, g8, g9, g47, g48, g49, hw, hw5]
        · simp only [overs, if_neg hz, List.map_cons, List.map_nil] at ctk
          repeat' first | (refine hK _ ?_; clear hK) | (clear hK; refine hK _ ?_; clear hK) | (clear hK; clear hK; refine hK _ ?_; clear hK) | (clear hK; clear hK; clear hK; refine hK _ ?_; clear hK) | (clear hK; clear hK; clear hK; clear hK; refine hK _ ?_; clear hK) | (refine wSeq fun K hK => ?_) | (refine wReg ?_; simp only [List.map_cons, List.map_nil, strip]) | (refine wDrw (by kernel_rfl) ?_; simp only [List.map_cons, List.map_nil, strip]) | (refine wOs fun K hK => ?_; simp [g0, g1, g2, g7, g8, g9, g10, g47, g48, g49, g11, g12, g52, g53, g54, hjt, hlt, hw, hsl, hle, h01, hm, hz, hxk, hyk, x1, x2, y1, y2, hdid]) | (refine wQs fun K hK => ?_; simp [g0, g1, g2, g7, g8, g9, g10, g47, g48, g49, g11, g12, g52, g53, g54, hjt, hlt, hw, hsl, hle, h01, hm, hz, hxk, hyk, x1, x2, y1, y2, hdid]) | (refine CallK_plain ?_; simp [g0, g1, g2, g7, g8, g9, g10, g47, g48, g49, g11, g12, g52, g53, g54, hjt, hlt, hw, hsl, hle, h01, hm, hz, hxk, hyk, x1, x2, y1, y2, hdid]) | (refine CallQ_plain ?_; simp [g0, g1, g2, g7, g8, g9, g10, g47, g48, g49, g11, g12, g52, g53, g54, hjt, hlt, hw, hsl, hle, h01, hm, hz, hxk, hyk, x1, x2, y1, y2, hdid]) | (refine wRet ?_; try simp) | (refine wCond ?_; simp [g0, g1, g2, g7, g8, g9, g10, g47, g48, g49, g11, g12, g52, g53, g54, hjt, hlt, hw, hsl, hle, h01, hm, hz, hxk, hyk, x1, x2, y1, y2, hdid]) | (refine wBlock ?_) | (refine wExit ?_; try simp) | (refine wSkip ?_; try simp) | (refine wOn ?_; try simp only [thenA_n]) | (refine wQn ?_; try simp only [thenA_n]) | (refine CallE.pure (ctk) rfl ?_) | (refine CallE.lent (ctk) rfl ?_) | (refine CallF.pure (ctk) rfl ?_) | (refine CallF.lent (ctk) rfl ?_) | (refine CallE.own (ctk) ?_)
          refine hL _ (N - 1) (by omega) ⟨k + 1, by omega, ?_⟩
          rw [hos, if_neg hz]
          simp [g0, g1, g2, g7, g8, g9, g10, g47, g48, g49, hw]
      · have x1 : xs[k].id = t[k].id := by rw [hxk1, if_neg hm]
        have x2 : xs[k].lf = t[k].lf := by rw [hxk1, if_neg hm]
        by_cases hz : d.lf ≤ 0
        · have hat' := hat hz
          obtain ⟨hlt5, hget5⟩ := List.getElem?_eq_some_iff.1 hat'
          have hlt6 : ((overs (ys.take k)).length : Int) < (overs ys).length := by omega
          have hnle : ¬ (overs ys).length ≤ (overs (ys.take k)).length := by omega
          simp only [overs, if_pos hz, List.map_cons, List.map_nil] at ctk
          repeat' first | (refine hK _ ?_; clear hK) | (clear hK; refine hK _ ?_; clear hK) | (clear hK; clear hK; refine hK _ ?_; clear hK) | (clear hK; clear hK; clear hK; refine hK _ ?_; clear hK) | (clear hK; clear hK; clear hK; clear hK; refine hK _ ?_; clear hK) | (refine wSeq fun K hK => ?_) | (refine wReg ?_; simp only [List.map_cons, List.map_nil, strip]) | (refine wDrw (by kernel_rfl) ?_; simp only [List.map_cons, List.map_nil, strip]) | (refine wOs fun K hK => ?_; simp [g0, g1, g2, g7, g8, g9, g10, g47, g48, g49, g11, g12, g52, g53, g54, hjt, hlt, hw, hsl, hle, h01, hm, hz, hxk, hyk, x1, x2, y1, y2, hlt5, hlt6, hnle, hget5, hdid, hw5]) | (refine wQs fun K hK => ?_; simp [g0, g1, g2, g7, g8, g9, g10, g47, g48, g49, g11, g12, g52, g53, g54, hjt, hlt, hw, hsl, hle, h01, hm, hz, hxk, hyk, x1, x2, y1, y2, hlt5, hlt6, hnle, hget5, hdid, hw5]) | (refine CallK_plain ?_; simp [g0, g1, g2, g7, g8, g9, g10, g47, g48, g49, g11, g12, g52, g53, g54, hjt, hlt, hw, hsl, hle, h01, hm, hz, hxk, hyk, x1, x2, y1, y2, hlt5, hlt6, hnle, hget5, hdid, hw5]) | (refine CallQ_plain ?_; simp [g0, g1, g2, g7, g8, g9, g10, g47, g48, g49, g11, g12, g52, g53, g54, hjt, hlt, hw, hsl, hle, h01, hm, hz, hxk, hyk, x1, x2, y1, y2, hlt5, hlt6, hnle, hget5, hdid, hw5]) | (refine wRet ?_; try simp) | (refine wCond ?_; simp [g0, g1, g2, g7, g8, g9, g10, g47, g48, g49, g11, g12, g52, g53, g54, hjt, hlt, hw, hsl, hle, h01, hm, hz, hxk, hyk, x1, x2, y1, y2, hlt5, hlt6, hnle, hget5, hdid, hw5]) | (refine wBlock ?_) | (refine wExit ?_; try simp) | (refine wSkip ?_; try simp) | (refine wOn ?_; try simp only [thenA_n]) | (refine wQn ?_; try simp only [thenA_n]) | (refine CallE.pure (ctk) rfl ?_) | (refine CallE.lent (ctk) rfl ?_) | (refine CallF.pure (ctk) rfl ?_) | (refine CallF.lent (ctk) rfl ?_) | (refine CallE.own (ctk) ?_)
          refine hL _ (N - 1) (by omega) ⟨k + 1, by omega, ?_⟩
          rw [hos, if_pos hz]
          simp [g0, g1, g2, g7, g8, g9, g47, g48, g49, hw, hw5]
        · simp only [overs, if_neg hz, List.map_cons, List.map_nil] at ctk
          repeat' first | (refine hK _ ?_; clear hK) | (clear hK; refine hK _ ?_; clear hK) | (clear hK; clear hK; refine hK _ ?_; clear hK) | (clear hK; clear hK; clear hK; refine hK _ ?_; clear hK) | (clear hK; clear hK; clear hK; clear hK; refine hK _ ?_; clear hK) | (refine wSeq fun K hK => ?_) | (refine wReg ?_; simp only [List.map_cons, List.map_nil, strip]) | (refine wDrw (by kernel_rfl) ?_; simp only [List.map_cons, List.map_nil, strip]) | (refine wOs fun K hK => ?_; simp [g0, g1, g2, g7, g8, g9, g10, g47, g48, g49, g11, g12, g52, g53, g54, hjt, hlt, hw, hsl, hle, h01, hm, hz, hxk, hyk, x1, x2, y1, y2, hdid]) | (refine wQs fun K hK => ?_; simp [g0, g1, g2, g7, g8, g9, g10, g47, g48, g49, g11, g12, g52, g53, g54, hjt, hlt, hw, hsl, hle, h01, hm, hz, hxk, hyk, x1, x2, y1, y2, hdid]) | (refine CallK_plain ?_; simp [g0, g1, g2, g7, g8, g9, g10, g47, g48, g49, g11, g12, g52, g53, g54, hjt, hlt, hw, hsl, hle, h01, hm, hz, hxk, hyk, x1, x2, y1, y2, hdid]) | (refine CallQ_plain ?_; simp [g0, g1, g2, g7, g8, g9, g10, g47, g48, g49, g11, g12, g52, g53, g54, hjt, hlt, hw, hsl, hle, h01, hm, hz, hxk, hyk, x1, x2, y1, y2, hdid]) | (refine wRet ?_; try simp) | (refine wCond ?_; simp [g0, g1, g2, g7, g8, g9, g10, g47, g48, g49, g11, g12, g52, g53, g54, hjt, hlt, hw, hsl, hle, h01, hm, hz, hxk, hyk, x1, x2, y1, y2, hdid]) | (refine wBlock ?_) | (refine wExit ?_; try simp) | (refine wSkip ?_; try simp) | (refine wOn ?_; try simp only [thenA_n]) | (refine wQn ?_; try simp only [thenA_n]) | (refine CallE.pure (ctk) rfl ?_) | (refine CallE.lent (ctk) rfl ?_) | (refine CallF.pure (ctk) rfl ?_) | (refine CallF.lent (ctk) rfl ?_) | (refine CallE.own (ctk) ?_)
          refine hL _ (N - 1) (by omega) ⟨k + 1, by omega, ?_⟩
          rw [hos, if_neg hz]
          simp [g0, g1, g2, g7, g8, g9, g10, g47, g48, g49, hw]
  · have htk : ys.take k = ys := List.take_of_length_le (by omega)
    rw [htk] at h10
    repeat' first | (refine hK _ ?_; clear hK) | (clear hK; refine hK _ ?_; clear hK) | (clear hK; clear hK; refine hK _ ?_; clear hK) | (clear hK; clear hK; clear hK; refine hK _ ?_; clear hK) | (clear hK; clear hK; clear hK; clear hK; refine hK _ ?_; clear hK) | (refine wSeq fun K hK => ?_) | (refine wReg ?_; simp only [List.map_cons, List.map_nil, strip]) | (refine wDrw (by kernel_rfl) ?_; simp only [List.map_cons, List.map_nil, strip]) | (refine wOs fun K hK => ?_; simp [h0, h1, h2, h7, h8, h9, h10, h47, h48, h49, hlt]) | (refine wQs fun K hK => ?_; simp [h0, h1, h2, h7, h8, h9, h10, h47, h48, h49, hlt]) | (refine CallK_plain ?_; simp [h0, h1, h2, h7, h8, h9, h10, h47, h48, h49, hlt]) | (refine CallQ_plain ?_; simp [h0, h1, h2, h7, h8, h9, h10, h47, h48, h49, hlt]) | (refine wRet ?_; try simp) | (refine wCond ?_; simp [h0, h1, h2, h7, h8, h9, h10, h47, h48, h49, hlt]) | (refine wBlock ?_) | (refine wExit ?_; try simp) | (refine wSkip ?_; try simp) | (refine wOn ?_; try simp only [thenA_n]) | (refine wQn ?_; try simp only [thenA_n]) | (refine CallE.pure (awake11) rfl ?_) | (refine CallE.lent (awake11) rfl ?_) | (refine CallF.pure (awake11) rfl ?_) | (refine CallF.lent (awake11) rfl ?_) | (refine CallE.own (awake11) ?_)
    apply hr
    simp [Try.f6]
end Go.Proofs.Ytnjnloonlcknkaa
