/- Several configs; what is too far; any two quorums meet. -/
import Derived.Test.YtehopfedgkmalaaQF
namespace Go.Proofs.Ytehopfedgkmalaa
set_option linter.unusedSimpArgs false
set_option linter.unusedVariables false
open Go Go.Av
attribute [local simp] Try.T
attribute [local irreducible] Go.Av.CallK Go.Av.CallE Go.Av.CallQ Go.Av.CallF Go.Av.Con

def mx (n : Int) : List (List Int) → Int
  | [] => n
  | s :: l => mx (if n < s.length then s.length else n) l
theorem mx_le : ∀ (l : List (List Int)) (n : Int), n ≤ mx n l ∧ ∀ s ∈ l, (s.length : Int) ≤ mx n l
  | [], n => by simp [mx]
  | s :: l, n => by
    by_cases g : n < s.length
    · obtain ⟨h1, h2⟩ := mx_le l s.length
      simp only [mx, if_pos g]
      refine ⟨by omega, fun x hx => ?_⟩
      rcases List.mem_cons.1 hx with rfl | hx
      · exact h1
      · exact h2 x hx
    · obtain ⟨h1, h2⟩ := mx_le l n
      simp only [mx, if_neg g]
      refine ⟨h1, fun x hx => ?_⟩
      rcases List.mem_cons.1 hx with rfl | hx
      · omega
      · exact h2 x hx
def lists (l : List (List Int)) : List (List PV) := l.map fun s => [.sl 1 (ints s)]
@[simp] theorem lists_len (l : List (List Int)) : (lists l).length = l.length := by simp [lists]
@[simp] theorem lists_getElem (l : List (List Int)) (k : Nat) (h : k < (lists l).length) : (lists l)[k] = [.sl 1 (ints (l[k]'(by simpa using h)))] := by simp [lists]
theorem far_con (c : Cf) (ls : List (List Int)) (hl : ls.length ≤ 100) : ACon Try.prog 13 [.p (.agg c.cells), .p (.sl 1 (lists ls))] (.p (B (decide (100 < mx c.ms.length ls)))) := by
  obtain ⟨ep, n, kind, l⟩ := c
  simp only [Cf.cells]
  refine wBody Try.tab Try.mixed Try.func13 rfl rfl Try.ntmps13 (by simp) (by simp) fun Q hr hn => ?_
  repeat' first | (refine hK _ ?_; clear hK) | (clear hK; refine hK _ ?_; clear hK) | (clear hK; clear hK; refine hK _ ?_; clear hK) | (clear hK; clear hK; clear hK; refine hK _ ?_; clear hK) | (clear hK; clear hK; clear hK; clear hK; refine hK _ ?_; clear hK) | (refine wSeq fun K hK => ?_) | (refine wReg ?_; simp only [List.map_cons, List.map_nil, strip]) | (refine wDrw (by kernel_rfl) ?_; simp only [List.map_cons, List.map_nil, strip]) | (refine wOs fun K hK => ?_; simp) | (refine wQs fun K hK => ?_; simp) | (refine CallK_plain ?_; simp) | (refine CallQ_plain ?_; simp) | (refine wRet ?_; try simp) | (refine wCond ?_; simp) | (refine wBlock ?_) | (refine wExit ?_; try simp) | (refine wSkip ?_; try simp) | (refine wOn ?_; try simp only [thenA_n]) | (refine wQn ?_; try simp only [thenA_n])
  refine wLoop (fun N st => ∃ (k : Nat) (x : Int), k + N = ls.length ∧ st.s 11 = .p (.sl 1 (lists ls)) ∧ st.s 12 = .p (I ls.length) ∧ st.s 13 = .p (I k) ∧ st.s 5 = .p (I x) ∧ mx x (ls.drop k) = mx l.length ls) ls.length ⟨0, l.length, by simp⟩ fun K N st hL ⟨k, x, hk, h11, h12, h13, h5, hi⟩ => ?_
  by_cases hlt : k < ls.length
  · have hw := wrapS k _ hlt (by omega)
    rw [List.drop_eq_getElem_cons hlt, mx] at hi
    by_cases g : x < ls[k].length
    · rw [if_pos g] at hi
      repeat' first | (refine hK _ ?_; clear hK) | (clear hK; refine hK _ ?_; clear hK) | (clear hK; clear hK; refine hK _ ?_; clear hK) | (clear hK; clear hK; clear hK; refine hK _ ?_; clear hK) | (clear hK; clear hK; clear hK; clear hK; refine hK _ ?_; clear hK) | (refine wSeq fun K hK => ?_) | (refine wReg ?_; simp only [List.map_cons, List.map_nil, strip]) | (refine wDrw (by kernel_rfl) ?_; simp only [List.map_cons, List.map_nil, strip]) | (refine wOs fun K hK => ?_; simp [h11, h12, h13, h5, hlt, hw, g]) | (refine wQs fun K hK => ?_; simp [h11, h12, h13, h5, hlt, hw, g]) | (refine CallK_plain ?_; simp [h11, h12, h13, h5, hlt, hw, g]) | (refine CallQ_plain ?_; simp [h11, h12, h13, h5, hlt, hw, g]) | (refine wRet ?_; try simp) | (refine wCond ?_; simp [h11, h12, h13, h5, hlt, hw, g]) | (refine wBlock ?_) | (refine wExit ?_; try simp) | (refine wSkip ?_; try simp) | (refine wOn ?_; try simp only [thenA_n]) | (refine wQn ?_; try simp only [thenA_n])
      refine hL _ (N - 1) (by omega) ⟨k + 1, ls[k].length, by omega, ?_⟩
      simp [h11, h12, hw, hi]
    · rw [if_neg g] at hi
      repeat' first | (refine hK _ ?_; clear hK) | (clear hK; refine hK _ ?_; clear hK) | (clear hK; clear hK; refine hK _ ?_; clear hK) | (clear hK; clear hK; clear hK; refine hK _ ?_; clear hK) | (clear hK; clear hK; clear hK; clear hK; refine hK _ ?_; clear hK) | (refine wSeq fun K hK => ?_) | (refine wReg ?_; simp only [List.map_cons, List.map_nil, strip]) | (refine wDrw (by kernel_rfl) ?_; simp only [List.map_cons, List.map_nil, strip]) | (refine wOs fun K hK => ?_; simp [h11, h12, h13, h5, hlt, hw, g]) | (refine wQs fun K hK => ?_; simp [h11, h12, h13, h5, hlt, hw, g]) | (refine CallK_plain ?_; simp [h11, h12, h13, h5, hlt, hw, g]) | (refine CallQ_plain ?_; simp [h11, h12, h13, h5, hlt, hw, g]) | (refine wRet ?_; try simp) | (refine wCond ?_; simp [h11, h12, h13, h5, hlt, hw, g]) | (refine wBlock ?_) | (refine wExit ?_; try simp) | (refine wSkip ?_; try simp) | (refine wOn ?_; try simp only [thenA_n]) | (refine wQn ?_; try simp only [thenA_n])
      refine hL _ (N - 1) (by omega) ⟨k + 1, x, by omega, ?_⟩
      simp [h11, h12, hw, hi]
  · rw [List.drop_of_length_le (by omega), mx] at hi
    repeat' first | (refine hK _ ?_; clear hK) | (clear hK; refine hK _ ?_; clear hK) | (clear hK; clear hK; refine hK _ ?_; clear hK) | (clear hK; clear hK; clear hK; refine hK _ ?_; clear hK) | (clear hK; clear hK; clear hK; clear hK; refine hK _ ?_; clear hK) | (refine wSeq fun K hK => ?_) | (refine wReg ?_; simp only [List.map_cons, List.map_nil, strip]) | (refine wDrw (by kernel_rfl) ?_; simp only [List.map_cons, List.map_nil, strip]) | (refine wOs fun K hK => ?_; simp [h11, h12, h13, h5, hlt]) | (refine wQs fun K hK => ?_; simp [h11, h12, h13, h5, hlt]) | (refine CallK_plain ?_; simp [h11, h12, h13, h5, hlt]) | (refine CallQ_plain ?_; simp [h11, h12, h13, h5, hlt]) | (refine wRet ?_; try simp) | (refine wCond ?_; simp [h11, h12, h13, h5, hlt]) | (refine wBlock ?_) | (refine wExit ?_; try simp) | (refine wSkip ?_; try simp) | (refine wOn ?_; try simp only [thenA_n]) | (refine wQn ?_; try simp only [thenA_n])
    apply hr
    simp [Try.f13, hi]

def cfs (l : List Cf) : List (List PV) := l.map Cf.cells
@[simp] theorem cfs_len (l : List Cf) : (cfs l).length = l.length := by simp [cfs]
@[simp] theorem cfs_getElem (l : List Cf) (k : Nat) (h : k < (cfs l).length) : (cfs l)[k] = [I (l[k]'(by simpa using h)).ep, I (l[k]'(by simpa using h)).n, I (l[k]'(by simpa using h)).kind, .sl 4 (mbs (l[k]'(by simpa using h)).ms)] := by simp [cfs, Cf.cells]
def allQ (l : List Cf) (set : List Int) : Bool := l.all (fun c => isQ c set) && decide (0 < l.length)

theorem all_con (l : List Cf) (set : List Int) (hl : l.length ≤ 1000) (hm : ∀ c ∈ l, c.ms.length ≤ 1000000) : ACon Try.prog 18 [.p (.sl 4 (cfs l)), .p (.sl 1 (ints set))] (.p (B (allQ l set))) := by
  refine wBody Try.tab Try.mixed Try.func18 rfl rfl Try.ntmps18 (by simp) (by simp) fun Q hr hn => ?_
  repeat' first | (refine hK _ ?_; clear hK) | (clear hK; refine hK _ ?_; clear hK) | (clear hK; clear hK; refine hK _ ?_; clear hK) | (clear hK; clear hK; clear hK; refine hK _ ?_; clear hK) | (clear hK; clear hK; clear hK; clear hK; refine hK _ ?_; clear hK) | (refine wSeq fun K hK => ?_) | (refine wReg ?_; simp only [List.map_cons, List.map_nil, strip]) | (refine wDrw (by kernel_rfl) ?_; simp only [List.map_cons, List.map_nil, strip]) | (refine wOs fun K hK => ?_; simp) | (refine wQs fun K hK => ?_; simp) | (refine CallK_plain ?_; simp) | (refine CallQ_plain ?_; simp) | (refine wRet ?_; try simp) | (refine wCond ?_; simp) | (refine wBlock ?_) | (refine wExit ?_; try simp) | (refine wSkip ?_; try simp) | (refine wOn ?_; try simp only [thenA_n]) | (refine wQn ?_; try simp only [thenA_n])
  refine wLoop (fun N st => ∃ (k : Nat), k + N = l.length ∧ st.s 0 = .p (.sl 4 (cfs l)) ∧ st.s 1 = .p (.sl 1 (ints set)) ∧ st.s 7 = .p (.sl 4 (cfs l)) ∧ st.s 8 = .p (I l.length) ∧ st.s 9 = .p (I k) ∧ (l.drop k).all (fun c => isQ c set) = l.all (fun c => isQ c set)) l.length ⟨0, by simp⟩ fun K N st hL ⟨k, hk, h0, h1, h7, h8, h9, hi⟩ => ?_
  by_cases hlt : k < l.length
  · have hw := wrapS k _ hlt (by omega)
    rw [List.drop_eq_getElem_cons hlt, List.all_cons] at hi
    have hx := is_con l[k] set (hm _ (List.getElem_mem hlt))
    simp only [Cf.cells] at hx
    cases hz : isQ l[k] set with
    | true =>
      rw [hz] at hx hi
      repeat' first | (refine hK _ ?_; clear hK) | (clear hK; refine hK _ ?_; clear hK) | (clear hK; clear hK; refine hK _ ?_; clear hK) | (clear hK; clear hK; clear hK; refine hK _ ?_; clear hK) | (clear hK; clear hK; clear hK; clear hK; refine hK _ ?_; clear hK) | (refine wSeq fun K hK => ?_) | (refine wReg ?_; simp only [List.map_cons, List.map_nil, strip]) | (refine wDrw (by kernel_rfl) ?_; simp only [List.map_cons, List.map_nil, strip]) | (refine wOs fun K hK => ?_; simp [h0, h1, h7, h8, h9, hlt, hw]) | (refine wQs fun K hK => ?_; simp [h0, h1, h7, h8, h9, hlt, hw]) | (refine CallK_plain ?_; simp [h0, h1, h7, h8, h9, hlt, hw]) | (refine CallQ_plain ?_; simp [h0, h1, h7, h8, h9, hlt, hw]) | (refine wRet ?_; try simp) | (refine wCond ?_; simp [h0, h1, h7, h8, h9, hlt, hw]) | (refine wBlock ?_) | (refine wExit ?_; try simp) | (refine wSkip ?_; try simp) | (refine wOn ?_; try simp only [thenA_n]) | (refine wQn ?_; try simp only [thenA_n]) | (refine CallE.pure (hx) rfl ?_) | (refine CallE.lent (hx) rfl ?_) | (refine CallF.pure (hx) rfl ?_) | (refine CallF.lent (hx) rfl ?_) | (refine CallE.own (hx) ?_)
      refine hL _ (N - 1) (by omega) ⟨k + 1, by omega, ?_⟩
      rw [Bool.true_and] at hi
      simp only [h0, h1, h7, h8, hw, hi]
      simp [h0, h1, h7, h8, hw, hi]
    | false =>
      rw [hz] at hx hi
      rw [Bool.false_and] at hi
      repeat' first | (refine hK _ ?_; clear hK) | (clear hK; refine hK _ ?_; clear hK) | (clear hK; clear hK; refine hK _ ?_; clear hK) | (clear hK; clear hK; clear hK; refine hK _ ?_; clear hK) | (clear hK; clear hK; clear hK; clear hK; refine hK _ ?_; clear hK) | (refine wSeq fun K hK => ?_) | (refine wReg ?_; simp only [List.map_cons, List.map_nil, strip]) | (refine wDrw (by kernel_rfl) ?_; simp only [List.map_cons, List.map_nil, strip]) | (refine wOs fun K hK => ?_; simp [h0, h1, h7, h8, h9, hlt, hw]) | (refine wQs fun K hK => ?_; simp [h0, h1, h7, h8, h9, hlt, hw]) | (refine CallK_plain ?_; simp [h0, h1, h7, h8, h9, hlt, hw]) | (refine CallQ_plain ?_; simp [h0, h1, h7, h8, h9, hlt, hw]) | (refine wRet ?_; try simp) | (refine wCond ?_; simp [h0, h1, h7, h8, h9, hlt, hw]) | (refine wBlock ?_) | (refine wExit ?_; try simp) | (refine wSkip ?_; try simp) | (refine wOn ?_; try simp only [thenA_n]) | (refine wQn ?_; try simp only [thenA_n]) | (refine CallE.pure (hx) rfl ?_) | (refine CallE.lent (hx) rfl ?_) | (refine CallF.pure (hx) rfl ?_) | (refine CallF.lent (hx) rfl ?_) | (refine CallE.own (hx) ?_)
      all_goals apply hr
      all_goals simp only [allQ, ← hi]
      all_goals simp [Try.f18]
  · rw [List.drop_of_length_le (by omega), List.all_nil] at hi
    repeat' first | (refine hK _ ?_; clear hK) | (clear hK; refine hK _ ?_; clear hK) | (clear hK; clear hK; refine hK _ ?_; clear hK) | (clear hK; clear hK; clear hK; refine hK _ ?_; clear hK) | (clear hK; clear hK; clear hK; clear hK; refine hK _ ?_; clear hK) | (refine wSeq fun K hK => ?_) | (refine wReg ?_; simp only [List.map_cons, List.map_nil, strip]) | (refine wDrw (by kernel_rfl) ?_; simp only [List.map_cons, List.map_nil, strip]) | (refine wOs fun K hK => ?_; simp [h0, h1, h7, h8, h9, hlt]) | (refine wQs fun K hK => ?_; simp [h0, h1, h7, h8, h9, hlt]) | (refine CallK_plain ?_; simp [h0, h1, h7, h8, h9, hlt]) | (refine CallQ_plain ?_; simp [h0, h1, h7, h8, h9, hlt]) | (refine wRet ?_; try simp) | (refine wCond ?_; simp [h0, h1, h7, h8, h9, hlt]) | (refine wBlock ?_) | (refine wExit ?_; try simp) | (refine wSkip ?_; try simp) | (refine wOn ?_; try simp only [thenA_n]) | (refine wQn ?_; try simp only [thenA_n])
    apply hr
    simp only [allQ, ← hi]
    simp [Try.f18]

theorem all05_con (l : List Cf) (set : List Int) (hl : l.length ≤ 1000) (hm : ∀ c ∈ l, c.ms.length ≤ 1000000) : ACon Try.prog 19 [.p (.sl 4 (cfs l)), .p (.sl 1 (ints set))] (.p (B (allQ l set))) := by
  refine wBody Try.tab Try.mixed Try.func19 rfl rfl Try.ntmps19 (by simp) (by simp) fun Q hr hn => ?_
  repeat' first | (refine hK _ ?_; clear hK) | (clear hK; refine hK _ ?_; clear hK) | (clear hK; clear hK; refine hK _ ?_; clear hK) | (clear hK; clear hK; clear hK; refine hK _ ?_; clear hK) | (clear hK; clear hK; clear hK; clear hK; refine hK _ ?_; clear hK) | (refine wSeq fun K hK => ?_) | (refine wReg ?_; simp only [List.map_cons, List.map_nil, strip]) | (refine wDrw (by kernel_rfl) ?_; simp only [List.map_cons, List.map_nil, strip]) | (refine wOs fun K hK => ?_; simp) | (refine wQs fun K hK => ?_; simp) | (refine CallK_plain ?_; simp) | (refine CallQ_plain ?_; simp) | (refine wRet ?_; try simp) | (refine wCond ?_; simp) | (refine wBlock ?_) | (refine wExit ?_; try simp) | (refine wSkip ?_; try simp) | (refine wOn ?_; try simp only [thenA_n]) | (refine wQn ?_; try simp only [thenA_n])
  refine wLoop (fun N st => ∃ (k : Nat), k + N = l.length ∧ st.s 0 = .p (.sl 4 (cfs l)) ∧ st.s 1 = .p (.sl 1 (ints set)) ∧ st.s 7 = .p (.sl 4 (cfs l)) ∧ st.s 8 = .p (I l.length) ∧ st.s 9 = .p (I k) ∧ (l.drop k).all (fun c => isQ c set) = l.all (fun c => isQ c set)) l.length ⟨0, by simp⟩ fun K N st hL ⟨k, hk, h0, h1, h7, h8, h9, hi⟩ => ?_
  by_cases hlt : k < l.length
  · have hw := wrapS k _ hlt (by omega)
    rw [List.drop_eq_getElem_cons hlt, List.all_cons] at hi
    have hx := is05_con l[k] set (hm _ (List.getElem_mem hlt))
    simp only [Cf.cells] at hx
    cases hz : isQ l[k] set with
    | true =>
      rw [hz] at hx hi
      repeat' first | (refine hK _ ?_; clear hK) | (clear hK; refine hK _ ?_; clear hK) | (clear hK; clear hK; refine hK _ ?_; clear hK) | (clear hK; clear hK; clear hK; refine hK _ ?_; clear hK) | (clear hK; clear hK; clear hK; clear hK; refine hK _ ?_; clear hK) | (refine wSeq fun K hK => ?_) | (refine wReg ?_; simp only [List.map_cons, List.map_nil, strip]) | (refine wDrw (by kernel_rfl) ?_; simp only [List.map_cons, List.map_nil, strip]) | (refine wOs fun K hK => ?_; simp [h0, h1, h7, h8, h9, hlt, hw]) | (refine wQs fun K hK => ?_; simp [h0, h1, h7, h8, h9, hlt, hw]) | (refine CallK_plain ?_; simp [h0, h1, h7, h8, h9, hlt, hw]) | (refine CallQ_plain ?_; simp [h0, h1, h7, h8, h9, hlt, hw]) | (refine wRet ?_; try simp) | (refine wCond ?_; simp [h0, h1, h7, h8, h9, hlt, hw]) | (refine wBlock ?_) | (refine wExit ?_; try simp) | (refine wSkip ?_; try simp) | (refine wOn ?_; try simp only [thenA_n]) | (refine wQn ?_; try simp only [thenA_n]) | (refine CallE.pure (hx) rfl ?_) | (refine CallE.lent (hx) rfl ?_) | (refine CallF.pure (hx) rfl ?_) | (refine CallF.lent (hx) rfl ?_) | (refine CallE.own (hx) ?_)
      refine hL _ (N - 1) (by omega) ⟨k + 1, by omega, ?_⟩
      rw [Bool.true_and] at hi
      simp only [h0, h1, h7, h8, hw, hi]
      simp [h0, h1, h7, h8, hw, hi]
    | false =>
      rw [hz] at hx hi
      rw [Bool.false_and] at hi
      repeat' first | (refine hK _ ?_; clear hK) | (clear hK; refine hK _ ?_; clear hK) | (clear hK; clear hK; refine hK _ ?_; clear hK) | (clear hK; clear hK; clear hK; refine hK _ ?_; clear hK) | (clear hK; clear hK; clear hK; clear hK; refine hK _ ?_; clear hK) | (refine wSeq fun K hK => ?_) | (refine wReg ?_; simp only [List.map_cons, List.map_nil, strip]) | (refine wDrw (by kernel_rfl) ?_; simp only [List.map_cons, List.map_nil, strip]) | (refine wOs fun K hK => ?_; simp [h0, h1, h7, h8, h9, hlt, hw]) | (refine wQs fun K hK => ?_; simp [h0, h1, h7, h8, h9, hlt, hw]) | (refine CallK_plain ?_; simp [h0, h1, h7, h8, h9, hlt, hw]) | (refine CallQ_plain ?_; simp [h0, h1, h7, h8, h9, hlt, hw]) | (refine wRet ?_; try simp) | (refine wCond ?_; simp [h0, h1, h7, h8, h9, hlt, hw]) | (refine wBlock ?_) | (refine wExit ?_; try simp) | (refine wSkip ?_; try simp) | (refine wOn ?_; try simp only [thenA_n]) | (refine wQn ?_; try simp only [thenA_n]) | (refine CallE.pure (hx) rfl ?_) | (refine CallE.lent (hx) rfl ?_) | (refine CallF.pure (hx) rfl ?_) | (refine CallF.lent (hx) rfl ?_) | (refine CallE.own (hx) ?_)
      all_goals apply hr
      all_goals simp only [allQ, ← hi]
      all_goals simp [Try.f19]
  · rw [List.drop_of_length_le (by omega), List.all_nil] at hi
    repeat' first | (refine hK _ ?_; clear hK) | (clear hK; refine hK _ ?_; clear hK) | (clear hK; clear hK; refine hK _ ?_; clear hK) | (clear hK; clear hK; clear hK; refine hK _ ?_; clear hK) | (clear hK; clear hK; clear hK; clear hK; refine hK _ ?_; clear hK) | (refine wSeq fun K hK => ?_) | (refine wReg ?_; simp only [List.map_cons, List.map_nil, strip]) | (refine wDrw (by kernel_rfl) ?_; simp only [List.map_cons, List.map_nil, strip]) | (refine wOs fun K hK => ?_; simp [h0, h1, h7, h8, h9, hlt]) | (refine wQs fun K hK => ?_; simp [h0, h1, h7, h8, h9, hlt]) | (refine CallK_plain ?_; simp [h0, h1, h7, h8, h9, hlt]) | (refine CallQ_plain ?_; simp [h0, h1, h7, h8, h9, hlt]) | (refine wRet ?_; try simp) | (refine wCond ?_; simp [h0, h1, h7, h8, h9, hlt]) | (refine wBlock ?_) | (refine wExit ?_; try simp) | (refine wSkip ?_; try simp) | (refine wOn ?_; try simp only [thenA_n]) | (refine wQn ?_; try simp only [thenA_n])
    apply hr
    simp only [allQ, ← hi]
    simp [Try.f19]

end Go.Proofs.Ytehopfedgkmalaa
