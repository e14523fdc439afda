/- Layer 11's functions that make tables. -/
import Derived.Test.YtnjnloonlcknkaaSessA
namespace Go.Proofs.Ytnjnloonlcknkaa
set_option linter.unusedSimpArgs false
set_option linter.unusedVariables false
open Go Go.Av
attribute [local simp] Try.T
attribute [local irreducible] Go.Av.CallK Go.Av.CallE Go.Av.CallQ Go.Av.CallF Go.Av.Con

theorem set_take {α : Type} (l : List α) (k : Nat) (x : α) (h : k < l.length) : (l.set k x).take (k + 1) = l.take k ++ [x] := by
  rw [List.take_succ_eq_append_getElem (by simpa using h), List.getElem_set_self]
  congr 1
  apply List.ext_getElem?
  intro i
  by_cases hi : i < k
  · rw [List.getElem?_take_of_lt hi, List.getElem?_take_of_lt hi, List.getElem?_set_ne (by omega)]
  · rw [List.getElem?_take_eq_none (by omega), List.getElem?_take_eq_none (by omega)]
theorem take_snoc {α : Type} (l : List α) (k : Nat) (h : k < l.length) : l.take (k + 1) = l.take k ++ [l[k]] := List.take_succ_eq_append_getElem h
@[simp] theorem seens_set (l : List Sn) (k : Nat) (a b : Int) : (seens l).set k [I a, I b] = seens (l.set k ⟨a, b⟩) := by
  simp [seens, Sn.cells, List.map_set]
theorem seens_snoc (l : List Sn) (a b : Int) : seens l ++ [[I a, I b]] = seens (l ++ [⟨a, b⟩]) := by simp [seens, Sn.cells]
theorem ints_snoc (l : List Int) (a : Int) : ints l ++ [[I a]] = ints (l ++ [a]) := by simp [ints]

def rowOf (t : List Sn) (s span : Int) : Sn := (t.find? fun r => decide (r.id = s)).getD ⟨s, span⟩

theorem row_con (t : List Sn) (s span : Int) (ht : t.length ≤ 1000000) : ACon Try.prog 24 [.p (.sl 2 (seens t)), .p (I s), .p (I span)] (.p (.agg (rowOf t s span).cells)) := by
  refine wBody Try.tab Try.mixed Try.func24 rfl rfl Try.ntmps24 (by simp) (by simp) fun Q hr hn => ?_
  repeat' first | (refine hK _ ?_; clear hK) | (clear hK; refine hK _ ?_; clear hK) | (clear hK; clear hK; refine hK _ ?_; clear hK) | (clear hK; clear hK; clear hK; refine hK _ ?_; clear hK) | (clear hK; clear hK; clear hK; clear hK; refine hK _ ?_; clear hK) | (refine wSeq fun K hK => ?_) | (refine wReg ?_; simp only [List.map_cons, List.map_nil, strip]) | (refine wDrw (by kernel_rfl) ?_; simp only [List.map_cons, List.map_nil, strip]) | (refine wOs fun K hK => ?_; simp) | (refine wQs fun K hK => ?_; simp) | (refine CallK_plain ?_; simp) | (refine CallQ_plain ?_; simp) | (refine wRet ?_; try simp) | (refine wCond ?_; simp) | (refine wBlock ?_) | (refine wExit ?_; try simp) | (refine wSkip ?_; try simp) | (refine wOn ?_; try simp only [thenA_n]) | (refine wQn ?_; try simp only [thenA_n])
  refine wLoop (fun N st => ∃ k f, k + N = t.length ∧ st.s 0 = .p (.sl 2 (seens t)) ∧ st.s 1 = .p (I s) ∧ st.s 6 = .ptr 6 0 ∧ st.s 7 = .ptr 7 0 ∧ st.s 14 = .p (I t.length) ∧ st.s 15 = .p (I k) ∧
    st.b 6 = some (.box 34 [.p (I 0), .p (I 0)]) ∧ st.b 7 = some (.box 34 [.p (I (Sn.id f)), .p (I (Sn.lf f))]) ∧ f = rowOf (t.drop (t.length - k)) s span) t.length ⟨0, ⟨s, span⟩, by simp [rowOf]⟩ fun K N st hL ⟨k, f, hk, h0, h1, h6, h7, h14, h15, b6, b7, hf⟩ => ?_
  by_cases hlt : k < t.length
  · have hw := wrapS k _ hlt (by omega)
    have hw1 : IntKind.i64.wrap ((t.length : Int) - 1) = (t.length : Int) - 1 := by rw [wrap_id] <;> omega
    have hw2 : IntKind.i64.wrap ((t.length : Int) - 1 - k) = ((t.length - 1 - k : Nat) : Int) := by rw [wrap_id] <;> omega
    have hj : t.length - 1 - k < t.length := by omega
    have hd : t.drop (t.length - (k + 1)) = t[t.length - 1 - k] :: t.drop (t.length - k) := by
      rw [show t.length - (k + 1) = t.length - 1 - k from by omega, List.drop_eq_getElem_cons hj, show t.length - 1 - k + 1 = t.length - k from by omega]
    by_cases hc : t[t.length - 1 - k].id = s
    · repeat' first | (refine hK _ ?_; clear hK) | (clear hK; refine hK _ ?_; clear hK) | (clear hK; clear hK; refine hK _ ?_; clear hK) | (clear hK; clear hK; clear hK; refine hK _ ?_; clear hK) | (clear hK; clear hK; clear hK; clear hK; refine hK _ ?_; clear hK) | (refine wSeq fun K hK => ?_) | (refine wReg ?_; simp only [List.map_cons, List.map_nil, strip]) | (refine wDrw (by kernel_rfl) ?_; simp only [List.map_cons, List.map_nil, strip]) | (refine wOs fun K hK => ?_; simp [h0, h1, h6, h7, h14, h15, b6, b7, hlt, hw, hw1, hw2, hj, hc]) | (refine wQs fun K hK => ?_; simp [h0, h1, h6, h7, h14, h15, b6, b7, hlt, hw, hw1, hw2, hj, hc]) | (refine CallK_plain ?_; simp [h0, h1, h6, h7, h14, h15, b6, b7, hlt, hw, hw1, hw2, hj, hc]) | (refine CallQ_plain ?_; simp [h0, h1, h6, h7, h14, h15, b6, b7, hlt, hw, hw1, hw2, hj, hc]) | (refine wRet ?_; try simp) | (refine wCond ?_; simp [h0, h1, h6, h7, h14, h15, b6, b7, hlt, hw, hw1, hw2, hj, hc]) | (refine wBlock ?_) | (refine wExit ?_; try simp) | (refine wSkip ?_; try simp) | (refine wOn ?_; try simp only [thenA_n]) | (refine wQn ?_; try simp only [thenA_n])
      refine hL _ (N - 1) (by omega) ⟨k + 1, t[t.length - 1 - k], by omega, ?_⟩
      simp [h0, h1, h6, h7, h14, hw, b6, b7]
      simp [hd, rowOf, hc]
    · repeat' first | (refine hK _ ?_; clear hK) | (clear hK; refine hK _ ?_; clear hK) | (clear hK; clear hK; refine hK _ ?_; clear hK) | (clear hK; clear hK; clear hK; refine hK _ ?_; clear hK) | (clear hK; clear hK; clear hK; clear hK; refine hK _ ?_; clear hK) | (refine wSeq fun K hK => ?_) | (refine wReg ?_; simp only [List.map_cons, List.map_nil, strip]) | (refine wDrw (by kernel_rfl) ?_; simp only [List.map_cons, List.map_nil, strip]) | (refine wOs fun K hK => ?_; simp [h0, h1, h6, h7, h14, h15, b6, b7, hlt, hw, hw1, hw2, hj, hc]) | (refine wQs fun K hK => ?_; simp [h0, h1, h6, h7, h14, h15, b6, b7, hlt, hw, hw1, hw2, hj, hc]) | (refine CallK_plain ?_; simp [h0, h1, h6, h7, h14, h15, b6, b7, hlt, hw, hw1, hw2, hj, hc]) | (refine CallQ_plain ?_; simp [h0, h1, h6, h7, h14, h15, b6, b7, hlt, hw, hw1, hw2, hj, hc]) | (refine wRet ?_; try simp) | (refine wCond ?_; simp [h0, h1, h6, h7, h14, h15, b6, b7, hlt, hw, hw1, hw2, hj, hc]) | (refine wBlock ?_) | (refine wExit ?_; try simp) | (refine wSkip ?_; try simp) | (refine wOn ?_; try simp only [thenA_n]) | (refine wQn ?_; try simp only [thenA_n])
      refine hL _ (N - 1) (by omega) ⟨k + 1, f, by omega, ?_⟩
      simp [h0, h1, h6, h7, h14, hw, b6, b7]
      rw [hf]
      simp [hd, rowOf, hc]
  · have hd : t.drop (t.length - k) = t := by rw [show t.length - k = 0 from by omega]; rfl
    rw [hd] at hf
    repeat' first | (refine hK _ ?_; clear hK) | (clear hK; refine hK _ ?_; clear hK) | (clear hK; clear hK; refine hK _ ?_; clear hK) | (clear hK; clear hK; clear hK; refine hK _ ?_; clear hK) | (clear hK; clear hK; clear hK; clear hK; refine hK _ ?_; clear hK) | (refine wSeq fun K hK => ?_) | (refine wReg ?_; simp only [List.map_cons, List.map_nil, strip]) | (refine wDrw (by kernel_rfl) ?_; simp only [List.map_cons, List.map_nil, strip]) | (refine wOs fun K hK => ?_; simp [h0, h1, h6, h7, h14, h15, b6, b7, hlt]) | (refine wQs fun K hK => ?_; simp [h0, h1, h6, h7, h14, h15, b6, b7, hlt]) | (refine CallK_plain ?_; simp [h0, h1, h6, h7, h14, h15, b6, b7, hlt]) | (refine CallQ_plain ?_; simp [h0, h1, h6, h7, h14, h15, b6, b7, hlt]) | (refine wRet ?_; try simp) | (refine wCond ?_; simp [h0, h1, h6, h7, h14, h15, b6, b7, hlt]) | (refine wBlock ?_) | (refine wExit ?_; try simp) | (refine wSkip ?_; try simp) | (refine wOn ?_; try simp only [thenA_n]) | (refine wQn ?_; try simp only [thenA_n])
    apply hr
    simp [Try.f24, h6, h7, b6, b7, Sn.cells, hf]

def renew (t : List Sn) (live : List Int) (span : Int) : List Sn := live.map fun n => rowOf t n span

theorem renew_con (t : List Sn) (live : List Int) (span : Int) (ht : t.length ≤ 1000000) (hl : live.length ≤ 1000000) : ACon Try.prog 13 [.p (.sl 2 (seens t)), .p (.sl 1 (ints live)), .p (I span)] (.p (.sl 2 (seens (renew t live span)))) := by
  refine wBody Try.tab Try.mixed Try.func13 rfl rfl Try.ntmps13 (by simp) (by simp) fun Q hr hn => ?_
  repeat' first | (rw [if_pos ⟨by omega, by omega⟩]) | (refine hK _ ?_; clear hK) | (clear hK; refine hK _ ?_; clear hK) | (clear hK; clear hK; refine hK _ ?_; clear hK) | (clear hK; clear hK; clear hK; refine hK _ ?_; clear hK) | (clear hK; clear hK; clear hK; clear hK; refine hK _ ?_; clear hK) | (refine wSeq fun K hK => ?_) | (refine wReg ?_; simp only [List.map_cons, List.map_nil, strip]) | (refine wDrw (by kernel_rfl) ?_; simp only [List.map_cons, List.map_nil, strip]) | (refine wOs fun K hK => ?_; simp) | (refine wQs fun K hK => ?_; simp) | (refine CallK_plain ?_; simp) | (refine CallQ_plain ?_; simp) | (refine wRet ?_; try simp) | (refine wCond ?_; simp) | (refine wBlock ?_) | (refine wExit ?_; try simp) | (refine wSkip ?_; try simp) | (refine wOn ?_; try simp only [thenA_n]) | (refine wQn ?_; try simp only [thenA_n])
  refine wLoop (fun N st => ∃ k zs, k + N = live.length ∧ st.s 0 = .p (.sl 2 (seens t)) ∧ st.s 2 = .p (I span) ∧ st.s 7 = .row 12 ∧ st.s 13 = .p (.sl 1 (ints live)) ∧ st.s 14 = .p (I live.length) ∧ st.s 15 = .p (I k) ∧
    st.b 12 = some (.row 34 2 (seens zs)) ∧ zs.length = live.length ∧ zs.take k = (renew t live span).take k) live.length ⟨0, List.replicate live.length ⟨0, 0⟩, by simp [seens, Sn.cells]⟩ fun K N st hL ⟨k, zs, hk, h0, h2, h7, h13, h14, h15, b12, hz, hi⟩ => ?_
  by_cases hlt : k < live.length
  · have hw := wrapS k _ hlt (by omega)
    have hcall := row_con t live[k] span ht
    have hlz : k < zs.length := by omega
    generalize hx : rowOf t live[k] span = x at hcall
    obtain ⟨xa, xb⟩ := x
    simp only [Sn.cells] at hcall
    repeat' first | (refine hK _ ?_; clear hK) | (clear hK; refine hK _ ?_; clear hK) | (clear hK; clear hK; refine hK _ ?_; clear hK) | (clear hK; clear hK; clear hK; refine hK _ ?_; clear hK) | (clear hK; clear hK; clear hK; clear hK; refine hK _ ?_; clear hK) | (refine wSeq fun K hK => ?_) | (refine wReg ?_; simp only [List.map_cons, List.map_nil, strip]) | (refine wDrw (by kernel_rfl) ?_; simp only [List.map_cons, List.map_nil, strip]) | (refine wOs fun K hK => ?_; simp [h0, h2, h7, h13, h14, h15, b12, hlt, hw, hlz, hz]) | (refine wQs fun K hK => ?_; simp [h0, h2, h7, h13, h14, h15, b12, hlt, hw, hlz, hz]) | (refine CallK_plain ?_; simp [h0, h2, h7, h13, h14, h15, b12, hlt, hw, hlz, hz]) | (refine CallQ_plain ?_; simp [h0, h2, h7, h13, h14, h15, b12, hlt, hw, hlz, hz]) | (refine wRet ?_; try simp) | (refine wCond ?_; simp [h0, h2, h7, h13, h14, h15, b12, hlt, hw, hlz, hz]) | (refine wBlock ?_) | (refine wExit ?_; try simp) | (refine wSkip ?_; try simp) | (refine wOn ?_; try simp only [thenA_n]) | (refine wQn ?_; try simp only [thenA_n]) | (refine CallE.pure (hcall) rfl ?_) | (refine CallE.lent (hcall) rfl ?_) | (refine CallF.pure (hcall) rfl ?_) | (refine CallF.lent (hcall) rfl ?_) | (refine CallE.own (hcall) ?_)
    refine hL _ (N - 1) (by omega) ⟨k + 1, zs.set k ⟨xa, xb⟩, by omega, ?_⟩
    simp [h0, h2, h7, h13, h14, hw, b12, hz]
    rw [set_take _ _ _ hlz, hi, take_snoc _ k (by simpa [renew] using hlt)]
    simp [renew, hx]
  · have : zs = renew t live span := by
      rw [List.take_of_length_le (by omega), List.take_of_length_le (by simp [renew]; omega)] at hi
      exact hi
    subst this
    repeat' first | (refine hK _ ?_; clear hK) | (clear hK; refine hK _ ?_; clear hK) | (clear hK; clear hK; refine hK _ ?_; clear hK) | (clear hK; clear hK; clear hK; refine hK _ ?_; clear hK) | (clear hK; clear hK; clear hK; clear hK; refine hK _ ?_; clear hK) | (refine wSeq fun K hK => ?_) | (refine wReg ?_; simp only [List.map_cons, List.map_nil, strip]) | (refine wDrw (by kernel_rfl) ?_; simp only [List.map_cons, List.map_nil, strip]) | (refine wOs fun K hK => ?_; simp [h0, h2, h7, h13, h14, h15, b12, hlt]) | (refine wQs fun K hK => ?_; simp [h0, h2, h7, h13, h14, h15, b12, hlt]) | (refine CallK_plain ?_; simp [h0, h2, h7, h13, h14, h15, b12, hlt]) | (refine CallQ_plain ?_; simp [h0, h2, h7, h13, h14, h15, b12, hlt]) | (refine wRet ?_; try simp) | (refine wCond ?_; simp [h0, h2, h7, h13, h14, h15, b12, hlt]) | (refine wBlock ?_) | (refine wExit ?_; try simp) | (refine wSkip ?_; try simp) | (refine wOn ?_; try simp only [thenA_n]) | (refine wQn ?_; try simp only [thenA_n])
    apply hr
    simp [Try.f13, h7, b12]

theorem renew11_con (t : List Sn) (live : List Int) (span : Int) (ht : t.length ≤ 1000000) (hl : live.length ≤ 1000000) : ACon Try.prog 14 [.p (.sl 2 (seens t)), .p (.sl 1 (ints live)), .p (I span)] (.p (.sl 2 (seens (renew t live span)))) := by
  refine wBody Try.tab Try.mixed Try.func14 rfl rfl Try.ntmps14 (by simp) (by simp) fun Q hr hn => ?_
  repeat' first | (refine hK _ ?_; clear hK) | (clear hK; refine hK _ ?_; clear hK) | (clear hK; clear hK; refine hK _ ?_; clear hK) | (clear hK; clear hK; clear hK; refine hK _ ?_; clear hK) | (clear hK; clear hK; clear hK; clear hK; refine hK _ ?_; clear hK) | (refine wSeq fun K hK => ?_) | (refine wReg ?_; simp only [List.map_cons, List.map_nil, strip]) | (refine wDrw (by kernel_rfl) ?_; simp only [List.map_cons, List.map_nil, strip]) | (refine wOs fun K hK => ?_; simp) | (refine wQs fun K hK => ?_; simp) | (refine CallK_plain ?_; simp) | (refine CallQ_plain ?_; simp) | (refine wRet ?_; try simp) | (refine wCond ?_; simp) | (refine wBlock ?_) | (refine wExit ?_; try simp) | (refine wSkip ?_; try simp) | (refine wOn ?_; try simp only [thenA_n]) | (refine wQn ?_; try simp only [thenA_n])
  refine wLoopG [.row 7 34 2] (fun N st => ∃ k, k + N = live.length ∧ st.s 0 = .p (.sl 2 (seens t)) ∧ st.s 2 = .p (I span) ∧ st.s 7 = .row 7 ∧ st.s 12 = .p (.sl 1 (ints live)) ∧ st.s 13 = .p (I live.length) ∧ st.s 14 = .p (I k) ∧
    st.b 7 = some (.row 34 2 (seens ((renew t live span).take k)))) live.length ⟨0, by simp [seens]⟩ fun K N st hL ⟨k, hk, h0, h2, h7, h12, h13, h14, b7⟩ => ?_
  by_cases hlt : k < live.length
  · have hw := wrapS k _ hlt (by omega)
    have hw1 : IntKind.i64.wrap ((t.length : Int) - 1) = (t.length : Int) - 1 := by rw [wrap_id] <;> omega
    repeat' first | (refine hK _ ?_; clear hK) | (clear hK; refine hK _ ?_; clear hK) | (clear hK; clear hK; refine hK _ ?_; clear hK) | (clear hK; clear hK; clear hK; refine hK _ ?_; clear hK) | (clear hK; clear hK; clear hK; clear hK; refine hK _ ?_; clear hK) | (refine wSeq fun K hK => ?_) | (refine wReg ?_; simp only [List.map_cons, List.map_nil, strip]) | (refine wDrw (by kernel_rfl) ?_; simp only [List.map_cons, List.map_nil, strip]) | (refine wOs fun K hK => ?_; simp [h0, h2, h7, h12, h13, h14, b7, hlt, hw, hw1]) | (refine wQs fun K hK => ?_; simp [h0, h2, h7, h12, h13, h14, b7, hlt, hw, hw1]) | (refine CallK_plain ?_; simp [h0, h2, h7, h12, h13, h14, b7, hlt, hw, hw1]) | (refine CallQ_plain ?_; simp [h0, h2, h7, h12, h13, h14, b7, hlt, hw, hw1]) | (refine wRet ?_; try simp) | (refine wCond ?_; simp [h0, h2, h7, h12, h13, h14, b7, hlt, hw, hw1]) | (refine wBlock ?_) | (refine wExit ?_; try simp) | (refine wSkip ?_; try simp) | (refine wOn ?_; try simp only [thenA_n]) | (refine wQn ?_; try simp only [thenA_n])
    refine wLoop (fun N st => ∃ j f, j = N ∧ j ≤ t.length ∧ st.s 0 = .p (.sl 2 (seens t)) ∧ st.s 2 = .p (I span) ∧ st.s 7 = .row 7 ∧ st.s 9 = .p (I live[k]) ∧ st.s 10 = .ptr 10 0 ∧ st.s 11 = .p (I ((j : Int) - 1)) ∧ st.s 12 = .p (.sl 1 (ints live)) ∧ st.s 13 = .p (I live.length) ∧ st.s 14 = .p (I k) ∧
      st.b 7 = some (.row 34 2 (seens ((renew t live span).take k))) ∧ st.b 10 = some (.box 34 [.p (I (Sn.id f)), .p (I (Sn.lf f))]) ∧ f = rowOf (t.drop j) live[k] span) t.length ⟨t.length, ⟨live[k], span⟩, by simp [h0, h2, h7, h12, h13, h14, b7, rowOf]⟩ fun K' N' st' hL' ⟨j, f, hj, hjt, g0, g2, g7, g9, g10, g11, g12, g13, g14, c7, c10, hf⟩ => ?_
    by_cases hjp : 0 < j
    · have hj1 : ((j : Int) - 1) = ((j - 1 : Nat) : Int) := by omega
      have hjl : j - 1 < t.length := by omega
      have hge : ¬ ((j - 1 : Nat) : Int) < 0 := by omega
      have hw2 : IntKind.i64.wrap (((j - 1 : Nat) : Int) - 1) = ((j - 1 : Nat) : Int) - 1 := by rw [wrap_id] <;> omega
      have hd : t.drop (j - 1) = t[j - 1] :: t.drop j := by
        rw [List.drop_eq_getElem_cons hjl, show j - 1 + 1 = j from by omega]
      rw [hj1] at g11
      by_cases hc : t[j - 1].id = live[k]
      · repeat' first | (refine hK _ ?_; clear hK) | (clear hK; refine hK _ ?_; clear hK) | (clear hK; clear hK; refine hK _ ?_; clear hK) | (clear hK; clear hK; clear hK; refine hK _ ?_; clear hK) | (clear hK; clear hK; clear hK; clear hK; refine hK _ ?_; clear hK) | (refine wSeq fun K hK => ?_) | (refine wReg ?_; simp only [List.map_cons, List.map_nil, strip]) | (refine wDrw (by kernel_rfl) ?_; simp only [List.map_cons, List.map_nil, strip]) | (refine wOs fun K hK => ?_; simp [g0, g2, g7, g9, g10, g11, g12, g13, g14, c7, c10, hjl, hge, hw2, hc]) | (refine wQs fun K hK => ?_; simp [g0, g2, g7, g9, g10, g11, g12, g13, g14, c7, c10, hjl, hge, hw2, hc]) | (refine CallK_plain ?_; simp [g0, g2, g7, g9, g10, g11, g12, g13, g14, c7, c10, hjl, hge, hw2, hc]) | (refine CallQ_plain ?_; simp [g0, g2, g7, g9, g10, g11, g12, g13, g14, c7, c10, hjl, hge, hw2, hc]) | (refine wRet ?_; try simp) | (refine wCond ?_; simp [g0, g2, g7, g9, g10, g11, g12, g13, g14, c7, c10, hjl, hge, hw2, hc]) | (refine wBlock ?_) | (refine wExit ?_; try simp) | (refine wSkip ?_; try simp) | (refine wOn ?_; try simp only [thenA_n]) | (refine wQn ?_; try simp only [thenA_n])
        refine hL' _ (N' - 1) (by omega) ⟨j - 1, t[j - 1], by omega, by omega, ?_⟩
        simp [g0, g2, g7, g9, g10, g12, g13, g14, c7, c10, hw2]
        simp [hd, rowOf, hc]
      · repeat' first | (refine hK _ ?_; clear hK) | (clear hK; refine hK _ ?_; clear hK) | (clear hK; clear hK; refine hK _ ?_; clear hK) | (clear hK; clear hK; clear hK; refine hK _ ?_; clear hK) | (clear hK; clear hK; clear hK; clear hK; refine hK _ ?_; clear hK) | (refine wSeq fun K hK => ?_) | (refine wReg ?_; simp only [List.map_cons, List.map_nil, strip]) | (refine wDrw (by kernel_rfl) ?_; simp only [List.map_cons, List.map_nil, strip]) | (refine wOs fun K hK => ?_; simp [g0, g2, g7, g9, g10, g11, g12, g13, g14, c7, c10, hjl, hge, hw2, hc]) | (refine wQs fun K hK => ?_; simp [g0, g2, g7, g9, g10, g11, g12, g13, g14, c7, c10, hjl, hge, hw2, hc]) | (refine CallK_plain ?_; simp [g0, g2, g7, g9, g10, g11, g12, g13, g14, c7, c10, hjl, hge, hw2, hc]) | (refine CallQ_plain ?_; simp [g0, g2, g7, g9, g10, g11, g12, g13, g14, c7, c10, hjl, hge, hw2, hc]) | (refine wRet ?_; try simp) | (refine wCond ?_; simp [g0, g2, g7, g9, g10, g11, g12, g13, g14, c7, c10, hjl, hge, hw2, hc]) | (refine wBlock ?_) | (refine wExit ?_; try simp) | (refine wSkip ?_; try simp) | (refine wOn ?_; try simp only [thenA_n]) | (refine wQn ?_; try simp only [thenA_n])
        refine hL' _ (N' - 1) (by omega) ⟨j - 1, f, by omega, by omega, ?_⟩
        simp [g0, g2, g7, g9, g10, g12, g13, g14, c7, c10, hw2]
        rw [hf]
        simp [hd, rowOf, hc]
    · obtain rfl : j = 0 := by omega
      simp at g11
      have hml : min k (renew t live span).length = k := by simp [renew]; omega
      repeat' first | (refine And.intro (by omega) ?_) | (refine hK _ ?_; clear hK) | (clear hK; refine hK _ ?_; clear hK) | (clear hK; clear hK; refine hK _ ?_; clear hK) | (clear hK; clear hK; clear hK; refine hK _ ?_; clear hK) | (clear hK; clear hK; clear hK; clear hK; refine hK _ ?_; clear hK) | (refine wSeq fun K hK => ?_) | (refine wReg ?_; simp only [List.map_cons, List.map_nil, strip]) | (refine wDrw (by kernel_rfl) ?_; simp only [List.map_cons, List.map_nil, strip]) | (refine wOs fun K hK => ?_; simp [g0, g2, g7, g9, g10, g11, g12, g13, g14, c7, c10, hw, hml]) | (refine wQs fun K hK => ?_; simp [g0, g2, g7, g9, g10, g11, g12, g13, g14, c7, c10, hw, hml]) | (refine CallK_plain ?_; simp [g0, g2, g7, g9, g10, g11, g12, g13, g14, c7, c10, hw, hml]) | (refine CallQ_plain ?_; simp [g0, g2, g7, g9, g10, g11, g12, g13, g14, c7, c10, hw, hml]) | (refine wRet ?_; try simp) | (refine wCond ?_; simp [g0, g2, g7, g9, g10, g11, g12, g13, g14, c7, c10, hw, hml]) | (refine wBlock ?_) | (refine wExit ?_; try simp) | (refine wSkip ?_; try simp) | (refine wOn ?_; try simp only [thenA_n]) | (refine wQn ?_; try simp only [thenA_n])
      refine hL _ (N - 1) (by omega) ⟨k + 1, by omega, ?_⟩
      simp [g0, g2, g7, g12, g13, g14, c7, hw]
      rw [seens_snoc, take_snoc _ k (by simpa [renew] using hlt)]
      simp [renew, hf]
  · repeat' first | (refine hK _ ?_; clear hK) | (clear hK; refine hK _ ?_; clear hK) | (clear hK; clear hK; refine hK _ ?_; clear hK) | (clear hK; clear hK; clear hK; refine hK _ ?_; clear hK) | (clear hK; clear hK; clear hK; clear hK; refine hK _ ?_; clear hK) | (refine wSeq fun K hK => ?_) | (refine wReg ?_; simp only [List.map_cons, List.map_nil, strip]) | (refine wDrw (by kernel_rfl) ?_; simp only [List.map_cons, List.map_nil, strip]) | (refine wOs fun K hK => ?_; simp [h0, h2, h7, h12, h13, h14, b7, hlt]) | (refine wQs fun K hK => ?_; simp [h0, h2, h7, h12, h13, h14, b7, hlt]) | (refine CallK_plain ?_; simp [h0, h2, h7, h12, h13, h14, b7, hlt]) | (refine CallQ_plain ?_; simp [h0, h2, h7, h12, h13, h14, b7, hlt]) | (refine wRet ?_; try simp) | (refine wCond ?_; simp [h0, h2, h7, h12, h13, h14, b7, hlt]) | (refine wBlock ?_) | (refine wExit ?_; try simp) | (refine wSkip ?_; try simp) | (refine wOn ?_; try simp only [thenA_n]) | (refine wQn ?_; try simp only [thenA_n])
    apply hr
    have : (renew t live span).take k = renew t live span := List.take_of_length_le (by simp [renew]; omega)
    simp [Try.f14, h7, b7, this]

def touch (t : List Sn) (l : List Int) (span : Int) : List Sn := t.map fun r => if r.id ∈ l then ⟨r.id, span⟩ else r
theorem touch_con (t : List Sn) (l : List Int) (span : Int) (ht : t.length ≤ 1000000) : ACon Try.prog 15 [.p (.sl 2 (seens t)), .p (.sl 1 (ints l)), .p (I span)] (.p (.sl 2 (seens (touch t l span)))) := by
  have hcl := cloneSeen (seens t) (by simpa using ht)
  refine wBody Try.tab Try.mixed Try.func15 rfl rfl Try.ntmps15 (by simp) (by simp) fun Q hr hn => ?_
  repeat' first | (refine hK _ ?_; clear hK) | (clear hK; refine hK _ ?_; clear hK) | (clear hK; clear hK; refine hK _ ?_; clear hK) | (clear hK; clear hK; clear hK; refine hK _ ?_; clear hK) | (clear hK; clear hK; clear hK; clear hK; refine hK _ ?_; clear hK) | (refine wSeq fun K hK => ?_) | (refine wReg ?_; simp only [List.map_cons, List.map_nil, strip]) | (refine wDrw (by kernel_rfl) ?_; simp only [List.map_cons, List.map_nil, strip]) | (refine wOs fun K hK => ?_; simp) | (refine wQs fun K hK => ?_; simp) | (refine CallK_plain ?_; simp) | (refine CallQ_plain ?_; simp) | (refine wRet ?_; try simp) | (refine wCond ?_; simp) | (refine wBlock ?_) | (refine wExit ?_; try simp) | (refine wSkip ?_; try simp) | (refine wOn ?_; try simp only [thenA_n]) | (refine wQn ?_; try simp only [thenA_n]) | (refine CallE.pure (hcl) rfl ?_) | (refine CallE.lent (hcl) rfl ?_) | (refine CallF.pure (hcl) rfl ?_) | (refine CallF.lent (hcl) rfl ?_) | (refine CallE.own (hcl) ?_)
  refine wLoop (fun N st => ∃ k zs, k + N = t.length ∧ st.s 1 = .p (.sl 1 (ints l)) ∧ st.s 2 = .p (I span) ∧ st.s 7 = .row 10 ∧ st.s 12 = .p (I t.length) ∧ st.s 13 = .p (I k) ∧
    st.b 10 = some (.row 34 2 (seens zs)) ∧ zs.length = t.length ∧ zs.take k = (touch t l span).take k ∧ zs.drop k = t.drop k) t.length ⟨0, t, by simp⟩ fun K N st hL ⟨k, zs, hk, h1, h2, h7, h12, h13, b10, hz, hi, hd⟩ => ?_
  by_cases hlt : k < t.length
  · have hw := wrapS k _ hlt (by omega)
    have hlz : k < zs.length := by omega
    rw [List.drop_eq_getElem_cons hlz, List.drop_eq_getElem_cons hlt, List.cons.injEq] at hd
    obtain ⟨hd1, hd2⟩ := hd
    have hcall := contains_con l t[k].id
    by_cases hc : t[k].id ∈ l
    · rw [decide_eq_true hc] at hcall
      repeat' first | (refine hK _ ?_; clear hK) | (clear hK; refine hK _ ?_; clear hK) | (clear hK; clear hK; refine hK _ ?_; clear hK) | (clear hK; clear hK; clear hK; refine hK _ ?_; clear hK) | (clear hK; clear hK; clear hK; clear hK; refine hK _ ?_; clear hK) | (refine wSeq fun K hK => ?_) | (refine wReg ?_; simp only [List.map_cons, List.map_nil, strip]) | (refine wDrw (by kernel_rfl) ?_; simp only [List.map_cons, List.map_nil, strip]) | (refine wOs fun K hK => ?_; simp [h1, h2, h7, h12, h13, b10, hlt, hw, hlz, hz, hd1]) | (refine wQs fun K hK => ?_; simp [h1, h2, h7, h12, h13, b10, hlt, hw, hlz, hz, hd1]) | (refine CallK_plain ?_; simp [h1, h2, h7, h12, h13, b10, hlt, hw, hlz, hz, hd1]) | (refine CallQ_plain ?_; simp [h1, h2, h7, h12, h13, b10, hlt, hw, hlz, hz, hd1]) | (refine wRet ?_; try simp) | (refine wCond ?_; simp [h1, h2, h7, h12, h13, b10, hlt, hw, hlz, hz, hd1]) | (refine wBlock ?_) | (refine wExit ?_; try simp) | (refine wSkip ?_; try simp) | (refine wOn ?_; try simp only [thenA_n]) | (refine wQn ?_; try simp only [thenA_n]) | (refine CallE.pure (hcall) rfl ?_) | (refine CallE.lent (hcall) rfl ?_) | (refine CallF.pure (hcall) rfl ?_) | (refine CallF.lent (hcall) rfl ?_) | (refine CallE.own (hcall) ?_)
      refine hL _ (N - 1) (by omega) ⟨k + 1, zs.set k ⟨t[k].id, span⟩, by omega, ?_⟩
      simp [h1, h2, h7, h12, hw, b10, hz]
      refine ⟨?_, ?_⟩
      · rw [set_take _ _ _ hlz, hi, take_snoc _ k (by simpa [touch] using hlt)]
        simp [touch, hc]
      · rw [List.drop_set]; simp [hd2]
    · rw [decide_eq_false hc] at hcall
      repeat' first | (refine hK _ ?_; clear hK) | (clear hK; refine hK _ ?_; clear hK) | (clear hK; clear hK; refine hK _ ?_; clear hK) | (clear hK; clear hK; clear hK; refine hK _ ?_; clear hK) | (clear hK; clear hK; clear hK; clear hK; refine hK _ ?_; clear hK) | (refine wSeq fun K hK => ?_) | (refine wReg ?_; simp only [List.map_cons, List.map_nil, strip]) | (refine wDrw (by kernel_rfl) ?_; simp only [List.map_cons, List.map_nil, strip]) | (refine wOs fun K hK => ?_; simp [h1, h2, h7, h12, h13, b10, hlt, hw, hlz, hz, hd1]) | (refine wQs fun K hK => ?_; simp [h1, h2, h7, h12, h13, b10, hlt, hw, hlz, hz, hd1]) | (refine CallK_plain ?_; simp [h1, h2, h7, h12, h13, b10, hlt, hw, hlz, hz, hd1]) | (refine CallQ_plain ?_; simp [h1, h2, h7, h12, h13, b10, hlt, hw, hlz, hz, hd1]) | (refine wRet ?_; try simp) | (refine wCond ?_; simp [h1, h2, h7, h12, h13, b10, hlt, hw, hlz, hz, hd1]) | (refine wBlock ?_) | (refine wExit ?_; try simp) | (refine wSkip ?_; try simp) | (refine wOn ?_; try simp only [thenA_n]) | (refine wQn ?_; try simp only [thenA_n]) | (refine CallE.pure (hcall) rfl ?_) | (refine CallE.lent (hcall) rfl ?_) | (refine CallF.pure (hcall) rfl ?_) | (refine CallF.lent (hcall) rfl ?_) | (refine CallE.own (hcall) ?_)
      refine hL _ (N - 1) (by omega) ⟨k + 1, zs, by omega, ?_⟩
      simp [h1, h2, h7, h12, hw, b10, hz]
      refine ⟨?_, hd2⟩
      rw [take_snoc _ k hlz, hi, take_snoc _ k (by simpa [touch] using hlt), hd1]
      simp [touch, hc]
  · have : zs = touch t l span := by
      rw [List.take_of_length_le (by omega), List.take_of_length_le (by simp [touch]; omega)] at hi
      exact hi
    subst this
    repeat' first | (refine hK _ ?_; clear hK) | (clear hK; refine hK _ ?_; clear hK) | (clear hK; clear hK; refine hK _ ?_; clear hK) | (clear hK; clear hK; clear hK; refine hK _ ?_; clear hK) | (clear hK; clear hK; clear hK; clear hK; refine hK _ ?_; clear hK) | (refine wSeq fun K hK => ?_) | (refine wReg ?_; simp only [List.map_cons, List.map_nil, strip]) | (refine wDrw (by kernel_rfl) ?_; simp only [List.map_cons, List.map_nil, strip]) | (refine wOs fun K hK => ?_; simp [h1, h2, h7, h12, h13, b10, hlt]) | (refine wQs fun K hK => ?_; simp [h1, h2, h7, h12, h13, b10, hlt]) | (refine CallK_plain ?_; simp [h1, h2, h7, h12, h13, b10, hlt]) | (refine CallQ_plain ?_; simp [h1, h2, h7, h12, h13, b10, hlt]) | (refine wRet ?_; try simp) | (refine wCond ?_; simp [h1, h2, h7, h12, h13, b10, hlt]) | (refine wBlock ?_) | (refine wExit ?_; try simp) | (refine wSkip ?_; try simp) | (refine wOn ?_; try simp only [thenA_n]) | (refine wQn ?_; try simp only [thenA_n])
    apply hr
    simp [Try.f15, h7, b10]

theorem touch11_con (t : List Sn) (l : List Int) (span : Int) (ht : t.length ≤ 1000000) : ACon Try.prog 16 [.p (.sl 2 (seens t)), .p (.sl 1 (ints l)), .p (I span)] (.p (.sl 2 (seens (touch t l span)))) := by
  refine wBody Try.tab Try.mixed Try.func16 rfl rfl Try.ntmps16 (by simp) (by simp) fun Q hr hn => ?_
  repeat' first | (refine hK _ ?_; clear hK) | (clear hK; refine hK _ ?_; clear hK) | (clear hK; clear hK; refine hK _ ?_; clear hK) | (clear hK; clear hK; clear hK; refine hK _ ?_; clear hK) | (clear hK; clear hK; clear hK; clear hK; refine hK _ ?_; clear hK) | (refine wSeq fun K hK => ?_) | (refine wReg ?_; simp only [List.map_cons, List.map_nil, strip]) | (refine wDrw (by kernel_rfl) ?_; simp only [List.map_cons, List.map_nil, strip]) | (refine wOs fun K hK => ?_; simp) | (refine wQs fun K hK => ?_; simp) | (refine CallK_plain ?_; simp) | (refine CallQ_plain ?_; simp) | (refine wRet ?_; try simp) | (refine wCond ?_; simp) | (refine wBlock ?_) | (refine wExit ?_; try simp) | (refine wSkip ?_; try simp) | (refine wOn ?_; try simp only [thenA_n]) | (refine wQn ?_; try simp only [thenA_n])
  refine wLoopG [.row 7 34 2] (fun N st => ∃ k, k + N = t.length ∧ st.s 1 = .p (.sl 1 (ints l)) ∧ st.s 2 = .p (I span) ∧ st.s 7 = .row 7 ∧ st.s 10 = .p (.sl 2 (seens t)) ∧ st.s 11 = .p (I t.length) ∧ st.s 12 = .p (I k) ∧
    st.b 7 = some (.row 34 2 (seens ((touch t l span).take k)))) t.length ⟨0, by simp [seens]⟩ fun K N st hL ⟨k, hk, h1, h2, h7, h10, h11, h12, b7⟩ => ?_
  by_cases hlt : k < t.length
  · have hw := wrapS k _ hlt (by omega)
    have hml : min k (touch t l span).length = k := by simp [touch]; omega
    have hcall := has11_con l t[k].id
    by_cases hc : t[k].id ∈ l
    · rw [decide_eq_true hc] at hcall
      repeat' first | (refine And.intro (by omega) ?_) | (refine hK _ ?_; clear hK) | (clear hK; refine hK _ ?_; clear hK) | (clear hK; clear hK; refine hK _ ?_; clear hK) | (clear hK; clear hK; clear hK; refine hK _ ?_; clear hK) | (clear hK; clear hK; clear hK; clear hK; refine hK _ ?_; clear hK) | (refine wSeq fun K hK => ?_) | (refine wReg ?_; simp only [List.map_cons, List.map_nil, strip]) | (refine wDrw (by kernel_rfl) ?_; simp only [List.map_cons, List.map_nil, strip]) | (refine wOs fun K hK => ?_; simp [h1, h2, h7, h10, h11, h12, b7, hlt, hw, hml]) | (refine wQs fun K hK => ?_; simp [h1, h2, h7, h10, h11, h12, b7, hlt, hw, hml]) | (refine CallK_plain ?_; simp [h1, h2, h7, h10, h11, h12, b7, hlt, hw, hml]) | (refine CallQ_plain ?_; simp [h1, h2, h7, h10, h11, h12, b7, hlt, hw, hml]) | (refine wRet ?_; try simp) | (refine wCond ?_; simp [h1, h2, h7, h10, h11, h12, b7, hlt, hw, hml]) | (refine wBlock ?_) | (refine wExit ?_; try simp) | (refine wSkip ?_; try simp) | (refine wOn ?_; try simp only [thenA_n]) | (refine wQn ?_; try simp only [thenA_n]) | (refine CallE.pure (hcall) rfl ?_) | (refine CallE.lent (hcall) rfl ?_) | (refine CallF.pure (hcall) rfl ?_) | (refine CallF.lent (hcall) rfl ?_) | (refine CallE.own (hcall) ?_)
      refine hL _ (N - 1) (by omega) ⟨k + 1, by omega, ?_⟩
      simp [h1, h2, h7, h10, h11, hw, b7]
      rw [seens_snoc, take_snoc _ k (by simpa [touch] using hlt)]
      simp [touch, hc]
    · rw [decide_eq_false hc] at hcall
      repeat' first | (refine And.intro (by omega) ?_) | (refine hK _ ?_; clear hK) | (clear hK; refine hK _ ?_; clear hK) | (clear hK; clear hK; refine hK _ ?_; clear hK) | (clear hK; clear hK; clear hK; refine hK _ ?_; clear hK) | (clear hK; clear hK; clear hK; clear hK; refine hK _ ?_; clear hK) | (refine wSeq fun K hK => ?_) | (refine wReg ?_; simp only [List.map_cons, List.map_nil, strip]) | (refine wDrw (by kernel_rfl) ?_; simp only [List.map_cons, List.map_nil, strip]) | (refine wOs fun K hK => ?_; simp [h1, h2, h7, h10, h11, h12, b7, hlt, hw, hml]) | (refine wQs fun K hK => ?_; simp [h1, h2, h7, h10, h11, h12, b7, hlt, hw, hml]) | (refine CallK_plain ?_; simp [h1, h2, h7, h10, h11, h12, b7, hlt, hw, hml]) | (refine CallQ_plain ?_; simp [h1, h2, h7, h10, h11, h12, b7, hlt, hw, hml]) | (refine wRet ?_; try simp) | (refine wCond ?_; simp [h1, h2, h7, h10, h11, h12, b7, hlt, hw, hml]) | (refine wBlock ?_) | (refine wExit ?_; try simp) | (refine wSkip ?_; try simp) | (refine wOn ?_; try simp only [thenA_n]) | (refine wQn ?_; try simp only [thenA_n]) | (refine CallE.pure (hcall) rfl ?_) | (refine CallE.lent (hcall) rfl ?_) | (refine CallF.pure (hcall) rfl ?_) | (refine CallF.lent (hcall) rfl ?_) | (refine CallE.own (hcall) ?_)
      refine hL _ (N - 1) (by omega) ⟨k + 1, by omega, ?_⟩
      simp [h1, h2, h7, h10, h11, hw, b7]
      rw [seens_snoc, take_snoc _ k (by simpa [touch] using hlt)]
      simp [touch, hc]
  · have : (touch t l span).take k = touch t l span := List.take_of_length_le (by simp [touch]; omega)
    repeat' first | (refine hK _ ?_; clear hK) | (clear hK; refine hK _ ?_; clear hK) | (clear hK; clear hK; refine hK _ ?_; clear hK) | (clear hK; clear hK; clear hK; refine hK _ ?_; clear hK) | (clear hK; clear hK; clear hK; clear hK; refine hK _ ?_; clear hK) | (refine wSeq fun K hK => ?_) | (refine wReg ?_; simp only [List.map_cons, List.map_nil, strip]) | (refine wDrw (by kernel_rfl) ?_; simp only [List.map_cons, List.map_nil, strip]) | (refine wOs fun K hK => ?_; simp [h1, h2, h7, h10, h11, h12, b7, hlt]) | (refine wQs fun K hK => ?_; simp [h1, h2, h7, h10, h11, h12, b7, hlt]) | (refine CallK_plain ?_; simp [h1, h2, h7, h10, h11, h12, b7, hlt]) | (refine CallQ_plain ?_; simp [h1, h2, h7, h10, h11, h12, b7, hlt]) | (refine wRet ?_; try simp) | (refine wCond ?_; simp [h1, h2, h7, h10, h11, h12, b7, hlt]) | (refine wBlock ?_) | (refine wExit ?_; try simp) | (refine wSkip ?_; try simp) | (refine wOn ?_; try simp only [thenA_n]) | (refine wQn ?_; try simp only [thenA_n])
    apply hr
    simp [Try.f16, h7, b7, this]

def dec (r : Sn) : Sn := if 0 < r.lf then ⟨r.id, IntKind.i64.wrap (r.lf - 1)⟩ else r
def tick (t : List Sn) : List Sn := t.map dec
def overs : List Sn → List Int
  | [] => []
  | r :: l => if r.lf ≤ 0 then r.id :: overs l else overs l
theorem overs_snoc (r : Sn) : ∀ l : List Sn, overs (l ++ [r]) = overs l ++ (if r.lf ≤ 0 then [r.id] else [])
  | [] => by by_cases h : r.lf ≤ 0 <;> simp [overs, h]
  | a :: l => by by_cases h : a.lf ≤ 0 <;> simp [overs, h, overs_snoc r l]
theorem overs_len : ∀ l : List Sn, (overs l).length ≤ l.length
  | [] => by simp [overs]
  | a :: l => by have := overs_len l; by_cases h : a.lf ≤ 0 <;> simp [overs, h] <;> omega

theorem tick_con (t : List Sn) (ht : t.length ≤ 1000000) : ACon Try.prog 10 [.p (.sl 2 (seens t))] (.tup [.p (.sl 2 (seens (tick t))), .p (.sl 1 (ints (overs (tick t))))]) := by
  have hcl := cloneSeen (seens t) (by simpa using ht)
  refine wBody Try.tab Try.mixed Try.func10 rfl rfl Try.ntmps10 (by simp) (by simp) fun Q hr hn => ?_
  repeat' first | (refine hK _ ?_; clear hK) | (clear hK; refine hK _ ?_; clear hK) | (clear hK; clear hK; refine hK _ ?_; clear hK) | (clear hK; clear hK; clear hK; refine hK _ ?_; clear hK) | (clear hK; clear hK; clear hK; clear hK; refine hK _ ?_; clear hK) | (refine wSeq fun K hK => ?_) | (refine wReg ?_; simp only [List.map_cons, List.map_nil, strip]) | (refine wDrw (by kernel_rfl) ?_; simp only [List.map_cons, List.map_nil, strip]) | (refine wOs fun K hK => ?_; simp) | (refine wQs fun K hK => ?_; simp) | (refine CallK_plain ?_; simp) | (refine CallQ_plain ?_; simp) | (refine wRet ?_; try simp) | (refine wCond ?_; simp) | (refine wBlock ?_) | (refine wExit ?_; try simp) | (refine wSkip ?_; try simp) | (refine wOn ?_; try simp only [thenA_n]) | (refine wQn ?_; try simp only [thenA_n]) | (refine CallE.pure (hcl) rfl ?_) | (refine CallE.lent (hcl) rfl ?_) | (refine CallF.pure (hcl) rfl ?_) | (refine CallF.lent (hcl) rfl ?_) | (refine CallE.own (hcl) ?_)
  refine wLoopG [.row 5 3 1] (fun N st => ∃ k zs, k + N = t.length ∧ st.s 4 = .row 8 ∧ st.s 5 = .row 5 ∧ st.s 10 = .p (I t.length) ∧ st.s 11 = .p (I k) ∧
    st.b 8 = some (.row 34 2 (seens zs)) ∧ st.b 5 = some (.row 3 1 (ints (overs ((tick t).take k)))) ∧ zs.length = t.length ∧ zs.take k = (tick t).take k ∧ zs.drop k = t.drop k) t.length ⟨0, t, by simp [ints, overs]⟩ fun K N st hL ⟨k, zs, hk, h4, h5, h10, h11, b8, b5, hz, hi, hd⟩ => ?_
  by_cases hlt : k < t.length
  · have hw := wrapS k _ hlt (by omega)
    have hlz : k < zs.length := by omega
    rw [List.drop_eq_getElem_cons hlz, List.drop_eq_getElem_cons hlt, List.cons.injEq] at hd
    obtain ⟨hd1, hd2⟩ := hd
    have hol : (overs ((tick t).take k)).length ≤ k := by
      have := overs_len ((tick t).take k)
      have h2 : ((tick t).take k).length ≤ k := List.length_take_le _ _
      omega
    have hts : (tick t).take (k + 1) = (tick t).take k ++ [dec t[k]] := by
      rw [take_snoc _ k (by simpa [tick] using hlt)]; simp [tick]
    by_cases hc : 0 < t[k].lf
    · have hdk : dec t[k] = ⟨t[k].id, IntKind.i64.wrap (t[k].lf - 1)⟩ := by simp [dec, hc]
      have hget : (zs.set k ⟨t[k].id, IntKind.i64.wrap (t[k].lf - 1)⟩).length = t.length := by simpa using hz
      by_cases ho : IntKind.i64.wrap (t[k].lf - 1) ≤ 0
      · repeat' first | (refine And.intro (by omega) ?_) | (refine hK _ ?_; clear hK) | (clear hK; refine hK _ ?_; clear hK) | (clear hK; clear hK; refine hK _ ?_; clear hK) | (clear hK; clear hK; clear hK; refine hK _ ?_; clear hK) | (clear hK; clear hK; clear hK; clear hK; refine hK _ ?_; clear hK) | (refine wSeq fun K hK => ?_) | (refine wReg ?_; simp only [List.map_cons, List.map_nil, strip]) | (refine wDrw (by kernel_rfl) ?_; simp only [List.map_cons, List.map_nil, strip]) | (refine wOs fun K hK => ?_; simp [h4, h5, h10, h11, b8, b5, hlt, hw, hlz, hz, hd1, hc, ho]) | (refine wQs fun K hK => ?_; simp [h4, h5, h10, h11, b8, b5, hlt, hw, hlz, hz, hd1, hc, ho]) | (refine CallK_plain ?_; simp [h4, h5, h10, h11, b8, b5, hlt, hw, hlz, hz, hd1, hc, ho]) | (refine CallQ_plain ?_; simp [h4, h5, h10, h11, b8, b5, hlt, hw, hlz, hz, hd1, hc, ho]) | (refine wRet ?_; try simp) | (refine wCond ?_; simp [h4, h5, h10, h11, b8, b5, hlt, hw, hlz, hz, hd1, hc, ho]) | (refine wBlock ?_) | (refine wExit ?_; try simp) | (refine wSkip ?_; try simp) | (refine wOn ?_; try simp only [thenA_n]) | (refine wQn ?_; try simp only [thenA_n])
        refine hL _ (N - 1) (by omega) ⟨k + 1, zs.set k ⟨t[k].id, IntKind.i64.wrap (t[k].lf - 1)⟩, by omega, ?_⟩
        simp [h4, h5, h10, hw, b8, b5, hz]
        refine ⟨?_, ?_, ?_⟩
        · rw [hts, overs_snoc, hdk, ints_snoc]; simp [ho]
        · rw [set_take _ _ _ hlz, hi, hts, hdk]
        · rw [List.drop_set]; simp [hd2]
      · repeat' first | (refine And.intro (by omega) ?_) | (refine hK _ ?_; clear hK) | (clear hK; refine hK _ ?_; clear hK) | (clear hK; clear hK; refine hK _ ?_; clear hK) | (clear hK; clear hK; clear hK; refine hK _ ?_; clear hK) | (clear hK; clear hK; clear hK; clear hK; refine hK _ ?_; clear hK) | (refine wSeq fun K hK => ?_) | (refine wReg ?_; simp only [List.map_cons, List.map_nil, strip]) | (refine wDrw (by kernel_rfl) ?_; simp only [List.map_cons, List.map_nil, strip]) | (refine wOs fun K hK => ?_; simp [h4, h5, h10, h11, b8, b5, hlt, hw, hlz, hz, hd1, hc, ho]) | (refine wQs fun K hK => ?_; simp [h4, h5, h10, h11, b8, b5, hlt, hw, hlz, hz, hd1, hc, ho]) | (refine CallK_plain ?_; simp [h4, h5, h10, h11, b8, b5, hlt, hw, hlz, hz, hd1, hc, ho]) | (refine CallQ_plain ?_; simp [h4, h5, h10, h11, b8, b5, hlt, hw, hlz, hz, hd1, hc, ho]) | (refine wRet ?_; try simp) | (refine wCond ?_; simp [h4, h5, h10, h11, b8, b5, hlt, hw, hlz, hz, hd1, hc, ho]) | (refine wBlock ?_) | (refine wExit ?_; try simp) | (refine wSkip ?_; try simp) | (refine wOn ?_; try simp only [thenA_n]) | (refine wQn ?_; try simp only [thenA_n])
        refine hL _ (N - 1) (by omega) ⟨k + 1, zs.set k ⟨t[k].id, IntKind.i64.wrap (t[k].lf - 1)⟩, by omega, ?_⟩
        simp [h4, h5, h10, hw, b8, b5, hz]
        refine ⟨?_, ?_, ?_⟩
        · rw [hts, overs_snoc, hdk]; simp [ho]
        · rw [set_take _ _ _ hlz, hi, hts, hdk]
        · rw [List.drop_set]; simp [hd2]
    · have hdk : dec t[k] = t[k] := by simp [dec, hc]
      have ho : t[k].lf ≤ 0 := by omega
      repeat' first | (refine And.intro (by omega) ?_) | (refine hK _ ?_; clear hK) | (clear hK; refine hK _ ?_; clear hK) | (clear hK; clear hK; refine hK _ ?_; clear hK) | (clear hK; clear hK; clear hK; refine hK _ ?_; clear hK) | (clear hK; clear hK; clear hK; clear hK; refine hK _ ?_; clear hK) | (refine wSeq fun K hK => ?_) | (refine wReg ?_; simp only [List.map_cons, List.map_nil, strip]) | (refine wDrw (by kernel_rfl) ?_; simp only [List.map_cons, List.map_nil, strip]) | (refine wOs fun K hK => ?_; simp [h4, h5, h10, h11, b8, b5, hlt, hw, hlz, hz, hd1, hc, ho]) | (refine wQs fun K hK => ?_; simp [h4, h5, h10, h11, b8, b5, hlt, hw, hlz, hz, hd1, hc, ho]) | (refine CallK_plain ?_; simp [h4, h5, h10, h11, b8, b5, hlt, hw, hlz, hz, hd1, hc, ho]) | (refine CallQ_plain ?_; simp [h4, h5, h10, h11, b8, b5, hlt, hw, hlz, hz, hd1, hc, ho]) | (refine wRet ?_; try simp) | (refine wCond ?_; simp [h4, h5, h10, h11, b8, b5, hlt, hw, hlz, hz, hd1, hc, ho]) | (refine wBlock ?_) | (refine wExit ?_; try simp) | (refine wSkip ?_; try simp) | (refine wOn ?_; try simp only [thenA_n]) | (refine wQn ?_; try simp only [thenA_n])
      refine hL _ (N - 1) (by omega) ⟨k + 1, zs, by omega, ?_⟩
      simp [h4, h5, h10, hw, b8, b5, hz]
      refine ⟨?_, ?_, hd2⟩
      · rw [hts, overs_snoc, hdk, ints_snoc]; simp [ho]
      · rw [take_snoc _ k hlz, hi, hts, hdk, hd1]
  · have hzt : zs = tick t := by
      rw [List.take_of_length_le (by omega), List.take_of_length_le (by simp [tick]; omega)] at hi
      exact hi
    have htk : (tick t).take k = tick t := List.take_of_length_le (by simp [tick]; omega)
    subst hzt
    rw [htk] at b5
    repeat' first | (refine hK _ ?_; clear hK) | (clear hK; refine hK _ ?_; clear hK) | (clear hK; clear hK; refine hK _ ?_; clear hK) | (clear hK; clear hK; clear hK; refine hK _ ?_; clear hK) | (clear hK; clear hK; clear hK; clear hK; refine hK _ ?_; clear hK) | (refine wSeq fun K hK => ?_) | (refine wReg ?_; simp only [List.map_cons, List.map_nil, strip]) | (refine wDrw (by kernel_rfl) ?_; simp only [List.map_cons, List.map_nil, strip]) | (refine wOs fun K hK => ?_; simp [h4, h5, h10, h11, b8, b5, hlt]) | (refine wQs fun K hK => ?_; simp [h4, h5, h10, h11, b8, b5, hlt]) | (refine CallK_plain ?_; simp [h4, h5, h10, h11, b8, b5, hlt]) | (refine CallQ_plain ?_; simp [h4, h5, h10, h11, b8, b5, hlt]) | (refine wRet ?_; try simp) | (refine wCond ?_; simp [h4, h5, h10, h11, b8, b5, hlt]) | (refine wBlock ?_) | (refine wExit ?_; try simp) | (refine wSkip ?_; try simp) | (refine wOn ?_; try simp only [thenA_n]) | (refine wQn ?_; try simp only [thenA_n])
    apply hr
    simp [Try.f10, h4, h5, b8, b5]

theorem tick11_con (t : List Sn) (ht : t.length ≤ 1000000) : ACon Try.prog 11 [.p (.sl 2 (seens t))] (.tup [.p (.sl 2 (seens (tick t))), .p (.sl 1 (ints (overs (tick t))))]) := by
  refine wBody Try.tab Try.mixed Try.func11 rfl rfl Try.ntmps11 (by simp) (by simp) fun Q hr hn => ?_
  repeat' first | (refine hK _ ?_; clear hK) | (clear hK; refine hK _ ?_; clear hK) | (clear hK; clear hK; refine hK _ ?_; clear hK) | (clear hK; clear hK; clear hK; refine hK _ ?_; clear hK) | (clear hK; clear hK; clear hK; clear hK; refine hK _ ?_; clear hK) | (refine wSeq fun K hK => ?_) | (refine wReg ?_; simp only [List.map_cons, List.map_nil, strip]) | (refine wDrw (by kernel_rfl) ?_; simp only [List.map_cons, List.map_nil, strip]) | (refine wOs fun K hK => ?_; simp) | (refine wQs fun K hK => ?_; simp) | (refine CallK_plain ?_; simp) | (refine CallQ_plain ?_; simp) | (refine wRet ?_; try simp) | (refine wCond ?_; simp) | (refine wBlock ?_) | (refine wExit ?_; try simp) | (refine wSkip ?_; try simp) | (refine wOn ?_; try simp only [thenA_n]) | (refine wQn ?_; try simp only [thenA_n])
  refine wLoopG [.row 4 34 2, .row 5 3 1] (fun N st => ∃ k, k + N = t.length ∧ st.s 4 = .row 4 ∧ st.s 5 = .row 5 ∧ st.s 8 = .p (.sl 2 (seens t)) ∧ st.s 9 = .p (I t.length) ∧ st.s 10 = .p (I k) ∧
    st.b 4 = some (.row 34 2 (seens ((tick t).take k))) ∧ st.b 5 = some (.row 3 1 (ints (overs ((tick t).take k))))) t.length ⟨0, by simp [ints, overs, seens]⟩ fun K N st hL ⟨k, hk, h4, h5, h8, h9, h10, b4, b5⟩ => ?_
  by_cases hlt : k < t.length
  · have hw := wrapS k _ hlt (by omega)
    have hol : (overs ((tick t).take k)).length ≤ k := by
      have := overs_len ((tick t).take k)
      have h2 : ((tick t).take k).length ≤ k := List.length_take_le _ _
      omega
    have hml : min k (tick t).length = k := by simp [tick]; omega
    have hts : (tick t).take (k + 1) = (tick t).take k ++ [dec t[k]] := by
      rw [take_snoc _ k (by simpa [tick] using hlt)]; simp [tick]
    by_cases hc : 0 < t[k].lf
    · have hdk : dec t[k] = ⟨t[k].id, IntKind.i64.wrap (t[k].lf - 1)⟩ := by simp [dec, hc]
      by_cases ho : IntKind.i64.wrap (t[k].lf - 1) ≤ 0
      · repeat' first | (refine And.intro (by omega) ?_) | (refine hK _ ?_; clear hK) | (clear hK; refine hK _ ?_; clear hK) | (clear hK; clear hK; refine hK _ ?_; clear hK) | (clear hK; clear hK; clear hK; refine hK _ ?_; clear hK) | (clear hK; clear hK; clear hK; clear hK; refine hK _ ?_; clear hK) | (refine wSeq fun K hK => ?_) | (refine wReg ?_; simp only [List.map_cons, List.map_nil, strip]) | (refine wDrw (by kernel_rfl) ?_; simp only [List.map_cons, List.map_nil, strip]) | (refine wOs fun K hK => ?_; simp [h4, h5, h8, h9, h10, b4, b5, hlt, hw, hc, ho, hml]) | (refine wQs fun K hK => ?_; simp [h4, h5, h8, h9, h10, b4, b5, hlt, hw, hc, ho, hml]) | (refine CallK_plain ?_; simp [h4, h5, h8, h9, h10, b4, b5, hlt, hw, hc, ho, hml]) | (refine CallQ_plain ?_; simp [h4, h5, h8, h9, h10, b4, b5, hlt, hw, hc, ho, hml]) | (refine wRet ?_; try simp) | (refine wCond ?_; simp [h4, h5, h8, h9, h10, b4, b5, hlt, hw, hc, ho, hml]) | (refine wBlock ?_) | (refine wExit ?_; try simp) | (refine wSkip ?_; try simp) | (refine wOn ?_; try simp only [thenA_n]) | (refine wQn ?_; try simp only [thenA_n])
        refine hL _ (N - 1) (by omega) ⟨k + 1, by omega, ?_⟩
        simp [h4, h5, h8, h9, hw, b4, b5, hts, overs_snoc, hdk, ho]
        exact ⟨seens_snoc _ _ _, ints_snoc _ _⟩
      · repeat' first | (refine And.intro (by omega) ?_) | (refine hK _ ?_; clear hK) | (clear hK; refine hK _ ?_; clear hK) | (clear hK; clear hK; refine hK _ ?_; clear hK) | (clear hK; clear hK; clear hK; refine hK _ ?_; clear hK) | (clear hK; clear hK; clear hK; clear hK; refine hK _ ?_; clear hK) | (refine wSeq fun K hK => ?_) | (refine wReg ?_; simp only [List.map_cons, List.map_nil, strip]) | (refine wDrw (by kernel_rfl) ?_; simp only [List.map_cons, List.map_nil, strip]) | (refine wOs fun K hK => ?_; simp [h4, h5, h8, h9, h10, b4, b5, hlt, hw, hc, ho, hml]) | (refine wQs fun K hK => ?_; simp [h4, h5, h8, h9, h10, b4, b5, hlt, hw, hc, ho, hml]) | (refine CallK_plain ?_; simp [h4, h5, h8, h9, h10, b4, b5, hlt, hw, hc, ho, hml]) | (refine CallQ_plain ?_; simp [h4, h5, h8, h9, h10, b4, b5, hlt, hw, hc, ho, hml]) | (refine wRet ?_; try simp) | (refine wCond ?_; simp [h4, h5, h8, h9, h10, b4, b5, hlt, hw, hc, ho, hml]) | (refine wBlock ?_) | (refine wExit ?_; try simp) | (refine wSkip ?_; try simp) | (refine wOn ?_; try simp only [thenA_n]) | (refine wQn ?_; try simp only [thenA_n])
        refine hL _ (N - 1) (by omega) ⟨k + 1, by omega, ?_⟩
        simp [h4, h5, h8, h9, hw, b4, b5, hts, overs_snoc, hdk, ho]
        exact seens_snoc _ _ _
    · have hdk : dec t[k] = t[k] := by simp [dec, hc]
      have ho : t[k].lf ≤ 0 := by omega
      repeat' first | (refine And.intro (by omega) ?_) | (refine hK _ ?_; clear hK) | (clear hK; refine hK _ ?_; clear hK) | (clear hK; clear hK; refine hK _ ?_; clear hK) | (clear hK; clear hK; clear hK; refine hK _ ?_; clear hK) | (clear hK; clear hK; clear hK; clear hK; refine hK _ ?_; clear hK) | (refine wSeq fun K hK => ?_) | (refine wReg ?_; simp only [List.map_cons, List.map_nil, strip]) | (refine wDrw (by kernel_rfl) ?_; simp only [List.map_cons, List.map_nil, strip]) | (refine wOs fun K hK => ?_; simp [h4, h5, h8, h9, h10, b4, b5, hlt, hw, hc, ho, hml]) | (refine wQs fun K hK => ?_; simp [h4, h5, h8, h9, h10, b4, b5, hlt, hw, hc, ho, hml]) | (refine CallK_plain ?_; simp [h4, h5, h8, h9, h10, b4, b5, hlt, hw, hc, ho, hml]) | (refine CallQ_plain ?_; simp [h4, h5, h8, h9, h10, b4, b5, hlt, hw, hc, ho, hml]) | (refine wRet ?_; try simp) | (refine wCond ?_; simp [h4, h5, h8, h9, h10, b4, b5, hlt, hw, hc, ho, hml]) | (refine wBlock ?_) | (refine wExit ?_; try simp) | (refine wSkip ?_; try simp) | (refine wOn ?_; try simp only [thenA_n]) | (refine wQn ?_; try simp only [thenA_n])
      refine hL _ (N - 1) (by omega) ⟨k + 1, by omega, ?_⟩
      simp [h4, h5, h8, h9, hw, b4, b5, hts, overs_snoc, hdk, ho]
      exact ⟨seens_snoc _ _ _, ints_snoc _ _⟩
  · have htk : (tick t).take k = tick t := List.take_of_length_le (by simp [tick]; omega)
    rw [htk] at b4 b5
    repeat' first | (refine hK _ ?_; clear hK) | (clear hK; refine hK _ ?_; clear hK) | (clear hK; clear hK; refine hK _ ?_; clear hK) | (clear hK; clear hK; clear hK; refine hK _ ?_; clear hK) | (clear hK; clear hK; clear hK; clear hK; refine hK _ ?_; clear hK) | (refine wSeq fun K hK => ?_) | (refine wReg ?_; simp only [List.map_cons, List.map_nil, strip]) | (refine wDrw (by kernel_rfl) ?_; simp only [List.map_cons, List.map_nil, strip]) | (refine wOs fun K hK => ?_; simp [h4, h5, h8, h9, h10, b4, b5, hlt]) | (refine wQs fun K hK => ?_; simp [h4, h5, h8, h9, h10, b4, b5, hlt]) | (refine CallK_plain ?_; simp [h4, h5, h8, h9, h10, b4, b5, hlt]) | (refine CallQ_plain ?_; simp [h4, h5, h8, h9, h10, b4, b5, hlt]) | (refine wRet ?_; try simp) | (refine wCond ?_; simp [h4, h5, h8, h9, h10, b4, b5, hlt]) | (refine wBlock ?_) | (refine wExit ?_; try simp) | (refine wSkip ?_; try simp) | (refine wOn ?_; try simp only [thenA_n]) | (refine wQn ?_; try simp only [thenA_n])
    apply hr
    simp [Try.f11, h4, h5, b4, b5]
end Go.Proofs.Ytnjnloonlcknkaa
