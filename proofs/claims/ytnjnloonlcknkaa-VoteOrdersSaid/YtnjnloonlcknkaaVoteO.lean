/- VoteOrders' functions. -/
import Derived.Test.YtnjnloonlcknkaaVoteA
import Derived.Test.YtnjnloonlcknkaaSessA
namespace Go.Proofs.Ytnjnloonlcknkaa
set_option linter.unusedSimpArgs false
set_option linter.unusedVariables false
open Go Go.Av
attribute [local simp] Try.T
attribute [local irreducible] Go.Av.CallK Go.Av.CallE Go.Av.CallQ Go.Av.CallF Go.Av.Con

theorem zcmp_eq (a b c d : Int) : zcmp a b c d = if a = c ∧ b = d then 0 else if a < c ∨ (a = c ∧ b < d) then -1 else 1 := by
  unfold zcmp cmpInt
  simp only [orL]
  repeat' split
  all_goals omega
theorem cmp02_con (a b c d : Int) : ACon Try.prog 28 [.p (.agg [I a, I b]), .p (.agg [I c, I d])] (.p (I (zcmp a b c d))) := by
  rw [zcmp_eq]
  by_cases hab : a = c ∧ b = d
  · obtain ⟨rfl, rfl⟩ := hab
    refine wBody Try.tab Try.mixed Try.func28 rfl rfl Try.ntmps28 (by simp) (by simp) fun Q hr hn => ?_
    repeat' first | (refine hK _ ?_; clear hK) | (clear hK; refine hK _ ?_; clear hK) | (clear hK; clear hK; refine hK _ ?_; clear hK) | (clear hK; clear hK; clear hK; refine hK _ ?_; clear hK) | (clear hK; clear hK; clear hK; clear hK; refine hK _ ?_; clear hK) | (refine wSeq fun K hK => ?_) | (refine wReg ?_; simp only [List.map_cons, List.map_nil, strip]) | (refine wDrw (by kernel_rfl) ?_; simp only [List.map_cons, List.map_nil, strip]) | (refine wOs fun K hK => ?_; simp) | (refine wQs fun K hK => ?_; simp) | (refine CallK_plain ?_; simp) | (refine CallQ_plain ?_; simp) | (refine wRet ?_; try simp) | (refine wCond ?_; simp) | (refine wBlock ?_) | (refine wExit ?_; try simp) | (refine wSkip ?_; try simp) | (refine wOn ?_; try simp only [thenA_n]) | (refine wQn ?_; try simp only [thenA_n])
    all_goals apply hr
    all_goals simp [Try.f28]
  · rw [if_neg hab]
    by_cases h1 : a < c
    · refine wBody Try.tab Try.mixed Try.func28 rfl rfl Try.ntmps28 (by simp) (by simp) fun Q hr hn => ?_
      repeat' first | (refine hK _ ?_; clear hK) | (clear hK; refine hK _ ?_; clear hK) | (clear hK; clear hK; refine hK _ ?_; clear hK) | (clear hK; clear hK; clear hK; refine hK _ ?_; clear hK) | (clear hK; clear hK; clear hK; clear hK; refine hK _ ?_; clear hK) | (refine wSeq fun K hK => ?_) | (refine wReg ?_; simp only [List.map_cons, List.map_nil, strip]) | (refine wDrw (by kernel_rfl) ?_; simp only [List.map_cons, List.map_nil, strip]) | (refine wOs fun K hK => ?_; simp [hab, h1]) | (refine wQs fun K hK => ?_; simp [hab, h1]) | (refine CallK_plain ?_; simp [hab, h1]) | (refine CallQ_plain ?_; simp [hab, h1]) | (refine wRet ?_; try simp) | (refine wCond ?_; simp [hab, h1]) | (refine wBlock ?_) | (refine wExit ?_; try simp) | (refine wSkip ?_; try simp) | (refine wOn ?_; try simp only [thenA_n]) | (refine wQn ?_; try simp only [thenA_n]) | (intro _)
      all_goals first | exact hab | skip
      all_goals apply hr
      all_goals simp [Try.f28, h1]
    · by_cases h2 : a = c
      · subst h2
        have hbd : ¬ b = d := fun h => hab ⟨rfl, h⟩
        by_cases h3 : b < d
        · refine wBody Try.tab Try.mixed Try.func28 rfl rfl Try.ntmps28 (by simp) (by simp) fun Q hr hn => ?_
          repeat' first | (refine hK _ ?_; clear hK) | (clear hK; refine hK _ ?_; clear hK) | (clear hK; clear hK; refine hK _ ?_; clear hK) | (clear hK; clear hK; clear hK; refine hK _ ?_; clear hK) | (clear hK; clear hK; clear hK; clear hK; refine hK _ ?_; clear hK) | (refine wSeq fun K hK => ?_) | (refine wReg ?_; simp only [List.map_cons, List.map_nil, strip]) | (refine wDrw (by kernel_rfl) ?_; simp only [List.map_cons, List.map_nil, strip]) | (refine wOs fun K hK => ?_; simp [hbd, h3]) | (refine wQs fun K hK => ?_; simp [hbd, h3]) | (refine CallK_plain ?_; simp [hbd, h3]) | (refine CallQ_plain ?_; simp [hbd, h3]) | (refine wRet ?_; try simp) | (refine wCond ?_; simp [hbd, h3]) | (refine wBlock ?_) | (refine wExit ?_; try simp) | (refine wSkip ?_; try simp) | (refine wOn ?_; try simp only [thenA_n]) | (refine wQn ?_; try simp only [thenA_n]) | (intro _)
          all_goals apply hr
          all_goals simp [Try.f28, h3]
        · refine wBody Try.tab Try.mixed Try.func28 rfl rfl Try.ntmps28 (by simp) (by simp) fun Q hr hn => ?_
          repeat' first | (refine hK _ ?_; clear hK) | (clear hK; refine hK _ ?_; clear hK) | (clear hK; clear hK; refine hK _ ?_; clear hK) | (clear hK; clear hK; clear hK; refine hK _ ?_; clear hK) | (clear hK; clear hK; clear hK; clear hK; refine hK _ ?_; clear hK) | (refine wSeq fun K hK => ?_) | (refine wReg ?_; simp only [List.map_cons, List.map_nil, strip]) | (refine wDrw (by kernel_rfl) ?_; simp only [List.map_cons, List.map_nil, strip]) | (refine wOs fun K hK => ?_; simp [hbd, h3]) | (refine wQs fun K hK => ?_; simp [hbd, h3]) | (refine CallK_plain ?_; simp [hbd, h3]) | (refine CallQ_plain ?_; simp [hbd, h3]) | (refine wRet ?_; try simp) | (refine wCond ?_; simp [hbd, h3]) | (refine wBlock ?_) | (refine wExit ?_; try simp) | (refine wSkip ?_; try simp) | (refine wOn ?_; try simp only [thenA_n]) | (refine wQn ?_; try simp only [thenA_n]) | (intro _)
          all_goals apply hr
          all_goals simp [Try.f28, h3]
      · refine wBody Try.tab Try.mixed Try.func28 rfl rfl Try.ntmps28 (by simp) (by simp) fun Q hr hn => ?_
        repeat' first | (refine hK _ ?_; clear hK) | (clear hK; refine hK _ ?_; clear hK) | (clear hK; clear hK; refine hK _ ?_; clear hK) | (clear hK; clear hK; clear hK; refine hK _ ?_; clear hK) | (clear hK; clear hK; clear hK; clear hK; refine hK _ ?_; clear hK) | (refine wSeq fun K hK => ?_) | (refine wReg ?_; simp only [List.map_cons, List.map_nil, strip]) | (refine wDrw (by kernel_rfl) ?_; simp only [List.map_cons, List.map_nil, strip]) | (refine wOs fun K hK => ?_; simp [hab, h1, h2]) | (refine wQs fun K hK => ?_; simp [hab, h1, h2]) | (refine CallK_plain ?_; simp [hab, h1, h2]) | (refine CallQ_plain ?_; simp [hab, h1, h2]) | (refine wRet ?_; try simp) | (refine wCond ?_; simp [hab, h1, h2]) | (refine wBlock ?_) | (refine wExit ?_; try simp) | (refine wSkip ?_; try simp) | (refine wOn ?_; try simp only [thenA_n]) | (refine wQn ?_; try simp only [thenA_n]) | (intro _)
        all_goals first | exact hab | skip
        all_goals apply hr
        all_goals simp [Try.f28, h1, h2]

theorem zcmp_zero (a b c d : Int) : zcmp a b c d = 0 ↔ (a = c ∧ b = d) := by
  rw [zcmp_eq]; repeat' split
  all_goals omega

theorem better17_con (a b : Vt) : ACon Try.prog 22 [.p (.agg a.cells), .p (.agg b.cells)] (.p (B (better a b))) := by
  obtain ⟨a0, a1, a2, a3, a4, a5, a6⟩ := a
  obtain ⟨b0, b1, b2, b3, b4, b5, b6⟩ := b
  simp only [Vt.cells, better]
  have hc := cmp02_con a3 a4 b3 b4
  by_cases he : a2 = b2
  · subst he
    by_cases hl : a3 = b3 ∧ a4 = b4
    · have hz := (zcmp_zero a3 a4 b3 b4).2 hl
      rw [hz] at hc
      refine wBody Try.tab Try.mixed Try.func22 rfl rfl Try.ntmps22 (by simp) (by simp) fun Q hr hn => ?_
      repeat' first | (refine hK _ ?_; clear hK) | (clear hK; refine hK _ ?_; clear hK) | (clear hK; clear hK; refine hK _ ?_; clear hK) | (clear hK; clear hK; clear hK; refine hK _ ?_; clear hK) | (clear hK; clear hK; clear hK; clear hK; refine hK _ ?_; clear hK) | (refine wSeq fun K hK => ?_) | (refine wReg ?_; simp only [List.map_cons, List.map_nil, strip]) | (refine wDrw (by kernel_rfl) ?_; simp only [List.map_cons, List.map_nil, strip]) | (refine wOs fun K hK => ?_; simp) | (refine wQs fun K hK => ?_; simp) | (refine CallK_plain ?_; simp) | (refine CallQ_plain ?_; simp) | (refine wRet ?_; try simp) | (refine wCond ?_; simp) | (refine wBlock ?_) | (refine wExit ?_; try simp) | (refine wSkip ?_; try simp) | (refine wOn ?_; try simp only [thenA_n]) | (refine wQn ?_; try simp only [thenA_n]) | (refine CallE.pure (hc) rfl ?_) | (refine CallE.lent (hc) rfl ?_) | (refine CallF.pure (hc) rfl ?_) | (refine CallF.lent (hc) rfl ?_) | (refine CallE.own (hc) ?_)
      all_goals (apply hr; simp [Try.f22, hl])
    · have hz : ¬ zcmp a3 a4 b3 b4 = 0 := fun h => hl ((zcmp_zero a3 a4 b3 b4).1 h)
      refine wBody Try.tab Try.mixed Try.func22 rfl rfl Try.ntmps22 (by simp) (by simp) fun Q hr hn => ?_
      repeat' first | (refine hK _ ?_; clear hK) | (clear hK; refine hK _ ?_; clear hK) | (clear hK; clear hK; refine hK _ ?_; clear hK) | (clear hK; clear hK; clear hK; refine hK _ ?_; clear hK) | (clear hK; clear hK; clear hK; clear hK; refine hK _ ?_; clear hK) | (refine wSeq fun K hK => ?_) | (refine wReg ?_; simp only [List.map_cons, List.map_nil, strip]) | (refine wDrw (by kernel_rfl) ?_; simp only [List.map_cons, List.map_nil, strip]) | (refine wOs fun K hK => ?_; simp [hz]) | (refine wQs fun K hK => ?_; simp [hz]) | (refine CallK_plain ?_; simp [hz]) | (refine CallQ_plain ?_; simp [hz]) | (refine wRet ?_; try simp) | (refine wCond ?_; simp [hz]) | (refine wBlock ?_) | (refine wExit ?_; try simp) | (refine wSkip ?_; try simp) | (refine wOn ?_; try simp only [thenA_n]) | (refine wQn ?_; try simp only [thenA_n]) | (refine CallE.pure (hc) rfl ?_) | (refine CallE.lent (hc) rfl ?_) | (refine CallF.pure (hc) rfl ?_) | (refine CallF.lent (hc) rfl ?_) | (refine CallE.own (hc) ?_)
      all_goals (apply hr; simp [Try.f22, hl])
  · refine wBody Try.tab Try.mixed Try.func22 rfl rfl Try.ntmps22 (by simp) (by simp) fun Q hr hn => ?_
    repeat' first | (refine hK _ ?_; clear hK) | (clear hK; refine hK _ ?_; clear hK) | (clear hK; clear hK; refine hK _ ?_; clear hK) | (clear hK; clear hK; clear hK; refine hK _ ?_; clear hK) | (clear hK; clear hK; clear hK; clear hK; refine hK _ ?_; clear hK) | (refine wSeq fun K hK => ?_) | (refine wReg ?_; simp only [List.map_cons, List.map_nil, strip]) | (refine wDrw (by kernel_rfl) ?_; simp only [List.map_cons, List.map_nil, strip]) | (refine wOs fun K hK => ?_; simp [he]) | (refine wQs fun K hK => ?_; simp [he]) | (refine CallK_plain ?_; simp [he]) | (refine CallQ_plain ?_; simp [he]) | (refine wRet ?_; try simp) | (refine wCond ?_; simp [he]) | (refine wBlock ?_) | (refine wExit ?_; try simp) | (refine wSkip ?_; try simp) | (refine wOn ?_; try simp only [thenA_n]) | (refine wQn ?_; try simp only [thenA_n])
    all_goals (apply hr; simp [Try.f22, he])

@[simp] theorem vts_get (l : List Vt) (k : Nat) (h : k < l.length) : (l.map Vt.cells)[k]'(by simpa using h) = [I l[k].f, I l[k].r, I l[k].e, I l[k].le, I l[k].ln, I l[k].c, I l[k].m] := by simp [Vt.cells]
theorem best17_con (l : List Vt) : ACon Try.prog 20 [.p (.sl 7 (l.map Vt.cells))] (.tup [.p (.agg (best l).cells), .p (B (decide (0 < l.length)))]) := by
  refine ACon.len ⟨Try.f20, Try.func20, rfl, rfl⟩ 0 _ _ rfl fun hlen => ?_
  simp only [List.length_map] at hlen
  match l with
  | [] =>
    refine wBody Try.tab Try.mixed Try.func20 rfl rfl Try.ntmps20 (by simp) (by simp) fun Q hr hn => ?_
    repeat' first | (refine hK _ ?_; clear hK) | (clear hK; refine hK _ ?_; clear hK) | (clear hK; clear hK; refine hK _ ?_; clear hK) | (clear hK; clear hK; clear hK; refine hK _ ?_; clear hK) | (clear hK; clear hK; clear hK; clear hK; refine hK _ ?_; clear hK) | (refine wSeq fun K hK => ?_) | (refine wReg ?_; simp only [List.map_cons, List.map_nil, strip]) | (refine wDrw (by kernel_rfl) ?_; simp only [List.map_cons, List.map_nil, strip]) | (refine wOs fun K hK => ?_; simp) | (refine wQs fun K hK => ?_; simp) | (refine CallK_plain ?_; simp) | (refine CallQ_plain ?_; simp) | (refine wRet ?_; try simp) | (refine wCond ?_; simp) | (refine wBlock ?_) | (refine wExit ?_; try simp) | (refine wSkip ?_; try simp) | (refine wOn ?_; try simp only [thenA_n]) | (refine wQn ?_; try simp only [thenA_n])
    all_goals (apply hr; simp [Try.f20, best, Vt.zero, Vt.cells])
  | v :: l =>
    have hne : ¬ ((l.length : Int) + 1 = 0) := by omega
    simp only [List.length_cons] at hlen
    obtain ⟨v0, v1, v2, v3, v4, v5, v6⟩ := v
    refine wBody Try.tab Try.mixed Try.func20 rfl rfl Try.ntmps20 (by simp) (by simp) fun Q hr hn => ?_
    have htk : List.take l.length (l.map Vt.cells) = l.map Vt.cells := List.take_of_length_le (by simp)
    repeat' first | (refine hK _ ?_; clear hK) | (clear hK; refine hK _ ?_; clear hK) | (clear hK; clear hK; refine hK _ ?_; clear hK) | (clear hK; clear hK; clear hK; refine hK _ ?_; clear hK) | (clear hK; clear hK; clear hK; clear hK; refine hK _ ?_; clear hK) | (refine wSeq fun K hK => ?_) | (refine wReg ?_; simp only [List.map_cons, List.map_nil, strip]) | (refine wDrw (by kernel_rfl) ?_; simp only [List.map_cons, List.map_nil, strip]) | (refine wOs fun K hK => ?_; simp [hne, Vt.cells]) | (refine wQs fun K hK => ?_; simp [hne, Vt.cells]) | (refine CallK_plain ?_; simp [hne, Vt.cells]) | (refine CallQ_plain ?_; simp [hne, Vt.cells]) | (refine wRet ?_; try simp) | (refine wCond ?_; simp [hne, Vt.cells]) | (refine wBlock ?_) | (refine wExit ?_; try simp) | (refine wSkip ?_; try simp) | (refine wOn ?_; try simp only [thenA_n]) | (refine wQn ?_; try simp only [thenA_n])
    refine wLoop (fun N st => ∃ (k : Nat) (b : Vt), k + N = l.length ∧ st.s 2 = .ptr 2 0 ∧ st.s 4 = .ptr 4 0 ∧ st.s 15 = .p (.sl 7 (l.map Vt.cells)) ∧ st.s 16 = .p (I l.length) ∧ st.s 17 = .p (I k) ∧ st.b 2 = some (.box 38 (Vt.zero.cells.map .p)) ∧
      st.b 4 = some (.box 38 [.p (I b.f), .p (I b.r), .p (I b.e), .p (I b.le), .p (I b.ln), .p (I b.c), .p (I b.m)]) ∧ bestGo b (l.drop k) = bestGo ⟨v0, v1, v2, v3, v4, v5, v6⟩ l) l.length ⟨0, ⟨v0, v1, v2, v3, v4, v5, v6⟩, by simp [Vt.zero, Vt.cells]; try exact htk⟩ fun K N st hL ⟨k, b, hk, h2, h4, h15, h16, h17, b2, b4, hb⟩ => ?_
    by_cases hlt : k < l.length
    · have hw := wrapS k _ hlt (by omega)
      have hd : l.drop k = l[k] :: l.drop (k + 1) := List.drop_eq_getElem_cons hlt
      rw [hd, bestGo] at hb
      have hx := better17_con l[k] b
      simp only [Vt.cells] at hx
      by_cases hbt : better l[k] b = true
      · rw [if_pos hbt] at hb
        rw [hbt] at hx
        repeat' first | (refine hK _ ?_; clear hK) | (clear hK; refine hK _ ?_; clear hK) | (clear hK; clear hK; refine hK _ ?_; clear hK) | (clear hK; clear hK; clear hK; refine hK _ ?_; clear hK) | (clear hK; clear hK; clear hK; clear hK; refine hK _ ?_; clear hK) | (refine wSeq fun K hK => ?_) | (refine wReg ?_; simp only [List.map_cons, List.map_nil, strip]) | (refine wDrw (by kernel_rfl) ?_; simp only [List.map_cons, List.map_nil, strip]) | (refine wOs fun K hK => ?_; simp [h2, h4, h15, h16, h17, b2, b4, hlt, hw, Vt.cells]) | (refine wQs fun K hK => ?_; simp [h2, h4, h15, h16, h17, b2, b4, hlt, hw, Vt.cells]) | (refine CallK_plain ?_; simp [h2, h4, h15, h16, h17, b2, b4, hlt, hw, Vt.cells]) | (refine CallQ_plain ?_; simp [h2, h4, h15, h16, h17, b2, b4, hlt, hw, Vt.cells]) | (refine wRet ?_; try simp) | (refine wCond ?_; simp [h2, h4, h15, h16, h17, b2, b4, hlt, hw, Vt.cells]) | (refine wBlock ?_) | (refine wExit ?_; try simp) | (refine wSkip ?_; try simp) | (refine wOn ?_; try simp only [thenA_n]) | (refine wQn ?_; try simp only [thenA_n]) | (refine CallE.pure (hx) rfl ?_) | (refine CallE.lent (hx) rfl ?_) | (refine CallF.pure (hx) rfl ?_) | (refine CallF.lent (hx) rfl ?_) | (refine CallE.own (hx) ?_)
        refine hL _ (N - 1) (by omega) ⟨k + 1, l[k], by omega, ?_⟩
        simp [h2, h4, h15, h16, hw, b2, b4, hb]
      · rw [if_neg hbt] at hb
        have hbf : better l[k] b = false := by simpa using hbt
        rw [hbf] at hx
        repeat' first | (refine hK _ ?_; clear hK) | (clear hK; refine hK _ ?_; clear hK) | (clear hK; clear hK; refine hK _ ?_; clear hK) | (clear hK; clear hK; clear hK; refine hK _ ?_; clear hK) | (clear hK; clear hK; clear hK; clear hK; refine hK _ ?_; clear hK) | (refine wSeq fun K hK => ?_) | (refine wReg ?_; simp only [List.map_cons, List.map_nil, strip]) | (refine wDrw (by kernel_rfl) ?_; simp only [List.map_cons, List.map_nil, strip]) | (refine wOs fun K hK => ?_; simp [h2, h4, h15, h16, h17, b2, b4, hlt, hw, Vt.cells]) | (refine wQs fun K hK => ?_; simp [h2, h4, h15, h16, h17, b2, b4, hlt, hw, Vt.cells]) | (refine CallK_plain ?_; simp [h2, h4, h15, h16, h17, b2, b4, hlt, hw, Vt.cells]) | (refine CallQ_plain ?_; simp [h2, h4, h15, h16, h17, b2, b4, hlt, hw, Vt.cells]) | (refine wRet ?_; try simp) | (refine wCond ?_; simp [h2, h4, h15, h16, h17, b2, b4, hlt, hw, Vt.cells]) | (refine wBlock ?_) | (refine wExit ?_; try simp) | (refine wSkip ?_; try simp) | (refine wOn ?_; try simp only [thenA_n]) | (refine wQn ?_; try simp only [thenA_n]) | (refine CallE.pure (hx) rfl ?_) | (refine CallE.lent (hx) rfl ?_) | (refine CallF.pure (hx) rfl ?_) | (refine CallF.lent (hx) rfl ?_) | (refine CallE.own (hx) ?_)
        refine hL _ (N - 1) (by omega) ⟨k + 1, b, by omega, ?_⟩
        simp [h2, h4, h15, h16, hw, b2, b4, hb]
    · rw [List.drop_of_length_le (by omega), bestGo] at hb
      repeat' first | (refine hK _ ?_; clear hK) | (clear hK; refine hK _ ?_; clear hK) | (clear hK; clear hK; refine hK _ ?_; clear hK) | (clear hK; clear hK; clear hK; refine hK _ ?_; clear hK) | (clear hK; clear hK; clear hK; clear hK; refine hK _ ?_; clear hK) | (refine wSeq fun K hK => ?_) | (refine wReg ?_; simp only [List.map_cons, List.map_nil, strip]) | (refine wDrw (by kernel_rfl) ?_; simp only [List.map_cons, List.map_nil, strip]) | (refine wOs fun K hK => ?_; simp [h2, h4, h15, h16, h17, b2, b4, hlt, Vt.zero, Vt.cells]) | (refine wQs fun K hK => ?_; simp [h2, h4, h15, h16, h17, b2, b4, hlt, Vt.zero, Vt.cells]) | (refine CallK_plain ?_; simp [h2, h4, h15, h16, h17, b2, b4, hlt, Vt.zero, Vt.cells]) | (refine CallQ_plain ?_; simp [h2, h4, h15, h16, h17, b2, b4, hlt, Vt.zero, Vt.cells]) | (refine wRet ?_; try simp) | (refine wCond ?_; simp [h2, h4, h15, h16, h17, b2, b4, hlt, Vt.zero, Vt.cells]) | (refine wBlock ?_) | (refine wExit ?_; try simp) | (refine wSkip ?_; try simp) | (refine wOn ?_; try simp only [thenA_n]) | (refine wQn ?_; try simp only [thenA_n])
      apply hr
      simp [Try.f20, h2, h4, b2, b4, best, ← hb, Vt.cells]

theorem orders_con (a b : Vt) (l : List Vt) : ACon Try.prog 7 [.p (.agg a.cells), .p (.agg b.cells), .p (.sl 7 (l.map Vt.cells))] (.p (B true)) := by
  have c1 := best_con l
  have c2 := best17_con l
  have c3 := better_con a b
  have c4 := better17_con a b
  by_cases hl : 300 < l.length
  · have hl' : (300 : Int) < l.length := by omega
    simp only [Vt.cells]
    refine wBody Try.tab Try.mixed Try.func7 rfl rfl Try.ntmps7 (by simp) (by simp) fun Q hr hn => ?_
    repeat' first | (refine hK _ ?_; clear hK) | (clear hK; refine hK _ ?_; clear hK) | (clear hK; clear hK; refine hK _ ?_; clear hK) | (clear hK; clear hK; clear hK; refine hK _ ?_; clear hK) | (clear hK; clear hK; clear hK; clear hK; refine hK _ ?_; clear hK) | (refine wSeq fun K hK => ?_) | (refine wReg ?_; simp only [List.map_cons, List.map_nil, strip]) | (refine wDrw (by kernel_rfl) ?_; simp only [List.map_cons, List.map_nil, strip]) | (refine wOs fun K hK => ?_; simp [hl, hl']) | (refine wQs fun K hK => ?_; simp [hl, hl']) | (refine CallK_plain ?_; simp [hl, hl']) | (refine CallQ_plain ?_; simp [hl, hl']) | (refine wRet ?_; try simp) | (refine wCond ?_; simp [hl, hl']) | (refine wBlock ?_) | (refine wExit ?_; try simp) | (refine wSkip ?_; try simp) | (refine wOn ?_; try simp only [thenA_n]) | (refine wQn ?_; try simp only [thenA_n]) | (refine CallE.pure (awake17) rfl ?_) | (refine CallE.lent (awake17) rfl ?_) | (refine CallF.pure (awake17) rfl ?_) | (refine CallF.lent (awake17) rfl ?_) | (refine CallE.own (awake17) ?_)
    all_goals apply hr
    all_goals simp [Try.f7]
  have hl' : ¬ (300 : Int) < l.length := by omega
  generalize best l = x at c1 c2
  generalize better a b = z at c3 c4
  generalize decide (0 < l.length) = y at c1 c2
  simp only [Vt.cells] at c1 c2 c3 c4 ⊢
  refine wBody Try.tab Try.mixed Try.func7 rfl rfl Try.ntmps7 (by simp) (by simp) fun Q hr hn => ?_
  repeat' first | (refine hK _ ?_; clear hK) | (clear hK; refine hK _ ?_; clear hK) | (clear hK; clear hK; refine hK _ ?_; clear hK) | (clear hK; clear hK; clear hK; refine hK _ ?_; clear hK) | (clear hK; clear hK; clear hK; clear hK; refine hK _ ?_; clear hK) | (refine wSeq fun K hK => ?_) | (refine wReg ?_; simp only [List.map_cons, List.map_nil, strip]) | (refine wDrw (by kernel_rfl) ?_; simp only [List.map_cons, List.map_nil, strip]) | (refine wOs fun K hK => ?_; simp [hl, hl']) | (refine wQs fun K hK => ?_; simp [hl, hl']) | (refine CallK_plain ?_; simp [hl, hl']) | (refine CallQ_plain ?_; simp [hl, hl']) | (refine wRet ?_; try simp) | (refine wCond ?_; simp [hl, hl']) | (refine wBlock ?_) | (refine wExit ?_; try simp) | (refine wSkip ?_; try simp) | (refine wOn ?_; try simp only [thenA_n]) | (refine wQn ?_; try simp only [thenA_n]) | (refine CallE.pure (awake17) rfl ?_) | (refine CallE.lent (awake17) rfl ?_) | (refine CallF.pure (awake17) rfl ?_) | (refine CallF.lent (awake17) rfl ?_) | (refine CallE.own (awake17) ?_) | (refine CallE.pure (c1) rfl ?_) | (refine CallE.lent (c1) rfl ?_) | (refine CallF.pure (c1) rfl ?_) | (refine CallF.lent (c1) rfl ?_) | (refine CallE.own (c1) ?_) | (refine CallE.pure (c2) rfl ?_) | (refine CallE.lent (c2) rfl ?_) | (refine CallF.pure (c2) rfl ?_) | (refine CallF.lent (c2) rfl ?_) | (refine CallE.own (c2) ?_) | (refine CallE.pure (c3) rfl ?_) | (refine CallE.lent (c3) rfl ?_) | (refine CallF.pure (c3) rfl ?_) | (refine CallF.lent (c3) rfl ?_) | (refine CallE.own (c3) ?_) | (refine CallE.pure (c4) rfl ?_) | (refine CallE.lent (c4) rfl ?_) | (refine CallF.pure (c4) rfl ?_) | (refine CallF.lent (c4) rfl ?_) | (refine CallE.own (c4) ?_)
  all_goals apply hr
  all_goals simp [Try.f7]
end Go.Proofs.Ytnjnloonlcknkaa
