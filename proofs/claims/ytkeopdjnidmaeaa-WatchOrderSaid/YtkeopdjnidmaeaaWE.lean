/- Watches: Add. -/
import Derived.Test.YtkeopdjnidmaeaaWD
import Derived.Test.YtkeopdjnidmaeaaWZ
namespace Go.Proofs.Ytkeopdjnidmaeaa
set_option linter.unusedSimpArgs false
set_option linter.unusedVariables false
open Go Go.Av
attribute [local simp] Try.T1 Try.T2 Try.T3 Try.T4 Try.T5 Try.T9 Try.T12 Try.T21 Try.T22 Try.T23 Try.T24 Try.T26 Try.T27 Try.T29 Try.T31 Try.T32 Try.T33 Try.T34 Try.T35 Try.T37 Try.T39 Try.T41 Try.T42 Try.T43 Try.T44 Try.T46 Try.T47 Try.T48 Try.T50 Try.T51 Try.T52 Try.T53 Try.T54 Try.T55 Try.T56 Try.T57 Try.T59 Try.T60 Try.T61 Try.T62 Try.T63 Try.T64 Try.T65 Try.T66 Try.T67 Try.T69 Try.T70 Try.T71 Try.T72 Try.T73 Try.T74 Try.T75 Try.T77 Try.T78 Try.T79 Try.T85 Try.T88 Try.T95
attribute [local irreducible] Go.Av.CallK Go.Av.CallE Go.Av.CallQ Go.Av.CallF Go.Av.CallR Go.Av.CallH Go.Av.Con

def addV (l : List Wt) (w : Wt) : Int := if okW w = true then 0 else 1
def addL (l : List Wt) (w : Wt) : List Wt := if okW w = true then ins w l else l
theorem cloneW (l : List (List PV)) (hl : l.length ≤ 1000000) : Con Try.prog 14 [.p (.sl 3 l)] [] (.ret (.row 2048) [.row 39 3 l] []) := clone14 l hl
theorem wts_ins (l : List Wt) (w : Wt) (k : Nat) : (wts l).take k ++ [I w.s, I w.k, SB w.p] :: (wts l).drop k = wts (l.take k ++ w :: l.drop k) := by
  simp [wts, Wt.c, List.map_take, List.map_drop]
/-- What Add gives, as a row of its own. -/
abbrev addOut (l : List Wt) (e : Int) : Out := .ret (.tup [.row 2048, .p (I e)]) [.row 39 3 (wts l)] []
theorem addN_con (l : List Wt) (w : Wt) (hw : w.p.length ≤ 9223372036854775807) (hl : l.length ≤ 1000000) (h : okW w = false) : Con Try.prog 8 [.p (.sl 3 (wts l)), .p (.agg w.c)] [] (addOut l 1) := by
  have cc := check_con w.p hw
  have cl := cloneW (wts l) (by simpa using hl)
  unfold okW at h
  simp only [decide_eq_false_iff_not] at h
  unfold Wt.c
  by_cases h1 : w.s < 1
  · refine wBodyG Try.tab Try.mixed Try.func8 rfl rfl Try.ntmps8 (by simp) (by simp) fun Q hr hn hp => ?_
    repeat' first | (refine hK _ ?_; clear hK) | (refine hK _ _ ?_; clear hK) | (clear hK; refine hK _ ?_; clear hK) | (clear hK; clear hK; refine hK _ ?_; clear hK) | (clear hK; clear hK; clear hK; refine hK _ ?_; clear hK) | (clear hK; clear hK; clear hK; clear hK; refine hK _ ?_; clear hK) | (refine wSeq fun K hK => ?_) | ((first | refine wReg ?_ | refine wDrwQ rfl (by kernel_rfl) ?_ | refine wDrwI ?_ | refine wDrw (by kernel_rfl) ?_); simp only [List.map_cons, List.map_nil, strip]) | ((first | refine wIs fun K hK => ?_ | refine wOs fun K hK => ?_ | refine wQs fun K hK => ?_ | refine CallK_plain ?_ | refine CallQ_plain ?_ | refine CallR_plain ?_ | refine wCond ?_); simp [h1]) | (refine wIn ?_; refine And.intro (by kernel_rfl) ?_; try simp only [thenA_n]) | (first | refine wBlock ?_ | refine wScope ?_) | ((first | refine wRet ?_ | refine wExit ?_ | refine wSkip ?_); try simp) | ((first | refine wLabel ?_ | refine wOn ?_ | refine wQn ?_); try simp only [thenA_n]) | (refine CallE.pure (cl) rfl ?_) | (refine CallE.lent (cl) rfl ?_) | (refine CallF.pure (cl) rfl ?_) | (refine CallF.lent (cl) rfl ?_) | (refine CallE.own (cl) ?_) | (refine CallH.pure (cl) rfl ?_) | (refine CallH.lent (cl) rfl ?_) | (refine CallH.own (cl) ?_)
    all_goals apply hr
    all_goals refine ⟨[27], by simp, by simp, ?_⟩
    all_goals simp [Try.f8, outR, outB, renB, gaN]
  by_cases h2 : w.k = 1
  · have h3 : ¬ chk w.p = 0 := fun e => h ⟨by omega, .inl h2, e⟩
    refine wBodyG Try.tab Try.mixed Try.func8 rfl rfl Try.ntmps8 (by simp) (by simp) fun Q hr hn hp => ?_
    repeat' first | (refine hK _ ?_; clear hK) | (refine hK _ _ ?_; clear hK) | (clear hK; refine hK _ ?_; clear hK) | (clear hK; clear hK; refine hK _ ?_; clear hK) | (clear hK; clear hK; clear hK; refine hK _ ?_; clear hK) | (clear hK; clear hK; clear hK; clear hK; refine hK _ ?_; clear hK) | (refine wSeq fun K hK => ?_) | ((first | refine wReg ?_ | refine wDrwQ rfl (by kernel_rfl) ?_ | refine wDrwI ?_ | refine wDrw (by kernel_rfl) ?_); simp only [List.map_cons, List.map_nil, strip]) | ((first | refine wIs fun K hK => ?_ | refine wOs fun K hK => ?_ | refine wQs fun K hK => ?_ | refine CallK_plain ?_ | refine CallQ_plain ?_ | refine CallR_plain ?_ | refine wCond ?_); simp [h1, h2, h3]) | (refine wIn ?_; refine And.intro (by kernel_rfl) ?_; try simp only [thenA_n]) | (first | refine wBlock ?_ | refine wScope ?_) | ((first | refine wRet ?_ | refine wExit ?_ | refine wSkip ?_); try simp) | ((first | refine wLabel ?_ | refine wOn ?_ | refine wQn ?_); try simp only [thenA_n]) | (refine CallE.pure (cl) rfl ?_) | (refine CallE.lent (cl) rfl ?_) | (refine CallF.pure (cl) rfl ?_) | (refine CallF.lent (cl) rfl ?_) | (refine CallE.own (cl) ?_) | (refine CallH.pure (cl) rfl ?_) | (refine CallH.lent (cl) rfl ?_) | (refine CallH.own (cl) ?_) | (refine CallE.pure (cc) rfl ?_) | (refine CallE.lent (cc) rfl ?_) | (refine CallF.pure (cc) rfl ?_) | (refine CallF.lent (cc) rfl ?_) | (refine CallE.own (cc) ?_) | (refine CallH.pure (cc) rfl ?_) | (refine CallH.lent (cc) rfl ?_) | (refine CallH.own (cc) ?_)
    all_goals apply hr
    all_goals refine ⟨[27], by simp, by simp, ?_⟩
    all_goals simp [Try.f8, outR, outB, renB, gaN]
  by_cases h4 : w.k = 2
  · have h3 : ¬ chk w.p = 0 := fun e => h ⟨by omega, .inr h4, e⟩
    refine wBodyG Try.tab Try.mixed Try.func8 rfl rfl Try.ntmps8 (by simp) (by simp) fun Q hr hn hp => ?_
    repeat' first | (refine hK _ ?_; clear hK) | (refine hK _ _ ?_; clear hK) | (clear hK; refine hK _ ?_; clear hK) | (clear hK; clear hK; refine hK _ ?_; clear hK) | (clear hK; clear hK; clear hK; refine hK _ ?_; clear hK) | (clear hK; clear hK; clear hK; clear hK; refine hK _ ?_; clear hK) | (refine wSeq fun K hK => ?_) | ((first | refine wReg ?_ | refine wDrwQ rfl (by kernel_rfl) ?_ | refine wDrwI ?_ | refine wDrw (by kernel_rfl) ?_); simp only [List.map_cons, List.map_nil, strip]) | ((first | refine wIs fun K hK => ?_ | refine wOs fun K hK => ?_ | refine wQs fun K hK => ?_ | refine CallK_plain ?_ | refine CallQ_plain ?_ | refine CallR_plain ?_ | refine wCond ?_); simp [h1, h2, h4, h3]) | (refine wIn ?_; refine And.intro (by kernel_rfl) ?_; try simp only [thenA_n]) | (first | refine wBlock ?_ | refine wScope ?_) | ((first | refine wRet ?_ | refine wExit ?_ | refine wSkip ?_); try simp) | ((first | refine wLabel ?_ | refine wOn ?_ | refine wQn ?_); try simp only [thenA_n]) | (refine CallE.pure (cl) rfl ?_) | (refine CallE.lent (cl) rfl ?_) | (refine CallF.pure (cl) rfl ?_) | (refine CallF.lent (cl) rfl ?_) | (refine CallE.own (cl) ?_) | (refine CallH.pure (cl) rfl ?_) | (refine CallH.lent (cl) rfl ?_) | (refine CallH.own (cl) ?_) | (refine CallE.pure (cc) rfl ?_) | (refine CallE.lent (cc) rfl ?_) | (refine CallF.pure (cc) rfl ?_) | (refine CallF.lent (cc) rfl ?_) | (refine CallE.own (cc) ?_) | (refine CallH.pure (cc) rfl ?_) | (refine CallH.lent (cc) rfl ?_) | (refine CallH.own (cc) ?_)
    all_goals apply hr
    all_goals refine ⟨[27], by simp, by simp, ?_⟩
    all_goals simp [Try.f8, outR, outB, renB, gaN]
  · refine wBodyG Try.tab Try.mixed Try.func8 rfl rfl Try.ntmps8 (by simp) (by simp) fun Q hr hn hp => ?_
    repeat' first | (refine hK _ ?_; clear hK) | (refine hK _ _ ?_; clear hK) | (clear hK; refine hK _ ?_; clear hK) | (clear hK; clear hK; refine hK _ ?_; clear hK) | (clear hK; clear hK; clear hK; refine hK _ ?_; clear hK) | (clear hK; clear hK; clear hK; clear hK; refine hK _ ?_; clear hK) | (refine wSeq fun K hK => ?_) | ((first | refine wReg ?_ | refine wDrwQ rfl (by kernel_rfl) ?_ | refine wDrwI ?_ | refine wDrw (by kernel_rfl) ?_); simp only [List.map_cons, List.map_nil, strip]) | ((first | refine wIs fun K hK => ?_ | refine wOs fun K hK => ?_ | refine wQs fun K hK => ?_ | refine CallK_plain ?_ | refine CallQ_plain ?_ | refine CallR_plain ?_ | refine wCond ?_); simp [h1, h2, h4]) | (refine wIn ?_; refine And.intro (by kernel_rfl) ?_; try simp only [thenA_n]) | (first | refine wBlock ?_ | refine wScope ?_) | ((first | refine wRet ?_ | refine wExit ?_ | refine wSkip ?_); try simp) | ((first | refine wLabel ?_ | refine wOn ?_ | refine wQn ?_); try simp only [thenA_n]) | (refine CallE.pure (cl) rfl ?_) | (refine CallE.lent (cl) rfl ?_) | (refine CallF.pure (cl) rfl ?_) | (refine CallF.lent (cl) rfl ?_) | (refine CallE.own (cl) ?_) | (refine CallH.pure (cl) rfl ?_) | (refine CallH.lent (cl) rfl ?_) | (refine CallH.own (cl) ?_)
    all_goals apply hr
    all_goals refine ⟨[27], by simp, by simp, ?_⟩
    all_goals simp [Try.f8, outR, outB, renB, gaN]
set_option maxHeartbeats 2000000 in
theorem addY_con (l : List Wt) (w : Wt) (hw : w.p.length ≤ 9223372036854775807) (hl : l.length < 60) (h : okW w = true) : Con Try.prog 8 [.p (.sl 3 (wts l)), .p (.agg w.c)] [] (addOut (ins w l) 0) := by
  have cc := check_con w.p hw
  have cl := cloneW (wts l) (by simp; omega)
  unfold okW at h
  simp only [decide_eq_true_eq] at h
  obtain ⟨h1, h2, h3⟩ := h
  rw [h3] at cc
  have h1' : ¬ w.s < 1 := by omega
  have hat := atW_le w l
  have he := ins_eq w l
  have hk : w.k = 1 ∨ (¬ w.k = 1 ∧ w.k = 2) := by omega
  have h60 : ¬ (60 : Int) ≤ l.length := by omega
  have inv : ∀ k, atW w l = k → ¬ l[k]? = some w → Con Try.prog 16 [.row 1024, .p (I k), .p (.sl 3 [[I w.s, I w.k, SB w.p]])] [.row 39 3 (wts l)] (.ret (.row 1024) [] [.row 39 3 (wts (ins w l))]) := fun k e hn => by
    have c := insert_con (wts l) k [I w.s, I w.k, SB w.p] (by simp; omega) (by simp; omega) rfl
    rw [wts_ins] at c
    subst e
    rw [he, if_neg hn]; exact c
  unfold Wt.c
  refine wBodyG Try.tab Try.mixed Try.func8 rfl rfl Try.ntmps8 (by simp) (by simp) fun Q hr hn hp => ?_
  rcases hk with hk | ⟨hk0, hk⟩
  · repeat' first | (refine hK _ ?_; clear hK) | (refine hK _ _ ?_; clear hK) | (clear hK; refine hK _ ?_; clear hK) | (clear hK; clear hK; refine hK _ ?_; clear hK) | (clear hK; clear hK; clear hK; refine hK _ ?_; clear hK) | (clear hK; clear hK; clear hK; clear hK; refine hK _ ?_; clear hK) | (refine wSeq fun K hK => ?_) | ((first | refine wReg ?_ | refine wDrwQ rfl (by kernel_rfl) ?_ | refine wDrwI ?_ | refine wDrw (by kernel_rfl) ?_); simp only [List.map_cons, List.map_nil, strip]) | ((first | refine wIs fun K hK => ?_ | refine wOs fun K hK => ?_ | refine wQs fun K hK => ?_ | refine CallK_plain ?_ | refine CallQ_plain ?_ | refine CallR_plain ?_ | refine wCond ?_); simp [h1', hk]) | (refine wIn ?_; refine And.intro (by kernel_rfl) ?_; try simp only [thenA_n]) | (first | refine wBlock ?_ | refine wScope ?_) | ((first | refine wRet ?_ | refine wExit ?_ | refine wSkip ?_); try simp) | ((first | refine wLabel ?_ | refine wOn ?_ | refine wQn ?_); try simp only [thenA_n]) | (refine CallE.pure (cc) rfl ?_) | (refine CallE.lent (cc) rfl ?_) | (refine CallF.pure (cc) rfl ?_) | (refine CallF.lent (cc) rfl ?_) | (refine CallE.own (cc) ?_) | (refine CallH.pure (cc) rfl ?_) | (refine CallH.lent (cc) rfl ?_) | (refine CallH.own (cc) ?_)
    refine wLoop (fun N st => ∃ k, k + N = l.length ∧ atW w l = k + atW w (l.drop k) ∧ st.s 0 = .p (.sl 3 (wts l)) ∧ st.s 3 = .ptr 3 0 ∧ st.s 6 = .p (I k) ∧ st.b 3 = some (.box 39 [.p (I w.s), .p (I w.k), .p (SB w.p)])) l.length ⟨0, by simp [hk]⟩ fun K N st hL ⟨k, hkN, hat', g0, g3, g6, b3⟩ => ?_
    by_cases hlt : k < l.length
    · have hwr := wrapW k _ hlt (by omega)
      have hg := wts_get hlt
      have hst := atW_step hlt w
      have ca := ahead_con l[k] w
      cases o : ahd l[k] w
      · rw [o] at ca hst
        simp only [Bool.false_eq_true, if_false] at hst
        by_cases q : l[k] = w
        · have hq : l[atW w l]? = some w := by rw [hat', hst, Nat.add_zero, List.getElem?_eq_getElem hlt, q]
          rw [if_pos hq] at he
          rw [he] at hr hn
          have q' := q
          rw [Wt.ext3] at q'
          obtain ⟨q1, q2, q3⟩ := q'
          have ca := ahead_con w w
          rw [show ahd w w = false from by rw [q] at o; exact o] at ca
          repeat' first | (refine hK _ ?_; clear hK) | (refine hK _ _ ?_; clear hK) | (clear hK; refine hK _ ?_; clear hK) | (clear hK; clear hK; refine hK _ ?_; clear hK) | (clear hK; clear hK; clear hK; refine hK _ ?_; clear hK) | (clear hK; clear hK; clear hK; clear hK; refine hK _ ?_; clear hK) | (refine wSeq fun K hK => ?_) | ((first | refine wReg ?_ | refine wDrwQ rfl (by kernel_rfl) ?_ | refine wDrwI ?_ | refine wDrw (by kernel_rfl) ?_); simp only [List.map_cons, List.map_nil, strip]) | ((first | refine wIs fun K hK => ?_ | refine wOs fun K hK => ?_ | refine wQs fun K hK => ?_ | refine CallK_plain ?_ | refine CallQ_plain ?_ | refine CallR_plain ?_ | refine wCond ?_); simp [g0, g3, g6, b3, hlt, hwr, hg, q1, q2, q3]) | (refine wIn ?_; refine And.intro (by kernel_rfl) ?_; try simp only [thenA_n]) | (first | refine wBlock ?_ | refine wScope ?_) | ((first | refine wRet ?_ | refine wExit ?_ | refine wSkip ?_); try simp) | ((first | refine wLabel ?_ | refine wOn ?_ | refine wQn ?_); try simp only [thenA_n]) | (refine CallE.pure (ca) rfl ?_) | (refine CallE.lent (ca) rfl ?_) | (refine CallF.pure (ca) rfl ?_) | (refine CallF.lent (ca) rfl ?_) | (refine CallE.own (ca) ?_) | (refine CallH.pure (ca) rfl ?_) | (refine CallH.lent (ca) rfl ?_) | (refine CallH.own (ca) ?_) | (refine CallE.pure (cl) rfl ?_) | (refine CallE.lent (cl) rfl ?_) | (refine CallF.pure (cl) rfl ?_) | (refine CallF.lent (cl) rfl ?_) | (refine CallE.own (cl) ?_) | (refine CallH.pure (cl) rfl ?_) | (refine CallH.lent (cl) rfl ?_) | (refine CallH.own (cl) ?_)
          all_goals first | apply hr | apply hn
          all_goals refine ⟨[56], by simp, by simp, ?_⟩
          all_goals simp [Try.f8, outR, outB, renB, gaN]
        · have hi := inv k (by omega) (by rw [List.getElem?_eq_getElem hlt]; simpa using q)
          have q' := q
          rw [Wt.ext3] at q'
          repeat' first | (refine wDrwI ?_; simp only [List.map_cons, List.map_nil, strip]) | (refine CallR_row 64 hi (by simp) (by simp) (by simp [argsG, argG, ren0, inN, pos, renCs, renC]) ?_; simp [g0, g3, g6, b3]) | (intro (_ : l[k].s = w.s → l[k].k = w.k → ¬ l[k].p = w.p)) | (refine hK _ ?_; clear hK) | (refine hK _ _ ?_; clear hK) | (clear hK; refine hK _ ?_; clear hK) | (clear hK; clear hK; refine hK _ ?_; clear hK) | (clear hK; clear hK; clear hK; refine hK _ ?_; clear hK) | (clear hK; clear hK; clear hK; clear hK; refine hK _ ?_; clear hK) | (refine wSeq fun K hK => ?_) | ((first | refine wReg ?_ | refine wDrwQ rfl (by kernel_rfl) ?_ | refine wDrwI ?_ | refine wDrw (by kernel_rfl) ?_); simp only [List.map_cons, List.map_nil, strip]) | ((first | refine wIs fun K hK => ?_ | refine wOs fun K hK => ?_ | refine wQs fun K hK => ?_ | refine CallK_plain ?_ | refine CallQ_plain ?_ | refine CallR_plain ?_ | refine wCond ?_); simp [g0, g3, g6, b3, hlt, hwr, hg, q', h60]) | (refine wIn ?_; refine And.intro (by kernel_rfl) ?_; try simp only [thenA_n]) | (first | refine wBlock ?_ | refine wScope ?_) | ((first | refine wRet ?_ | refine wExit ?_ | refine wSkip ?_); try simp) | ((first | refine wLabel ?_ | refine wOn ?_ | refine wQn ?_); try simp only [thenA_n]) | (refine CallE.pure (ca) rfl ?_) | (refine CallE.lent (ca) rfl ?_) | (refine CallF.pure (ca) rfl ?_) | (refine CallF.lent (ca) rfl ?_) | (refine CallE.own (ca) ?_) | (refine CallH.pure (ca) rfl ?_) | (refine CallH.lent (ca) rfl ?_) | (refine CallH.own (ca) ?_) | (refine CallE.pure (cl) rfl ?_) | (refine CallE.lent (cl) rfl ?_) | (refine CallF.pure (cl) rfl ?_) | (refine CallF.lent (cl) rfl ?_) | (refine CallE.own (cl) ?_) | (refine CallH.pure (cl) rfl ?_) | (refine CallH.lent (cl) rfl ?_) | (refine CallH.own (cl) ?_)
          all_goals first | apply hr | apply hn
          all_goals refine ⟨[64], by simp, by simp, ?_⟩
          all_goals simp [Try.f8, outR, outB, renB, gaN]
      · rw [o] at ca
        rw [if_pos o] at hst
        repeat' first | (refine hK _ ?_; clear hK) | (refine hK _ _ ?_; clear hK) | (clear hK; refine hK _ ?_; clear hK) | (clear hK; clear hK; refine hK _ ?_; clear hK) | (clear hK; clear hK; clear hK; refine hK _ ?_; clear hK) | (clear hK; clear hK; clear hK; clear hK; refine hK _ ?_; clear hK) | (refine wSeq fun K hK => ?_) | ((first | refine wReg ?_ | refine wDrwQ rfl (by kernel_rfl) ?_ | refine wDrwI ?_ | refine wDrw (by kernel_rfl) ?_); simp only [List.map_cons, List.map_nil, strip]) | ((first | refine wIs fun K hK => ?_ | refine wOs fun K hK => ?_ | refine wQs fun K hK => ?_ | refine CallK_plain ?_ | refine CallQ_plain ?_ | refine CallR_plain ?_ | refine wCond ?_); simp [g0, g3, g6, b3, hlt, hwr, hg]) | (refine wIn ?_; refine And.intro (by kernel_rfl) ?_; try simp only [thenA_n]) | (first | refine wBlock ?_ | refine wScope ?_) | ((first | refine wRet ?_ | refine wExit ?_ | refine wSkip ?_); try simp) | ((first | refine wLabel ?_ | refine wOn ?_ | refine wQn ?_); try simp only [thenA_n]) | (refine CallE.pure (ca) rfl ?_) | (refine CallE.lent (ca) rfl ?_) | (refine CallF.pure (ca) rfl ?_) | (refine CallF.lent (ca) rfl ?_) | (refine CallE.own (ca) ?_) | (refine CallH.pure (ca) rfl ?_) | (refine CallH.lent (ca) rfl ?_) | (refine CallH.own (ca) ?_)
        refine hL _ (N - 1) (by omega) ⟨k + 1, by omega, by omega, ?_⟩
        simp [g0, g3, g6, b3, hwr]
    · have e0 : l.drop k = [] := List.drop_eq_nil_of_le (by omega)
      have hi := inv k (by rw [hat', e0]; rfl) (by rw [List.getElem?_eq_none (by omega)]; simp)
      repeat' first | (refine wDrwI ?_; simp only [List.map_cons, List.map_nil, strip]) | (refine CallR_row 64 hi (by simp) (by simp) (by simp [argsG, argG, ren0, inN, pos, renCs, renC]) ?_; simp [g0, g3, g6, b3]) | (refine hK _ ?_; clear hK) | (refine hK _ _ ?_; clear hK) | (clear hK; refine hK _ ?_; clear hK) | (clear hK; clear hK; refine hK _ ?_; clear hK) | (clear hK; clear hK; clear hK; refine hK _ ?_; clear hK) | (clear hK; clear hK; clear hK; clear hK; refine hK _ ?_; clear hK) | (refine wSeq fun K hK => ?_) | ((first | refine wReg ?_ | refine wDrwQ rfl (by kernel_rfl) ?_ | refine wDrwI ?_ | refine wDrw (by kernel_rfl) ?_); simp only [List.map_cons, List.map_nil, strip]) | ((first | refine wIs fun K hK => ?_ | refine wOs fun K hK => ?_ | refine wQs fun K hK => ?_ | refine CallK_plain ?_ | refine CallQ_plain ?_ | refine CallR_plain ?_ | refine wCond ?_); simp [g0, g3, g6, b3, hlt, h60]) | (refine wIn ?_; refine And.intro (by kernel_rfl) ?_; try simp only [thenA_n]) | (first | refine wBlock ?_ | refine wScope ?_) | ((first | refine wRet ?_ | refine wExit ?_ | refine wSkip ?_); try simp) | ((first | refine wLabel ?_ | refine wOn ?_ | refine wQn ?_); try simp only [thenA_n]) | (refine CallE.pure (cl) rfl ?_) | (refine CallE.lent (cl) rfl ?_) | (refine CallF.pure (cl) rfl ?_) | (refine CallF.lent (cl) rfl ?_) | (refine CallE.own (cl) ?_) | (refine CallH.pure (cl) rfl ?_) | (refine CallH.lent (cl) rfl ?_) | (refine CallH.own (cl) ?_)
      all_goals first | apply hr | apply hn
      all_goals refine ⟨[64], by simp, by simp, ?_⟩
      all_goals simp [Try.f8, outR, outB, renB, gaN]
  · repeat' first | (refine hK _ ?_; clear hK) | (refine hK _ _ ?_; clear hK) | (clear hK; refine hK _ ?_; clear hK) | (clear hK; clear hK; refine hK _ ?_; clear hK) | (clear hK; clear hK; clear hK; refine hK _ ?_; clear hK) | (clear hK; clear hK; clear hK; clear hK; refine hK _ ?_; clear hK) | (refine wSeq fun K hK => ?_) | ((first | refine wReg ?_ | refine wDrwQ rfl (by kernel_rfl) ?_ | refine wDrwI ?_ | refine wDrw (by kernel_rfl) ?_); simp only [List.map_cons, List.map_nil, strip]) | ((first | refine wIs fun K hK => ?_ | refine wOs fun K hK => ?_ | refine wQs fun K hK => ?_ | refine CallK_plain ?_ | refine CallQ_plain ?_ | refine CallR_plain ?_ | refine wCond ?_); simp [h1', hk0, hk]) | (refine wIn ?_; refine And.intro (by kernel_rfl) ?_; try simp only [thenA_n]) | (first | refine wBlock ?_ | refine wScope ?_) | ((first | refine wRet ?_ | refine wExit ?_ | refine wSkip ?_); try simp) | ((first | refine wLabel ?_ | refine wOn ?_ | refine wQn ?_); try simp only [thenA_n]) | (refine CallE.pure (cc) rfl ?_) | (refine CallE.lent (cc) rfl ?_) | (refine CallF.pure (cc) rfl ?_) | (refine CallF.lent (cc) rfl ?_) | (refine CallE.own (cc) ?_) | (refine CallH.pure (cc) rfl ?_) | (refine CallH.lent (cc) rfl ?_) | (refine CallH.own (cc) ?_)
    refine wLoop (fun N st => ∃ k, k + N = l.length ∧ atW w l = k + atW w (l.drop k) ∧ st.s 0 = .p (.sl 3 (wts l)) ∧ st.s 3 = .ptr 3 0 ∧ st.s 6 = .p (I k) ∧ st.b 3 = some (.box 39 [.p (I w.s), .p (I w.k), .p (SB w.p)])) l.length ⟨0, by simp [hk]⟩ fun K N st hL ⟨k, hkN, hat', g0, g3, g6, b3⟩ => ?_
    by_cases hlt : k < l.length
    · have hwr := wrapW k _ hlt (by omega)
      have hg := wts_get hlt
      have hst := atW_step hlt w
      have ca := ahead_con l[k] w
      cases o : ahd l[k] w
      · rw [o] at ca hst
        simp only [Bool.false_eq_true, if_false] at hst
        by_cases q : l[k] = w
        · have hq : l[atW w l]? = some w := by rw [hat', hst, Nat.add_zero, List.getElem?_eq_getElem hlt, q]
          rw [if_pos hq] at he
          rw [he] at hr hn
          have q' := q
          rw [Wt.ext3] at q'
          obtain ⟨q1, q2, q3⟩ := q'
          have ca := ahead_con w w
          rw [show ahd w w = false from by rw [q] at o; exact o] at ca
          repeat' first | (refine hK _ ?_; clear hK) | (refine hK _ _ ?_; clear hK) | (clear hK; refine hK _ ?_; clear hK) | (clear hK; clear hK; refine hK _ ?_; clear hK) | (clear hK; clear hK; clear hK; refine hK _ ?_; clear hK) | (clear hK; clear hK; clear hK; clear hK; refine hK _ ?_; clear hK) | (refine wSeq fun K hK => ?_) | ((first | refine wReg ?_ | refine wDrwQ rfl (by kernel_rfl) ?_ | refine wDrwI ?_ | refine wDrw (by kernel_rfl) ?_); simp only [List.map_cons, List.map_nil, strip]) | ((first | refine wIs fun K hK => ?_ | refine wOs fun K hK => ?_ | refine wQs fun K hK => ?_ | refine CallK_plain ?_ | refine CallQ_plain ?_ | refine CallR_plain ?_ | refine wCond ?_); simp [g0, g3, g6, b3, hlt, hwr, hg, q1, q2, q3]) | (refine wIn ?_; refine And.intro (by kernel_rfl) ?_; try simp only [thenA_n]) | (first | refine wBlock ?_ | refine wScope ?_) | ((first | refine wRet ?_ | refine wExit ?_ | refine wSkip ?_); try simp) | ((first | refine wLabel ?_ | refine wOn ?_ | refine wQn ?_); try simp only [thenA_n]) | (refine CallE.pure (ca) rfl ?_) | (refine CallE.lent (ca) rfl ?_) | (refine CallF.pure (ca) rfl ?_) | (refine CallF.lent (ca) rfl ?_) | (refine CallE.own (ca) ?_) | (refine CallH.pure (ca) rfl ?_) | (refine CallH.lent (ca) rfl ?_) | (refine CallH.own (ca) ?_) | (refine CallE.pure (cl) rfl ?_) | (refine CallE.lent (cl) rfl ?_) | (refine CallF.pure (cl) rfl ?_) | (refine CallF.lent (cl) rfl ?_) | (refine CallE.own (cl) ?_) | (refine CallH.pure (cl) rfl ?_) | (refine CallH.lent (cl) rfl ?_) | (refine CallH.own (cl) ?_)
          all_goals first | apply hr | apply hn
          all_goals refine ⟨[56], by simp, by simp, ?_⟩
          all_goals simp [Try.f8, outR, outB, renB, gaN]
        · have hi := inv k (by omega) (by rw [List.getElem?_eq_getElem hlt]; simpa using q)
          have q' := q
          rw [Wt.ext3] at q'
          repeat' first | (refine wDrwI ?_; simp only [List.map_cons, List.map_nil, strip]) | (refine CallR_row 64 hi (by simp) (by simp) (by simp [argsG, argG, ren0, inN, pos, renCs, renC]) ?_; simp [g0, g3, g6, b3]) | (intro (_ : l[k].s = w.s → l[k].k = w.k → ¬ l[k].p = w.p)) | (refine hK _ ?_; clear hK) | (refine hK _ _ ?_; clear hK) | (clear hK; refine hK _ ?_; clear hK) | (clear hK; clear hK; refine hK _ ?_; clear hK) | (clear hK; clear hK; clear hK; refine hK _ ?_; clear hK) | (clear hK; clear hK; clear hK; clear hK; refine hK _ ?_; clear hK) | (refine wSeq fun K hK => ?_) | ((first | refine wReg ?_ | refine wDrwQ rfl (by kernel_rfl) ?_ | refine wDrwI ?_ | refine wDrw (by kernel_rfl) ?_); simp only [List.map_cons, List.map_nil, strip]) | ((first | refine wIs fun K hK => ?_ | refine wOs fun K hK => ?_ | refine wQs fun K hK => ?_ | refine CallK_plain ?_ | refine CallQ_plain ?_ | refine CallR_plain ?_ | refine wCond ?_); simp [g0, g3, g6, b3, hlt, hwr, hg, q', h60]) | (refine wIn ?_; refine And.intro (by kernel_rfl) ?_; try simp only [thenA_n]) | (first | refine wBlock ?_ | refine wScope ?_) | ((first | refine wRet ?_ | refine wExit ?_ | refine wSkip ?_); try simp) | ((first | refine wLabel ?_ | refine wOn ?_ | refine wQn ?_); try simp only [thenA_n]) | (refine CallE.pure (ca) rfl ?_) | (refine CallE.lent (ca) rfl ?_) | (refine CallF.pure (ca) rfl ?_) | (refine CallF.lent (ca) rfl ?_) | (refine CallE.own (ca) ?_) | (refine CallH.pure (ca) rfl ?_) | (refine CallH.lent (ca) rfl ?_) | (refine CallH.own (ca) ?_) | (refine CallE.pure (cl) rfl ?_) | (refine CallE.lent (cl) rfl ?_) | (refine CallF.pure (cl) rfl ?_) | (refine CallF.lent (cl) rfl ?_) | (refine CallE.own (cl) ?_) | (refine CallH.pure (cl) rfl ?_) | (refine CallH.lent (cl) rfl ?_) | (refine CallH.own (cl) ?_)
          all_goals first | apply hr | apply hn
          all_goals refine ⟨[64], by simp, by simp, ?_⟩
          all_goals simp [Try.f8, outR, outB, renB, gaN]
      · rw [o] at ca
        rw [if_pos o] at hst
        repeat' first | (refine hK _ ?_; clear hK) | (refine hK _ _ ?_; clear hK) | (clear hK; refine hK _ ?_; clear hK) | (clear hK; clear hK; refine hK _ ?_; clear hK) | (clear hK; clear hK; clear hK; refine hK _ ?_; clear hK) | (clear hK; clear hK; clear hK; clear hK; refine hK _ ?_; clear hK) | (refine wSeq fun K hK => ?_) | ((first | refine wReg ?_ | refine wDrwQ rfl (by kernel_rfl) ?_ | refine wDrwI ?_ | refine wDrw (by kernel_rfl) ?_); simp only [List.map_cons, List.map_nil, strip]) | ((first | refine wIs fun K hK => ?_ | refine wOs fun K hK => ?_ | refine wQs fun K hK => ?_ | refine CallK_plain ?_ | refine CallQ_plain ?_ | refine CallR_plain ?_ | refine wCond ?_); simp [g0, g3, g6, b3, hlt, hwr, hg]) | (refine wIn ?_; refine And.intro (by kernel_rfl) ?_; try simp only [thenA_n]) | (first | refine wBlock ?_ | refine wScope ?_) | ((first | refine wRet ?_ | refine wExit ?_ | refine wSkip ?_); try simp) | ((first | refine wLabel ?_ | refine wOn ?_ | refine wQn ?_); try simp only [thenA_n]) | (refine CallE.pure (ca) rfl ?_) | (refine CallE.lent (ca) rfl ?_) | (refine CallF.pure (ca) rfl ?_) | (refine CallF.lent (ca) rfl ?_) | (refine CallE.own (ca) ?_) | (refine CallH.pure (ca) rfl ?_) | (refine CallH.lent (ca) rfl ?_) | (refine CallH.own (ca) ?_)
        refine hL _ (N - 1) (by omega) ⟨k + 1, by omega, by omega, ?_⟩
        simp [g0, g3, g6, b3, hwr]
    · have e0 : l.drop k = [] := List.drop_eq_nil_of_le (by omega)
      have hi := inv k (by rw [hat', e0]; rfl) (by rw [List.getElem?_eq_none (by omega)]; simp)
      repeat' first | (refine wDrwI ?_; simp only [List.map_cons, List.map_nil, strip]) | (refine CallR_row 64 hi (by simp) (by simp) (by simp [argsG, argG, ren0, inN, pos, renCs, renC]) ?_; simp [g0, g3, g6, b3]) | (refine hK _ ?_; clear hK) | (refine hK _ _ ?_; clear hK) | (clear hK; refine hK _ ?_; clear hK) | (clear hK; clear hK; refine hK _ ?_; clear hK) | (clear hK; clear hK; clear hK; refine hK _ ?_; clear hK) | (clear hK; clear hK; clear hK; clear hK; refine hK _ ?_; clear hK) | (refine wSeq fun K hK => ?_) | ((first | refine wReg ?_ | refine wDrwQ rfl (by kernel_rfl) ?_ | refine wDrwI ?_ | refine wDrw (by kernel_rfl) ?_); simp only [List.map_cons, List.map_nil, strip]) | ((first | refine wIs fun K hK => ?_ | refine wOs fun K hK => ?_ | refine wQs fun K hK => ?_ | refine CallK_plain ?_ | refine CallQ_plain ?_ | refine CallR_plain ?_ | refine wCond ?_); simp [g0, g3, g6, b3, hlt, h60]) | (refine wIn ?_; refine And.intro (by kernel_rfl) ?_; try simp only [thenA_n]) | (first | refine wBlock ?_ | refine wScope ?_) | ((first | refine wRet ?_ | refine wExit ?_ | refine wSkip ?_); try simp) | ((first | refine wLabel ?_ | refine wOn ?_ | refine wQn ?_); try simp only [thenA_n]) | (refine CallE.pure (cl) rfl ?_) | (refine CallE.lent (cl) rfl ?_) | (refine CallF.pure (cl) rfl ?_) | (refine CallF.lent (cl) rfl ?_) | (refine CallE.own (cl) ?_) | (refine CallH.pure (cl) rfl ?_) | (refine CallH.lent (cl) rfl ?_) | (refine CallH.own (cl) ?_)
      all_goals first | apply hr | apply hn
      all_goals refine ⟨[64], by simp, by simp, ?_⟩
      all_goals simp [Try.f8, outR, outB, renB, gaN]
theorem add_con (l : List Wt) (w : Wt) (hw : w.p.length ≤ 9223372036854775807) (hl : l.length < 60) : ACon Try.prog 8 [.p (.sl 3 (wts l)), .p (.agg w.c)] (.tup [.p (.sl 3 (wts (addL l w))), .p (I (addV l w))]) := by
  unfold addL addV
  cases h : okW w
  · exact Con.toPureT (addN_con l w hw (by omega) h)
  · exact Con.toPureT (addY_con l w hw hl h)
/-! ### Watches put in, one after another -/
def gos (l : List Wt) : List Wt := l.foldl addL []
theorem gos_snoc {l : List Wt} {k : Nat} (h : k < l.length) : gos (l.take (k + 1)) = addL (gos (l.take k)) l[k] := by
  rw [List.take_succ_eq_append_getElem h, gos, List.foldl_append]; rfl
theorem fold_len : ∀ (l m : List Wt), (l.foldl addL m).length ≤ m.length + l.length
  | [], m => by simp
  | w :: l, m => by
    have ih := fold_len l (addL m w)
    have h1 : (addL m w).length ≤ m.length + 1 := by
      unfold addL; split
      · exact ins_len w m
      · omega
    rw [List.foldl_cons, List.length_cons]; omega
theorem gos_len (l : List Wt) (k : Nat) : (gos (l.take k)).length ≤ k := by
  have := fold_len (l.take k) []
  unfold gos
  simp at this ⊢; omega
theorem fold_srt : ∀ (l m : List Wt), Srt m → Srt (l.foldl addL m)
  | [], m, h => h
  | w :: l, m, h => by
    rw [List.foldl_cons]
    refine fold_srt l _ ?_
    unfold addL; split
    · exact ins_srt w h
    · exact h
theorem fold_mem (z : Wt) : ∀ (l m : List Wt), z ∈ l.foldl addL m ↔ z ∈ m ∨ (z ∈ l ∧ okW z = true)
  | [], m => by simp
  | w :: l, m => by
    rw [List.foldl_cons, fold_mem z l, addL, List.mem_cons]
    by_cases h : okW w = true
    · rw [if_pos h, ins_mem]
      constructor
      · rintro ((g | g) | g)
        · exact .inr ⟨.inl g, by rw [g]; exact h⟩
        · exact .inl g
        · exact .inr ⟨.inr g.1, g.2⟩
      · rintro (g | ⟨g | g, g'⟩)
        · exact .inl (.inr g)
        · exact .inl (.inl g)
        · exact .inr ⟨g, g'⟩
    · rw [if_neg h]
      constructor
      · rintro (g | g)
        · exact .inl g
        · exact .inr ⟨.inr g.1, g.2⟩
      · rintro (g | ⟨g | g, g'⟩)
        · exact .inl g
        · exact absurd (by rw [← g]; exact g') h
        · exact .inr ⟨g, g'⟩
theorem gos_perm {l m : List Wt} (h : ∀ z, z ∈ l ↔ z ∈ m) : gos l = gos m :=
  srt_ext (fold_srt l [] List.Pairwise.nil) (fold_srt m [] List.Pairwise.nil) fun z => by unfold gos; rw [fold_mem, fold_mem, h]
theorem gos_dst (l : List Wt) {i k : Nat} (hk : k < i) (hi : i < (gos l).length) : ¬ (gos l)[i] = (gos l)[k] := fun e => by
  have h : Srt (gos l) := fold_srt l [] List.Pairwise.nil
  have := List.pairwise_iff_getElem.1 h k i (by omega) hi hk
  rw [e] at this
  exact ahd_irr _ this
/-- The other order. -/
def otw (L n i : Nat) : Nat := if i + n < L then L - 1 - i - n else 2 * L - 1 - i - n
theorem otw_lt {L n i : Nat} (hn : n < L) (hi : i < L) : otw L n i < L := by
  unfold otw; split <;> omega
theorem otw_sur {L n j : Nat} (hn : n < L) (hj : j < L) : ∃ i, i < L ∧ otw L n i = j := by
  by_cases h : j + n < L
  · refine ⟨L - 1 - n - j, by omega, ?_⟩
    rw [otw, if_pos (by omega)]; omega
  · refine ⟨2 * L - 1 - n - j, by omega, ?_⟩
    rw [otw, if_neg (by omega)]; omega
def wz : Wt := ⟨0, 0, []⟩
def otL (l : List Wt) (n : Nat) : List Wt := (List.range l.length).map fun i => l.getD (otw l.length n i) wz
theorem otL_len (l : List Wt) (n : Nat) : (otL l n).length = l.length := by simp [otL]
theorem otL_get (l : List Wt) {n i : Nat} (hn : n < l.length) (hi : i < l.length) (h : i < (otL l n).length) : (otL l n)[i] = l[otw l.length n i]'(otw_lt hn hi) := by
  have := otw_lt hn hi
  simp [otL, List.getD_eq_getElem?_getD, List.getElem?_eq_getElem this]
theorem otL_mem {l : List Wt} {n : Nat} (hn : n < l.length) (z : Wt) : z ∈ l ↔ z ∈ otL l n := by
  constructor
  · intro h
    obtain ⟨j, hj, rfl⟩ := List.getElem_of_mem h
    obtain ⟨i, hi, e⟩ := otw_sur hn hj
    have hi' : i < (otL l n).length := by rw [otL_len]; exact hi
    have := otL_get l hn hi hi'
    simp only [e] at this
    rw [← this]
    exact List.getElem_mem hi'
  · intro h
    obtain ⟨i, hi, rfl⟩ := List.getElem_of_mem h
    have hi' : i < l.length := by rw [otL_len] at hi; exact hi
    rw [otL_get l hn hi' hi]
    exact List.getElem_mem _
end Go.Proofs.Ytkeopdjnidmaeaa
