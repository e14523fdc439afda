/- The laws QuorumGrows and QuorumBlocks. -/
import Derived.Test.YtehopfedgkmalaaQI
namespace Go.Proofs.Ytehopfedgkmalaa
set_option linter.unusedSimpArgs false
set_option linter.unusedVariables false
open Go Go.Av
attribute [local simp] Try.T
attribute [local irreducible] Go.Av.CallK Go.Av.CallE Go.Av.CallQ Go.Av.CallF Go.Av.Con

theorem ints_app (a b : List Int) : ints (a ++ b) = ints a ++ ints b := by simp [ints]
def voter (ms : List Mb) (id : Int) : Prop := (fm id ms).2 = true ∧ (fm id ms).1.r = 1
instance (ms : List Mb) (id : Int) : Decidable (voter ms id) := by unfold voter; infer_instance
def step (ms : List Mb) (acc : List Int) (id : Int) : List Int := if voter ms id ∧ ¬ id ∈ acc then acc ++ [id] else acc
def pur (ms : List Mb) (set : List Int) : List Int := set.foldl (step ms) []
theorem pur_snoc (ms : List Mb) (set : List Int) (k : Nat) (h : k < set.length) : pur ms (set.take (k + 1)) = step ms (pur ms (set.take k)) set[k] := by
  unfold pur; rw [take_snoc _ k h, List.foldl_append]; rfl
theorem fold_len (ms : List Mb) : ∀ (set acc : List Int), (set.foldl (step ms) acc).length ≤ acc.length + set.length
  | [], acc => by simp
  | a :: set, acc => by
    have := fold_len ms set (step ms acc a)
    have h : (step ms acc a).length ≤ acc.length + 1 := by unfold step; split <;> simp
    simp only [List.foldl_cons, List.length_cons]; omega
theorem pur_len (ms : List Mb) (set : List Int) : (pur ms set).length ≤ set.length := by
  have := fold_len ms set []; unfold pur; simpa using this
theorem fold_mem (ms : List Mb) (x : Int) : ∀ (set acc : List Int), x ∈ set.foldl (step ms) acc ↔ x ∈ acc ∨ (x ∈ set ∧ voter ms x)
  | [], acc => by simp
  | a :: set, acc => by
    rw [List.foldl_cons, fold_mem ms x set]
    unfold step
    by_cases h : voter ms a ∧ ¬ a ∈ acc
    · rw [if_pos h]
      constructor
      · rintro (h1 | h1)
        · rcases List.mem_append.1 h1 with h1 | h1
          · exact .inl h1
          · rw [List.mem_singleton] at h1; subst h1; exact .inr ⟨by simp, h.1⟩
        · exact .inr ⟨List.mem_cons_of_mem _ h1.1, h1.2⟩
      · rintro (h1 | ⟨h1, h2⟩)
        · exact .inl (List.mem_append_left _ h1)
        · rcases List.mem_cons.1 h1 with rfl | h1
          · exact .inl (by simp)
          · exact .inr ⟨h1, h2⟩
    · rw [if_neg h]
      constructor
      · rintro (h1 | h1)
        · exact .inl h1
        · exact .inr ⟨List.mem_cons_of_mem _ h1.1, h1.2⟩
      · rintro (h1 | ⟨h1, h2⟩)
        · exact .inl h1
        · rcases List.mem_cons.1 h1 with rfl | h1
          · exact .inl (Classical.byContradiction fun hn => h ⟨h2, hn⟩)
          · exact .inr ⟨h1, h2⟩
theorem pur_mem (ms : List Mb) (x : Int) (set : List Int) : x ∈ pur ms set ↔ x ∈ set ∧ voter ms x := by
  unfold pur; rw [fold_mem]; simp
theorem nil_not (set : List Int) : isQ ⟨0, 0, 0, []⟩ set = false := rfl

set_option maxHeartbeats 8000000 in
theorem quorumGrows_con (c : Cf) (set more : List Int) : ACon Try.prog 6 [.p (.agg c.cells), .p (.sl 1 (ints set)), .p (.sl 1 (ints more))] (.p (B true)) := by
  have hf := far_con c [set, more] (by simp)
  obtain ⟨hb, hb'⟩ := mx_le [set, more] c.ms.length
  have hs := hb' set (by simp)
  have hm' := hb' more (by simp)
  have hz := is_con ⟨0, 0, 0, []⟩ set (by simp)
  rw [nil_not] at hz
  simp only [Cf.cells, mbs, List.map_nil] at hz
  by_cases hfar : 100 < mx c.ms.length [set, more]
  · rw [decide_eq_true hfar] at hf
    obtain ⟨ep, n, kind, l⟩ := c
    simp only [lists, List.map_cons, List.map_nil, Cf.cells] at hf ⊢
    refine wBody Try.tab Try.mixed Try.func6 rfl rfl Try.ntmps6 (by simp) (by simp) fun Q hr hn => ?_
    repeat' first | (refine hK _ ?_; clear hK) | (clear hK; refine hK _ ?_; clear hK) | (clear hK; clear hK; refine hK _ ?_; clear hK) | (clear hK; clear hK; clear hK; refine hK _ ?_; clear hK) | (clear hK; clear hK; clear hK; clear hK; refine hK _ ?_; clear hK) | (refine wSeq fun K hK => ?_) | (refine wReg ?_; simp only [List.map_cons, List.map_nil, strip]) | (refine wDrw (by kernel_rfl) ?_; simp only [List.map_cons, List.map_nil, strip]) | (refine wOs fun K hK => ?_; simp) | (refine wQs fun K hK => ?_; simp) | (refine CallK_plain ?_; simp) | (refine CallQ_plain ?_; simp) | (refine wRet ?_; try simp) | (refine wCond ?_; simp) | (refine wBlock ?_) | (refine wExit ?_; try simp) | (refine wSkip ?_; try simp) | (refine wOn ?_; try simp only [thenA_n]) | (refine wQn ?_; try simp only [thenA_n]) | (refine CallE.pure (hf) rfl ?_) | (refine CallE.lent (hf) rfl ?_) | (refine CallF.pure (hf) rfl ?_) | (refine CallF.lent (hf) rfl ?_) | (refine CallE.own (hf) ?_) | (refine CallE.pure (hz) rfl ?_) | (refine CallE.lent (hz) rfl ?_) | (refine CallF.pure (hz) rfl ?_) | (refine CallF.lent (hz) rfl ?_) | (refine CallE.own (hz) ?_) | (refine CallE.pure (awake05) rfl ?_) | (refine CallE.lent (awake05) rfl ?_) | (refine CallF.pure (awake05) rfl ?_) | (refine CallF.lent (awake05) rfl ?_) | (refine CallE.own (awake05) ?_)
    all_goals apply hr
    all_goals simp [Try.f6]
  rw [decide_eq_false hfar] at hf
  have hm : c.ms.length ≤ 1000000 := by omega
  have hch := check04_con c hm
  by_cases hc : check c = 0
  rotate_left
  · generalize check c = y at hch hc
    obtain ⟨ep, n, kind, l⟩ := c
    simp only [lists, List.map_cons, List.map_nil, Cf.cells] at hf hch ⊢
    refine wBody Try.tab Try.mixed Try.func6 rfl rfl Try.ntmps6 (by simp) (by simp) fun Q hr hn => ?_
    repeat' first | (refine hK _ ?_; clear hK) | (clear hK; refine hK _ ?_; clear hK) | (clear hK; clear hK; refine hK _ ?_; clear hK) | (clear hK; clear hK; clear hK; refine hK _ ?_; clear hK) | (clear hK; clear hK; clear hK; clear hK; refine hK _ ?_; clear hK) | (refine wSeq fun K hK => ?_) | (refine wReg ?_; simp only [List.map_cons, List.map_nil, strip]) | (refine wDrw (by kernel_rfl) ?_; simp only [List.map_cons, List.map_nil, strip]) | (refine wOs fun K hK => ?_; simp [hc]) | (refine wQs fun K hK => ?_; simp [hc]) | (refine CallK_plain ?_; simp [hc]) | (refine CallQ_plain ?_; simp [hc]) | (refine wRet ?_; try simp) | (refine wCond ?_; simp [hc]) | (refine wBlock ?_) | (refine wExit ?_; try simp) | (refine wSkip ?_; try simp) | (refine wOn ?_; try simp only [thenA_n]) | (refine wQn ?_; try simp only [thenA_n]) | (refine CallE.pure (hf) rfl ?_) | (refine CallE.lent (hf) rfl ?_) | (refine CallF.pure (hf) rfl ?_) | (refine CallF.lent (hf) rfl ?_) | (refine CallE.own (hf) ?_) | (refine CallE.pure (hch) rfl ?_) | (refine CallE.lent (hch) rfl ?_) | (refine CallF.pure (hch) rfl ?_) | (refine CallF.lent (hch) rfl ?_) | (refine CallE.own (hch) ?_) | (refine CallE.pure (hz) rfl ?_) | (refine CallE.lent (hz) rfl ?_) | (refine CallF.pure (hz) rfl ?_) | (refine CallF.lent (hz) rfl ?_) | (refine CallE.own (hz) ?_) | (refine CallE.pure (awake05) rfl ?_) | (refine CallE.lent (awake05) rfl ?_) | (refine CallF.pure (awake05) rfl ?_) | (refine CallF.lent (awake05) rfl ?_) | (refine CallE.own (awake05) ?_)
    all_goals apply hr
    all_goals simp [Try.f6]
  have hfine := (check_ok hc).2.1
  have c1 := is_con c set hm
  have c2 := is_con c (set ++ more) hm
  have c3 := is_con c (pur c.ms set) hm
  have c4 := whole_con c hm
  have c5 := is_con c [] hm
  have e2 : isQ c set = true → isQ c (set ++ more) = true := isQ_mono (fun m _ _ h => List.mem_append_left _ h)
  have e3 : isQ c (pur c.ms set) = isQ c set := isQ_congr (fun m hmm hr => by
    rw [pur_mem]
    have := fm_of _ _ hfine m hmm
    exact ⟨fun h => h.1, fun h => ⟨h, by unfold voter; rw [this]; exact ⟨rfl, hr⟩⟩⟩)
  rw [e3] at c3
  rw [whole_true hc] at c4
  rw [nobody] at c5
  rw [hc] at hch
  generalize isQ c set = z at c1 c3 e2
  generalize isQ c (set ++ more) = y at c2 e2
  have hfd := fun id => find04_con c id hm
  clear hfine e3 hb' hc hb
  obtain ⟨ep, n, kind, l⟩ := c
  rw [ints_app] at c2
  simp only [lists, List.map_cons, List.map_nil, Cf.cells, show ints [] = [] from rfl] at hf hch c1 c2 c3 c4 c5 hfd hm ⊢
  refine wBody Try.tab Try.mixed Try.func6 rfl rfl Try.ntmps6 (by simp) (by simp) fun Q hr hn => ?_
  repeat' first | (refine hK _ ?_; clear hK) | (clear hK; refine hK _ ?_; clear hK) | (clear hK; clear hK; refine hK _ ?_; clear hK) | (clear hK; clear hK; clear hK; refine hK _ ?_; clear hK) | (clear hK; clear hK; clear hK; clear hK; refine hK _ ?_; clear hK) | (refine wSeq fun K hK => ?_) | (refine wReg ?_; simp only [List.map_cons, List.map_nil, strip]) | (refine wDrw (by kernel_rfl) ?_; simp only [List.map_cons, List.map_nil, strip]) | (refine wOs fun K hK => ?_; simp) | (refine wQs fun K hK => ?_; simp) | (refine CallK_plain ?_; simp) | (refine CallQ_plain ?_; simp) | (refine wRet ?_; try simp) | (refine wCond ?_; simp) | (refine wBlock ?_) | (refine wExit ?_; try simp) | (refine wSkip ?_; try simp) | (refine wOn ?_; try simp only [thenA_n]) | (refine wQn ?_; try simp only [thenA_n]) | (refine CallE.pure (hf) rfl ?_) | (refine CallE.lent (hf) rfl ?_) | (refine CallF.pure (hf) rfl ?_) | (refine CallF.lent (hf) rfl ?_) | (refine CallE.own (hf) ?_) | (refine CallE.pure (hch) rfl ?_) | (refine CallE.lent (hch) rfl ?_) | (refine CallF.pure (hch) rfl ?_) | (refine CallF.lent (hch) rfl ?_) | (refine CallE.own (hch) ?_)
  refine wLoopG [.row 7 3 1] (fun N st => ∃ k, k + N = set.length ∧ st.s 1 = .p (.sl 1 (ints set)) ∧ st.s 2 = .p (.sl 1 (ints more)) ∧ st.s 3 = .ptr 3 0 ∧ st.b 3 = some (.box 29 [.p (I ep), .p (I n), .p (I kind), .p (.sl 4 (mbs l))]) ∧ st.s 7 = .row 7 ∧ st.s 31 = .p (.sl 1 (ints set)) ∧ st.s 32 = .p (I set.length) ∧ st.s 33 = .p (I k) ∧
    st.b 7 = some (.row 3 1 (ints (pur l (set.take k))))) set.length ⟨0, by simp [pur, ints]⟩ fun K N st hL ⟨k, hk, g1, g2, g3, b3, g7, g31, g32, g33, b7⟩ => ?_
  by_cases hlt : k < set.length
  · have hw := wrapS k _ hlt (by omega)
    have hln : (pur l (set.take k)).length ≤ k := Nat.le_trans (pur_len _ _) (by simp; omega)
    have hx := hfd set[k]
    have hh := hasL_con (pur l (set.take k)) set[k]
    have hst : ∀ v, pur l (set.take (k + 1)) = v ↔ step l (pur l (set.take k)) set[k] = v := fun v => by rw [pur_snoc l set k hlt]
    by_cases v1 : (fm set[k] l).2 = true
    · by_cases v2 : (fm set[k] l).1.r = 1
      · by_cases v3 : set[k] ∈ pur l (set.take k)
        · rw [decide_eq_true v3] at hh
          have hp := (hst _).2 (show step l (pur l (set.take k)) set[k] = pur l (set.take k) by unfold step; rw [if_neg (fun h => h.2 v3)])
          generalize fm set[k] l = q at hx v1 v2
          obtain ⟨⟨qi, qr, qw, qg⟩, qb⟩ := q
          simp only at v1 v2
          subst v1 v2
          simp only [Mb.cells] at hx
          repeat' first | (refine hK _ ?_; clear hK) | (clear hK; refine hK _ ?_; clear hK) | (clear hK; clear hK; refine hK _ ?_; clear hK) | (clear hK; clear hK; clear hK; refine hK _ ?_; clear hK) | (clear hK; clear hK; clear hK; clear hK; refine hK _ ?_; clear hK) | (refine wSeq fun K hK => ?_) | (refine wReg ?_; simp only [List.map_cons, List.map_nil, strip]) | (refine wDrw (by kernel_rfl) ?_; simp only [List.map_cons, List.map_nil, strip]) | (refine wOs fun K hK => ?_; simp [g1, g2, g3, b3, g7, g31, g32, g33, b7, hlt, hw]) | (refine wQs fun K hK => ?_; simp [g1, g2, g3, b3, g7, g31, g32, g33, b7, hlt, hw]) | (refine CallK_plain ?_; simp [g1, g2, g3, b3, g7, g31, g32, g33, b7, hlt, hw]) | (refine CallQ_plain ?_; simp [g1, g2, g3, b3, g7, g31, g32, g33, b7, hlt, hw]) | (refine wRet ?_; try simp) | (refine wCond ?_; simp [g1, g2, g3, b3, g7, g31, g32, g33, b7, hlt, hw]) | (refine wBlock ?_) | (refine wExit ?_; try simp) | (refine wSkip ?_; try simp) | (refine wOn ?_; try simp only [thenA_n]) | (refine wQn ?_; try simp only [thenA_n]) | (refine CallE.pure (hx) rfl ?_) | (refine CallE.lent (hx) rfl ?_) | (refine CallF.pure (hx) rfl ?_) | (refine CallF.lent (hx) rfl ?_) | (refine CallE.own (hx) ?_) | (refine CallE.pure (hh) rfl ?_) | (refine CallE.lent (hh) rfl ?_) | (refine CallF.pure (hh) rfl ?_) | (refine CallF.lent (hh) rfl ?_) | (refine CallE.own (hh) ?_)
          refine hL _ (N - 1) (by omega) ⟨k + 1, by omega, ?_⟩
          simp [g1, g2, g3, b3, g7, g31, g32, hw, b7, hp]
        · rw [decide_eq_false v3] at hh
          have hp := (hst _).2 (show step l (pur l (set.take k)) set[k] = pur l (set.take k) ++ [set[k]] by unfold step; rw [if_pos ⟨⟨v1, v2⟩, v3⟩])
          generalize fm set[k] l = q at hx v1 v2
          obtain ⟨⟨qi, qr, qw, qg⟩, qb⟩ := q
          simp only at v1 v2
          subst v1 v2
          simp only [Mb.cells] at hx
          repeat' first | (refine And.intro (by omega) ?_) | (refine hK _ ?_; clear hK) | (clear hK; refine hK _ ?_; clear hK) | (clear hK; clear hK; refine hK _ ?_; clear hK) | (clear hK; clear hK; clear hK; refine hK _ ?_; clear hK) | (clear hK; clear hK; clear hK; clear hK; refine hK _ ?_; clear hK) | (refine wSeq fun K hK => ?_) | (refine wReg ?_; simp only [List.map_cons, List.map_nil, strip]) | (refine wDrw (by kernel_rfl) ?_; simp only [List.map_cons, List.map_nil, strip]) | (refine wOs fun K hK => ?_; simp [g1, g2, g3, b3, g7, g31, g32, g33, b7, hlt, hw]) | (refine wQs fun K hK => ?_; simp [g1, g2, g3, b3, g7, g31, g32, g33, b7, hlt, hw]) | (refine CallK_plain ?_; simp [g1, g2, g3, b3, g7, g31, g32, g33, b7, hlt, hw]) | (refine CallQ_plain ?_; simp [g1, g2, g3, b3, g7, g31, g32, g33, b7, hlt, hw]) | (refine wRet ?_; try simp) | (refine wCond ?_; simp [g1, g2, g3, b3, g7, g31, g32, g33, b7, hlt, hw]) | (refine wBlock ?_) | (refine wExit ?_; try simp) | (refine wSkip ?_; try simp) | (refine wOn ?_; try simp only [thenA_n]) | (refine wQn ?_; try simp only [thenA_n]) | (refine CallE.pure (hx) rfl ?_) | (refine CallE.lent (hx) rfl ?_) | (refine CallF.pure (hx) rfl ?_) | (refine CallF.lent (hx) rfl ?_) | (refine CallE.own (hx) ?_) | (refine CallE.pure (hh) rfl ?_) | (refine CallE.lent (hh) rfl ?_) | (refine CallF.pure (hh) rfl ?_) | (refine CallF.lent (hh) rfl ?_) | (refine CallE.own (hh) ?_)
          refine hL _ (N - 1) (by omega) ⟨k + 1, by omega, ?_⟩
          simp [g1, g2, g3, b3, g7, g31, g32, hw, b7]
          rw [ints_snoc, hp]
      · have hp := (hst _).2 (show step l (pur l (set.take k)) set[k] = pur l (set.take k) by unfold step; rw [if_neg (fun h => v2 h.1.2)])
        generalize fm set[k] l = q at hx v1 v2
        obtain ⟨⟨qi, qr, qw, qg⟩, qb⟩ := q
        simp only at v1 v2
        subst v1
        simp only [Mb.cells] at hx
        repeat' first | (refine hK _ ?_; clear hK) | (clear hK; refine hK _ ?_; clear hK) | (clear hK; clear hK; refine hK _ ?_; clear hK) | (clear hK; clear hK; clear hK; refine hK _ ?_; clear hK) | (clear hK; clear hK; clear hK; clear hK; refine hK _ ?_; clear hK) | (refine wSeq fun K hK => ?_) | (refine wReg ?_; simp only [List.map_cons, List.map_nil, strip]) | (refine wDrw (by kernel_rfl) ?_; simp only [List.map_cons, List.map_nil, strip]) | (refine wOs fun K hK => ?_; simp [g1, g2, g3, b3, g7, g31, g32, g33, b7, hlt, hw, v2]) | (refine wQs fun K hK => ?_; simp [g1, g2, g3, b3, g7, g31, g32, g33, b7, hlt, hw, v2]) | (refine CallK_plain ?_; simp [g1, g2, g3, b3, g7, g31, g32, g33, b7, hlt, hw, v2]) | (refine CallQ_plain ?_; simp [g1, g2, g3, b3, g7, g31, g32, g33, b7, hlt, hw, v2]) | (refine wRet ?_; try simp) | (refine wCond ?_; simp [g1, g2, g3, b3, g7, g31, g32, g33, b7, hlt, hw, v2]) | (refine wBlock ?_) | (refine wExit ?_; try simp) | (refine wSkip ?_; try simp) | (refine wOn ?_; try simp only [thenA_n]) | (refine wQn ?_; try simp only [thenA_n]) | (refine CallE.pure (hx) rfl ?_) | (refine CallE.lent (hx) rfl ?_) | (refine CallF.pure (hx) rfl ?_) | (refine CallF.lent (hx) rfl ?_) | (refine CallE.own (hx) ?_)
        refine hL _ (N - 1) (by omega) ⟨k + 1, by omega, ?_⟩
        simp [g1, g2, g3, b3, g7, g31, g32, hw, b7, hp]
    · have hp := (hst _).2 (show step l (pur l (set.take k)) set[k] = pur l (set.take k) by unfold step; rw [if_neg (fun h => v1 h.1.1)])
      rw [Bool.not_eq_true] at v1
      generalize fm set[k] l = q at hx v1
      obtain ⟨⟨qi, qr, qw, qg⟩, qb⟩ := q
      simp only at v1
      subst v1
      simp only [Mb.cells] at hx
      repeat' first | (refine hK _ ?_; clear hK) | (clear hK; refine hK _ ?_; clear hK) | (clear hK; clear hK; refine hK _ ?_; clear hK) | (clear hK; clear hK; clear hK; refine hK _ ?_; clear hK) | (clear hK; clear hK; clear hK; clear hK; refine hK _ ?_; clear hK) | (refine wSeq fun K hK => ?_) | (refine wReg ?_; simp only [List.map_cons, List.map_nil, strip]) | (refine wDrw (by kernel_rfl) ?_; simp only [List.map_cons, List.map_nil, strip]) | (refine wOs fun K hK => ?_; simp [g1, g2, g3, b3, g7, g31, g32, g33, b7, hlt, hw]) | (refine wQs fun K hK => ?_; simp [g1, g2, g3, b3, g7, g31, g32, g33, b7, hlt, hw]) | (refine CallK_plain ?_; simp [g1, g2, g3, b3, g7, g31, g32, g33, b7, hlt, hw]) | (refine CallQ_plain ?_; simp [g1, g2, g3, b3, g7, g31, g32, g33, b7, hlt, hw]) | (refine wRet ?_; try simp) | (refine wCond ?_; simp [g1, g2, g3, b3, g7, g31, g32, g33, b7, hlt, hw]) | (refine wBlock ?_) | (refine wExit ?_; try simp) | (refine wSkip ?_; try simp) | (refine wOn ?_; try simp only [thenA_n]) | (refine wQn ?_; try simp only [thenA_n]) | (refine CallE.pure (hx) rfl ?_) | (refine CallE.lent (hx) rfl ?_) | (refine CallF.pure (hx) rfl ?_) | (refine CallF.lent (hx) rfl ?_) | (refine CallE.own (hx) ?_)
      refine hL _ (N - 1) (by omega) ⟨k + 1, by omega, ?_⟩
      simp [g1, g2, g3, b3, g7, g31, g32, hw, b7, hp]
  · rw [List.take_of_length_le (by omega)] at b7
    have hs1 : set.length ≤ 100 := by omega
    have hm1 : more.length ≤ 100 := by omega
    cases z with
    | true =>
      obtain rfl := e2 rfl
      repeat' first | (refine And.intro (by omega) ?_) | (refine Or.inl ?_) | (refine hK _ ?_; clear hK) | (clear hK; refine hK _ ?_; clear hK) | (clear hK; clear hK; refine hK _ ?_; clear hK) | (clear hK; clear hK; clear hK; refine hK _ ?_; clear hK) | (clear hK; clear hK; clear hK; clear hK; refine hK _ ?_; clear hK) | (refine wSeq fun K hK => ?_) | (refine wReg ?_; simp only [List.map_cons, List.map_nil, strip]) | (refine wDrw (by kernel_rfl) ?_; simp only [List.map_cons, List.map_nil, strip]) | (refine wOs fun K hK => ?_; simp [g1, g2, g3, b3, g7, g31, g32, g33, b7, hlt]) | (refine wQs fun K hK => ?_; simp [g1, g2, g3, b3, g7, g31, g32, g33, b7, hlt]) | (refine CallK_plain ?_; simp [g1, g2, g3, b3, g7, g31, g32, g33, b7, hlt]) | (refine CallQ_plain ?_; simp [g1, g2, g3, b3, g7, g31, g32, g33, b7, hlt]) | (refine wRet ?_; try simp) | (refine wCond ?_; simp [g1, g2, g3, b3, g7, g31, g32, g33, b7, hlt]) | (refine wBlock ?_) | (refine wExit ?_; try simp) | (refine wSkip ?_; try simp) | (refine wOn ?_; try simp only [thenA_n]) | (refine wQn ?_; try simp only [thenA_n]) | (refine CallE.pure (c1) rfl ?_) | (refine CallE.lent (c1) rfl ?_) | (refine CallF.pure (c1) rfl ?_) | (refine CallF.lent (c1) rfl ?_) | (refine CallE.own (c1) ?_) | (refine CallE.pure (c2) rfl ?_) | (refine CallE.lent (c2) rfl ?_) | (refine CallF.pure (c2) rfl ?_) | (refine CallF.lent (c2) rfl ?_) | (refine CallE.own (c2) ?_) | (refine CallE.pure (c3) rfl ?_) | (refine CallE.lent (c3) rfl ?_) | (refine CallF.pure (c3) rfl ?_) | (refine CallF.lent (c3) rfl ?_) | (refine CallE.own (c3) ?_) | (refine CallE.pure (c4) rfl ?_) | (refine CallE.lent (c4) rfl ?_) | (refine CallF.pure (c4) rfl ?_) | (refine CallF.lent (c4) rfl ?_) | (refine CallE.own (c4) ?_) | (refine CallE.pure (c5) rfl ?_) | (refine CallE.lent (c5) rfl ?_) | (refine CallF.pure (c5) rfl ?_) | (refine CallF.lent (c5) rfl ?_) | (refine CallE.own (c5) ?_) | (refine CallE.pure (awake05) rfl ?_) | (refine CallE.lent (awake05) rfl ?_) | (refine CallF.pure (awake05) rfl ?_) | (refine CallF.lent (awake05) rfl ?_) | (refine CallE.own (awake05) ?_)
      all_goals apply hr
      all_goals simp [Try.f6]
    | false =>
      repeat' first | (refine And.intro (by omega) ?_) | (refine Or.inl ?_) | (refine hK _ ?_; clear hK) | (clear hK; refine hK _ ?_; clear hK) | (clear hK; clear hK; refine hK _ ?_; clear hK) | (clear hK; clear hK; clear hK; refine hK _ ?_; clear hK) | (clear hK; clear hK; clear hK; clear hK; refine hK _ ?_; clear hK) | (refine wSeq fun K hK => ?_) | (refine wReg ?_; simp only [List.map_cons, List.map_nil, strip]) | (refine wDrw (by kernel_rfl) ?_; simp only [List.map_cons, List.map_nil, strip]) | (refine wOs fun K hK => ?_; simp [g1, g2, g3, b3, g7, g31, g32, g33, b7, hlt]) | (refine wQs fun K hK => ?_; simp [g1, g2, g3, b3, g7, g31, g32, g33, b7, hlt]) | (refine CallK_plain ?_; simp [g1, g2, g3, b3, g7, g31, g32, g33, b7, hlt]) | (refine CallQ_plain ?_; simp [g1, g2, g3, b3, g7, g31, g32, g33, b7, hlt]) | (refine wRet ?_; try simp) | (refine wCond ?_; simp [g1, g2, g3, b3, g7, g31, g32, g33, b7, hlt]) | (refine wBlock ?_) | (refine wExit ?_; try simp) | (refine wSkip ?_; try simp) | (refine wOn ?_; try simp only [thenA_n]) | (refine wQn ?_; try simp only [thenA_n]) | (refine CallE.pure (c1) rfl ?_) | (refine CallE.lent (c1) rfl ?_) | (refine CallF.pure (c1) rfl ?_) | (refine CallF.lent (c1) rfl ?_) | (refine CallE.own (c1) ?_) | (refine CallE.pure (c3) rfl ?_) | (refine CallE.lent (c3) rfl ?_) | (refine CallF.pure (c3) rfl ?_) | (refine CallF.lent (c3) rfl ?_) | (refine CallE.own (c3) ?_) | (refine CallE.pure (c4) rfl ?_) | (refine CallE.lent (c4) rfl ?_) | (refine CallF.pure (c4) rfl ?_) | (refine CallF.lent (c4) rfl ?_) | (refine CallE.own (c4) ?_) | (refine CallE.pure (c5) rfl ?_) | (refine CallE.lent (c5) rfl ?_) | (refine CallF.pure (c5) rfl ?_) | (refine CallF.lent (c5) rfl ?_) | (refine CallE.own (c5) ?_) | (refine CallE.pure (awake05) rfl ?_) | (refine CallE.lent (awake05) rfl ?_) | (refine CallF.pure (awake05) rfl ?_) | (refine CallF.lent (awake05) rfl ?_) | (refine CallE.own (awake05) ?_)
      all_goals apply hr
      all_goals simp [Try.f6]
end Go.Proofs.Ytehopfedgkmalaa
