/- The law QuorumBlocks. -/
import Derived.Test.YtehopfedgkmalaaQJ
namespace Go.Proofs.Ytehopfedgkmalaa
set_option linter.unusedSimpArgs false
set_option linter.unusedVariables false
open Go Go.Av
attribute [local simp] Try.T
attribute [local irreducible] Go.Av.CallK Go.Av.CallE Go.Av.CallQ Go.Av.CallF Go.Av.Con

def restL (set : List Int) (l : List Mb) : List Int := (l.filter fun m => decide (¬ m.i ∈ set)).map Mb.i
theorem restL_snoc (set : List Int) (l : List Mb) (k : Nat) (h : k < l.length) : restL set (l.take (k + 1)) = if l[k].i ∈ set then restL set (l.take k) else restL set (l.take k) ++ [l[k].i] := by
  rw [take_snoc _ k h]; unfold restL
  rw [List.filter_append, List.map_append]
  by_cases g : l[k].i ∈ set
  · rw [if_pos g]; simp [List.filter, g]
  · rw [if_neg g]; simp only [List.filter, g, not_false_eq_true, decide_true, List.map_cons, List.map_nil]
theorem restL_len (set : List Int) (l : List Mb) : (restL set l).length ≤ l.length := by simp [restL, List.length_filter_le]
theorem mem_restL (set : List Int) (l : List Mb) (x : Int) : x ∈ restL set l ↔ (∃ m ∈ l, m.i = x) ∧ ¬ x ∈ set := by
  unfold restL
  rw [List.mem_map]
  constructor
  · rintro ⟨m, h1, rfl⟩
    rw [List.mem_filter] at h1
    exact ⟨⟨m, h1.1, rfl⟩, by simpa using h1.2⟩
  · rintro ⟨⟨m, h1, rfl⟩, h2⟩
    exact ⟨m, List.mem_filter.2 ⟨h1, by simpa using h2⟩, rfl⟩
theorem mem_outof (set l : List Int) (x : Int) : x ∈ outof set l ↔ x ∈ l ∧ ¬ x ∈ set := by
  unfold outof; rw [List.mem_filter]; simp
theorem blocks_of {c : Cf} (hc : check c = 0) (set : List Int) : blocks c set = !isQ c (outof set (ids c.ms 1)) := by
  unfold blocks; rw [decide_eq_true hc, Bool.true_and]
theorem blocks_self {c : Cf} (hc : check c = 0) {set : List Int} (h : isQ c set = true) : blocks c set = true := by
  rw [blocks_of hc]
  cases hq : isQ c (outof set (ids c.ms 1)) with
  | false => rfl
  | true =>
    obtain ⟨m, -, -, h1, h2⟩ := quorums_meet h hq
    exact ((mem_outof _ _ _).1 h2).2 h1 |>.elim
theorem blocks_rest {c : Cf} (hc : check c = 0) (set : List Int) : blocks c set = !isQ c (restL set c.ms) := by
  rw [blocks_of hc, isQ_congr (b := restL set c.ms)]
  intro m hm hr
  rw [mem_outof, mem_restL]
  exact ⟨fun h => ⟨⟨m, hm, rfl⟩, h.2⟩, fun h => ⟨mem_ids _ _ hm hr, h.2⟩⟩
theorem blocks_met {c : Cf} (hc : check c = 0) {set other : List Int} (h : blocks c set = true) (ho : isQ c other = true) : ∃ m ∈ c.ms, m.r = 1 ∧ m.i ∈ other ∧ m.i ∈ set := by
  refine Classical.byContradiction fun hno => ?_
  rw [blocks_of hc] at h
  have := isQ_mono (b := outof set (ids c.ms 1)) (fun m hm hr h1 => (mem_outof _ _ _).2 ⟨mem_ids _ _ hm hr, fun h2 => hno ⟨m, hm, hr, h1, h2⟩⟩) ho
  rw [this] at h; simp at h
def met (ms : List Mb) (set l : List Int) : Bool := l.any fun x => decide (voter ms x) && decide (x ∈ set)
theorem met_snoc (ms : List Mb) (set l : List Int) (k : Nat) (h : k < l.length) : met ms set (l.take (k + 1)) = (met ms set (l.take k) || (decide (voter ms l[k]) && decide (l[k] ∈ set))) := by
  rw [take_snoc _ k h]; unfold met; rw [List.any_append]; simp
theorem nil_not_blocks (set : List Int) : blocks ⟨0, 0, 0, []⟩ set = false := rfl

set_option maxHeartbeats 8000000 in
theorem quorumBlocks_con (c : Cf) (set other : List Int) : ACon Try.prog 7 [.p (.agg c.cells), .p (.sl 1 (ints set)), .p (.sl 1 (ints other))] (.p (B true)) := by
  have hf := far_con c [set, other] (by simp)
  obtain ⟨hb, hb'⟩ := mx_le [set, other] c.ms.length
  have hs := hb' set (by simp)
  have hm' := hb' other (by simp)
  have hz := blocks_con ⟨0, 0, 0, []⟩ set (by simp)
  rw [nil_not_blocks] at hz
  simp only [Cf.cells, mbs, List.map_nil] at hz
  by_cases hfar : 100 < mx c.ms.length [set, other]
  · rw [decide_eq_true hfar] at hf
    obtain ⟨ep, n, kind, l⟩ := c
    simp only [lists, List.map_cons, List.map_nil, Cf.cells] at hf ⊢
    refine wBody Try.tab Try.mixed Try.func7 rfl rfl Try.ntmps7 (by simp) (by simp) fun Q hr hn => ?_
    repeat' first | (refine hK _ ?_; clear hK) | (clear hK; refine hK _ ?_; clear hK) | (clear hK; clear hK; refine hK _ ?_; clear hK) | (clear hK; clear hK; clear hK; refine hK _ ?_; clear hK) | (clear hK; clear hK; clear hK; clear hK; refine hK _ ?_; clear hK) | (refine wSeq fun K hK => ?_) | (refine wReg ?_; simp only [List.map_cons, List.map_nil, strip]) | (refine wDrw (by kernel_rfl) ?_; simp only [List.map_cons, List.map_nil, strip]) | (refine wOs fun K hK => ?_; simp) | (refine wQs fun K hK => ?_; simp) | (refine CallK_plain ?_; simp) | (refine CallQ_plain ?_; simp) | (refine wRet ?_; try simp) | (refine wCond ?_; simp) | (refine wBlock ?_) | (refine wExit ?_; try simp) | (refine wSkip ?_; try simp) | (refine wOn ?_; try simp only [thenA_n]) | (refine wQn ?_; try simp only [thenA_n]) | (refine CallE.pure (hf) rfl ?_) | (refine CallE.lent (hf) rfl ?_) | (refine CallF.pure (hf) rfl ?_) | (refine CallF.lent (hf) rfl ?_) | (refine CallE.own (hf) ?_) | (refine CallE.pure (hz) rfl ?_) | (refine CallE.lent (hz) rfl ?_) | (refine CallF.pure (hz) rfl ?_) | (refine CallF.lent (hz) rfl ?_) | (refine CallE.own (hz) ?_) | (refine CallE.pure (awake05) rfl ?_) | (refine CallE.lent (awake05) rfl ?_) | (refine CallF.pure (awake05) rfl ?_) | (refine CallF.lent (awake05) rfl ?_) | (refine CallE.own (awake05) ?_)
    all_goals apply hr
    all_goals simp [Try.f7]
  rw [decide_eq_false hfar] at hf
  have hm : c.ms.length ≤ 1000000 := by omega
  have hch := check04_con c hm
  by_cases hc : check c = 0
  rotate_left
  · generalize check c = y at hch hc
    obtain ⟨ep, n, kind, l⟩ := c
    simp only [lists, List.map_cons, List.map_nil, Cf.cells] at hf hch ⊢
    refine wBody Try.tab Try.mixed Try.func7 rfl rfl Try.ntmps7 (by simp) (by simp) fun Q hr hn => ?_
    repeat' first | (refine hK _ ?_; clear hK) | (clear hK; refine hK _ ?_; clear hK) | (clear hK; clear hK; refine hK _ ?_; clear hK) | (clear hK; clear hK; clear hK; refine hK _ ?_; clear hK) | (clear hK; clear hK; clear hK; clear hK; refine hK _ ?_; clear hK) | (refine wSeq fun K hK => ?_) | (refine wReg ?_; simp only [List.map_cons, List.map_nil, strip]) | (refine wDrw (by kernel_rfl) ?_; simp only [List.map_cons, List.map_nil, strip]) | (refine wOs fun K hK => ?_; simp [hc]) | (refine wQs fun K hK => ?_; simp [hc]) | (refine CallK_plain ?_; simp [hc]) | (refine CallQ_plain ?_; simp [hc]) | (refine wRet ?_; try simp) | (refine wCond ?_; simp [hc]) | (refine wBlock ?_) | (refine wExit ?_; try simp) | (refine wSkip ?_; try simp) | (refine wOn ?_; try simp only [thenA_n]) | (refine wQn ?_; try simp only [thenA_n]) | (refine CallE.pure (hf) rfl ?_) | (refine CallE.lent (hf) rfl ?_) | (refine CallF.pure (hf) rfl ?_) | (refine CallF.lent (hf) rfl ?_) | (refine CallE.own (hf) ?_) | (refine CallE.pure (hch) rfl ?_) | (refine CallE.lent (hch) rfl ?_) | (refine CallF.pure (hch) rfl ?_) | (refine CallF.lent (hch) rfl ?_) | (refine CallE.own (hch) ?_) | (refine CallE.pure (hz) rfl ?_) | (refine CallE.lent (hz) rfl ?_) | (refine CallF.pure (hz) rfl ?_) | (refine CallF.lent (hz) rfl ?_) | (refine CallE.own (hz) ?_) | (refine CallE.pure (awake05) rfl ?_) | (refine CallE.lent (awake05) rfl ?_) | (refine CallF.pure (awake05) rfl ?_) | (refine CallF.lent (awake05) rfl ?_) | (refine CallE.own (awake05) ?_)
    all_goals apply hr
    all_goals simp [Try.f7]
  have hfine := (check_ok hc).2.1
  rw [hc] at hch
  have c1 := is_con c set hm
  have c2 := blocks_con c set hm
  have c3 := is_con c other hm
  have c4 := is_con c (restL set c.ms) hm
  have e1 := @blocks_self c hc set
  have e2 := blocks_rest hc set
  have e3 : blocks c set = true → isQ c other = true → met c.ms set other = true := fun h1 h2 => by
    obtain ⟨m, h3, h4, h5, h6⟩ := blocks_met hc h1 h2
    unfold met
    rw [List.any_eq_true]
    refine ⟨m.i, h5, ?_⟩
    rw [Bool.and_eq_true, decide_eq_true_eq, decide_eq_true_eq]
    exact ⟨by unfold voter; rw [fm_of _ _ hfine m h3]; exact ⟨rfl, h4⟩, h6⟩
  have hfd := fun id => find04_con c id hm
  generalize isQ c set = z at c1 e1
  generalize isQ c other = y at c3 e3
  generalize isQ c (restL set c.ms) = x at c4 e2
  generalize blocks c set = b at c2 e1 e2 e3
  clear hfine hc hb' hb
  have hs1 : set.length ≤ 100 := by omega
  have hm1 : other.length ≤ 100 := by omega
  obtain ⟨ep, n, kind, l⟩ := c
  simp only [lists, List.map_cons, List.map_nil, Cf.cells] at hf hch c1 c2 c3 c4 hfd hm e3 ⊢
  by_cases hby : b = true ∧ y = true
  · obtain ⟨rfl, rfl⟩ := hby
    have e3' := e3 rfl rfl
    cases z
    all_goals
      refine wBody Try.tab Try.mixed Try.func7 rfl rfl Try.ntmps7 (by simp) (by simp) fun Q hr hn => ?_
      repeat' first | (refine hK _ ?_; clear hK) | (clear hK; refine hK _ ?_; clear hK) | (clear hK; clear hK; refine hK _ ?_; clear hK) | (clear hK; clear hK; clear hK; refine hK _ ?_; clear hK) | (clear hK; clear hK; clear hK; clear hK; refine hK _ ?_; clear hK) | (refine wSeq fun K hK => ?_) | (refine wReg ?_; simp only [List.map_cons, List.map_nil, strip]) | (refine wDrw (by kernel_rfl) ?_; simp only [List.map_cons, List.map_nil, strip]) | (refine wOs fun K hK => ?_; simp) | (refine wQs fun K hK => ?_; simp) | (refine CallK_plain ?_; simp) | (refine CallQ_plain ?_; simp) | (refine wRet ?_; try simp) | (refine wCond ?_; simp) | (refine wBlock ?_) | (refine wExit ?_; try simp) | (refine wSkip ?_; try simp) | (refine wOn ?_; try simp only [thenA_n]) | (refine wQn ?_; try simp only [thenA_n]) | (refine CallE.pure (hf) rfl ?_) | (refine CallE.lent (hf) rfl ?_) | (refine CallF.pure (hf) rfl ?_) | (refine CallF.lent (hf) rfl ?_) | (refine CallE.own (hf) ?_) | (refine CallE.pure (hch) rfl ?_) | (refine CallE.lent (hch) rfl ?_) | (refine CallF.pure (hch) rfl ?_) | (refine CallF.lent (hch) rfl ?_) | (refine CallE.own (hch) ?_) | (refine CallE.pure (c1) rfl ?_) | (refine CallE.lent (c1) rfl ?_) | (refine CallF.pure (c1) rfl ?_) | (refine CallF.lent (c1) rfl ?_) | (refine CallE.own (c1) ?_) | (refine CallE.pure (c2) rfl ?_) | (refine CallE.lent (c2) rfl ?_) | (refine CallF.pure (c2) rfl ?_) | (refine CallF.lent (c2) rfl ?_) | (refine CallE.own (c2) ?_) | (refine CallE.pure (c3) rfl ?_) | (refine CallE.lent (c3) rfl ?_) | (refine CallF.pure (c3) rfl ?_) | (refine CallF.lent (c3) rfl ?_) | (refine CallE.own (c3) ?_)
      refine wLoop (fun N st => ∃ k, k + N = other.length ∧ st.s 1 = .p (.sl 1 (ints set)) ∧ st.s 3 = .ptr 3 0 ∧ st.b 3 = some (.box 29 [.p (I ep), .p (I n), .p (I kind), .p (.sl 4 (mbs l))]) ∧ st.s 49 = .p (.sl 1 (ints other)) ∧ st.s 50 = .p (I other.length) ∧ st.s 51 = .p (I k) ∧ st.s 7 = .p (B (met l set (other.take k)))) other.length ⟨0, by simp [met]⟩ fun K N st hL ⟨k, hk, g1, g3, b3, g49, g50, g51, g7⟩ => ?_
      by_cases hlt : k < other.length
      · have hw := wrapS k _ hlt (by omega)
        have hms := met_snoc l set other k hlt
        have hx := hfd other[k]
        have hh := hasL_con set other[k]
        generalize met l set (other.take k) = w at g7 hms
        by_cases v1 : (fm other[k] l).2 = true
        · by_cases v2 : (fm other[k] l).1.r = 1
          · rw [decide_eq_true (show voter l other[k] from ⟨v1, v2⟩), Bool.true_and] at hms
            generalize decide (other[k] ∈ set) = v at hh hms
            generalize fm other[k] l = q at hx v1 v2
            obtain ⟨⟨qi, qr, qw, qg⟩, qb⟩ := q
            simp only at v1 v2
            subst v1 v2
            simp only [Mb.cells] at hx
            cases w
            all_goals
              repeat' first | (refine hK _ ?_; clear hK) | (clear hK; refine hK _ ?_; clear hK) | (clear hK; clear hK; refine hK _ ?_; clear hK) | (clear hK; clear hK; clear hK; refine hK _ ?_; clear hK) | (clear hK; clear hK; clear hK; clear hK; refine hK _ ?_; clear hK) | (refine wSeq fun K hK => ?_) | (refine wReg ?_; simp only [List.map_cons, List.map_nil, strip]) | (refine wDrw (by kernel_rfl) ?_; simp only [List.map_cons, List.map_nil, strip]) | (refine wOs fun K hK => ?_; simp [g1, g3, b3, g49, g50, g51, g7, hlt, hw]) | (refine wQs fun K hK => ?_; simp [g1, g3, b3, g49, g50, g51, g7, hlt, hw]) | (refine CallK_plain ?_; simp [g1, g3, b3, g49, g50, g51, g7, hlt, hw]) | (refine CallQ_plain ?_; simp [g1, g3, b3, g49, g50, g51, g7, hlt, hw]) | (refine wRet ?_; try simp) | (refine wCond ?_; simp [g1, g3, b3, g49, g50, g51, g7, hlt, hw]) | (refine wBlock ?_) | (refine wExit ?_; try simp) | (refine wSkip ?_; try simp) | (refine wOn ?_; try simp only [thenA_n]) | (refine wQn ?_; try simp only [thenA_n]) | (refine CallE.pure (hx) rfl ?_) | (refine CallE.lent (hx) rfl ?_) | (refine CallF.pure (hx) rfl ?_) | (refine CallF.lent (hx) rfl ?_) | (refine CallE.own (hx) ?_) | (refine CallE.pure (hh) rfl ?_) | (refine CallE.lent (hh) rfl ?_) | (refine CallF.pure (hh) rfl ?_) | (refine CallF.lent (hh) rfl ?_) | (refine CallE.own (hh) ?_)
              refine hL _ (N - 1) (by omega) ⟨k + 1, by omega, ?_⟩
              simp [g1, g3, b3, g49, g50, hw, hms]
          · rw [decide_eq_false (show ¬ voter l other[k] from fun h => v2 h.2), Bool.false_and, Bool.or_false] at hms
            generalize fm other[k] l = q at hx v1 v2
            obtain ⟨⟨qi, qr, qw, qg⟩, qb⟩ := q
            simp only at v1 v2
            subst v1
            simp only [Mb.cells] at hx
            cases w
            all_goals
              repeat' first | (refine hK _ ?_; clear hK) | (clear hK; refine hK _ ?_; clear hK) | (clear hK; clear hK; refine hK _ ?_; clear hK) | (clear hK; clear hK; clear hK; refine hK _ ?_; clear hK) | (clear hK; clear hK; clear hK; clear hK; refine hK _ ?_; clear hK) | (refine wSeq fun K hK => ?_) | (refine wReg ?_; simp only [List.map_cons, List.map_nil, strip]) | (refine wDrw (by kernel_rfl) ?_; simp only [List.map_cons, List.map_nil, strip]) | (refine wOs fun K hK => ?_; simp [g1, g3, b3, g49, g50, g51, g7, hlt, hw, v2]) | (refine wQs fun K hK => ?_; simp [g1, g3, b3, g49, g50, g51, g7, hlt, hw, v2]) | (refine CallK_plain ?_; simp [g1, g3, b3, g49, g50, g51, g7, hlt, hw, v2]) | (refine CallQ_plain ?_; simp [g1, g3, b3, g49, g50, g51, g7, hlt, hw, v2]) | (refine wRet ?_; try simp) | (refine wCond ?_; simp [g1, g3, b3, g49, g50, g51, g7, hlt, hw, v2]) | (refine wBlock ?_) | (refine wExit ?_; try simp) | (refine wSkip ?_; try simp) | (refine wOn ?_; try simp only [thenA_n]) | (refine wQn ?_; try simp only [thenA_n]) | (refine CallE.pure (hx) rfl ?_) | (refine CallE.lent (hx) rfl ?_) | (refine CallF.pure (hx) rfl ?_) | (refine CallF.lent (hx) rfl ?_) | (refine CallE.own (hx) ?_)
              refine hL _ (N - 1) (by omega) ⟨k + 1, by omega, ?_⟩
              simp [g1, g3, b3, g49, g50, hw, hms]
        · rw [decide_eq_false (show ¬ voter l other[k] from fun h => v1 h.1), Bool.false_and, Bool.or_false] at hms
          rw [Bool.not_eq_true] at v1
          generalize fm other[k] l = q at hx v1
          obtain ⟨⟨qi, qr, qw, qg⟩, qb⟩ := q
          simp only at v1
          subst v1
          simp only [Mb.cells] at hx
          cases w
          all_goals
            repeat' first | (refine hK _ ?_; clear hK) | (clear hK; refine hK _ ?_; clear hK) | (clear hK; clear hK; refine hK _ ?_; clear hK) | (clear hK; clear hK; clear hK; refine hK _ ?_; clear hK) | (clear hK; clear hK; clear hK; clear hK; refine hK _ ?_; clear hK) | (refine wSeq fun K hK => ?_) | (refine wReg ?_; simp only [List.map_cons, List.map_nil, strip]) | (refine wDrw (by kernel_rfl) ?_; simp only [List.map_cons, List.map_nil, strip]) | (refine wOs fun K hK => ?_; simp [g1, g3, b3, g49, g50, g51, g7, hlt, hw]) | (refine wQs fun K hK => ?_; simp [g1, g3, b3, g49, g50, g51, g7, hlt, hw]) | (refine CallK_plain ?_; simp [g1, g3, b3, g49, g50, g51, g7, hlt, hw]) | (refine CallQ_plain ?_; simp [g1, g3, b3, g49, g50, g51, g7, hlt, hw]) | (refine wRet ?_; try simp) | (refine wCond ?_; simp [g1, g3, b3, g49, g50, g51, g7, hlt, hw]) | (refine wBlock ?_) | (refine wExit ?_; try simp) | (refine wSkip ?_; try simp) | (refine wOn ?_; try simp only [thenA_n]) | (refine wQn ?_; try simp only [thenA_n]) | (refine CallE.pure (hx) rfl ?_) | (refine CallE.lent (hx) rfl ?_) | (refine CallF.pure (hx) rfl ?_) | (refine CallF.lent (hx) rfl ?_) | (refine CallE.own (hx) ?_)
            refine hL _ (N - 1) (by omega) ⟨k + 1, by omega, ?_⟩
            simp [g1, g3, b3, g49, g50, hw, hms]
      · rw [List.take_of_length_le (by omega), e3'] at g7
        repeat' first | (refine hK _ ?_; clear hK) | (clear hK; refine hK _ ?_; clear hK) | (clear hK; clear hK; refine hK _ ?_; clear hK) | (clear hK; clear hK; clear hK; refine hK _ ?_; clear hK) | (clear hK; clear hK; clear hK; clear hK; refine hK _ ?_; clear hK) | (refine wSeq fun K hK => ?_) | (refine wReg ?_; simp only [List.map_cons, List.map_nil, strip]) | (refine wDrw (by kernel_rfl) ?_; simp only [List.map_cons, List.map_nil, strip]) | (refine wOs fun K hK => ?_; simp [g1, g3, b3, g49, g50, g51, g7, hlt]) | (refine wQs fun K hK => ?_; simp [g1, g3, b3, g49, g50, g51, g7, hlt]) | (refine CallK_plain ?_; simp [g1, g3, b3, g49, g50, g51, g7, hlt]) | (refine CallQ_plain ?_; simp [g1, g3, b3, g49, g50, g51, g7, hlt]) | (refine wRet ?_; try simp) | (refine wCond ?_; simp [g1, g3, b3, g49, g50, g51, g7, hlt]) | (refine wBlock ?_) | (refine wExit ?_; try simp) | (refine wSkip ?_; try simp) | (refine wOn ?_; try simp only [thenA_n]) | (refine wQn ?_; try simp only [thenA_n]) | (refine CallE.pure (awake05) rfl ?_) | (refine CallE.lent (awake05) rfl ?_) | (refine CallF.pure (awake05) rfl ?_) | (refine CallF.lent (awake05) rfl ?_) | (refine CallE.own (awake05) ?_)
        all_goals apply hr
        all_goals simp [Try.f7]
  · have hcase : (z = true ∧ b = true ∧ y = false) ∨ (z = false ∧ b = true ∧ y = false) ∨ (z = false ∧ b = false) := by
      cases z <;> cases b <;> cases y <;> simp_all
    have hxb : x = !b := by rw [e2]; simp
    clear e1 e2 e3 hfd
    subst hxb
    have step : ∀ (Z : Prop), Z → Z := fun _ h => h
    rcases hcase with ⟨rfl, rfl, rfl⟩ | ⟨rfl, rfl, rfl⟩ | ⟨rfl, rfl⟩
    all_goals
      refine wBody Try.tab Try.mixed Try.func7 rfl rfl Try.ntmps7 (by simp) (by simp) fun Q hr hn => ?_
      repeat' first | (refine hK _ ?_; clear hK) | (clear hK; refine hK _ ?_; clear hK) | (clear hK; clear hK; refine hK _ ?_; clear hK) | (clear hK; clear hK; clear hK; refine hK _ ?_; clear hK) | (clear hK; clear hK; clear hK; clear hK; refine hK _ ?_; clear hK) | (refine wSeq fun K hK => ?_) | (refine wReg ?_; simp only [List.map_cons, List.map_nil, strip]) | (refine wDrw (by kernel_rfl) ?_; simp only [List.map_cons, List.map_nil, strip]) | (refine wOs fun K hK => ?_; simp) | (refine wQs fun K hK => ?_; simp) | (refine CallK_plain ?_; simp) | (refine CallQ_plain ?_; simp) | (refine wRet ?_; try simp) | (refine wCond ?_; simp) | (refine wBlock ?_) | (refine wExit ?_; try simp) | (refine wSkip ?_; try simp) | (refine wOn ?_; try simp only [thenA_n]) | (refine wQn ?_; try simp only [thenA_n]) | (refine CallE.pure (hf) rfl ?_) | (refine CallE.lent (hf) rfl ?_) | (refine CallF.pure (hf) rfl ?_) | (refine CallF.lent (hf) rfl ?_) | (refine CallE.own (hf) ?_) | (refine CallE.pure (hch) rfl ?_) | (refine CallE.lent (hch) rfl ?_) | (refine CallF.pure (hch) rfl ?_) | (refine CallF.lent (hch) rfl ?_) | (refine CallE.own (hch) ?_) | (refine CallE.pure (c1) rfl ?_) | (refine CallE.lent (c1) rfl ?_) | (refine CallF.pure (c1) rfl ?_) | (refine CallF.lent (c1) rfl ?_) | (refine CallE.own (c1) ?_) | (refine CallE.pure (c2) rfl ?_) | (refine CallE.lent (c2) rfl ?_) | (refine CallF.pure (c2) rfl ?_) | (refine CallF.lent (c2) rfl ?_) | (refine CallE.own (c2) ?_) | (refine CallE.pure (c3) rfl ?_) | (refine CallE.lent (c3) rfl ?_) | (refine CallF.pure (c3) rfl ?_) | (refine CallF.lent (c3) rfl ?_) | (refine CallE.own (c3) ?_)
      refine wLoopG [.row 12 3 1] (fun N st => ∃ k, k + N = l.length ∧ st.s 1 = .p (.sl 1 (ints set)) ∧ st.s 3 = .ptr 3 0 ∧ st.b 3 = some (.box 29 [.p (I ep), .p (I n), .p (I kind), .p (.sl 4 (mbs l))]) ∧ st.s 12 = .row 12 ∧ st.s 81 = .p (.sl 4 (mbs l)) ∧ st.s 82 = .p (I l.length) ∧ st.s 83 = .p (I k) ∧
        st.b 12 = some (.row 3 1 (ints (restL set (l.take k))))) l.length ⟨0, by simp [restL, ints]⟩ fun K N st hL ⟨k, hk, g1, g3, b3, g12, g81, g82, g83, b12⟩ => ?_
      by_cases hlt : k < l.length
      · have hw := wrapS k _ hlt (by omega)
        have hln : (restL set (l.take k)).length ≤ k := Nat.le_trans (restL_len _ _) (by simp; omega)
        have hh := hasL_con set l[k].i
        by_cases o : l[k].i ∈ set
        · rw [decide_eq_true o] at hh
          repeat' first | (refine hK _ ?_; clear hK) | (clear hK; refine hK _ ?_; clear hK) | (clear hK; clear hK; refine hK _ ?_; clear hK) | (clear hK; clear hK; clear hK; refine hK _ ?_; clear hK) | (clear hK; clear hK; clear hK; clear hK; refine hK _ ?_; clear hK) | (refine wSeq fun K hK => ?_) | (refine wReg ?_; simp only [List.map_cons, List.map_nil, strip]) | (refine wDrw (by kernel_rfl) ?_; simp only [List.map_cons, List.map_nil, strip]) | (refine wOs fun K hK => ?_; simp [g1, g3, b3, g12, g81, g82, g83, b12, hlt, hw]) | (refine wQs fun K hK => ?_; simp [g1, g3, b3, g12, g81, g82, g83, b12, hlt, hw]) | (refine CallK_plain ?_; simp [g1, g3, b3, g12, g81, g82, g83, b12, hlt, hw]) | (refine CallQ_plain ?_; simp [g1, g3, b3, g12, g81, g82, g83, b12, hlt, hw]) | (refine wRet ?_; try simp) | (refine wCond ?_; simp [g1, g3, b3, g12, g81, g82, g83, b12, hlt, hw]) | (refine wBlock ?_) | (refine wExit ?_; try simp) | (refine wSkip ?_; try simp) | (refine wOn ?_; try simp only [thenA_n]) | (refine wQn ?_; try simp only [thenA_n]) | (refine CallE.pure (hh) rfl ?_) | (refine CallE.lent (hh) rfl ?_) | (refine CallF.pure (hh) rfl ?_) | (refine CallF.lent (hh) rfl ?_) | (refine CallE.own (hh) ?_)
          refine hL _ (N - 1) (by omega) ⟨k + 1, by omega, ?_⟩
          simp [g1, g3, b3, g12, g81, g82, hw, b12]
          rw [restL_snoc set l k hlt, if_pos o]
        · rw [decide_eq_false o] at hh
          repeat' first | (refine And.intro (by omega) ?_) | (refine hK _ ?_; clear hK) | (clear hK; refine hK _ ?_; clear hK) | (clear hK; clear hK; refine hK _ ?_; clear hK) | (clear hK; clear hK; clear hK; refine hK _ ?_; clear hK) | (clear hK; clear hK; clear hK; clear hK; refine hK _ ?_; clear hK) | (refine wSeq fun K hK => ?_) | (refine wReg ?_; simp only [List.map_cons, List.map_nil, strip]) | (refine wDrw (by kernel_rfl) ?_; simp only [List.map_cons, List.map_nil, strip]) | (refine wOs fun K hK => ?_; simp [g1, g3, b3, g12, g81, g82, g83, b12, hlt, hw]) | (refine wQs fun K hK => ?_; simp [g1, g3, b3, g12, g81, g82, g83, b12, hlt, hw]) | (refine CallK_plain ?_; simp [g1, g3, b3, g12, g81, g82, g83, b12, hlt, hw]) | (refine CallQ_plain ?_; simp [g1, g3, b3, g12, g81, g82, g83, b12, hlt, hw]) | (refine wRet ?_; try simp) | (refine wCond ?_; simp [g1, g3, b3, g12, g81, g82, g83, b12, hlt, hw]) | (refine wBlock ?_) | (refine wExit ?_; try simp) | (refine wSkip ?_; try simp) | (refine wOn ?_; try simp only [thenA_n]) | (refine wQn ?_; try simp only [thenA_n]) | (refine CallE.pure (hh) rfl ?_) | (refine CallE.lent (hh) rfl ?_) | (refine CallF.pure (hh) rfl ?_) | (refine CallF.lent (hh) rfl ?_) | (refine CallE.own (hh) ?_)
          refine hL _ (N - 1) (by omega) ⟨k + 1, by omega, ?_⟩
          simp [g1, g3, b3, g12, g81, g82, hw, b12]
          rw [ints_snoc, restL_snoc set l k hlt, if_neg o]
      · rw [List.take_of_length_le (by omega)] at b12
        repeat' first | (refine hK _ ?_; clear hK) | (clear hK; refine hK _ ?_; clear hK) | (clear hK; clear hK; refine hK _ ?_; clear hK) | (clear hK; clear hK; clear hK; refine hK _ ?_; clear hK) | (clear hK; clear hK; clear hK; clear hK; refine hK _ ?_; clear hK) | (refine wSeq fun K hK => ?_) | (refine wReg ?_; simp only [List.map_cons, List.map_nil, strip]) | (refine wDrw (by kernel_rfl) ?_; simp only [List.map_cons, List.map_nil, strip]) | (refine wOs fun K hK => ?_; simp [g1, g3, b3, g12, g81, g82, g83, b12, hlt]) | (refine wQs fun K hK => ?_; simp [g1, g3, b3, g12, g81, g82, g83, b12, hlt]) | (refine CallK_plain ?_; simp [g1, g3, b3, g12, g81, g82, g83, b12, hlt]) | (refine CallQ_plain ?_; simp [g1, g3, b3, g12, g81, g82, g83, b12, hlt]) | (refine wRet ?_; try simp) | (refine wCond ?_; simp [g1, g3, b3, g12, g81, g82, g83, b12, hlt]) | (refine wBlock ?_) | (refine wExit ?_; try simp) | (refine wSkip ?_; try simp) | (refine wOn ?_; try simp only [thenA_n]) | (refine wQn ?_; try simp only [thenA_n]) | (refine CallE.pure (c2) rfl ?_) | (refine CallE.lent (c2) rfl ?_) | (refine CallF.pure (c2) rfl ?_) | (refine CallF.lent (c2) rfl ?_) | (refine CallE.own (c2) ?_) | (refine CallE.pure (c4) rfl ?_) | (refine CallE.lent (c4) rfl ?_) | (refine CallF.pure (c4) rfl ?_) | (refine CallF.lent (c4) rfl ?_) | (refine CallE.own (c4) ?_) | (refine CallE.pure (awake05) rfl ?_) | (refine CallE.lent (awake05) rfl ?_) | (refine CallF.pure (awake05) rfl ?_) | (refine CallF.lent (awake05) rfl ?_) | (refine CallE.own (awake05) ?_)
        all_goals apply hr
        all_goals simp [Try.f7]
end Go.Proofs.Ytehopfedgkmalaa
