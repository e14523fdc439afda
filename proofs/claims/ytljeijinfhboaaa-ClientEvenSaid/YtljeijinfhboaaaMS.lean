/- The law ClientStays. -/
import Derived.Test.YtljeijinfhboaaaMV
namespace Go.Proofs.Ytljeijinfhboaaa
set_option linter.unusedSimpArgs false
set_option linter.unusedVariables false
open Go Go.Av
attribute [local simp] Try.T1 Try.T2 Try.T3 Try.T4 Try.T5 Try.T9 Try.T12 Try.T21 Try.T23 Try.T24 Try.T26 Try.T27 Try.T29 Try.T30 Try.T31 Try.T32 Try.T33 Try.T34 Try.T35 Try.T36 Try.T38 Try.T39 Try.T41 Try.T43 Try.T44 Try.T45 Try.T46 Try.T47 Try.T48 Try.T49 Try.T50 Try.T51 Try.T52 Try.T53 Try.T54 Try.T55 Try.T56 Try.T57 Try.T58 Try.T59 Try.T60 Try.T61 Try.T62 Try.T63 Try.T64 Try.T66 Try.T67 Try.T68 Try.T69 Try.T70 Try.T71 Try.T72 Try.T73 Try.T75 Try.T77 Try.T78 Try.T79 Try.T81 Try.T83 Try.T84 Try.T86 Try.T88 Try.T89 Try.T91 Try.T93 Try.T94 Try.T95 Try.T96 Try.T97 Try.T98 Try.T99 Try.T100 Try.T102 Try.T104 Try.T105 Try.T106 Try.T107 Try.T108 Try.T109 Try.T110 Try.T111 Try.T112 Try.T113 Try.T115 Try.T116 Try.T117 Try.T118 Try.T119 Try.T120 Try.T121 Try.T122 Try.T123 Try.T124 Try.T126 Try.T127 Try.T128 Try.T134 Try.T135 Try.T138
attribute [local irreducible] Go.Av.CallK Go.Av.CallE Go.Av.CallQ Go.Av.CallF Go.Av.CallR Go.Av.CallH Go.Av.Con

def uqs (l : List Int) : List Int := l.foldl (fun u s => if s ∈ u then u else u ++ [s]) []
theorem uqs_snoc (l : List Int) (k : Nat) (h : k < l.length) : uqs (l.take (k + 1)) = if l[k] ∈ uqs (l.take k) then uqs (l.take k) else uqs (l.take k) ++ [l[k]] := by
  rw [take_snoc _ k h]; simp only [uqs, List.foldl_append, List.foldl_cons, List.foldl_nil]
  split <;> rename_i hh <;> simp only [hh, if_true, if_false]
theorem uqs_len (l : List Int) : ∀ k, (uqs (l.take k)).length ≤ k
  | 0 => by simp [uqs]
  | k + 1 => by
    by_cases h : k < l.length
    · have := uqs_len l k
      rw [uqs_snoc l k h]
      split <;> simp <;> omega
    · have := uqs_len l k
      rw [List.take_of_length_le (by omega)]
      rw [List.take_of_length_le (by omega)] at this
      omega
theorem newof_app (g u : List Int) (s : Int) : newof g (u ++ [s]) = if s ∈ g then newof g u else newof g u ++ [s] := by
  unfold newof
  rw [List.filter_append]
  by_cases h : s ∈ g
  · rw [if_pos h]; simp [List.filter, h]
  · rw [if_neg h]; simp only [List.filter, h, not_false_eq_true, decide_true]
theorem mem_newof {g u : List Int} {s : Int} : s ∈ newof g u ↔ s ∈ u ∧ ¬ s ∈ g := by simp [newof]
theorem newof_none {u n : List Int} (h : ∀ s ∈ n, s ∈ u) : newof u n = [] := by
  unfold newof; rw [List.filter_eq_nil_iff]; intro s hs; simp [h s hs]
theorem mv_facts (u g : List Int) (s d : Int) (hs : s ∈ u) (hl : (newof g u).length ≤ 1000000) :
    (s ∈ newof g u → mv u (newof g u) s d = s) ∧ ((newof g u).length ≠ 0 → mv u (newof g u) s d ∈ newof g u) ∧ ((newof g u).length = 0 → mv u (newof g u) s d = -1) ∧
      (¬ s ∈ newof g u → ∀ (i : Nat) (h : i < (newof g u).length), mv u (newof g u) s i = (newof g u)[i]) := by
  have hsub : ∀ x ∈ newof g u, x ∈ u := fun x hx => (mem_newof.1 hx).1
  have hn : newof u (newof g u) = [] := newof_none hsub
  generalize newof g u = n at *
  have hin : s ∈ n → mv u n s d = s := fun h => by
    have hz : ¬ n.length = 0 := by intro h0; rw [List.length_eq_zero_iff.1 h0] at h; simp at h
    obtain ⟨hk, -, -⟩ := mvk_spec d n.length (by omega) hl
    unfold mv
    rw [if_neg hz, if_pos ⟨h, hs⟩, hn, List.length_nil, Nat.sub_zero, if_pos hk]
  have hout : ¬ s ∈ n → ∀ (hz : n.length ≠ 0) (d : Int), mv u n s d = n.getD (mvk d n.length) 0 := fun h hz d => by
    unfold mv
    rw [if_neg hz, if_neg (fun h' => h h'.1)]
  refine ⟨hin, fun hz => ?_, fun hz => by unfold mv; rw [if_pos hz], fun h i hi => ?_⟩
  · by_cases h : s ∈ n
    · rw [hin h]; exact h
    · rw [hout h hz]
      obtain ⟨hk, -, -⟩ := mvk_spec d n.length (by omega) hl
      rw [List.getD_eq_getElem?_getD, List.getElem?_eq_getElem hk]
      exact List.getElem_mem hk
  · rw [hout h (by omega), mvk_small i n.length hi hl]
    simp [List.getD_eq_getElem?_getD, hi]
theorem mem_take_succ (l : List Int) (k : Nat) (h : k < l.length) (x : Int) : (x ∈ l.take (k + 1)) ↔ (x ∈ l.take k ∨ l[k] = x) := by
  rw [take_snoc _ k h, List.mem_append, List.mem_singleton, eq_comm (a := x)]
theorem dec_take_succ (l : List Int) (k : Nat) (h : k < l.length) (x : Int) : decide (x ∈ l.take (k + 1)) = (decide (x ∈ l.take k) || decide (l[k] = x)) := by
  simp only [mem_take_succ l k h x, Bool.decide_or]

set_option maxHeartbeats 8000000 in
theorem clientStays_con (old gone : List Int) (d : Int) : ACon Try.prog 8 [.p (.sl 1 (ints old)), .p (.sl 1 (ints gone)), .p (I d)] (.p (B true)) := by
  by_cases h1 : 50 < old.length
  · have h1' : (50 : Int) < old.length := by omega
    refine wBody Try.tab Try.mixed Try.func8 rfl rfl Try.ntmps8 (by simp) (by simp) fun Q hr hn => ?_
    repeat' first | (refine hK _ ?_; clear hK) | (refine hK _ _ ?_; clear hK) | (clear hK; refine hK _ ?_; clear hK) | (clear hK; clear hK; refine hK _ ?_; clear hK) | (clear hK; clear hK; clear hK; refine hK _ ?_; clear hK) | (clear hK; clear hK; clear hK; clear hK; refine hK _ ?_; clear hK) | (refine wSeq fun K hK => ?_) | ((first | refine wReg ?_ | refine wDrwQ rfl (by kernel_rfl) ?_ | refine wDrwI ?_ | refine wDrw (by kernel_rfl) ?_); simp only [List.map_cons, List.map_nil, strip]) | ((first | refine wIs fun K hK => ?_ | refine wOs fun K hK => ?_ | refine wQs fun K hK => ?_ | refine CallK_plain ?_ | refine CallQ_plain ?_ | refine CallR_plain ?_ | refine wCond ?_); simp [h1, h1']) | (refine wIn ?_; refine And.intro (by kernel_rfl) ?_; try simp only [thenA_n]) | (first | refine wBlock ?_ | refine wScope ?_) | ((first | refine wRet ?_ | refine wExit ?_ | refine wSkip ?_); try simp) | ((first | refine wLabel ?_ | refine wOn ?_ | refine wQn ?_); try simp only [thenA_n]) | (refine CallE.pure (awake26) rfl ?_) | (refine CallE.lent (awake26) rfl ?_) | (refine CallF.pure (awake26) rfl ?_) | (refine CallF.lent (awake26) rfl ?_) | (refine CallE.own (awake26) ?_) | (refine CallH.pure (awake26) rfl ?_) | (refine CallH.lent (awake26) rfl ?_) | (refine CallH.own (awake26) ?_)
    all_goals apply hr
    all_goals simp [Try.f8]
  by_cases h2 : 50 < gone.length
  · have h1' : ¬ (50 : Int) < old.length := by omega
    have h2' : (50 : Int) < gone.length := by omega
    refine wBody Try.tab Try.mixed Try.func8 rfl rfl Try.ntmps8 (by simp) (by simp) fun Q hr hn => ?_
    repeat' first | (refine hK _ ?_; clear hK) | (refine hK _ _ ?_; clear hK) | (clear hK; refine hK _ ?_; clear hK) | (clear hK; clear hK; refine hK _ ?_; clear hK) | (clear hK; clear hK; clear hK; refine hK _ ?_; clear hK) | (clear hK; clear hK; clear hK; clear hK; refine hK _ ?_; clear hK) | (refine wSeq fun K hK => ?_) | ((first | refine wReg ?_ | refine wDrwQ rfl (by kernel_rfl) ?_ | refine wDrwI ?_ | refine wDrw (by kernel_rfl) ?_); simp only [List.map_cons, List.map_nil, strip]) | ((first | refine wIs fun K hK => ?_ | refine wOs fun K hK => ?_ | refine wQs fun K hK => ?_ | refine CallK_plain ?_ | refine CallQ_plain ?_ | refine CallR_plain ?_ | refine wCond ?_); simp [h1, h1', h2, h2']) | (refine wIn ?_; refine And.intro (by kernel_rfl) ?_; try simp only [thenA_n]) | (first | refine wBlock ?_ | refine wScope ?_) | ((first | refine wRet ?_ | refine wExit ?_ | refine wSkip ?_); try simp) | ((first | refine wLabel ?_ | refine wOn ?_ | refine wQn ?_); try simp only [thenA_n]) | (refine CallE.pure (awake26) rfl ?_) | (refine CallE.lent (awake26) rfl ?_) | (refine CallF.pure (awake26) rfl ?_) | (refine CallF.lent (awake26) rfl ?_) | (refine CallE.own (awake26) ?_) | (refine CallH.pure (awake26) rfl ?_) | (refine CallH.lent (awake26) rfl ?_) | (refine CallH.own (awake26) ?_)
    all_goals apply hr
    all_goals simp [Try.f8]
  have h1' : ¬ (50 : Int) < old.length := by omega
  have h2' : ¬ (50 : Int) < gone.length := by omega
  refine wBody Try.tab Try.mixed Try.func8 rfl rfl Try.ntmps8 (by simp) (by simp) fun Q hr hn => ?_
  repeat' first | (refine hK _ ?_; clear hK) | (refine hK _ _ ?_; clear hK) | (clear hK; refine hK _ ?_; clear hK) | (clear hK; clear hK; refine hK _ ?_; clear hK) | (clear hK; clear hK; clear hK; refine hK _ ?_; clear hK) | (clear hK; clear hK; clear hK; clear hK; refine hK _ ?_; clear hK) | (refine wSeq fun K hK => ?_) | ((first | refine wReg ?_ | refine wDrwQ rfl (by kernel_rfl) ?_ | refine wDrwI ?_ | refine wDrw (by kernel_rfl) ?_); simp only [List.map_cons, List.map_nil, strip]) | ((first | refine wIs fun K hK => ?_ | refine wOs fun K hK => ?_ | refine wQs fun K hK => ?_ | refine CallK_plain ?_ | refine CallQ_plain ?_ | refine CallR_plain ?_ | refine wCond ?_); simp [h1, h1', h2, h2']) | (refine wIn ?_; refine And.intro (by kernel_rfl) ?_; try simp only [thenA_n]) | (first | refine wBlock ?_ | refine wScope ?_) | ((first | refine wRet ?_ | refine wExit ?_ | refine wSkip ?_); try simp) | ((first | refine wLabel ?_ | refine wOn ?_ | refine wQn ?_); try simp only [thenA_n])
  refine wLoopG [.row 7 3 1, .row 8 3 1] (fun N st => ∃ k, k + N = old.length ∧ st.s 0 = .p (.sl 1 (ints old)) ∧ st.s 1 = .p (.sl 1 (ints gone)) ∧ st.s 2 = .p (I d) ∧ st.s 7 = .row 7 ∧ st.s 8 = .row 8 ∧ st.s 35 = .p (.sl 1 (ints old)) ∧ st.s 36 = .p (I old.length) ∧ st.s 37 = .p (I k) ∧
    st.b 7 = some (.row 3 1 (ints (newof gone (uqs (old.take k))))) ∧ st.b 8 = some (.row 3 1 (ints (uqs (old.take k))))) old.length ⟨0, by simp [newof, uqs, ints]⟩ fun K N st hL ⟨k, hk, g0, g1, g2, g7, g8, g35, g36, g37, b7, b8⟩ => ?_
  by_cases hlt : k < old.length
  · have hw := wrapS k _ hlt (by omega)
    have he := ints_get hlt
    have hul := uqs_len old k
    have hnl := newof_len gone (uqs (old.take k))
    have hs := uqs_snoc old k hlt
    have hq := newof_app gone (uqs (old.take k)) old[k]
    generalize uqs (old.take k) = u at b7 b8 hul hnl hs hq
    generalize hs0 : old[k] = s at he hs hq
    have hx := ints_snoc u s
    have hy := ints_snoc (newof gone u) s
    generalize hgn : newof gone u = n at b7 hnl hq hy
    repeat' first | (refine hK _ ?_; clear hK) | (refine hK _ _ ?_; clear hK) | (clear hK; refine hK _ ?_; clear hK) | (clear hK; clear hK; refine hK _ ?_; clear hK) | (clear hK; clear hK; clear hK; refine hK _ ?_; clear hK) | (clear hK; clear hK; clear hK; clear hK; refine hK _ ?_; clear hK) | (refine wSeq fun K hK => ?_) | ((first | refine wReg ?_ | refine wDrwQ rfl (by kernel_rfl) ?_ | refine wDrwI ?_ | refine wDrw (by kernel_rfl) ?_); simp only [List.map_cons, List.map_nil, strip]) | ((first | refine wIs fun K hK => ?_ | refine wOs fun K hK => ?_ | refine wQs fun K hK => ?_ | refine CallK_plain ?_ | refine CallQ_plain ?_ | refine CallR_plain ?_ | refine wCond ?_); simp [g0, g1, g2, g7, g8, g35, g36, g37, b7, b8, hlt, hw, he, hs0]) | (refine wIn ?_; refine And.intro (by kernel_rfl) ?_; try simp only [thenA_n]) | (first | refine wBlock ?_ | refine wScope ?_) | ((first | refine wRet ?_ | refine wExit ?_ | refine wSkip ?_); try simp) | ((first | refine wLabel ?_ | refine wOn ?_ | refine wQn ?_); try simp only [thenA_n])
    refine wLoop (fun N st => ∃ j, j + N = u.length ∧ st.s 0 = .p (.sl 1 (ints old)) ∧ st.s 1 = .p (.sl 1 (ints gone)) ∧ st.s 2 = .p (I d) ∧ st.s 7 = .row 7 ∧ st.s 8 = .row 8 ∧ st.s 35 = .p (.sl 1 (ints old)) ∧ st.s 36 = .p (I old.length) ∧ st.s 37 = .p (I k) ∧
      st.b 7 = some (.row 3 1 (ints n)) ∧ st.b 8 = some (.row 3 1 (ints u)) ∧ st.s 10 = .p (I s) ∧ st.s 11 = .p (B (decide (s ∈ u.take j))) ∧ st.s 12 = .p (B false) ∧ st.s 41 = .row 8 ∧ st.s 42 = .p (I u.length) ∧ st.s 43 = .p (I j)) u.length ⟨0, by simp [g0, g1, g2, g7, g8, g35, g36, g37, b7, b8, hs0]⟩ fun K M st hM ⟨j, hj, g0, g1, g2, g7, g8, g35, g36, g37, b7, b8, g10, g11, g12, g41, g42, g43⟩ => ?_
    by_cases hjl : j < u.length
    · have hwj := wrapS j _ hjl (by omega)
      have hej := ints_get hjl
      have d1 := dec_take_succ u j hjl s
      generalize decide (s ∈ u.take j) = p at g11 d1
      cases p
      · by_cases o2 : u[j] = s
        all_goals
          repeat' first | (refine hK _ ?_; clear hK) | (refine hK _ _ ?_; clear hK) | (clear hK; refine hK _ ?_; clear hK) | (clear hK; clear hK; refine hK _ ?_; clear hK) | (clear hK; clear hK; clear hK; refine hK _ ?_; clear hK) | (clear hK; clear hK; clear hK; clear hK; refine hK _ ?_; clear hK) | (refine wSeq fun K hK => ?_) | ((first | refine wReg ?_ | refine wDrwQ rfl (by kernel_rfl) ?_ | refine wDrwI ?_ | refine wDrw (by kernel_rfl) ?_); simp only [List.map_cons, List.map_nil, strip]) | ((first | refine wIs fun K hK => ?_ | refine wOs fun K hK => ?_ | refine wQs fun K hK => ?_ | refine CallK_plain ?_ | refine CallQ_plain ?_ | refine CallR_plain ?_ | refine wCond ?_); simp [g0, g1, g2, g7, g8, g35, g36, g37, b7, b8, g10, g11, g12, g41, g42, g43, hjl, hwj, hej, o2]) | (refine wIn ?_; refine And.intro (by kernel_rfl) ?_; try simp only [thenA_n]) | (first | refine wBlock ?_ | refine wScope ?_) | ((first | refine wRet ?_ | refine wExit ?_ | refine wSkip ?_); try simp) | ((first | refine wLabel ?_ | refine wOn ?_ | refine wQn ?_); try simp only [thenA_n])
          refine hM _ (M - 1) (by omega) ⟨j + 1, by omega, ?_⟩
          rw [d1]
          simp [g0, g1, g2, g7, g8, g35, g36, g37, b7, b8, g10, g11, g12, g41, g42, g43, hwj, o2]
      · repeat' first | (refine hK _ ?_; clear hK) | (refine hK _ _ ?_; clear hK) | (clear hK; refine hK _ ?_; clear hK) | (clear hK; clear hK; refine hK _ ?_; clear hK) | (clear hK; clear hK; clear hK; refine hK _ ?_; clear hK) | (clear hK; clear hK; clear hK; clear hK; refine hK _ ?_; clear hK) | (refine wSeq fun K hK => ?_) | ((first | refine wReg ?_ | refine wDrwQ rfl (by kernel_rfl) ?_ | refine wDrwI ?_ | refine wDrw (by kernel_rfl) ?_); simp only [List.map_cons, List.map_nil, strip]) | ((first | refine wIs fun K hK => ?_ | refine wOs fun K hK => ?_ | refine wQs fun K hK => ?_ | refine CallK_plain ?_ | refine CallQ_plain ?_ | refine CallR_plain ?_ | refine wCond ?_); simp [g0, g1, g2, g7, g8, g35, g36, g37, b7, b8, g10, g11, g12, g41, g42, g43, hjl, hwj, hej]) | (refine wIn ?_; refine And.intro (by kernel_rfl) ?_; try simp only [thenA_n]) | (first | refine wBlock ?_ | refine wScope ?_) | ((first | refine wRet ?_ | refine wExit ?_ | refine wSkip ?_); try simp) | ((first | refine wLabel ?_ | refine wOn ?_ | refine wQn ?_); try simp only [thenA_n])
        refine hM _ (M - 1) (by omega) ⟨j + 1, by omega, ?_⟩
        rw [d1]
        simp [g0, g1, g2, g7, g8, g35, g36, g37, b7, b8, g10, g11, g12, g41, g42, g43, hwj]
    · rw [List.take_of_length_le (by omega)] at g11
      repeat' first | (refine hK _ ?_; clear hK) | (refine hK _ _ ?_; clear hK) | (clear hK; refine hK _ ?_; clear hK) | (clear hK; clear hK; refine hK _ ?_; clear hK) | (clear hK; clear hK; clear hK; refine hK _ ?_; clear hK) | (clear hK; clear hK; clear hK; clear hK; refine hK _ ?_; clear hK) | (refine wSeq fun K hK => ?_) | ((first | refine wReg ?_ | refine wDrwQ rfl (by kernel_rfl) ?_ | refine wDrwI ?_ | refine wDrw (by kernel_rfl) ?_); simp only [List.map_cons, List.map_nil, strip]) | ((first | refine wIs fun K hK => ?_ | refine wOs fun K hK => ?_ | refine wQs fun K hK => ?_ | refine CallK_plain ?_ | refine CallQ_plain ?_ | refine CallR_plain ?_ | refine wCond ?_); simp [g0, g1, g2, g7, g8, g35, g36, g37, b7, b8, g10, g11, g12, g41, g42, g43, hjl]) | (refine wIn ?_; refine And.intro (by kernel_rfl) ?_; try simp only [thenA_n]) | (first | refine wBlock ?_ | refine wScope ?_) | ((first | refine wRet ?_ | refine wExit ?_ | refine wSkip ?_); try simp) | ((first | refine wLabel ?_ | refine wOn ?_ | refine wQn ?_); try simp only [thenA_n])
      refine wLoop (fun N st => ∃ j, j + N = gone.length ∧ st.s 0 = .p (.sl 1 (ints old)) ∧ st.s 1 = .p (.sl 1 (ints gone)) ∧ st.s 2 = .p (I d) ∧ st.s 7 = .row 7 ∧ st.s 8 = .row 8 ∧ st.s 35 = .p (.sl 1 (ints old)) ∧ st.s 36 = .p (I old.length) ∧ st.s 37 = .p (I k) ∧
        st.b 7 = some (.row 3 1 (ints n)) ∧ st.b 8 = some (.row 3 1 (ints u)) ∧ st.s 10 = .p (I s) ∧ st.s 11 = .p (B (decide (s ∈ u))) ∧ st.s 12 = .p (B (decide (s ∈ gone.take j))) ∧ st.s 54 = .p (.sl 1 (ints gone)) ∧ st.s 55 = .p (I gone.length) ∧ st.s 56 = .p (I j)) gone.length ⟨0, by simp [g0, g1, g2, g7, g8, g35, g36, g37, b7, b8, g10, g11, g12]⟩ fun K M st hM ⟨j, hj, g0, g1, g2, g7, g8, g35, g36, g37, b7, b8, g10, g11, g12, g54, g55, g56⟩ => ?_
      by_cases hjl : j < gone.length
      · have hwj := wrapS j _ hjl (by omega)
        have hej := ints_get hjl
        have d1 := dec_take_succ gone j hjl s
        generalize decide (s ∈ gone.take j) = p at g12 d1
        cases p
        · by_cases o2 : gone[j] = s
          all_goals
            repeat' first | (refine hK _ ?_; clear hK) | (refine hK _ _ ?_; clear hK) | (clear hK; refine hK _ ?_; clear hK) | (clear hK; clear hK; refine hK _ ?_; clear hK) | (clear hK; clear hK; clear hK; refine hK _ ?_; clear hK) | (clear hK; clear hK; clear hK; clear hK; refine hK _ ?_; clear hK) | (refine wSeq fun K hK => ?_) | ((first | refine wReg ?_ | refine wDrwQ rfl (by kernel_rfl) ?_ | refine wDrwI ?_ | refine wDrw (by kernel_rfl) ?_); simp only [List.map_cons, List.map_nil, strip]) | ((first | refine wIs fun K hK => ?_ | refine wOs fun K hK => ?_ | refine wQs fun K hK => ?_ | refine CallK_plain ?_ | refine CallQ_plain ?_ | refine CallR_plain ?_ | refine wCond ?_); simp [g0, g1, g2, g7, g8, g35, g36, g37, b7, b8, g10, g11, g12, g54, g55, g56, hjl, hwj, hej, o2]) | (refine wIn ?_; refine And.intro (by kernel_rfl) ?_; try simp only [thenA_n]) | (first | refine wBlock ?_ | refine wScope ?_) | ((first | refine wRet ?_ | refine wExit ?_ | refine wSkip ?_); try simp) | ((first | refine wLabel ?_ | refine wOn ?_ | refine wQn ?_); try simp only [thenA_n])
            refine hM _ (M - 1) (by omega) ⟨j + 1, by omega, ?_⟩
            rw [d1]
            simp [g0, g1, g2, g7, g8, g35, g36, g37, b7, b8, g10, g11, g12, g54, g55, g56, hwj, o2]
        · repeat' first | (refine hK _ ?_; clear hK) | (refine hK _ _ ?_; clear hK) | (clear hK; refine hK _ ?_; clear hK) | (clear hK; clear hK; refine hK _ ?_; clear hK) | (clear hK; clear hK; clear hK; refine hK _ ?_; clear hK) | (clear hK; clear hK; clear hK; clear hK; refine hK _ ?_; clear hK) | (refine wSeq fun K hK => ?_) | ((first | refine wReg ?_ | refine wDrwQ rfl (by kernel_rfl) ?_ | refine wDrwI ?_ | refine wDrw (by kernel_rfl) ?_); simp only [List.map_cons, List.map_nil, strip]) | ((first | refine wIs fun K hK => ?_ | refine wOs fun K hK => ?_ | refine wQs fun K hK => ?_ | refine CallK_plain ?_ | refine CallQ_plain ?_ | refine CallR_plain ?_ | refine wCond ?_); simp [g0, g1, g2, g7, g8, g35, g36, g37, b7, b8, g10, g11, g12, g54, g55, g56, hjl, hwj, hej]) | (refine wIn ?_; refine And.intro (by kernel_rfl) ?_; try simp only [thenA_n]) | (first | refine wBlock ?_ | refine wScope ?_) | ((first | refine wRet ?_ | refine wExit ?_ | refine wSkip ?_); try simp) | ((first | refine wLabel ?_ | refine wOn ?_ | refine wQn ?_); try simp only [thenA_n])
          refine hM _ (M - 1) (by omega) ⟨j + 1, by omega, ?_⟩
          rw [d1]
          simp [g0, g1, g2, g7, g8, g35, g36, g37, b7, b8, g10, g11, g12, g54, g55, g56, hwj]
      · rw [List.take_of_length_le (by omega)] at g12
        by_cases o1 : s ∈ u
        · rw [decide_eq_true o1] at g11
          rw [if_pos o1] at hs
          repeat' first | (refine hK _ ?_; clear hK) | (refine hK _ _ ?_; clear hK) | (clear hK; refine hK _ ?_; clear hK) | (clear hK; clear hK; refine hK _ ?_; clear hK) | (clear hK; clear hK; clear hK; refine hK _ ?_; clear hK) | (clear hK; clear hK; clear hK; clear hK; refine hK _ ?_; clear hK) | (refine wSeq fun K hK => ?_) | ((first | refine wReg ?_ | refine wDrwQ rfl (by kernel_rfl) ?_ | refine wDrwI ?_ | refine wDrw (by kernel_rfl) ?_); simp only [List.map_cons, List.map_nil, strip]) | ((first | refine wIs fun K hK => ?_ | refine wOs fun K hK => ?_ | refine wQs fun K hK => ?_ | refine CallK_plain ?_ | refine CallQ_plain ?_ | refine CallR_plain ?_ | refine wCond ?_); simp [g0, g1, g2, g7, g8, g35, g36, g37, b7, b8, g10, g11, g12, g54, g55, g56, hjl, hw]) | (refine wIn ?_; refine And.intro (by kernel_rfl) ?_; try simp only [thenA_n]) | (first | refine wBlock ?_ | refine wScope ?_) | ((first | refine wRet ?_ | refine wExit ?_ | refine wSkip ?_); try simp) | ((first | refine wLabel ?_ | refine wOn ?_ | refine wQn ?_); try simp only [thenA_n])
          refine hL _ (N - 1) (by omega) ⟨k + 1, by omega, ?_⟩
          simp [g0, g1, g2, g7, g8, g35, g36, g37, b7, b8, hw, hs, hgn]
        · rw [decide_eq_false o1] at g11
          rw [if_neg o1] at hs
          by_cases o2 : s ∈ gone
          · rw [decide_eq_true o2] at g12
            rw [if_pos o2] at hq
            repeat' first | (refine And.intro (by omega) ?_) | (refine hK _ ?_; clear hK) | (refine hK _ _ ?_; clear hK) | (clear hK; refine hK _ ?_; clear hK) | (clear hK; clear hK; refine hK _ ?_; clear hK) | (clear hK; clear hK; clear hK; refine hK _ ?_; clear hK) | (clear hK; clear hK; clear hK; clear hK; refine hK _ ?_; clear hK) | (refine wSeq fun K hK => ?_) | ((first | refine wReg ?_ | refine wDrwQ rfl (by kernel_rfl) ?_ | refine wDrwI ?_ | refine wDrw (by kernel_rfl) ?_); simp only [List.map_cons, List.map_nil, strip]) | ((first | refine wIs fun K hK => ?_ | refine wOs fun K hK => ?_ | refine wQs fun K hK => ?_ | refine CallK_plain ?_ | refine CallQ_plain ?_ | refine CallR_plain ?_ | refine wCond ?_); simp [g0, g1, g2, g7, g8, g35, g36, g37, b7, b8, g10, g11, g12, g54, g55, g56, hjl, hw]) | (refine wIn ?_; refine And.intro (by kernel_rfl) ?_; try simp only [thenA_n]) | (first | refine wBlock ?_ | refine wScope ?_) | ((first | refine wRet ?_ | refine wExit ?_ | refine wSkip ?_); try simp) | ((first | refine wLabel ?_ | refine wOn ?_ | refine wQn ?_); try simp only [thenA_n])
            refine hL _ (N - 1) (by omega) ⟨k + 1, by omega, ?_⟩
            simp [g0, g1, g2, g7, g8, g35, g36, g37, b7, b8, hw, hs, hq, hx]
          · rw [decide_eq_false o2] at g12
            rw [if_neg o2] at hq
            repeat' first | (refine And.intro (by omega) ?_) | (refine hK _ ?_; clear hK) | (refine hK _ _ ?_; clear hK) | (clear hK; refine hK _ ?_; clear hK) | (clear hK; clear hK; refine hK _ ?_; clear hK) | (clear hK; clear hK; clear hK; refine hK _ ?_; clear hK) | (clear hK; clear hK; clear hK; clear hK; refine hK _ ?_; clear hK) | (refine wSeq fun K hK => ?_) | ((first | refine wReg ?_ | refine wDrwQ rfl (by kernel_rfl) ?_ | refine wDrwI ?_ | refine wDrw (by kernel_rfl) ?_); simp only [List.map_cons, List.map_nil, strip]) | ((first | refine wIs fun K hK => ?_ | refine wOs fun K hK => ?_ | refine wQs fun K hK => ?_ | refine CallK_plain ?_ | refine CallQ_plain ?_ | refine CallR_plain ?_ | refine wCond ?_); simp [g0, g1, g2, g7, g8, g35, g36, g37, b7, b8, g10, g11, g12, g54, g55, g56, hjl, hw]) | (refine wIn ?_; refine And.intro (by kernel_rfl) ?_; try simp only [thenA_n]) | (first | refine wBlock ?_ | refine wScope ?_) | ((first | refine wRet ?_ | refine wExit ?_ | refine wSkip ?_); try simp) | ((first | refine wLabel ?_ | refine wOn ?_ | refine wQn ?_); try simp only [thenA_n])
            refine hL _ (N - 1) (by omega) ⟨k + 1, by omega, ?_⟩
            simp [g0, g1, g2, g7, g8, g35, g36, g37, b7, b8, hw, hs, hq, hx, hy]
  · rw [List.take_of_length_le (by omega)] at b7 b8
    have hul : (uqs old).length ≤ old.length := by have := uqs_len old old.length; rwa [List.take_of_length_le (by omega)] at this
    have hnl := newof_len gone (uqs old)
    have hf := fun s (hs : s ∈ uqs old) => mv_facts (uqs old) gone s d hs (by omega)
    have hmc := fun s d => move_con (uqs old) (newof gone (uqs old)) s d (by omega)
    generalize uqs old = u at b7 b8 hul hnl hf hmc
    generalize newof gone u = n at b7 hnl hf hmc
    repeat' first | (refine hK _ ?_; clear hK) | (refine hK _ _ ?_; clear hK) | (clear hK; refine hK _ ?_; clear hK) | (clear hK; clear hK; refine hK _ ?_; clear hK) | (clear hK; clear hK; clear hK; refine hK _ ?_; clear hK) | (clear hK; clear hK; clear hK; clear hK; refine hK _ ?_; clear hK) | (refine wSeq fun K hK => ?_) | ((first | refine wReg ?_ | refine wDrwQ rfl (by kernel_rfl) ?_ | refine wDrwI ?_ | refine wDrw (by kernel_rfl) ?_); simp only [List.map_cons, List.map_nil, strip]) | ((first | refine wIs fun K hK => ?_ | refine wOs fun K hK => ?_ | refine wQs fun K hK => ?_ | refine CallK_plain ?_ | refine CallQ_plain ?_ | refine CallR_plain ?_ | refine wCond ?_); simp [g0, g1, g2, g7, g8, g35, g36, g37, b7, b8, hlt]) | (refine wIn ?_; refine And.intro (by kernel_rfl) ?_; try simp only [thenA_n]) | (first | refine wBlock ?_ | refine wScope ?_) | ((first | refine wRet ?_ | refine wExit ?_ | refine wSkip ?_); try simp) | ((first | refine wLabel ?_ | refine wOn ?_ | refine wQn ?_); try simp only [thenA_n])
    refine wLoopG [.frz 7, .frz 8] (fun N st => ∃ i, i + N = u.length ∧ st.s 2 = .p (I d) ∧ st.s 7 = .p (.sl 1 (ints n)) ∧ st.s 8 = .p (.sl 1 (ints u)) ∧ st.s 80 = .p (.sl 1 (ints u)) ∧ st.s 81 = .p (I u.length) ∧ st.s 82 = .p (I i)) u.length ⟨0, by simp [g2, g7, g8, b7, b8]⟩ fun K N st hL2 ⟨i, hi, g2, g7, g8, g80, g81, g82⟩ => ?_
    by_cases hil : i < u.length
    · have hwi := wrapS i _ hil (by omega)
      have hei := ints_get hil
      obtain ⟨f1, f2, f3, f4⟩ := hf u[i] (List.getElem_mem hil)
      generalize hs0 : u[i] = s at hei f1 f2 f3 f4
      have c1 := hmc s d
      generalize mv u n s d = to at c1 f1 f2 f3
      repeat' first | (refine hK _ ?_; clear hK) | (refine hK _ _ ?_; clear hK) | (clear hK; refine hK _ ?_; clear hK) | (clear hK; clear hK; refine hK _ ?_; clear hK) | (clear hK; clear hK; clear hK; refine hK _ ?_; clear hK) | (clear hK; clear hK; clear hK; clear hK; refine hK _ ?_; clear hK) | (refine wSeq fun K hK => ?_) | ((first | refine wReg ?_ | refine wDrwQ rfl (by kernel_rfl) ?_ | refine wDrwI ?_ | refine wDrw (by kernel_rfl) ?_); simp only [List.map_cons, List.map_nil, strip]) | ((first | refine wIs fun K hK => ?_ | refine wOs fun K hK => ?_ | refine wQs fun K hK => ?_ | refine CallK_plain ?_ | refine CallQ_plain ?_ | refine CallR_plain ?_ | refine wCond ?_); simp [g2, g7, g8, g80, g81, g82, hil, hei, hs0]) | (refine wIn ?_; refine And.intro (by kernel_rfl) ?_; try simp only [thenA_n]) | (first | refine wBlock ?_ | refine wScope ?_) | ((first | refine wRet ?_ | refine wExit ?_ | refine wSkip ?_); try simp) | ((first | refine wLabel ?_ | refine wOn ?_ | refine wQn ?_); try simp only [thenA_n]) | (refine CallE.pure (c1) rfl ?_) | (refine CallE.lent (c1) rfl ?_) | (refine CallF.pure (c1) rfl ?_) | (refine CallF.lent (c1) rfl ?_) | (refine CallE.own (c1) ?_) | (refine CallH.pure (c1) rfl ?_) | (refine CallH.lent (c1) rfl ?_) | (refine CallH.own (c1) ?_)
      refine wLoop (fun N st => ∃ j, j + N = n.length ∧ st.s 2 = .p (I d) ∧ st.s 7 = .p (.sl 1 (ints n)) ∧ st.s 8 = .p (.sl 1 (ints u)) ∧ st.s 80 = .p (.sl 1 (ints u)) ∧ st.s 81 = .p (I u.length) ∧ st.s 82 = .p (I i) ∧ st.s 18 = .p (I s) ∧ st.s 19 = .p (I to) ∧ st.s 20 = .p (B (decide (s ∈ n.take j))) ∧ st.s 21 = .p (B (decide (to ∈ n.take j))) ∧ st.s 91 = .p (.sl 1 (ints n)) ∧ st.s 92 = .p (I n.length) ∧ st.s 93 = .p (I j)) n.length ⟨0, by simp [g2, g7, g8, g80, g81, g82, hs0]⟩ fun K M st hM ⟨j, hj, g2, g7, g8, g80, g81, g82, g18, g19, g20, g21, g91, g92, g93⟩ => ?_
      by_cases hjl : j < n.length
      · have hwj := wrapS j _ hjl (by omega)
        have hej := ints_get hjl
        have d1 := dec_take_succ n j hjl s
        have d2 := dec_take_succ n j hjl to
        generalize decide (s ∈ n.take j) = p at g20 d1
        generalize decide (to ∈ n.take j) = q at g21 d2
        cases p <;> cases q
        · by_cases o1 : n[j] = s <;> by_cases o2 : n[j] = to
          all_goals
            repeat' first | (refine hK _ ?_; clear hK) | (refine hK _ _ ?_; clear hK) | (clear hK; refine hK _ ?_; clear hK) | (clear hK; clear hK; refine hK _ ?_; clear hK) | (clear hK; clear hK; clear hK; refine hK _ ?_; clear hK) | (clear hK; clear hK; clear hK; clear hK; refine hK _ ?_; clear hK) | (refine wSeq fun K hK => ?_) | ((first | refine wReg ?_ | refine wDrwQ rfl (by kernel_rfl) ?_ | refine wDrwI ?_ | refine wDrw (by kernel_rfl) ?_); simp only [List.map_cons, List.map_nil, strip]) | ((first | refine wIs fun K hK => ?_ | refine wOs fun K hK => ?_ | refine wQs fun K hK => ?_ | refine CallK_plain ?_ | refine CallQ_plain ?_ | refine CallR_plain ?_ | refine wCond ?_); simp [g2, g7, g8, g80, g81, g82, g18, g19, g20, g21, g91, g92, g93, hjl, hwj, hej, o1, o2]) | (refine wIn ?_; refine And.intro (by kernel_rfl) ?_; try simp only [thenA_n]) | (first | refine wBlock ?_ | refine wScope ?_) | ((first | refine wRet ?_ | refine wExit ?_ | refine wSkip ?_); try simp) | ((first | refine wLabel ?_ | refine wOn ?_ | refine wQn ?_); try simp only [thenA_n])
            refine hM _ (M - 1) (by omega) ⟨j + 1, by omega, ?_⟩
            rw [d1, d2]
            simp [g2, g7, g8, g80, g81, g82, g18, g19, g20, g21, g91, g92, g93, hwj, o1, o2]
            all_goals rfl
        · by_cases o1 : n[j] = s
          all_goals
            repeat' first | (refine hK _ ?_; clear hK) | (refine hK _ _ ?_; clear hK) | (clear hK; refine hK _ ?_; clear hK) | (clear hK; clear hK; refine hK _ ?_; clear hK) | (clear hK; clear hK; clear hK; refine hK _ ?_; clear hK) | (clear hK; clear hK; clear hK; clear hK; refine hK _ ?_; clear hK) | (refine wSeq fun K hK => ?_) | ((first | refine wReg ?_ | refine wDrwQ rfl (by kernel_rfl) ?_ | refine wDrwI ?_ | refine wDrw (by kernel_rfl) ?_); simp only [List.map_cons, List.map_nil, strip]) | ((first | refine wIs fun K hK => ?_ | refine wOs fun K hK => ?_ | refine wQs fun K hK => ?_ | refine CallK_plain ?_ | refine CallQ_plain ?_ | refine CallR_plain ?_ | refine wCond ?_); simp [g2, g7, g8, g80, g81, g82, g18, g19, g20, g21, g91, g92, g93, hjl, hwj, hej, o1]) | (refine wIn ?_; refine And.intro (by kernel_rfl) ?_; try simp only [thenA_n]) | (first | refine wBlock ?_ | refine wScope ?_) | ((first | refine wRet ?_ | refine wExit ?_ | refine wSkip ?_); try simp) | ((first | refine wLabel ?_ | refine wOn ?_ | refine wQn ?_); try simp only [thenA_n])
            refine hM _ (M - 1) (by omega) ⟨j + 1, by omega, ?_⟩
            rw [d1, d2]
            simp [g2, g7, g8, g80, g81, g82, g18, g19, g20, g21, g91, g92, g93, hwj, o1]
        · by_cases o2 : n[j] = to
          all_goals
            repeat' first | (refine hK _ ?_; clear hK) | (refine hK _ _ ?_; clear hK) | (clear hK; refine hK _ ?_; clear hK) | (clear hK; clear hK; refine hK _ ?_; clear hK) | (clear hK; clear hK; clear hK; refine hK _ ?_; clear hK) | (clear hK; clear hK; clear hK; clear hK; refine hK _ ?_; clear hK) | (refine wSeq fun K hK => ?_) | ((first | refine wReg ?_ | refine wDrwQ rfl (by kernel_rfl) ?_ | refine wDrwI ?_ | refine wDrw (by kernel_rfl) ?_); simp only [List.map_cons, List.map_nil, strip]) | ((first | refine wIs fun K hK => ?_ | refine wOs fun K hK => ?_ | refine wQs fun K hK => ?_ | refine CallK_plain ?_ | refine CallQ_plain ?_ | refine CallR_plain ?_ | refine wCond ?_); simp [g2, g7, g8, g80, g81, g82, g18, g19, g20, g21, g91, g92, g93, hjl, hwj, hej, o2]) | (refine wIn ?_; refine And.intro (by kernel_rfl) ?_; try simp only [thenA_n]) | (first | refine wBlock ?_ | refine wScope ?_) | ((first | refine wRet ?_ | refine wExit ?_ | refine wSkip ?_); try simp) | ((first | refine wLabel ?_ | refine wOn ?_ | refine wQn ?_); try simp only [thenA_n])
            refine hM _ (M - 1) (by omega) ⟨j + 1, by omega, ?_⟩
            rw [d1, d2]
            simp [g2, g7, g8, g80, g81, g82, g18, g19, g20, g21, g91, g92, g93, hwj, o2]
        · repeat' first | (refine hK _ ?_; clear hK) | (refine hK _ _ ?_; clear hK) | (clear hK; refine hK _ ?_; clear hK) | (clear hK; clear hK; refine hK _ ?_; clear hK) | (clear hK; clear hK; clear hK; refine hK _ ?_; clear hK) | (clear hK; clear hK; clear hK; clear hK; refine hK _ ?_; clear hK) | (refine wSeq fun K hK => ?_) | ((first | refine wReg ?_ | refine wDrwQ rfl (by kernel_rfl) ?_ | refine wDrwI ?_ | refine wDrw (by kernel_rfl) ?_); simp only [List.map_cons, List.map_nil, strip]) | ((first | refine wIs fun K hK => ?_ | refine wOs fun K hK => ?_ | refine wQs fun K hK => ?_ | refine CallK_plain ?_ | refine CallQ_plain ?_ | refine CallR_plain ?_ | refine wCond ?_); simp [g2, g7, g8, g80, g81, g82, g18, g19, g20, g21, g91, g92, g93, hjl, hwj, hej]) | (refine wIn ?_; refine And.intro (by kernel_rfl) ?_; try simp only [thenA_n]) | (first | refine wBlock ?_ | refine wScope ?_) | ((first | refine wRet ?_ | refine wExit ?_ | refine wSkip ?_); try simp) | ((first | refine wLabel ?_ | refine wOn ?_ | refine wQn ?_); try simp only [thenA_n])
          refine hM _ (M - 1) (by omega) ⟨j + 1, by omega, ?_⟩
          rw [d1, d2]
          simp [g2, g7, g8, g80, g81, g82, g18, g19, g20, g21, g91, g92, g93, hwj]
      · rw [List.take_of_length_le (by omega)] at g20 g21
        by_cases o0 : n.length = 0
        · have o0' : n = [] := List.length_eq_zero_iff.1 o0
          obtain rfl := f3 o0
          subst o0'
          simp only [List.not_mem_nil, decide_false] at g20 g21
          have hj0 : ¬ (j : Int) < 0 := by omega
          repeat' first | (refine hK _ ?_; clear hK) | (refine hK _ _ ?_; clear hK) | (clear hK; refine hK _ ?_; clear hK) | (clear hK; clear hK; refine hK _ ?_; clear hK) | (clear hK; clear hK; clear hK; refine hK _ ?_; clear hK) | (clear hK; clear hK; clear hK; clear hK; refine hK _ ?_; clear hK) | (refine wSeq fun K hK => ?_) | ((first | refine wReg ?_ | refine wDrwQ rfl (by kernel_rfl) ?_ | refine wDrwI ?_ | refine wDrw (by kernel_rfl) ?_); simp only [List.map_cons, List.map_nil, strip]) | ((first | refine wIs fun K hK => ?_ | refine wOs fun K hK => ?_ | refine wQs fun K hK => ?_ | refine CallK_plain ?_ | refine CallQ_plain ?_ | refine CallR_plain ?_ | refine wCond ?_); simp [g2, g7, g8, g80, g81, g82, g18, g19, g20, g21, g91, g92, g93, hjl, hwi, hj0]) | (refine wIn ?_; refine And.intro (by kernel_rfl) ?_; try simp only [thenA_n]) | (first | refine wBlock ?_ | refine wScope ?_) | ((first | refine wRet ?_ | refine wExit ?_ | refine wSkip ?_); try simp) | ((first | refine wLabel ?_ | refine wOn ?_ | refine wQn ?_); try simp only [thenA_n])
          refine hL2 _ (N - 1) (by omega) ⟨i + 1, by omega, ?_⟩
          simp [g2, g7, g8, g80, g81, g82, hwi]
        have o0' : ¬ (n.length : Int) = 0 := by omega
        have o0p : (0 : Int) < n.length := by omega
        have o0n : ¬ n = [] := by intro h; subst h; simp at o0
        have o0q : 0 < n.length := by omega
        rw [decide_eq_true (f2 o0)] at g21
        by_cases o1 : s ∈ n
        · obtain rfl := f1 o1
          rw [decide_eq_true o1] at g20
          repeat' first | (refine hK _ ?_; clear hK) | (refine hK _ _ ?_; clear hK) | (clear hK; refine hK _ ?_; clear hK) | (clear hK; clear hK; refine hK _ ?_; clear hK) | (clear hK; clear hK; clear hK; refine hK _ ?_; clear hK) | (clear hK; clear hK; clear hK; clear hK; refine hK _ ?_; clear hK) | (refine wSeq fun K hK => ?_) | ((first | refine wReg ?_ | refine wDrwQ rfl (by kernel_rfl) ?_ | refine wDrwI ?_ | refine wDrw (by kernel_rfl) ?_); simp only [List.map_cons, List.map_nil, strip]) | ((first | refine wIs fun K hK => ?_ | refine wOs fun K hK => ?_ | refine wQs fun K hK => ?_ | refine CallK_plain ?_ | refine CallQ_plain ?_ | refine CallR_plain ?_ | refine wCond ?_); simp [g2, g7, g8, g80, g81, g82, g18, g19, g20, g21, g91, g92, g93, hjl, hwi, o0, o0', o0p, o0n, o0q]) | (refine wIn ?_; refine And.intro (by kernel_rfl) ?_; try simp only [thenA_n]) | (first | refine wBlock ?_ | refine wScope ?_) | ((first | refine wRet ?_ | refine wExit ?_ | refine wSkip ?_); try simp) | ((first | refine wLabel ?_ | refine wOn ?_ | refine wQn ?_); try simp only [thenA_n])
          refine hL2 _ (N - 1) (by omega) ⟨i + 1, by omega, ?_⟩
          simp [g2, g7, g8, g80, g81, g82, hwi]
        · have f4 := f4 o1
          rw [decide_eq_false o1] at g20
          repeat' first | (refine hK _ ?_; clear hK) | (refine hK _ _ ?_; clear hK) | (clear hK; refine hK _ ?_; clear hK) | (clear hK; clear hK; refine hK _ ?_; clear hK) | (clear hK; clear hK; clear hK; refine hK _ ?_; clear hK) | (clear hK; clear hK; clear hK; clear hK; refine hK _ ?_; clear hK) | (refine wSeq fun K hK => ?_) | ((first | refine wReg ?_ | refine wDrwQ rfl (by kernel_rfl) ?_ | refine wDrwI ?_ | refine wDrw (by kernel_rfl) ?_); simp only [List.map_cons, List.map_nil, strip]) | ((first | refine wIs fun K hK => ?_ | refine wOs fun K hK => ?_ | refine wQs fun K hK => ?_ | refine CallK_plain ?_ | refine CallQ_plain ?_ | refine CallR_plain ?_ | refine wCond ?_); simp [g2, g7, g8, g80, g81, g82, g18, g19, g20, g21, g91, g92, g93, hjl, hwi, o0, o0', o0p, o0n, o0q]) | (refine wIn ?_; refine And.intro (by kernel_rfl) ?_; try simp only [thenA_n]) | (first | refine wBlock ?_ | refine wScope ?_) | ((first | refine wRet ?_ | refine wExit ?_ | refine wSkip ?_); try simp) | ((first | refine wLabel ?_ | refine wOn ?_ | refine wQn ?_); try simp only [thenA_n])
          refine wLoop (fun N st => ∃ j, j + N = n.length ∧ st.s 2 = .p (I d) ∧ st.s 7 = .p (.sl 1 (ints n)) ∧ st.s 8 = .p (.sl 1 (ints u)) ∧ st.s 80 = .p (.sl 1 (ints u)) ∧ st.s 81 = .p (I u.length) ∧ st.s 82 = .p (I i) ∧ st.s 18 = .p (I s) ∧ st.s 140 = .p (.sl 1 (ints n)) ∧ st.s 141 = .p (I n.length) ∧ st.s 142 = .p (I j)) n.length ⟨0, by simp [g2, g7, g8, g80, g81, g82, g18]⟩ fun K M2 st hM2 ⟨j, hj, g2, g7, g8, g80, g81, g82, g18, g140, g141, g142⟩ => ?_
          by_cases hjl : j < n.length
          · have hwj := wrapS j _ hjl (by omega)
            have hej := ints_get hjl
            have c2 := hmc s j
            rw [f4 j hjl] at c2
            repeat' first | (refine hK _ ?_; clear hK) | (refine hK _ _ ?_; clear hK) | (clear hK; refine hK _ ?_; clear hK) | (clear hK; clear hK; refine hK _ ?_; clear hK) | (clear hK; clear hK; clear hK; refine hK _ ?_; clear hK) | (clear hK; clear hK; clear hK; clear hK; refine hK _ ?_; clear hK) | (refine wSeq fun K hK => ?_) | ((first | refine wReg ?_ | refine wDrwQ rfl (by kernel_rfl) ?_ | refine wDrwI ?_ | refine wDrw (by kernel_rfl) ?_); simp only [List.map_cons, List.map_nil, strip]) | ((first | refine wIs fun K hK => ?_ | refine wOs fun K hK => ?_ | refine wQs fun K hK => ?_ | refine CallK_plain ?_ | refine CallQ_plain ?_ | refine CallR_plain ?_ | refine wCond ?_); simp [g2, g7, g8, g80, g81, g82, g18, g140, g141, g142, hjl, hwj, hej]) | (refine wIn ?_; refine And.intro (by kernel_rfl) ?_; try simp only [thenA_n]) | (first | refine wBlock ?_ | refine wScope ?_) | ((first | refine wRet ?_ | refine wExit ?_ | refine wSkip ?_); try simp) | ((first | refine wLabel ?_ | refine wOn ?_ | refine wQn ?_); try simp only [thenA_n]) | (refine CallE.pure (c2) rfl ?_) | (refine CallE.lent (c2) rfl ?_) | (refine CallF.pure (c2) rfl ?_) | (refine CallF.lent (c2) rfl ?_) | (refine CallE.own (c2) ?_) | (refine CallH.pure (c2) rfl ?_) | (refine CallH.lent (c2) rfl ?_) | (refine CallH.own (c2) ?_)
            refine hM2 _ (M2 - 1) (by omega) ⟨j + 1, by omega, ?_⟩
            simp [g2, g7, g8, g80, g81, g82, g18, g140, g141, g142, hwj]
          · repeat' first | (refine hK _ ?_; clear hK) | (refine hK _ _ ?_; clear hK) | (clear hK; refine hK _ ?_; clear hK) | (clear hK; clear hK; refine hK _ ?_; clear hK) | (clear hK; clear hK; clear hK; refine hK _ ?_; clear hK) | (clear hK; clear hK; clear hK; clear hK; refine hK _ ?_; clear hK) | (refine wSeq fun K hK => ?_) | ((first | refine wReg ?_ | refine wDrwQ rfl (by kernel_rfl) ?_ | refine wDrwI ?_ | refine wDrw (by kernel_rfl) ?_); simp only [List.map_cons, List.map_nil, strip]) | ((first | refine wIs fun K hK => ?_ | refine wOs fun K hK => ?_ | refine wQs fun K hK => ?_ | refine CallK_plain ?_ | refine CallQ_plain ?_ | refine CallR_plain ?_ | refine wCond ?_); simp [g2, g7, g8, g80, g81, g82, g18, g140, g141, g142, hjl, hwi]) | (refine wIn ?_; refine And.intro (by kernel_rfl) ?_; try simp only [thenA_n]) | (first | refine wBlock ?_ | refine wScope ?_) | ((first | refine wRet ?_ | refine wExit ?_ | refine wSkip ?_); try simp) | ((first | refine wLabel ?_ | refine wOn ?_ | refine wQn ?_); try simp only [thenA_n])
            refine hL2 _ (N - 1) (by omega) ⟨i + 1, by omega, ?_⟩
            simp [g2, g7, g8, g80, g81, g82, hwi]
    · repeat' first | (refine hK _ ?_; clear hK) | (refine hK _ _ ?_; clear hK) | (clear hK; refine hK _ ?_; clear hK) | (clear hK; clear hK; refine hK _ ?_; clear hK) | (clear hK; clear hK; clear hK; refine hK _ ?_; clear hK) | (clear hK; clear hK; clear hK; clear hK; refine hK _ ?_; clear hK) | (refine wSeq fun K hK => ?_) | ((first | refine wReg ?_ | refine wDrwQ rfl (by kernel_rfl) ?_ | refine wDrwI ?_ | refine wDrw (by kernel_rfl) ?_); simp only [List.map_cons, List.map_nil, strip]) | ((first | refine wIs fun K hK => ?_ | refine wOs fun K hK => ?_ | refine wQs fun K hK => ?_ | refine CallK_plain ?_ | refine CallQ_plain ?_ | refine CallR_plain ?_ | refine wCond ?_); simp [g2, g7, g8, g80, g81, g82, hil]) | (refine wIn ?_; refine And.intro (by kernel_rfl) ?_; try simp only [thenA_n]) | (first | refine wBlock ?_ | refine wScope ?_) | ((first | refine wRet ?_ | refine wExit ?_ | refine wSkip ?_); try simp) | ((first | refine wLabel ?_ | refine wOn ?_ | refine wQn ?_); try simp only [thenA_n]) | (refine CallE.pure (awake26) rfl ?_) | (refine CallE.lent (awake26) rfl ?_) | (refine CallF.pure (awake26) rfl ?_) | (refine CallF.lent (awake26) rfl ?_) | (refine CallE.own (awake26) ?_) | (refine CallH.pure (awake26) rfl ?_) | (refine CallH.lent (awake26) rfl ?_) | (refine CallH.own (awake26) ?_)
      all_goals apply hr
      all_goals simp [Try.f8]
end Go.Proofs.Ytljeijinfhboaaa
