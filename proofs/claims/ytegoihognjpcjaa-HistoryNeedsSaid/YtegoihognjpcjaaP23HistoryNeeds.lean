/- Texts that the proof needs: HH XB. -/
import Derived.Test.YtegoihognjpcjaaP22HistoryNeeds
/- Histories: the configs that are needed, by the program. -/
namespace Go.Proofs.Ytegoihognjpcjaa
set_option linter.unusedSimpArgs false
set_option linter.unusedVariables false
open Go Go.Av
attribute [local simp] Try.T1 Try.T2 Try.T3 Try.T4 Try.T5 Try.T9 Try.T12 Try.T15 Try.T16 Try.T17 Try.T21 Try.T22 Try.T23 Try.T25 Try.T26 Try.T28 Try.T30 Try.T31 Try.T33 Try.T34 Try.T35 Try.T36 Try.T37 Try.T38 Try.T40 Try.T42 Try.T43 Try.T44 Try.T45 Try.T46 Try.T48 Try.T49 Try.T50 Try.T51 Try.T52 Try.T53 Try.T54 Try.T55 Try.T56 Try.T57 Try.T58 Try.T59 Try.T60 Try.T61 Try.T62 Try.T64 Try.T66 Try.T67 Try.T68 Try.T69 Try.T70 Try.T71 Try.T72 Try.T73 Try.T74 Try.T75 Try.T76 Try.T77 Try.T78 Try.T80 Try.T81 Try.T82 Try.T83 Try.T84 Try.T85 Try.T86 Try.T88 Try.T89 Try.T90 Try.T91 Try.T92 Try.T93 Try.T94 Try.T95 Try.T96 Try.T97 Try.T98 Try.T99 Try.T100 Try.T101 Try.T102 Try.T103 Try.T104 Try.T105 Try.T106 Try.T107 Try.T108 Try.T109 Try.T110 Try.T111 Try.T112 Try.T113 Try.T116 Try.T119 Try.T120 Try.T123 Try.T124
attribute [local irreducible] Go.Av.CallK Go.Av.CallE Go.Av.CallQ Go.Av.CallF Go.Av.CallR Go.Av.CallH Go.Av.Con
def lastC (ps : List Pt) : Option Cf := ((ps.filter fun p => decide (p.k = 5)).getLast?).map Pt.c
theorem lastC_at {ps : List Pt} {i : Nat} (hi : i < ps.length) (h : ps[i].k = 5) (hb : ∀ j (hj : j < ps.length), i < j → ¬ ps[j].k = 5) : lastC ps = some ps[i].c := by
  have e : ps = ps.take i ++ ps[i] :: ps.drop (i + 1) := by rw [← List.drop_eq_getElem_cons hi, List.take_append_drop]
  have e2 : (ps.drop (i + 1)).filter (fun p => decide (p.k = 5)) = [] := by
    rw [List.filter_eq_nil_iff]
    intro x hx
    obtain ⟨j, hj, rfl⟩ := List.getElem_of_mem hx
    rw [List.getElem_drop]
    have hj' : i + 1 + j < ps.length := by simp at hj; omega
    simpa using hb _ hj' (by omega)
  unfold lastC
  have e3 : ps.filter (fun p => decide (p.k = 5)) = (ps.take i).filter (fun p => decide (p.k = 5)) ++ [ps[i]] := by
    conv => lhs; rw [e]
    rw [List.filter_append, List.filter_cons, if_pos (decide_eq_true h), e2]
  rw [e3]
  simp
theorem lastC_none {ps : List Pt} (hb : ∀ j (hj : j < ps.length), ¬ ps[j].k = 5) : lastC ps = none := by
  have e2 : ps.filter (fun p => decide (p.k = 5)) = [] := by
    rw [List.filter_eq_nil_iff]
    intro x hx
    obtain ⟨j, hj, rfl⟩ := List.getElem_of_mem hx
    simpa using hb _ hj
  unfold lastC
  rw [e2]; rfl
structure NS where
  (was now : Cf)
  (fe fn : Int)
  (ch : Bool)
def nsStep (s : NS) (t : Tx) : NS := match lastC t.ps with
  | none => s
  | some c => ⟨s.now, c, t.e, t.n, true⟩
def ns0 (h : Hy) : NS := ⟨h.im.c, h.im.c, h.im.ae, h.im.an, false⟩
def nsOf (h : Hy) (l : List Tx) : NS := l.foldl nsStep (ns0 h)
theorem nsOf_snoc (h : Hy) {l : List Tx} {k : Nat} (hk : k < l.length) : nsOf h (l.take (k + 1)) = nsStep (nsOf h (l.take k)) l[k] := by
  rw [List.take_succ_eq_append_getElem hk, nsOf, List.foldl_append]; rfl
def endN (s : NS) (de dn : Int) : List Cf := if s.ch = false ∨ zcmp s.fe s.fn de dn ≤ 0 then [s.now] else [s.was, s.now]
def needsOf (h : Hy) (de dn : Int) : List Cf := endN (nsOf h h.lg) de dn
/-- What a history must be for the calls to do with it. -/
structure OkH (h : Hy) : Prop where
  ns : h.im.ns.length ≤ 1000
  ss : h.im.ss.length ≤ 1000
  c : h.im.c.ms.length ≤ 1000
  lg : h.lg.length ≤ 1000
  ps : ∀ t ∈ h.lg, t.ps.length ≤ 1000 ∧ ∀ p ∈ t.ps, p.c.ms.length ≤ 1000
  tot : (h.lg.map fun t => t.ps.length).sum ≤ 1000
theorem nsOf_ok {h : Hy} (hk : OkH h) : ∀ {l : List Tx}, (∀ t ∈ l, t ∈ h.lg) → (nsOf h l).was.ms.length ≤ 1000 ∧ (nsOf h l).now.ms.length ≤ 1000 := by
  have key : ∀ (l : List Tx) (s : NS), (∀ t ∈ l, t ∈ h.lg) → s.was.ms.length ≤ 1000 → s.now.ms.length ≤ 1000 → (l.foldl nsStep s).was.ms.length ≤ 1000 ∧ (l.foldl nsStep s).now.ms.length ≤ 1000 := by
    intro l
    induction l with
    | nil => intro s _ h1 h2; exact ⟨h1, h2⟩
    | cons t l ih =>
      intro s hl h1 h2
      refine ih _ (fun t' h' => hl t' (by simp [h'])) ?_ ?_
      all_goals
        unfold nsStep
        split
      · exact h1
      · exact h2
      · exact h2
      · rename_i c hc
        unfold lastC at hc
        cases hg : (t.ps.filter fun p => decide (p.k = 5)).getLast? with
        | none => rw [hg] at hc; simp at hc
        | some p =>
          rw [hg] at hc
          simp only [Option.map_some, Option.some.injEq] at hc
          rw [← hc]
          exact (hk.ps t (hl t (by simp))).2 p (List.mem_filter.1 (List.mem_of_getLast? hg)).1
  intro l hl
  exact key l _ hl hk.c hk.c
theorem base_con (h : Hy) : ACon Try.prog 35 [.p (.agg h.cells)] (.p (.agg [I h.im.ae, I h.im.an])) := by
  unfold Hy.cells
  refine wBody Try.tab Try.mixed Try.func35 rfl rfl Try.ntmps35 (by simp) (by simp) fun Q hr hn => ?_
  repeat' first | (refine hK _ ?_; clear hK) | (refine hK _ _ ?_; clear hK) | (clear hK; refine hK _ ?_; clear hK) | (clear hK; clear hK; refine hK _ ?_; clear hK) | (clear hK; clear hK; clear hK; refine hK _ ?_; clear hK) | (clear hK; clear hK; clear hK; clear hK; refine hK _ ?_; clear hK) | (refine wSeq fun K hK => ?_) | ((first | refine wReg ?_ | refine wDrwQ rfl (by kernel_rfl) ?_ | refine wDrwI ?_ | refine wDrw (by kernel_rfl) ?_); simp only [List.map_cons, List.map_nil, strip]) | ((first | refine wIs fun K hK => ?_ | refine wOs fun K hK => ?_ | refine wQs fun K hK => ?_ | refine CallK_plain ?_ | refine CallQ_plain ?_ | refine CallR_plain ?_ | refine wCond ?_); simp) | (refine wIn ?_; refine And.intro (by kernel_rfl) ?_; try simp only [thenA_n]) | (first | refine wBlock ?_ | refine wScope ?_) | ((first | refine wRet ?_ | refine wExit ?_ | refine wSkip ?_); try simp) | ((first | refine wLabel ?_ | refine wOn ?_ | refine wQn ?_); try simp only [thenA_n])
  all_goals apply hr
  all_goals simp [Try.f35]
set_option maxHeartbeats 8000000 in
theorem needs_con (h : Hy) (de dn : Int) (hk : OkH h) : ACon Try.prog 21 [.p (.agg h.cells), .p (.agg [I de, I dn])] (.p (.sl 4 (cfs (needsOf h de dn)))) := by
  have c1 := base_con h
  have hlg := hk.lg
  have hns0 : nsOf h (h.lg.take 0) = ns0 h := by simp [nsOf]
  unfold Hy.cells at c1 ⊢
  refine wBody Try.tab Try.mixed Try.func21 rfl rfl Try.ntmps21 (by simp) (by simp) fun Q hr hn => ?_
  repeat' first | (refine hK _ ?_; clear hK) | (refine hK _ _ ?_; clear hK) | (clear hK; refine hK _ ?_; clear hK) | (clear hK; clear hK; refine hK _ ?_; clear hK) | (clear hK; clear hK; clear hK; refine hK _ ?_; clear hK) | (clear hK; clear hK; clear hK; clear hK; refine hK _ ?_; clear hK) | (refine wSeq fun K hK => ?_) | ((first | refine wReg ?_ | refine wDrwQ rfl (by kernel_rfl) ?_ | refine wDrwI ?_ | refine wDrw (by kernel_rfl) ?_); simp only [List.map_cons, List.map_nil, strip]) | ((first | refine wIs fun K hK => ?_ | refine wOs fun K hK => ?_ | refine wQs fun K hK => ?_ | refine CallK_plain ?_ | refine CallQ_plain ?_ | refine CallR_plain ?_ | refine wCond ?_); simp) | (refine wIn ?_; refine And.intro (by kernel_rfl) ?_; try simp only [thenA_n]) | (first | refine wBlock ?_ | refine wScope ?_) | ((first | refine wRet ?_ | refine wExit ?_ | refine wSkip ?_); try simp) | ((first | refine wLabel ?_ | refine wOn ?_ | refine wQn ?_); try simp only [thenA_n]) | (refine CallE.pure (c1) rfl ?_) | (refine CallE.lent (c1) rfl ?_) | (refine CallF.pure (c1) rfl ?_) | (refine CallF.lent (c1) rfl ?_) | (refine CallE.own (c1) ?_) | (refine CallH.pure (c1) rfl ?_) | (refine CallH.lent (c1) rfl ?_) | (refine CallH.own (c1) ?_)
  refine wLoop (fun N st => ∃ (k : Nat) (s : NS), k + N = h.lg.length ∧ s = nsOf h (h.lg.take k) ∧ st.s 3 = .ptr 3 0 ∧ st.b 3 = some (.box 25 [.p (I de), .p (I dn)]) ∧ st.s 5 = .ptr 5 0 ∧ st.b 5 = some (.box 28 [.p (I s.was.ep), .p (I s.was.n), .p (I s.was.kind), .p (.sl 4 (mbs s.was.ms))]) ∧ st.s 6 = .ptr 6 0 ∧ st.b 6 = some (.box 28 [.p (I s.now.ep), .p (I s.now.n), .p (I s.now.kind), .p (.sl 4 (mbs s.now.ms))]) ∧ st.s 7 = .ptr 7 0 ∧ st.b 7 = some (.box 25 [.p (I s.fe), .p (I s.fn)]) ∧ st.s 8 = .p (B s.ch) ∧ st.s 21 = .p (.sl 8 (txns h.lg)) ∧ st.s 22 = .p (I h.lg.length) ∧ st.s 23 = .p (I k)) h.lg.length ⟨0, ns0 h, by simp [ns0, nsOf]⟩ fun K N st hL ⟨k, s, hkN, hs, g3, b3, g5, b5, g6, b6, g7, b7, g8, g21, g22, g23⟩ => ?_
  by_cases hlt : k < h.lg.length
  · have hlt' : (k : Int) < h.lg.length := by omega
    have hw := wrapS k _ hlt (by omega)
    have he := txns_get hlt
    have hsn := nsOf_snoc h hlt
    rw [← hs] at hsn
    obtain ⟨hp1, hp2⟩ := hk.ps _ (List.getElem_mem hlt)
    have hwl : IntKind.i64.wrap ((h.lg[k].ps.length : Int) - 1) = (h.lg[k].ps.length : Int) - 1 := by rw [wrap_id] <;> omega
    repeat' first | (refine hK _ ?_; clear hK) | (refine hK _ _ ?_; clear hK) | (clear hK; refine hK _ ?_; clear hK) | (clear hK; clear hK; refine hK _ ?_; clear hK) | (clear hK; clear hK; clear hK; refine hK _ ?_; clear hK) | (clear hK; clear hK; clear hK; clear hK; refine hK _ ?_; clear hK) | (refine wSeq fun K hK => ?_) | ((first | refine wReg ?_ | refine wDrwQ rfl (by kernel_rfl) ?_ | refine wDrwI ?_ | refine wDrw (by kernel_rfl) ?_); simp only [List.map_cons, List.map_nil, strip]) | ((first | refine wIs fun K hK => ?_ | refine wOs fun K hK => ?_ | refine wQs fun K hK => ?_ | refine CallK_plain ?_ | refine CallQ_plain ?_ | refine CallR_plain ?_ | refine wCond ?_); simp [g3, b3, g5, b5, g6, b6, g7, b7, g8, g21, g22, g23, hlt, hlt', he, hwl]) | (refine wIn ?_; refine And.intro (by kernel_rfl) ?_; try simp only [thenA_n]) | (first | refine wBlock ?_ | refine wScope ?_) | ((first | refine wRet ?_ | refine wExit ?_ | refine wSkip ?_); try simp) | ((first | refine wLabel ?_ | refine wOn ?_ | refine wQn ?_); try simp only [thenA_n])
    refine wLoop (fun N' st => ∀ (q : Nat), q = N' → q ≤ h.lg[k].ps.length ∧ (∀ j (hj : j < h.lg[k].ps.length), q ≤ j → ¬ (h.lg[k].ps[j]).k = 5) ∧ st.s 3 = .ptr 3 0 ∧ st.b 3 = some (.box 25 [.p (I de), .p (I dn)]) ∧ st.s 5 = .ptr 5 0 ∧ st.b 5 = some (.box 28 [.p (I s.was.ep), .p (I s.was.n), .p (I s.was.kind), .p (.sl 4 (mbs s.was.ms))]) ∧ st.s 6 = .ptr 6 0 ∧ st.b 6 = some (.box 28 [.p (I s.now.ep), .p (I s.now.n), .p (I s.now.kind), .p (.sl 4 (mbs s.now.ms))]) ∧ st.s 7 = .ptr 7 0 ∧ st.b 7 = some (.box 25 [.p (I s.fe), .p (I s.fn)]) ∧ st.s 8 = .p (B s.ch) ∧ st.s 21 = .p (.sl 8 (txns h.lg)) ∧ st.s 22 = .p (I h.lg.length) ∧ st.s 23 = .p (I k) ∧ st.s 10 = .ptr 10 0 ∧ st.b 10 = some (.box 40 [.p (I h.lg[k].e), .p (I h.lg[k].n), .p (I h.lg[k].s), .p (I h.lg[k].x), .p (I h.lg[k].r), .p (I h.lg[k].b), .p (SB h.lg[k].m), .p (.sl 11 (pts h.lg[k].ps))]) ∧ st.s 11 = .p (I ((q : Int) - 1))) h.lg[k].ps.length (by rintro q rfl; refine ⟨by omega, fun j hj hq => by omega, ?_⟩; simp [g3, b3, g5, b5, g6, b6, g7, b7, g8, g21, g22, g23]) fun K' N' st hL' hi => ?_
    obtain ⟨hq, hno, e3, d3, e5, d5, e6, d6, e7, d7, e8, e21, e22, e23, e10, d10, e11⟩ := hi N' rfl
    cases N' with
    | zero =>
      have hlc := lastC_none (ps := h.lg[k].ps) fun j hj => hno j hj (by omega)
      have hss : nsStep s h.lg[k] = s := by unfold nsStep; rw [hlc]
      rw [hss] at hsn
      replace e11 : st.s 11 = .p (I (-1)) := by rw [e11]; rfl
      repeat' first | (refine hK _ ?_; clear hK) | (refine hK _ _ ?_; clear hK) | (clear hK; refine hK _ ?_; clear hK) | (clear hK; clear hK; refine hK _ ?_; clear hK) | (clear hK; clear hK; clear hK; refine hK _ ?_; clear hK) | (clear hK; clear hK; clear hK; clear hK; refine hK _ ?_; clear hK) | (refine wSeq fun K hK => ?_) | ((first | refine wReg ?_ | refine wDrwQ rfl (by kernel_rfl) ?_ | refine wDrwI ?_ | refine wDrw (by kernel_rfl) ?_); simp only [List.map_cons, List.map_nil, strip]) | ((first | refine wIs fun K hK => ?_ | refine wOs fun K hK => ?_ | refine wQs fun K hK => ?_ | refine CallK_plain ?_ | refine CallQ_plain ?_ | refine CallR_plain ?_ | refine wCond ?_); simp [e3, d3, e5, d5, e6, d6, e7, d7, e8, e21, e22, e23, e10, d10, e11, hw]) | (refine wIn ?_; refine And.intro (by kernel_rfl) ?_; try simp only [thenA_n]) | (first | refine wBlock ?_ | refine wScope ?_) | ((first | refine wRet ?_ | refine wExit ?_ | refine wSkip ?_); try simp) | ((first | refine wLabel ?_ | refine wOn ?_ | refine wQn ?_); try simp only [thenA_n])
      refine hL _ (N - 1) (by omega) ⟨k + 1, s, by omega, hsn.symm, ?_⟩
      simp [e3, d3, e5, d5, e6, d6, e7, d7, e8, e21, e22, e23, hw]
    | succ r =>
      have hr5 : r < h.lg[k].ps.length := by omega
      have hr5' : (r : Int) < h.lg[k].ps.length := by omega
      have her := pts_get hr5
      replace e11 : st.s 11 = .p (I (r : Int)) := by rw [e11]; congr 3; omega
      have hwr : IntKind.i64.wrap ((r : Int) - 1) = (r : Int) - 1 := by rw [wrap_id] <;> omega
      by_cases o : (h.lg[k].ps[r]).k = 5
      · have hlc := lastC_at hr5 o fun j hj hjr => hno j hj (by omega)
        have hss : nsStep s h.lg[k] = ⟨s.now, (h.lg[k].ps[r]).c, h.lg[k].e, h.lg[k].n, true⟩ := by unfold nsStep; rw [hlc]
        rw [hss] at hsn
        repeat' first | (refine hK _ ?_; clear hK) | (refine hK _ _ ?_; clear hK) | (clear hK; refine hK _ ?_; clear hK) | (clear hK; clear hK; refine hK _ ?_; clear hK) | (clear hK; clear hK; clear hK; refine hK _ ?_; clear hK) | (clear hK; clear hK; clear hK; clear hK; refine hK _ ?_; clear hK) | (refine wSeq fun K hK => ?_) | ((first | refine wReg ?_ | refine wDrwQ rfl (by kernel_rfl) ?_ | refine wDrwI ?_ | refine wDrw (by kernel_rfl) ?_); simp only [List.map_cons, List.map_nil, strip]) | ((first | refine wIs fun K hK => ?_ | refine wOs fun K hK => ?_ | refine wQs fun K hK => ?_ | refine CallK_plain ?_ | refine CallQ_plain ?_ | refine CallR_plain ?_ | refine wCond ?_); simp [e3, d3, e5, d5, e6, d6, e7, d7, e8, e21, e22, e23, e10, d10, e11, hw, her, hr5, hr5', o, Pt.cells]) | (refine wIn ?_; refine And.intro (by kernel_rfl) ?_; try simp only [thenA_n]) | (first | refine wBlock ?_ | refine wScope ?_) | ((first | refine wRet ?_ | refine wExit ?_ | refine wSkip ?_); try simp) | ((first | refine wLabel ?_ | refine wOn ?_ | refine wQn ?_); try simp only [thenA_n])
        refine hL _ (N - 1) (by omega) ⟨k + 1, _, by omega, hsn.symm, ?_⟩
        simp [e3, d3, e5, d5, e6, d6, e7, d7, e8, e21, e22, e23, hw]
      · repeat' first | (refine hK _ ?_; clear hK) | (refine hK _ _ ?_; clear hK) | (clear hK; refine hK _ ?_; clear hK) | (clear hK; clear hK; refine hK _ ?_; clear hK) | (clear hK; clear hK; clear hK; refine hK _ ?_; clear hK) | (clear hK; clear hK; clear hK; clear hK; refine hK _ ?_; clear hK) | (refine wSeq fun K hK => ?_) | ((first | refine wReg ?_ | refine wDrwQ rfl (by kernel_rfl) ?_ | refine wDrwI ?_ | refine wDrw (by kernel_rfl) ?_); simp only [List.map_cons, List.map_nil, strip]) | ((first | refine wIs fun K hK => ?_ | refine wOs fun K hK => ?_ | refine wQs fun K hK => ?_ | refine CallK_plain ?_ | refine CallQ_plain ?_ | refine CallR_plain ?_ | refine wCond ?_); simp [e3, d3, e5, d5, e6, d6, e7, d7, e8, e21, e22, e23, e10, d10, e11, her, hr5, hr5', o, hwr]) | (refine wIn ?_; refine And.intro (by kernel_rfl) ?_; try simp only [thenA_n]) | (first | refine wBlock ?_ | refine wScope ?_) | ((first | refine wRet ?_ | refine wExit ?_ | refine wSkip ?_); try simp) | ((first | refine wLabel ?_ | refine wOn ?_ | refine wQn ?_); try simp only [thenA_n])
        refine hL' _ r (by omega) ?_
        intro q hqr
        obtain rfl : r = q := hqr.symm
        refine ⟨by omega, fun j hj hjq => ?_, ?_⟩
        · by_cases hjr : j = r
          · subst hjr; exact o
          · exact hno j hj (by omega)
        · simp [e3, d3, e5, d5, e6, d6, e7, d7, e8, e21, e22, e23, e10, d10, hwr]
  · have hlt' : ¬ (k : Int) < h.lg.length := by omega
    rw [List.take_of_length_le (by omega)] at hs
    have hno : needsOf h de dn = endN s de dn := by unfold needsOf; rw [hs]
    rw [hno] at hr
    obtain ⟨hl1, hl2⟩ := nsOf_ok hk (l := h.lg) fun t ht => ht
    rw [← hs] at hl1 hl2
    have c2 := cmp_con s.fe s.fn de dn
    have c3 := ownConfig_con s.now.ep s.now.n s.now.kind (mbs s.now.ms) (by rw [mbs_len]; omega)
    have c4 := ownConfig_con s.was.ep s.was.n s.was.kind (mbs s.was.ms) (by rw [mbs_len]; omega)
    unfold endN at hr
    by_cases o1 : s.ch = false
    · rw [if_pos (.inl o1)] at hr
      rw [o1] at g8
      repeat' first | (refine hK _ ?_; clear hK) | (refine hK _ _ ?_; clear hK) | (clear hK; refine hK _ ?_; clear hK) | (clear hK; clear hK; refine hK _ ?_; clear hK) | (clear hK; clear hK; clear hK; refine hK _ ?_; clear hK) | (clear hK; clear hK; clear hK; clear hK; refine hK _ ?_; clear hK) | (refine wSeq fun K hK => ?_) | ((first | refine wReg ?_ | refine wDrwQ rfl (by kernel_rfl) ?_ | refine wDrwI ?_ | refine wDrw (by kernel_rfl) ?_); simp only [List.map_cons, List.map_nil, strip]) | ((first | refine wIs fun K hK => ?_ | refine wOs fun K hK => ?_ | refine wQs fun K hK => ?_ | refine CallK_plain ?_ | refine CallQ_plain ?_ | refine CallR_plain ?_ | refine wCond ?_); simp [g3, b3, g5, b5, g6, b6, g7, b7, g8, g21, g22, g23, hlt, hlt']) | (refine wIn ?_; refine And.intro (by kernel_rfl) ?_; try simp only [thenA_n]) | (first | refine wBlock ?_ | refine wScope ?_) | ((first | refine wRet ?_ | refine wExit ?_ | refine wSkip ?_); try simp) | ((first | refine wLabel ?_ | refine wOn ?_ | refine wQn ?_); try simp only [thenA_n]) | (refine CallE.pure (c2) rfl ?_) | (refine CallE.lent (c2) rfl ?_) | (refine CallF.pure (c2) rfl ?_) | (refine CallF.lent (c2) rfl ?_) | (refine CallE.own (c2) ?_) | (refine CallH.pure (c2) rfl ?_) | (refine CallH.lent (c2) rfl ?_) | (refine CallH.own (c2) ?_) | (refine CallE.pure (c3) rfl ?_) | (refine CallE.lent (c3) rfl ?_) | (refine CallF.pure (c3) rfl ?_) | (refine CallF.lent (c3) rfl ?_) | (refine CallE.own (c3) ?_) | (refine CallH.pure (c3) rfl ?_) | (refine CallH.lent (c3) rfl ?_) | (refine CallH.own (c3) ?_)
      all_goals apply hr
      all_goals simp [Try.f21, cfs, Cf.cells]
    · have o1' : s.ch = true := by simpa using o1
      rw [o1'] at g8
      by_cases o2 : zcmp s.fe s.fn de dn ≤ 0
      · rw [if_pos (.inr o2)] at hr
        repeat' first | (refine hK _ ?_; clear hK) | (refine hK _ _ ?_; clear hK) | (clear hK; refine hK _ ?_; clear hK) | (clear hK; clear hK; refine hK _ ?_; clear hK) | (clear hK; clear hK; clear hK; refine hK _ ?_; clear hK) | (clear hK; clear hK; clear hK; clear hK; refine hK _ ?_; clear hK) | (refine wSeq fun K hK => ?_) | ((first | refine wReg ?_ | refine wDrwQ rfl (by kernel_rfl) ?_ | refine wDrwI ?_ | refine wDrw (by kernel_rfl) ?_); simp only [List.map_cons, List.map_nil, strip]) | ((first | refine wIs fun K hK => ?_ | refine wOs fun K hK => ?_ | refine wQs fun K hK => ?_ | refine CallK_plain ?_ | refine CallQ_plain ?_ | refine CallR_plain ?_ | refine wCond ?_); simp [g3, b3, g5, b5, g6, b6, g7, b7, g8, g21, g22, g23, hlt, hlt', o2]) | (refine wIn ?_; refine And.intro (by kernel_rfl) ?_; try simp only [thenA_n]) | (first | refine wBlock ?_ | refine wScope ?_) | ((first | refine wRet ?_ | refine wExit ?_ | refine wSkip ?_); try simp) | ((first | refine wLabel ?_ | refine wOn ?_ | refine wQn ?_); try simp only [thenA_n]) | (refine CallE.pure (c2) rfl ?_) | (refine CallE.lent (c2) rfl ?_) | (refine CallF.pure (c2) rfl ?_) | (refine CallF.lent (c2) rfl ?_) | (refine CallE.own (c2) ?_) | (refine CallH.pure (c2) rfl ?_) | (refine CallH.lent (c2) rfl ?_) | (refine CallH.own (c2) ?_) | (refine CallE.pure (c3) rfl ?_) | (refine CallE.lent (c3) rfl ?_) | (refine CallF.pure (c3) rfl ?_) | (refine CallF.lent (c3) rfl ?_) | (refine CallE.own (c3) ?_) | (refine CallH.pure (c3) rfl ?_) | (refine CallH.lent (c3) rfl ?_) | (refine CallH.own (c3) ?_)
        all_goals apply hr
        all_goals simp [Try.f21, cfs, Cf.cells]
      · rw [if_neg (by rintro (h | h); exact o1 h; exact o2 h)] at hr
        repeat' first | (refine hK _ ?_; clear hK) | (refine hK _ _ ?_; clear hK) | (clear hK; refine hK _ ?_; clear hK) | (clear hK; clear hK; refine hK _ ?_; clear hK) | (clear hK; clear hK; clear hK; refine hK _ ?_; clear hK) | (clear hK; clear hK; clear hK; clear hK; refine hK _ ?_; clear hK) | (refine wSeq fun K hK => ?_) | ((first | refine wReg ?_ | refine wDrwQ rfl (by kernel_rfl) ?_ | refine wDrwI ?_ | refine wDrw (by kernel_rfl) ?_); simp only [List.map_cons, List.map_nil, strip]) | ((first | refine wIs fun K hK => ?_ | refine wOs fun K hK => ?_ | refine wQs fun K hK => ?_ | refine CallK_plain ?_ | refine CallQ_plain ?_ | refine CallR_plain ?_ | refine wCond ?_); simp [g3, b3, g5, b5, g6, b6, g7, b7, g8, g21, g22, g23, hlt, hlt', o2]) | (refine wIn ?_; refine And.intro (by kernel_rfl) ?_; try simp only [thenA_n]) | (first | refine wBlock ?_ | refine wScope ?_) | ((first | refine wRet ?_ | refine wExit ?_ | refine wSkip ?_); try simp) | ((first | refine wLabel ?_ | refine wOn ?_ | refine wQn ?_); try simp only [thenA_n]) | (refine CallE.pure (c2) rfl ?_) | (refine CallE.lent (c2) rfl ?_) | (refine CallF.pure (c2) rfl ?_) | (refine CallF.lent (c2) rfl ?_) | (refine CallE.own (c2) ?_) | (refine CallH.pure (c2) rfl ?_) | (refine CallH.lent (c2) rfl ?_) | (refine CallH.own (c2) ?_) | (refine CallE.pure (c3) rfl ?_) | (refine CallE.lent (c3) rfl ?_) | (refine CallF.pure (c3) rfl ?_) | (refine CallF.lent (c3) rfl ?_) | (refine CallE.own (c3) ?_) | (refine CallH.pure (c3) rfl ?_) | (refine CallH.lent (c3) rfl ?_) | (refine CallH.own (c3) ?_) | (refine CallE.pure (c4) rfl ?_) | (refine CallE.lent (c4) rfl ?_) | (refine CallF.pure (c4) rfl ?_) | (refine CallF.lent (c4) rfl ?_) | (refine CallE.own (c4) ?_) | (refine CallH.pure (c4) rfl ?_) | (refine CallH.lent (c4) rfl ?_) | (refine CallH.own (c4) ?_)
        all_goals apply hr
        all_goals simp [Try.f21, cfs, Cf.cells]
end Go.Proofs.Ytegoihognjpcjaa


/- States: a number taken out of a row of the call's own. -/
namespace Go.Proofs.Ytegoihognjpcjaa
set_option linter.unusedSimpArgs false
set_option linter.unusedVariables false
open Go Go.Av
attribute [local simp] Try.T1 Try.T2 Try.T3 Try.T4 Try.T5 Try.T9 Try.T12 Try.T15 Try.T16 Try.T17 Try.T21 Try.T22 Try.T23 Try.T25 Try.T26 Try.T28 Try.T30 Try.T31 Try.T33 Try.T34 Try.T35 Try.T36 Try.T37 Try.T38 Try.T40 Try.T42 Try.T43 Try.T44 Try.T45 Try.T46 Try.T48 Try.T49 Try.T50 Try.T51 Try.T52 Try.T53 Try.T54 Try.T55 Try.T56 Try.T57 Try.T58 Try.T59 Try.T60 Try.T61 Try.T62 Try.T64 Try.T66 Try.T67 Try.T68 Try.T69 Try.T70 Try.T71 Try.T72 Try.T73 Try.T74 Try.T75 Try.T76 Try.T77 Try.T78 Try.T80 Try.T81 Try.T82 Try.T83 Try.T84 Try.T85 Try.T86 Try.T88 Try.T89 Try.T90 Try.T91 Try.T92 Try.T93 Try.T94 Try.T95 Try.T96 Try.T97 Try.T98 Try.T99 Try.T100 Try.T101 Try.T102 Try.T103 Try.T104 Try.T105 Try.T106 Try.T107 Try.T108 Try.T109 Try.T110 Try.T111 Try.T112 Try.T113 Try.T116 Try.T119 Try.T120 Try.T123 Try.T124
attribute [local irreducible] Go.Av.CallK Go.Av.CallE Go.Av.CallQ Go.Av.CallF Go.Av.CallR Go.Av.CallH Go.Av.Con
theorem wrapX (k n : Nat) (h : k < n) (hn : n ≤ 9223372036854775807) : IntKind.i64.wrap ((k : Int) + 1) = ((k + 1 : Nat) : Int) := by
  rw [wrap_id] <;> omega
def zis (l : List Int) : List (List PV) := l.map fun x => [I x]
@[simp] theorem zis_len (l : List Int) : (zis l).length = l.length := by simp [zis]
@[simp] theorem zis_getElem (l : List Int) (k : Nat) (h : k < (zis l).length) : (zis l)[k] = [I (l[k]'(by simpa using h))] := by simp [zis]
theorem zis_get {l : List Int} {k : Nat} (h : k < l.length) : (zis l)[k]? = some [I l[k]] := by simp [zis, h]
/-- The numbers but one. -/
def but (l : List Int) (n : Int) : List Int := l.filter fun x => !decide (x = n)
theorem but_snoc {l : List Int} {k : Nat} (h : k < l.length) (n : Int) : but (l.take (k + 1)) n = if l[k] = n then but (l.take k) n else but (l.take k) n ++ [l[k]] := by
  rw [List.take_succ_eq_append_getElem h]
  unfold but
  rw [List.filter_append]
  by_cases g : l[k] = n <;> simp [g]
theorem but_len (l : List Int) (n : Int) : (but l n).length ≤ l.length := List.length_filter_le _ _
end Go.Proofs.Ytegoihognjpcjaa

