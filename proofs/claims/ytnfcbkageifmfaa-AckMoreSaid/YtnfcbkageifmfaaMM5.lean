/- MERGED KH KI KJ KL KM KN KP KQ -/
import Derived.Test.YtnfcbkageifmfaaMM4
import Derived.Test.YtnfcbkageifmfaaMM2
import Derived.Test.YtnfcbkageifmfaaMM3
/- Histories: the configs that are needed, by the program. -/
namespace Go.Proofs.Ytnfcbkageifmfaa
set_option linter.unusedSimpArgs false
set_option linter.unusedVariables false
open Go Go.Av
attribute [local simp] Try.T1 Try.T2 Try.T3 Try.T4 Try.T5 Try.T9 Try.T12 Try.T15 Try.T16 Try.T17 Try.T21 Try.T22 Try.T23 Try.T25 Try.T27 Try.T29 Try.T30 Try.T31 Try.T32 Try.T33 Try.T35 Try.T37 Try.T38 Try.T40 Try.T41 Try.T42 Try.T43 Try.T44 Try.T45 Try.T46 Try.T47 Try.T48 Try.T49 Try.T50 Try.T51 Try.T52 Try.T53 Try.T54 Try.T56 Try.T57 Try.T58 Try.T59 Try.T60 Try.T61 Try.T62 Try.T64 Try.T66 Try.T67 Try.T68 Try.T69 Try.T71 Try.T72 Try.T73 Try.T74 Try.T75 Try.T76 Try.T77 Try.T78 Try.T79 Try.T80 Try.T81 Try.T82 Try.T83 Try.T84 Try.T85 Try.T86 Try.T87 Try.T88 Try.T89 Try.T90 Try.T91 Try.T92 Try.T93 Try.T94 Try.T95 Try.T97 Try.T98 Try.T99 Try.T100 Try.T101 Try.T102 Try.T103 Try.T104 Try.T105 Try.T106 Try.T107 Try.T108 Try.T109 Try.T110 Try.T111 Try.T112 Try.T113 Try.T114 Try.T115 Try.T116 Try.T117 Try.T120 Try.T123 Try.T124 Try.T127 Try.T128
attribute [local irreducible] Go.Av.CallK Go.Av.CallE Go.Av.CallQ Go.Av.CallF Go.Av.CallR Go.Av.CallH Go.Av.Con
def lastC (ps : List Pt) : Option Cf := ((ps.filter fun p => decide (p.k = 5)).getLast?).map Pt.c
theorem lastC_at {ps : List Pt} {i : Nat} (hi : i < ps.length) (h : ps[i].k = 5) (hb : ∀ j (hj : j < ps.length), i < j → ¬ ps[j].k = 5) : lastC ps = some ps[i].c := by
  have e : ps = ps.take i ++ ps[i] :: ps.drop (i + 1) := by rw [← List.drop_eq_getElem_cons hi, List.take_append_drop]
  have e2 : (ps.drop (i + 1)).filter (fun p => decide (p.k = 5)) = [] := by
    rw [List.filter_eq_nil_iff]
    intro x hx
    obtain ⟨j, hj, rfl⟩ := List.getElem_of_mem hx
    rw [List.getElem_drop]
    have hj' : i + 1 + j < ps.length := by simp at hj; omega
    simpa using hb _ hj' (by omega)
  unfold lastC
  have e3 : ps.filter (fun p => decide (p.k = 5)) = (ps.take i).filter (fun p => decide (p.k = 5)) ++ [ps[i]] := by
    conv => lhs; rw [e]
    rw [List.filter_append, List.filter_cons, if_pos (decide_eq_true h), e2]
  rw [e3]
  simp
theorem lastC_none {ps : List Pt} (hb : ∀ j (hj : j < ps.length), ¬ ps[j].k = 5) : lastC ps = none := by
  have e2 : ps.filter (fun p => decide (p.k = 5)) = [] := by
    rw [List.filter_eq_nil_iff]
    intro x hx
    obtain ⟨j, hj, rfl⟩ := List.getElem_of_mem hx
    simpa using hb _ hj
  unfold lastC
  rw [e2]; rfl
structure NS where
  (was now : Cf)
  (fe fn : Int)
  (ch : Bool)
def nsStep (s : NS) (t : Tx) : NS := match lastC t.ps with
  | none => s
  | some c => ⟨s.now, c, t.e, t.n, true⟩
def ns0 (h : Hy) : NS := ⟨h.im.c, h.im.c, h.im.ae, h.im.an, false⟩
def nsOf (h : Hy) (l : List Tx) : NS := l.foldl nsStep (ns0 h)
theorem nsOf_snoc (h : Hy) {l : List Tx} {k : Nat} (hk : k < l.length) : nsOf h (l.take (k + 1)) = nsStep (nsOf h (l.take k)) l[k] := by
  rw [List.take_succ_eq_append_getElem hk, nsOf, List.foldl_append]; rfl
def endN (s : NS) (de dn : Int) : List Cf := if s.ch = false ∨ zcmp s.fe s.fn de dn ≤ 0 then [s.now] else [s.was, s.now]
def needsOf (h : Hy) (de dn : Int) : List Cf := endN (nsOf h h.lg) de dn
/-- What a history must be for the calls to do with it. -/
structure OkH (h : Hy) : Prop where
  ns : h.im.ns.length ≤ 1000
  ss : h.im.ss.length ≤ 1000
  c : h.im.c.ms.length ≤ 1000
  lg : h.lg.length ≤ 1000
  ps : ∀ t ∈ h.lg, t.ps.length ≤ 1000 ∧ ∀ p ∈ t.ps, p.c.ms.length ≤ 1000
  tot : (h.lg.map fun t => t.ps.length).sum ≤ 1000
theorem nsOf_ok {h : Hy} (hk : OkH h) : ∀ {l : List Tx}, (∀ t ∈ l, t ∈ h.lg) → (nsOf h l).was.ms.length ≤ 1000 ∧ (nsOf h l).now.ms.length ≤ 1000 := by
  have key : ∀ (l : List Tx) (s : NS), (∀ t ∈ l, t ∈ h.lg) → s.was.ms.length ≤ 1000 → s.now.ms.length ≤ 1000 → (l.foldl nsStep s).was.ms.length ≤ 1000 ∧ (l.foldl nsStep s).now.ms.length ≤ 1000 := by
    intro l
    induction l with
    | nil => intro s _ h1 h2; exact ⟨h1, h2⟩
    | cons t l ih =>
      intro s hl h1 h2
      refine ih _ (fun t' h' => hl t' (by simp [h'])) ?_ ?_
      all_goals
        unfold nsStep
        split
      · exact h1
      · exact h2
      · exact h2
      · rename_i c hc
        unfold lastC at hc
        cases hg : (t.ps.filter fun p => decide (p.k = 5)).getLast? with
        | none => rw [hg] at hc; simp at hc
        | some p =>
          rw [hg] at hc
          simp only [Option.map_some, Option.some.injEq] at hc
          rw [← hc]
          exact (hk.ps t (hl t (by simp))).2 p (List.mem_filter.1 (List.mem_of_getLast? hg)).1
  intro l hl
  exact key l _ hl hk.c hk.c
theorem base_con (h : Hy) : ACon Try.prog 55 [.p (.agg h.cells)] (.p (.agg [I h.im.ae, I h.im.an])) := by
  unfold Hy.cells
  refine wBody Try.tab Try.mixed Try.func55 rfl rfl Try.ntmps55 (by simp) (by simp) fun Q hr hn => ?_
  repeat' first | (refine hK _ ?_; clear hK) | (refine hK _ _ ?_; clear hK) | (clear hK; refine hK _ ?_; clear hK) | (clear hK; clear hK; refine hK _ ?_; clear hK) | (clear hK; clear hK; clear hK; refine hK _ ?_; clear hK) | (clear hK; clear hK; clear hK; clear hK; refine hK _ ?_; clear hK) | (refine wSeq fun K hK => ?_) | ((first | refine wReg ?_ | refine wDrwQ rfl (by kernel_rfl) ?_ | refine wDrwI ?_ | refine wDrw (by kernel_rfl) ?_); simp only [List.map_cons, List.map_nil, strip]) | ((first | refine wIs fun K hK => ?_ | refine wOs fun K hK => ?_ | refine wQs fun K hK => ?_ | refine CallK_plain ?_ | refine CallQ_plain ?_ | refine CallR_plain ?_ | refine wCond ?_); simp) | (refine wIn ?_; refine And.intro (by kernel_rfl) ?_; try simp only [thenA_n]) | (first | refine wBlock ?_ | refine wScope ?_) | ((first | refine wRet ?_ | refine wExit ?_ | refine wSkip ?_); try simp) | ((first | refine wLabel ?_ | refine wOn ?_ | refine wQn ?_); try simp only [thenA_n])
  all_goals apply hr
  all_goals simp [Try.f55]
set_option maxHeartbeats 8000000 in
theorem needs_con (h : Hy) (de dn : Int) (hk : OkH h) : ACon Try.prog 37 [.p (.agg h.cells), .p (.agg [I de, I dn])] (.p (.sl 4 (cfs (needsOf h de dn)))) := by
  have c1 := base_con h
  have hlg := hk.lg
  have hns0 : nsOf h (h.lg.take 0) = ns0 h := by simp [nsOf]
  unfold Hy.cells at c1 ⊢
  refine wBody Try.tab Try.mixed Try.func37 rfl rfl Try.ntmps37 (by simp) (by simp) fun Q hr hn => ?_
  repeat' first | (refine hK _ ?_; clear hK) | (refine hK _ _ ?_; clear hK) | (clear hK; refine hK _ ?_; clear hK) | (clear hK; clear hK; refine hK _ ?_; clear hK) | (clear hK; clear hK; clear hK; refine hK _ ?_; clear hK) | (clear hK; clear hK; clear hK; clear hK; refine hK _ ?_; clear hK) | (refine wSeq fun K hK => ?_) | ((first | refine wReg ?_ | refine wDrwQ rfl (by kernel_rfl) ?_ | refine wDrwI ?_ | refine wDrw (by kernel_rfl) ?_); simp only [List.map_cons, List.map_nil, strip]) | ((first | refine wIs fun K hK => ?_ | refine wOs fun K hK => ?_ | refine wQs fun K hK => ?_ | refine CallK_plain ?_ | refine CallQ_plain ?_ | refine CallR_plain ?_ | refine wCond ?_); simp) | (refine wIn ?_; refine And.intro (by kernel_rfl) ?_; try simp only [thenA_n]) | (first | refine wBlock ?_ | refine wScope ?_) | ((first | refine wRet ?_ | refine wExit ?_ | refine wSkip ?_); try simp) | ((first | refine wLabel ?_ | refine wOn ?_ | refine wQn ?_); try simp only [thenA_n]) | (refine CallE.pure (c1) rfl ?_) | (refine CallE.lent (c1) rfl ?_) | (refine CallF.pure (c1) rfl ?_) | (refine CallF.lent (c1) rfl ?_) | (refine CallE.own (c1) ?_) | (refine CallH.pure (c1) rfl ?_) | (refine CallH.lent (c1) rfl ?_) | (refine CallH.own (c1) ?_)
  refine wLoop (fun N st => ∃ (k : Nat) (s : NS), k + N = h.lg.length ∧ s = nsOf h (h.lg.take k) ∧ st.s 3 = .ptr 3 0 ∧ st.b 3 = some (.box 25 [.p (I de), .p (I dn)]) ∧ st.s 5 = .ptr 5 0 ∧ st.b 5 = some (.box 35 [.p (I s.was.ep), .p (I s.was.n), .p (I s.was.kind), .p (.sl 4 (mbs s.was.ms))]) ∧ st.s 6 = .ptr 6 0 ∧ st.b 6 = some (.box 35 [.p (I s.now.ep), .p (I s.now.n), .p (I s.now.kind), .p (.sl 4 (mbs s.now.ms))]) ∧ st.s 7 = .ptr 7 0 ∧ st.b 7 = some (.box 25 [.p (I s.fe), .p (I s.fn)]) ∧ st.s 8 = .p (B s.ch) ∧ st.s 21 = .p (.sl 8 (txns h.lg)) ∧ st.s 22 = .p (I h.lg.length) ∧ st.s 23 = .p (I k)) h.lg.length ⟨0, ns0 h, by simp [ns0, nsOf]⟩ fun K N st hL ⟨k, s, hkN, hs, g3, b3, g5, b5, g6, b6, g7, b7, g8, g21, g22, g23⟩ => ?_
  by_cases hlt : k < h.lg.length
  · have hlt' : (k : Int) < h.lg.length := by omega
    have hw := wrapS k _ hlt (by omega)
    have he := txns_get hlt
    have hsn := nsOf_snoc h hlt
    rw [← hs] at hsn
    obtain ⟨hp1, hp2⟩ := hk.ps _ (List.getElem_mem hlt)
    have hwl : IntKind.i64.wrap ((h.lg[k].ps.length : Int) - 1) = (h.lg[k].ps.length : Int) - 1 := by rw [wrap_id] <;> omega
    repeat' first | (refine hK _ ?_; clear hK) | (refine hK _ _ ?_; clear hK) | (clear hK; refine hK _ ?_; clear hK) | (clear hK; clear hK; refine hK _ ?_; clear hK) | (clear hK; clear hK; clear hK; refine hK _ ?_; clear hK) | (clear hK; clear hK; clear hK; clear hK; refine hK _ ?_; clear hK) | (refine wSeq fun K hK => ?_) | ((first | refine wReg ?_ | refine wDrwQ rfl (by kernel_rfl) ?_ | refine wDrwI ?_ | refine wDrw (by kernel_rfl) ?_); simp only [List.map_cons, List.map_nil, strip]) | ((first | refine wIs fun K hK => ?_ | refine wOs fun K hK => ?_ | refine wQs fun K hK => ?_ | refine CallK_plain ?_ | refine CallQ_plain ?_ | refine CallR_plain ?_ | refine wCond ?_); simp [g3, b3, g5, b5, g6, b6, g7, b7, g8, g21, g22, g23, hlt, hlt', he, hwl]) | (refine wIn ?_; refine And.intro (by kernel_rfl) ?_; try simp only [thenA_n]) | (first | refine wBlock ?_ | refine wScope ?_) | ((first | refine wRet ?_ | refine wExit ?_ | refine wSkip ?_); try simp) | ((first | refine wLabel ?_ | refine wOn ?_ | refine wQn ?_); try simp only [thenA_n])
    refine wLoop (fun N' st => ∀ (q : Nat), q = N' → q ≤ h.lg[k].ps.length ∧ (∀ j (hj : j < h.lg[k].ps.length), q ≤ j → ¬ (h.lg[k].ps[j]).k = 5) ∧ st.s 3 = .ptr 3 0 ∧ st.b 3 = some (.box 25 [.p (I de), .p (I dn)]) ∧ st.s 5 = .ptr 5 0 ∧ st.b 5 = some (.box 35 [.p (I s.was.ep), .p (I s.was.n), .p (I s.was.kind), .p (.sl 4 (mbs s.was.ms))]) ∧ st.s 6 = .ptr 6 0 ∧ st.b 6 = some (.box 35 [.p (I s.now.ep), .p (I s.now.n), .p (I s.now.kind), .p (.sl 4 (mbs s.now.ms))]) ∧ st.s 7 = .ptr 7 0 ∧ st.b 7 = some (.box 25 [.p (I s.fe), .p (I s.fn)]) ∧ st.s 8 = .p (B s.ch) ∧ st.s 21 = .p (.sl 8 (txns h.lg)) ∧ st.s 22 = .p (I h.lg.length) ∧ st.s 23 = .p (I k) ∧ st.s 10 = .ptr 10 0 ∧ st.b 10 = some (.box 56 [.p (I h.lg[k].e), .p (I h.lg[k].n), .p (I h.lg[k].s), .p (I h.lg[k].x), .p (I h.lg[k].r), .p (I h.lg[k].b), .p (SB h.lg[k].m), .p (.sl 11 (pts h.lg[k].ps))]) ∧ st.s 11 = .p (I ((q : Int) - 1))) h.lg[k].ps.length (by rintro q rfl; refine ⟨by omega, fun j hj hq => by omega, ?_⟩; simp [g3, b3, g5, b5, g6, b6, g7, b7, g8, g21, g22, g23]) fun K' N' st hL' hi => ?_
    obtain ⟨hq, hno, e3, d3, e5, d5, e6, d6, e7, d7, e8, e21, e22, e23, e10, d10, e11⟩ := hi N' rfl
    cases N' with
    | zero =>
      have hlc := lastC_none (ps := h.lg[k].ps) fun j hj => hno j hj (by omega)
      have hss : nsStep s h.lg[k] = s := by unfold nsStep; rw [hlc]
      rw [hss] at hsn
      replace e11 : st.s 11 = .p (I (-1)) := by rw [e11]; rfl
      repeat' first | (refine hK _ ?_; clear hK) | (refine hK _ _ ?_; clear hK) | (clear hK; refine hK _ ?_; clear hK) | (clear hK; clear hK; refine hK _ ?_; clear hK) | (clear hK; clear hK; clear hK; refine hK _ ?_; clear hK) | (clear hK; clear hK; clear hK; clear hK; refine hK _ ?_; clear hK) | (refine wSeq fun K hK => ?_) | ((first | refine wReg ?_ | refine wDrwQ rfl (by kernel_rfl) ?_ | refine wDrwI ?_ | refine wDrw (by kernel_rfl) ?_); simp only [List.map_cons, List.map_nil, strip]) | ((first | refine wIs fun K hK => ?_ | refine wOs fun K hK => ?_ | refine wQs fun K hK => ?_ | refine CallK_plain ?_ | refine CallQ_plain ?_ | refine CallR_plain ?_ | refine wCond ?_); simp [e3, d3, e5, d5, e6, d6, e7, d7, e8, e21, e22, e23, e10, d10, e11, hw]) | (refine wIn ?_; refine And.intro (by kernel_rfl) ?_; try simp only [thenA_n]) | (first | refine wBlock ?_ | refine wScope ?_) | ((first | refine wRet ?_ | refine wExit ?_ | refine wSkip ?_); try simp) | ((first | refine wLabel ?_ | refine wOn ?_ | refine wQn ?_); try simp only [thenA_n])
      refine hL _ (N - 1) (by omega) ⟨k + 1, s, by omega, hsn.symm, ?_⟩
      simp [e3, d3, e5, d5, e6, d6, e7, d7, e8, e21, e22, e23, hw]
    | succ r =>
      have hr5 : r < h.lg[k].ps.length := by omega
      have hr5' : (r : Int) < h.lg[k].ps.length := by omega
      have her := pts_get hr5
      replace e11 : st.s 11 = .p (I (r : Int)) := by rw [e11]; congr 3; omega
      have hwr : IntKind.i64.wrap ((r : Int) - 1) = (r : Int) - 1 := by rw [wrap_id] <;> omega
      by_cases o : (h.lg[k].ps[r]).k = 5
      · have hlc := lastC_at hr5 o fun j hj hjr => hno j hj (by omega)
        have hss : nsStep s h.lg[k] = ⟨s.now, (h.lg[k].ps[r]).c, h.lg[k].e, h.lg[k].n, true⟩ := by unfold nsStep; rw [hlc]
        rw [hss] at hsn
        repeat' first | (refine hK _ ?_; clear hK) | (refine hK _ _ ?_; clear hK) | (clear hK; refine hK _ ?_; clear hK) | (clear hK; clear hK; refine hK _ ?_; clear hK) | (clear hK; clear hK; clear hK; refine hK _ ?_; clear hK) | (clear hK; clear hK; clear hK; clear hK; refine hK _ ?_; clear hK) | (refine wSeq fun K hK => ?_) | ((first | refine wReg ?_ | refine wDrwQ rfl (by kernel_rfl) ?_ | refine wDrwI ?_ | refine wDrw (by kernel_rfl) ?_); simp only [List.map_cons, List.map_nil, strip]) | ((first | refine wIs fun K hK => ?_ | refine wOs fun K hK => ?_ | refine wQs fun K hK => ?_ | refine CallK_plain ?_ | refine CallQ_plain ?_ | refine CallR_plain ?_ | refine wCond ?_); simp [e3, d3, e5, d5, e6, d6, e7, d7, e8, e21, e22, e23, e10, d10, e11, hw, her, hr5, hr5', o, Pt.cells]) | (refine wIn ?_; refine And.intro (by kernel_rfl) ?_; try simp only [thenA_n]) | (first | refine wBlock ?_ | refine wScope ?_) | ((first | refine wRet ?_ | refine wExit ?_ | refine wSkip ?_); try simp) | ((first | refine wLabel ?_ | refine wOn ?_ | refine wQn ?_); try simp only [thenA_n])
        refine hL _ (N - 1) (by omega) ⟨k + 1, _, by omega, hsn.symm, ?_⟩
        simp [e3, d3, e5, d5, e6, d6, e7, d7, e8, e21, e22, e23, hw]
      · repeat' first | (refine hK _ ?_; clear hK) | (refine hK _ _ ?_; clear hK) | (clear hK; refine hK _ ?_; clear hK) | (clear hK; clear hK; refine hK _ ?_; clear hK) | (clear hK; clear hK; clear hK; refine hK _ ?_; clear hK) | (clear hK; clear hK; clear hK; clear hK; refine hK _ ?_; clear hK) | (refine wSeq fun K hK => ?_) | ((first | refine wReg ?_ | refine wDrwQ rfl (by kernel_rfl) ?_ | refine wDrwI ?_ | refine wDrw (by kernel_rfl) ?_); simp only [List.map_cons, List.map_nil, strip]) | ((first | refine wIs fun K hK => ?_ | refine wOs fun K hK => ?_ | refine wQs fun K hK => ?_ | refine CallK_plain ?_ | refine CallQ_plain ?_ | refine CallR_plain ?_ | refine wCond ?_); simp [e3, d3, e5, d5, e6, d6, e7, d7, e8, e21, e22, e23, e10, d10, e11, her, hr5, hr5', o, hwr]) | (refine wIn ?_; refine And.intro (by kernel_rfl) ?_; try simp only [thenA_n]) | (first | refine wBlock ?_ | refine wScope ?_) | ((first | refine wRet ?_ | refine wExit ?_ | refine wSkip ?_); try simp) | ((first | refine wLabel ?_ | refine wOn ?_ | refine wQn ?_); try simp only [thenA_n])
        refine hL' _ r (by omega) ?_
        intro q hqr
        obtain rfl : r = q := hqr.symm
        refine ⟨by omega, fun j hj hjq => ?_, ?_⟩
        · by_cases hjr : j = r
          · subst hjr; exact o
          · exact hno j hj (by omega)
        · simp [e3, d3, e5, d5, e6, d6, e7, d7, e8, e21, e22, e23, e10, d10, hwr]
  · have hlt' : ¬ (k : Int) < h.lg.length := by omega
    rw [List.take_of_length_le (by omega)] at hs
    have hno : needsOf h de dn = endN s de dn := by unfold needsOf; rw [hs]
    rw [hno] at hr
    obtain ⟨hl1, hl2⟩ := nsOf_ok hk (l := h.lg) fun t ht => ht
    rw [← hs] at hl1 hl2
    have c2 := cmp_con s.fe s.fn de dn
    have c3 := ownConfig_con s.now.ep s.now.n s.now.kind (mbs s.now.ms) (by rw [mbs_len]; omega)
    have c4 := ownConfig_con s.was.ep s.was.n s.was.kind (mbs s.was.ms) (by rw [mbs_len]; omega)
    unfold endN at hr
    by_cases o1 : s.ch = false
    · rw [if_pos (.inl o1)] at hr
      rw [o1] at g8
      repeat' first | (refine hK _ ?_; clear hK) | (refine hK _ _ ?_; clear hK) | (clear hK; refine hK _ ?_; clear hK) | (clear hK; clear hK; refine hK _ ?_; clear hK) | (clear hK; clear hK; clear hK; refine hK _ ?_; clear hK) | (clear hK; clear hK; clear hK; clear hK; refine hK _ ?_; clear hK) | (refine wSeq fun K hK => ?_) | ((first | refine wReg ?_ | refine wDrwQ rfl (by kernel_rfl) ?_ | refine wDrwI ?_ | refine wDrw (by kernel_rfl) ?_); simp only [List.map_cons, List.map_nil, strip]) | ((first | refine wIs fun K hK => ?_ | refine wOs fun K hK => ?_ | refine wQs fun K hK => ?_ | refine CallK_plain ?_ | refine CallQ_plain ?_ | refine CallR_plain ?_ | refine wCond ?_); simp [g3, b3, g5, b5, g6, b6, g7, b7, g8, g21, g22, g23, hlt, hlt']) | (refine wIn ?_; refine And.intro (by kernel_rfl) ?_; try simp only [thenA_n]) | (first | refine wBlock ?_ | refine wScope ?_) | ((first | refine wRet ?_ | refine wExit ?_ | refine wSkip ?_); try simp) | ((first | refine wLabel ?_ | refine wOn ?_ | refine wQn ?_); try simp only [thenA_n]) | (refine CallE.pure (c2) rfl ?_) | (refine CallE.lent (c2) rfl ?_) | (refine CallF.pure (c2) rfl ?_) | (refine CallF.lent (c2) rfl ?_) | (refine CallE.own (c2) ?_) | (refine CallH.pure (c2) rfl ?_) | (refine CallH.lent (c2) rfl ?_) | (refine CallH.own (c2) ?_) | (refine CallE.pure (c3) rfl ?_) | (refine CallE.lent (c3) rfl ?_) | (refine CallF.pure (c3) rfl ?_) | (refine CallF.lent (c3) rfl ?_) | (refine CallE.own (c3) ?_) | (refine CallH.pure (c3) rfl ?_) | (refine CallH.lent (c3) rfl ?_) | (refine CallH.own (c3) ?_)
      all_goals apply hr
      all_goals simp [Try.f37, cfs, Cf.cells]
    · have o1' : s.ch = true := by simpa using o1
      rw [o1'] at g8
      by_cases o2 : zcmp s.fe s.fn de dn ≤ 0
      · rw [if_pos (.inr o2)] at hr
        repeat' first | (refine hK _ ?_; clear hK) | (refine hK _ _ ?_; clear hK) | (clear hK; refine hK _ ?_; clear hK) | (clear hK; clear hK; refine hK _ ?_; clear hK) | (clear hK; clear hK; clear hK; refine hK _ ?_; clear hK) | (clear hK; clear hK; clear hK; clear hK; refine hK _ ?_; clear hK) | (refine wSeq fun K hK => ?_) | ((first | refine wReg ?_ | refine wDrwQ rfl (by kernel_rfl) ?_ | refine wDrwI ?_ | refine wDrw (by kernel_rfl) ?_); simp only [List.map_cons, List.map_nil, strip]) | ((first | refine wIs fun K hK => ?_ | refine wOs fun K hK => ?_ | refine wQs fun K hK => ?_ | refine CallK_plain ?_ | refine CallQ_plain ?_ | refine CallR_plain ?_ | refine wCond ?_); simp [g3, b3, g5, b5, g6, b6, g7, b7, g8, g21, g22, g23, hlt, hlt', o2]) | (refine wIn ?_; refine And.intro (by kernel_rfl) ?_; try simp only [thenA_n]) | (first | refine wBlock ?_ | refine wScope ?_) | ((first | refine wRet ?_ | refine wExit ?_ | refine wSkip ?_); try simp) | ((first | refine wLabel ?_ | refine wOn ?_ | refine wQn ?_); try simp only [thenA_n]) | (refine CallE.pure (c2) rfl ?_) | (refine CallE.lent (c2) rfl ?_) | (refine CallF.pure (c2) rfl ?_) | (refine CallF.lent (c2) rfl ?_) | (refine CallE.own (c2) ?_) | (refine CallH.pure (c2) rfl ?_) | (refine CallH.lent (c2) rfl ?_) | (refine CallH.own (c2) ?_) | (refine CallE.pure (c3) rfl ?_) | (refine CallE.lent (c3) rfl ?_) | (refine CallF.pure (c3) rfl ?_) | (refine CallF.lent (c3) rfl ?_) | (refine CallE.own (c3) ?_) | (refine CallH.pure (c3) rfl ?_) | (refine CallH.lent (c3) rfl ?_) | (refine CallH.own (c3) ?_)
        all_goals apply hr
        all_goals simp [Try.f37, cfs, Cf.cells]
      · rw [if_neg (by rintro (h | h); exact o1 h; exact o2 h)] at hr
        repeat' first | (refine hK _ ?_; clear hK) | (refine hK _ _ ?_; clear hK) | (clear hK; refine hK _ ?_; clear hK) | (clear hK; clear hK; refine hK _ ?_; clear hK) | (clear hK; clear hK; clear hK; refine hK _ ?_; clear hK) | (clear hK; clear hK; clear hK; clear hK; refine hK _ ?_; clear hK) | (refine wSeq fun K hK => ?_) | ((first | refine wReg ?_ | refine wDrwQ rfl (by kernel_rfl) ?_ | refine wDrwI ?_ | refine wDrw (by kernel_rfl) ?_); simp only [List.map_cons, List.map_nil, strip]) | ((first | refine wIs fun K hK => ?_ | refine wOs fun K hK => ?_ | refine wQs fun K hK => ?_ | refine CallK_plain ?_ | refine CallQ_plain ?_ | refine CallR_plain ?_ | refine wCond ?_); simp [g3, b3, g5, b5, g6, b6, g7, b7, g8, g21, g22, g23, hlt, hlt', o2]) | (refine wIn ?_; refine And.intro (by kernel_rfl) ?_; try simp only [thenA_n]) | (first | refine wBlock ?_ | refine wScope ?_) | ((first | refine wRet ?_ | refine wExit ?_ | refine wSkip ?_); try simp) | ((first | refine wLabel ?_ | refine wOn ?_ | refine wQn ?_); try simp only [thenA_n]) | (refine CallE.pure (c2) rfl ?_) | (refine CallE.lent (c2) rfl ?_) | (refine CallF.pure (c2) rfl ?_) | (refine CallF.lent (c2) rfl ?_) | (refine CallE.own (c2) ?_) | (refine CallH.pure (c2) rfl ?_) | (refine CallH.lent (c2) rfl ?_) | (refine CallH.own (c2) ?_) | (refine CallE.pure (c3) rfl ?_) | (refine CallE.lent (c3) rfl ?_) | (refine CallF.pure (c3) rfl ?_) | (refine CallF.lent (c3) rfl ?_) | (refine CallE.own (c3) ?_) | (refine CallH.pure (c3) rfl ?_) | (refine CallH.lent (c3) rfl ?_) | (refine CallH.own (c3) ?_) | (refine CallE.pure (c4) rfl ?_) | (refine CallE.lent (c4) rfl ?_) | (refine CallF.pure (c4) rfl ?_) | (refine CallF.lent (c4) rfl ?_) | (refine CallE.own (c4) ?_) | (refine CallH.pure (c4) rfl ?_) | (refine CallH.lent (c4) rfl ?_) | (refine CallH.own (c4) ?_)
        all_goals apply hr
        all_goals simp [Try.f37, cfs, Cf.cells]
end Go.Proofs.Ytnfcbkageifmfaa

/- Histories: what the document makes of them: copies, configs, those that are needed. -/
namespace Go.Proofs.Ytnfcbkageifmfaa
set_option linter.unusedSimpArgs false
set_option linter.unusedVariables false
open Go Go.Av
attribute [local simp] Try.T1 Try.T2 Try.T3 Try.T4 Try.T5 Try.T9 Try.T12 Try.T15 Try.T16 Try.T17 Try.T21 Try.T22 Try.T23 Try.T25 Try.T27 Try.T29 Try.T30 Try.T31 Try.T32 Try.T33 Try.T35 Try.T37 Try.T38 Try.T40 Try.T41 Try.T42 Try.T43 Try.T44 Try.T45 Try.T46 Try.T47 Try.T48 Try.T49 Try.T50 Try.T51 Try.T52 Try.T53 Try.T54 Try.T56 Try.T57 Try.T58 Try.T59 Try.T60 Try.T61 Try.T62 Try.T64 Try.T66 Try.T67 Try.T68 Try.T69 Try.T71 Try.T72 Try.T73 Try.T74 Try.T75 Try.T76 Try.T77 Try.T78 Try.T79 Try.T80 Try.T81 Try.T82 Try.T83 Try.T84 Try.T85 Try.T86 Try.T87 Try.T88 Try.T89 Try.T90 Try.T91 Try.T92 Try.T93 Try.T94 Try.T95 Try.T97 Try.T98 Try.T99 Try.T100 Try.T101 Try.T102 Try.T103 Try.T104 Try.T105 Try.T106 Try.T107 Try.T108 Try.T109 Try.T110 Try.T111 Try.T112 Try.T113 Try.T114 Try.T115 Try.T116 Try.T117 Try.T120 Try.T123 Try.T124 Try.T127 Try.T128
attribute [local irreducible] Go.Av.CallK Go.Av.CallE Go.Av.CallQ Go.Av.CallF Go.Av.CallR Go.Av.CallH Go.Av.Con
theorem txns_take (l : List Tx) (k : Nat) : (txns l).take k = txns (l.take k) := by simp [txns, List.map_take]
theorem own16_con (s : Sv) (h1 : s.ns.length ≤ 1000) (h2 : s.ss.length ≤ 1000) (h3 : s.c.ms.length ≤ 1000) : ACon Try.prog 46 [.p (.agg s.cells)] (.p (.agg s.cells)) := by
  have c := all08_con s [] ⟨by simp [psum]; omega, by simp [psum]; omega, by unfold okC; omega⟩ (by simp)
  rw [show allS s [] = s from rfl, show txns [] = [] from rfl] at c
  unfold Sv.cells at c ⊢
  refine wBody Try.tab Try.mixed Try.func46 rfl rfl Try.ntmps46 (by simp) (by simp) fun Q hr hn => ?_
  repeat' first | (refine hK _ ?_; clear hK) | (refine hK _ _ ?_; clear hK) | (clear hK; refine hK _ ?_; clear hK) | (clear hK; clear hK; refine hK _ ?_; clear hK) | (clear hK; clear hK; clear hK; refine hK _ ?_; clear hK) | (clear hK; clear hK; clear hK; clear hK; refine hK _ ?_; clear hK) | (refine wSeq fun K hK => ?_) | ((first | refine wReg ?_ | refine wDrwQ rfl (by kernel_rfl) ?_ | refine wDrwI ?_ | refine wDrw (by kernel_rfl) ?_); simp only [List.map_cons, List.map_nil, strip]) | ((first | refine wIs fun K hK => ?_ | refine wOs fun K hK => ?_ | refine wQs fun K hK => ?_ | refine CallK_plain ?_ | refine CallQ_plain ?_ | refine CallR_plain ?_ | refine wCond ?_); simp) | (refine wIn ?_; refine And.intro (by kernel_rfl) ?_; try simp only [thenA_n]) | (first | refine wBlock ?_ | refine wScope ?_) | ((first | refine wRet ?_ | refine wExit ?_ | refine wSkip ?_); try simp) | ((first | refine wLabel ?_ | refine wOn ?_ | refine wQn ?_); try simp only [thenA_n]) | (refine CallE.pure (c) rfl ?_) | (refine CallE.lent (c) rfl ?_) | (refine CallF.pure (c) rfl ?_) | (refine CallF.lent (c) rfl ?_) | (refine CallE.own (c) ?_) | (refine CallH.pure (c) rfl ?_) | (refine CallH.lent (c) rfl ?_) | (refine CallH.own (c) ?_)
  all_goals apply hr
  all_goals simp [Try.f46]
end Go.Proofs.Ytnfcbkageifmfaa

/- Histories: up to where they are committed, by the program. -/
namespace Go.Proofs.Ytnfcbkageifmfaa
set_option linter.unusedSimpArgs false
set_option linter.unusedVariables false
open Go Go.Av
attribute [local simp] Try.T1 Try.T2 Try.T3 Try.T4 Try.T5 Try.T9 Try.T12 Try.T15 Try.T16 Try.T17 Try.T21 Try.T22 Try.T23 Try.T25 Try.T27 Try.T29 Try.T30 Try.T31 Try.T32 Try.T33 Try.T35 Try.T37 Try.T38 Try.T40 Try.T41 Try.T42 Try.T43 Try.T44 Try.T45 Try.T46 Try.T47 Try.T48 Try.T49 Try.T50 Try.T51 Try.T52 Try.T53 Try.T54 Try.T56 Try.T57 Try.T58 Try.T59 Try.T60 Try.T61 Try.T62 Try.T64 Try.T66 Try.T67 Try.T68 Try.T69 Try.T71 Try.T72 Try.T73 Try.T74 Try.T75 Try.T76 Try.T77 Try.T78 Try.T79 Try.T80 Try.T81 Try.T82 Try.T83 Try.T84 Try.T85 Try.T86 Try.T87 Try.T88 Try.T89 Try.T90 Try.T91 Try.T92 Try.T93 Try.T94 Try.T95 Try.T97 Try.T98 Try.T99 Try.T100 Try.T101 Try.T102 Try.T103 Try.T104 Try.T105 Try.T106 Try.T107 Try.T108 Try.T109 Try.T110 Try.T111 Try.T112 Try.T113 Try.T114 Try.T115 Try.T116 Try.T117 Try.T120 Try.T123 Try.T124 Try.T127 Try.T128
attribute [local irreducible] Go.Av.CallK Go.Av.CallE Go.Av.CallQ Go.Av.CallF Go.Av.CallR Go.Av.CallH Go.Av.Con
theorem txns_take' (l : List Tx) (k : Nat) : (txns l).take k = txns (l.take k) := by simp [txns, List.map_take]
def comF (h : Hy) (self : Int) (l : List Lr) : List Tx → Nat → Int → Int → Int × Int
  | [], _, e, n => (e, n)
  | t :: r, k, e, n => if zcmp t.e t.n e n ≤ 0 then comF h self l r (k + 1) e n else if allQ (endN (nsOf h (h.lg.take (k + 1))) e n) (setS self 4 t.e t.n l) = true then comF h self l r (k + 1) t.e t.n else (e, n)
theorem sum_takeL {α : Type} (f : α → Nat) : ∀ (l : List α) (k : Nat), ((l.take k).map f).sum ≤ (l.map f).sum
  | [], k => by simp
  | x :: l, 0 => by simp
  | x :: l, k + 1 => by
    have := sum_takeL f l k
    rw [List.take_succ_cons, List.map_cons, List.map_cons, List.sum_cons, List.sum_cons]
    omega
theorem OkH.take {h : Hy} (hk : OkH h) (k : Nat) : OkH ⟨h.im, h.lg.take k⟩ := ⟨hk.ns, hk.ss, hk.c, by have := hk.lg; simp; omega, fun t ht => hk.ps t (List.mem_of_mem_take ht), Nat.le_trans (sum_takeL _ _ _) hk.tot⟩
theorem needs_take (h : Hy) (k : Nat) (e n : Int) : needsOf ⟨h.im, h.lg.take k⟩ e n = endN (nsOf h (h.lg.take k)) e n := rfl
theorem needs_ok {h : Hy} (hk : OkH h) (e n : Int) : ∀ c ∈ needsOf h e n, c.ms.length ≤ 1000 := by
  intro c hc
  obtain ⟨h1, h2⟩ := nsOf_ok hk (l := h.lg) fun t ht => ht
  unfold needsOf endN at hc
  split at hc
  · simp only [List.mem_cons, List.not_mem_nil, or_false] at hc
    subst hc; exact h2
  · simp only [List.mem_cons, List.not_mem_nil, or_false] at hc
    rcases hc with rfl | rfl
    · exact h1
    · exact h2
theorem endN_len (s : NS) (e n : Int) : (endN s e n).length ≤ 2 := by unfold endN; split <;> simp
set_option maxHeartbeats 8000000 in
theorem commit_con (h : Hy) (de dn self : Int) (l : List Lr) (hk : OkH h) (hl : l.length ≤ 100000) : ACon Try.prog 16 [.p (.agg h.cells), .p (.agg [I de, I dn]), .p (I self), .p (.sl 8 (lrs l))] (.p (.agg [I (comF h self l h.lg 0 de dn).1, I (comF h self l h.lg 0 de dn).2])) := by
  have hlg := hk.lg
  unfold Hy.cells
  refine wBody Try.tab Try.mixed Try.func16 rfl rfl Try.ntmps16 (by simp) (by simp) fun Q hr hn => ?_
  repeat' first | (refine hK _ ?_; clear hK) | (refine hK _ _ ?_; clear hK) | (clear hK; refine hK _ ?_; clear hK) | (clear hK; clear hK; refine hK _ ?_; clear hK) | (clear hK; clear hK; clear hK; refine hK _ ?_; clear hK) | (clear hK; clear hK; clear hK; clear hK; refine hK _ ?_; clear hK) | (refine wSeq fun K hK => ?_) | ((first | refine wReg ?_ | refine wDrwQ rfl (by kernel_rfl) ?_ | refine wDrwI ?_ | refine wDrw (by kernel_rfl) ?_); simp only [List.map_cons, List.map_nil, strip]) | ((first | refine wIs fun K hK => ?_ | refine wOs fun K hK => ?_ | refine wQs fun K hK => ?_ | refine CallK_plain ?_ | refine CallQ_plain ?_ | refine CallR_plain ?_ | refine wCond ?_); simp) | (refine wIn ?_; refine And.intro (by kernel_rfl) ?_; try simp only [thenA_n]) | (first | refine wBlock ?_ | refine wScope ?_) | ((first | refine wRet ?_ | refine wExit ?_ | refine wSkip ?_); try simp) | ((first | refine wLabel ?_ | refine wOn ?_ | refine wQn ?_); try simp only [thenA_n])
  refine wLoop (fun N st => ∃ (k : Nat) (e n : Int), k + N = h.lg.length ∧ comF h self l (h.lg.drop k) k e n = comF h self l h.lg 0 de dn ∧ st.s 2 = .p (I self) ∧ st.s 3 = .p (.sl 8 (lrs l)) ∧ st.s 4 = .ptr 4 0 ∧ st.b 4 = some (.box 40 [.p (.sl 5 (zns h.im.ns)), .p (.sl 1 (ints h.im.ss)), .p (I h.im.nx), .p (I h.im.c.ep), .p (I h.im.c.n), .p (I h.im.c.kind), .p (.sl 4 (mbs h.im.c.ms)), .p (I h.im.ae), .p (I h.im.an), .p (.sl 8 (txns h.lg))]) ∧ st.s 5 = .ptr 5 0 ∧ st.b 5 = some (.box 25 [.p (I e), .p (I n)]) ∧ st.s 8 = .ptr 8 0 ∧ st.b 8 = some (.box 25 [.p (I 0), .p (I 0)]) ∧ st.s 14 = .p (I h.lg.length) ∧ st.s 15 = .p (I k)) h.lg.length ⟨0, de, dn, by simp⟩ fun K N st hL ⟨k, e, n, hkN, hi, g2, g3, g4, b4, gc, bc, g8, b8, gl, gk⟩ => ?_
  by_cases hlt : k < h.lg.length
  · have hlt' : (k : Int) < h.lg.length := by omega
    have hlt2 : k + 1 ≤ h.lg.length := by omega
    have h0k : (0 : Int) ≤ (k : Int) + 1 := by omega
    have hw := wrapS k _ hlt (by omega)
    have he := txns_get hlt
    have ht := txns_take' h.lg (k + 1)
    have c1 := cmp_con h.lg[k].e h.lg[k].n e n
    rw [List.drop_eq_getElem_cons hlt] at hi
    simp only [comF] at hi
    by_cases o1 : zcmp h.lg[k].e h.lg[k].n e n ≤ 0
    · rw [if_pos o1] at hi
      repeat' first | (refine hK _ ?_; clear hK) | (refine hK _ _ ?_; clear hK) | (clear hK; refine hK _ ?_; clear hK) | (clear hK; clear hK; refine hK _ ?_; clear hK) | (clear hK; clear hK; clear hK; refine hK _ ?_; clear hK) | (clear hK; clear hK; clear hK; clear hK; refine hK _ ?_; clear hK) | (refine wSeq fun K hK => ?_) | ((first | refine wReg ?_ | refine wDrwQ rfl (by kernel_rfl) ?_ | refine wDrwI ?_ | refine wDrw (by kernel_rfl) ?_); simp only [List.map_cons, List.map_nil, strip]) | ((first | refine wIs fun K hK => ?_ | refine wOs fun K hK => ?_ | refine wQs fun K hK => ?_ | refine CallK_plain ?_ | refine CallQ_plain ?_ | refine CallR_plain ?_ | refine wCond ?_); simp [g2, g3, g4, b4, gc, bc, g8, b8, gl, gk, hlt, hlt', he, o1, hw, Tx.cells]) | (refine wIn ?_; refine And.intro (by kernel_rfl) ?_; try simp only [thenA_n]) | (first | refine wBlock ?_ | refine wScope ?_) | ((first | refine wRet ?_ | refine wExit ?_ | refine wSkip ?_); try simp) | ((first | refine wLabel ?_ | refine wOn ?_ | refine wQn ?_); try simp only [thenA_n]) | (refine CallE.pure (c1) rfl ?_) | (refine CallE.lent (c1) rfl ?_) | (refine CallF.pure (c1) rfl ?_) | (refine CallF.lent (c1) rfl ?_) | (refine CallE.own (c1) ?_) | (refine CallH.pure (c1) rfl ?_) | (refine CallH.lent (c1) rfl ?_) | (refine CallH.own (c1) ?_)
      refine hL _ (N - 1) (by omega) ⟨k + 1, e, n, by omega, hi, ?_⟩
      simp [g2, g3, g4, b4, gc, bc, g8, b8, gl, gk, hw]
    · rw [if_neg o1] at hi
      have hk2 : OkH ⟨h.im, h.lg.take (k + 1)⟩ := hk.take (k + 1)
      have c2 := needs_con ⟨h.im, h.lg.take (k + 1)⟩ e n hk2
      have hcf := needs_ok hk2 e n
      rw [needs_take] at c2 hcf
      have c3 := set_con self 4 h.lg[k].e h.lg[k].n l hl
      have c4 := all_con (endN (nsOf h (h.lg.take (k + 1))) e n) (setS self 4 h.lg[k].e h.lg[k].n l) (by have := endN_len (nsOf h (h.lg.take (k + 1))) e n; omega) (fun c hc => by have := hcf c hc; omega)
      unfold Hy.cells at c2
      simp only at c2
      generalize endN (nsOf h (h.lg.take (k + 1))) e n = nd at c2 c4 hi
      generalize setS self 4 h.lg[k].e h.lg[k].n l = ss at c3 c4 hi
      by_cases o2 : allQ nd ss = true
      · rw [if_pos o2] at hi
        rw [o2] at c4
        repeat' first | (refine hK _ ?_; clear hK) | (refine hK _ _ ?_; clear hK) | (clear hK; refine hK _ ?_; clear hK) | (clear hK; clear hK; refine hK _ ?_; clear hK) | (clear hK; clear hK; clear hK; refine hK _ ?_; clear hK) | (clear hK; clear hK; clear hK; clear hK; refine hK _ ?_; clear hK) | (refine wSeq fun K hK => ?_) | ((first | refine wReg ?_ | refine wDrwQ rfl (by kernel_rfl) ?_ | refine wDrwI ?_ | refine wDrw (by kernel_rfl) ?_); simp only [List.map_cons, List.map_nil, strip]) | ((first | refine wIs fun K hK => ?_ | refine wOs fun K hK => ?_ | refine wQs fun K hK => ?_ | refine CallK_plain ?_ | refine CallQ_plain ?_ | refine CallR_plain ?_ | refine wCond ?_); simp [g2, g3, g4, b4, gc, bc, g8, b8, gl, gk, hlt, hlt', hlt2, h0k, he, o1, hw, ht, Tx.cells]) | (refine wIn ?_; refine And.intro (by kernel_rfl) ?_; try simp only [thenA_n]) | (first | refine wBlock ?_ | refine wScope ?_) | ((first | refine wRet ?_ | refine wExit ?_ | refine wSkip ?_); try simp) | ((first | refine wLabel ?_ | refine wOn ?_ | refine wQn ?_); try simp only [thenA_n]) | (refine CallE.pure (c1) rfl ?_) | (refine CallE.lent (c1) rfl ?_) | (refine CallF.pure (c1) rfl ?_) | (refine CallF.lent (c1) rfl ?_) | (refine CallE.own (c1) ?_) | (refine CallH.pure (c1) rfl ?_) | (refine CallH.lent (c1) rfl ?_) | (refine CallH.own (c1) ?_) | (refine CallE.pure (c2) rfl ?_) | (refine CallE.lent (c2) rfl ?_) | (refine CallF.pure (c2) rfl ?_) | (refine CallF.lent (c2) rfl ?_) | (refine CallE.own (c2) ?_) | (refine CallH.pure (c2) rfl ?_) | (refine CallH.lent (c2) rfl ?_) | (refine CallH.own (c2) ?_) | (refine CallE.pure (c3) rfl ?_) | (refine CallE.lent (c3) rfl ?_) | (refine CallF.pure (c3) rfl ?_) | (refine CallF.lent (c3) rfl ?_) | (refine CallE.own (c3) ?_) | (refine CallH.pure (c3) rfl ?_) | (refine CallH.lent (c3) rfl ?_) | (refine CallH.own (c3) ?_) | (refine CallE.pure (c4) rfl ?_) | (refine CallE.lent (c4) rfl ?_) | (refine CallF.pure (c4) rfl ?_) | (refine CallF.lent (c4) rfl ?_) | (refine CallE.own (c4) ?_) | (refine CallH.pure (c4) rfl ?_) | (refine CallH.lent (c4) rfl ?_) | (refine CallH.own (c4) ?_)
        refine hL _ (N - 1) (by omega) ⟨k + 1, _, _, by omega, hi, ?_⟩
        simp [g2, g3, g4, b4, gc, bc, g8, b8, gl, gk, hw]
      · rw [if_neg o2] at hi
        rw [← hi] at hr
        simp only [Bool.not_eq_true] at o2
        rw [o2] at c4
        repeat' first | (refine hK _ ?_; clear hK) | (refine hK _ _ ?_; clear hK) | (clear hK; refine hK _ ?_; clear hK) | (clear hK; clear hK; refine hK _ ?_; clear hK) | (clear hK; clear hK; clear hK; refine hK _ ?_; clear hK) | (clear hK; clear hK; clear hK; clear hK; refine hK _ ?_; clear hK) | (refine wSeq fun K hK => ?_) | ((first | refine wReg ?_ | refine wDrwQ rfl (by kernel_rfl) ?_ | refine wDrwI ?_ | refine wDrw (by kernel_rfl) ?_); simp only [List.map_cons, List.map_nil, strip]) | ((first | refine wIs fun K hK => ?_ | refine wOs fun K hK => ?_ | refine wQs fun K hK => ?_ | refine CallK_plain ?_ | refine CallQ_plain ?_ | refine CallR_plain ?_ | refine wCond ?_); simp [g2, g3, g4, b4, gc, bc, g8, b8, gl, gk, hlt, hlt', hlt2, h0k, he, o1, hw, ht, Tx.cells]) | (refine wIn ?_; refine And.intro (by kernel_rfl) ?_; try simp only [thenA_n]) | (first | refine wBlock ?_ | refine wScope ?_) | ((first | refine wRet ?_ | refine wExit ?_ | refine wSkip ?_); try simp) | ((first | refine wLabel ?_ | refine wOn ?_ | refine wQn ?_); try simp only [thenA_n]) | (refine CallE.pure (c1) rfl ?_) | (refine CallE.lent (c1) rfl ?_) | (refine CallF.pure (c1) rfl ?_) | (refine CallF.lent (c1) rfl ?_) | (refine CallE.own (c1) ?_) | (refine CallH.pure (c1) rfl ?_) | (refine CallH.lent (c1) rfl ?_) | (refine CallH.own (c1) ?_) | (refine CallE.pure (c2) rfl ?_) | (refine CallE.lent (c2) rfl ?_) | (refine CallF.pure (c2) rfl ?_) | (refine CallF.lent (c2) rfl ?_) | (refine CallE.own (c2) ?_) | (refine CallH.pure (c2) rfl ?_) | (refine CallH.lent (c2) rfl ?_) | (refine CallH.own (c2) ?_) | (refine CallE.pure (c3) rfl ?_) | (refine CallE.lent (c3) rfl ?_) | (refine CallF.pure (c3) rfl ?_) | (refine CallF.lent (c3) rfl ?_) | (refine CallE.own (c3) ?_) | (refine CallH.pure (c3) rfl ?_) | (refine CallH.lent (c3) rfl ?_) | (refine CallH.own (c3) ?_) | (refine CallE.pure (c4) rfl ?_) | (refine CallE.lent (c4) rfl ?_) | (refine CallF.pure (c4) rfl ?_) | (refine CallF.lent (c4) rfl ?_) | (refine CallE.own (c4) ?_) | (refine CallH.pure (c4) rfl ?_) | (refine CallH.lent (c4) rfl ?_) | (refine CallH.own (c4) ?_)
        all_goals apply hr
        all_goals simp [Try.f16, g8, b8, gc, bc]
  · have hlt' : ¬ (k : Int) < h.lg.length := by omega
    rw [List.drop_of_length_le (by omega)] at hi
    simp only [comF] at hi
    rw [← hi] at hr
    repeat' first | (refine hK _ ?_; clear hK) | (refine hK _ _ ?_; clear hK) | (clear hK; refine hK _ ?_; clear hK) | (clear hK; clear hK; refine hK _ ?_; clear hK) | (clear hK; clear hK; clear hK; refine hK _ ?_; clear hK) | (clear hK; clear hK; clear hK; clear hK; refine hK _ ?_; clear hK) | (refine wSeq fun K hK => ?_) | ((first | refine wReg ?_ | refine wDrwQ rfl (by kernel_rfl) ?_ | refine wDrwI ?_ | refine wDrw (by kernel_rfl) ?_); simp only [List.map_cons, List.map_nil, strip]) | ((first | refine wIs fun K hK => ?_ | refine wOs fun K hK => ?_ | refine wQs fun K hK => ?_ | refine CallK_plain ?_ | refine CallQ_plain ?_ | refine CallR_plain ?_ | refine wCond ?_); simp [g2, g3, g4, b4, gc, bc, g8, b8, gl, gk, hlt, hlt']) | (refine wIn ?_; refine And.intro (by kernel_rfl) ?_; try simp only [thenA_n]) | (first | refine wBlock ?_ | refine wScope ?_) | ((first | refine wRet ?_ | refine wExit ?_ | refine wSkip ?_); try simp) | ((first | refine wLabel ?_ | refine wOn ?_ | refine wQn ?_); try simp only [thenA_n])
    all_goals apply hr
    all_goals simp [Try.f16, g8, b8, gc, bc]
end Go.Proofs.Ytnfcbkageifmfaa

/- Histories: their configs, and those that are needed, by the document. -/
namespace Go.Proofs.Ytnfcbkageifmfaa
set_option linter.unusedSimpArgs false
set_option linter.unusedVariables false
open Go Go.Av
attribute [local simp] Try.T1 Try.T2 Try.T3 Try.T4 Try.T5 Try.T9 Try.T12 Try.T15 Try.T16 Try.T17 Try.T21 Try.T22 Try.T23 Try.T25 Try.T27 Try.T29 Try.T30 Try.T31 Try.T32 Try.T33 Try.T35 Try.T37 Try.T38 Try.T40 Try.T41 Try.T42 Try.T43 Try.T44 Try.T45 Try.T46 Try.T47 Try.T48 Try.T49 Try.T50 Try.T51 Try.T52 Try.T53 Try.T54 Try.T56 Try.T57 Try.T58 Try.T59 Try.T60 Try.T61 Try.T62 Try.T64 Try.T66 Try.T67 Try.T68 Try.T69 Try.T71 Try.T72 Try.T73 Try.T74 Try.T75 Try.T76 Try.T77 Try.T78 Try.T79 Try.T80 Try.T81 Try.T82 Try.T83 Try.T84 Try.T85 Try.T86 Try.T87 Try.T88 Try.T89 Try.T90 Try.T91 Try.T92 Try.T93 Try.T94 Try.T95 Try.T97 Try.T98 Try.T99 Try.T100 Try.T101 Try.T102 Try.T103 Try.T104 Try.T105 Try.T106 Try.T107 Try.T108 Try.T109 Try.T110 Try.T111 Try.T112 Try.T113 Try.T114 Try.T115 Try.T116 Try.T117 Try.T120 Try.T123 Try.T124 Try.T127 Try.T128
attribute [local irreducible] Go.Av.CallK Go.Av.CallE Go.Av.CallQ Go.Av.CallF Go.Av.CallR Go.Av.CallH Go.Av.Con
end Go.Proofs.Ytnfcbkageifmfaa

/- Histories: up to where they are committed, by the document. -/
namespace Go.Proofs.Ytnfcbkageifmfaa
set_option linter.unusedSimpArgs false
set_option linter.unusedVariables false
open Go Go.Av
attribute [local simp] Try.T1 Try.T2 Try.T3 Try.T4 Try.T5 Try.T9 Try.T12 Try.T15 Try.T16 Try.T17 Try.T21 Try.T22 Try.T23 Try.T25 Try.T27 Try.T29 Try.T30 Try.T31 Try.T32 Try.T33 Try.T35 Try.T37 Try.T38 Try.T40 Try.T41 Try.T42 Try.T43 Try.T44 Try.T45 Try.T46 Try.T47 Try.T48 Try.T49 Try.T50 Try.T51 Try.T52 Try.T53 Try.T54 Try.T56 Try.T57 Try.T58 Try.T59 Try.T60 Try.T61 Try.T62 Try.T64 Try.T66 Try.T67 Try.T68 Try.T69 Try.T71 Try.T72 Try.T73 Try.T74 Try.T75 Try.T76 Try.T77 Try.T78 Try.T79 Try.T80 Try.T81 Try.T82 Try.T83 Try.T84 Try.T85 Try.T86 Try.T87 Try.T88 Try.T89 Try.T90 Try.T91 Try.T92 Try.T93 Try.T94 Try.T95 Try.T97 Try.T98 Try.T99 Try.T100 Try.T101 Try.T102 Try.T103 Try.T104 Try.T105 Try.T106 Try.T107 Try.T108 Try.T109 Try.T110 Try.T111 Try.T112 Try.T113 Try.T114 Try.T115 Try.T116 Try.T117 Try.T120 Try.T123 Try.T124 Try.T127 Try.T128
attribute [local irreducible] Go.Av.CallK Go.Av.CallE Go.Av.CallQ Go.Av.CallF Go.Av.CallR Go.Av.CallH Go.Av.Con
end Go.Proofs.Ytnfcbkageifmfaa

/- Histories: what of them is committed; the law AckCommits. -/
namespace Go.Proofs.Ytnfcbkageifmfaa
set_option linter.unusedSimpArgs false
set_option linter.unusedVariables false
open Go Go.Av
attribute [local simp] Try.T1 Try.T2 Try.T3 Try.T4 Try.T5 Try.T9 Try.T12 Try.T15 Try.T16 Try.T17 Try.T21 Try.T22 Try.T23 Try.T25 Try.T27 Try.T29 Try.T30 Try.T31 Try.T32 Try.T33 Try.T35 Try.T37 Try.T38 Try.T40 Try.T41 Try.T42 Try.T43 Try.T44 Try.T45 Try.T46 Try.T47 Try.T48 Try.T49 Try.T50 Try.T51 Try.T52 Try.T53 Try.T54 Try.T56 Try.T57 Try.T58 Try.T59 Try.T60 Try.T61 Try.T62 Try.T64 Try.T66 Try.T67 Try.T68 Try.T69 Try.T71 Try.T72 Try.T73 Try.T74 Try.T75 Try.T76 Try.T77 Try.T78 Try.T79 Try.T80 Try.T81 Try.T82 Try.T83 Try.T84 Try.T85 Try.T86 Try.T87 Try.T88 Try.T89 Try.T90 Try.T91 Try.T92 Try.T93 Try.T94 Try.T95 Try.T97 Try.T98 Try.T99 Try.T100 Try.T101 Try.T102 Try.T103 Try.T104 Try.T105 Try.T106 Try.T107 Try.T108 Try.T109 Try.T110 Try.T111 Try.T112 Try.T113 Try.T114 Try.T115 Try.T116 Try.T117 Try.T120 Try.T123 Try.T124 Try.T127 Try.T128
attribute [local irreducible] Go.Av.CallK Go.Av.CallE Go.Av.CallQ Go.Av.CallF Go.Av.CallR Go.Av.CallH Go.Av.Con
theorem OkH.of {h : Hy} {l : List Lr} (hn : nearK h l) : OkH h := by
  obtain ⟨h1, h2, h3, h4⟩ := hn
  unfold wH at h4
  have e0 : ∀ l : List Tx, (l.map fun t => t.ps.length).sum ≤ (l.map wT).sum := by
    intro l
    induction l with
    | nil => simp
    | cons t l ih =>
      rw [List.map_cons, List.map_cons, List.sum_cons, List.sum_cons]
      have : t.ps.length ≤ wT t := by unfold wT; omega
      omega
  have e00 := e0 h.lg
  refine ⟨by omega, by omega, by omega, by omega, fun t ht => ⟨by have := h2 t ht; omega, fun p hp => ?_⟩, by omega⟩
  have e1 := sum_le wT ht
  have e2 := sum_le (fun p : Pt => p.c.ms.length) hp
  unfold wT at e1
  unfold wT at h4
  omega
end Go.Proofs.Ytnfcbkageifmfaa

/- Histories: marks, states at a place; who has a place, and whether they are enough. -/
namespace Go.Proofs.Ytnfcbkageifmfaa
set_option linter.unusedSimpArgs false
set_option linter.unusedVariables false
open Go Go.Av
attribute [local simp] Try.T1 Try.T2 Try.T3 Try.T4 Try.T5 Try.T9 Try.T12 Try.T15 Try.T16 Try.T17 Try.T21 Try.T22 Try.T23 Try.T25 Try.T27 Try.T29 Try.T30 Try.T31 Try.T32 Try.T33 Try.T35 Try.T37 Try.T38 Try.T40 Try.T41 Try.T42 Try.T43 Try.T44 Try.T45 Try.T46 Try.T47 Try.T48 Try.T49 Try.T50 Try.T51 Try.T52 Try.T53 Try.T54 Try.T56 Try.T57 Try.T58 Try.T59 Try.T60 Try.T61 Try.T62 Try.T64 Try.T66 Try.T67 Try.T68 Try.T69 Try.T71 Try.T72 Try.T73 Try.T74 Try.T75 Try.T76 Try.T77 Try.T78 Try.T79 Try.T80 Try.T81 Try.T82 Try.T83 Try.T84 Try.T85 Try.T86 Try.T87 Try.T88 Try.T89 Try.T90 Try.T91 Try.T92 Try.T93 Try.T94 Try.T95 Try.T97 Try.T98 Try.T99 Try.T100 Try.T101 Try.T102 Try.T103 Try.T104 Try.T105 Try.T106 Try.T107 Try.T108 Try.T109 Try.T110 Try.T111 Try.T112 Try.T113 Try.T114 Try.T115 Try.T116 Try.T117 Try.T120 Try.T123 Try.T124 Try.T127 Try.T128
attribute [local irreducible] Go.Av.CallK Go.Av.CallE Go.Av.CallQ Go.Av.CallF Go.Av.CallR Go.Av.CallH Go.Av.Con
theorem base16_con (h : Hy) : ACon Try.prog 22 [.p (.agg h.cells)] (.p (.agg [I h.im.ae, I h.im.an])) := by
  unfold Hy.cells
  refine wBody Try.tab Try.mixed Try.func22 rfl rfl Try.ntmps22 (by simp) (by simp) fun Q hr hn => ?_
  repeat' first | (refine hK _ ?_; clear hK) | (refine hK _ _ ?_; clear hK) | (clear hK; refine hK _ ?_; clear hK) | (clear hK; clear hK; refine hK _ ?_; clear hK) | (clear hK; clear hK; clear hK; refine hK _ ?_; clear hK) | (clear hK; clear hK; clear hK; clear hK; refine hK _ ?_; clear hK) | (refine wSeq fun K hK => ?_) | ((first | refine wReg ?_ | refine wDrwQ rfl (by kernel_rfl) ?_ | refine wDrwI ?_ | refine wDrw (by kernel_rfl) ?_); simp only [List.map_cons, List.map_nil, strip]) | ((first | refine wIs fun K hK => ?_ | refine wOs fun K hK => ?_ | refine wQs fun K hK => ?_ | refine CallK_plain ?_ | refine CallQ_plain ?_ | refine CallR_plain ?_ | refine wCond ?_); simp) | (refine wIn ?_; refine And.intro (by kernel_rfl) ?_; try simp only [thenA_n]) | (first | refine wBlock ?_ | refine wScope ?_) | ((first | refine wRet ?_ | refine wExit ?_ | refine wSkip ?_); try simp) | ((first | refine wLabel ?_ | refine wOn ?_ | refine wQn ?_); try simp only [thenA_n])
  all_goals apply hr
  all_goals simp [Try.f22]
def lastH (h : Hy) : Zx := match h.lg.getLast? with
  | none => ⟨h.im.ae, h.im.an⟩
  | some t => ⟨t.e, t.n⟩
theorem last16_con (h : Hy) (hl : h.lg.length ≤ 1000) : ACon Try.prog 26 [.p (.agg h.cells)] (.p (.agg [I (lastH h).e, I (lastH h).n])) := by
  by_cases h0 : h.lg.length = 0
  · have hg : lastH h = ⟨h.im.ae, h.im.an⟩ := by unfold lastH; rw [List.length_eq_zero_iff.1 h0]; rfl
    rw [hg]
    unfold Hy.cells
    refine wBody Try.tab Try.mixed Try.func26 rfl rfl Try.ntmps26 (by simp) (by simp) fun Q hr hn => ?_
    repeat' first | (refine hK _ ?_; clear hK) | (refine hK _ _ ?_; clear hK) | (clear hK; refine hK _ ?_; clear hK) | (clear hK; clear hK; refine hK _ ?_; clear hK) | (clear hK; clear hK; clear hK; refine hK _ ?_; clear hK) | (clear hK; clear hK; clear hK; clear hK; refine hK _ ?_; clear hK) | (refine wSeq fun K hK => ?_) | ((first | refine wReg ?_ | refine wDrwQ rfl (by kernel_rfl) ?_ | refine wDrwI ?_ | refine wDrw (by kernel_rfl) ?_); simp only [List.map_cons, List.map_nil, strip]) | ((first | refine wIs fun K hK => ?_ | refine wOs fun K hK => ?_ | refine wQs fun K hK => ?_ | refine CallK_plain ?_ | refine CallQ_plain ?_ | refine CallR_plain ?_ | refine wCond ?_); simp [h0]) | (refine wIn ?_; refine And.intro (by kernel_rfl) ?_; try simp only [thenA_n]) | (first | refine wBlock ?_ | refine wScope ?_) | ((first | refine wRet ?_ | refine wExit ?_ | refine wSkip ?_); try simp) | ((first | refine wLabel ?_ | refine wOn ?_ | refine wQn ?_); try simp only [thenA_n])
    all_goals apply hr
    all_goals simp [Try.f26]
  · obtain ⟨q, hq⟩ : ∃ q, q + 1 = h.lg.length := ⟨h.lg.length - 1, by omega⟩
    have hlt : q < h.lg.length := by omega
    have hg : lastH h = ⟨h.lg[q].e, h.lg[q].n⟩ := by
      unfold lastH
      rw [List.getLast?_eq_getElem?, show h.lg.length - 1 = q by omega, List.getElem?_eq_getElem hlt]
    rw [hg]
    have h0' : ¬ (h.lg.length : Int) = 0 := by omega
    have w : IntKind.i64.wrap ((h.lg.length : Int) - 1) = (q : Int) := by rw [wrap_id] <;> omega
    have he := txns_get hlt
    unfold Hy.cells
    refine wBody Try.tab Try.mixed Try.func26 rfl rfl Try.ntmps26 (by simp) (by simp) fun Q hr hn => ?_
    repeat' first | (refine hK _ ?_; clear hK) | (refine hK _ _ ?_; clear hK) | (clear hK; refine hK _ ?_; clear hK) | (clear hK; clear hK; refine hK _ ?_; clear hK) | (clear hK; clear hK; clear hK; refine hK _ ?_; clear hK) | (clear hK; clear hK; clear hK; clear hK; refine hK _ ?_; clear hK) | (refine wSeq fun K hK => ?_) | ((first | refine wReg ?_ | refine wDrwQ rfl (by kernel_rfl) ?_ | refine wDrwI ?_ | refine wDrw (by kernel_rfl) ?_); simp only [List.map_cons, List.map_nil, strip]) | ((first | refine wIs fun K hK => ?_ | refine wOs fun K hK => ?_ | refine wQs fun K hK => ?_ | refine CallK_plain ?_ | refine CallQ_plain ?_ | refine CallR_plain ?_ | refine wCond ?_); simp [h0, h0', w, he, hlt, Tx.cells]) | (refine wIn ?_; refine And.intro (by kernel_rfl) ?_; try simp only [thenA_n]) | (first | refine wBlock ?_ | refine wScope ?_) | ((first | refine wRet ?_ | refine wExit ?_ | refine wSkip ?_); try simp) | ((first | refine wLabel ?_ | refine wOn ?_ | refine wQn ?_); try simp only [thenA_n])
    all_goals apply hr
    all_goals simp [Try.f26]
def txZ (l : List Tx) : List Zx := l.map fun t => ⟨t.e, t.n⟩
def marksH (h : Hy) : List Zx := ⟨h.im.ae, h.im.an⟩ :: txZ h.lg
theorem txZ_snoc {l : List Tx} {k : Nat} (h : k < l.length) : txZ (l.take (k + 1)) = txZ (l.take k) ++ [⟨l[k].e, l[k].n⟩] := by
  rw [List.take_succ_eq_append_getElem h]; simp only [txZ, List.map_append, List.map_cons, List.map_nil]
theorem zxs_ap (l : List Zx) (e n : Int) : zxs l ++ [[I e, I n]] = zxs (l ++ [⟨e, n⟩]) := by simp [zxs]
set_option maxHeartbeats 2000000 in
theorem marks16_con (h : Hy) (hl : h.lg.length ≤ 1000) : ACon Try.prog 44 [.p (.agg h.cells)] (.p (.sl 2 (zxs (marksH h)))) := by
  have e1 : zxs [⟨h.im.ae, h.im.an⟩] = [[I h.im.ae, I h.im.an]] := rfl
  unfold Hy.cells
  refine wBody Try.tab Try.mixed Try.func44 rfl rfl Try.ntmps44 (by simp) (by simp) fun Q hr hn => ?_
  repeat' first | (refine hK _ ?_; clear hK) | (refine hK _ _ ?_; clear hK) | (clear hK; refine hK _ ?_; clear hK) | (clear hK; clear hK; refine hK _ ?_; clear hK) | (clear hK; clear hK; clear hK; refine hK _ ?_; clear hK) | (clear hK; clear hK; clear hK; clear hK; refine hK _ ?_; clear hK) | (refine wSeq fun K hK => ?_) | ((first | refine wReg ?_ | refine wDrwQ rfl (by kernel_rfl) ?_ | refine wDrwI ?_ | refine wDrw (by kernel_rfl) ?_); simp only [List.map_cons, List.map_nil, strip]) | ((first | refine wIs fun K hK => ?_ | refine wOs fun K hK => ?_ | refine wQs fun K hK => ?_ | refine CallK_plain ?_ | refine CallQ_plain ?_ | refine CallR_plain ?_ | refine wCond ?_); simp) | (refine wIn ?_; refine And.intro (by kernel_rfl) ?_; try simp only [thenA_n]) | (first | refine wBlock ?_ | refine wScope ?_) | ((first | refine wRet ?_ | refine wExit ?_ | refine wSkip ?_); try simp) | ((first | refine wLabel ?_ | refine wOn ?_ | refine wQn ?_); try simp only [thenA_n])
  refine wLoop (fun N st => ∃ (k : Nat) (a : List Zx), k + N = h.lg.length ∧ a = ⟨h.im.ae, h.im.an⟩ :: txZ (h.lg.take k) ∧ a.length = k + 1 ∧ st.s 11 = .p (.sl 8 (txns h.lg)) ∧ st.s 12 = .p (I h.lg.length) ∧ st.s 13 = .p (I k) ∧ ((st.s 3 = .full 2 (zxs a)) ∨ (st.s 3 = .row 21 ∧ st.b 21 = some (.row 25 2 (zxs a))))) h.lg.length ⟨0, [⟨h.im.ae, h.im.an⟩], by simp [txZ, e1]⟩ fun K N st hL ⟨k, a, hkN, ha, hal, g11, g12, g13, hrow⟩ => ?_
  by_cases hlt : k < h.lg.length
  · have hlt' : (k : Int) < h.lg.length := by omega
    have hw := wrapS k _ hlt (by omega)
    have he := txns_get hlt
    have hs := zxs_ap a h.lg[k].e h.lg[k].n
    have ha2 : a ++ [⟨h.lg[k].e, h.lg[k].n⟩] = ⟨h.im.ae, h.im.an⟩ :: txZ (h.lg.take (k + 1)) := by rw [txZ_snoc hlt, ha]; rfl
    have hzl := zxs_len a
    rcases hrow with g3 | ⟨g3, b21⟩
    · repeat' first | (refine And.intro (by (try simp only [hzl, List.length_cons, List.length_nil]); omega) ?_) | (refine Or.inl ?_) | (refine hK _ ?_; clear hK) | (refine hK _ _ ?_; clear hK) | (clear hK; refine hK _ ?_; clear hK) | (clear hK; clear hK; refine hK _ ?_; clear hK) | (clear hK; clear hK; clear hK; refine hK _ ?_; clear hK) | (clear hK; clear hK; clear hK; clear hK; refine hK _ ?_; clear hK) | (refine wSeq fun K hK => ?_) | ((first | refine wReg ?_ | refine wDrwQ rfl (by kernel_rfl) ?_ | refine wDrwI ?_ | refine wDrw (by kernel_rfl) ?_); simp only [List.map_cons, List.map_nil, strip]) | ((first | refine wIs fun K hK => ?_ | refine wOs fun K hK => ?_ | refine wQs fun K hK => ?_ | refine CallK_plain ?_ | refine CallQ_plain ?_ | refine CallR_plain ?_ | refine wCond ?_); simp [g11, g12, g13, g3, hlt, hlt', hw, he, hs]) | (refine wIn ?_; refine And.intro (by kernel_rfl) ?_; try simp only [thenA_n]) | (first | refine wBlock ?_ | refine wScope ?_) | ((first | refine wRet ?_ | refine wExit ?_ | refine wSkip ?_); try simp) | ((first | refine wLabel ?_ | refine wOn ?_ | refine wQn ?_); try simp only [thenA_n])
      refine hL _ (N - 1) (by omega) ⟨k + 1, _, by omega, ha2, by simp [hal], ?_⟩
      simp [g11, g12, g13, hw, hs]
    · repeat' first | (refine And.intro (by (try simp only [hzl, List.length_cons, List.length_nil]); omega) ?_) | (refine hK _ ?_; clear hK) | (refine hK _ _ ?_; clear hK) | (clear hK; refine hK _ ?_; clear hK) | (clear hK; clear hK; refine hK _ ?_; clear hK) | (clear hK; clear hK; clear hK; refine hK _ ?_; clear hK) | (clear hK; clear hK; clear hK; clear hK; refine hK _ ?_; clear hK) | (refine wSeq fun K hK => ?_) | ((first | refine wReg ?_ | refine wDrwQ rfl (by kernel_rfl) ?_ | refine wDrwI ?_ | refine wDrw (by kernel_rfl) ?_); simp only [List.map_cons, List.map_nil, strip]) | ((first | refine wIs fun K hK => ?_ | refine wOs fun K hK => ?_ | refine wQs fun K hK => ?_ | refine CallK_plain ?_ | refine CallQ_plain ?_ | refine CallR_plain ?_ | refine wCond ?_); simp [g11, g12, g13, g3, b21, hlt, hlt', hw, he, hs]) | (refine wIn ?_; refine And.intro (by kernel_rfl) ?_; try simp only [thenA_n]) | (first | refine wBlock ?_ | refine wScope ?_) | ((first | refine wRet ?_ | refine wExit ?_ | refine wSkip ?_); try simp) | ((first | refine wLabel ?_ | refine wOn ?_ | refine wQn ?_); try simp only [thenA_n])
      refine hL _ (N - 1) (by omega) ⟨k + 1, _, by omega, ha2, by simp [hal], ?_⟩
      simp [g11, g12, g13, g3, b21, hw, hs]
  · have hlt' : ¬ (k : Int) < h.lg.length := by omega
    rw [List.take_of_length_le (by omega)] at ha
    change a = marksH h at ha
    subst ha
    rcases hrow with g3 | ⟨g3, b21⟩
    · repeat' first | (refine hK _ ?_; clear hK) | (refine hK _ _ ?_; clear hK) | (clear hK; refine hK _ ?_; clear hK) | (clear hK; clear hK; refine hK _ ?_; clear hK) | (clear hK; clear hK; clear hK; refine hK _ ?_; clear hK) | (clear hK; clear hK; clear hK; clear hK; refine hK _ ?_; clear hK) | (refine wSeq fun K hK => ?_) | ((first | refine wReg ?_ | refine wDrwQ rfl (by kernel_rfl) ?_ | refine wDrwI ?_ | refine wDrw (by kernel_rfl) ?_); simp only [List.map_cons, List.map_nil, strip]) | ((first | refine wIs fun K hK => ?_ | refine wOs fun K hK => ?_ | refine wQs fun K hK => ?_ | refine CallK_plain ?_ | refine CallQ_plain ?_ | refine CallR_plain ?_ | refine wCond ?_); simp [g11, g12, g13, g3, hlt, hlt']) | (refine wIn ?_; refine And.intro (by kernel_rfl) ?_; try simp only [thenA_n]) | (first | refine wBlock ?_ | refine wScope ?_) | ((first | refine wRet ?_ | refine wExit ?_ | refine wSkip ?_); try simp) | ((first | refine wLabel ?_ | refine wOn ?_ | refine wQn ?_); try simp only [thenA_n])
      all_goals apply hr
      all_goals simp [Try.f44]
    · repeat' first | (refine hK _ ?_; clear hK) | (refine hK _ _ ?_; clear hK) | (clear hK; refine hK _ ?_; clear hK) | (clear hK; clear hK; refine hK _ ?_; clear hK) | (clear hK; clear hK; clear hK; refine hK _ ?_; clear hK) | (clear hK; clear hK; clear hK; clear hK; refine hK _ ?_; clear hK) | (refine wSeq fun K hK => ?_) | ((first | refine wReg ?_ | refine wDrwQ rfl (by kernel_rfl) ?_ | refine wDrwI ?_ | refine wDrw (by kernel_rfl) ?_); simp only [List.map_cons, List.map_nil, strip]) | ((first | refine wIs fun K hK => ?_ | refine wOs fun K hK => ?_ | refine wQs fun K hK => ?_ | refine CallK_plain ?_ | refine CallQ_plain ?_ | refine CallR_plain ?_ | refine wCond ?_); simp [g11, g12, g13, g3, b21, hlt, hlt']) | (refine wIn ?_; refine And.intro (by kernel_rfl) ?_; try simp only [thenA_n]) | (first | refine wBlock ?_ | refine wScope ?_) | ((first | refine wRet ?_ | refine wExit ?_ | refine wSkip ?_); try simp) | ((first | refine wLabel ?_ | refine wOn ?_ | refine wQn ?_); try simp only [thenA_n])
      all_goals apply hr
      all_goals simp [Try.f44, b21, g3]
def risesB : List Zx → Bool
  | [] => true
  | [_] => true
  | p :: z :: l => decide (zcmp p.e p.n z.e z.n < 0) && risesB (z :: l)
set_option maxHeartbeats 2000000 in
theorem check16_con (h : Hy) (hl : h.lg.length ≤ 1000) : ACon Try.prog 21 [.p (.agg h.cells)] (.p (B (risesB (marksH h)))) := by
  have c := marks16_con h hl
  have hml : (marksH h).length = h.lg.length + 1 := by simp [marksH, txZ]
  generalize marksH h = M at c hml ⊢
  unfold Hy.cells at c ⊢
  have hzl := zxs_len M
  refine wBody Try.tab Try.mixed Try.func21 rfl rfl Try.ntmps21 (by simp) (by simp) fun Q hr hn => ?_
  repeat' first | (refine hK _ ?_; clear hK) | (refine hK _ _ ?_; clear hK) | (clear hK; refine hK _ ?_; clear hK) | (clear hK; clear hK; refine hK _ ?_; clear hK) | (clear hK; clear hK; clear hK; refine hK _ ?_; clear hK) | (clear hK; clear hK; clear hK; clear hK; refine hK _ ?_; clear hK) | (refine wSeq fun K hK => ?_) | ((first | refine wReg ?_ | refine wDrwQ rfl (by kernel_rfl) ?_ | refine wDrwI ?_ | refine wDrw (by kernel_rfl) ?_); simp only [List.map_cons, List.map_nil, strip]) | ((first | refine wIs fun K hK => ?_ | refine wOs fun K hK => ?_ | refine wQs fun K hK => ?_ | refine CallK_plain ?_ | refine CallQ_plain ?_ | refine CallR_plain ?_ | refine wCond ?_); simp) | (refine wIn ?_; refine And.intro (by kernel_rfl) ?_; try simp only [thenA_n]) | (first | refine wBlock ?_ | refine wScope ?_) | ((first | refine wRet ?_ | refine wExit ?_ | refine wSkip ?_); try simp) | ((first | refine wLabel ?_ | refine wOn ?_ | refine wQn ?_); try simp only [thenA_n]) | (refine CallE.pure (c) rfl ?_) | (refine CallE.lent (c) rfl ?_) | (refine CallF.pure (c) rfl ?_) | (refine CallF.lent (c) rfl ?_) | (refine CallE.own (c) ?_) | (refine CallH.pure (c) rfl ?_) | (refine CallH.lent (c) rfl ?_) | (refine CallH.own (c) ?_)
  refine wLoop (fun N st => ∃ (j : Nat), j + 1 + N = M.length ∧ risesB (M.drop j) = risesB M ∧ st.s 3 = .p (.sl 2 (zxs M)) ∧ st.s 4 = .p (I ((j : Int) + 1))) (M.length - 1) ⟨0, by simp; omega⟩ fun K N st hL ⟨j, hj, hi, g3, g4⟩ => ?_
  by_cases hlt : j + 1 < M.length
  · have hlt0 : j < M.length := by omega
    have hlt' : (j : Int) + 1 < M.length := by omega
    have w1 : IntKind.i64.wrap ((j : Int) + 1 - 1) = (j : Int) := by rw [wrap_id] <;> omega
    have w2 : IntKind.i64.wrap ((j : Int) + 1 + 1) = (j : Int) + 1 + 1 := by rw [wrap_id] <;> omega
    have w1' : IntKind.i64.wrap (j : Int) = (j : Int) := by rw [wrap_id] <;> omega
    have n1 : (0 : Int) ≤ (j : Int) + 1 := by omega
    have n2 : ((j : Int) + 1).toNat = j + 1 := by omega
    have c2 := cmp02_con M[j].e M[j].n M[j + 1].e M[j + 1].n
    rw [List.drop_eq_getElem_cons hlt0, List.drop_eq_getElem_cons hlt] at hi
    by_cases o : zcmp M[j].e M[j].n M[j + 1].e M[j + 1].n < 0
    · have o' : ¬ 0 ≤ zcmp M[j].e M[j].n M[j + 1].e M[j + 1].n := by omega
      simp only [risesB, o, decide_true, Bool.true_and] at hi
      repeat' first | (refine hK _ ?_; clear hK) | (refine hK _ _ ?_; clear hK) | (clear hK; refine hK _ ?_; clear hK) | (clear hK; clear hK; refine hK _ ?_; clear hK) | (clear hK; clear hK; clear hK; refine hK _ ?_; clear hK) | (clear hK; clear hK; clear hK; clear hK; refine hK _ ?_; clear hK) | (refine wSeq fun K hK => ?_) | ((first | refine wReg ?_ | refine wDrwQ rfl (by kernel_rfl) ?_ | refine wDrwI ?_ | refine wDrw (by kernel_rfl) ?_); simp only [List.map_cons, List.map_nil, strip]) | ((first | refine wIs fun K hK => ?_ | refine wOs fun K hK => ?_ | refine wQs fun K hK => ?_ | refine CallK_plain ?_ | refine CallQ_plain ?_ | refine CallR_plain ?_ | refine wCond ?_); simp [g3, g4, hlt, hlt', hlt0, w1, w1', w2, n1, n2, o, o', hzl]) | (refine wIn ?_; refine And.intro (by kernel_rfl) ?_; try simp only [thenA_n]) | (first | refine wBlock ?_ | refine wScope ?_) | ((first | refine wRet ?_ | refine wExit ?_ | refine wSkip ?_); try simp) | ((first | refine wLabel ?_ | refine wOn ?_ | refine wQn ?_); try simp only [thenA_n]) | (refine CallE.pure (c2) rfl ?_) | (refine CallE.lent (c2) rfl ?_) | (refine CallF.pure (c2) rfl ?_) | (refine CallF.lent (c2) rfl ?_) | (refine CallE.own (c2) ?_) | (refine CallH.pure (c2) rfl ?_) | (refine CallH.lent (c2) rfl ?_) | (refine CallH.own (c2) ?_)
      refine hL _ (N - 1) (by omega) ⟨j + 1, by omega, ?_, ?_⟩
      · rw [List.drop_eq_getElem_cons hlt]; exact hi
      · simp [g3, g4, w2]
    · have o' : 0 ≤ zcmp M[j].e M[j].n M[j + 1].e M[j + 1].n := by omega
      simp only [risesB, o, decide_false, Bool.false_and] at hi
      rw [← hi] at hr
      repeat' first | (refine hK _ ?_; clear hK) | (refine hK _ _ ?_; clear hK) | (clear hK; refine hK _ ?_; clear hK) | (clear hK; clear hK; refine hK _ ?_; clear hK) | (clear hK; clear hK; clear hK; refine hK _ ?_; clear hK) | (clear hK; clear hK; clear hK; clear hK; refine hK _ ?_; clear hK) | (refine wSeq fun K hK => ?_) | ((first | refine wReg ?_ | refine wDrwQ rfl (by kernel_rfl) ?_ | refine wDrwI ?_ | refine wDrw (by kernel_rfl) ?_); simp only [List.map_cons, List.map_nil, strip]) | ((first | refine wIs fun K hK => ?_ | refine wOs fun K hK => ?_ | refine wQs fun K hK => ?_ | refine CallK_plain ?_ | refine CallQ_plain ?_ | refine CallR_plain ?_ | refine wCond ?_); simp [g3, g4, hlt, hlt', hlt0, w1, w1', w2, n1, n2, o, o', hzl]) | (refine wIn ?_; refine And.intro (by kernel_rfl) ?_; try simp only [thenA_n]) | (first | refine wBlock ?_ | refine wScope ?_) | ((first | refine wRet ?_ | refine wExit ?_ | refine wSkip ?_); try simp) | ((first | refine wLabel ?_ | refine wOn ?_ | refine wQn ?_); try simp only [thenA_n]) | (refine CallE.pure (c2) rfl ?_) | (refine CallE.lent (c2) rfl ?_) | (refine CallF.pure (c2) rfl ?_) | (refine CallF.lent (c2) rfl ?_) | (refine CallE.own (c2) ?_) | (refine CallH.pure (c2) rfl ?_) | (refine CallH.lent (c2) rfl ?_) | (refine CallH.own (c2) ?_)
      all_goals apply hr
      all_goals simp [Try.f21]
  · have hlt' : ¬ (j : Int) + 1 < M.length := by omega
    have e : risesB (M.drop j) = true := by
      have hd : (M.drop j).length = 1 := by simp; omega
      obtain ⟨a, ha⟩ := List.length_eq_one_iff.1 hd
      rw [ha]; rfl
    rw [e] at hi
    rw [← hi] at hr
    repeat' first | (refine hK _ ?_; clear hK) | (refine hK _ _ ?_; clear hK) | (clear hK; refine hK _ ?_; clear hK) | (clear hK; clear hK; refine hK _ ?_; clear hK) | (clear hK; clear hK; clear hK; refine hK _ ?_; clear hK) | (clear hK; clear hK; clear hK; clear hK; refine hK _ ?_; clear hK) | (refine wSeq fun K hK => ?_) | ((first | refine wReg ?_ | refine wDrwQ rfl (by kernel_rfl) ?_ | refine wDrwI ?_ | refine wDrw (by kernel_rfl) ?_); simp only [List.map_cons, List.map_nil, strip]) | ((first | refine wIs fun K hK => ?_ | refine wOs fun K hK => ?_ | refine wQs fun K hK => ?_ | refine CallK_plain ?_ | refine CallQ_plain ?_ | refine CallR_plain ?_ | refine wCond ?_); simp [g3, g4, hlt, hlt', hzl]) | (refine wIn ?_; refine And.intro (by kernel_rfl) ?_; try simp only [thenA_n]) | (first | refine wBlock ?_ | refine wScope ?_) | ((first | refine wRet ?_ | refine wExit ?_ | refine wSkip ?_); try simp) | ((first | refine wLabel ?_ | refine wOn ?_ | refine wQn ?_); try simp only [thenA_n])
    all_goals apply hr
    all_goals simp [Try.f21]
def upTo (e n : Int) (l : List Tx) : List Tx := l.filter fun t => decide (zcmp t.e t.n e n ≤ 0)
theorem upTo_snoc (e n : Int) {l : List Tx} {k : Nat} (h : k < l.length) : upTo e n (l.take (k + 1)) = if zcmp l[k].e l[k].n e n ≤ 0 then upTo e n (l.take k) ++ [l[k]] else upTo e n (l.take k) := by
  rw [List.take_succ_eq_append_getElem h]
  unfold upTo
  rw [List.filter_append]
  by_cases g : zcmp l[k].e l[k].n e n ≤ 0
  · rw [if_pos g, List.filter_cons, if_pos (decide_eq_true g)]; simp
  · rw [if_neg g, List.filter_cons, if_neg (by simpa using g)]; simp
def stAt (h : Hy) (e n : Int) : Sv := allS h.im (upTo e n h.lg)
theorem allS_app (s : Sv) (l : List Tx) (t : Tx) : allS s (l ++ [t]) = doS (allS s l) t := by unfold allS; rw [List.foldl_append]; rfl
set_option maxHeartbeats 4000000 in
theorem stateAt16_con (h : Hy) (e n : Int) (hk : OkH h) : ACon Try.prog 25 [.p (.agg h.cells), .p (.agg [I e, I n])] (.p (.agg (stAt h e n).cells)) := by
  have c1 := own16_con h.im hk.ns hk.ss hk.c
  have hlg := hk.lg
  have hf0 : Fits h.im (psum h.lg) := ⟨by have := hk.tot; have := hk.ns; unfold psum; omega, by have := hk.tot; have := hk.ss; unfold psum; omega, by have := hk.c; unfold okC; omega⟩
  unfold stAt Hy.cells
  unfold Sv.cells at c1 ⊢
  refine wBody Try.tab Try.mixed Try.func25 rfl rfl Try.ntmps25 (by simp) (by simp) fun Q hr hn => ?_
  repeat' first | (refine hK _ ?_; clear hK) | (refine hK _ _ ?_; clear hK) | (clear hK; refine hK _ ?_; clear hK) | (clear hK; clear hK; refine hK _ ?_; clear hK) | (clear hK; clear hK; clear hK; refine hK _ ?_; clear hK) | (clear hK; clear hK; clear hK; clear hK; refine hK _ ?_; clear hK) | (refine wSeq fun K hK => ?_) | ((first | refine wReg ?_ | refine wDrwQ rfl (by kernel_rfl) ?_ | refine wDrwI ?_ | refine wDrw (by kernel_rfl) ?_); simp only [List.map_cons, List.map_nil, strip]) | ((first | refine wIs fun K hK => ?_ | refine wOs fun K hK => ?_ | refine wQs fun K hK => ?_ | refine CallK_plain ?_ | refine CallQ_plain ?_ | refine CallR_plain ?_ | refine wCond ?_); simp) | (refine wIn ?_; refine And.intro (by kernel_rfl) ?_; try simp only [thenA_n]) | (first | refine wBlock ?_ | refine wScope ?_) | ((first | refine wRet ?_ | refine wExit ?_ | refine wSkip ?_); try simp) | ((first | refine wLabel ?_ | refine wOn ?_ | refine wQn ?_); try simp only [thenA_n]) | (refine CallE.pure (c1) rfl ?_) | (refine CallE.lent (c1) rfl ?_) | (refine CallF.pure (c1) rfl ?_) | (refine CallF.lent (c1) rfl ?_) | (refine CallE.own (c1) ?_) | (refine CallH.pure (c1) rfl ?_) | (refine CallH.lent (c1) rfl ?_) | (refine CallH.own (c1) ?_)
  refine wLoop (fun N st => ∃ (k : Nat) (q : Sv), k + N = h.lg.length ∧ q = allS h.im (upTo e n (h.lg.take k)) ∧ Fits q (psum (h.lg.drop k)) ∧ st.s 3 = .ptr 3 0 ∧ st.b 3 = some (.box 25 [.p (I e), .p (I n)]) ∧ st.s 4 = .ptr 4 0 ∧ st.b 4 = some (.box 37 [.nil 5, .nil 1, .p (I 0), .p (I 0), .p (I 0), .p (I 0), .nil 4, .p (I 0), .p (I 0)]) ∧ st.s 5 = .ptr 5 0 ∧ st.b 5 = some (.box 37 [.p (.sl 5 (zns q.ns)), .p (.sl 1 (ints q.ss)), .p (I q.nx), .p (I q.c.ep), .p (I q.c.n), .p (I q.c.kind), .p (.sl 4 (mbs q.c.ms)), .p (I q.ae), .p (I q.an)]) ∧ st.s 12 = .p (.sl 8 (txns h.lg)) ∧ st.s 13 = .p (I h.lg.length) ∧ st.s 14 = .p (I k)) h.lg.length ⟨0, h.im, by simp [allS, upTo]; exact hf0⟩ fun K N st hL ⟨k, q, hkN, hq, hf, g3, b3, g4, b4, g5, b5, g12, g13, g14⟩ => ?_
  by_cases hlt : k < h.lg.length
  · have hlt' : (k : Int) < h.lg.length := by omega
    have hw := wrapS k _ hlt (by omega)
    have he := txns_get hlt
    have c2 := cmp02_con h.lg[k].e h.lg[k].n e n
    have hsn := upTo_snoc e n hlt
    obtain ⟨hp1, hp2⟩ := hk.ps _ (List.getElem_mem hlt)
    rw [psum_drop hlt] at hf
    have hok : okT h.lg[k] := fun p hp => by have := hp2 p hp; unfold okC; omega
    by_cases o : zcmp h.lg[k].e h.lg[k].n e n ≤ 0
    · rw [if_pos o] at hsn
      have c3 := apply08_con q h.lg[k] (hf.le (by omega)) hok
      have hf2 := doS_fits hf hok
      have hq2 : doS q h.lg[k] = allS h.im (upTo e n (h.lg.take (k + 1))) := by rw [hsn, allS_app, hq]
      unfold Sv.cells Tx.cells at c3
      generalize doS q h.lg[k] = r at c3 hf2 hq2
      repeat' first | (refine hK _ ?_; clear hK) | (refine hK _ _ ?_; clear hK) | (clear hK; refine hK _ ?_; clear hK) | (clear hK; clear hK; refine hK _ ?_; clear hK) | (clear hK; clear hK; clear hK; refine hK _ ?_; clear hK) | (clear hK; clear hK; clear hK; clear hK; refine hK _ ?_; clear hK) | (refine wSeq fun K hK => ?_) | ((first | refine wReg ?_ | refine wDrwQ rfl (by kernel_rfl) ?_ | refine wDrwI ?_ | refine wDrw (by kernel_rfl) ?_); simp only [List.map_cons, List.map_nil, strip]) | ((first | refine wIs fun K hK => ?_ | refine wOs fun K hK => ?_ | refine wQs fun K hK => ?_ | refine CallK_plain ?_ | refine CallQ_plain ?_ | refine CallR_plain ?_ | refine wCond ?_); simp [g3, b3, g4, b4, g5, b5, g12, g13, g14, hlt, hlt', hw, he, o]) | (refine wIn ?_; refine And.intro (by kernel_rfl) ?_; try simp only [thenA_n]) | (first | refine wBlock ?_ | refine wScope ?_) | ((first | refine wRet ?_ | refine wExit ?_ | refine wSkip ?_); try simp) | ((first | refine wLabel ?_ | refine wOn ?_ | refine wQn ?_); try simp only [thenA_n]) | (refine CallE.pure (c2) rfl ?_) | (refine CallE.lent (c2) rfl ?_) | (refine CallF.pure (c2) rfl ?_) | (refine CallF.lent (c2) rfl ?_) | (refine CallE.own (c2) ?_) | (refine CallH.pure (c2) rfl ?_) | (refine CallH.lent (c2) rfl ?_) | (refine CallH.own (c2) ?_) | (refine CallE.pure (c3) rfl ?_) | (refine CallE.lent (c3) rfl ?_) | (refine CallF.pure (c3) rfl ?_) | (refine CallF.lent (c3) rfl ?_) | (refine CallE.own (c3) ?_) | (refine CallH.pure (c3) rfl ?_) | (refine CallH.lent (c3) rfl ?_) | (refine CallH.own (c3) ?_)
      refine hL _ (N - 1) (by omega) ⟨k + 1, r, by omega, hq2, hf2, ?_⟩
      simp [g3, b3, g4, b4, g5, b5, g12, g13, g14, hw]
    · rw [if_neg o] at hsn
      rw [← hsn] at hq
      repeat' first | (refine hK _ ?_; clear hK) | (refine hK _ _ ?_; clear hK) | (clear hK; refine hK _ ?_; clear hK) | (clear hK; clear hK; refine hK _ ?_; clear hK) | (clear hK; clear hK; clear hK; refine hK _ ?_; clear hK) | (clear hK; clear hK; clear hK; clear hK; refine hK _ ?_; clear hK) | (refine wSeq fun K hK => ?_) | ((first | refine wReg ?_ | refine wDrwQ rfl (by kernel_rfl) ?_ | refine wDrwI ?_ | refine wDrw (by kernel_rfl) ?_); simp only [List.map_cons, List.map_nil, strip]) | ((first | refine wIs fun K hK => ?_ | refine wOs fun K hK => ?_ | refine wQs fun K hK => ?_ | refine CallK_plain ?_ | refine CallQ_plain ?_ | refine CallR_plain ?_ | refine wCond ?_); simp [g3, b3, g4, b4, g5, b5, g12, g13, g14, hlt, hlt', hw, he, o]) | (refine wIn ?_; refine And.intro (by kernel_rfl) ?_; try simp only [thenA_n]) | (first | refine wBlock ?_ | refine wScope ?_) | ((first | refine wRet ?_ | refine wExit ?_ | refine wSkip ?_); try simp) | ((first | refine wLabel ?_ | refine wOn ?_ | refine wQn ?_); try simp only [thenA_n]) | (refine CallE.pure (c2) rfl ?_) | (refine CallE.lent (c2) rfl ?_) | (refine CallF.pure (c2) rfl ?_) | (refine CallF.lent (c2) rfl ?_) | (refine CallE.own (c2) ?_) | (refine CallH.pure (c2) rfl ?_) | (refine CallH.lent (c2) rfl ?_) | (refine CallH.own (c2) ?_)
      refine hL _ (N - 1) (by omega) ⟨k + 1, q, by omega, hq, hf.le (by omega), ?_⟩
      simp [g3, b3, g4, b4, g5, b5, g12, g13, g14, hw]
  · have hlt' : ¬ (k : Int) < h.lg.length := by omega
    rw [List.take_of_length_le (by omega)] at hq
    rw [← hq] at hr
    repeat' first | (refine hK _ ?_; clear hK) | (refine hK _ _ ?_; clear hK) | (clear hK; refine hK _ ?_; clear hK) | (clear hK; clear hK; refine hK _ ?_; clear hK) | (clear hK; clear hK; clear hK; refine hK _ ?_; clear hK) | (clear hK; clear hK; clear hK; clear hK; refine hK _ ?_; clear hK) | (refine wSeq fun K hK => ?_) | ((first | refine wReg ?_ | refine wDrwQ rfl (by kernel_rfl) ?_ | refine wDrwI ?_ | refine wDrw (by kernel_rfl) ?_); simp only [List.map_cons, List.map_nil, strip]) | ((first | refine wIs fun K hK => ?_ | refine wOs fun K hK => ?_ | refine wQs fun K hK => ?_ | refine CallK_plain ?_ | refine CallQ_plain ?_ | refine CallR_plain ?_ | refine wCond ?_); simp [g3, b3, g4, b4, g5, b5, g12, g13, g14, hlt, hlt']) | (refine wIn ?_; refine And.intro (by kernel_rfl) ?_; try simp only [thenA_n]) | (first | refine wBlock ?_ | refine wScope ?_) | ((first | refine wRet ?_ | refine wExit ?_ | refine wSkip ?_); try simp) | ((first | refine wLabel ?_ | refine wOn ?_ | refine wQn ?_); try simp only [thenA_n])
    all_goals apply hr
    all_goals simp [Try.f25, g4, b4, g5, b5]
/-! ### Who has a place -/
def hasX (id e n : Int) (x : Lr) : Prop := x.id = id ∧ 4 ≤ x.ph ∧ 0 ≤ zcmp x.ae x.an e n
instance (id e n : Int) (x : Lr) : Decidable (hasX id e n x) := by unfold hasX; infer_instance
def hasK (l : List Lr) (self id e n : Int) : Bool := decide (id = self) || l.any fun x => decide (hasX id e n x)
set_option maxHeartbeats 2000000 in
theorem has19_con (l : List Lr) (self id e n : Int) (hl : l.length ≤ 100000) : ACon Try.prog 28 [.p (.sl 8 (lrs l)), .p (I self), .p (I id), .p (.agg [I e, I n])] (.p (B (hasK l self id e n))) := by
  unfold hasK
  by_cases o : id = self
  · rw [decide_eq_true o, Bool.true_or]
    refine wBody Try.tab Try.mixed Try.func28 rfl rfl Try.ntmps28 (by simp) (by simp) fun Q hr hn => ?_
    repeat' first | (refine hK _ ?_; clear hK) | (refine hK _ _ ?_; clear hK) | (clear hK; refine hK _ ?_; clear hK) | (clear hK; clear hK; refine hK _ ?_; clear hK) | (clear hK; clear hK; clear hK; refine hK _ ?_; clear hK) | (clear hK; clear hK; clear hK; clear hK; refine hK _ ?_; clear hK) | (refine wSeq fun K hK => ?_) | ((first | refine wReg ?_ | refine wDrwQ rfl (by kernel_rfl) ?_ | refine wDrwI ?_ | refine wDrw (by kernel_rfl) ?_); simp only [List.map_cons, List.map_nil, strip]) | ((first | refine wIs fun K hK => ?_ | refine wOs fun K hK => ?_ | refine wQs fun K hK => ?_ | refine CallK_plain ?_ | refine CallQ_plain ?_ | refine CallR_plain ?_ | refine wCond ?_); simp [o]) | (refine wIn ?_; refine And.intro (by kernel_rfl) ?_; try simp only [thenA_n]) | (first | refine wBlock ?_ | refine wScope ?_) | ((first | refine wRet ?_ | refine wExit ?_ | refine wSkip ?_); try simp) | ((first | refine wLabel ?_ | refine wOn ?_ | refine wQn ?_); try simp only [thenA_n])
    all_goals apply hr
    all_goals simp [Try.f28]
  rw [decide_eq_false o, Bool.false_or]
  refine wBody Try.tab Try.mixed Try.func28 rfl rfl Try.ntmps28 (by simp) (by simp) fun Q hr hn => ?_
  repeat' first | (refine hK _ ?_; clear hK) | (refine hK _ _ ?_; clear hK) | (clear hK; refine hK _ ?_; clear hK) | (clear hK; clear hK; refine hK _ ?_; clear hK) | (clear hK; clear hK; clear hK; refine hK _ ?_; clear hK) | (clear hK; clear hK; clear hK; clear hK; refine hK _ ?_; clear hK) | (refine wSeq fun K hK => ?_) | ((first | refine wReg ?_ | refine wDrwQ rfl (by kernel_rfl) ?_ | refine wDrwI ?_ | refine wDrw (by kernel_rfl) ?_); simp only [List.map_cons, List.map_nil, strip]) | ((first | refine wIs fun K hK => ?_ | refine wOs fun K hK => ?_ | refine wQs fun K hK => ?_ | refine CallK_plain ?_ | refine CallQ_plain ?_ | refine CallR_plain ?_ | refine wCond ?_); simp [o]) | (refine wIn ?_; refine And.intro (by kernel_rfl) ?_; try simp only [thenA_n]) | (first | refine wBlock ?_ | refine wScope ?_) | ((first | refine wRet ?_ | refine wExit ?_ | refine wSkip ?_); try simp) | ((first | refine wLabel ?_ | refine wOn ?_ | refine wQn ?_); try simp only [thenA_n])
  refine wLoop (fun N st => ∃ (k : Nat), k + N = l.length ∧ (l.drop k).any (fun x => decide (hasX id e n x)) = l.any (fun x => decide (hasX id e n x)) ∧ st.s 2 = .p (I id) ∧ st.s 7 = .ptr 7 0 ∧ st.b 7 = some (.box 25 [.p (I e), .p (I n)]) ∧ st.s 14 = .p (.sl 8 (lrs l)) ∧ st.s 15 = .p (I l.length) ∧ st.s 16 = .p (I k)) l.length ⟨0, by simp⟩ fun K N st hL ⟨k, hk, hi, g2, g7, b7, g14, g15, g16⟩ => ?_
  by_cases hlt : k < l.length
  · have hlt' : (k : Int) < l.length := by omega
    have hw := wrapS k _ hlt (by omega)
    have he := lrs_get hlt
    have c := cmp02_con l[k].ae l[k].an e n
    rw [List.drop_eq_getElem_cons hlt, List.any_cons] at hi
    have go : ¬ hasX id e n l[k] → (l.drop (k + 1)).any (fun x => decide (hasX id e n x)) = l.any (fun x => decide (hasX id e n x)) := fun hn => by
      rw [decide_eq_false hn, Bool.false_or] at hi; exact hi
    by_cases p1 : l[k].id = id
    · by_cases p2 : 4 ≤ l[k].ph
      · by_cases p3 : 0 ≤ zcmp l[k].ae l[k].an e n
        · rw [decide_eq_true (show hasX id e n l[k] from ⟨p1, p2, p3⟩), Bool.true_or] at hi
          rw [← hi] at hr
          repeat' first | (refine hK _ ?_; clear hK) | (refine hK _ _ ?_; clear hK) | (clear hK; refine hK _ ?_; clear hK) | (clear hK; clear hK; refine hK _ ?_; clear hK) | (clear hK; clear hK; clear hK; refine hK _ ?_; clear hK) | (clear hK; clear hK; clear hK; clear hK; refine hK _ ?_; clear hK) | (refine wSeq fun K hK => ?_) | ((first | refine wReg ?_ | refine wDrwQ rfl (by kernel_rfl) ?_ | refine wDrwI ?_ | refine wDrw (by kernel_rfl) ?_); simp only [List.map_cons, List.map_nil, strip]) | ((first | refine wIs fun K hK => ?_ | refine wOs fun K hK => ?_ | refine wQs fun K hK => ?_ | refine CallK_plain ?_ | refine CallQ_plain ?_ | refine CallR_plain ?_ | refine wCond ?_); simp [g2, g7, b7, g14, g15, g16, hlt, hlt', hw, he, p1, p2, p3]) | (refine wIn ?_; refine And.intro (by kernel_rfl) ?_; try simp only [thenA_n]) | (first | refine wBlock ?_ | refine wScope ?_) | ((first | refine wRet ?_ | refine wExit ?_ | refine wSkip ?_); try simp) | ((first | refine wLabel ?_ | refine wOn ?_ | refine wQn ?_); try simp only [thenA_n]) | (refine CallE.pure (c) rfl ?_) | (refine CallE.lent (c) rfl ?_) | (refine CallF.pure (c) rfl ?_) | (refine CallF.lent (c) rfl ?_) | (refine CallE.own (c) ?_) | (refine CallH.pure (c) rfl ?_) | (refine CallH.lent (c) rfl ?_) | (refine CallH.own (c) ?_)
          all_goals apply hr
          all_goals simp [Try.f28]
        · repeat' first | (refine hK _ ?_; clear hK) | (refine hK _ _ ?_; clear hK) | (clear hK; refine hK _ ?_; clear hK) | (clear hK; clear hK; refine hK _ ?_; clear hK) | (clear hK; clear hK; clear hK; refine hK _ ?_; clear hK) | (clear hK; clear hK; clear hK; clear hK; refine hK _ ?_; clear hK) | (refine wSeq fun K hK => ?_) | ((first | refine wReg ?_ | refine wDrwQ rfl (by kernel_rfl) ?_ | refine wDrwI ?_ | refine wDrw (by kernel_rfl) ?_); simp only [List.map_cons, List.map_nil, strip]) | ((first | refine wIs fun K hK => ?_ | refine wOs fun K hK => ?_ | refine wQs fun K hK => ?_ | refine CallK_plain ?_ | refine CallQ_plain ?_ | refine CallR_plain ?_ | refine wCond ?_); simp [g2, g7, b7, g14, g15, g16, hlt, hlt', hw, he, p1, p2, p3]) | (refine wIn ?_; refine And.intro (by kernel_rfl) ?_; try simp only [thenA_n]) | (first | refine wBlock ?_ | refine wScope ?_) | ((first | refine wRet ?_ | refine wExit ?_ | refine wSkip ?_); try simp) | ((first | refine wLabel ?_ | refine wOn ?_ | refine wQn ?_); try simp only [thenA_n]) | (refine CallE.pure (c) rfl ?_) | (refine CallE.lent (c) rfl ?_) | (refine CallF.pure (c) rfl ?_) | (refine CallF.lent (c) rfl ?_) | (refine CallE.own (c) ?_) | (refine CallH.pure (c) rfl ?_) | (refine CallH.lent (c) rfl ?_) | (refine CallH.own (c) ?_)
          refine hL _ (N - 1) (by omega) ⟨k + 1, by omega, go fun h => p3 h.2.2, ?_⟩
          simp [g2, g7, b7, g14, g15, g16, hw]
      · repeat' first | (refine hK _ ?_; clear hK) | (refine hK _ _ ?_; clear hK) | (clear hK; refine hK _ ?_; clear hK) | (clear hK; clear hK; refine hK _ ?_; clear hK) | (clear hK; clear hK; clear hK; refine hK _ ?_; clear hK) | (clear hK; clear hK; clear hK; clear hK; refine hK _ ?_; clear hK) | (refine wSeq fun K hK => ?_) | ((first | refine wReg ?_ | refine wDrwQ rfl (by kernel_rfl) ?_ | refine wDrwI ?_ | refine wDrw (by kernel_rfl) ?_); simp only [List.map_cons, List.map_nil, strip]) | ((first | refine wIs fun K hK => ?_ | refine wOs fun K hK => ?_ | refine wQs fun K hK => ?_ | refine CallK_plain ?_ | refine CallQ_plain ?_ | refine CallR_plain ?_ | refine wCond ?_); simp [g2, g7, b7, g14, g15, g16, hlt, hlt', hw, he, p1, p2]) | (refine wIn ?_; refine And.intro (by kernel_rfl) ?_; try simp only [thenA_n]) | (first | refine wBlock ?_ | refine wScope ?_) | ((first | refine wRet ?_ | refine wExit ?_ | refine wSkip ?_); try simp) | ((first | refine wLabel ?_ | refine wOn ?_ | refine wQn ?_); try simp only [thenA_n])
        refine hL _ (N - 1) (by omega) ⟨k + 1, by omega, go fun h => p2 h.2.1, ?_⟩
        simp [g2, g7, b7, g14, g15, g16, hw]
    · repeat' first | (refine hK _ ?_; clear hK) | (refine hK _ _ ?_; clear hK) | (clear hK; refine hK _ ?_; clear hK) | (clear hK; clear hK; refine hK _ ?_; clear hK) | (clear hK; clear hK; clear hK; refine hK _ ?_; clear hK) | (clear hK; clear hK; clear hK; clear hK; refine hK _ ?_; clear hK) | (refine wSeq fun K hK => ?_) | ((first | refine wReg ?_ | refine wDrwQ rfl (by kernel_rfl) ?_ | refine wDrwI ?_ | refine wDrw (by kernel_rfl) ?_); simp only [List.map_cons, List.map_nil, strip]) | ((first | refine wIs fun K hK => ?_ | refine wOs fun K hK => ?_ | refine wQs fun K hK => ?_ | refine CallK_plain ?_ | refine CallQ_plain ?_ | refine CallR_plain ?_ | refine wCond ?_); simp [g2, g7, b7, g14, g15, g16, hlt, hlt', hw, he, p1]) | (refine wIn ?_; refine And.intro (by kernel_rfl) ?_; try simp only [thenA_n]) | (first | refine wBlock ?_ | refine wScope ?_) | ((first | refine wRet ?_ | refine wExit ?_ | refine wSkip ?_); try simp) | ((first | refine wLabel ?_ | refine wOn ?_ | refine wQn ?_); try simp only [thenA_n])
      refine hL _ (N - 1) (by omega) ⟨k + 1, by omega, go fun h => p1 h.1, ?_⟩
      simp [g2, g7, b7, g14, g15, g16, hw]
  · have hlt' : ¬ (k : Int) < l.length := by omega
    rw [List.drop_of_length_le (by omega)] at hi
    rw [← hi] at hr
    repeat' first | (refine hK _ ?_; clear hK) | (refine hK _ _ ?_; clear hK) | (clear hK; refine hK _ ?_; clear hK) | (clear hK; clear hK; refine hK _ ?_; clear hK) | (clear hK; clear hK; clear hK; refine hK _ ?_; clear hK) | (clear hK; clear hK; clear hK; clear hK; refine hK _ ?_; clear hK) | (refine wSeq fun K hK => ?_) | ((first | refine wReg ?_ | refine wDrwQ rfl (by kernel_rfl) ?_ | refine wDrwI ?_ | refine wDrw (by kernel_rfl) ?_); simp only [List.map_cons, List.map_nil, strip]) | ((first | refine wIs fun K hK => ?_ | refine wOs fun K hK => ?_ | refine wQs fun K hK => ?_ | refine CallK_plain ?_ | refine CallQ_plain ?_ | refine CallR_plain ?_ | refine wCond ?_); simp [g2, g7, b7, g14, g15, g16, hlt, hlt']) | (refine wIn ?_; refine And.intro (by kernel_rfl) ?_; try simp only [thenA_n]) | (first | refine wBlock ?_ | refine wScope ?_) | ((first | refine wRet ?_ | refine wExit ?_ | refine wSkip ?_); try simp) | ((first | refine wLabel ?_ | refine wOn ?_ | refine wQn ?_); try simp only [thenA_n])
    all_goals apply hr
    all_goals simp [Try.f28]
def haveK (c : Cf) (l : List Lr) (self e n : Int) : List Int := (ids c.ms 1).filter fun id => hasK l self id e n
def enoughK (c : Cf) (l : List Lr) (self e n : Int) : Bool := isQ c (haveK c l self e n)
set_option maxHeartbeats 2000000 in
theorem enough19_con (c : Cf) (l : List Lr) (self e n : Int) (hl : l.length ≤ 100000) (hm : c.ms.length ≤ 1000) : ACon Try.prog 24 [.p (.agg c.cells), .p (.sl 8 (lrs l)), .p (I self), .p (.agg [I e, I n])] (.p (B (enoughK c l self e n))) := by
  have c1 := voters04_con c (by omega)
  have c2 := is05_con c (haveK c l self e n) (by omega)
  have hil : (ids c.ms 1).length ≤ 1000 := Nat.le_trans (ids_len _ _) hm
  have hb : enoughK c l self e n = isQ c (haveK c l self e n) := rfl
  rw [hb]
  have hhv : haveK c l self e n = (ids c.ms 1).filter fun id => hasK l self id e n := rfl
  generalize isQ c (haveK c l self e n) = b at c2 ⊢
  rw [hhv] at c2
  generalize ids c.ms 1 = v at c1 c2 hil
  unfold Cf.cells at c1 c2 ⊢
  refine wBody Try.tab Try.mixed Try.func24 rfl rfl Try.ntmps24 (by simp) (by simp) fun Q hr hn => ?_
  repeat' first | (refine hK _ ?_; clear hK) | (refine hK _ _ ?_; clear hK) | (clear hK; refine hK _ ?_; clear hK) | (clear hK; clear hK; refine hK _ ?_; clear hK) | (clear hK; clear hK; clear hK; refine hK _ ?_; clear hK) | (clear hK; clear hK; clear hK; clear hK; refine hK _ ?_; clear hK) | (refine wSeq fun K hK => ?_) | ((first | refine wReg ?_ | refine wDrwQ rfl (by kernel_rfl) ?_ | refine wDrwI ?_ | refine wDrw (by kernel_rfl) ?_); simp only [List.map_cons, List.map_nil, strip]) | ((first | refine wIs fun K hK => ?_ | refine wOs fun K hK => ?_ | refine wQs fun K hK => ?_ | refine CallK_plain ?_ | refine CallQ_plain ?_ | refine CallR_plain ?_ | refine wCond ?_); simp) | (refine wIn ?_; refine And.intro (by kernel_rfl) ?_; try simp only [thenA_n]) | (first | refine wBlock ?_ | refine wScope ?_) | ((first | refine wRet ?_ | refine wExit ?_ | refine wSkip ?_); try simp) | ((first | refine wLabel ?_ | refine wOn ?_ | refine wQn ?_); try simp only [thenA_n]) | (refine CallE.pure (c1) rfl ?_) | (refine CallE.lent (c1) rfl ?_) | (refine CallF.pure (c1) rfl ?_) | (refine CallF.lent (c1) rfl ?_) | (refine CallE.own (c1) ?_) | (refine CallH.pure (c1) rfl ?_) | (refine CallH.lent (c1) rfl ?_) | (refine CallH.own (c1) ?_)
  refine wLoopG [.row 9 3 1] (fun N st => ∃ (k : Nat), k + N = v.length ∧ st.s 1 = .p (.sl 8 (lrs l)) ∧ st.s 2 = .p (I self) ∧ st.s 4 = .ptr 4 0 ∧ st.b 4 = some (.box 35 [.p (I c.ep), .p (I c.n), .p (I c.kind), .p (.sl 4 (mbs c.ms))]) ∧ st.s 7 = .ptr 7 0 ∧ st.b 7 = some (.box 25 [.p (I e), .p (I n)]) ∧ st.s 9 = .row 9 ∧ st.b 9 = some (.row 3 1 (ints ((v.take k).filter fun id => hasK l self id e n))) ∧ st.s 13 = .p (.sl 1 (ints v)) ∧ st.s 14 = .p (I v.length) ∧ st.s 15 = .p (I k)) v.length ⟨0, by simp [frzL, gh1, ints]⟩ fun K N st hL ⟨k, hk, g1, g2, g4, b4, g7, b7, g9, b9, g13, g14, g15⟩ => ?_
  by_cases hlt : k < v.length
  · have hlt' : (k : Int) < v.length := by omega
    have hw := wrapS k _ hlt (by omega)
    have he := ints_get hlt
    have c3 := has19_con l self v[k] e n hl
    have hsn : (v.take (k + 1)).filter (fun id => hasK l self id e n) = if hasK l self v[k] e n = true then (v.take k).filter (fun id => hasK l self id e n) ++ [v[k]] else (v.take k).filter (fun id => hasK l self id e n) := by
      rw [List.take_succ_eq_append_getElem hlt, List.filter_append, List.filter_cons]
      by_cases g : hasK l self v[k] e n = true <;> simp [g]
    have hfl : ((v.take k).filter fun id => hasK l self id e n).length ≤ k := Nat.le_trans (List.length_filter_le _ _) (by simp; omega)
    have hix : ints ((v.take k).filter fun id => hasK l self id e n) ++ [[I v[k]]] = ints ((v.take k).filter (fun id => hasK l self id e n) ++ [v[k]]) := by simp [ints]
    have hil2 := ints_len ((v.take k).filter fun id => hasK l self id e n)
    generalize (v.take k).filter (fun id => hasK l self id e n) = w at *
    cases hb2 : hasK l self v[k] e n with
    | true =>
      rw [hb2] at c3
      rw [if_pos hb2] at hsn
      repeat' first | (refine And.intro (by (try simp only [hil2, List.length_cons, List.length_nil]); omega) ?_) | (refine hK _ ?_; clear hK) | (refine hK _ _ ?_; clear hK) | (clear hK; refine hK _ ?_; clear hK) | (clear hK; clear hK; refine hK _ ?_; clear hK) | (clear hK; clear hK; clear hK; refine hK _ ?_; clear hK) | (clear hK; clear hK; clear hK; clear hK; refine hK _ ?_; clear hK) | (refine wSeq fun K hK => ?_) | ((first | refine wReg ?_ | refine wDrwQ rfl (by kernel_rfl) ?_ | refine wDrwI ?_ | refine wDrw (by kernel_rfl) ?_); simp only [List.map_cons, List.map_nil, strip]) | ((first | refine wIs fun K hK => ?_ | refine wOs fun K hK => ?_ | refine wQs fun K hK => ?_ | refine CallK_plain ?_ | refine CallQ_plain ?_ | refine CallR_plain ?_ | refine wCond ?_); simp [g1, g2, g4, b4, g7, b7, g9, b9, g13, g14, g15, hlt, hlt', hw, he, hix]) | (refine wIn ?_; refine And.intro (by kernel_rfl) ?_; try simp only [thenA_n]) | (first | refine wBlock ?_ | refine wScope ?_) | ((first | refine wRet ?_ | refine wExit ?_ | refine wSkip ?_); try simp) | ((first | refine wLabel ?_ | refine wOn ?_ | refine wQn ?_); try simp only [thenA_n]) | (refine CallE.pure (c3) rfl ?_) | (refine CallE.lent (c3) rfl ?_) | (refine CallF.pure (c3) rfl ?_) | (refine CallF.lent (c3) rfl ?_) | (refine CallE.own (c3) ?_) | (refine CallH.pure (c3) rfl ?_) | (refine CallH.lent (c3) rfl ?_) | (refine CallH.own (c3) ?_)
      refine hL _ (N - 1) (by omega) ⟨k + 1, by omega, ?_⟩
      simp [g1, g2, g4, b4, g7, b7, g9, b9, g13, g14, g15, hw, hsn, hix]
    | false =>
      rw [hb2] at c3
      rw [if_neg (by simp [hb2])] at hsn
      repeat' first | (refine hK _ ?_; clear hK) | (refine hK _ _ ?_; clear hK) | (clear hK; refine hK _ ?_; clear hK) | (clear hK; clear hK; refine hK _ ?_; clear hK) | (clear hK; clear hK; clear hK; refine hK _ ?_; clear hK) | (clear hK; clear hK; clear hK; clear hK; refine hK _ ?_; clear hK) | (refine wSeq fun K hK => ?_) | ((first | refine wReg ?_ | refine wDrwQ rfl (by kernel_rfl) ?_ | refine wDrwI ?_ | refine wDrw (by kernel_rfl) ?_); simp only [List.map_cons, List.map_nil, strip]) | ((first | refine wIs fun K hK => ?_ | refine wOs fun K hK => ?_ | refine wQs fun K hK => ?_ | refine CallK_plain ?_ | refine CallQ_plain ?_ | refine CallR_plain ?_ | refine wCond ?_); simp [g1, g2, g4, b4, g7, b7, g9, b9, g13, g14, g15, hlt, hlt', hw, he]) | (refine wIn ?_; refine And.intro (by kernel_rfl) ?_; try simp only [thenA_n]) | (first | refine wBlock ?_ | refine wScope ?_) | ((first | refine wRet ?_ | refine wExit ?_ | refine wSkip ?_); try simp) | ((first | refine wLabel ?_ | refine wOn ?_ | refine wQn ?_); try simp only [thenA_n]) | (refine CallE.pure (c3) rfl ?_) | (refine CallE.lent (c3) rfl ?_) | (refine CallF.pure (c3) rfl ?_) | (refine CallF.lent (c3) rfl ?_) | (refine CallE.own (c3) ?_) | (refine CallH.pure (c3) rfl ?_) | (refine CallH.lent (c3) rfl ?_) | (refine CallH.own (c3) ?_)
      refine hL _ (N - 1) (by omega) ⟨k + 1, by omega, ?_⟩
      simp [g1, g2, g4, b4, g7, b7, g9, b9, g13, g14, g15, hw, hsn]
  · have hlt' : ¬ (k : Int) < v.length := by omega
    rw [List.take_of_length_le (by omega)] at b9
    repeat' first | (refine hK _ ?_; clear hK) | (refine hK _ _ ?_; clear hK) | (clear hK; refine hK _ ?_; clear hK) | (clear hK; clear hK; refine hK _ ?_; clear hK) | (clear hK; clear hK; clear hK; refine hK _ ?_; clear hK) | (clear hK; clear hK; clear hK; clear hK; refine hK _ ?_; clear hK) | (refine wSeq fun K hK => ?_) | ((first | refine wReg ?_ | refine wDrwQ rfl (by kernel_rfl) ?_ | refine wDrwI ?_ | refine wDrw (by kernel_rfl) ?_); simp only [List.map_cons, List.map_nil, strip]) | ((first | refine wIs fun K hK => ?_ | refine wOs fun K hK => ?_ | refine wQs fun K hK => ?_ | refine CallK_plain ?_ | refine CallQ_plain ?_ | refine CallR_plain ?_ | refine wCond ?_); simp [g1, g2, g4, b4, g7, b7, g9, b9, g13, g14, g15, hlt, hlt']) | (refine wIn ?_; refine And.intro (by kernel_rfl) ?_; try simp only [thenA_n]) | (first | refine wBlock ?_ | refine wScope ?_) | ((first | refine wRet ?_ | refine wExit ?_ | refine wSkip ?_); try simp) | ((first | refine wLabel ?_ | refine wOn ?_ | refine wQn ?_); try simp only [thenA_n]) | (refine CallE.pure (c2) rfl ?_) | (refine CallE.lent (c2) rfl ?_) | (refine CallF.pure (c2) rfl ?_) | (refine CallF.lent (c2) rfl ?_) | (refine CallE.own (c2) ?_) | (refine CallH.pure (c2) rfl ?_) | (refine CallH.lent (c2) rfl ?_) | (refine CallH.own (c2) ?_)
    all_goals apply hr
    all_goals simp [Try.f24]
end Go.Proofs.Ytnfcbkageifmfaa

/- Histories: what committing comes to. -/
namespace Go.Proofs.Ytnfcbkageifmfaa
set_option linter.unusedSimpArgs false
set_option linter.unusedVariables false
open Go Go.Av
theorem zcmp_neg (a b c d : Int) : zcmp a b c d < 0 ↔ a < c ∨ (a = c ∧ b < d) := by rw [zcmp_spec]; split <;> (try split) <;> omega
theorem zcmp_le (a b c d : Int) : zcmp a b c d ≤ 0 ↔ a < c ∨ (a = c ∧ b ≤ d) := by rw [zcmp_spec]; split <;> (try split) <;> omega
theorem zcmp_ge (a b c d : Int) : 0 ≤ zcmp a b c d ↔ c < a ∨ (a = c ∧ d ≤ b) := by rw [zcmp_spec]; split <;> (try split) <;> omega
def zlt (a b : Zx) : Prop := a.e < b.e ∨ (a.e = b.e ∧ a.n < b.n)
theorem zlt_tr {a b c : Zx} (h : zlt a b) (k : zlt b c) : zlt a c := by unfold zlt at *; omega
theorem rises_all : ∀ (l : List Zx) (p : Zx), risesB (p :: l) = true → ∀ z ∈ l, zlt p z
  | [], p, _, z, hz => by simp at hz
  | q :: l, p, h, z, hz => by
    simp only [risesB, Bool.and_eq_true, decide_eq_true_eq, zcmp_neg] at h
    have hpq : zlt p q := h.1
    rcases List.mem_cons.1 hz with rfl | hz
    · exact hpq
    · exact zlt_tr hpq (rises_all l q h.2 z hz)
theorem rises_tail {p : Zx} {l : List Zx} (h : risesB (p :: l) = true) : risesB l = true := by
  cases l with
  | nil => rfl
  | cons q l => simp only [risesB, Bool.and_eq_true] at h; exact h.2
theorem rises_lt : ∀ (l : List Zx), risesB l = true → ∀ (i j : Nat) (hi : i < l.length) (hj : j < l.length), i < j → zlt l[i] l[j]
  | [], _, i, j, hi, _, _ => by simp at hi
  | p :: l, h, 0, j + 1, hi, hj, _ => rises_all l p h _ (by simp)
  | p :: l, h, i + 1, j + 1, hi, hj, hij => by
    simpa using rises_lt l (rises_tail h) i j (by simpa using hi) (by simpa using hj) (by omega)
/-- The place ahead of the k-th transaction. -/
def pv (h : Hy) (k : Nat) : Zx := (marksH h).getD k ⟨0, 0⟩
theorem pv_zero (h : Hy) : pv h 0 = ⟨h.im.ae, h.im.an⟩ := rfl
theorem pv_succ {h : Hy} {k : Nat} (hk : k < h.lg.length) : pv h (k + 1) = ⟨h.lg[k].e, h.lg[k].n⟩ := by
  unfold pv marksH txZ
  simp [hk]
theorem marks_len (h : Hy) : (marksH h).length = h.lg.length + 1 := by simp [marksH, txZ]
theorem pv_lt {h : Hy} (hr : risesB (marksH h) = true) {i j : Nat} (hij : i < j) (hj : j ≤ h.lg.length) : zlt (pv h i) (pv h j) := by
  have hm := marks_len h
  have := rises_lt _ hr i j (by omega) (by omega) hij
  unfold pv
  rw [List.getD_eq_getElem?_getD, List.getD_eq_getElem?_getD, List.getElem?_eq_getElem (by omega), List.getElem?_eq_getElem (by omega)]
  exact this
/-- Whether the k-th transaction is committed, all ahead of it being so. -/
def stepQ (h : Hy) (self : Int) (l : List Lr) (k : Nat) : Bool := allQ (endN (nsOf h (h.lg.take (k + 1))) (pv h k).e (pv h k).n) (setS self 4 (pv h (k + 1)).e (pv h (k + 1)).n l)
theorem comF_at {h : Hy} (hr : risesB (marksH h) = true) (self : Int) (l : List Lr) : ∀ (r k : Nat), k + r = h.lg.length → ∃ m, k ≤ m ∧ m ≤ h.lg.length ∧ (∀ j, k ≤ j → j < m → stepQ h self l j = true) ∧ (m < h.lg.length → stepQ h self l m = false) ∧
    comF h self l (h.lg.drop k) k (pv h k).e (pv h k).n = ((pv h m).e, (pv h m).n)
  | 0, k, hk => ⟨k, Nat.le_refl _, by omega, fun j h1 h2 => by omega, fun h1 => by omega, by rw [List.drop_of_length_le (by omega)]; rfl⟩
  | r + 1, k, hk => by
    have hlt : k < h.lg.length := by omega
    rw [List.drop_eq_getElem_cons hlt]
    have h1 := pv_lt hr (show k < k + 1 by omega) (by omega)
    rw [pv_succ hlt] at h1
    have hn : ¬ zcmp h.lg[k].e h.lg[k].n (pv h k).e (pv h k).n ≤ 0 := by rw [zcmp_le]; unfold zlt at h1; simp only at h1; omega
    simp only [comF, if_neg hn]
    have hs : stepQ h self l k = allQ (endN (nsOf h (h.lg.take (k + 1))) (pv h k).e (pv h k).n) (setS self 4 h.lg[k].e h.lg[k].n l) := by unfold stepQ; rw [pv_succ hlt]
    rw [← hs]
    by_cases o : stepQ h self l k = true
    · rw [if_pos o]
      obtain ⟨m, h2, h3, h4, h5, h6⟩ := comF_at hr self l r (k + 1) (by omega)
      rw [pv_succ hlt] at h6
      refine ⟨m, by omega, h3, fun j hj1 hj2 => ?_, h5, h6⟩
      by_cases hjk : j = k
      · rw [hjk]; exact o
      · exact h4 j (by omega) hj2
    · rw [if_neg o]
      exact ⟨k, Nat.le_refl _, by omega, fun j h1 h2 => by omega, fun _ => by simpa using o, rfl⟩
/-- What is known to be committed is passed over. -/
theorem comF_skip {h : Hy} (hr : risesB (marksH h) = true) (self : Int) (l : List Lr) {m : Nat} (hm : m ≤ h.lg.length) : ∀ (r k : Nat), k + r = m → comF h self l (h.lg.drop k) k (pv h m).e (pv h m).n = comF h self l (h.lg.drop m) m (pv h m).e (pv h m).n
  | 0, k, hk => by rw [Nat.add_zero] at hk; rw [hk]
  | r + 1, k, hk => by
    have hlt : k < h.lg.length := by omega
    rw [List.drop_eq_getElem_cons hlt]
    have hle : zcmp h.lg[k].e h.lg[k].n (pv h m).e (pv h m).n ≤ 0 := by
      rw [zcmp_le]
      by_cases hkm : k + 1 = m
      · rw [← hkm, pv_succ hlt]; simp
      · have h1 := pv_lt hr (show k + 1 < m by omega) hm
        rw [pv_succ hlt] at h1
        unfold zlt at h1; simp only at h1; omega
    simp only [comF, if_pos hle]
    exact comF_skip hr self l hm r (k + 1) (by omega)
theorem com_first {h : Hy} (hr : risesB (marksH h) = true) (self : Int) (l : List Lr) : ∃ m, m ≤ h.lg.length ∧ (∀ j, j < m → stepQ h self l j = true) ∧ (m < h.lg.length → stepQ h self l m = false) ∧
    comF h self l h.lg 0 h.im.ae h.im.an = ((pv h m).e, (pv h m).n) := by
  obtain ⟨m, -, h2, h3, h4, h5⟩ := comF_at hr self l h.lg.length 0 (by omega)
  exact ⟨m, h2, fun j hj => h3 j (by omega) hj, h4, by simpa [pv_zero] using h5⟩
/-- Asked again, with what was committed, it is the same. -/
theorem com_again {h : Hy} (hr : risesB (marksH h) = true) (self : Int) (l : List Lr) : comF h self l h.lg 0 (comF h self l h.lg 0 h.im.ae h.im.an).1 (comF h self l h.lg 0 h.im.ae h.im.an).2 = comF h self l h.lg 0 h.im.ae h.im.an := by
  obtain ⟨m, h1, h2, h3, h4⟩ := com_first hr self l
  rw [h4]
  have h5 := comF_skip hr self l h1 m 0 (by omega)
  simp only [List.drop_zero] at h5
  show comF h self l h.lg 0 (pv h m).e (pv h m).n = _
  rw [h5]
  obtain ⟨m', g1, g2, g3, g4, g5⟩ := comF_at hr self l (h.lg.length - m) m (by omega)
  rw [g5]
  by_cases hmm : m' = m
  · rw [hmm]
  · have := g3 m (Nat.le_refl _) (by omega)
    rw [h3 (by omega)] at this
    simp at this
/-- If all have as much, as much is committed. -/
theorem com_more {h : Hy} (hr : risesB (marksH h) = true) (self : Int) (l l' : List Lr) (hm : ∀ (e n : Int) x, x ∈ setS self 4 e n l → x ∈ setS self 4 e n l') :
    0 ≤ zcmp (comF h self l' h.lg 0 h.im.ae h.im.an).1 (comF h self l' h.lg 0 h.im.ae h.im.an).2 (comF h self l h.lg 0 h.im.ae h.im.an).1 (comF h self l h.lg 0 h.im.ae h.im.an).2 := by
  obtain ⟨m, h1, h2, h3, h4⟩ := com_first hr self l
  obtain ⟨m', g1, g2, g3, g4⟩ := com_first hr self l'
  rw [h4, g4]
  have hmm : m ≤ m' := by
    by_cases hlt : m' < m
    · have a := h2 m' hlt
      have b := g3 (by omega)
      have : stepQ h self l' m' = true := by
        unfold stepQ allQ at a ⊢
        simp only [Bool.and_eq_true, List.all_eq_true, decide_eq_true_eq] at a ⊢
        exact ⟨fun c hc => isQ_mono (fun x _ _ hx => hm _ _ _ hx) (a.1 c hc), a.2⟩
      rw [b] at this; simp at this
    · omega
  simp only
  rw [zcmp_ge]
  by_cases he : m = m'
  · rw [he]; omega
  · have := pv_lt hr (show m < m' by omega) g1
    unfold zlt at this
    omega
/-! ### Configs -/
theorem lastC_cons (p : Pt) (ps : List Pt) : lastC (p :: ps) = match lastC ps with
    | some c => some c
    | none => if p.k = 5 then some p.c else none := by
  unfold lastC
  rw [List.filter_cons]
  by_cases h : p.k = 5
  · rw [if_pos (decide_eq_true h), List.getLast?_cons]
    cases hl : (ps.filter fun p => decide (p.k = 5)).getLast? <;> simp [h]
  · rw [if_neg (by simpa using h)]
    cases hl : (ps.filter fun p => decide (p.k = 5)).getLast? <;> simp [h]
theorem runP_cfg : ∀ (ps : List Pt) (s : Sv), (runP s ps).c = (lastC ps).getD s.c
  | [], s => rfl
  | p :: ps, s => by
    have e : runP s (p :: ps) = runP (stepP s p) ps := rfl
    rw [e, runP_cfg ps, lastC_cons]
    cases lastC ps with
    | some c => rfl
    | none =>
      unfold stepP
      by_cases h5 : p.k = 5
      · simp [h5]
      · rw [if_neg h5]
        simp only [Option.getD_none]
        repeat' split
        all_goals first | rfl | omega
theorem doS_cfg (s : Sv) (t : Tx) : (doS s t).c = (lastC t.ps).getD s.c := by unfold doS lateS; exact runP_cfg t.ps s
theorem allS_cfg (h : Hy) : ∀ (l : List Tx) (s : Sv) (q : NS), q.now = s.c → (allS s l).c = (l.foldl nsStep q).now
  | [], s, q, hq => hq.symm
  | t :: l, s, q, hq => by
    refine allS_cfg h l (doS s t) (nsStep q t) ?_
    rw [doS_cfg]
    unfold nsStep
    cases lastC t.ps with
    | none => exact hq
    | some c => rfl
theorem ns_cfg (h : Hy) (l : List Tx) : (allS h.im l).c = (nsOf h l).now := allS_cfg h l h.im (ns0 h) rfl
theorem upTo_all {l : List Tx} {e n : Int} (h : ∀ t ∈ l, zcmp t.e t.n e n ≤ 0) : upTo e n l = l := by
  unfold upTo
  rw [List.filter_eq_self]
  intro t ht
  exact decide_eq_true (h t ht)
/-- The state at the end of a beginning. -/
theorem stAt_end {h : Hy} (hr : risesB (marksH h) = true) {k : Nat} (hk : k ≤ h.lg.length) : (stAt ⟨h.im, h.lg.take k⟩ (pv h k).e (pv h k).n).c = (nsOf h (h.lg.take k)).now := by
  unfold stAt
  rw [upTo_all]
  · exact ns_cfg h _
  · intro t ht
    obtain ⟨i, hi, rfl⟩ := List.getElem_of_mem ht
    simp only [List.length_take] at hi
    rw [zcmp_le]
    simp only [List.getElem_take]
    have hil : i < h.lg.length := by omega
    have e := pv_succ hil
    by_cases hik : i + 1 = k
    · have e2 : pv h k = pv h (i + 1) := by rw [hik]
      rw [e2, e]; simp
    · have := pv_lt hr (show i + 1 < k by omega) hk
      rw [e] at this
      unfold zlt at this; simp only at this; omega
theorem lastH_take {h : Hy} {k : Nat} (hk : k ≤ h.lg.length) : lastH ⟨h.im, h.lg.take k⟩ = pv h k := by
  unfold lastH
  cases k with
  | zero => simp [pv_zero]
  | succ k =>
    rw [pv_succ (by omega)]
    simp only [List.getLast?_eq_getElem?, List.length_take]
    rw [show min (k + 1) h.lg.length - 1 = k by omega, List.getElem?_take, if_pos (by omega), List.getElem?_eq_getElem (by omega)]
/-- From where the last config holds. -/
theorem ns_from {h : Hy} (hr : risesB (marksH h) = true) : ∀ (k : Nat), k ≤ h.lg.length → zcmp (nsOf h (h.lg.take k)).fe (nsOf h (h.lg.take k)).fn (pv h k).e (pv h k).n ≤ 0
  | 0, _ => by rw [zcmp_le]; simp [nsOf, ns0, pv_zero]
  | k + 1, hk => by
    have ih := ns_from hr k (by omega)
    have hlt : k < h.lg.length := by omega
    have h1 := pv_lt hr (show k < k + 1 by omega) hk
    rw [nsOf_snoc h hlt]
    rw [zcmp_le] at ih ⊢
    unfold nsStep
    split
    · unfold zlt at h1; omega
    · simp only; rw [pv_succ hlt]; simp
theorem stepQ_both {h : Hy} (hr : risesB (marksH h) = true) {self : Int} {l : List Lr} {k : Nat} (hk : k < h.lg.length) (hq : stepQ h self l k = true) :
    isQ (nsOf h (h.lg.take k)).now (setS self 4 h.lg[k].e h.lg[k].n l) = true ∧ isQ (nsOf h (h.lg.take (k + 1))).now (setS self 4 h.lg[k].e h.lg[k].n l) = true := by
  have hf := ns_from hr k (by omega)
  have h1 := pv_lt hr (show k < k + 1 by omega) (by omega)
  rw [pv_succ hk] at h1
  unfold stepQ at hq
  rw [pv_succ hk, nsOf_snoc h hk] at hq
  rw [nsOf_snoc h hk]
  generalize nsOf h (h.lg.take k) = s at *
  simp only at hq
  generalize setS self 4 h.lg[k].e h.lg[k].n l = S at *
  unfold nsStep at hq ⊢
  cases hc : lastC h.lg[k].ps with
  | none =>
    rw [hc] at hq
    simp only at hq ⊢
    unfold endN at hq
    rw [if_pos (.inr hf)] at hq
    simp only [allQ, List.all_cons, List.all_nil, Bool.and_true, Bool.and_eq_true] at hq
    exact ⟨hq.1, hq.1⟩
  | some c =>
    rw [hc] at hq
    simp only at hq ⊢
    unfold endN at hq
    rw [if_neg (by rintro (h | h); simp at h; rw [zcmp_le] at h; unfold zlt at h1; simp only at h h1; omega)] at hq
    simp only [allQ, List.all_cons, List.all_nil, Bool.and_true, Bool.and_eq_true] at hq
    exact ⟨hq.1.1, hq.1.2⟩
theorem mem_setS {self ph e n : Int} {l : List Lr} {x : Int} : x ∈ setS self ph e n l ↔ x = self ∨ ∃ y ∈ l, inW self ph e n y ∧ y.id = x := by
  unfold setS
  rw [List.mem_cons, List.mem_map]
  constructor
  · rintro (h | ⟨y, h1, h2⟩)
    · exact .inl h
    · exact .inr ⟨y, (List.mem_filter.1 h1).1, of_decide_eq_true (List.mem_filter.1 h1).2, h2⟩
  · rintro (h | ⟨y, h1, h2, h3⟩)
    · exact .inl h
    · exact .inr ⟨y, List.mem_filter.2 ⟨h1, decide_eq_true h2⟩, h3⟩
theorem hasK_of {self e n : Int} {l : List Lr} {x : Int} (h : x ∈ setS self 4 e n l) : hasK l self x e n = true := by
  unfold hasK
  rw [Bool.or_eq_true]
  rcases mem_setS.1 h with h | ⟨y, h1, h2, h3⟩
  · exact .inl (decide_eq_true h)
  · exact .inr (List.any_eq_true.2 ⟨y, h1, decide_eq_true ⟨h3, h2.2⟩⟩)
theorem enough_of {c : Cf} {self e n : Int} {l : List Lr} (h : isQ c (setS self 4 e n l) = true) : enoughK c l self e n = true := by
  unfold enoughK
  refine isQ_mono (fun m hm hr hx => ?_) h
  unfold haveK ids
  refine List.mem_filter.2 ⟨?_, hasK_of hx⟩
  exact List.mem_map.2 ⟨m, List.mem_filter.2 ⟨hm, decide_eq_true hr⟩, rfl⟩
end Go.Proofs.Ytnfcbkageifmfaa
