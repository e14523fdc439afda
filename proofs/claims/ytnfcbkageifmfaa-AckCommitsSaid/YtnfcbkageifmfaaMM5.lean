/- MERGED KH KI KJ KL KM KN -/
import Derived.Test.YtnfcbkageifmfaaMM4
import Derived.Test.YtnfcbkageifmfaaMM2
import Derived.Test.YtnfcbkageifmfaaMM3
/- Histories: the configs that are needed, by the program. -/
namespace Go.Proofs.Ytnfcbkageifmfaa
set_option linter.unusedSimpArgs false
set_option linter.unusedVariables false
open Go Go.Av
attribute [local simp] Try.T1 Try.T2 Try.T3 Try.T4 Try.T5 Try.T9 Try.T12 Try.T15 Try.T16 Try.T17 Try.T21 Try.T22 Try.T23 Try.T25 Try.T27 Try.T29 Try.T30 Try.T31 Try.T32 Try.T33 Try.T35 Try.T37 Try.T38 Try.T40 Try.T41 Try.T42 Try.T43 Try.T44 Try.T45 Try.T46 Try.T47 Try.T48 Try.T49 Try.T50 Try.T51 Try.T52 Try.T53 Try.T54 Try.T56 Try.T57 Try.T58 Try.T59 Try.T60 Try.T61 Try.T62 Try.T64 Try.T66 Try.T67 Try.T68 Try.T69 Try.T71 Try.T72 Try.T73 Try.T74 Try.T75 Try.T76 Try.T77 Try.T78 Try.T79 Try.T80 Try.T81 Try.T82 Try.T83 Try.T84 Try.T85 Try.T86 Try.T87 Try.T88 Try.T89 Try.T90 Try.T91 Try.T92 Try.T93 Try.T94 Try.T95 Try.T97 Try.T98 Try.T99 Try.T100 Try.T101 Try.T102 Try.T103 Try.T104 Try.T105 Try.T106 Try.T107 Try.T108 Try.T109 Try.T110 Try.T111 Try.T112 Try.T113 Try.T114 Try.T115 Try.T116 Try.T117 Try.T120 Try.T123 Try.T124 Try.T127 Try.T128
attribute [local irreducible] Go.Av.CallK Go.Av.CallE Go.Av.CallQ Go.Av.CallF Go.Av.CallR Go.Av.CallH Go.Av.Con
def lastC (ps : List Pt) : Option Cf := ((ps.filter fun p => decide (p.k = 5)).getLast?).map Pt.c
theorem lastC_at {ps : List Pt} {i : Nat} (hi : i < ps.length) (h : ps[i].k = 5) (hb : ∀ j (hj : j < ps.length), i < j → ¬ ps[j].k = 5) : lastC ps = some ps[i].c := by
  have e : ps = ps.take i ++ ps[i] :: ps.drop (i + 1) := by rw [← List.drop_eq_getElem_cons hi, List.take_append_drop]
  have e2 : (ps.drop (i + 1)).filter (fun p => decide (p.k = 5)) = [] := by
    rw [List.filter_eq_nil_iff]
    intro x hx
    obtain ⟨j, hj, rfl⟩ := List.getElem_of_mem hx
    rw [List.getElem_drop]
    have hj' : i + 1 + j < ps.length := by simp at hj; omega
    simpa using hb _ hj' (by omega)
  unfold lastC
  have e3 : ps.filter (fun p => decide (p.k = 5)) = (ps.take i).filter (fun p => decide (p.k = 5)) ++ [ps[i]] := by
    conv => lhs; rw [e]
    rw [List.filter_append, List.filter_cons, if_pos (decide_eq_true h), e2]
  rw [e3]
  simp
theorem lastC_none {ps : List Pt} (hb : ∀ j (hj : j < ps.length), ¬ ps[j].k = 5) : lastC ps = none := by
  have e2 : ps.filter (fun p => decide (p.k = 5)) = [] := by
    rw [List.filter_eq_nil_iff]
    intro x hx
    obtain ⟨j, hj, rfl⟩ := List.getElem_of_mem hx
    simpa using hb _ hj
  unfold lastC
  rw [e2]; rfl
structure NS where
  (was now : Cf)
  (fe fn : Int)
  (ch : Bool)
def nsStep (s : NS) (t : Tx) : NS := match lastC t.ps with
  | none => s
  | some c => ⟨s.now, c, t.e, t.n, true⟩
def ns0 (h : Hy) : NS := ⟨h.im.c, h.im.c, h.im.ae, h.im.an, false⟩
def nsOf (h : Hy) (l : List Tx) : NS := l.foldl nsStep (ns0 h)
theorem nsOf_snoc (h : Hy) {l : List Tx} {k : Nat} (hk : k < l.length) : nsOf h (l.take (k + 1)) = nsStep (nsOf h (l.take k)) l[k] := by
  rw [List.take_succ_eq_append_getElem hk, nsOf, List.foldl_append]; rfl
def endN (s : NS) (de dn : Int) : List Cf := if s.ch = false ∨ zcmp s.fe s.fn de dn ≤ 0 then [s.now] else [s.was, s.now]
def needsOf (h : Hy) (de dn : Int) : List Cf := endN (nsOf h h.lg) de dn
/-- What a history must be for the calls to do with it. -/
structure OkH (h : Hy) : Prop where
  ns : h.im.ns.length ≤ 1000
  ss : h.im.ss.length ≤ 1000
  c : h.im.c.ms.length ≤ 1000
  lg : h.lg.length ≤ 1000
  ps : ∀ t ∈ h.lg, t.ps.length ≤ 1000 ∧ ∀ p ∈ t.ps, p.c.ms.length ≤ 1000
  tot : (h.lg.map fun t => t.ps.length).sum ≤ 1000
theorem nsOf_ok {h : Hy} (hk : OkH h) : ∀ {l : List Tx}, (∀ t ∈ l, t ∈ h.lg) → (nsOf h l).was.ms.length ≤ 1000 ∧ (nsOf h l).now.ms.length ≤ 1000 := by
  have key : ∀ (l : List Tx) (s : NS), (∀ t ∈ l, t ∈ h.lg) → s.was.ms.length ≤ 1000 → s.now.ms.length ≤ 1000 → (l.foldl nsStep s).was.ms.length ≤ 1000 ∧ (l.foldl nsStep s).now.ms.length ≤ 1000 := by
    intro l
    induction l with
    | nil => intro s _ h1 h2; exact ⟨h1, h2⟩
    | cons t l ih =>
      intro s hl h1 h2
      refine ih _ (fun t' h' => hl t' (by simp [h'])) ?_ ?_
      all_goals
        unfold nsStep
        split
      · exact h1
      · exact h2
      · exact h2
      · rename_i c hc
        unfold lastC at hc
        cases hg : (t.ps.filter fun p => decide (p.k = 5)).getLast? with
        | none => rw [hg] at hc; simp at hc
        | some p =>
          rw [hg] at hc
          simp only [Option.map_some, Option.some.injEq] at hc
          rw [← hc]
          exact (hk.ps t (hl t (by simp))).2 p (List.mem_filter.1 (List.mem_of_getLast? hg)).1
  intro l hl
  exact key l _ hl hk.c hk.c
theorem base_con (h : Hy) : ACon Try.prog 55 [.p (.agg h.cells)] (.p (.agg [I h.im.ae, I h.im.an])) := by
  unfold Hy.cells
  refine wBody Try.tab Try.mixed Try.func55 rfl rfl Try.ntmps55 (by simp) (by simp) fun Q hr hn => ?_
  repeat' first | (refine hK _ ?_; clear hK) | (refine hK _ _ ?_; clear hK) | (clear hK; refine hK _ ?_; clear hK) | (clear hK; clear hK; refine hK _ ?_; clear hK) | (clear hK; clear hK; clear hK; refine hK _ ?_; clear hK) | (clear hK; clear hK; clear hK; clear hK; refine hK _ ?_; clear hK) | (refine wSeq fun K hK => ?_) | ((first | refine wReg ?_ | refine wDrwQ rfl (by kernel_rfl) ?_ | refine wDrwI ?_ | refine wDrw (by kernel_rfl) ?_); simp only [List.map_cons, List.map_nil, strip]) | ((first | refine wIs fun K hK => ?_ | refine wOs fun K hK => ?_ | refine wQs fun K hK => ?_ | refine CallK_plain ?_ | refine CallQ_plain ?_ | refine CallR_plain ?_ | refine wCond ?_); simp) | (refine wIn ?_; refine And.intro (by kernel_rfl) ?_; try simp only [thenA_n]) | (first | refine wBlock ?_ | refine wScope ?_) | ((first | refine wRet ?_ | refine wExit ?_ | refine wSkip ?_); try simp) | ((first | refine wLabel ?_ | refine wOn ?_ | refine wQn ?_); try simp only [thenA_n])
  all_goals apply hr
  all_goals simp [Try.f55]
set_option maxHeartbeats 8000000 in
theorem needs_con (h : Hy) (de dn : Int) (hk : OkH h) : ACon Try.prog 37 [.p (.agg h.cells), .p (.agg [I de, I dn])] (.p (.sl 4 (cfs (needsOf h de dn)))) := by
  have c1 := base_con h
  have hlg := hk.lg
  have hns0 : nsOf h (h.lg.take 0) = ns0 h := by simp [nsOf]
  unfold Hy.cells at c1 ⊢
  refine wBody Try.tab Try.mixed Try.func37 rfl rfl Try.ntmps37 (by simp) (by simp) fun Q hr hn => ?_
  repeat' first | (refine hK _ ?_; clear hK) | (refine hK _ _ ?_; clear hK) | (clear hK; refine hK _ ?_; clear hK) | (clear hK; clear hK; refine hK _ ?_; clear hK) | (clear hK; clear hK; clear hK; refine hK _ ?_; clear hK) | (clear hK; clear hK; clear hK; clear hK; refine hK _ ?_; clear hK) | (refine wSeq fun K hK => ?_) | ((first | refine wReg ?_ | refine wDrwQ rfl (by kernel_rfl) ?_ | refine wDrwI ?_ | refine wDrw (by kernel_rfl) ?_); simp only [List.map_cons, List.map_nil, strip]) | ((first | refine wIs fun K hK => ?_ | refine wOs fun K hK => ?_ | refine wQs fun K hK => ?_ | refine CallK_plain ?_ | refine CallQ_plain ?_ | refine CallR_plain ?_ | refine wCond ?_); simp) | (refine wIn ?_; refine And.intro (by kernel_rfl) ?_; try simp only [thenA_n]) | (first | refine wBlock ?_ | refine wScope ?_) | ((first | refine wRet ?_ | refine wExit ?_ | refine wSkip ?_); try simp) | ((first | refine wLabel ?_ | refine wOn ?_ | refine wQn ?_); try simp only [thenA_n]) | (refine CallE.pure (c1) rfl ?_) | (refine CallE.lent (c1) rfl ?_) | (refine CallF.pure (c1) rfl ?_) | (refine CallF.lent (c1) rfl ?_) | (refine CallE.own (c1) ?_) | (refine CallH.pure (c1) rfl ?_) | (refine CallH.lent (c1) rfl ?_) | (refine CallH.own (c1) ?_)
  refine wLoop (fun N st => ∃ (k : Nat) (s : NS), k + N = h.lg.length ∧ s = nsOf h (h.lg.take k) ∧ st.s 3 = .ptr 3 0 ∧ st.b 3 = some (.box 25 [.p (I de), .p (I dn)]) ∧ st.s 5 = .ptr 5 0 ∧ st.b 5 = some (.box 35 [.p (I s.was.ep), .p (I s.was.n), .p (I s.was.kind), .p (.sl 4 (mbs s.was.ms))]) ∧ st.s 6 = .ptr 6 0 ∧ st.b 6 = some (.box 35 [.p (I s.now.ep), .p (I s.now.n), .p (I s.now.kind), .p (.sl 4 (mbs s.now.ms))]) ∧ st.s 7 = .ptr 7 0 ∧ st.b 7 = some (.box 25 [.p (I s.fe), .p (I s.fn)]) ∧ st.s 8 = .p (B s.ch) ∧ st.s 21 = .p (.sl 8 (txns h.lg)) ∧ st.s 22 = .p (I h.lg.length) ∧ st.s 23 = .p (I k)) h.lg.length ⟨0, ns0 h, by simp [ns0, nsOf]⟩ fun K N st hL ⟨k, s, hkN, hs, g3, b3, g5, b5, g6, b6, g7, b7, g8, g21, g22, g23⟩ => ?_
  by_cases hlt : k < h.lg.length
  · have hlt' : (k : Int) < h.lg.length := by omega
    have hw := wrapS k _ hlt (by omega)
    have he := txns_get hlt
    have hsn := nsOf_snoc h hlt
    rw [← hs] at hsn
    obtain ⟨hp1, hp2⟩ := hk.ps _ (List.getElem_mem hlt)
    have hwl : IntKind.i64.wrap ((h.lg[k].ps.length : Int) - 1) = (h.lg[k].ps.length : Int) - 1 := by rw [wrap_id] <;> omega
    repeat' first | (refine hK _ ?_; clear hK) | (refine hK _ _ ?_; clear hK) | (clear hK; refine hK _ ?_; clear hK) | (clear hK; clear hK; refine hK _ ?_; clear hK) | (clear hK; clear hK; clear hK; refine hK _ ?_; clear hK) | (clear hK; clear hK; clear hK; clear hK; refine hK _ ?_; clear hK) | (refine wSeq fun K hK => ?_) | ((first | refine wReg ?_ | refine wDrwQ rfl (by kernel_rfl) ?_ | refine wDrwI ?_ | refine wDrw (by kernel_rfl) ?_); simp only [List.map_cons, List.map_nil, strip]) | ((first | refine wIs fun K hK => ?_ | refine wOs fun K hK => ?_ | refine wQs fun K hK => ?_ | refine CallK_plain ?_ | refine CallQ_plain ?_ | refine CallR_plain ?_ | refine wCond ?_); simp [g3, b3, g5, b5, g6, b6, g7, b7, g8, g21, g22, g23, hlt, hlt', he, hwl]) | (refine wIn ?_; refine And.intro (by kernel_rfl) ?_; try simp only [thenA_n]) | (first | refine wBlock ?_ | refine wScope ?_) | ((first | refine wRet ?_ | refine wExit ?_ | refine wSkip ?_); try simp) | ((first | refine wLabel ?_ | refine wOn ?_ | refine wQn ?_); try simp only [thenA_n])
    refine wLoop (fun N' st => ∀ (q : Nat), q = N' → q ≤ h.lg[k].ps.length ∧ (∀ j (hj : j < h.lg[k].ps.length), q ≤ j → ¬ (h.lg[k].ps[j]).k = 5) ∧ st.s 3 = .ptr 3 0 ∧ st.b 3 = some (.box 25 [.p (I de), .p (I dn)]) ∧ st.s 5 = .ptr 5 0 ∧ st.b 5 = some (.box 35 [.p (I s.was.ep), .p (I s.was.n), .p (I s.was.kind), .p (.sl 4 (mbs s.was.ms))]) ∧ st.s 6 = .ptr 6 0 ∧ st.b 6 = some (.box 35 [.p (I s.now.ep), .p (I s.now.n), .p (I s.now.kind), .p (.sl 4 (mbs s.now.ms))]) ∧ st.s 7 = .ptr 7 0 ∧ st.b 7 = some (.box 25 [.p (I s.fe), .p (I s.fn)]) ∧ st.s 8 = .p (B s.ch) ∧ st.s 21 = .p (.sl 8 (txns h.lg)) ∧ st.s 22 = .p (I h.lg.length) ∧ st.s 23 = .p (I k) ∧ st.s 10 = .ptr 10 0 ∧ st.b 10 = some (.box 56 [.p (I h.lg[k].e), .p (I h.lg[k].n), .p (I h.lg[k].s), .p (I h.lg[k].x), .p (I h.lg[k].r), .p (I h.lg[k].b), .p (SB h.lg[k].m), .p (.sl 11 (pts h.lg[k].ps))]) ∧ st.s 11 = .p (I ((q : Int) - 1))) h.lg[k].ps.length (by rintro q rfl; refine ⟨by omega, fun j hj hq => by omega, ?_⟩; simp [g3, b3, g5, b5, g6, b6, g7, b7, g8, g21, g22, g23]) fun K' N' st hL' hi => ?_
    obtain ⟨hq, hno, e3, d3, e5, d5, e6, d6, e7, d7, e8, e21, e22, e23, e10, d10, e11⟩ := hi N' rfl
    cases N' with
    | zero =>
      have hlc := lastC_none (ps := h.lg[k].ps) fun j hj => hno j hj (by omega)
      have hss : nsStep s h.lg[k] = s := by unfold nsStep; rw [hlc]
      rw [hss] at hsn
      replace e11 : st.s 11 = .p (I (-1)) := by rw [e11]; rfl
      repeat' first | (refine hK _ ?_; clear hK) | (refine hK _ _ ?_; clear hK) | (clear hK; refine hK _ ?_; clear hK) | (clear hK; clear hK; refine hK _ ?_; clear hK) | (clear hK; clear hK; clear hK; refine hK _ ?_; clear hK) | (clear hK; clear hK; clear hK; clear hK; refine hK _ ?_; clear hK) | (refine wSeq fun K hK => ?_) | ((first | refine wReg ?_ | refine wDrwQ rfl (by kernel_rfl) ?_ | refine wDrwI ?_ | refine wDrw (by kernel_rfl) ?_); simp only [List.map_cons, List.map_nil, strip]) | ((first | refine wIs fun K hK => ?_ | refine wOs fun K hK => ?_ | refine wQs fun K hK => ?_ | refine CallK_plain ?_ | refine CallQ_plain ?_ | refine CallR_plain ?_ | refine wCond ?_); simp [e3, d3, e5, d5, e6, d6, e7, d7, e8, e21, e22, e23, e10, d10, e11, hw]) | (refine wIn ?_; refine And.intro (by kernel_rfl) ?_; try simp only [thenA_n]) | (first | refine wBlock ?_ | refine wScope ?_) | ((first | refine wRet ?_ | refine wExit ?_ | refine wSkip ?_); try simp) | ((first | refine wLabel ?_ | refine wOn ?_ | refine wQn ?_); try simp only [thenA_n])
      refine hL _ (N - 1) (by omega) ⟨k + 1, s, by omega, hsn.symm, ?_⟩
      simp [e3, d3, e5, d5, e6, d6, e7, d7, e8, e21, e22, e23, hw]
    | succ r =>
      have hr5 : r < h.lg[k].ps.length := by omega
      have hr5' : (r : Int) < h.lg[k].ps.length := by omega
      have her := pts_get hr5
      replace e11 : st.s 11 = .p (I (r : Int)) := by rw [e11]; congr 3; omega
      have hwr : IntKind.i64.wrap ((r : Int) - 1) = (r : Int) - 1 := by rw [wrap_id] <;> omega
      by_cases o : (h.lg[k].ps[r]).k = 5
      · have hlc := lastC_at hr5 o fun j hj hjr => hno j hj (by omega)
        have hss : nsStep s h.lg[k] = ⟨s.now, (h.lg[k].ps[r]).c, h.lg[k].e, h.lg[k].n, true⟩ := by unfold nsStep; rw [hlc]
        rw [hss] at hsn
        repeat' first | (refine hK _ ?_; clear hK) | (refine hK _ _ ?_; clear hK) | (clear hK; refine hK _ ?_; clear hK) | (clear hK; clear hK; refine hK _ ?_; clear hK) | (clear hK; clear hK; clear hK; refine hK _ ?_; clear hK) | (clear hK; clear hK; clear hK; clear hK; refine hK _ ?_; clear hK) | (refine wSeq fun K hK => ?_) | ((first | refine wReg ?_ | refine wDrwQ rfl (by kernel_rfl) ?_ | refine wDrwI ?_ | refine wDrw (by kernel_rfl) ?_); simp only [List.map_cons, List.map_nil, strip]) | ((first | refine wIs fun K hK => ?_ | refine wOs fun K hK => ?_ | refine wQs fun K hK => ?_ | refine CallK_plain ?_ | refine CallQ_plain ?_ | refine CallR_plain ?_ | refine wCond ?_); simp [e3, d3, e5, d5, e6, d6, e7, d7, e8, e21, e22, e23, e10, d10, e11, hw, her, hr5, hr5', o, Pt.cells]) | (refine wIn ?_; refine And.intro (by kernel_rfl) ?_; try simp only [thenA_n]) | (first | refine wBlock ?_ | refine wScope ?_) | ((first | refine wRet ?_ | refine wExit ?_ | refine wSkip ?_); try simp) | ((first | refine wLabel ?_ | refine wOn ?_ | refine wQn ?_); try simp only [thenA_n])
        refine hL _ (N - 1) (by omega) ⟨k + 1, _, by omega, hsn.symm, ?_⟩
        simp [e3, d3, e5, d5, e6, d6, e7, d7, e8, e21, e22, e23, hw]
      · repeat' first | (refine hK _ ?_; clear hK) | (refine hK _ _ ?_; clear hK) | (clear hK; refine hK _ ?_; clear hK) | (clear hK; clear hK; refine hK _ ?_; clear hK) | (clear hK; clear hK; clear hK; refine hK _ ?_; clear hK) | (clear hK; clear hK; clear hK; clear hK; refine hK _ ?_; clear hK) | (refine wSeq fun K hK => ?_) | ((first | refine wReg ?_ | refine wDrwQ rfl (by kernel_rfl) ?_ | refine wDrwI ?_ | refine wDrw (by kernel_rfl) ?_); simp only [List.map_cons, List.map_nil, strip]) | ((first | refine wIs fun K hK => ?_ | refine wOs fun K hK => ?_ | refine wQs fun K hK => ?_ | refine CallK_plain ?_ | refine CallQ_plain ?_ | refine CallR_plain ?_ | refine wCond ?_); simp [e3, d3, e5, d5, e6, d6, e7, d7, e8, e21, e22, e23, e10, d10, e11, her, hr5, hr5', o, hwr]) | (refine wIn ?_; refine And.intro (by kernel_rfl) ?_; try simp only [thenA_n]) | (first | refine wBlock ?_ | refine wScope ?_) | ((first | refine wRet ?_ | refine wExit ?_ | refine wSkip ?_); try simp) | ((first | refine wLabel ?_ | refine wOn ?_ | refine wQn ?_); try simp only [thenA_n])
        refine hL' _ r (by omega) ?_
        intro q hqr
        obtain rfl : r = q := hqr.symm
        refine ⟨by omega, fun j hj hjq => ?_, ?_⟩
        · by_cases hjr : j = r
          · subst hjr; exact o
          · exact hno j hj (by omega)
        · simp [e3, d3, e5, d5, e6, d6, e7, d7, e8, e21, e22, e23, e10, d10, hwr]
  · have hlt' : ¬ (k : Int) < h.lg.length := by omega
    rw [List.take_of_length_le (by omega)] at hs
    have hno : needsOf h de dn = endN s de dn := by unfold needsOf; rw [hs]
    rw [hno] at hr
    obtain ⟨hl1, hl2⟩ := nsOf_ok hk (l := h.lg) fun t ht => ht
    rw [← hs] at hl1 hl2
    have c2 := cmp_con s.fe s.fn de dn
    have c3 := ownConfig_con s.now.ep s.now.n s.now.kind (mbs s.now.ms) (by rw [mbs_len]; omega)
    have c4 := ownConfig_con s.was.ep s.was.n s.was.kind (mbs s.was.ms) (by rw [mbs_len]; omega)
    unfold endN at hr
    by_cases o1 : s.ch = false
    · rw [if_pos (.inl o1)] at hr
      rw [o1] at g8
      repeat' first | (refine hK _ ?_; clear hK) | (refine hK _ _ ?_; clear hK) | (clear hK; refine hK _ ?_; clear hK) | (clear hK; clear hK; refine hK _ ?_; clear hK) | (clear hK; clear hK; clear hK; refine hK _ ?_; clear hK) | (clear hK; clear hK; clear hK; clear hK; refine hK _ ?_; clear hK) | (refine wSeq fun K hK => ?_) | ((first | refine wReg ?_ | refine wDrwQ rfl (by kernel_rfl) ?_ | refine wDrwI ?_ | refine wDrw (by kernel_rfl) ?_); simp only [List.map_cons, List.map_nil, strip]) | ((first | refine wIs fun K hK => ?_ | refine wOs fun K hK => ?_ | refine wQs fun K hK => ?_ | refine CallK_plain ?_ | refine CallQ_plain ?_ | refine CallR_plain ?_ | refine wCond ?_); simp [g3, b3, g5, b5, g6, b6, g7, b7, g8, g21, g22, g23, hlt, hlt']) | (refine wIn ?_; refine And.intro (by kernel_rfl) ?_; try simp only [thenA_n]) | (first | refine wBlock ?_ | refine wScope ?_) | ((first | refine wRet ?_ | refine wExit ?_ | refine wSkip ?_); try simp) | ((first | refine wLabel ?_ | refine wOn ?_ | refine wQn ?_); try simp only [thenA_n]) | (refine CallE.pure (c2) rfl ?_) | (refine CallE.lent (c2) rfl ?_) | (refine CallF.pure (c2) rfl ?_) | (refine CallF.lent (c2) rfl ?_) | (refine CallE.own (c2) ?_) | (refine CallH.pure (c2) rfl ?_) | (refine CallH.lent (c2) rfl ?_) | (refine CallH.own (c2) ?_) | (refine CallE.pure (c3) rfl ?_) | (refine CallE.lent (c3) rfl ?_) | (refine CallF.pure (c3) rfl ?_) | (refine CallF.lent (c3) rfl ?_) | (refine CallE.own (c3) ?_) | (refine CallH.pure (c3) rfl ?_) | (refine CallH.lent (c3) rfl ?_) | (refine CallH.own (c3) ?_)
      all_goals apply hr
      all_goals simp [Try.f37, cfs, Cf.cells]
    · have o1' : s.ch = true := by simpa using o1
      rw [o1'] at g8
      by_cases o2 : zcmp s.fe s.fn de dn ≤ 0
      · rw [if_pos (.inr o2)] at hr
        repeat' first | (refine hK _ ?_; clear hK) | (refine hK _ _ ?_; clear hK) | (clear hK; refine hK _ ?_; clear hK) | (clear hK; clear hK; refine hK _ ?_; clear hK) | (clear hK; clear hK; clear hK; refine hK _ ?_; clear hK) | (clear hK; clear hK; clear hK; clear hK; refine hK _ ?_; clear hK) | (refine wSeq fun K hK => ?_) | ((first | refine wReg ?_ | refine wDrwQ rfl (by kernel_rfl) ?_ | refine wDrwI ?_ | refine wDrw (by kernel_rfl) ?_); simp only [List.map_cons, List.map_nil, strip]) | ((first | refine wIs fun K hK => ?_ | refine wOs fun K hK => ?_ | refine wQs fun K hK => ?_ | refine CallK_plain ?_ | refine CallQ_plain ?_ | refine CallR_plain ?_ | refine wCond ?_); simp [g3, b3, g5, b5, g6, b6, g7, b7, g8, g21, g22, g23, hlt, hlt', o2]) | (refine wIn ?_; refine And.intro (by kernel_rfl) ?_; try simp only [thenA_n]) | (first | refine wBlock ?_ | refine wScope ?_) | ((first | refine wRet ?_ | refine wExit ?_ | refine wSkip ?_); try simp) | ((first | refine wLabel ?_ | refine wOn ?_ | refine wQn ?_); try simp only [thenA_n]) | (refine CallE.pure (c2) rfl ?_) | (refine CallE.lent (c2) rfl ?_) | (refine CallF.pure (c2) rfl ?_) | (refine CallF.lent (c2) rfl ?_) | (refine CallE.own (c2) ?_) | (refine CallH.pure (c2) rfl ?_) | (refine CallH.lent (c2) rfl ?_) | (refine CallH.own (c2) ?_) | (refine CallE.pure (c3) rfl ?_) | (refine CallE.lent (c3) rfl ?_) | (refine CallF.pure (c3) rfl ?_) | (refine CallF.lent (c3) rfl ?_) | (refine CallE.own (c3) ?_) | (refine CallH.pure (c3) rfl ?_) | (refine CallH.lent (c3) rfl ?_) | (refine CallH.own (c3) ?_)
        all_goals apply hr
        all_goals simp [Try.f37, cfs, Cf.cells]
      · rw [if_neg (by rintro (h | h); exact o1 h; exact o2 h)] at hr
        repeat' first | (refine hK _ ?_; clear hK) | (refine hK _ _ ?_; clear hK) | (clear hK; refine hK _ ?_; clear hK) | (clear hK; clear hK; refine hK _ ?_; clear hK) | (clear hK; clear hK; clear hK; refine hK _ ?_; clear hK) | (clear hK; clear hK; clear hK; clear hK; refine hK _ ?_; clear hK) | (refine wSeq fun K hK => ?_) | ((first | refine wReg ?_ | refine wDrwQ rfl (by kernel_rfl) ?_ | refine wDrwI ?_ | refine wDrw (by kernel_rfl) ?_); simp only [List.map_cons, List.map_nil, strip]) | ((first | refine wIs fun K hK => ?_ | refine wOs fun K hK => ?_ | refine wQs fun K hK => ?_ | refine CallK_plain ?_ | refine CallQ_plain ?_ | refine CallR_plain ?_ | refine wCond ?_); simp [g3, b3, g5, b5, g6, b6, g7, b7, g8, g21, g22, g23, hlt, hlt', o2]) | (refine wIn ?_; refine And.intro (by kernel_rfl) ?_; try simp only [thenA_n]) | (first | refine wBlock ?_ | refine wScope ?_) | ((first | refine wRet ?_ | refine wExit ?_ | refine wSkip ?_); try simp) | ((first | refine wLabel ?_ | refine wOn ?_ | refine wQn ?_); try simp only [thenA_n]) | (refine CallE.pure (c2) rfl ?_) | (refine CallE.lent (c2) rfl ?_) | (refine CallF.pure (c2) rfl ?_) | (refine CallF.lent (c2) rfl ?_) | (refine CallE.own (c2) ?_) | (refine CallH.pure (c2) rfl ?_) | (refine CallH.lent (c2) rfl ?_) | (refine CallH.own (c2) ?_) | (refine CallE.pure (c3) rfl ?_) | (refine CallE.lent (c3) rfl ?_) | (refine CallF.pure (c3) rfl ?_) | (refine CallF.lent (c3) rfl ?_) | (refine CallE.own (c3) ?_) | (refine CallH.pure (c3) rfl ?_) | (refine CallH.lent (c3) rfl ?_) | (refine CallH.own (c3) ?_) | (refine CallE.pure (c4) rfl ?_) | (refine CallE.lent (c4) rfl ?_) | (refine CallF.pure (c4) rfl ?_) | (refine CallF.lent (c4) rfl ?_) | (refine CallE.own (c4) ?_) | (refine CallH.pure (c4) rfl ?_) | (refine CallH.lent (c4) rfl ?_) | (refine CallH.own (c4) ?_)
        all_goals apply hr
        all_goals simp [Try.f37, cfs, Cf.cells]
end Go.Proofs.Ytnfcbkageifmfaa

/- Histories: what the document makes of them: copies, configs, those that are needed. -/
namespace Go.Proofs.Ytnfcbkageifmfaa
set_option linter.unusedSimpArgs false
set_option linter.unusedVariables false
open Go Go.Av
attribute [local simp] Try.T1 Try.T2 Try.T3 Try.T4 Try.T5 Try.T9 Try.T12 Try.T15 Try.T16 Try.T17 Try.T21 Try.T22 Try.T23 Try.T25 Try.T27 Try.T29 Try.T30 Try.T31 Try.T32 Try.T33 Try.T35 Try.T37 Try.T38 Try.T40 Try.T41 Try.T42 Try.T43 Try.T44 Try.T45 Try.T46 Try.T47 Try.T48 Try.T49 Try.T50 Try.T51 Try.T52 Try.T53 Try.T54 Try.T56 Try.T57 Try.T58 Try.T59 Try.T60 Try.T61 Try.T62 Try.T64 Try.T66 Try.T67 Try.T68 Try.T69 Try.T71 Try.T72 Try.T73 Try.T74 Try.T75 Try.T76 Try.T77 Try.T78 Try.T79 Try.T80 Try.T81 Try.T82 Try.T83 Try.T84 Try.T85 Try.T86 Try.T87 Try.T88 Try.T89 Try.T90 Try.T91 Try.T92 Try.T93 Try.T94 Try.T95 Try.T97 Try.T98 Try.T99 Try.T100 Try.T101 Try.T102 Try.T103 Try.T104 Try.T105 Try.T106 Try.T107 Try.T108 Try.T109 Try.T110 Try.T111 Try.T112 Try.T113 Try.T114 Try.T115 Try.T116 Try.T117 Try.T120 Try.T123 Try.T124 Try.T127 Try.T128
attribute [local irreducible] Go.Av.CallK Go.Av.CallE Go.Av.CallQ Go.Av.CallF Go.Av.CallR Go.Av.CallH Go.Av.Con
theorem pts_snoc (l : List Pt) (x : Pt) : pts l ++ [[I x.k, SB x.z.p, SB x.z.d, I x.z.v, I x.z.k, I x.z.o, I x.s, I x.c.ep, I x.c.n, I x.c.kind, .sl 4 (mbs x.c.ms)]] = pts (l ++ [x]) := by simp [pts, Pt.cells]
theorem txns_snoc (l : List Tx) (t : Tx) : txns l ++ [[I t.e, I t.n, I t.s, I t.x, I t.r, I t.b, SB t.m, .sl 11 (pts t.ps)]] = txns (l ++ [t]) := by simp [txns, Tx.cells]
set_option maxHeartbeats 4000000 in
theorem copied16_con (t : Tx) (hl : t.ps.length ≤ 1000) (hc : ∀ p ∈ t.ps, p.c.ms.length ≤ 1000) : ACon Try.prog 79 [.p (.agg t.cells)] (.p (.agg t.cells)) := by
  unfold Tx.cells
  refine wBody Try.tab Try.mixed Try.func79 rfl rfl Try.ntmps79 (by simp) (by simp) fun Q hr hn => ?_
  repeat' first | (refine hK _ ?_; clear hK) | (refine hK _ _ ?_; clear hK) | (clear hK; refine hK _ ?_; clear hK) | (clear hK; clear hK; refine hK _ ?_; clear hK) | (clear hK; clear hK; clear hK; refine hK _ ?_; clear hK) | (clear hK; clear hK; clear hK; clear hK; refine hK _ ?_; clear hK) | (refine wSeq fun K hK => ?_) | ((first | refine wReg ?_ | refine wDrwQ rfl (by kernel_rfl) ?_ | refine wDrwI ?_ | refine wDrw (by kernel_rfl) ?_); simp only [List.map_cons, List.map_nil, strip]) | ((first | refine wIs fun K hK => ?_ | refine wOs fun K hK => ?_ | refine wQs fun K hK => ?_ | refine CallK_plain ?_ | refine CallQ_plain ?_ | refine CallR_plain ?_ | refine wCond ?_); simp) | (refine wIn ?_; refine And.intro (by kernel_rfl) ?_; try simp only [thenA_n]) | (first | refine wBlock ?_ | refine wScope ?_) | ((first | refine wRet ?_ | refine wExit ?_ | refine wSkip ?_); try simp) | ((first | refine wLabel ?_ | refine wOn ?_ | refine wQn ?_); try simp only [thenA_n])
  refine wLoopG [.cel 1 7 26 66 11] (fun N st => ∃ (k : Nat), k + N = t.ps.length ∧ st.s 1 = .ptr 1 0 ∧ st.b 1 = some (.box 56 [.p (I t.e), .p (I t.n), .p (I t.s), .p (I t.x), .p (I t.r), .p (I t.b), .p (SB t.m), .row 26]) ∧ st.s 2 = .ptr 2 0 ∧ st.b 2 = some (.box 56 [.p (I 0), .p (I 0), .p (I 0), .p (I 0), .p (I 0), .p (I 0), .p (SB []), .nil 11]) ∧ st.b 26 = some (.row 66 11 (pts (t.ps.take k))) ∧ st.s 9 = .p (.sl 11 (pts t.ps)) ∧ st.s 10 = .p (I t.ps.length) ∧ st.s 11 = .p (I k)) t.ps.length ⟨0, by simp [frzL, gh1, pts]⟩ fun K N st hL ⟨k, hk, g1, b1, g2, b2, b26, g9, g10, g11⟩ => ?_
  by_cases hlt : k < t.ps.length
  · have hlt' : (k : Int) < t.ps.length := by omega
    have hw := wrapS k _ hlt (by omega)
    have he := pts_get hlt
    have hpc := hc _ (List.getElem_mem hlt)
    have hs := pts_snoc (t.ps.take k) t.ps[k]
    rw [← List.take_succ_eq_append_getElem hlt] at hs
    have hll := pts_len (t.ps.take k)
    rw [List.length_take] at hll
    repeat' first | (refine And.intro (by (try simp only [hll, mbs_len, List.length_cons, List.length_nil]); omega) ?_) | (refine Or.inr ?_) | (refine hK _ ?_; clear hK) | (refine hK _ _ ?_; clear hK) | (clear hK; refine hK _ ?_; clear hK) | (clear hK; clear hK; refine hK _ ?_; clear hK) | (clear hK; clear hK; clear hK; refine hK _ ?_; clear hK) | (clear hK; clear hK; clear hK; clear hK; refine hK _ ?_; clear hK) | (refine wSeq fun K hK => ?_) | ((first | refine wReg ?_ | refine wDrwQ rfl (by kernel_rfl) ?_ | refine wDrwI ?_ | refine wDrw (by kernel_rfl) ?_); simp only [List.map_cons, List.map_nil, strip]) | ((first | refine wIs fun K hK => ?_ | refine wOs fun K hK => ?_ | refine wQs fun K hK => ?_ | refine CallK_plain ?_ | refine CallQ_plain ?_ | refine CallR_plain ?_ | refine wCond ?_); simp [g1, b1, g2, b2, b26, g9, g10, g11, hlt, hlt', hw, he, Pt.cells, hs]) | (refine wIn ?_; refine And.intro (by kernel_rfl) ?_; try simp only [thenA_n]) | (first | refine wBlock ?_ | refine wScope ?_) | ((first | refine wRet ?_ | refine wExit ?_ | refine wSkip ?_); try simp) | ((first | refine wLabel ?_ | refine wOn ?_ | refine wQn ?_); try simp only [thenA_n])
    refine hL _ (N - 1) (by omega) ⟨k + 1, by omega, ?_⟩
    simp [g1, b1, g2, b2, b26, g9, g10, g11, hw, hs]
  · have hlt' : ¬ (k : Int) < t.ps.length := by omega
    rw [List.take_of_length_le (by omega)] at b26
    repeat' first | (refine hK _ ?_; clear hK) | (refine hK _ _ ?_; clear hK) | (clear hK; refine hK _ ?_; clear hK) | (clear hK; clear hK; refine hK _ ?_; clear hK) | (clear hK; clear hK; clear hK; refine hK _ ?_; clear hK) | (clear hK; clear hK; clear hK; clear hK; refine hK _ ?_; clear hK) | (refine wSeq fun K hK => ?_) | ((first | refine wReg ?_ | refine wDrwQ rfl (by kernel_rfl) ?_ | refine wDrwI ?_ | refine wDrw (by kernel_rfl) ?_); simp only [List.map_cons, List.map_nil, strip]) | ((first | refine wIs fun K hK => ?_ | refine wOs fun K hK => ?_ | refine wQs fun K hK => ?_ | refine CallK_plain ?_ | refine CallQ_plain ?_ | refine CallR_plain ?_ | refine wCond ?_); simp [g1, b1, g2, b2, b26, g9, g10, g11, hlt, hlt']) | (refine wIn ?_; refine And.intro (by kernel_rfl) ?_; try simp only [thenA_n]) | (first | refine wBlock ?_ | refine wScope ?_) | ((first | refine wRet ?_ | refine wExit ?_ | refine wSkip ?_); try simp) | ((first | refine wLabel ?_ | refine wOn ?_ | refine wQn ?_); try simp only [thenA_n])
    all_goals apply hr
    all_goals simp [Try.f79, g2, b26]
set_option maxHeartbeats 4000000 in
theorem all16_con (l : List Tx) (hl : l.length ≤ 1000) (hp : ∀ t ∈ l, t.ps.length ≤ 1000 ∧ ∀ p ∈ t.ps, p.c.ms.length ≤ 1000) : ACon Try.prog 58 [.p (.sl 8 (txns l)), .p (.sl 8 [])] (.p (.sl 8 (txns l))) := by
  refine wBody Try.tab Try.mixed Try.func58 rfl rfl Try.ntmps58 (by simp) (by simp) fun Q hr hn => ?_
  repeat' first | (refine hK _ ?_; clear hK) | (refine hK _ _ ?_; clear hK) | (clear hK; refine hK _ ?_; clear hK) | (clear hK; clear hK; refine hK _ ?_; clear hK) | (clear hK; clear hK; clear hK; refine hK _ ?_; clear hK) | (clear hK; clear hK; clear hK; clear hK; refine hK _ ?_; clear hK) | (refine wSeq fun K hK => ?_) | ((first | refine wReg ?_ | refine wDrwQ rfl (by kernel_rfl) ?_ | refine wDrwI ?_ | refine wDrw (by kernel_rfl) ?_); simp only [List.map_cons, List.map_nil, strip]) | ((first | refine wIs fun K hK => ?_ | refine wOs fun K hK => ?_ | refine wQs fun K hK => ?_ | refine CallK_plain ?_ | refine CallQ_plain ?_ | refine CallR_plain ?_ | refine wCond ?_); simp) | (refine wIn ?_; refine And.intro (by kernel_rfl) ?_; try simp only [thenA_n]) | (first | refine wBlock ?_ | refine wScope ?_) | ((first | refine wRet ?_ | refine wExit ?_ | refine wSkip ?_); try simp) | ((first | refine wLabel ?_ | refine wOn ?_ | refine wQn ?_); try simp only [thenA_n])
  refine wLoopG [.row 5 56 8] (fun N st => ∃ (k : Nat), k + N = l.length ∧ st.s 1 = .p (.sl 8 []) ∧ st.s 5 = .row 5 ∧ st.b 5 = some (.row 56 8 (txns (l.take k))) ∧ st.s 10 = .p (.sl 8 (txns l)) ∧ st.s 11 = .p (I l.length) ∧ st.s 12 = .p (I k)) l.length ⟨0, by simp [frzL, gh1, txns]⟩ fun K N st hL ⟨k, hk, g1, g5, b5, g10, g11, g12⟩ => ?_
  by_cases hlt : k < l.length
  · have hlt' : (k : Int) < l.length := by omega
    have hw := wrapS k _ hlt (by omega)
    have he := txns_get hlt
    obtain ⟨hp1, hp2⟩ := hp _ (List.getElem_mem hlt)
    have c := copied16_con l[k] hp1 hp2
    unfold Tx.cells at c
    have hs := txns_snoc (l.take k) l[k]
    rw [← List.take_succ_eq_append_getElem hlt] at hs
    have hll := txns_len (l.take k)
    rw [List.length_take] at hll
    repeat' first | (refine And.intro (by (try simp only [hll, List.length_cons, List.length_nil]); omega) ?_) | (refine hK _ ?_; clear hK) | (refine hK _ _ ?_; clear hK) | (clear hK; refine hK _ ?_; clear hK) | (clear hK; clear hK; refine hK _ ?_; clear hK) | (clear hK; clear hK; clear hK; refine hK _ ?_; clear hK) | (clear hK; clear hK; clear hK; clear hK; refine hK _ ?_; clear hK) | (refine wSeq fun K hK => ?_) | ((first | refine wReg ?_ | refine wDrwQ rfl (by kernel_rfl) ?_ | refine wDrwI ?_ | refine wDrw (by kernel_rfl) ?_); simp only [List.map_cons, List.map_nil, strip]) | ((first | refine wIs fun K hK => ?_ | refine wOs fun K hK => ?_ | refine wQs fun K hK => ?_ | refine CallK_plain ?_ | refine CallQ_plain ?_ | refine CallR_plain ?_ | refine wCond ?_); simp [g1, g5, b5, g10, g11, g12, hlt, hlt', hw, he, hs]) | (refine wIn ?_; refine And.intro (by kernel_rfl) ?_; try simp only [thenA_n]) | (first | refine wBlock ?_ | refine wScope ?_) | ((first | refine wRet ?_ | refine wExit ?_ | refine wSkip ?_); try simp) | ((first | refine wLabel ?_ | refine wOn ?_ | refine wQn ?_); try simp only [thenA_n]) | (refine CallE.pure (c) rfl ?_) | (refine CallE.lent (c) rfl ?_) | (refine CallF.pure (c) rfl ?_) | (refine CallF.lent (c) rfl ?_) | (refine CallE.own (c) ?_) | (refine CallH.pure (c) rfl ?_) | (refine CallH.lent (c) rfl ?_) | (refine CallH.own (c) ?_)
    refine hL _ (N - 1) (by omega) ⟨k + 1, by omega, ?_⟩
    simp [g1, g5, b5, g10, g11, g12, hw, hs]
  · have hlt' : ¬ (k : Int) < l.length := by omega
    rw [List.take_of_length_le (by omega)] at b5
    repeat' first | (refine hK _ ?_; clear hK) | (refine hK _ _ ?_; clear hK) | (clear hK; refine hK _ ?_; clear hK) | (clear hK; clear hK; refine hK _ ?_; clear hK) | (clear hK; clear hK; clear hK; refine hK _ ?_; clear hK) | (clear hK; clear hK; clear hK; clear hK; refine hK _ ?_; clear hK) | (refine wSeq fun K hK => ?_) | ((first | refine wReg ?_ | refine wDrwQ rfl (by kernel_rfl) ?_ | refine wDrwI ?_ | refine wDrw (by kernel_rfl) ?_); simp only [List.map_cons, List.map_nil, strip]) | ((first | refine wIs fun K hK => ?_ | refine wOs fun K hK => ?_ | refine wQs fun K hK => ?_ | refine CallK_plain ?_ | refine CallQ_plain ?_ | refine CallR_plain ?_ | refine wCond ?_); simp [g1, g5, b5, g10, g11, g12, hlt, hlt']) | (refine wIn ?_; refine And.intro (by kernel_rfl) ?_; try simp only [thenA_n]) | (first | refine wBlock ?_ | refine wScope ?_) | ((first | refine wRet ?_ | refine wExit ?_ | refine wSkip ?_); try simp) | ((first | refine wLabel ?_ | refine wOn ?_ | refine wQn ?_); try simp only [thenA_n])
    refine wLoop (fun N st => st.s 5 = .row 5 ∧ st.b 5 = some (.row 56 8 (txns l)) ∧ st.s 22 = .p (.sl 8 []) ∧ st.s 23 = .p (I 0) ∧ st.s 24 = .p (I 0)) 0 (by simp [g5, b5]) fun K N st hL ⟨g5, b5, g22, g23, g24⟩ => ?_
    repeat' first | (refine hK _ ?_; clear hK) | (refine hK _ _ ?_; clear hK) | (clear hK; refine hK _ ?_; clear hK) | (clear hK; clear hK; refine hK _ ?_; clear hK) | (clear hK; clear hK; clear hK; refine hK _ ?_; clear hK) | (clear hK; clear hK; clear hK; clear hK; refine hK _ ?_; clear hK) | (refine wSeq fun K hK => ?_) | ((first | refine wReg ?_ | refine wDrwQ rfl (by kernel_rfl) ?_ | refine wDrwI ?_ | refine wDrw (by kernel_rfl) ?_); simp only [List.map_cons, List.map_nil, strip]) | ((first | refine wIs fun K hK => ?_ | refine wOs fun K hK => ?_ | refine wQs fun K hK => ?_ | refine CallK_plain ?_ | refine CallQ_plain ?_ | refine CallR_plain ?_ | refine wCond ?_); simp [g5, b5, g22, g23, g24]) | (refine wIn ?_; refine And.intro (by kernel_rfl) ?_; try simp only [thenA_n]) | (first | refine wBlock ?_ | refine wScope ?_) | ((first | refine wRet ?_ | refine wExit ?_ | refine wSkip ?_); try simp) | ((first | refine wLabel ?_ | refine wOn ?_ | refine wQn ?_); try simp only [thenA_n])
    all_goals apply hr
    all_goals simp [Try.f58, g5, b5]
theorem own16_con (s : Sv) (h1 : s.ns.length ≤ 1000) (h2 : s.ss.length ≤ 1000) (h3 : s.c.ms.length ≤ 1000) : ACon Try.prog 46 [.p (.agg s.cells)] (.p (.agg s.cells)) := by
  have c := all08_con s [] ⟨by simp [psum]; omega, by simp [psum]; omega, by unfold okC; omega⟩ (by simp)
  rw [show allS s [] = s from rfl, show txns [] = [] from rfl] at c
  unfold Sv.cells at c ⊢
  refine wBody Try.tab Try.mixed Try.func46 rfl rfl Try.ntmps46 (by simp) (by simp) fun Q hr hn => ?_
  repeat' first | (refine hK _ ?_; clear hK) | (refine hK _ _ ?_; clear hK) | (clear hK; refine hK _ ?_; clear hK) | (clear hK; clear hK; refine hK _ ?_; clear hK) | (clear hK; clear hK; clear hK; refine hK _ ?_; clear hK) | (clear hK; clear hK; clear hK; clear hK; refine hK _ ?_; clear hK) | (refine wSeq fun K hK => ?_) | ((first | refine wReg ?_ | refine wDrwQ rfl (by kernel_rfl) ?_ | refine wDrwI ?_ | refine wDrw (by kernel_rfl) ?_); simp only [List.map_cons, List.map_nil, strip]) | ((first | refine wIs fun K hK => ?_ | refine wOs fun K hK => ?_ | refine wQs fun K hK => ?_ | refine CallK_plain ?_ | refine CallQ_plain ?_ | refine CallR_plain ?_ | refine wCond ?_); simp) | (refine wIn ?_; refine And.intro (by kernel_rfl) ?_; try simp only [thenA_n]) | (first | refine wBlock ?_ | refine wScope ?_) | ((first | refine wRet ?_ | refine wExit ?_ | refine wSkip ?_); try simp) | ((first | refine wLabel ?_ | refine wOn ?_ | refine wQn ?_); try simp only [thenA_n]) | (refine CallE.pure (c) rfl ?_) | (refine CallE.lent (c) rfl ?_) | (refine CallF.pure (c) rfl ?_) | (refine CallF.lent (c) rfl ?_) | (refine CallE.own (c) ?_) | (refine CallH.pure (c) rfl ?_) | (refine CallH.lent (c) rfl ?_) | (refine CallH.own (c) ?_)
  all_goals apply hr
  all_goals simp [Try.f46]
set_option maxHeartbeats 1000000 in
theorem Own16_con (h : Hy) (hk : OkH h) : ACon Try.prog 39 [.p (.agg h.cells)] (.p (.agg h.cells)) := by
  have c1 := own16_con h.im hk.ns hk.ss hk.c
  have c2 := all16_con h.lg hk.lg hk.ps
  unfold Hy.cells
  unfold Sv.cells at c1
  refine wBody Try.tab Try.mixed Try.func39 rfl rfl Try.ntmps39 (by simp) (by simp) fun Q hr hn => ?_
  repeat' first | (refine hK _ ?_; clear hK) | (refine hK _ _ ?_; clear hK) | (clear hK; refine hK _ ?_; clear hK) | (clear hK; clear hK; refine hK _ ?_; clear hK) | (clear hK; clear hK; clear hK; refine hK _ ?_; clear hK) | (clear hK; clear hK; clear hK; clear hK; refine hK _ ?_; clear hK) | (refine wSeq fun K hK => ?_) | ((first | refine wReg ?_ | refine wDrwQ rfl (by kernel_rfl) ?_ | refine wDrwI ?_ | refine wDrw (by kernel_rfl) ?_); simp only [List.map_cons, List.map_nil, strip]) | ((first | refine wIs fun K hK => ?_ | refine wOs fun K hK => ?_ | refine wQs fun K hK => ?_ | refine CallK_plain ?_ | refine CallQ_plain ?_ | refine CallR_plain ?_ | refine wCond ?_); simp) | (refine wIn ?_; refine And.intro (by kernel_rfl) ?_; try simp only [thenA_n]) | (first | refine wBlock ?_ | refine wScope ?_) | ((first | refine wRet ?_ | refine wExit ?_ | refine wSkip ?_); try simp) | ((first | refine wLabel ?_ | refine wOn ?_ | refine wQn ?_); try simp only [thenA_n]) | (refine CallE.pure (c1) rfl ?_) | (refine CallE.lent (c1) rfl ?_) | (refine CallF.pure (c1) rfl ?_) | (refine CallF.lent (c1) rfl ?_) | (refine CallE.own (c1) ?_) | (refine CallH.pure (c1) rfl ?_) | (refine CallH.lent (c1) rfl ?_) | (refine CallH.own (c1) ?_) | (refine CallE.pure (c2) rfl ?_) | (refine CallE.lent (c2) rfl ?_) | (refine CallF.pure (c2) rfl ?_) | (refine CallF.lent (c2) rfl ?_) | (refine CallE.own (c2) ?_) | (refine CallH.pure (c2) rfl ?_) | (refine CallH.lent (c2) rfl ?_) | (refine CallH.own (c2) ?_)
  all_goals apply hr
  all_goals simp [Try.f39]
end Go.Proofs.Ytnfcbkageifmfaa

/- Histories: up to where they are committed, by the program. -/
namespace Go.Proofs.Ytnfcbkageifmfaa
set_option linter.unusedSimpArgs false
set_option linter.unusedVariables false
open Go Go.Av
attribute [local simp] Try.T1 Try.T2 Try.T3 Try.T4 Try.T5 Try.T9 Try.T12 Try.T15 Try.T16 Try.T17 Try.T21 Try.T22 Try.T23 Try.T25 Try.T27 Try.T29 Try.T30 Try.T31 Try.T32 Try.T33 Try.T35 Try.T37 Try.T38 Try.T40 Try.T41 Try.T42 Try.T43 Try.T44 Try.T45 Try.T46 Try.T47 Try.T48 Try.T49 Try.T50 Try.T51 Try.T52 Try.T53 Try.T54 Try.T56 Try.T57 Try.T58 Try.T59 Try.T60 Try.T61 Try.T62 Try.T64 Try.T66 Try.T67 Try.T68 Try.T69 Try.T71 Try.T72 Try.T73 Try.T74 Try.T75 Try.T76 Try.T77 Try.T78 Try.T79 Try.T80 Try.T81 Try.T82 Try.T83 Try.T84 Try.T85 Try.T86 Try.T87 Try.T88 Try.T89 Try.T90 Try.T91 Try.T92 Try.T93 Try.T94 Try.T95 Try.T97 Try.T98 Try.T99 Try.T100 Try.T101 Try.T102 Try.T103 Try.T104 Try.T105 Try.T106 Try.T107 Try.T108 Try.T109 Try.T110 Try.T111 Try.T112 Try.T113 Try.T114 Try.T115 Try.T116 Try.T117 Try.T120 Try.T123 Try.T124 Try.T127 Try.T128
attribute [local irreducible] Go.Av.CallK Go.Av.CallE Go.Av.CallQ Go.Av.CallF Go.Av.CallR Go.Av.CallH Go.Av.Con
theorem txns_take' (l : List Tx) (k : Nat) : (txns l).take k = txns (l.take k) := by simp [txns, List.map_take]
def comF (h : Hy) (self : Int) (l : List Lr) : List Tx → Nat → Int → Int → Int × Int
  | [], _, e, n => (e, n)
  | t :: r, k, e, n => if zcmp t.e t.n e n ≤ 0 then comF h self l r (k + 1) e n else if allQ (endN (nsOf h (h.lg.take (k + 1))) e n) (setS self 4 t.e t.n l) = true then comF h self l r (k + 1) t.e t.n else (e, n)
theorem sum_takeL {α : Type} (f : α → Nat) : ∀ (l : List α) (k : Nat), ((l.take k).map f).sum ≤ (l.map f).sum
  | [], k => by simp
  | x :: l, 0 => by simp
  | x :: l, k + 1 => by
    have := sum_takeL f l k
    rw [List.take_succ_cons, List.map_cons, List.map_cons, List.sum_cons, List.sum_cons]
    omega
theorem OkH.take {h : Hy} (hk : OkH h) (k : Nat) : OkH ⟨h.im, h.lg.take k⟩ := ⟨hk.ns, hk.ss, hk.c, by have := hk.lg; simp; omega, fun t ht => hk.ps t (List.mem_of_mem_take ht), Nat.le_trans (sum_takeL _ _ _) hk.tot⟩
theorem needs_take (h : Hy) (k : Nat) (e n : Int) : needsOf ⟨h.im, h.lg.take k⟩ e n = endN (nsOf h (h.lg.take k)) e n := rfl
theorem needs_ok {h : Hy} (hk : OkH h) (e n : Int) : ∀ c ∈ needsOf h e n, c.ms.length ≤ 1000 := by
  intro c hc
  obtain ⟨h1, h2⟩ := nsOf_ok hk (l := h.lg) fun t ht => ht
  unfold needsOf endN at hc
  split at hc
  · simp only [List.mem_cons, List.not_mem_nil, or_false] at hc
    subst hc; exact h2
  · simp only [List.mem_cons, List.not_mem_nil, or_false] at hc
    rcases hc with rfl | rfl
    · exact h1
    · exact h2
theorem endN_len (s : NS) (e n : Int) : (endN s e n).length ≤ 2 := by unfold endN; split <;> simp
set_option maxHeartbeats 8000000 in
theorem commit_con (h : Hy) (de dn self : Int) (l : List Lr) (hk : OkH h) (hl : l.length ≤ 100000) : ACon Try.prog 16 [.p (.agg h.cells), .p (.agg [I de, I dn]), .p (I self), .p (.sl 8 (lrs l))] (.p (.agg [I (comF h self l h.lg 0 de dn).1, I (comF h self l h.lg 0 de dn).2])) := by
  have hlg := hk.lg
  unfold Hy.cells
  refine wBody Try.tab Try.mixed Try.func16 rfl rfl Try.ntmps16 (by simp) (by simp) fun Q hr hn => ?_
  repeat' first | (refine hK _ ?_; clear hK) | (refine hK _ _ ?_; clear hK) | (clear hK; refine hK _ ?_; clear hK) | (clear hK; clear hK; refine hK _ ?_; clear hK) | (clear hK; clear hK; clear hK; refine hK _ ?_; clear hK) | (clear hK; clear hK; clear hK; clear hK; refine hK _ ?_; clear hK) | (refine wSeq fun K hK => ?_) | ((first | refine wReg ?_ | refine wDrwQ rfl (by kernel_rfl) ?_ | refine wDrwI ?_ | refine wDrw (by kernel_rfl) ?_); simp only [List.map_cons, List.map_nil, strip]) | ((first | refine wIs fun K hK => ?_ | refine wOs fun K hK => ?_ | refine wQs fun K hK => ?_ | refine CallK_plain ?_ | refine CallQ_plain ?_ | refine CallR_plain ?_ | refine wCond ?_); simp) | (refine wIn ?_; refine And.intro (by kernel_rfl) ?_; try simp only [thenA_n]) | (first | refine wBlock ?_ | refine wScope ?_) | ((first | refine wRet ?_ | refine wExit ?_ | refine wSkip ?_); try simp) | ((first | refine wLabel ?_ | refine wOn ?_ | refine wQn ?_); try simp only [thenA_n])
  refine wLoop (fun N st => ∃ (k : Nat) (e n : Int), k + N = h.lg.length ∧ comF h self l (h.lg.drop k) k e n = comF h self l h.lg 0 de dn ∧ st.s 2 = .p (I self) ∧ st.s 3 = .p (.sl 8 (lrs l)) ∧ st.s 4 = .ptr 4 0 ∧ st.b 4 = some (.box 40 [.p (.sl 5 (zns h.im.ns)), .p (.sl 1 (ints h.im.ss)), .p (I h.im.nx), .p (I h.im.c.ep), .p (I h.im.c.n), .p (I h.im.c.kind), .p (.sl 4 (mbs h.im.c.ms)), .p (I h.im.ae), .p (I h.im.an), .p (.sl 8 (txns h.lg))]) ∧ st.s 5 = .ptr 5 0 ∧ st.b 5 = some (.box 25 [.p (I e), .p (I n)]) ∧ st.s 8 = .ptr 8 0 ∧ st.b 8 = some (.box 25 [.p (I 0), .p (I 0)]) ∧ st.s 14 = .p (I h.lg.length) ∧ st.s 15 = .p (I k)) h.lg.length ⟨0, de, dn, by simp⟩ fun K N st hL ⟨k, e, n, hkN, hi, g2, g3, g4, b4, gc, bc, g8, b8, gl, gk⟩ => ?_
  by_cases hlt : k < h.lg.length
  · have hlt' : (k : Int) < h.lg.length := by omega
    have hlt2 : k + 1 ≤ h.lg.length := by omega
    have h0k : (0 : Int) ≤ (k : Int) + 1 := by omega
    have hw := wrapS k _ hlt (by omega)
    have he := txns_get hlt
    have ht := txns_take' h.lg (k + 1)
    have c1 := cmp_con h.lg[k].e h.lg[k].n e n
    rw [List.drop_eq_getElem_cons hlt] at hi
    simp only [comF] at hi
    by_cases o1 : zcmp h.lg[k].e h.lg[k].n e n ≤ 0
    · rw [if_pos o1] at hi
      repeat' first | (refine hK _ ?_; clear hK) | (refine hK _ _ ?_; clear hK) | (clear hK; refine hK _ ?_; clear hK) | (clear hK; clear hK; refine hK _ ?_; clear hK) | (clear hK; clear hK; clear hK; refine hK _ ?_; clear hK) | (clear hK; clear hK; clear hK; clear hK; refine hK _ ?_; clear hK) | (refine wSeq fun K hK => ?_) | ((first | refine wReg ?_ | refine wDrwQ rfl (by kernel_rfl) ?_ | refine wDrwI ?_ | refine wDrw (by kernel_rfl) ?_); simp only [List.map_cons, List.map_nil, strip]) | ((first | refine wIs fun K hK => ?_ | refine wOs fun K hK => ?_ | refine wQs fun K hK => ?_ | refine CallK_plain ?_ | refine CallQ_plain ?_ | refine CallR_plain ?_ | refine wCond ?_); simp [g2, g3, g4, b4, gc, bc, g8, b8, gl, gk, hlt, hlt', he, o1, hw, Tx.cells]) | (refine wIn ?_; refine And.intro (by kernel_rfl) ?_; try simp only [thenA_n]) | (first | refine wBlock ?_ | refine wScope ?_) | ((first | refine wRet ?_ | refine wExit ?_ | refine wSkip ?_); try simp) | ((first | refine wLabel ?_ | refine wOn ?_ | refine wQn ?_); try simp only [thenA_n]) | (refine CallE.pure (c1) rfl ?_) | (refine CallE.lent (c1) rfl ?_) | (refine CallF.pure (c1) rfl ?_) | (refine CallF.lent (c1) rfl ?_) | (refine CallE.own (c1) ?_) | (refine CallH.pure (c1) rfl ?_) | (refine CallH.lent (c1) rfl ?_) | (refine CallH.own (c1) ?_)
      refine hL _ (N - 1) (by omega) ⟨k + 1, e, n, by omega, hi, ?_⟩
      simp [g2, g3, g4, b4, gc, bc, g8, b8, gl, gk, hw]
    · rw [if_neg o1] at hi
      have hk2 : OkH ⟨h.im, h.lg.take (k + 1)⟩ := hk.take (k + 1)
      have c2 := needs_con ⟨h.im, h.lg.take (k + 1)⟩ e n hk2
      have hcf := needs_ok hk2 e n
      rw [needs_take] at c2 hcf
      have c3 := set_con self 4 h.lg[k].e h.lg[k].n l hl
      have c4 := all_con (endN (nsOf h (h.lg.take (k + 1))) e n) (setS self 4 h.lg[k].e h.lg[k].n l) (by have := endN_len (nsOf h (h.lg.take (k + 1))) e n; omega) (fun c hc => by have := hcf c hc; omega)
      unfold Hy.cells at c2
      simp only at c2
      generalize endN (nsOf h (h.lg.take (k + 1))) e n = nd at c2 c4 hi
      generalize setS self 4 h.lg[k].e h.lg[k].n l = ss at c3 c4 hi
      by_cases o2 : allQ nd ss = true
      · rw [if_pos o2] at hi
        rw [o2] at c4
        repeat' first | (refine hK _ ?_; clear hK) | (refine hK _ _ ?_; clear hK) | (clear hK; refine hK _ ?_; clear hK) | (clear hK; clear hK; refine hK _ ?_; clear hK) | (clear hK; clear hK; clear hK; refine hK _ ?_; clear hK) | (clear hK; clear hK; clear hK; clear hK; refine hK _ ?_; clear hK) | (refine wSeq fun K hK => ?_) | ((first | refine wReg ?_ | refine wDrwQ rfl (by kernel_rfl) ?_ | refine wDrwI ?_ | refine wDrw (by kernel_rfl) ?_); simp only [List.map_cons, List.map_nil, strip]) | ((first | refine wIs fun K hK => ?_ | refine wOs fun K hK => ?_ | refine wQs fun K hK => ?_ | refine CallK_plain ?_ | refine CallQ_plain ?_ | refine CallR_plain ?_ | refine wCond ?_); simp [g2, g3, g4, b4, gc, bc, g8, b8, gl, gk, hlt, hlt', hlt2, h0k, he, o1, hw, ht, Tx.cells]) | (refine wIn ?_; refine And.intro (by kernel_rfl) ?_; try simp only [thenA_n]) | (first | refine wBlock ?_ | refine wScope ?_) | ((first | refine wRet ?_ | refine wExit ?_ | refine wSkip ?_); try simp) | ((first | refine wLabel ?_ | refine wOn ?_ | refine wQn ?_); try simp only [thenA_n]) | (refine CallE.pure (c1) rfl ?_) | (refine CallE.lent (c1) rfl ?_) | (refine CallF.pure (c1) rfl ?_) | (refine CallF.lent (c1) rfl ?_) | (refine CallE.own (c1) ?_) | (refine CallH.pure (c1) rfl ?_) | (refine CallH.lent (c1) rfl ?_) | (refine CallH.own (c1) ?_) | (refine CallE.pure (c2) rfl ?_) | (refine CallE.lent (c2) rfl ?_) | (refine CallF.pure (c2) rfl ?_) | (refine CallF.lent (c2) rfl ?_) | (refine CallE.own (c2) ?_) | (refine CallH.pure (c2) rfl ?_) | (refine CallH.lent (c2) rfl ?_) | (refine CallH.own (c2) ?_) | (refine CallE.pure (c3) rfl ?_) | (refine CallE.lent (c3) rfl ?_) | (refine CallF.pure (c3) rfl ?_) | (refine CallF.lent (c3) rfl ?_) | (refine CallE.own (c3) ?_) | (refine CallH.pure (c3) rfl ?_) | (refine CallH.lent (c3) rfl ?_) | (refine CallH.own (c3) ?_) | (refine CallE.pure (c4) rfl ?_) | (refine CallE.lent (c4) rfl ?_) | (refine CallF.pure (c4) rfl ?_) | (refine CallF.lent (c4) rfl ?_) | (refine CallE.own (c4) ?_) | (refine CallH.pure (c4) rfl ?_) | (refine CallH.lent (c4) rfl ?_) | (refine CallH.own (c4) ?_)
        refine hL _ (N - 1) (by omega) ⟨k + 1, _, _, by omega, hi, ?_⟩
        simp [g2, g3, g4, b4, gc, bc, g8, b8, gl, gk, hw]
      · rw [if_neg o2] at hi
        rw [← hi] at hr
        simp only [Bool.not_eq_true] at o2
        rw [o2] at c4
        repeat' first | (refine hK _ ?_; clear hK) | (refine hK _ _ ?_; clear hK) | (clear hK; refine hK _ ?_; clear hK) | (clear hK; clear hK; refine hK _ ?_; clear hK) | (clear hK; clear hK; clear hK; refine hK _ ?_; clear hK) | (clear hK; clear hK; clear hK; clear hK; refine hK _ ?_; clear hK) | (refine wSeq fun K hK => ?_) | ((first | refine wReg ?_ | refine wDrwQ rfl (by kernel_rfl) ?_ | refine wDrwI ?_ | refine wDrw (by kernel_rfl) ?_); simp only [List.map_cons, List.map_nil, strip]) | ((first | refine wIs fun K hK => ?_ | refine wOs fun K hK => ?_ | refine wQs fun K hK => ?_ | refine CallK_plain ?_ | refine CallQ_plain ?_ | refine CallR_plain ?_ | refine wCond ?_); simp [g2, g3, g4, b4, gc, bc, g8, b8, gl, gk, hlt, hlt', hlt2, h0k, he, o1, hw, ht, Tx.cells]) | (refine wIn ?_; refine And.intro (by kernel_rfl) ?_; try simp only [thenA_n]) | (first | refine wBlock ?_ | refine wScope ?_) | ((first | refine wRet ?_ | refine wExit ?_ | refine wSkip ?_); try simp) | ((first | refine wLabel ?_ | refine wOn ?_ | refine wQn ?_); try simp only [thenA_n]) | (refine CallE.pure (c1) rfl ?_) | (refine CallE.lent (c1) rfl ?_) | (refine CallF.pure (c1) rfl ?_) | (refine CallF.lent (c1) rfl ?_) | (refine CallE.own (c1) ?_) | (refine CallH.pure (c1) rfl ?_) | (refine CallH.lent (c1) rfl ?_) | (refine CallH.own (c1) ?_) | (refine CallE.pure (c2) rfl ?_) | (refine CallE.lent (c2) rfl ?_) | (refine CallF.pure (c2) rfl ?_) | (refine CallF.lent (c2) rfl ?_) | (refine CallE.own (c2) ?_) | (refine CallH.pure (c2) rfl ?_) | (refine CallH.lent (c2) rfl ?_) | (refine CallH.own (c2) ?_) | (refine CallE.pure (c3) rfl ?_) | (refine CallE.lent (c3) rfl ?_) | (refine CallF.pure (c3) rfl ?_) | (refine CallF.lent (c3) rfl ?_) | (refine CallE.own (c3) ?_) | (refine CallH.pure (c3) rfl ?_) | (refine CallH.lent (c3) rfl ?_) | (refine CallH.own (c3) ?_) | (refine CallE.pure (c4) rfl ?_) | (refine CallE.lent (c4) rfl ?_) | (refine CallF.pure (c4) rfl ?_) | (refine CallF.lent (c4) rfl ?_) | (refine CallE.own (c4) ?_) | (refine CallH.pure (c4) rfl ?_) | (refine CallH.lent (c4) rfl ?_) | (refine CallH.own (c4) ?_)
        all_goals apply hr
        all_goals simp [Try.f16, g8, b8, gc, bc]
  · have hlt' : ¬ (k : Int) < h.lg.length := by omega
    rw [List.drop_of_length_le (by omega)] at hi
    simp only [comF] at hi
    rw [← hi] at hr
    repeat' first | (refine hK _ ?_; clear hK) | (refine hK _ _ ?_; clear hK) | (clear hK; refine hK _ ?_; clear hK) | (clear hK; clear hK; refine hK _ ?_; clear hK) | (clear hK; clear hK; clear hK; refine hK _ ?_; clear hK) | (clear hK; clear hK; clear hK; clear hK; refine hK _ ?_; clear hK) | (refine wSeq fun K hK => ?_) | ((first | refine wReg ?_ | refine wDrwQ rfl (by kernel_rfl) ?_ | refine wDrwI ?_ | refine wDrw (by kernel_rfl) ?_); simp only [List.map_cons, List.map_nil, strip]) | ((first | refine wIs fun K hK => ?_ | refine wOs fun K hK => ?_ | refine wQs fun K hK => ?_ | refine CallK_plain ?_ | refine CallQ_plain ?_ | refine CallR_plain ?_ | refine wCond ?_); simp [g2, g3, g4, b4, gc, bc, g8, b8, gl, gk, hlt, hlt']) | (refine wIn ?_; refine And.intro (by kernel_rfl) ?_; try simp only [thenA_n]) | (first | refine wBlock ?_ | refine wScope ?_) | ((first | refine wRet ?_ | refine wExit ?_ | refine wSkip ?_); try simp) | ((first | refine wLabel ?_ | refine wOn ?_ | refine wQn ?_); try simp only [thenA_n])
    all_goals apply hr
    all_goals simp [Try.f16, g8, b8, gc, bc]
end Go.Proofs.Ytnfcbkageifmfaa

/- Histories: their configs, and those that are needed, by the document. -/
namespace Go.Proofs.Ytnfcbkageifmfaa
set_option linter.unusedSimpArgs false
set_option linter.unusedVariables false
open Go Go.Av
attribute [local simp] Try.T1 Try.T2 Try.T3 Try.T4 Try.T5 Try.T9 Try.T12 Try.T15 Try.T16 Try.T17 Try.T21 Try.T22 Try.T23 Try.T25 Try.T27 Try.T29 Try.T30 Try.T31 Try.T32 Try.T33 Try.T35 Try.T37 Try.T38 Try.T40 Try.T41 Try.T42 Try.T43 Try.T44 Try.T45 Try.T46 Try.T47 Try.T48 Try.T49 Try.T50 Try.T51 Try.T52 Try.T53 Try.T54 Try.T56 Try.T57 Try.T58 Try.T59 Try.T60 Try.T61 Try.T62 Try.T64 Try.T66 Try.T67 Try.T68 Try.T69 Try.T71 Try.T72 Try.T73 Try.T74 Try.T75 Try.T76 Try.T77 Try.T78 Try.T79 Try.T80 Try.T81 Try.T82 Try.T83 Try.T84 Try.T85 Try.T86 Try.T87 Try.T88 Try.T89 Try.T90 Try.T91 Try.T92 Try.T93 Try.T94 Try.T95 Try.T97 Try.T98 Try.T99 Try.T100 Try.T101 Try.T102 Try.T103 Try.T104 Try.T105 Try.T106 Try.T107 Try.T108 Try.T109 Try.T110 Try.T111 Try.T112 Try.T113 Try.T114 Try.T115 Try.T116 Try.T117 Try.T120 Try.T123 Try.T124 Try.T127 Try.T128
attribute [local irreducible] Go.Av.CallK Go.Av.CallE Go.Av.CallQ Go.Av.CallF Go.Av.CallR Go.Av.CallH Go.Av.Con
theorem lastC_snoc {ps : List Pt} {q : Nat} (h : q < ps.length) : lastC (ps.take (q + 1)) = if ps[q].k = 5 then some ps[q].c else lastC (ps.take q) := by
  rw [List.take_succ_eq_append_getElem h]
  unfold lastC
  rw [List.filter_append]
  by_cases g : ps[q].k = 5
  · rw [if_pos g, List.filter_cons, if_pos (decide_eq_true g)]; simp
  · rw [if_neg g, List.filter_cons, if_neg (by simpa using g)]; simp
def addC (l : List Cf) : Option Cf → List Cf
  | none => l
  | some c => l ++ [c]
def addZ (l : List Zx) (z : Zx) : Option Cf → List Zx
  | none => l
  | some _ => l ++ [z]
def cfA (h : Hy) (l : List Tx) : List Cf := l.foldl (fun a t => addC a (lastC t.ps)) [h.im.c]
def zxA (h : Hy) (l : List Tx) : List Zx := l.foldl (fun a t => addZ a ⟨t.e, t.n⟩ (lastC t.ps)) [⟨h.im.ae, h.im.an⟩]
theorem cfA_snoc (h : Hy) {l : List Tx} {k : Nat} (hk : k < l.length) : cfA h (l.take (k + 1)) = addC (cfA h (l.take k)) (lastC l[k].ps) := by
  rw [List.take_succ_eq_append_getElem hk, cfA, List.foldl_append]; rfl
theorem zxA_snoc (h : Hy) {l : List Tx} {k : Nat} (hk : k < l.length) : zxA h (l.take (k + 1)) = addZ (zxA h (l.take k)) ⟨l[k].e, l[k].n⟩ (lastC l[k].ps) := by
  rw [List.take_succ_eq_append_getElem hk, zxA, List.foldl_append]; rfl
/-- The configs, and from where they hold, against what the program keeps of them. -/
theorem cfA_ns (h : Hy) : ∀ (k : Nat) {l : List Tx}, k ≤ l.length → ∃ pre prz, (cfA h (l.take k) = pre ++ (if (nsOf h (l.take k)).ch = true then [(nsOf h (l.take k)).was, (nsOf h (l.take k)).now] else [(nsOf h (l.take k)).now])) ∧ ((nsOf h (l.take k)).ch = false → pre = []) ∧ zxA h (l.take k) = prz ++ [⟨(nsOf h (l.take k)).fe, (nsOf h (l.take k)).fn⟩] ∧ (zxA h (l.take k)).length = (cfA h (l.take k)).length ∧ (cfA h (l.take k)).length ≤ k + 1
  | 0, l, _ => ⟨[], [], by simp [cfA, nsOf, ns0], by simp, by simp [zxA, nsOf, ns0], by simp [cfA, zxA], by simp [cfA]⟩
  | k + 1, l, hk => by
    obtain ⟨pre, prz, h1, h2, h3, h4, h5⟩ := cfA_ns h k (l := l) (by omega)
    rw [cfA_snoc h (by omega), zxA_snoc h (by omega), nsOf_snoc h (by omega)]
    generalize cfA h (l.take k) = a at *
    generalize zxA h (l.take k) = z at *
    generalize nsOf h (l.take k) = s at *
    cases hc : lastC (l[k]'(by omega)).ps with
    | none =>
      refine ⟨pre, prz, ?_, ?_, ?_, ?_, ?_⟩
      all_goals simp only [nsStep, hc, addC, addZ]
      · exact h1
      · exact h2
      · exact h3
      · exact h4
      · omega
    | some c =>
      by_cases hch : s.ch = true
      · refine ⟨pre ++ [s.was], z, ?_, ?_, ?_, ?_, ?_⟩
        all_goals simp only [nsStep, hc, addC, addZ, if_true]
        · rw [h1, if_pos hch]; simp
        · intro h; simp at h
        · simp [h4]
        · simp; omega
      · refine ⟨[], z, ?_, ?_, ?_, ?_, ?_⟩
        all_goals simp only [nsStep, hc, addC, addZ, if_true]
        · rw [h1, if_neg hch, h2 (by simpa using hch)]; simp
        · intro h; trivial
        · simp [h4]
        · simp; omega
theorem cfs_app (l : List Cf) (c : Cf) : cfs l ++ [[I c.ep, I c.n, I c.kind, .sl 4 (mbs c.ms)]] = cfs (l ++ [c]) := by simp [cfs, Cf.cells]
theorem zxs_app (l : List Zx) (e n : Int) : zxs l ++ [[I e, I n]] = zxs (l ++ [⟨e, n⟩]) := by simp [zxs]
theorem cfs_cut (l : List Cf) (c : Cf) : (cfs (l ++ [c])).take l.length = cfs l := by simp [cfs]
theorem zxs_cut (l : List Zx) (z : Zx) : (zxs (l ++ [z])).take l.length = zxs l := by simp [zxs]
set_option maxHeartbeats 16000000 in
theorem configs16_con (h : Hy) (hk : OkH h) : ACon Try.prog 59 [.p (.agg h.cells)] (.tup [.p (.sl 4 (cfs (cfA h h.lg))), .p (.sl 2 (zxs (zxA h h.lg)))]) := by
  have c1 := own16_con h.im hk.ns hk.ss hk.c
  have hlg := hk.lg
  have e0 : cfs [h.im.c] = [[I h.im.c.ep, I h.im.c.n, I h.im.c.kind, .sl 4 (mbs h.im.c.ms)]] := rfl
  have e1 : zxs [⟨h.im.ae, h.im.an⟩] = [[I h.im.ae, I h.im.an]] := rfl
  unfold Hy.cells
  unfold Sv.cells at c1
  refine wBody Try.tab Try.mixed Try.func59 rfl rfl Try.ntmps59 (by simp) (by simp) fun Q hr hn => ?_
  repeat' first | (refine hK _ ?_; clear hK) | (refine hK _ _ ?_; clear hK) | (clear hK; refine hK _ ?_; clear hK) | (clear hK; clear hK; refine hK _ ?_; clear hK) | (clear hK; clear hK; clear hK; refine hK _ ?_; clear hK) | (clear hK; clear hK; clear hK; clear hK; refine hK _ ?_; clear hK) | (refine wSeq fun K hK => ?_) | ((first | refine wReg ?_ | refine wDrwQ rfl (by kernel_rfl) ?_ | refine wDrwI ?_ | refine wDrw (by kernel_rfl) ?_); simp only [List.map_cons, List.map_nil, strip]) | ((first | refine wIs fun K hK => ?_ | refine wOs fun K hK => ?_ | refine wQs fun K hK => ?_ | refine CallK_plain ?_ | refine CallQ_plain ?_ | refine CallR_plain ?_ | refine wCond ?_); simp) | (refine wIn ?_; refine And.intro (by kernel_rfl) ?_; try simp only [thenA_n]) | (first | refine wBlock ?_ | refine wScope ?_) | ((first | refine wRet ?_ | refine wExit ?_ | refine wSkip ?_); try simp) | ((first | refine wLabel ?_ | refine wOn ?_ | refine wQn ?_); try simp only [thenA_n]) | (refine CallE.pure (c1) rfl ?_) | (refine CallE.lent (c1) rfl ?_) | (refine CallF.pure (c1) rfl ?_) | (refine CallF.lent (c1) rfl ?_) | (refine CallE.own (c1) ?_) | (refine CallH.pure (c1) rfl ?_) | (refine CallH.lent (c1) rfl ?_) | (refine CallH.own (c1) ?_)
  refine wLoop (fun N st => ∃ (k : Nat) (a : List Cf) (z : List Zx), k + N = h.lg.length ∧ a = cfA h (h.lg.take k) ∧ z = zxA h (h.lg.take k) ∧ z.length = a.length ∧ 1 ≤ a.length ∧ a.length ≤ k + 1 ∧ st.s 1 = .ptr 1 0 ∧ st.b 1 = some (.box 40 [.p (.sl 5 (zns h.im.ns)), .p (.sl 1 (ints h.im.ss)), .p (I h.im.nx), .p (I h.im.c.ep), .p (I h.im.c.n), .p (I h.im.c.kind), .p (.sl 4 (mbs h.im.c.ms)), .p (I h.im.ae), .p (I h.im.an), .p (.sl 8 (txns h.lg))]) ∧ st.s 21 = .p (.sl 8 (txns h.lg)) ∧ st.s 22 = .p (I h.lg.length) ∧ st.s 23 = .p (I k) ∧ ((st.s 4 = .full 4 (cfs a) ∧ st.s 5 = .full 2 (zxs z) ∧ a.length = 1 ∧ z.length = 1) ∨ (st.s 4 = .row 53 ∧ st.s 5 = .row 58 ∧ st.b 53 = some (.row 35 4 (cfs a)) ∧ st.b 58 = some (.row 25 2 (zxs z))))) h.lg.length ⟨0, [h.im.c], [⟨h.im.ae, h.im.an⟩], by simp [cfA, zxA, e0, e1]⟩ fun K N st hL ⟨k, a, z, hkN, ha, hz, hzl, ha1, hal, g1, b1, g21, g22, g23, hrow⟩ => ?_
  by_cases hlt : k < h.lg.length
  · have hlt' : (k : Int) < h.lg.length := by omega
    have hw := wrapS k _ hlt (by omega)
    have he := txns_get hlt
    have hca := cfA_snoc h hlt
    have hza := zxA_snoc h hlt
    rw [← ha] at hca
    rw [← hz] at hza
    obtain ⟨hp1, hp2⟩ := hk.ps _ (List.getElem_mem hlt)
    have c2 := copied16_con h.lg[k] hp1 hp2
    unfold Tx.cells at c2
    have hlc0 : lastC (h.lg[k].ps.take 0) = none := by simp [lastC]
    obtain ⟨ps, hps⟩ : ∃ ps, ps = h.lg[k].ps := ⟨_, rfl⟩
    rcases hrow with ⟨g4, g5, l4, l5⟩ | ⟨g4, g5, b53, b58⟩
    · repeat' first | (refine hK _ ?_; clear hK) | (refine hK _ _ ?_; clear hK) | (clear hK; refine hK _ ?_; clear hK) | (clear hK; clear hK; refine hK _ ?_; clear hK) | (clear hK; clear hK; clear hK; refine hK _ ?_; clear hK) | (clear hK; clear hK; clear hK; clear hK; refine hK _ ?_; clear hK) | (refine wSeq fun K hK => ?_) | ((first | refine wReg ?_ | refine wDrwQ rfl (by kernel_rfl) ?_ | refine wDrwI ?_ | refine wDrw (by kernel_rfl) ?_); simp only [List.map_cons, List.map_nil, strip]) | ((first | refine wIs fun K hK => ?_ | refine wOs fun K hK => ?_ | refine wQs fun K hK => ?_ | refine CallK_plain ?_ | refine CallQ_plain ?_ | refine CallR_plain ?_ | refine wCond ?_); simp [g1, b1, g21, g22, g23, g4, g5, hlt, hlt', he]) | (refine wIn ?_; refine And.intro (by kernel_rfl) ?_; try simp only [thenA_n]) | (first | refine wBlock ?_ | refine wScope ?_) | ((first | refine wRet ?_ | refine wExit ?_ | refine wSkip ?_); try simp) | ((first | refine wLabel ?_ | refine wOn ?_ | refine wQn ?_); try simp only [thenA_n]) | (refine CallE.pure (c2) rfl ?_) | (refine CallE.lent (c2) rfl ?_) | (refine CallF.pure (c2) rfl ?_) | (refine CallF.lent (c2) rfl ?_) | (refine CallE.own (c2) ?_) | (refine CallH.pure (c2) rfl ?_) | (refine CallH.lent (c2) rfl ?_) | (refine CallH.own (c2) ?_)
      refine wLoop (fun N' st => ∃ (q : Nat), q + N' = h.lg[k].ps.length ∧ st.s 1 = .ptr 1 0 ∧ st.b 1 = some (.box 40 [.p (.sl 5 (zns h.im.ns)), .p (.sl 1 (ints h.im.ss)), .p (I h.im.nx), .p (I h.im.c.ep), .p (I h.im.c.n), .p (I h.im.c.kind), .p (.sl 4 (mbs h.im.c.ms)), .p (I h.im.ae), .p (I h.im.an), .p (.sl 8 (txns h.lg))]) ∧ st.s 21 = .p (.sl 8 (txns h.lg)) ∧ st.s 22 = .p (I h.lg.length) ∧ st.s 23 = .p (I k) ∧ st.s 7 = .ptr 7 0 ∧ st.b 7 = some (.box 56 [.p (I h.lg[k].e), .p (I h.lg[k].n), .p (I h.lg[k].s), .p (I h.lg[k].x), .p (I h.lg[k].r), .p (I h.lg[k].b), .p (SB h.lg[k].m), .p (.sl 11 (pts h.lg[k].ps))]) ∧ st.s 8 = .p (B (lastC (h.lg[k].ps.take q)).isSome) ∧ st.s 29 = .p (.sl 11 (pts h.lg[k].ps)) ∧ st.s 30 = .p (I h.lg[k].ps.length) ∧ st.s 31 = .p (I q) ∧ ((st.s 4 = .full 4 (cfs (addC a (lastC (h.lg[k].ps.take q)))) ∧ st.s 5 = .full 2 (zxs (addZ z ⟨h.lg[k].e, h.lg[k].n⟩ (lastC (h.lg[k].ps.take q)))) ∧ (addC a (lastC (h.lg[k].ps.take q))).length = 1 ∧ (addZ z ⟨h.lg[k].e, h.lg[k].n⟩ (lastC (h.lg[k].ps.take q))).length = 1) ∨ (st.s 4 = .row 53 ∧ st.s 5 = .row 58 ∧ st.b 53 = some (.row 35 4 (cfs (addC a (lastC (h.lg[k].ps.take q))))) ∧ st.b 58 = some (.row 25 2 (zxs (addZ z ⟨h.lg[k].e, h.lg[k].n⟩ (lastC (h.lg[k].ps.take q)))))))) h.lg[k].ps.length ⟨0, by simp [g1, b1, g21, g22, g23, g4, g5, lastC, addC, addZ]; omega⟩ fun K' N' st hL' ⟨q, hq, e1, d1, e21, e22, e23, e7, d7, e8, e29, e30, e31, hr2⟩ => ?_
      by_cases hlq : q < h.lg[k].ps.length
      · have hlq' : (q : Int) < h.lg[k].ps.length := by omega
        have hwq := wrapS q _ hlq (by omega)
        have heq := pts_get hlq
        have hsn := lastC_snoc hlq
        by_cases o : (h.lg[k].ps[q]).k = 5
        · rw [if_pos o] at hsn
          cases hlc : lastC (h.lg[k].ps.take q) with
          | none =>
            rw [hlc] at e8 hr2
            simp only [addC, addZ, Option.isSome] at e8 hr2
            have s1 := cfs_app a (h.lg[k].ps[q]).c
            have s2 := zxs_app z h.lg[k].e h.lg[k].n
            rcases hr2 with ⟨f4, f5, m4, m5⟩ | ⟨f4, f5, d53, d58⟩
            · repeat' first | (refine And.intro (by (try simp only [cfs_len, zxs_len, List.length_append, List.length_cons, List.length_nil]); omega) ?_) | (refine Or.inl ?_) | (refine hK _ ?_; clear hK) | (refine hK _ _ ?_; clear hK) | (clear hK; refine hK _ ?_; clear hK) | (clear hK; clear hK; refine hK _ ?_; clear hK) | (clear hK; clear hK; clear hK; refine hK _ ?_; clear hK) | (clear hK; clear hK; clear hK; clear hK; refine hK _ ?_; clear hK) | (refine wSeq fun K hK => ?_) | ((first | refine wReg ?_ | refine wDrwQ rfl (by kernel_rfl) ?_ | refine wDrwI ?_ | refine wDrw (by kernel_rfl) ?_); simp only [List.map_cons, List.map_nil, strip]) | ((first | refine wIs fun K hK => ?_ | refine wOs fun K hK => ?_ | refine wQs fun K hK => ?_ | refine CallK_plain ?_ | refine CallQ_plain ?_ | refine CallR_plain ?_ | refine wCond ?_); simp [e1, d1, e7, d7, e8, e21, e22, e23, e29, e30, e31, f4, f5, hlq, hlq', hwq, heq, o, s1, s2, Pt.cells]) | (refine wIn ?_; refine And.intro (by kernel_rfl) ?_; try simp only [thenA_n]) | (first | refine wBlock ?_ | refine wScope ?_) | ((first | refine wRet ?_ | refine wExit ?_ | refine wSkip ?_); try simp) | ((first | refine wLabel ?_ | refine wOn ?_ | refine wQn ?_); try simp only [thenA_n])
              refine hL' _ (N' - 1) (by omega) ⟨q + 1, by omega, ?_⟩
              simp [e1, d1, e7, d7, e8, e21, e22, e23, e29, e30, e31, f4, f5, hwq, hsn, addC, addZ, s1, s2]
            · repeat' first | (refine And.intro (by (try simp only [cfs_len, zxs_len, List.length_append, List.length_cons, List.length_nil]); omega) ?_) | (refine Or.inl ?_) | (refine hK _ ?_; clear hK) | (refine hK _ _ ?_; clear hK) | (clear hK; refine hK _ ?_; clear hK) | (clear hK; clear hK; refine hK _ ?_; clear hK) | (clear hK; clear hK; clear hK; refine hK _ ?_; clear hK) | (clear hK; clear hK; clear hK; clear hK; refine hK _ ?_; clear hK) | (refine wSeq fun K hK => ?_) | ((first | refine wReg ?_ | refine wDrwQ rfl (by kernel_rfl) ?_ | refine wDrwI ?_ | refine wDrw (by kernel_rfl) ?_); simp only [List.map_cons, List.map_nil, strip]) | ((first | refine wIs fun K hK => ?_ | refine wOs fun K hK => ?_ | refine wQs fun K hK => ?_ | refine CallK_plain ?_ | refine CallQ_plain ?_ | refine CallR_plain ?_ | refine wCond ?_); simp [e1, d1, e7, d7, e8, e21, e22, e23, e29, e30, e31, f4, f5, d53, d58, hlq, hlq', hwq, heq, o, s1, s2, Pt.cells]) | (refine wIn ?_; refine And.intro (by kernel_rfl) ?_; try simp only [thenA_n]) | (first | refine wBlock ?_ | refine wScope ?_) | ((first | refine wRet ?_ | refine wExit ?_ | refine wSkip ?_); try simp) | ((first | refine wLabel ?_ | refine wOn ?_ | refine wQn ?_); try simp only [thenA_n])
              refine hL' _ (N' - 1) (by omega) ⟨q + 1, by omega, ?_⟩
              simp [e1, d1, e7, d7, e8, e21, e22, e23, e29, e30, e31, f4, f5, d53, d58, hwq, hsn, addC, addZ, s1, s2]
          | some c =>
            rw [hlc] at e8 hr2
            simp only [addC, addZ, Option.isSome] at e8 hr2
            have s1 := cfs_app a (h.lg[k].ps[q]).c
            have s2 := zxs_app z h.lg[k].e h.lg[k].n
            have s3 := cfs_cut a c
            have s4 := zxs_cut z ⟨h.lg[k].e, h.lg[k].n⟩
            have w1 : IntKind.i64.wrap (a.length : Int) = a.length := by rw [wrap_id] <;> omega
            have w2 : IntKind.i64.wrap (z.length : Int) = z.length := by rw [wrap_id] <;> omega
            rcases hr2 with ⟨f4, f5, m4, m5⟩ | ⟨f4, f5, d53, d58⟩
            · rw [List.length_append, List.length_cons, List.length_nil] at m4; omega
            · repeat' first | (refine And.intro (by (try simp only [cfs_len, zxs_len, List.length_append, List.length_cons, List.length_nil]); omega) ?_) | (refine Or.inl ?_) | (refine hK _ ?_; clear hK) | (refine hK _ _ ?_; clear hK) | (clear hK; refine hK _ ?_; clear hK) | (clear hK; clear hK; refine hK _ ?_; clear hK) | (clear hK; clear hK; clear hK; refine hK _ ?_; clear hK) | (clear hK; clear hK; clear hK; clear hK; refine hK _ ?_; clear hK) | (refine wSeq fun K hK => ?_) | ((first | refine wReg ?_ | refine wDrwQ rfl (by kernel_rfl) ?_ | refine wDrwI ?_ | refine wDrw (by kernel_rfl) ?_); simp only [List.map_cons, List.map_nil, strip]) | ((first | refine wIs fun K hK => ?_ | refine wOs fun K hK => ?_ | refine wQs fun K hK => ?_ | refine CallK_plain ?_ | refine CallQ_plain ?_ | refine CallR_plain ?_ | refine wCond ?_); simp [e1, d1, e7, d7, e8, e21, e22, e23, e29, e30, e31, f4, f5, d53, d58, hlq, hlq', hwq, heq, o, s1, s2, s3, s4, w1, w2, cfs_len, zxs_len, Pt.cells]) | (refine wIn ?_; refine And.intro (by kernel_rfl) ?_; try simp only [thenA_n]) | (first | refine wBlock ?_ | refine wScope ?_) | ((first | refine wRet ?_ | refine wExit ?_ | refine wSkip ?_); try simp) | ((first | refine wLabel ?_ | refine wOn ?_ | refine wQn ?_); try simp only [thenA_n])
              refine hL' _ (N' - 1) (by omega) ⟨q + 1, by omega, ?_⟩
              simp [e1, d1, e7, d7, e8, e21, e22, e23, e29, e30, e31, f4, f5, d53, d58, hwq, hsn, addC, addZ, s1, s2]
        · rw [if_neg o] at hsn
          rcases hr2 with ⟨f4, f5, m4, m5⟩ | ⟨f4, f5, d53, d58⟩
          · repeat' first | (refine hK _ ?_; clear hK) | (refine hK _ _ ?_; clear hK) | (clear hK; refine hK _ ?_; clear hK) | (clear hK; clear hK; refine hK _ ?_; clear hK) | (clear hK; clear hK; clear hK; refine hK _ ?_; clear hK) | (clear hK; clear hK; clear hK; clear hK; refine hK _ ?_; clear hK) | (refine wSeq fun K hK => ?_) | ((first | refine wReg ?_ | refine wDrwQ rfl (by kernel_rfl) ?_ | refine wDrwI ?_ | refine wDrw (by kernel_rfl) ?_); simp only [List.map_cons, List.map_nil, strip]) | ((first | refine wIs fun K hK => ?_ | refine wOs fun K hK => ?_ | refine wQs fun K hK => ?_ | refine CallK_plain ?_ | refine CallQ_plain ?_ | refine CallR_plain ?_ | refine wCond ?_); simp [e1, d1, e7, d7, e8, e21, e22, e23, e29, e30, e31, f4, f5, hlq, hlq', hwq, heq, o, Pt.cells]) | (refine wIn ?_; refine And.intro (by kernel_rfl) ?_; try simp only [thenA_n]) | (first | refine wBlock ?_ | refine wScope ?_) | ((first | refine wRet ?_ | refine wExit ?_ | refine wSkip ?_); try simp) | ((first | refine wLabel ?_ | refine wOn ?_ | refine wQn ?_); try simp only [thenA_n])
            refine hL' _ (N' - 1) (by omega) ⟨q + 1, by omega, ?_⟩
            simp [e1, d1, e7, d7, e8, e21, e22, e23, e29, e30, e31, f4, f5, hwq, hsn, m4, m5]
          · repeat' first | (refine hK _ ?_; clear hK) | (refine hK _ _ ?_; clear hK) | (clear hK; refine hK _ ?_; clear hK) | (clear hK; clear hK; refine hK _ ?_; clear hK) | (clear hK; clear hK; clear hK; refine hK _ ?_; clear hK) | (clear hK; clear hK; clear hK; clear hK; refine hK _ ?_; clear hK) | (refine wSeq fun K hK => ?_) | ((first | refine wReg ?_ | refine wDrwQ rfl (by kernel_rfl) ?_ | refine wDrwI ?_ | refine wDrw (by kernel_rfl) ?_); simp only [List.map_cons, List.map_nil, strip]) | ((first | refine wIs fun K hK => ?_ | refine wOs fun K hK => ?_ | refine wQs fun K hK => ?_ | refine CallK_plain ?_ | refine CallQ_plain ?_ | refine CallR_plain ?_ | refine wCond ?_); simp [e1, d1, e7, d7, e8, e21, e22, e23, e29, e30, e31, f4, f5, d53, d58, hlq, hlq', hwq, heq, o, Pt.cells]) | (refine wIn ?_; refine And.intro (by kernel_rfl) ?_; try simp only [thenA_n]) | (first | refine wBlock ?_ | refine wScope ?_) | ((first | refine wRet ?_ | refine wExit ?_ | refine wSkip ?_); try simp) | ((first | refine wLabel ?_ | refine wOn ?_ | refine wQn ?_); try simp only [thenA_n])
            refine hL' _ (N' - 1) (by omega) ⟨q + 1, by omega, ?_⟩
            simp [e1, d1, e7, d7, e8, e21, e22, e23, e29, e30, e31, f4, f5, d53, d58, hwq, hsn]
      · have hlq' : ¬ (q : Int) < h.lg[k].ps.length := by omega
        rw [List.take_of_length_le (by omega)] at hr2
        rw [← hca, ← hza] at hr2
        have hl1 : (zxA h (h.lg.take (k + 1))).length = (cfA h (h.lg.take (k + 1))).length ∧ 1 ≤ (cfA h (h.lg.take (k + 1))).length ∧ (cfA h (h.lg.take (k + 1))).length ≤ k + 2 := by
          rw [hca, hza]
          cases lastC h.lg[k].ps <;> simp [addC, addZ] <;> omega
        rcases hr2 with ⟨f4, f5, m4, m5⟩ | ⟨f4, f5, d53, d58⟩
        · repeat' first | (refine hK _ ?_; clear hK) | (refine hK _ _ ?_; clear hK) | (clear hK; refine hK _ ?_; clear hK) | (clear hK; clear hK; refine hK _ ?_; clear hK) | (clear hK; clear hK; clear hK; refine hK _ ?_; clear hK) | (clear hK; clear hK; clear hK; clear hK; refine hK _ ?_; clear hK) | (refine wSeq fun K hK => ?_) | ((first | refine wReg ?_ | refine wDrwQ rfl (by kernel_rfl) ?_ | refine wDrwI ?_ | refine wDrw (by kernel_rfl) ?_); simp only [List.map_cons, List.map_nil, strip]) | ((first | refine wIs fun K hK => ?_ | refine wOs fun K hK => ?_ | refine wQs fun K hK => ?_ | refine CallK_plain ?_ | refine CallQ_plain ?_ | refine CallR_plain ?_ | refine wCond ?_); simp [e1, d1, e7, d7, e8, e21, e22, e23, e29, e30, e31, f4, f5, hlq, hlq', hw]) | (refine wIn ?_; refine And.intro (by kernel_rfl) ?_; try simp only [thenA_n]) | (first | refine wBlock ?_ | refine wScope ?_) | ((first | refine wRet ?_ | refine wExit ?_ | refine wSkip ?_); try simp) | ((first | refine wLabel ?_ | refine wOn ?_ | refine wQn ?_); try simp only [thenA_n])
          refine hL _ (N - 1) (by omega) ⟨k + 1, _, _, by omega, rfl, rfl, hl1.1, hl1.2.1, hl1.2.2, ?_⟩
          simp [e1, d1, e7, d7, e8, e21, e22, e23, e29, e30, e31, f4, f5, hw, m4, m5]
        · repeat' first | (refine hK _ ?_; clear hK) | (refine hK _ _ ?_; clear hK) | (clear hK; refine hK _ ?_; clear hK) | (clear hK; clear hK; refine hK _ ?_; clear hK) | (clear hK; clear hK; clear hK; refine hK _ ?_; clear hK) | (clear hK; clear hK; clear hK; clear hK; refine hK _ ?_; clear hK) | (refine wSeq fun K hK => ?_) | ((first | refine wReg ?_ | refine wDrwQ rfl (by kernel_rfl) ?_ | refine wDrwI ?_ | refine wDrw (by kernel_rfl) ?_); simp only [List.map_cons, List.map_nil, strip]) | ((first | refine wIs fun K hK => ?_ | refine wOs fun K hK => ?_ | refine wQs fun K hK => ?_ | refine CallK_plain ?_ | refine CallQ_plain ?_ | refine CallR_plain ?_ | refine wCond ?_); simp [e1, d1, e7, d7, e8, e21, e22, e23, e29, e30, e31, f4, f5, d53, d58, hlq, hlq', hw]) | (refine wIn ?_; refine And.intro (by kernel_rfl) ?_; try simp only [thenA_n]) | (first | refine wBlock ?_ | refine wScope ?_) | ((first | refine wRet ?_ | refine wExit ?_ | refine wSkip ?_); try simp) | ((first | refine wLabel ?_ | refine wOn ?_ | refine wQn ?_); try simp only [thenA_n])
          refine hL _ (N - 1) (by omega) ⟨k + 1, _, _, by omega, rfl, rfl, hl1.1, hl1.2.1, hl1.2.2, ?_⟩
          simp [e1, d1, e7, d7, e8, e21, e22, e23, e29, e30, e31, f4, f5, d53, d58, hw]
    · repeat' first | (refine hK _ ?_; clear hK) | (refine hK _ _ ?_; clear hK) | (clear hK; refine hK _ ?_; clear hK) | (clear hK; clear hK; refine hK _ ?_; clear hK) | (clear hK; clear hK; clear hK; refine hK _ ?_; clear hK) | (clear hK; clear hK; clear hK; clear hK; refine hK _ ?_; clear hK) | (refine wSeq fun K hK => ?_) | ((first | refine wReg ?_ | refine wDrwQ rfl (by kernel_rfl) ?_ | refine wDrwI ?_ | refine wDrw (by kernel_rfl) ?_); simp only [List.map_cons, List.map_nil, strip]) | ((first | refine wIs fun K hK => ?_ | refine wOs fun K hK => ?_ | refine wQs fun K hK => ?_ | refine CallK_plain ?_ | refine CallQ_plain ?_ | refine CallR_plain ?_ | refine wCond ?_); simp [g1, b1, g21, g22, g23, g4, g5, b53, b58, hlt, hlt', he]) | (refine wIn ?_; refine And.intro (by kernel_rfl) ?_; try simp only [thenA_n]) | (first | refine wBlock ?_ | refine wScope ?_) | ((first | refine wRet ?_ | refine wExit ?_ | refine wSkip ?_); try simp) | ((first | refine wLabel ?_ | refine wOn ?_ | refine wQn ?_); try simp only [thenA_n]) | (refine CallE.pure (c2) rfl ?_) | (refine CallE.lent (c2) rfl ?_) | (refine CallF.pure (c2) rfl ?_) | (refine CallF.lent (c2) rfl ?_) | (refine CallE.own (c2) ?_) | (refine CallH.pure (c2) rfl ?_) | (refine CallH.lent (c2) rfl ?_) | (refine CallH.own (c2) ?_)
      refine wLoop (fun N' st => ∃ (q : Nat), q + N' = h.lg[k].ps.length ∧ st.s 1 = .ptr 1 0 ∧ st.b 1 = some (.box 40 [.p (.sl 5 (zns h.im.ns)), .p (.sl 1 (ints h.im.ss)), .p (I h.im.nx), .p (I h.im.c.ep), .p (I h.im.c.n), .p (I h.im.c.kind), .p (.sl 4 (mbs h.im.c.ms)), .p (I h.im.ae), .p (I h.im.an), .p (.sl 8 (txns h.lg))]) ∧ st.s 21 = .p (.sl 8 (txns h.lg)) ∧ st.s 22 = .p (I h.lg.length) ∧ st.s 23 = .p (I k) ∧ st.s 7 = .ptr 7 0 ∧ st.b 7 = some (.box 56 [.p (I h.lg[k].e), .p (I h.lg[k].n), .p (I h.lg[k].s), .p (I h.lg[k].x), .p (I h.lg[k].r), .p (I h.lg[k].b), .p (SB h.lg[k].m), .p (.sl 11 (pts h.lg[k].ps))]) ∧ st.s 8 = .p (B (lastC (h.lg[k].ps.take q)).isSome) ∧ st.s 29 = .p (.sl 11 (pts h.lg[k].ps)) ∧ st.s 30 = .p (I h.lg[k].ps.length) ∧ st.s 31 = .p (I q) ∧ ((st.s 4 = .full 4 (cfs (addC a (lastC (h.lg[k].ps.take q)))) ∧ st.s 5 = .full 2 (zxs (addZ z ⟨h.lg[k].e, h.lg[k].n⟩ (lastC (h.lg[k].ps.take q)))) ∧ (addC a (lastC (h.lg[k].ps.take q))).length = 1 ∧ (addZ z ⟨h.lg[k].e, h.lg[k].n⟩ (lastC (h.lg[k].ps.take q))).length = 1) ∨ (st.s 4 = .row 53 ∧ st.s 5 = .row 58 ∧ st.b 53 = some (.row 35 4 (cfs (addC a (lastC (h.lg[k].ps.take q))))) ∧ st.b 58 = some (.row 25 2 (zxs (addZ z ⟨h.lg[k].e, h.lg[k].n⟩ (lastC (h.lg[k].ps.take q)))))))) h.lg[k].ps.length ⟨0, by simp [g1, b1, g21, g22, g23, g4, g5, b53, b58, lastC, addC, addZ]⟩ fun K' N' st hL' ⟨q, hq, e1, d1, e21, e22, e23, e7, d7, e8, e29, e30, e31, hr2⟩ => ?_
      by_cases hlq : q < h.lg[k].ps.length
      · have hlq' : (q : Int) < h.lg[k].ps.length := by omega
        have hwq := wrapS q _ hlq (by omega)
        have heq := pts_get hlq
        have hsn := lastC_snoc hlq
        by_cases o : (h.lg[k].ps[q]).k = 5
        · rw [if_pos o] at hsn
          cases hlc : lastC (h.lg[k].ps.take q) with
          | none =>
            rw [hlc] at e8 hr2
            simp only [addC, addZ, Option.isSome] at e8 hr2
            have s1 := cfs_app a (h.lg[k].ps[q]).c
            have s2 := zxs_app z h.lg[k].e h.lg[k].n
            rcases hr2 with ⟨f4, f5, m4, m5⟩ | ⟨f4, f5, d53, d58⟩
            · repeat' first | (refine And.intro (by (try simp only [cfs_len, zxs_len, List.length_append, List.length_cons, List.length_nil]); omega) ?_) | (refine Or.inl ?_) | (refine hK _ ?_; clear hK) | (refine hK _ _ ?_; clear hK) | (clear hK; refine hK _ ?_; clear hK) | (clear hK; clear hK; refine hK _ ?_; clear hK) | (clear hK; clear hK; clear hK; refine hK _ ?_; clear hK) | (clear hK; clear hK; clear hK; clear hK; refine hK _ ?_; clear hK) | (refine wSeq fun K hK => ?_) | ((first | refine wReg ?_ | refine wDrwQ rfl (by kernel_rfl) ?_ | refine wDrwI ?_ | refine wDrw (by kernel_rfl) ?_); simp only [List.map_cons, List.map_nil, strip]) | ((first | refine wIs fun K hK => ?_ | refine wOs fun K hK => ?_ | refine wQs fun K hK => ?_ | refine CallK_plain ?_ | refine CallQ_plain ?_ | refine CallR_plain ?_ | refine wCond ?_); simp [e1, d1, e7, d7, e8, e21, e22, e23, e29, e30, e31, f4, f5, hlq, hlq', hwq, heq, o, s1, s2, Pt.cells]) | (refine wIn ?_; refine And.intro (by kernel_rfl) ?_; try simp only [thenA_n]) | (first | refine wBlock ?_ | refine wScope ?_) | ((first | refine wRet ?_ | refine wExit ?_ | refine wSkip ?_); try simp) | ((first | refine wLabel ?_ | refine wOn ?_ | refine wQn ?_); try simp only [thenA_n])
              refine hL' _ (N' - 1) (by omega) ⟨q + 1, by omega, ?_⟩
              simp [e1, d1, e7, d7, e8, e21, e22, e23, e29, e30, e31, f4, f5, hwq, hsn, addC, addZ, s1, s2]
            · repeat' first | (refine And.intro (by (try simp only [cfs_len, zxs_len, List.length_append, List.length_cons, List.length_nil]); omega) ?_) | (refine Or.inl ?_) | (refine hK _ ?_; clear hK) | (refine hK _ _ ?_; clear hK) | (clear hK; refine hK _ ?_; clear hK) | (clear hK; clear hK; refine hK _ ?_; clear hK) | (clear hK; clear hK; clear hK; refine hK _ ?_; clear hK) | (clear hK; clear hK; clear hK; clear hK; refine hK _ ?_; clear hK) | (refine wSeq fun K hK => ?_) | ((first | refine wReg ?_ | refine wDrwQ rfl (by kernel_rfl) ?_ | refine wDrwI ?_ | refine wDrw (by kernel_rfl) ?_); simp only [List.map_cons, List.map_nil, strip]) | ((first | refine wIs fun K hK => ?_ | refine wOs fun K hK => ?_ | refine wQs fun K hK => ?_ | refine CallK_plain ?_ | refine CallQ_plain ?_ | refine CallR_plain ?_ | refine wCond ?_); simp [e1, d1, e7, d7, e8, e21, e22, e23, e29, e30, e31, f4, f5, d53, d58, hlq, hlq', hwq, heq, o, s1, s2, Pt.cells]) | (refine wIn ?_; refine And.intro (by kernel_rfl) ?_; try simp only [thenA_n]) | (first | refine wBlock ?_ | refine wScope ?_) | ((first | refine wRet ?_ | refine wExit ?_ | refine wSkip ?_); try simp) | ((first | refine wLabel ?_ | refine wOn ?_ | refine wQn ?_); try simp only [thenA_n])
              refine hL' _ (N' - 1) (by omega) ⟨q + 1, by omega, ?_⟩
              simp [e1, d1, e7, d7, e8, e21, e22, e23, e29, e30, e31, f4, f5, d53, d58, hwq, hsn, addC, addZ, s1, s2]
          | some c =>
            rw [hlc] at e8 hr2
            simp only [addC, addZ, Option.isSome] at e8 hr2
            have s1 := cfs_app a (h.lg[k].ps[q]).c
            have s2 := zxs_app z h.lg[k].e h.lg[k].n
            have s3 := cfs_cut a c
            have s4 := zxs_cut z ⟨h.lg[k].e, h.lg[k].n⟩
            have w1 : IntKind.i64.wrap (a.length : Int) = a.length := by rw [wrap_id] <;> omega
            have w2 : IntKind.i64.wrap (z.length : Int) = z.length := by rw [wrap_id] <;> omega
            rcases hr2 with ⟨f4, f5, m4, m5⟩ | ⟨f4, f5, d53, d58⟩
            · rw [List.length_append, List.length_cons, List.length_nil] at m4; omega
            · repeat' first | (refine And.intro (by (try simp only [cfs_len, zxs_len, List.length_append, List.length_cons, List.length_nil]); omega) ?_) | (refine Or.inl ?_) | (refine hK _ ?_; clear hK) | (refine hK _ _ ?_; clear hK) | (clear hK; refine hK _ ?_; clear hK) | (clear hK; clear hK; refine hK _ ?_; clear hK) | (clear hK; clear hK; clear hK; refine hK _ ?_; clear hK) | (clear hK; clear hK; clear hK; clear hK; refine hK _ ?_; clear hK) | (refine wSeq fun K hK => ?_) | ((first | refine wReg ?_ | refine wDrwQ rfl (by kernel_rfl) ?_ | refine wDrwI ?_ | refine wDrw (by kernel_rfl) ?_); simp only [List.map_cons, List.map_nil, strip]) | ((first | refine wIs fun K hK => ?_ | refine wOs fun K hK => ?_ | refine wQs fun K hK => ?_ | refine CallK_plain ?_ | refine CallQ_plain ?_ | refine CallR_plain ?_ | refine wCond ?_); simp [e1, d1, e7, d7, e8, e21, e22, e23, e29, e30, e31, f4, f5, d53, d58, hlq, hlq', hwq, heq, o, s1, s2, s3, s4, w1, w2, cfs_len, zxs_len, Pt.cells]) | (refine wIn ?_; refine And.intro (by kernel_rfl) ?_; try simp only [thenA_n]) | (first | refine wBlock ?_ | refine wScope ?_) | ((first | refine wRet ?_ | refine wExit ?_ | refine wSkip ?_); try simp) | ((first | refine wLabel ?_ | refine wOn ?_ | refine wQn ?_); try simp only [thenA_n])
              refine hL' _ (N' - 1) (by omega) ⟨q + 1, by omega, ?_⟩
              simp [e1, d1, e7, d7, e8, e21, e22, e23, e29, e30, e31, f4, f5, d53, d58, hwq, hsn, addC, addZ, s1, s2]
        · rw [if_neg o] at hsn
          rcases hr2 with ⟨f4, f5, m4, m5⟩ | ⟨f4, f5, d53, d58⟩
          · repeat' first | (refine hK _ ?_; clear hK) | (refine hK _ _ ?_; clear hK) | (clear hK; refine hK _ ?_; clear hK) | (clear hK; clear hK; refine hK _ ?_; clear hK) | (clear hK; clear hK; clear hK; refine hK _ ?_; clear hK) | (clear hK; clear hK; clear hK; clear hK; refine hK _ ?_; clear hK) | (refine wSeq fun K hK => ?_) | ((first | refine wReg ?_ | refine wDrwQ rfl (by kernel_rfl) ?_ | refine wDrwI ?_ | refine wDrw (by kernel_rfl) ?_); simp only [List.map_cons, List.map_nil, strip]) | ((first | refine wIs fun K hK => ?_ | refine wOs fun K hK => ?_ | refine wQs fun K hK => ?_ | refine CallK_plain ?_ | refine CallQ_plain ?_ | refine CallR_plain ?_ | refine wCond ?_); simp [e1, d1, e7, d7, e8, e21, e22, e23, e29, e30, e31, f4, f5, hlq, hlq', hwq, heq, o, Pt.cells]) | (refine wIn ?_; refine And.intro (by kernel_rfl) ?_; try simp only [thenA_n]) | (first | refine wBlock ?_ | refine wScope ?_) | ((first | refine wRet ?_ | refine wExit ?_ | refine wSkip ?_); try simp) | ((first | refine wLabel ?_ | refine wOn ?_ | refine wQn ?_); try simp only [thenA_n])
            refine hL' _ (N' - 1) (by omega) ⟨q + 1, by omega, ?_⟩
            simp [e1, d1, e7, d7, e8, e21, e22, e23, e29, e30, e31, f4, f5, hwq, hsn, m4, m5]
          · repeat' first | (refine hK _ ?_; clear hK) | (refine hK _ _ ?_; clear hK) | (clear hK; refine hK _ ?_; clear hK) | (clear hK; clear hK; refine hK _ ?_; clear hK) | (clear hK; clear hK; clear hK; refine hK _ ?_; clear hK) | (clear hK; clear hK; clear hK; clear hK; refine hK _ ?_; clear hK) | (refine wSeq fun K hK => ?_) | ((first | refine wReg ?_ | refine wDrwQ rfl (by kernel_rfl) ?_ | refine wDrwI ?_ | refine wDrw (by kernel_rfl) ?_); simp only [List.map_cons, List.map_nil, strip]) | ((first | refine wIs fun K hK => ?_ | refine wOs fun K hK => ?_ | refine wQs fun K hK => ?_ | refine CallK_plain ?_ | refine CallQ_plain ?_ | refine CallR_plain ?_ | refine wCond ?_); simp [e1, d1, e7, d7, e8, e21, e22, e23, e29, e30, e31, f4, f5, d53, d58, hlq, hlq', hwq, heq, o, Pt.cells]) | (refine wIn ?_; refine And.intro (by kernel_rfl) ?_; try simp only [thenA_n]) | (first | refine wBlock ?_ | refine wScope ?_) | ((first | refine wRet ?_ | refine wExit ?_ | refine wSkip ?_); try simp) | ((first | refine wLabel ?_ | refine wOn ?_ | refine wQn ?_); try simp only [thenA_n])
            refine hL' _ (N' - 1) (by omega) ⟨q + 1, by omega, ?_⟩
            simp [e1, d1, e7, d7, e8, e21, e22, e23, e29, e30, e31, f4, f5, d53, d58, hwq, hsn]
      · have hlq' : ¬ (q : Int) < h.lg[k].ps.length := by omega
        rw [List.take_of_length_le (by omega)] at hr2
        rw [← hca, ← hza] at hr2
        have hl1 : (zxA h (h.lg.take (k + 1))).length = (cfA h (h.lg.take (k + 1))).length ∧ 1 ≤ (cfA h (h.lg.take (k + 1))).length ∧ (cfA h (h.lg.take (k + 1))).length ≤ k + 2 := by
          rw [hca, hza]
          cases lastC h.lg[k].ps <;> simp [addC, addZ] <;> omega
        rcases hr2 with ⟨f4, f5, m4, m5⟩ | ⟨f4, f5, d53, d58⟩
        · repeat' first | (refine hK _ ?_; clear hK) | (refine hK _ _ ?_; clear hK) | (clear hK; refine hK _ ?_; clear hK) | (clear hK; clear hK; refine hK _ ?_; clear hK) | (clear hK; clear hK; clear hK; refine hK _ ?_; clear hK) | (clear hK; clear hK; clear hK; clear hK; refine hK _ ?_; clear hK) | (refine wSeq fun K hK => ?_) | ((first | refine wReg ?_ | refine wDrwQ rfl (by kernel_rfl) ?_ | refine wDrwI ?_ | refine wDrw (by kernel_rfl) ?_); simp only [List.map_cons, List.map_nil, strip]) | ((first | refine wIs fun K hK => ?_ | refine wOs fun K hK => ?_ | refine wQs fun K hK => ?_ | refine CallK_plain ?_ | refine CallQ_plain ?_ | refine CallR_plain ?_ | refine wCond ?_); simp [e1, d1, e7, d7, e8, e21, e22, e23, e29, e30, e31, f4, f5, hlq, hlq', hw]) | (refine wIn ?_; refine And.intro (by kernel_rfl) ?_; try simp only [thenA_n]) | (first | refine wBlock ?_ | refine wScope ?_) | ((first | refine wRet ?_ | refine wExit ?_ | refine wSkip ?_); try simp) | ((first | refine wLabel ?_ | refine wOn ?_ | refine wQn ?_); try simp only [thenA_n])
          refine hL _ (N - 1) (by omega) ⟨k + 1, _, _, by omega, rfl, rfl, hl1.1, hl1.2.1, hl1.2.2, ?_⟩
          simp [e1, d1, e7, d7, e8, e21, e22, e23, e29, e30, e31, f4, f5, hw, m4, m5]
        · repeat' first | (refine hK _ ?_; clear hK) | (refine hK _ _ ?_; clear hK) | (clear hK; refine hK _ ?_; clear hK) | (clear hK; clear hK; refine hK _ ?_; clear hK) | (clear hK; clear hK; clear hK; refine hK _ ?_; clear hK) | (clear hK; clear hK; clear hK; clear hK; refine hK _ ?_; clear hK) | (refine wSeq fun K hK => ?_) | ((first | refine wReg ?_ | refine wDrwQ rfl (by kernel_rfl) ?_ | refine wDrwI ?_ | refine wDrw (by kernel_rfl) ?_); simp only [List.map_cons, List.map_nil, strip]) | ((first | refine wIs fun K hK => ?_ | refine wOs fun K hK => ?_ | refine wQs fun K hK => ?_ | refine CallK_plain ?_ | refine CallQ_plain ?_ | refine CallR_plain ?_ | refine wCond ?_); simp [e1, d1, e7, d7, e8, e21, e22, e23, e29, e30, e31, f4, f5, d53, d58, hlq, hlq', hw]) | (refine wIn ?_; refine And.intro (by kernel_rfl) ?_; try simp only [thenA_n]) | (first | refine wBlock ?_ | refine wScope ?_) | ((first | refine wRet ?_ | refine wExit ?_ | refine wSkip ?_); try simp) | ((first | refine wLabel ?_ | refine wOn ?_ | refine wQn ?_); try simp only [thenA_n])
          refine hL _ (N - 1) (by omega) ⟨k + 1, _, _, by omega, rfl, rfl, hl1.1, hl1.2.1, hl1.2.2, ?_⟩
          simp [e1, d1, e7, d7, e8, e21, e22, e23, e29, e30, e31, f4, f5, d53, d58, hw]
  · have hlt' : ¬ (k : Int) < h.lg.length := by omega
    rw [List.take_of_length_le (by omega)] at ha hz
    rw [← ha, ← hz] at hr
    rcases hrow with ⟨g4, g5, l4, l5⟩ | ⟨g4, g5, b53, b58⟩
    · repeat' first | (refine hK _ ?_; clear hK) | (refine hK _ _ ?_; clear hK) | (clear hK; refine hK _ ?_; clear hK) | (clear hK; clear hK; refine hK _ ?_; clear hK) | (clear hK; clear hK; clear hK; refine hK _ ?_; clear hK) | (clear hK; clear hK; clear hK; clear hK; refine hK _ ?_; clear hK) | (refine wSeq fun K hK => ?_) | ((first | refine wReg ?_ | refine wDrwQ rfl (by kernel_rfl) ?_ | refine wDrwI ?_ | refine wDrw (by kernel_rfl) ?_); simp only [List.map_cons, List.map_nil, strip]) | ((first | refine wIs fun K hK => ?_ | refine wOs fun K hK => ?_ | refine wQs fun K hK => ?_ | refine CallK_plain ?_ | refine CallQ_plain ?_ | refine CallR_plain ?_ | refine wCond ?_); simp [g1, b1, g21, g22, g23, g4, g5, hlt, hlt']) | (refine wIn ?_; refine And.intro (by kernel_rfl) ?_; try simp only [thenA_n]) | (first | refine wBlock ?_ | refine wScope ?_) | ((first | refine wRet ?_ | refine wExit ?_ | refine wSkip ?_); try simp) | ((first | refine wLabel ?_ | refine wOn ?_ | refine wQn ?_); try simp only [thenA_n])
      all_goals apply hr
      all_goals simp [Try.f59]
    · repeat' first | (refine hK _ ?_; clear hK) | (refine hK _ _ ?_; clear hK) | (clear hK; refine hK _ ?_; clear hK) | (clear hK; clear hK; refine hK _ ?_; clear hK) | (clear hK; clear hK; clear hK; refine hK _ ?_; clear hK) | (clear hK; clear hK; clear hK; clear hK; refine hK _ ?_; clear hK) | (refine wSeq fun K hK => ?_) | ((first | refine wReg ?_ | refine wDrwQ rfl (by kernel_rfl) ?_ | refine wDrwI ?_ | refine wDrw (by kernel_rfl) ?_); simp only [List.map_cons, List.map_nil, strip]) | ((first | refine wIs fun K hK => ?_ | refine wOs fun K hK => ?_ | refine wQs fun K hK => ?_ | refine CallK_plain ?_ | refine CallQ_plain ?_ | refine CallR_plain ?_ | refine wCond ?_); simp [g1, b1, g21, g22, g23, g4, g5, b53, b58, hlt, hlt']) | (refine wIn ?_; refine And.intro (by kernel_rfl) ?_; try simp only [thenA_n]) | (first | refine wBlock ?_ | refine wScope ?_) | ((first | refine wRet ?_ | refine wExit ?_ | refine wSkip ?_); try simp) | ((first | refine wLabel ?_ | refine wOn ?_ | refine wQn ?_); try simp only [thenA_n])
      all_goals apply hr
      all_goals simp [Try.f59, b53, b58, g4, g5]
theorem cfs_drop (p l : List Cf) : (cfs (p ++ l)).drop p.length = cfs l := by simp [cfs]
set_option maxHeartbeats 4000000 in
theorem needs16_con (h : Hy) (de dn : Int) (hk : OkH h) : ACon Try.prog 40 [.p (.agg h.cells), .p (.agg [I de, I dn])] (.p (.sl 4 (cfs (needsOf h de dn)))) := by
  have c1 := configs16_con h hk
  obtain ⟨pre, prz, h1, h2, h3, h4, h5⟩ := cfA_ns h h.lg.length (l := h.lg) (Nat.le_refl _)
  have hlg := hk.lg
  simp only [List.take_length] at h1 h2 h3 h4 h5
  have c2 := cmp02_con (nsOf h h.lg).fe (nsOf h h.lg).fn de dn
  unfold needsOf endN
  generalize nsOf h h.lg = s at h1 h2 h3 c2 ⊢
  generalize cfA h h.lg = L at c1 h1 h4 h5
  generalize zxA h h.lg = Z at c1 h3 h4
  have hZ : Z.length = prz.length + 1 := by rw [h3]; simp
  have hZg : (zxs Z)[prz.length]? = some [I s.fe, I s.fn] := by rw [h3]; simp [zxs]
  have hcl := cfs_len L
  have hzl := zxs_len Z
  unfold Hy.cells at c1 ⊢
  by_cases o1 : s.ch = false
  · rw [if_pos (.inl o1)]
    obtain rfl := h2 o1
    rw [if_neg (by simp [o1]), List.nil_append] at h1
    have hl1 : L.length = 1 := by rw [h1]; rfl
    have e1 : (cfs L).drop 0 = cfs [s.now] := by rw [h1]; rfl
    have e2 : cfs L = cfs [s.now] := by rw [h1]
    rw [hl1] at hcl
    have w0 : IntKind.i64.wrap 0 = 0 := by rw [wrap_id] <;> omega
    refine wBody Try.tab Try.mixed Try.func40 rfl rfl Try.ntmps40 (by simp) (by simp) fun Q hr hn => ?_
    repeat' first | (refine hK _ ?_; clear hK) | (refine hK _ _ ?_; clear hK) | (clear hK; refine hK _ ?_; clear hK) | (clear hK; clear hK; refine hK _ ?_; clear hK) | (clear hK; clear hK; clear hK; refine hK _ ?_; clear hK) | (clear hK; clear hK; clear hK; clear hK; refine hK _ ?_; clear hK) | (refine wSeq fun K hK => ?_) | ((first | refine wReg ?_ | refine wDrwQ rfl (by kernel_rfl) ?_ | refine wDrwI ?_ | refine wDrw (by kernel_rfl) ?_); simp only [List.map_cons, List.map_nil, strip]) | ((first | refine wIs fun K hK => ?_ | refine wOs fun K hK => ?_ | refine wQs fun K hK => ?_ | refine CallK_plain ?_ | refine CallQ_plain ?_ | refine CallR_plain ?_ | refine wCond ?_); simp [hcl, e1, w0]) | (refine wIn ?_; refine And.intro (by kernel_rfl) ?_; try simp only [thenA_n]) | (first | refine wBlock ?_ | refine wScope ?_) | ((first | refine wRet ?_ | refine wExit ?_ | refine wSkip ?_); try simp) | ((first | refine wLabel ?_ | refine wOn ?_ | refine wQn ?_); try simp only [thenA_n]) | (refine CallE.pure (c1) rfl ?_) | (refine CallE.lent (c1) rfl ?_) | (refine CallF.pure (c1) rfl ?_) | (refine CallF.lent (c1) rfl ?_) | (refine CallE.own (c1) ?_) | (refine CallH.pure (c1) rfl ?_) | (refine CallH.lent (c1) rfl ?_) | (refine CallH.own (c1) ?_)
    all_goals apply hr
    all_goals simp [Try.f40, e2]
    all_goals rfl
  · have o1' : s.ch = true := by simpa using o1
    rw [if_pos o1'] at h1
    have hl1 : L.length = pre.length + 2 := by rw [h1]; simp
    have hpp : prz.length = pre.length + 1 := by omega
    rw [hpp] at hZg hZ
    rw [hl1] at hcl
    rw [hZ] at hzl
    have w1 : IntKind.i64.wrap ((pre.length : Int) + 2 - 1) = (pre.length : Int) + 1 := by rw [wrap_id] <;> omega
    have w2 : IntKind.i64.wrap ((pre.length : Int) + 1 - 1) = (pre.length : Int) := by rw [wrap_id] <;> omega
    have w2' : IntKind.i64.wrap (pre.length : Int) = (pre.length : Int) := by rw [wrap_id] <;> omega
    have n0 : ¬ (pre.length : Int) + 1 = 0 := by omega
    have n1 : (0 : Int) ≤ (pre.length : Int) + 1 := by omega
    have n2 : ((pre.length : Int) + 1).toNat = pre.length + 1 := by omega
    have n3 : pre.length + 1 < Z.length := by omega
    have n4 : pre.length + 1 ≤ L.length := by omega
    have n5 : pre.length ≤ L.length := by omega
    have e1 : (cfs L).drop (pre.length + 1) = cfs [s.now] := by
      have := cfs_drop (pre ++ [s.was]) [s.now]
      rw [List.append_assoc, List.singleton_append, ← h1] at this
      rw [← this]; congr 1; simp
    have e2 : (cfs L).drop pre.length = cfs [s.was, s.now] := by
      have := cfs_drop pre [s.was, s.now]
      rw [← h1] at this
      exact this
    have hz1 : (Z[pre.length + 1]'(by omega)) = ⟨s.fe, s.fn⟩ := by
      have : Z[pre.length + 1]? = some ⟨s.fe, s.fn⟩ := by rw [h3, ← hpp]; simp
      rw [List.getElem?_eq_getElem (by omega)] at this
      exact Option.some.inj this
    have hfe : s.fe = (Z[pre.length + 1]'(by omega)).e := by rw [hz1]
    have hfn : s.fn = (Z[pre.length + 1]'(by omega)).n := by rw [hz1]
    rw [hfe, hfn] at c2 ⊢
    clear hz1 hfe hfn hZg
    by_cases o2 : zcmp (Z[pre.length + 1]'(by omega)).e (Z[pre.length + 1]'(by omega)).n de dn ≤ 0
    · rw [if_pos (.inr o2)]
      refine wBody Try.tab Try.mixed Try.func40 rfl rfl Try.ntmps40 (by simp) (by simp) fun Q hr hn => ?_
      repeat' first | (refine hK _ ?_; clear hK) | (refine hK _ _ ?_; clear hK) | (clear hK; refine hK _ ?_; clear hK) | (clear hK; clear hK; refine hK _ ?_; clear hK) | (clear hK; clear hK; clear hK; refine hK _ ?_; clear hK) | (clear hK; clear hK; clear hK; clear hK; refine hK _ ?_; clear hK) | (refine wSeq fun K hK => ?_) | ((first | refine wReg ?_ | refine wDrwQ rfl (by kernel_rfl) ?_ | refine wDrwI ?_ | refine wDrw (by kernel_rfl) ?_); simp only [List.map_cons, List.map_nil, strip]) | ((first | refine wIs fun K hK => ?_ | refine wOs fun K hK => ?_ | refine wQs fun K hK => ?_ | refine CallK_plain ?_ | refine CallQ_plain ?_ | refine CallR_plain ?_ | refine wCond ?_); simp [hcl, hzl, w1, w2, w2', n0, n1, n2, n3, n4, n5, e1, e2, o2, hl1]) | (refine wIn ?_; refine And.intro (by kernel_rfl) ?_; try simp only [thenA_n]) | (first | refine wBlock ?_ | refine wScope ?_) | ((first | refine wRet ?_ | refine wExit ?_ | refine wSkip ?_); try simp) | ((first | refine wLabel ?_ | refine wOn ?_ | refine wQn ?_); try simp only [thenA_n]) | (refine CallE.pure (c1) rfl ?_) | (refine CallE.lent (c1) rfl ?_) | (refine CallF.pure (c1) rfl ?_) | (refine CallF.lent (c1) rfl ?_) | (refine CallE.own (c1) ?_) | (refine CallH.pure (c1) rfl ?_) | (refine CallH.lent (c1) rfl ?_) | (refine CallH.own (c1) ?_) | (refine CallE.pure (c2) rfl ?_) | (refine CallE.lent (c2) rfl ?_) | (refine CallF.pure (c2) rfl ?_) | (refine CallF.lent (c2) rfl ?_) | (refine CallE.own (c2) ?_) | (refine CallH.pure (c2) rfl ?_) | (refine CallH.lent (c2) rfl ?_) | (refine CallH.own (c2) ?_)
      all_goals apply hr
      all_goals simp [Try.f40]
      all_goals rw [List.take_of_length_le (by omega), e1]
    · rw [if_neg (by rintro (h | h); exact o1 h; exact o2 h)]
      refine wBody Try.tab Try.mixed Try.func40 rfl rfl Try.ntmps40 (by simp) (by simp) fun Q hr hn => ?_
      repeat' first | (refine hK _ ?_; clear hK) | (refine hK _ _ ?_; clear hK) | (clear hK; refine hK _ ?_; clear hK) | (clear hK; clear hK; refine hK _ ?_; clear hK) | (clear hK; clear hK; clear hK; refine hK _ ?_; clear hK) | (clear hK; clear hK; clear hK; clear hK; refine hK _ ?_; clear hK) | (refine wSeq fun K hK => ?_) | ((first | refine wReg ?_ | refine wDrwQ rfl (by kernel_rfl) ?_ | refine wDrwI ?_ | refine wDrw (by kernel_rfl) ?_); simp only [List.map_cons, List.map_nil, strip]) | ((first | refine wIs fun K hK => ?_ | refine wOs fun K hK => ?_ | refine wQs fun K hK => ?_ | refine CallK_plain ?_ | refine CallQ_plain ?_ | refine CallR_plain ?_ | refine wCond ?_); simp [hcl, hzl, w1, w2, w2', n0, n1, n2, n3, n4, n5, e1, e2, o2, hl1]) | (refine wIn ?_; refine And.intro (by kernel_rfl) ?_; try simp only [thenA_n]) | (first | refine wBlock ?_ | refine wScope ?_) | ((first | refine wRet ?_ | refine wExit ?_ | refine wSkip ?_); try simp) | ((first | refine wLabel ?_ | refine wOn ?_ | refine wQn ?_); try simp only [thenA_n]) | (refine CallE.pure (c1) rfl ?_) | (refine CallE.lent (c1) rfl ?_) | (refine CallF.pure (c1) rfl ?_) | (refine CallF.lent (c1) rfl ?_) | (refine CallE.own (c1) ?_) | (refine CallH.pure (c1) rfl ?_) | (refine CallH.lent (c1) rfl ?_) | (refine CallH.own (c1) ?_) | (refine CallE.pure (c2) rfl ?_) | (refine CallE.lent (c2) rfl ?_) | (refine CallF.pure (c2) rfl ?_) | (refine CallF.lent (c2) rfl ?_) | (refine CallE.own (c2) ?_) | (refine CallH.pure (c2) rfl ?_) | (refine CallH.lent (c2) rfl ?_) | (refine CallH.own (c2) ?_)
      all_goals apply hr
      all_goals simp [Try.f40]
      all_goals rw [List.take_of_length_le (by omega), e2]
end Go.Proofs.Ytnfcbkageifmfaa

/- Histories: up to where they are committed, by the document. -/
namespace Go.Proofs.Ytnfcbkageifmfaa
set_option linter.unusedSimpArgs false
set_option linter.unusedVariables false
open Go Go.Av
attribute [local simp] Try.T1 Try.T2 Try.T3 Try.T4 Try.T5 Try.T9 Try.T12 Try.T15 Try.T16 Try.T17 Try.T21 Try.T22 Try.T23 Try.T25 Try.T27 Try.T29 Try.T30 Try.T31 Try.T32 Try.T33 Try.T35 Try.T37 Try.T38 Try.T40 Try.T41 Try.T42 Try.T43 Try.T44 Try.T45 Try.T46 Try.T47 Try.T48 Try.T49 Try.T50 Try.T51 Try.T52 Try.T53 Try.T54 Try.T56 Try.T57 Try.T58 Try.T59 Try.T60 Try.T61 Try.T62 Try.T64 Try.T66 Try.T67 Try.T68 Try.T69 Try.T71 Try.T72 Try.T73 Try.T74 Try.T75 Try.T76 Try.T77 Try.T78 Try.T79 Try.T80 Try.T81 Try.T82 Try.T83 Try.T84 Try.T85 Try.T86 Try.T87 Try.T88 Try.T89 Try.T90 Try.T91 Try.T92 Try.T93 Try.T94 Try.T95 Try.T97 Try.T98 Try.T99 Try.T100 Try.T101 Try.T102 Try.T103 Try.T104 Try.T105 Try.T106 Try.T107 Try.T108 Try.T109 Try.T110 Try.T111 Try.T112 Try.T113 Try.T114 Try.T115 Try.T116 Try.T117 Try.T120 Try.T123 Try.T124 Try.T127 Try.T128
attribute [local irreducible] Go.Av.CallK Go.Av.CallE Go.Av.CallQ Go.Av.CallF Go.Av.CallR Go.Av.CallH Go.Av.Con
set_option maxHeartbeats 8000000 in
theorem commit19_con (h : Hy) (de dn self : Int) (l : List Lr) (hk : OkH h) (hl : l.length ≤ 100000) : ACon Try.prog 17 [.p (.agg h.cells), .p (.agg [I de, I dn]), .p (I self), .p (.sl 8 (lrs l))] (.p (.agg [I (comF h self l h.lg 0 de dn).1, I (comF h self l h.lg 0 de dn).2])) := by
  have hlg := hk.lg
  have c0 := Own16_con h hk
  unfold Hy.cells at c0 ⊢
  refine wBody Try.tab Try.mixed Try.func17 rfl rfl Try.ntmps17 (by simp) (by simp) fun Q hr hn => ?_
  repeat' first | (refine hK _ ?_; clear hK) | (refine hK _ _ ?_; clear hK) | (clear hK; refine hK _ ?_; clear hK) | (clear hK; clear hK; refine hK _ ?_; clear hK) | (clear hK; clear hK; clear hK; refine hK _ ?_; clear hK) | (clear hK; clear hK; clear hK; clear hK; refine hK _ ?_; clear hK) | (refine wSeq fun K hK => ?_) | ((first | refine wReg ?_ | refine wDrwQ rfl (by kernel_rfl) ?_ | refine wDrwI ?_ | refine wDrw (by kernel_rfl) ?_); simp only [List.map_cons, List.map_nil, strip]) | ((first | refine wIs fun K hK => ?_ | refine wOs fun K hK => ?_ | refine wQs fun K hK => ?_ | refine CallK_plain ?_ | refine CallQ_plain ?_ | refine CallR_plain ?_ | refine wCond ?_); simp) | (refine wIn ?_; refine And.intro (by kernel_rfl) ?_; try simp only [thenA_n]) | (first | refine wBlock ?_ | refine wScope ?_) | ((first | refine wRet ?_ | refine wExit ?_ | refine wSkip ?_); try simp) | ((first | refine wLabel ?_ | refine wOn ?_ | refine wQn ?_); try simp only [thenA_n]) | (refine CallE.pure (c0) rfl ?_) | (refine CallE.lent (c0) rfl ?_) | (refine CallF.pure (c0) rfl ?_) | (refine CallF.lent (c0) rfl ?_) | (refine CallE.own (c0) ?_) | (refine CallH.pure (c0) rfl ?_) | (refine CallH.lent (c0) rfl ?_) | (refine CallH.own (c0) ?_)
  refine wLoop (fun N st => ∃ (k : Nat) (e n : Int), k + N = h.lg.length ∧ comF h self l (h.lg.drop k) k e n = comF h self l h.lg 0 de dn ∧ st.s 2 = .p (I self) ∧ st.s 3 = .p (.sl 8 (lrs l)) ∧ st.s 4 = .ptr 4 0 ∧ st.b 4 = some (.box 40 [.p (.sl 5 (zns h.im.ns)), .p (.sl 1 (ints h.im.ss)), .p (I h.im.nx), .p (I h.im.c.ep), .p (I h.im.c.n), .p (I h.im.c.kind), .p (.sl 4 (mbs h.im.c.ms)), .p (I h.im.ae), .p (I h.im.an), .p (.sl 8 (txns h.lg))]) ∧ st.s 9 = .ptr 9 0 ∧ st.b 9 = some (.box 25 [.p (I e), .p (I n)]) ∧ st.s 8 = .ptr 8 0 ∧ st.b 8 = some (.box 25 [.p (I 0), .p (I 0)]) ∧ st.s 18 = .p (I h.lg.length) ∧ st.s 19 = .p (I k)) h.lg.length ⟨0, de, dn, by simp⟩ fun K N st hL ⟨k, e, n, hkN, hi, g2, g3, g4, b4, gc, bc, g8, b8, gl, gk⟩ => ?_
  by_cases hlt : k < h.lg.length
  · have hlt' : (k : Int) < h.lg.length := by omega
    have hlt2 : k + 1 ≤ h.lg.length := by omega
    have h0k : (0 : Int) ≤ (k : Int) + 1 := by omega
    have hw := wrapS k _ hlt (by omega)
    have he := txns_get hlt
    have ht := txns_take' h.lg (k + 1)
    have c1 := cmp02_con h.lg[k].e h.lg[k].n e n
    rw [List.drop_eq_getElem_cons hlt] at hi
    simp only [comF] at hi
    by_cases o1 : zcmp h.lg[k].e h.lg[k].n e n ≤ 0
    · rw [if_pos o1] at hi
      repeat' first | (refine hK _ ?_; clear hK) | (refine hK _ _ ?_; clear hK) | (clear hK; refine hK _ ?_; clear hK) | (clear hK; clear hK; refine hK _ ?_; clear hK) | (clear hK; clear hK; clear hK; refine hK _ ?_; clear hK) | (clear hK; clear hK; clear hK; clear hK; refine hK _ ?_; clear hK) | (refine wSeq fun K hK => ?_) | ((first | refine wReg ?_ | refine wDrwQ rfl (by kernel_rfl) ?_ | refine wDrwI ?_ | refine wDrw (by kernel_rfl) ?_); simp only [List.map_cons, List.map_nil, strip]) | ((first | refine wIs fun K hK => ?_ | refine wOs fun K hK => ?_ | refine wQs fun K hK => ?_ | refine CallK_plain ?_ | refine CallQ_plain ?_ | refine CallR_plain ?_ | refine wCond ?_); simp [g2, g3, g4, b4, gc, bc, g8, b8, gl, gk, hlt, hlt', he, o1, hw, Tx.cells]) | (refine wIn ?_; refine And.intro (by kernel_rfl) ?_; try simp only [thenA_n]) | (first | refine wBlock ?_ | refine wScope ?_) | ((first | refine wRet ?_ | refine wExit ?_ | refine wSkip ?_); try simp) | ((first | refine wLabel ?_ | refine wOn ?_ | refine wQn ?_); try simp only [thenA_n]) | (refine CallE.pure (c1) rfl ?_) | (refine CallE.lent (c1) rfl ?_) | (refine CallF.pure (c1) rfl ?_) | (refine CallF.lent (c1) rfl ?_) | (refine CallE.own (c1) ?_) | (refine CallH.pure (c1) rfl ?_) | (refine CallH.lent (c1) rfl ?_) | (refine CallH.own (c1) ?_)
      refine hL _ (N - 1) (by omega) ⟨k + 1, e, n, by omega, hi, ?_⟩
      simp [g2, g3, g4, b4, gc, bc, g8, b8, gl, gk, hw]
    · rw [if_neg o1] at hi
      have hk2 : OkH ⟨h.im, h.lg.take (k + 1)⟩ := hk.take (k + 1)
      have c2 := needs16_con ⟨h.im, h.lg.take (k + 1)⟩ e n hk2
      have hcf := needs_ok hk2 e n
      rw [needs_take] at c2 hcf
      have c3 := set19_con self 4 h.lg[k].e h.lg[k].n l hl
      have c4 := all05_con (endN (nsOf h (h.lg.take (k + 1))) e n) (setS self 4 h.lg[k].e h.lg[k].n l) (by have := endN_len (nsOf h (h.lg.take (k + 1))) e n; omega) (fun c hc => by have := hcf c hc; omega)
      unfold Hy.cells at c2
      simp only at c2
      generalize endN (nsOf h (h.lg.take (k + 1))) e n = nd at c2 c4 hi
      generalize setS self 4 h.lg[k].e h.lg[k].n l = ss at c3 c4 hi
      by_cases o2 : allQ nd ss = true
      · rw [if_pos o2] at hi
        rw [o2] at c4
        repeat' first | (refine hK _ ?_; clear hK) | (refine hK _ _ ?_; clear hK) | (clear hK; refine hK _ ?_; clear hK) | (clear hK; clear hK; refine hK _ ?_; clear hK) | (clear hK; clear hK; clear hK; refine hK _ ?_; clear hK) | (clear hK; clear hK; clear hK; clear hK; refine hK _ ?_; clear hK) | (refine wSeq fun K hK => ?_) | ((first | refine wReg ?_ | refine wDrwQ rfl (by kernel_rfl) ?_ | refine wDrwI ?_ | refine wDrw (by kernel_rfl) ?_); simp only [List.map_cons, List.map_nil, strip]) | ((first | refine wIs fun K hK => ?_ | refine wOs fun K hK => ?_ | refine wQs fun K hK => ?_ | refine CallK_plain ?_ | refine CallQ_plain ?_ | refine CallR_plain ?_ | refine wCond ?_); simp [g2, g3, g4, b4, gc, bc, g8, b8, gl, gk, hlt, hlt', hlt2, h0k, he, o1, hw, ht, Tx.cells]) | (refine wIn ?_; refine And.intro (by kernel_rfl) ?_; try simp only [thenA_n]) | (first | refine wBlock ?_ | refine wScope ?_) | ((first | refine wRet ?_ | refine wExit ?_ | refine wSkip ?_); try simp) | ((first | refine wLabel ?_ | refine wOn ?_ | refine wQn ?_); try simp only [thenA_n]) | (refine CallE.pure (c1) rfl ?_) | (refine CallE.lent (c1) rfl ?_) | (refine CallF.pure (c1) rfl ?_) | (refine CallF.lent (c1) rfl ?_) | (refine CallE.own (c1) ?_) | (refine CallH.pure (c1) rfl ?_) | (refine CallH.lent (c1) rfl ?_) | (refine CallH.own (c1) ?_) | (refine CallE.pure (c2) rfl ?_) | (refine CallE.lent (c2) rfl ?_) | (refine CallF.pure (c2) rfl ?_) | (refine CallF.lent (c2) rfl ?_) | (refine CallE.own (c2) ?_) | (refine CallH.pure (c2) rfl ?_) | (refine CallH.lent (c2) rfl ?_) | (refine CallH.own (c2) ?_) | (refine CallE.pure (c3) rfl ?_) | (refine CallE.lent (c3) rfl ?_) | (refine CallF.pure (c3) rfl ?_) | (refine CallF.lent (c3) rfl ?_) | (refine CallE.own (c3) ?_) | (refine CallH.pure (c3) rfl ?_) | (refine CallH.lent (c3) rfl ?_) | (refine CallH.own (c3) ?_) | (refine CallE.pure (c4) rfl ?_) | (refine CallE.lent (c4) rfl ?_) | (refine CallF.pure (c4) rfl ?_) | (refine CallF.lent (c4) rfl ?_) | (refine CallE.own (c4) ?_) | (refine CallH.pure (c4) rfl ?_) | (refine CallH.lent (c4) rfl ?_) | (refine CallH.own (c4) ?_)
        refine hL _ (N - 1) (by omega) ⟨k + 1, _, _, by omega, hi, ?_⟩
        simp [g2, g3, g4, b4, gc, bc, g8, b8, gl, gk, hw]
      · rw [if_neg o2] at hi
        rw [← hi] at hr
        simp only [Bool.not_eq_true] at o2
        rw [o2] at c4
        repeat' first | (refine hK _ ?_; clear hK) | (refine hK _ _ ?_; clear hK) | (clear hK; refine hK _ ?_; clear hK) | (clear hK; clear hK; refine hK _ ?_; clear hK) | (clear hK; clear hK; clear hK; refine hK _ ?_; clear hK) | (clear hK; clear hK; clear hK; clear hK; refine hK _ ?_; clear hK) | (refine wSeq fun K hK => ?_) | ((first | refine wReg ?_ | refine wDrwQ rfl (by kernel_rfl) ?_ | refine wDrwI ?_ | refine wDrw (by kernel_rfl) ?_); simp only [List.map_cons, List.map_nil, strip]) | ((first | refine wIs fun K hK => ?_ | refine wOs fun K hK => ?_ | refine wQs fun K hK => ?_ | refine CallK_plain ?_ | refine CallQ_plain ?_ | refine CallR_plain ?_ | refine wCond ?_); simp [g2, g3, g4, b4, gc, bc, g8, b8, gl, gk, hlt, hlt', hlt2, h0k, he, o1, hw, ht, Tx.cells]) | (refine wIn ?_; refine And.intro (by kernel_rfl) ?_; try simp only [thenA_n]) | (first | refine wBlock ?_ | refine wScope ?_) | ((first | refine wRet ?_ | refine wExit ?_ | refine wSkip ?_); try simp) | ((first | refine wLabel ?_ | refine wOn ?_ | refine wQn ?_); try simp only [thenA_n]) | (refine CallE.pure (c1) rfl ?_) | (refine CallE.lent (c1) rfl ?_) | (refine CallF.pure (c1) rfl ?_) | (refine CallF.lent (c1) rfl ?_) | (refine CallE.own (c1) ?_) | (refine CallH.pure (c1) rfl ?_) | (refine CallH.lent (c1) rfl ?_) | (refine CallH.own (c1) ?_) | (refine CallE.pure (c2) rfl ?_) | (refine CallE.lent (c2) rfl ?_) | (refine CallF.pure (c2) rfl ?_) | (refine CallF.lent (c2) rfl ?_) | (refine CallE.own (c2) ?_) | (refine CallH.pure (c2) rfl ?_) | (refine CallH.lent (c2) rfl ?_) | (refine CallH.own (c2) ?_) | (refine CallE.pure (c3) rfl ?_) | (refine CallE.lent (c3) rfl ?_) | (refine CallF.pure (c3) rfl ?_) | (refine CallF.lent (c3) rfl ?_) | (refine CallE.own (c3) ?_) | (refine CallH.pure (c3) rfl ?_) | (refine CallH.lent (c3) rfl ?_) | (refine CallH.own (c3) ?_) | (refine CallE.pure (c4) rfl ?_) | (refine CallE.lent (c4) rfl ?_) | (refine CallF.pure (c4) rfl ?_) | (refine CallF.lent (c4) rfl ?_) | (refine CallE.own (c4) ?_) | (refine CallH.pure (c4) rfl ?_) | (refine CallH.lent (c4) rfl ?_) | (refine CallH.own (c4) ?_)
        all_goals apply hr
        all_goals simp [Try.f17, g8, b8, gc, bc]
  · have hlt' : ¬ (k : Int) < h.lg.length := by omega
    rw [List.drop_of_length_le (by omega)] at hi
    simp only [comF] at hi
    rw [← hi] at hr
    repeat' first | (refine hK _ ?_; clear hK) | (refine hK _ _ ?_; clear hK) | (clear hK; refine hK _ ?_; clear hK) | (clear hK; clear hK; refine hK _ ?_; clear hK) | (clear hK; clear hK; clear hK; refine hK _ ?_; clear hK) | (clear hK; clear hK; clear hK; clear hK; refine hK _ ?_; clear hK) | (refine wSeq fun K hK => ?_) | ((first | refine wReg ?_ | refine wDrwQ rfl (by kernel_rfl) ?_ | refine wDrwI ?_ | refine wDrw (by kernel_rfl) ?_); simp only [List.map_cons, List.map_nil, strip]) | ((first | refine wIs fun K hK => ?_ | refine wOs fun K hK => ?_ | refine wQs fun K hK => ?_ | refine CallK_plain ?_ | refine CallQ_plain ?_ | refine CallR_plain ?_ | refine wCond ?_); simp [g2, g3, g4, b4, gc, bc, g8, b8, gl, gk, hlt, hlt']) | (refine wIn ?_; refine And.intro (by kernel_rfl) ?_; try simp only [thenA_n]) | (first | refine wBlock ?_ | refine wScope ?_) | ((first | refine wRet ?_ | refine wExit ?_ | refine wSkip ?_); try simp) | ((first | refine wLabel ?_ | refine wOn ?_ | refine wQn ?_); try simp only [thenA_n])
    all_goals apply hr
    all_goals simp [Try.f17, g8, b8, gc, bc]
end Go.Proofs.Ytnfcbkageifmfaa

/- Histories: what of them is committed; the law AckCommits. -/
namespace Go.Proofs.Ytnfcbkageifmfaa
set_option linter.unusedSimpArgs false
set_option linter.unusedVariables false
open Go Go.Av
attribute [local simp] Try.T1 Try.T2 Try.T3 Try.T4 Try.T5 Try.T9 Try.T12 Try.T15 Try.T16 Try.T17 Try.T21 Try.T22 Try.T23 Try.T25 Try.T27 Try.T29 Try.T30 Try.T31 Try.T32 Try.T33 Try.T35 Try.T37 Try.T38 Try.T40 Try.T41 Try.T42 Try.T43 Try.T44 Try.T45 Try.T46 Try.T47 Try.T48 Try.T49 Try.T50 Try.T51 Try.T52 Try.T53 Try.T54 Try.T56 Try.T57 Try.T58 Try.T59 Try.T60 Try.T61 Try.T62 Try.T64 Try.T66 Try.T67 Try.T68 Try.T69 Try.T71 Try.T72 Try.T73 Try.T74 Try.T75 Try.T76 Try.T77 Try.T78 Try.T79 Try.T80 Try.T81 Try.T82 Try.T83 Try.T84 Try.T85 Try.T86 Try.T87 Try.T88 Try.T89 Try.T90 Try.T91 Try.T92 Try.T93 Try.T94 Try.T95 Try.T97 Try.T98 Try.T99 Try.T100 Try.T101 Try.T102 Try.T103 Try.T104 Try.T105 Try.T106 Try.T107 Try.T108 Try.T109 Try.T110 Try.T111 Try.T112 Try.T113 Try.T114 Try.T115 Try.T116 Try.T117 Try.T120 Try.T123 Try.T124 Try.T127 Try.T128
attribute [local irreducible] Go.Av.CallK Go.Av.CallE Go.Av.CallQ Go.Av.CallF Go.Av.CallR Go.Av.CallH Go.Av.Con
theorem ownPart_con (x : Pt) (hm : x.c.ms.length ≤ 1000) : ACon Try.prog 62 [.p (.agg x.cells)] (.p (.agg x.cells)) := by
  have c := ownConfig_con x.c.ep x.c.n x.c.kind (mbs x.c.ms) (by rw [mbs_len]; omega)
  unfold Pt.cells
  refine wBody Try.tab Try.mixed Try.func62 rfl rfl Try.ntmps62 (by simp) (by simp) fun Q hr hn => ?_
  repeat' first | (refine hK _ ?_; clear hK) | (refine hK _ _ ?_; clear hK) | (clear hK; refine hK _ ?_; clear hK) | (clear hK; clear hK; refine hK _ ?_; clear hK) | (clear hK; clear hK; clear hK; refine hK _ ?_; clear hK) | (clear hK; clear hK; clear hK; clear hK; refine hK _ ?_; clear hK) | (refine wSeq fun K hK => ?_) | ((first | refine wReg ?_ | refine wDrwQ rfl (by kernel_rfl) ?_ | refine wDrwI ?_ | refine wDrw (by kernel_rfl) ?_); simp only [List.map_cons, List.map_nil, strip]) | ((first | refine wIs fun K hK => ?_ | refine wOs fun K hK => ?_ | refine wQs fun K hK => ?_ | refine CallK_plain ?_ | refine CallQ_plain ?_ | refine CallR_plain ?_ | refine wCond ?_); simp) | (refine wIn ?_; refine And.intro (by kernel_rfl) ?_; try simp only [thenA_n]) | (first | refine wBlock ?_ | refine wScope ?_) | ((first | refine wRet ?_ | refine wExit ?_ | refine wSkip ?_); try simp) | ((first | refine wLabel ?_ | refine wOn ?_ | refine wQn ?_); try simp only [thenA_n]) | (refine CallE.pure (c) rfl ?_) | (refine CallE.lent (c) rfl ?_) | (refine CallF.pure (c) rfl ?_) | (refine CallF.lent (c) rfl ?_) | (refine CallE.own (c) ?_) | (refine CallH.pure (c) rfl ?_) | (refine CallH.lent (c) rfl ?_) | (refine CallH.own (c) ?_)
  all_goals apply hr
  all_goals simp [Try.f62]
theorem pts_set (l : List Pt) (k : Nat) (x : Pt) : (pts l).set k [I x.k, SB x.z.p, SB x.z.d, I x.z.v, I x.z.k, I x.z.o, I x.s, I x.c.ep, I x.c.n, I x.c.kind, .sl 4 (mbs x.c.ms)] = pts (l.set k x) := by simp [pts, Pt.cells, List.map_set]
def pt0 : Pt := ⟨0, ⟨[], [], 0, 0, 0⟩, 0, ⟨0, 0, 0, []⟩⟩
theorem pts_rep (n : Nat) : List.replicate n [I 0, SB [], SB [], I 0, I 0, I 0, I 0, I 0, I 0, I 0, .sl 4 []] = pts (List.replicate n pt0) := by simp [pts, pt0, Pt.cells, mbs]
set_option maxHeartbeats 1000000 in
theorem listPt_con (l : List Pt) (hl : l.length ≤ 1000) (hm : ∀ x ∈ l, x.c.ms.length ≤ 1000) : RCon 61 [.p (.sl 11 (pts l)), .p (.v (.func (.func 62) #[] #[]))] 66 11 (pts l) := by
  by_cases h0 : l.length = 0
  · obtain rfl := List.length_eq_zero_iff.1 h0
    refine wBodyR Try.tab Try.mixed Try.func61 rfl rfl Try.ntmps61 rfl (by simp) (by simp) fun Q hr hn => ?_
    repeat' first | (refine wRetG [.row 4 66 11] ?_) | (refine hK _ ?_; clear hK) | (refine hK _ _ ?_; clear hK) | (clear hK; refine hK _ ?_; clear hK) | (clear hK; clear hK; refine hK _ ?_; clear hK) | (clear hK; clear hK; clear hK; refine hK _ ?_; clear hK) | (clear hK; clear hK; clear hK; clear hK; refine hK _ ?_; clear hK) | (refine wSeq fun K hK => ?_) | ((first | refine wReg ?_ | refine wDrwQ rfl (by kernel_rfl) ?_ | refine wDrwI ?_ | refine wDrw (by kernel_rfl) ?_); simp only [List.map_cons, List.map_nil, strip]) | ((first | refine wIs fun K hK => ?_ | refine wOs fun K hK => ?_ | refine wQs fun K hK => ?_ | refine CallK_plain ?_ | refine CallQ_plain ?_ | refine CallR_plain ?_ | refine wCond ?_); simp [pts]) | (refine wIn ?_; refine And.intro (by kernel_rfl) ?_; try simp only [thenA_n]) | (first | refine wBlock ?_ | refine wScope ?_) | ((first | refine wRet ?_ | refine wExit ?_ | refine wSkip ?_); try simp) | ((first | refine wLabel ?_ | refine wOn ?_ | refine wQn ?_); try simp only [thenA_n])
    all_goals refine hr _ 4 (by simp) (by simp [pts]) (by omega)
  have h0' : ¬ (l.length : Int) = 0 := by omega
  refine wBodyR Try.tab Try.mixed Try.func61 rfl rfl Try.ntmps61 rfl (by simp) (by simp) fun Q hr hn => ?_
  repeat' first | (rw [if_pos ⟨by omega, by omega⟩]) | (refine hK _ ?_; clear hK) | (refine hK _ _ ?_; clear hK) | (clear hK; refine hK _ ?_; clear hK) | (clear hK; clear hK; refine hK _ ?_; clear hK) | (clear hK; clear hK; clear hK; refine hK _ ?_; clear hK) | (clear hK; clear hK; clear hK; clear hK; refine hK _ ?_; clear hK) | (refine wSeq fun K hK => ?_) | ((first | refine wReg ?_ | refine wDrwQ rfl (by kernel_rfl) ?_ | refine wDrwI ?_ | refine wDrw (by kernel_rfl) ?_); simp only [List.map_cons, List.map_nil, strip]) | ((first | refine wIs fun K hK => ?_ | refine wOs fun K hK => ?_ | refine wQs fun K hK => ?_ | refine CallK_plain ?_ | refine CallQ_plain ?_ | refine CallR_plain ?_ | refine wCond ?_); simp [h0, h0', pts_rep]) | (refine wIn ?_; refine And.intro (by kernel_rfl) ?_; try simp only [thenA_n]) | (first | refine wBlock ?_ | refine wScope ?_) | ((first | refine wRet ?_ | refine wExit ?_ | refine wSkip ?_); try simp) | ((first | refine wLabel ?_ | refine wOn ?_ | refine wQn ?_); try simp only [thenA_n])
  refine wLoop (fun N st => ∃ k zs, k + N = l.length ∧ zs.length = l.length ∧ zs.take k = l.take k ∧ st.s 1 = .p (.v (.func (.func 62) #[] #[])) ∧ st.s 5 = .row 13 ∧ st.s 14 = .p (.sl 11 (pts l)) ∧ st.s 15 = .p (I l.length) ∧ st.s 16 = .p (I k) ∧ st.b 13 = some (.row 66 11 (pts zs))) l.length ⟨0, List.replicate l.length pt0, by simp [pts_rep]⟩ fun K N st hL ⟨k, zs, hk, hz, hi, g1, g5, g14, g15, g16, b13⟩ => ?_
  by_cases hlt : k < l.length
  · have hlt' : (k : Int) < l.length := by omega
    have hltz : k < zs.length := by omega
    have hw := wrapS k _ hlt (by omega)
    have he := pts_get hlt
    have c := ownPart_con l[k] (hm _ (List.getElem_mem hlt))
    unfold Pt.cells at c
    have hs := pts_set zs k l[k]
    have hst := set_takeK zs k l[k] hltz
    rw [hi, ← List.take_succ_eq_append_getElem hlt] at hst
    repeat' first | (refine hK _ ?_; clear hK) | (refine hK _ _ ?_; clear hK) | (clear hK; refine hK _ ?_; clear hK) | (clear hK; clear hK; refine hK _ ?_; clear hK) | (clear hK; clear hK; clear hK; refine hK _ ?_; clear hK) | (clear hK; clear hK; clear hK; clear hK; refine hK _ ?_; clear hK) | (refine wSeq fun K hK => ?_) | ((first | refine wReg ?_ | refine wDrwQ rfl (by kernel_rfl) ?_ | refine wDrwI ?_ | refine wDrw (by kernel_rfl) ?_); simp only [List.map_cons, List.map_nil, strip]) | ((first | refine wIs fun K hK => ?_ | refine wOs fun K hK => ?_ | refine wQs fun K hK => ?_ | refine CallK_plain ?_ | refine CallQ_plain ?_ | refine CallR_plain ?_ | refine wCond ?_); simp [g1, g5, g14, g15, g16, b13, hlt, hlt', hltz, hw, he, hs, Pt.cells]) | (refine wIn ?_; refine And.intro (by kernel_rfl) ?_; try simp only [thenA_n]) | (first | refine wBlock ?_ | refine wScope ?_) | ((first | refine wRet ?_ | refine wExit ?_ | refine wSkip ?_); try simp) | ((first | refine wLabel ?_ | refine wOn ?_ | refine wQn ?_); try simp only [thenA_n]) | (refine CallE.pure (c) rfl ?_) | (refine CallE.lent (c) rfl ?_) | (refine CallF.pure (c) rfl ?_) | (refine CallF.lent (c) rfl ?_) | (refine CallE.own (c) ?_) | (refine CallH.pure (c) rfl ?_) | (refine CallH.lent (c) rfl ?_) | (refine CallH.own (c) ?_)
    refine hL _ (N - 1) (by omega) ⟨k + 1, zs.set k l[k], by omega, by simpa using hz, hst, ?_⟩
    simp [g1, g5, g14, g15, g16, b13, hw, hs]
  · have hlt' : ¬ (k : Int) < l.length := by omega
    rw [List.take_of_length_le (by omega), List.take_of_length_le (by omega)] at hi
    subst hi
    repeat' first | (refine hK _ ?_; clear hK) | (refine hK _ _ ?_; clear hK) | (clear hK; refine hK _ ?_; clear hK) | (clear hK; clear hK; refine hK _ ?_; clear hK) | (clear hK; clear hK; clear hK; refine hK _ ?_; clear hK) | (clear hK; clear hK; clear hK; clear hK; refine hK _ ?_; clear hK) | (refine wSeq fun K hK => ?_) | ((first | refine wReg ?_ | refine wDrwQ rfl (by kernel_rfl) ?_ | refine wDrwI ?_ | refine wDrw (by kernel_rfl) ?_); simp only [List.map_cons, List.map_nil, strip]) | ((first | refine wIs fun K hK => ?_ | refine wOs fun K hK => ?_ | refine wQs fun K hK => ?_ | refine CallK_plain ?_ | refine CallQ_plain ?_ | refine CallR_plain ?_ | refine wCond ?_); simp [g1, g5, g14, g15, g16, b13, hlt, hlt']) | (refine wIn ?_; refine And.intro (by kernel_rfl) ?_; try simp only [thenA_n]) | (first | refine wBlock ?_ | refine wScope ?_) | ((first | refine wRet ?_ | refine wExit ?_ | refine wSkip ?_); try simp) | ((first | refine wLabel ?_ | refine wOn ?_ | refine wQn ?_); try simp only [thenA_n])
    all_goals refine hr _ 13 (by simp [g5]) (by simp [b13]) (by omega)
theorem ownTxn_con (t : Tx) (hl : t.ps.length ≤ 1000) (hm : ∀ x ∈ t.ps, x.c.ms.length ≤ 1000) : ACon Try.prog 43 [.p (.agg t.cells)] (.p (.agg t.cells)) := by
  have c := listPt_con t.ps hl hm
  unfold Tx.cells
  refine wBody Try.tab Try.mixed Try.func43 rfl rfl Try.ntmps43 (by simp) (by simp) fun Q hr hn => ?_
  repeat' first | (refine hK _ ?_; clear hK) | (refine hK _ _ ?_; clear hK) | (clear hK; refine hK _ ?_; clear hK) | (clear hK; clear hK; refine hK _ ?_; clear hK) | (clear hK; clear hK; clear hK; refine hK _ ?_; clear hK) | (clear hK; clear hK; clear hK; clear hK; refine hK _ ?_; clear hK) | (refine wSeq fun K hK => ?_) | ((first | refine wReg ?_ | refine wDrwQ rfl (by kernel_rfl) ?_ | refine wDrwI ?_ | refine wDrw (by kernel_rfl) ?_); simp only [List.map_cons, List.map_nil, strip]) | ((first | refine wIs fun K hK => ?_ | refine wOs fun K hK => ?_ | refine wQs fun K hK => ?_ | refine CallK_plain ?_ | refine CallQ_plain ?_ | refine CallR_plain ?_ | refine wCond ?_); simp) | (refine wIn ?_; refine And.intro (by kernel_rfl) ?_; try simp only [thenA_n]) | (first | refine wBlock ?_ | refine wScope ?_) | ((first | refine wRet ?_ | refine wExit ?_ | refine wSkip ?_); try simp) | ((first | refine wLabel ?_ | refine wOn ?_ | refine wQn ?_); try simp only [thenA_n]) | (refine CallE.pure (c) rfl ?_) | (refine CallE.lent (c) rfl ?_) | (refine CallF.pure (c) rfl ?_) | (refine CallF.lent (c) rfl ?_) | (refine CallE.own (c) ?_) | (refine CallH.pure (c) rfl ?_) | (refine CallH.lent (c) rfl ?_) | (refine CallH.own (c) ?_)
  all_goals apply hr
  all_goals simp [Try.f43]
def comd (fe fn te tn : Int) (l : List Tx) : List Tx := l.filter fun t => decide (0 < zcmp t.e t.n fe fn ∧ zcmp t.e t.n te tn ≤ 0)
theorem comd_snoc (fe fn te tn : Int) {l : List Tx} {k : Nat} (h : k < l.length) : comd fe fn te tn (l.take (k + 1)) = if 0 < zcmp l[k].e l[k].n fe fn ∧ zcmp l[k].e l[k].n te tn ≤ 0 then comd fe fn te tn (l.take k) ++ [l[k]] else comd fe fn te tn (l.take k) := by
  rw [List.take_succ_eq_append_getElem h]
  unfold comd
  rw [List.filter_append]
  by_cases g : 0 < zcmp l[k].e l[k].n fe fn ∧ zcmp l[k].e l[k].n te tn ≤ 0
  · rw [if_pos g, List.filter_cons, if_pos (decide_eq_true g)]; simp
  · rw [if_neg g, List.filter_cons, if_neg (by simpa using g)]; simp
theorem comd_len (fe fn te tn : Int) (l : List Tx) : (comd fe fn te tn l).length ≤ l.length := List.length_filter_le _ _
set_option maxHeartbeats 4000000 in
theorem committed_con (h : Hy) (fe fn te tn : Int) (hk : OkH h) : ACon Try.prog 19 [.p (.agg h.cells), .p (.agg [I fe, I fn]), .p (.agg [I te, I tn])] (.p (.sl 8 (txns (comd fe fn te tn h.lg)))) := by
  have hlg := hk.lg
  unfold Hy.cells
  refine wBody Try.tab Try.mixed Try.func19 rfl rfl Try.ntmps19 (by simp) (by simp) fun Q hr hn => ?_
  repeat' first | (refine hK _ ?_; clear hK) | (refine hK _ _ ?_; clear hK) | (clear hK; refine hK _ ?_; clear hK) | (clear hK; clear hK; refine hK _ ?_; clear hK) | (clear hK; clear hK; clear hK; refine hK _ ?_; clear hK) | (clear hK; clear hK; clear hK; clear hK; refine hK _ ?_; clear hK) | (refine wSeq fun K hK => ?_) | ((first | refine wReg ?_ | refine wDrwQ rfl (by kernel_rfl) ?_ | refine wDrwI ?_ | refine wDrw (by kernel_rfl) ?_); simp only [List.map_cons, List.map_nil, strip]) | ((first | refine wIs fun K hK => ?_ | refine wOs fun K hK => ?_ | refine wQs fun K hK => ?_ | refine CallK_plain ?_ | refine CallQ_plain ?_ | refine CallR_plain ?_ | refine wCond ?_); simp) | (refine wIn ?_; refine And.intro (by kernel_rfl) ?_; try simp only [thenA_n]) | (first | refine wBlock ?_ | refine wScope ?_) | ((first | refine wRet ?_ | refine wExit ?_ | refine wSkip ?_); try simp) | ((first | refine wLabel ?_ | refine wOn ?_ | refine wQn ?_); try simp only [thenA_n])
  refine wLoopG [.row 7 56 8] (fun N st => ∃ (k : Nat), k + N = h.lg.length ∧ st.s 4 = .ptr 4 0 ∧ st.b 4 = some (.box 25 [.p (I fe), .p (I fn)]) ∧ st.s 5 = .ptr 5 0 ∧ st.b 5 = some (.box 25 [.p (I te), .p (I tn)]) ∧ st.s 7 = .row 7 ∧ st.b 7 = some (.row 56 8 (txns (comd fe fn te tn (h.lg.take k)))) ∧ st.s 11 = .p (.sl 8 (txns h.lg)) ∧ st.s 12 = .p (I h.lg.length) ∧ st.s 13 = .p (I k)) h.lg.length ⟨0, by simp [frzL, gh1, comd, txns]⟩ fun K N st hL ⟨k, hkN, g4, b4, g5, b5, g7, b7, gs, gl, gk⟩ => ?_
  by_cases hlt : k < h.lg.length
  · have hlt' : (k : Int) < h.lg.length := by omega
    have hw := wrapS k _ hlt (by omega)
    have he := txns_get hlt
    have c1 := cmp_con h.lg[k].e h.lg[k].n fe fn
    have c2 := cmp_con h.lg[k].e h.lg[k].n te tn
    have hsn := comd_snoc fe fn te tn hlt
    have hcl := comd_len fe fn te tn (h.lg.take k)
    rw [List.length_take] at hcl
    obtain ⟨hp1, hp2⟩ := hk.ps _ (List.getElem_mem hlt)
    have c3 := ownTxn_con h.lg[k] hp1 hp2
    unfold Tx.cells at c3
    have s1 := txns_snoc (comd fe fn te tn (h.lg.take k)) h.lg[k]
    by_cases o1 : 0 < zcmp h.lg[k].e h.lg[k].n fe fn
    · by_cases o2 : zcmp h.lg[k].e h.lg[k].n te tn ≤ 0
      · rw [if_pos ⟨o1, o2⟩] at hsn
        generalize comd fe fn te tn (h.lg.take k) = q at *
        have hql := txns_len q
        repeat' first | (refine And.intro (by (try simp only [hql, List.length_cons, List.length_nil]); omega) ?_) | (refine hK _ ?_; clear hK) | (refine hK _ _ ?_; clear hK) | (clear hK; refine hK _ ?_; clear hK) | (clear hK; clear hK; refine hK _ ?_; clear hK) | (clear hK; clear hK; clear hK; refine hK _ ?_; clear hK) | (clear hK; clear hK; clear hK; clear hK; refine hK _ ?_; clear hK) | (refine wSeq fun K hK => ?_) | ((first | refine wReg ?_ | refine wDrwQ rfl (by kernel_rfl) ?_ | refine wDrwI ?_ | refine wDrw (by kernel_rfl) ?_); simp only [List.map_cons, List.map_nil, strip]) | ((first | refine wIs fun K hK => ?_ | refine wOs fun K hK => ?_ | refine wQs fun K hK => ?_ | refine CallK_plain ?_ | refine CallQ_plain ?_ | refine CallR_plain ?_ | refine wCond ?_); simp [g4, b4, g5, b5, g7, b7, gs, gl, gk, hlt, hlt', hw, he, o1, o2, s1]) | (refine wIn ?_; refine And.intro (by kernel_rfl) ?_; try simp only [thenA_n]) | (first | refine wBlock ?_ | refine wScope ?_) | ((first | refine wRet ?_ | refine wExit ?_ | refine wSkip ?_); try simp) | ((first | refine wLabel ?_ | refine wOn ?_ | refine wQn ?_); try simp only [thenA_n]) | (refine CallE.pure (c1) rfl ?_) | (refine CallE.lent (c1) rfl ?_) | (refine CallF.pure (c1) rfl ?_) | (refine CallF.lent (c1) rfl ?_) | (refine CallE.own (c1) ?_) | (refine CallH.pure (c1) rfl ?_) | (refine CallH.lent (c1) rfl ?_) | (refine CallH.own (c1) ?_) | (refine CallE.pure (c2) rfl ?_) | (refine CallE.lent (c2) rfl ?_) | (refine CallF.pure (c2) rfl ?_) | (refine CallF.lent (c2) rfl ?_) | (refine CallE.own (c2) ?_) | (refine CallH.pure (c2) rfl ?_) | (refine CallH.lent (c2) rfl ?_) | (refine CallH.own (c2) ?_) | (refine CallE.pure (c3) rfl ?_) | (refine CallE.lent (c3) rfl ?_) | (refine CallF.pure (c3) rfl ?_) | (refine CallF.lent (c3) rfl ?_) | (refine CallE.own (c3) ?_) | (refine CallH.pure (c3) rfl ?_) | (refine CallH.lent (c3) rfl ?_) | (refine CallH.own (c3) ?_)
        refine hL _ (N - 1) (by omega) ⟨k + 1, by omega, ?_⟩
        simp [g4, b4, g5, b5, g7, b7, gs, gl, gk, hw, hsn, s1]
      · rw [if_neg (fun h => o2 h.2)] at hsn
        repeat' first | (refine hK _ ?_; clear hK) | (refine hK _ _ ?_; clear hK) | (clear hK; refine hK _ ?_; clear hK) | (clear hK; clear hK; refine hK _ ?_; clear hK) | (clear hK; clear hK; clear hK; refine hK _ ?_; clear hK) | (clear hK; clear hK; clear hK; clear hK; refine hK _ ?_; clear hK) | (refine wSeq fun K hK => ?_) | ((first | refine wReg ?_ | refine wDrwQ rfl (by kernel_rfl) ?_ | refine wDrwI ?_ | refine wDrw (by kernel_rfl) ?_); simp only [List.map_cons, List.map_nil, strip]) | ((first | refine wIs fun K hK => ?_ | refine wOs fun K hK => ?_ | refine wQs fun K hK => ?_ | refine CallK_plain ?_ | refine CallQ_plain ?_ | refine CallR_plain ?_ | refine wCond ?_); simp [g4, b4, g5, b5, g7, b7, gs, gl, gk, hlt, hlt', hw, he, o1, o2]) | (refine wIn ?_; refine And.intro (by kernel_rfl) ?_; try simp only [thenA_n]) | (first | refine wBlock ?_ | refine wScope ?_) | ((first | refine wRet ?_ | refine wExit ?_ | refine wSkip ?_); try simp) | ((first | refine wLabel ?_ | refine wOn ?_ | refine wQn ?_); try simp only [thenA_n]) | (refine CallE.pure (c1) rfl ?_) | (refine CallE.lent (c1) rfl ?_) | (refine CallF.pure (c1) rfl ?_) | (refine CallF.lent (c1) rfl ?_) | (refine CallE.own (c1) ?_) | (refine CallH.pure (c1) rfl ?_) | (refine CallH.lent (c1) rfl ?_) | (refine CallH.own (c1) ?_) | (refine CallE.pure (c2) rfl ?_) | (refine CallE.lent (c2) rfl ?_) | (refine CallF.pure (c2) rfl ?_) | (refine CallF.lent (c2) rfl ?_) | (refine CallE.own (c2) ?_) | (refine CallH.pure (c2) rfl ?_) | (refine CallH.lent (c2) rfl ?_) | (refine CallH.own (c2) ?_)
        refine hL _ (N - 1) (by omega) ⟨k + 1, by omega, ?_⟩
        simp [g4, b4, g5, b5, g7, b7, gs, gl, gk, hw, hsn]
    · rw [if_neg (fun h => o1 h.1)] at hsn
      repeat' first | (refine hK _ ?_; clear hK) | (refine hK _ _ ?_; clear hK) | (clear hK; refine hK _ ?_; clear hK) | (clear hK; clear hK; refine hK _ ?_; clear hK) | (clear hK; clear hK; clear hK; refine hK _ ?_; clear hK) | (clear hK; clear hK; clear hK; clear hK; refine hK _ ?_; clear hK) | (refine wSeq fun K hK => ?_) | ((first | refine wReg ?_ | refine wDrwQ rfl (by kernel_rfl) ?_ | refine wDrwI ?_ | refine wDrw (by kernel_rfl) ?_); simp only [List.map_cons, List.map_nil, strip]) | ((first | refine wIs fun K hK => ?_ | refine wOs fun K hK => ?_ | refine wQs fun K hK => ?_ | refine CallK_plain ?_ | refine CallQ_plain ?_ | refine CallR_plain ?_ | refine wCond ?_); simp [g4, b4, g5, b5, g7, b7, gs, gl, gk, hlt, hlt', hw, he, o1]) | (refine wIn ?_; refine And.intro (by kernel_rfl) ?_; try simp only [thenA_n]) | (first | refine wBlock ?_ | refine wScope ?_) | ((first | refine wRet ?_ | refine wExit ?_ | refine wSkip ?_); try simp) | ((first | refine wLabel ?_ | refine wOn ?_ | refine wQn ?_); try simp only [thenA_n]) | (refine CallE.pure (c1) rfl ?_) | (refine CallE.lent (c1) rfl ?_) | (refine CallF.pure (c1) rfl ?_) | (refine CallF.lent (c1) rfl ?_) | (refine CallE.own (c1) ?_) | (refine CallH.pure (c1) rfl ?_) | (refine CallH.lent (c1) rfl ?_) | (refine CallH.own (c1) ?_)
      refine hL _ (N - 1) (by omega) ⟨k + 1, by omega, ?_⟩
      simp [g4, b4, g5, b5, g7, b7, gs, gl, gk, hw, hsn]
  · have hlt' : ¬ (k : Int) < h.lg.length := by omega
    rw [List.take_of_length_le (by omega)] at b7
    repeat' first | (refine hK _ ?_; clear hK) | (refine hK _ _ ?_; clear hK) | (clear hK; refine hK _ ?_; clear hK) | (clear hK; clear hK; refine hK _ ?_; clear hK) | (clear hK; clear hK; clear hK; refine hK _ ?_; clear hK) | (clear hK; clear hK; clear hK; clear hK; refine hK _ ?_; clear hK) | (refine wSeq fun K hK => ?_) | ((first | refine wReg ?_ | refine wDrwQ rfl (by kernel_rfl) ?_ | refine wDrwI ?_ | refine wDrw (by kernel_rfl) ?_); simp only [List.map_cons, List.map_nil, strip]) | ((first | refine wIs fun K hK => ?_ | refine wOs fun K hK => ?_ | refine wQs fun K hK => ?_ | refine CallK_plain ?_ | refine CallQ_plain ?_ | refine CallR_plain ?_ | refine wCond ?_); simp [g4, b4, g5, b5, g7, b7, gs, gl, gk, hlt, hlt']) | (refine wIn ?_; refine And.intro (by kernel_rfl) ?_; try simp only [thenA_n]) | (first | refine wBlock ?_ | refine wScope ?_) | ((first | refine wRet ?_ | refine wExit ?_ | refine wSkip ?_); try simp) | ((first | refine wLabel ?_ | refine wOn ?_ | refine wQn ?_); try simp only [thenA_n])
    all_goals apply hr
    all_goals simp [Try.f19, g7, b7]
set_option maxHeartbeats 4000000 in
theorem committed19_con (h : Hy) (fe fn te tn : Int) (hk : OkH h) : ACon Try.prog 20 [.p (.agg h.cells), .p (.agg [I fe, I fn]), .p (.agg [I te, I tn])] (.p (.sl 8 (txns (comd fe fn te tn h.lg)))) := by
  have hlg := hk.lg
  have c0 := Own16_con h hk
  unfold Hy.cells at c0 ⊢
  refine wBody Try.tab Try.mixed Try.func20 rfl rfl Try.ntmps20 (by simp) (by simp) fun Q hr hn => ?_
  repeat' first | (refine hK _ ?_; clear hK) | (refine hK _ _ ?_; clear hK) | (clear hK; refine hK _ ?_; clear hK) | (clear hK; clear hK; refine hK _ ?_; clear hK) | (clear hK; clear hK; clear hK; refine hK _ ?_; clear hK) | (clear hK; clear hK; clear hK; clear hK; refine hK _ ?_; clear hK) | (refine wSeq fun K hK => ?_) | ((first | refine wReg ?_ | refine wDrwQ rfl (by kernel_rfl) ?_ | refine wDrwI ?_ | refine wDrw (by kernel_rfl) ?_); simp only [List.map_cons, List.map_nil, strip]) | ((first | refine wIs fun K hK => ?_ | refine wOs fun K hK => ?_ | refine wQs fun K hK => ?_ | refine CallK_plain ?_ | refine CallQ_plain ?_ | refine CallR_plain ?_ | refine wCond ?_); simp) | (refine wIn ?_; refine And.intro (by kernel_rfl) ?_; try simp only [thenA_n]) | (first | refine wBlock ?_ | refine wScope ?_) | ((first | refine wRet ?_ | refine wExit ?_ | refine wSkip ?_); try simp) | ((first | refine wLabel ?_ | refine wOn ?_ | refine wQn ?_); try simp only [thenA_n]) | (refine CallE.pure (c0) rfl ?_) | (refine CallE.lent (c0) rfl ?_) | (refine CallF.pure (c0) rfl ?_) | (refine CallF.lent (c0) rfl ?_) | (refine CallE.own (c0) ?_) | (refine CallH.pure (c0) rfl ?_) | (refine CallH.lent (c0) rfl ?_) | (refine CallH.own (c0) ?_)
  refine wLoopG [.row 7 56 8] (fun N st => ∃ (k : Nat), k + N = h.lg.length ∧ st.s 4 = .ptr 4 0 ∧ st.b 4 = some (.box 25 [.p (I fe), .p (I fn)]) ∧ st.s 5 = .ptr 5 0 ∧ st.b 5 = some (.box 25 [.p (I te), .p (I tn)]) ∧ st.s 7 = .row 7 ∧ st.b 7 = some (.row 56 8 (txns (comd fe fn te tn (h.lg.take k)))) ∧ st.s 13 = .p (.sl 8 (txns h.lg)) ∧ st.s 14 = .p (I h.lg.length) ∧ st.s 15 = .p (I k)) h.lg.length ⟨0, by simp [frzL, gh1, comd, txns]⟩ fun K N st hL ⟨k, hkN, g4, b4, g5, b5, g7, b7, gs, gl, gk⟩ => ?_
  by_cases hlt : k < h.lg.length
  · have hlt' : (k : Int) < h.lg.length := by omega
    have hw := wrapS k _ hlt (by omega)
    have he := txns_get hlt
    have c1 := cmp02_con h.lg[k].e h.lg[k].n fe fn
    have c2 := cmp02_con h.lg[k].e h.lg[k].n te tn
    have hsn := comd_snoc fe fn te tn hlt
    have hcl := comd_len fe fn te tn (h.lg.take k)
    rw [List.length_take] at hcl
    obtain ⟨hp1, hp2⟩ := hk.ps _ (List.getElem_mem hlt)
    have s1 := txns_snoc (comd fe fn te tn (h.lg.take k)) h.lg[k]
    by_cases o1 : 0 < zcmp h.lg[k].e h.lg[k].n fe fn
    · by_cases o2 : zcmp h.lg[k].e h.lg[k].n te tn ≤ 0
      · rw [if_pos ⟨o1, o2⟩] at hsn
        generalize comd fe fn te tn (h.lg.take k) = q at *
        have hql := txns_len q
        repeat' first | (refine And.intro (by (try simp only [hql, List.length_cons, List.length_nil]); omega) ?_) | (refine hK _ ?_; clear hK) | (refine hK _ _ ?_; clear hK) | (clear hK; refine hK _ ?_; clear hK) | (clear hK; clear hK; refine hK _ ?_; clear hK) | (clear hK; clear hK; clear hK; refine hK _ ?_; clear hK) | (clear hK; clear hK; clear hK; clear hK; refine hK _ ?_; clear hK) | (refine wSeq fun K hK => ?_) | ((first | refine wReg ?_ | refine wDrwQ rfl (by kernel_rfl) ?_ | refine wDrwI ?_ | refine wDrw (by kernel_rfl) ?_); simp only [List.map_cons, List.map_nil, strip]) | ((first | refine wIs fun K hK => ?_ | refine wOs fun K hK => ?_ | refine wQs fun K hK => ?_ | refine CallK_plain ?_ | refine CallQ_plain ?_ | refine CallR_plain ?_ | refine wCond ?_); simp [g4, b4, g5, b5, g7, b7, gs, gl, gk, hlt, hlt', hw, he, o1, o2, s1]) | (refine wIn ?_; refine And.intro (by kernel_rfl) ?_; try simp only [thenA_n]) | (first | refine wBlock ?_ | refine wScope ?_) | ((first | refine wRet ?_ | refine wExit ?_ | refine wSkip ?_); try simp) | ((first | refine wLabel ?_ | refine wOn ?_ | refine wQn ?_); try simp only [thenA_n]) | (refine CallE.pure (c1) rfl ?_) | (refine CallE.lent (c1) rfl ?_) | (refine CallF.pure (c1) rfl ?_) | (refine CallF.lent (c1) rfl ?_) | (refine CallE.own (c1) ?_) | (refine CallH.pure (c1) rfl ?_) | (refine CallH.lent (c1) rfl ?_) | (refine CallH.own (c1) ?_) | (refine CallE.pure (c2) rfl ?_) | (refine CallE.lent (c2) rfl ?_) | (refine CallF.pure (c2) rfl ?_) | (refine CallF.lent (c2) rfl ?_) | (refine CallE.own (c2) ?_) | (refine CallH.pure (c2) rfl ?_) | (refine CallH.lent (c2) rfl ?_) | (refine CallH.own (c2) ?_)
        refine hL _ (N - 1) (by omega) ⟨k + 1, by omega, ?_⟩
        simp [g4, b4, g5, b5, g7, b7, gs, gl, gk, hw, hsn, s1]
      · rw [if_neg (fun h => o2 h.2)] at hsn
        repeat' first | (refine hK _ ?_; clear hK) | (refine hK _ _ ?_; clear hK) | (clear hK; refine hK _ ?_; clear hK) | (clear hK; clear hK; refine hK _ ?_; clear hK) | (clear hK; clear hK; clear hK; refine hK _ ?_; clear hK) | (clear hK; clear hK; clear hK; clear hK; refine hK _ ?_; clear hK) | (refine wSeq fun K hK => ?_) | ((first | refine wReg ?_ | refine wDrwQ rfl (by kernel_rfl) ?_ | refine wDrwI ?_ | refine wDrw (by kernel_rfl) ?_); simp only [List.map_cons, List.map_nil, strip]) | ((first | refine wIs fun K hK => ?_ | refine wOs fun K hK => ?_ | refine wQs fun K hK => ?_ | refine CallK_plain ?_ | refine CallQ_plain ?_ | refine CallR_plain ?_ | refine wCond ?_); simp [g4, b4, g5, b5, g7, b7, gs, gl, gk, hlt, hlt', hw, he, o1, o2]) | (refine wIn ?_; refine And.intro (by kernel_rfl) ?_; try simp only [thenA_n]) | (first | refine wBlock ?_ | refine wScope ?_) | ((first | refine wRet ?_ | refine wExit ?_ | refine wSkip ?_); try simp) | ((first | refine wLabel ?_ | refine wOn ?_ | refine wQn ?_); try simp only [thenA_n]) | (refine CallE.pure (c1) rfl ?_) | (refine CallE.lent (c1) rfl ?_) | (refine CallF.pure (c1) rfl ?_) | (refine CallF.lent (c1) rfl ?_) | (refine CallE.own (c1) ?_) | (refine CallH.pure (c1) rfl ?_) | (refine CallH.lent (c1) rfl ?_) | (refine CallH.own (c1) ?_) | (refine CallE.pure (c2) rfl ?_) | (refine CallE.lent (c2) rfl ?_) | (refine CallF.pure (c2) rfl ?_) | (refine CallF.lent (c2) rfl ?_) | (refine CallE.own (c2) ?_) | (refine CallH.pure (c2) rfl ?_) | (refine CallH.lent (c2) rfl ?_) | (refine CallH.own (c2) ?_)
        refine hL _ (N - 1) (by omega) ⟨k + 1, by omega, ?_⟩
        simp [g4, b4, g5, b5, g7, b7, gs, gl, gk, hw, hsn]
    · rw [if_neg (fun h => o1 h.1)] at hsn
      repeat' first | (refine hK _ ?_; clear hK) | (refine hK _ _ ?_; clear hK) | (clear hK; refine hK _ ?_; clear hK) | (clear hK; clear hK; refine hK _ ?_; clear hK) | (clear hK; clear hK; clear hK; refine hK _ ?_; clear hK) | (clear hK; clear hK; clear hK; clear hK; refine hK _ ?_; clear hK) | (refine wSeq fun K hK => ?_) | ((first | refine wReg ?_ | refine wDrwQ rfl (by kernel_rfl) ?_ | refine wDrwI ?_ | refine wDrw (by kernel_rfl) ?_); simp only [List.map_cons, List.map_nil, strip]) | ((first | refine wIs fun K hK => ?_ | refine wOs fun K hK => ?_ | refine wQs fun K hK => ?_ | refine CallK_plain ?_ | refine CallQ_plain ?_ | refine CallR_plain ?_ | refine wCond ?_); simp [g4, b4, g5, b5, g7, b7, gs, gl, gk, hlt, hlt', hw, he, o1]) | (refine wIn ?_; refine And.intro (by kernel_rfl) ?_; try simp only [thenA_n]) | (first | refine wBlock ?_ | refine wScope ?_) | ((first | refine wRet ?_ | refine wExit ?_ | refine wSkip ?_); try simp) | ((first | refine wLabel ?_ | refine wOn ?_ | refine wQn ?_); try simp only [thenA_n]) | (refine CallE.pure (c1) rfl ?_) | (refine CallE.lent (c1) rfl ?_) | (refine CallF.pure (c1) rfl ?_) | (refine CallF.lent (c1) rfl ?_) | (refine CallE.own (c1) ?_) | (refine CallH.pure (c1) rfl ?_) | (refine CallH.lent (c1) rfl ?_) | (refine CallH.own (c1) ?_)
      refine hL _ (N - 1) (by omega) ⟨k + 1, by omega, ?_⟩
      simp [g4, b4, g5, b5, g7, b7, gs, gl, gk, hw, hsn]
  · have hlt' : ¬ (k : Int) < h.lg.length := by omega
    rw [List.take_of_length_le (by omega)] at b7
    repeat' first | (refine hK _ ?_; clear hK) | (refine hK _ _ ?_; clear hK) | (clear hK; refine hK _ ?_; clear hK) | (clear hK; clear hK; refine hK _ ?_; clear hK) | (clear hK; clear hK; clear hK; refine hK _ ?_; clear hK) | (clear hK; clear hK; clear hK; clear hK; refine hK _ ?_; clear hK) | (refine wSeq fun K hK => ?_) | ((first | refine wReg ?_ | refine wDrwQ rfl (by kernel_rfl) ?_ | refine wDrwI ?_ | refine wDrw (by kernel_rfl) ?_); simp only [List.map_cons, List.map_nil, strip]) | ((first | refine wIs fun K hK => ?_ | refine wOs fun K hK => ?_ | refine wQs fun K hK => ?_ | refine CallK_plain ?_ | refine CallQ_plain ?_ | refine CallR_plain ?_ | refine wCond ?_); simp [g4, b4, g5, b5, g7, b7, gs, gl, gk, hlt, hlt']) | (refine wIn ?_; refine And.intro (by kernel_rfl) ?_; try simp only [thenA_n]) | (first | refine wBlock ?_ | refine wScope ?_) | ((first | refine wRet ?_ | refine wExit ?_ | refine wSkip ?_); try simp) | ((first | refine wLabel ?_ | refine wOn ?_ | refine wQn ?_); try simp only [thenA_n])
    all_goals apply hr
    all_goals simp [Try.f20, g7, b7]
set_option maxHeartbeats 1000000 in
theorem sameTxns_con (l : List Tx) (hl : l.length ≤ 100000) : ACon Try.prog 18 [.p (.sl 8 (txns l)), .p (.sl 8 (txns l))] (.p (B true)) := by
  refine wBody Try.tab Try.mixed Try.func18 rfl rfl Try.ntmps18 (by simp) (by simp) fun Q hr hn => ?_
  repeat' first | (refine hK _ ?_; clear hK) | (refine hK _ _ ?_; clear hK) | (clear hK; refine hK _ ?_; clear hK) | (clear hK; clear hK; refine hK _ ?_; clear hK) | (clear hK; clear hK; clear hK; refine hK _ ?_; clear hK) | (clear hK; clear hK; clear hK; clear hK; refine hK _ ?_; clear hK) | (refine wSeq fun K hK => ?_) | ((first | refine wReg ?_ | refine wDrwQ rfl (by kernel_rfl) ?_ | refine wDrwI ?_ | refine wDrw (by kernel_rfl) ?_); simp only [List.map_cons, List.map_nil, strip]) | ((first | refine wIs fun K hK => ?_ | refine wOs fun K hK => ?_ | refine wQs fun K hK => ?_ | refine CallK_plain ?_ | refine CallQ_plain ?_ | refine CallR_plain ?_ | refine wCond ?_); simp) | (refine wIn ?_; refine And.intro (by kernel_rfl) ?_; try simp only [thenA_n]) | (first | refine wBlock ?_ | refine wScope ?_) | ((first | refine wRet ?_ | refine wExit ?_ | refine wSkip ?_); try simp) | ((first | refine wLabel ?_ | refine wOn ?_ | refine wQn ?_); try simp only [thenA_n])
  refine wLoop (fun N st => ∃ k, k + N = l.length ∧ st.s 0 = .p (.sl 8 (txns l)) ∧ st.s 1 = .p (.sl 8 (txns l)) ∧ st.s 12 = .p (I l.length) ∧ st.s 13 = .p (I k)) l.length ⟨0, by simp⟩ fun K N st hL ⟨k, hk, g0, g1, g12, g13⟩ => ?_
  by_cases hlt : k < l.length
  · have hlt' : (k : Int) < l.length := by omega
    have hw := wrapS k _ hlt (by omega)
    have he := txns_get hlt
    have c := sameT08_con l[k] l[k]
    rw [decide_eq_true rfl] at c
    unfold Tx.cells at c
    repeat' first | (refine hK _ ?_; clear hK) | (refine hK _ _ ?_; clear hK) | (clear hK; refine hK _ ?_; clear hK) | (clear hK; clear hK; refine hK _ ?_; clear hK) | (clear hK; clear hK; clear hK; refine hK _ ?_; clear hK) | (clear hK; clear hK; clear hK; clear hK; refine hK _ ?_; clear hK) | (refine wSeq fun K hK => ?_) | ((first | refine wReg ?_ | refine wDrwQ rfl (by kernel_rfl) ?_ | refine wDrwI ?_ | refine wDrw (by kernel_rfl) ?_); simp only [List.map_cons, List.map_nil, strip]) | ((first | refine wIs fun K hK => ?_ | refine wOs fun K hK => ?_ | refine wQs fun K hK => ?_ | refine CallK_plain ?_ | refine CallQ_plain ?_ | refine CallR_plain ?_ | refine wCond ?_); simp [g0, g1, g12, g13, hlt, hlt', hw, he]) | (refine wIn ?_; refine And.intro (by kernel_rfl) ?_; try simp only [thenA_n]) | (first | refine wBlock ?_ | refine wScope ?_) | ((first | refine wRet ?_ | refine wExit ?_ | refine wSkip ?_); try simp) | ((first | refine wLabel ?_ | refine wOn ?_ | refine wQn ?_); try simp only [thenA_n]) | (refine CallE.pure (c) rfl ?_) | (refine CallE.lent (c) rfl ?_) | (refine CallF.pure (c) rfl ?_) | (refine CallF.lent (c) rfl ?_) | (refine CallE.own (c) ?_) | (refine CallH.pure (c) rfl ?_) | (refine CallH.lent (c) rfl ?_) | (refine CallH.own (c) ?_)
    refine hL _ (N - 1) (by omega) ⟨k + 1, by omega, ?_⟩
    simp [g0, g1, g12, g13, hw]
  · have hlt' : ¬ (k : Int) < l.length := by omega
    repeat' first | (refine hK _ ?_; clear hK) | (refine hK _ _ ?_; clear hK) | (clear hK; refine hK _ ?_; clear hK) | (clear hK; clear hK; refine hK _ ?_; clear hK) | (clear hK; clear hK; clear hK; refine hK _ ?_; clear hK) | (clear hK; clear hK; clear hK; clear hK; refine hK _ ?_; clear hK) | (refine wSeq fun K hK => ?_) | ((first | refine wReg ?_ | refine wDrwQ rfl (by kernel_rfl) ?_ | refine wDrwI ?_ | refine wDrw (by kernel_rfl) ?_); simp only [List.map_cons, List.map_nil, strip]) | ((first | refine wIs fun K hK => ?_ | refine wOs fun K hK => ?_ | refine wQs fun K hK => ?_ | refine CallK_plain ?_ | refine CallQ_plain ?_ | refine CallR_plain ?_ | refine wCond ?_); simp [g0, g1, g12, g13, hlt, hlt']) | (refine wIn ?_; refine And.intro (by kernel_rfl) ?_; try simp only [thenA_n]) | (first | refine wBlock ?_ | refine wScope ?_) | ((first | refine wRet ?_ | refine wExit ?_ | refine wSkip ?_); try simp) | ((first | refine wLabel ?_ | refine wOn ?_ | refine wQn ?_); try simp only [thenA_n])
    all_goals apply hr
    all_goals simp [Try.f18]
theorem OkH.of {h : Hy} {l : List Lr} (hn : nearK h l) : OkH h := by
  obtain ⟨h1, h2, h3, h4⟩ := hn
  unfold wH at h4
  have e0 : ∀ l : List Tx, (l.map fun t => t.ps.length).sum ≤ (l.map wT).sum := by
    intro l
    induction l with
    | nil => simp
    | cons t l ih =>
      rw [List.map_cons, List.map_cons, List.sum_cons, List.sum_cons]
      have : t.ps.length ≤ wT t := by unfold wT; omega
      omega
  have e00 := e0 h.lg
  refine ⟨by omega, by omega, by omega, by omega, fun t ht => ⟨by have := h2 t ht; omega, fun p hp => ?_⟩, by omega⟩
  have e1 := sum_le wT ht
  have e2 := sum_le (fun p : Pt => p.c.ms.length) hp
  unfold wT at e1
  unfold wT at h4
  omega
set_option maxHeartbeats 4000000 in
theorem ackCommits_con (h : Hy) (l : List Lr) (self ph e n : Int) (hs : SmallH h) (hl : SmallL l) :
    ACon Try.prog 4 [.p (.agg h.cells), .p (.sl 8 (lrs l)), .p (.agg [I self, I ph, I e, I n])] (.p (B true)) := by
  have c0 := far19_con h l hs hl
  have ca := awake19
  by_cases hn : nearK h l
  rotate_left
  · rw [decide_eq_true hn] at c0
    unfold Hy.cells at c0 ⊢
    refine wBody Try.tab Try.mixed Try.func4 rfl rfl Try.ntmps4 (by simp) (by simp) fun Q hr hn => ?_
    repeat' first | (refine hK _ ?_; clear hK) | (refine hK _ _ ?_; clear hK) | (clear hK; refine hK _ ?_; clear hK) | (clear hK; clear hK; refine hK _ ?_; clear hK) | (clear hK; clear hK; clear hK; refine hK _ ?_; clear hK) | (clear hK; clear hK; clear hK; clear hK; refine hK _ ?_; clear hK) | (refine wSeq fun K hK => ?_) | ((first | refine wReg ?_ | refine wDrwQ rfl (by kernel_rfl) ?_ | refine wDrwI ?_ | refine wDrw (by kernel_rfl) ?_); simp only [List.map_cons, List.map_nil, strip]) | ((first | refine wIs fun K hK => ?_ | refine wOs fun K hK => ?_ | refine wQs fun K hK => ?_ | refine CallK_plain ?_ | refine CallQ_plain ?_ | refine CallR_plain ?_ | refine wCond ?_); simp) | (refine wIn ?_; refine And.intro (by kernel_rfl) ?_; try simp only [thenA_n]) | (first | refine wBlock ?_ | refine wScope ?_) | ((first | refine wRet ?_ | refine wExit ?_ | refine wSkip ?_); try simp) | ((first | refine wLabel ?_ | refine wOn ?_ | refine wQn ?_); try simp only [thenA_n]) | (refine CallE.pure (c0) rfl ?_) | (refine CallE.lent (c0) rfl ?_) | (refine CallF.pure (c0) rfl ?_) | (refine CallF.lent (c0) rfl ?_) | (refine CallE.own (c0) ?_) | (refine CallH.pure (c0) rfl ?_) | (refine CallH.lent (c0) rfl ?_) | (refine CallH.own (c0) ?_) | (refine CallE.pure (ca) rfl ?_) | (refine CallE.lent (ca) rfl ?_) | (refine CallF.pure (ca) rfl ?_) | (refine CallF.lent (ca) rfl ?_) | (refine CallE.own (ca) ?_) | (refine CallH.pure (ca) rfl ?_) | (refine CallH.lent (ca) rfl ?_) | (refine CallH.own (ca) ?_)
    all_goals apply hr
    all_goals simp [Try.f4]
  rw [decide_eq_false (fun h => h hn)] at c0
  have hk := OkH.of hn
  have hll := hn.2.2.1
  have hlg := hk.lg
  have c1 := commit_con h e n self l hk (by omega)
  have c2 := commit19_con h e n self l hk (by omega)
  generalize hz : comF h self l h.lg 0 e n = z at c1 c2
  have c3 := committed_con h e n z.1 z.2 hk
  have c4 := committed19_con h e n z.1 z.2 hk
  have c5 := sameTxns_con (comd e n z.1 z.2 h.lg) (by have := comd_len e n z.1 z.2 h.lg; omega)
  generalize comd e n z.1 z.2 h.lg = q at c3 c4 c5
  unfold Hy.cells at c0 c1 c2 c3 c4 ⊢
  refine wBody Try.tab Try.mixed Try.func4 rfl rfl Try.ntmps4 (by simp) (by simp) fun Q hr hn => ?_
  repeat' first | (refine hK _ ?_; clear hK) | (refine hK _ _ ?_; clear hK) | (clear hK; refine hK _ ?_; clear hK) | (clear hK; clear hK; refine hK _ ?_; clear hK) | (clear hK; clear hK; clear hK; refine hK _ ?_; clear hK) | (clear hK; clear hK; clear hK; clear hK; refine hK _ ?_; clear hK) | (refine wSeq fun K hK => ?_) | ((first | refine wReg ?_ | refine wDrwQ rfl (by kernel_rfl) ?_ | refine wDrwI ?_ | refine wDrw (by kernel_rfl) ?_); simp only [List.map_cons, List.map_nil, strip]) | ((first | refine wIs fun K hK => ?_ | refine wOs fun K hK => ?_ | refine wQs fun K hK => ?_ | refine CallK_plain ?_ | refine CallQ_plain ?_ | refine CallR_plain ?_ | refine wCond ?_); simp) | (refine wIn ?_; refine And.intro (by kernel_rfl) ?_; try simp only [thenA_n]) | (first | refine wBlock ?_ | refine wScope ?_) | ((first | refine wRet ?_ | refine wExit ?_ | refine wSkip ?_); try simp) | ((first | refine wLabel ?_ | refine wOn ?_ | refine wQn ?_); try simp only [thenA_n]) | (refine CallE.pure (c0) rfl ?_) | (refine CallE.lent (c0) rfl ?_) | (refine CallF.pure (c0) rfl ?_) | (refine CallF.lent (c0) rfl ?_) | (refine CallE.own (c0) ?_) | (refine CallH.pure (c0) rfl ?_) | (refine CallH.lent (c0) rfl ?_) | (refine CallH.own (c0) ?_) | (refine CallE.pure (c1) rfl ?_) | (refine CallE.lent (c1) rfl ?_) | (refine CallF.pure (c1) rfl ?_) | (refine CallF.lent (c1) rfl ?_) | (refine CallE.own (c1) ?_) | (refine CallH.pure (c1) rfl ?_) | (refine CallH.lent (c1) rfl ?_) | (refine CallH.own (c1) ?_) | (refine CallE.pure (c2) rfl ?_) | (refine CallE.lent (c2) rfl ?_) | (refine CallF.pure (c2) rfl ?_) | (refine CallF.lent (c2) rfl ?_) | (refine CallE.own (c2) ?_) | (refine CallH.pure (c2) rfl ?_) | (refine CallH.lent (c2) rfl ?_) | (refine CallH.own (c2) ?_) | (refine CallE.pure (c3) rfl ?_) | (refine CallE.lent (c3) rfl ?_) | (refine CallF.pure (c3) rfl ?_) | (refine CallF.lent (c3) rfl ?_) | (refine CallE.own (c3) ?_) | (refine CallH.pure (c3) rfl ?_) | (refine CallH.lent (c3) rfl ?_) | (refine CallH.own (c3) ?_) | (refine CallE.pure (c4) rfl ?_) | (refine CallE.lent (c4) rfl ?_) | (refine CallF.pure (c4) rfl ?_) | (refine CallF.lent (c4) rfl ?_) | (refine CallE.own (c4) ?_) | (refine CallH.pure (c4) rfl ?_) | (refine CallH.lent (c4) rfl ?_) | (refine CallH.own (c4) ?_) | (refine CallE.pure (c5) rfl ?_) | (refine CallE.lent (c5) rfl ?_) | (refine CallF.pure (c5) rfl ?_) | (refine CallF.lent (c5) rfl ?_) | (refine CallE.own (c5) ?_) | (refine CallH.pure (c5) rfl ?_) | (refine CallH.lent (c5) rfl ?_) | (refine CallH.own (c5) ?_) | (refine CallE.pure (ca) rfl ?_) | (refine CallE.lent (ca) rfl ?_) | (refine CallF.pure (ca) rfl ?_) | (refine CallF.lent (ca) rfl ?_) | (refine CallE.own (ca) ?_) | (refine CallH.pure (ca) rfl ?_) | (refine CallH.lent (ca) rfl ?_) | (refine CallH.own (ca) ?_)
  all_goals apply hr
  all_goals simp [Try.f4]
end Go.Proofs.Ytnfcbkageifmfaa
