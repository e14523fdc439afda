/- Texts that the proof needs: CP4 CP6 CL8 CP7. -/
import Derived.Test.YtefhnofdfnmiaaaP23ClientPlays
import Derived.Test.YtefhnofdfnmiaaaP22ClientPlays
/- Clients, the document's: an event. -/
namespace Go.Proofs.Ytefhnofdfnmiaaa
set_option linter.unusedSimpArgs false
set_option linter.unusedVariables false
set_option maxRecDepth 8000
open Go Go.Av
attribute [local simp] Try.T1 Try.T2 Try.T3 Try.T4 Try.T5 Try.T9 Try.T12 Try.T15 Try.T16 Try.T17 Try.T21 Try.T22 Try.T23 Try.T24 Try.T26 Try.T27 Try.T29 Try.T30 Try.T32 Try.T33 Try.T34 Try.T35 Try.T36 Try.T38 Try.T40 Try.T42 Try.T43 Try.T45 Try.T47 Try.T49 Try.T50 Try.T51 Try.T53 Try.T54 Try.T55 Try.T56 Try.T57 Try.T59 Try.T61 Try.T63 Try.T65 Try.T66 Try.T67 Try.T69 Try.T70 Try.T71 Try.T72 Try.T73 Try.T74 Try.T75 Try.T76 Try.T78 Try.T79 Try.T80 Try.T81 Try.T82 Try.T83 Try.T84 Try.T85 Try.T86 Try.T87 Try.T88 Try.T89 Try.T90 Try.T91 Try.T92 Try.T93 Try.T94 Try.T95 Try.T96 Try.T97 Try.T98 Try.T99 Try.T101 Try.T102 Try.T103 Try.T104 Try.T105 Try.T106 Try.T107 Try.T108 Try.T109 Try.T112 Try.T115 Try.T116 Try.T119 Try.T120
attribute [local irreducible] Go.Av.CallK Go.Av.CallE Go.Av.CallQ Go.Av.CallF Go.Av.CallR Go.Av.CallH Go.Av.Con
set_option maxHeartbeats 4000000 in
theorem ideal_con (c : Cl) (e : Ev6) (hn : c.nt.length ≤ 1000000) (hx : c.xi ≤ 1000000000 ∧ 0 ≤ c.xi) (hr0 : OkR e.r) (hw : OkW e.w) (hq : c.wt = 0 → c.rd = 0) : ACon Try.prog 11 [.p (.agg c.cells), .p (.agg e.cells)] (.tup [.p (.agg (actM c e).d.cells), .p (.sl 33 (actM c e).ws), .p (.sl 36 (actM c e).rs), .p (I (actM c e).e)]) := by
  have c0 := connect26_con c e.n hn hx hq
  have c1 := ask26_con c e.r hn hx hr0
  have c2 := read26_con c e.n e.w.pa e.w.wa hn hx
  have c3 := hear26_con c e.w hn hw hq
  have c4 := lost26_con c hn hq
  have c5 := beat26_con c
  unfold actM
  obtain ⟨k, n, r, w⟩ := e
  dsimp only at *
  clear hr0 hw hx hn hq
  generalize conC c n = d0 at *
  generalize (conW c n).cells = w0 at *
  generalize rsE c = r0 at *
  generalize waitC c 0 = d1 at *
  generalize askL c r = w1 at *
  generalize waitE c = e1 at *
  generalize rdC c n = d2 at *
  generalize rdL c n w.pa w.wa = w2 at *
  generalize rdE c n = e2 at *
  generalize (hearC c w) = h3 at *
  generalize lostC c = d4 at *
  generalize beatL c = w5 at *
  unfold Ev6.cells
  unfold Cl.cells Rq.cells Wd.cells at *
  dsimp only at *
  by_cases h0 : k = 0
  · subst h0
    rw [if_pos rfl]
    clear c1 c2 c3 c4 c5
    refine wBody Try.tab Try.mixed Try.func11 rfl rfl Try.ntmps11 (by simp) (by simp) fun Q hr hn => ?_
    repeat' first | (refine hK _ ?_; clear hK) | (refine hK _ _ ?_; clear hK) | (clear hK; refine hK _ ?_; clear hK) | (clear hK; clear hK; refine hK _ ?_; clear hK) | (clear hK; clear hK; clear hK; refine hK _ ?_; clear hK) | (clear hK; clear hK; clear hK; clear hK; refine hK _ ?_; clear hK) | (refine wSeq fun K hK => ?_) | ((first | refine wReg ?_ | refine wDrwQ rfl (by kernel_rfl) ?_ | refine wDrwI ?_ | refine wDrw (by kernel_rfl) ?_); simp only [List.map_cons, List.map_nil, strip]) | ((first | refine wIs fun K hK => ?_ | refine wOs fun K hK => ?_ | refine wQs fun K hK => ?_ | refine CallK_plain ?_ | refine CallQ_plain ?_ | refine CallR_plain ?_ | refine wCond ?_); simp) | (refine wIn ?_; refine And.intro (by kernel_rfl) ?_; try simp only [thenA_n]) | (first | refine wBlock ?_ | refine wScope ?_) | ((first | refine wRet ?_ | refine wExit ?_ | refine wSkip ?_); try simp) | ((first | refine wLabel ?_ | refine wOn ?_ | refine wQn ?_); try simp only [thenA_n]) | (refine CallE.pure (c0) rfl ?_) | (refine CallE.lent (c0) rfl ?_) | (refine CallF.pure (c0) rfl ?_) | (refine CallF.lent (c0) rfl ?_) | (refine CallE.own (c0) ?_) | (refine CallH.pure (c0) rfl ?_) | (refine CallH.lent (c0) rfl ?_) | (refine CallH.own (c0) ?_)
    all_goals apply hr
    all_goals simp [Try.f11]
  rw [if_neg h0]
  by_cases h1 : k = 1
  · subst h1
    rw [if_pos rfl]
    clear c0 c2 c3 c4 c5
    refine wBody Try.tab Try.mixed Try.func11 rfl rfl Try.ntmps11 (by simp) (by simp) fun Q hr hn => ?_
    repeat' first | (refine hK _ ?_; clear hK) | (refine hK _ _ ?_; clear hK) | (clear hK; refine hK _ ?_; clear hK) | (clear hK; clear hK; refine hK _ ?_; clear hK) | (clear hK; clear hK; clear hK; refine hK _ ?_; clear hK) | (clear hK; clear hK; clear hK; clear hK; refine hK _ ?_; clear hK) | (refine wSeq fun K hK => ?_) | ((first | refine wReg ?_ | refine wDrwQ rfl (by kernel_rfl) ?_ | refine wDrwI ?_ | refine wDrw (by kernel_rfl) ?_); simp only [List.map_cons, List.map_nil, strip]) | ((first | refine wIs fun K hK => ?_ | refine wOs fun K hK => ?_ | refine wQs fun K hK => ?_ | refine CallK_plain ?_ | refine CallQ_plain ?_ | refine CallR_plain ?_ | refine wCond ?_); simp) | (refine wIn ?_; refine And.intro (by kernel_rfl) ?_; try simp only [thenA_n]) | (first | refine wBlock ?_ | refine wScope ?_) | ((first | refine wRet ?_ | refine wExit ?_ | refine wSkip ?_); try simp) | ((first | refine wLabel ?_ | refine wOn ?_ | refine wQn ?_); try simp only [thenA_n]) | (refine CallE.pure (c1) rfl ?_) | (refine CallE.lent (c1) rfl ?_) | (refine CallF.pure (c1) rfl ?_) | (refine CallF.lent (c1) rfl ?_) | (refine CallE.own (c1) ?_) | (refine CallH.pure (c1) rfl ?_) | (refine CallH.lent (c1) rfl ?_) | (refine CallH.own (c1) ?_)
    all_goals apply hr
    all_goals simp [Try.f11]
  rw [if_neg h1]
  by_cases h2 : k = 2
  · subst h2
    rw [if_pos rfl]
    clear c0 c1 c3 c4 c5
    refine wBody Try.tab Try.mixed Try.func11 rfl rfl Try.ntmps11 (by simp) (by simp) fun Q hr hn => ?_
    repeat' first | (refine hK _ ?_; clear hK) | (refine hK _ _ ?_; clear hK) | (clear hK; refine hK _ ?_; clear hK) | (clear hK; clear hK; refine hK _ ?_; clear hK) | (clear hK; clear hK; clear hK; refine hK _ ?_; clear hK) | (clear hK; clear hK; clear hK; clear hK; refine hK _ ?_; clear hK) | (refine wSeq fun K hK => ?_) | ((first | refine wReg ?_ | refine wDrwQ rfl (by kernel_rfl) ?_ | refine wDrwI ?_ | refine wDrw (by kernel_rfl) ?_); simp only [List.map_cons, List.map_nil, strip]) | ((first | refine wIs fun K hK => ?_ | refine wOs fun K hK => ?_ | refine wQs fun K hK => ?_ | refine CallK_plain ?_ | refine CallQ_plain ?_ | refine CallR_plain ?_ | refine wCond ?_); simp) | (refine wIn ?_; refine And.intro (by kernel_rfl) ?_; try simp only [thenA_n]) | (first | refine wBlock ?_ | refine wScope ?_) | ((first | refine wRet ?_ | refine wExit ?_ | refine wSkip ?_); try simp) | ((first | refine wLabel ?_ | refine wOn ?_ | refine wQn ?_); try simp only [thenA_n]) | (refine CallE.pure (c2) rfl ?_) | (refine CallE.lent (c2) rfl ?_) | (refine CallF.pure (c2) rfl ?_) | (refine CallF.lent (c2) rfl ?_) | (refine CallE.own (c2) ?_) | (refine CallH.pure (c2) rfl ?_) | (refine CallH.lent (c2) rfl ?_) | (refine CallH.own (c2) ?_)
    all_goals apply hr
    all_goals simp [Try.f11]
  rw [if_neg h2]
  by_cases h3' : k = 3
  · subst h3'
    rw [if_pos rfl]
    clear c0 c1 c2 c4 c5
    refine wBody Try.tab Try.mixed Try.func11 rfl rfl Try.ntmps11 (by simp) (by simp) fun Q hr hn => ?_
    repeat' first | (refine hK _ ?_; clear hK) | (refine hK _ _ ?_; clear hK) | (clear hK; refine hK _ ?_; clear hK) | (clear hK; clear hK; refine hK _ ?_; clear hK) | (clear hK; clear hK; clear hK; refine hK _ ?_; clear hK) | (clear hK; clear hK; clear hK; clear hK; refine hK _ ?_; clear hK) | (refine wSeq fun K hK => ?_) | ((first | refine wReg ?_ | refine wDrwQ rfl (by kernel_rfl) ?_ | refine wDrwI ?_ | refine wDrw (by kernel_rfl) ?_); simp only [List.map_cons, List.map_nil, strip]) | ((first | refine wIs fun K hK => ?_ | refine wOs fun K hK => ?_ | refine wQs fun K hK => ?_ | refine CallK_plain ?_ | refine CallQ_plain ?_ | refine CallR_plain ?_ | refine wCond ?_); simp) | (refine wIn ?_; refine And.intro (by kernel_rfl) ?_; try simp only [thenA_n]) | (first | refine wBlock ?_ | refine wScope ?_) | ((first | refine wRet ?_ | refine wExit ?_ | refine wSkip ?_); try simp) | ((first | refine wLabel ?_ | refine wOn ?_ | refine wQn ?_); try simp only [thenA_n]) | (refine CallE.pure (c3) rfl ?_) | (refine CallE.lent (c3) rfl ?_) | (refine CallF.pure (c3) rfl ?_) | (refine CallF.lent (c3) rfl ?_) | (refine CallE.own (c3) ?_) | (refine CallH.pure (c3) rfl ?_) | (refine CallH.lent (c3) rfl ?_) | (refine CallH.own (c3) ?_)
    all_goals apply hr
    all_goals simp [Try.f11]
  rw [if_neg h3']
  by_cases h4 : k = 4
  · subst h4
    rw [if_pos rfl]
    clear c0 c1 c2 c3 c5
    refine wBody Try.tab Try.mixed Try.func11 rfl rfl Try.ntmps11 (by simp) (by simp) fun Q hr hn => ?_
    repeat' first | (refine hK _ ?_; clear hK) | (refine hK _ _ ?_; clear hK) | (clear hK; refine hK _ ?_; clear hK) | (clear hK; clear hK; refine hK _ ?_; clear hK) | (clear hK; clear hK; clear hK; refine hK _ ?_; clear hK) | (clear hK; clear hK; clear hK; clear hK; refine hK _ ?_; clear hK) | (refine wSeq fun K hK => ?_) | ((first | refine wReg ?_ | refine wDrwQ rfl (by kernel_rfl) ?_ | refine wDrwI ?_ | refine wDrw (by kernel_rfl) ?_); simp only [List.map_cons, List.map_nil, strip]) | ((first | refine wIs fun K hK => ?_ | refine wOs fun K hK => ?_ | refine wQs fun K hK => ?_ | refine CallK_plain ?_ | refine CallQ_plain ?_ | refine CallR_plain ?_ | refine wCond ?_); simp) | (refine wIn ?_; refine And.intro (by kernel_rfl) ?_; try simp only [thenA_n]) | (first | refine wBlock ?_ | refine wScope ?_) | ((first | refine wRet ?_ | refine wExit ?_ | refine wSkip ?_); try simp) | ((first | refine wLabel ?_ | refine wOn ?_ | refine wQn ?_); try simp only [thenA_n]) | (refine CallE.pure (c4) rfl ?_) | (refine CallE.lent (c4) rfl ?_) | (refine CallF.pure (c4) rfl ?_) | (refine CallF.lent (c4) rfl ?_) | (refine CallE.own (c4) ?_) | (refine CallH.pure (c4) rfl ?_) | (refine CallH.lent (c4) rfl ?_) | (refine CallH.own (c4) ?_)
    all_goals apply hr
    all_goals simp [Try.f11]
  rw [if_neg h4]
  clear c0 c1 c2 c3 c4
  refine wBody Try.tab Try.mixed Try.func11 rfl rfl Try.ntmps11 (by simp) (by simp) fun Q hr hn => ?_
  repeat' first | (refine hK _ ?_; clear hK) | (refine hK _ _ ?_; clear hK) | (clear hK; refine hK _ ?_; clear hK) | (clear hK; clear hK; refine hK _ ?_; clear hK) | (clear hK; clear hK; clear hK; refine hK _ ?_; clear hK) | (clear hK; clear hK; clear hK; clear hK; refine hK _ ?_; clear hK) | (refine wSeq fun K hK => ?_) | ((first | refine wReg ?_ | refine wDrwQ rfl (by kernel_rfl) ?_ | refine wDrwI ?_ | refine wDrw (by kernel_rfl) ?_); simp only [List.map_cons, List.map_nil, strip]) | ((first | refine wIs fun K hK => ?_ | refine wOs fun K hK => ?_ | refine wQs fun K hK => ?_ | refine CallK_plain ?_ | refine CallQ_plain ?_ | refine CallR_plain ?_ | refine wCond ?_); simp [h0, h1, h2, h3', h4]) | (refine wIn ?_; refine And.intro (by kernel_rfl) ?_; try simp only [thenA_n]) | (first | refine wBlock ?_ | refine wScope ?_) | ((first | refine wRet ?_ | refine wExit ?_ | refine wSkip ?_); try simp) | ((first | refine wLabel ?_ | refine wOn ?_ | refine wQn ?_); try simp only [thenA_n]) | (refine CallE.pure (c5) rfl ?_) | (refine CallE.lent (c5) rfl ?_) | (refine CallF.pure (c5) rfl ?_) | (refine CallF.lent (c5) rfl ?_) | (refine CallE.own (c5) ?_) | (refine CallH.pure (c5) rfl ?_) | (refine CallH.lent (c5) rfl ?_) | (refine CallH.own (c5) ?_)
  all_goals apply hr
  all_goals simp [Try.f11]
/-- Whoever waits for nothing reads nothing: so it is from the first on. -/
theorem actM_quiet (c : Cl) (e : Ev6) (hq : c.wt = 0 → c.rd = 0) (hx : 0 ≤ c.xi) : (actM c e).d.wt = 0 → (actM c e).d.rd = 0 := by
  unfold actM
  split
  · intro _; rfl
  split
  · show (waitC c 0).wt = 0 → (waitC c 0).rd = 0
    unfold waitC
    split
    · intro _; rfl
    · exact hq
  split
  · show (rdC c e.n).wt = 0 → (rdC c e.n).rd = 0
    unfold rdC
    split
    · unfold waitC
      split
      · intro h
        have h' : c.xi + 1 = 0 := h
        omega
      · exact hq
    · exact hq
  split
  · show (hearC c e.w).1.wt = 0 → (hearC c e.w).1.rd = 0
    have see : ∀ (x : Cl) (a b : Int), (x.wt = 0 → x.rd = 0) → (seeC x a b).wt = 0 → (seeC x a b).rd = 0 := fun x a b h => by
      unfold seeC; split <;> exact h
    unfold hearC
    split
    · split
      · unfold openC
        split
        · exact see _ _ _ hq
        · exact hq
      split
      · intro _; rfl
      split
      · exact see _ _ _ hq
      split
      · split
        · intro _; rfl
        · exact hq
      · exact hq
    · exact hq
  split
  · intro _; rfl
  · exact hq
/- Clients: results that are the same; what an event brings. -/
/-- A result. -/
structure Rw6 where
  (i x : Int)
  (u : Bool)
  (w : Wd)
def Rw6.cells (r : Rw6) : List PV := rsC r.i r.x r.u r.w
def rzs (l : List Rw6) : List (List PV) := l.map Rw6.cells
@[simp] theorem rzs_len (l : List Rw6) : (rzs l).length = l.length := by simp [rzs]
theorem rzs_get {l : List Rw6} {k : Nat} (h : k < l.length) : (rzs l)[k]? = some l[k].cells := by simp [rzs, h]
set_option maxHeartbeats 16000000 in
theorem results_con (l : List Rw6) (h : ∀ r ∈ l, OkV r.w) (hl : l.length ≤ 1000000) : ACon Try.prog 13 [.p (.sl 36 (rzs l)), .p (.sl 36 (rzs l))] (.p (B true)) := by
  refine wBody Try.tab Try.mixed Try.func13 rfl rfl Try.ntmps13 (by simp) (by simp) fun Q hr hn => ?_
  repeat' first | (refine hK _ ?_; clear hK) | (refine hK _ _ ?_; clear hK) | (clear hK; refine hK _ ?_; clear hK) | (clear hK; clear hK; refine hK _ ?_; clear hK) | (clear hK; clear hK; clear hK; refine hK _ ?_; clear hK) | (clear hK; clear hK; clear hK; clear hK; refine hK _ ?_; clear hK) | (refine wSeq fun K hK => ?_) | ((first | refine wReg ?_ | refine wDrwQ rfl (by kernel_rfl) ?_ | refine wDrwI ?_ | refine wDrw (by kernel_rfl) ?_); simp only [List.map_cons, List.map_nil, strip]) | ((first | refine wIs fun K hK => ?_ | refine wOs fun K hK => ?_ | refine wQs fun K hK => ?_ | refine CallK_plain ?_ | refine CallQ_plain ?_ | refine CallR_plain ?_ | refine wCond ?_); simp) | (refine wIn ?_; refine And.intro (by kernel_rfl) ?_; try simp only [thenA_n]) | (first | refine wBlock ?_ | refine wScope ?_) | ((first | refine wRet ?_ | refine wExit ?_ | refine wSkip ?_); try simp) | ((first | refine wLabel ?_ | refine wOn ?_ | refine wQn ?_); try simp only [thenA_n])
  refine wLoop (fun N st => ∃ k, k + N = l.length ∧ st.s 0 = .p (.sl 36 (rzs l)) ∧ st.s 1 = .p (.sl 36 (rzs l)) ∧ st.s 12 = .p (I l.length) ∧ st.s 13 = .p (I k)) l.length ⟨0, by simp⟩ fun K N st hL ⟨k, hk, g0, g1, g12, g13⟩ => ?_
  by_cases hlt : k < l.length
  case neg =>
    have hlt' : ¬ (k : Int) < l.length := by omega
    repeat' first | (refine hK _ ?_; clear hK) | (refine hK _ _ ?_; clear hK) | (clear hK; refine hK _ ?_; clear hK) | (clear hK; clear hK; refine hK _ ?_; clear hK) | (clear hK; clear hK; clear hK; refine hK _ ?_; clear hK) | (clear hK; clear hK; clear hK; clear hK; refine hK _ ?_; clear hK) | (refine wSeq fun K hK => ?_) | ((first | refine wReg ?_ | refine wDrwQ rfl (by kernel_rfl) ?_ | refine wDrwI ?_ | refine wDrw (by kernel_rfl) ?_); simp only [List.map_cons, List.map_nil, strip]) | ((first | refine wIs fun K hK => ?_ | refine wOs fun K hK => ?_ | refine wQs fun K hK => ?_ | refine CallK_plain ?_ | refine CallQ_plain ?_ | refine CallR_plain ?_ | refine wCond ?_); simp [g0, g1, g12, g13, hlt, hlt']) | (refine wIn ?_; refine And.intro (by kernel_rfl) ?_; try simp only [thenA_n]) | (first | refine wBlock ?_ | refine wScope ?_) | ((first | refine wRet ?_ | refine wExit ?_ | refine wSkip ?_); try simp) | ((first | refine wLabel ?_ | refine wOn ?_ | refine wQn ?_); try simp only [thenA_n])
    all_goals apply hr
    all_goals simp [Try.f13]
  have hlt' : (k : Int) < l.length := by omega
  have hw := wrapS k _ hlt (by omega)
  have he := rzs_get hlt
  have hv := h _ (List.getElem_mem hlt)
  have hcell := Option.some.inj ((List.getElem?_eq_getElem (by simpa using hlt : k < (rzs l).length)).symm.trans he)
  generalize l[k] = r at he hv hcell
  have c := sameW_con [r.w] (by intro w hw; simp at hw; rw [hw]; exact hv) (by simp)
  obtain ⟨i, x, u, w⟩ := r
  unfold wds at c
  unfold Rw6.cells rsC at he hcell
  dsimp only [List.map_cons, List.map_nil] at he hcell c
  unfold Wd.cells at he hcell c
  repeat' first | (refine hK _ ?_; clear hK) | (refine hK _ _ ?_; clear hK) | (clear hK; refine hK _ ?_; clear hK) | (clear hK; clear hK; refine hK _ ?_; clear hK) | (clear hK; clear hK; clear hK; refine hK _ ?_; clear hK) | (clear hK; clear hK; clear hK; clear hK; refine hK _ ?_; clear hK) | (refine wSeq fun K hK => ?_) | ((first | refine wReg ?_ | refine wDrwQ rfl (by kernel_rfl) ?_ | refine wDrwI ?_ | refine wDrw (by kernel_rfl) ?_); simp only [List.map_cons, List.map_nil, strip]) | ((first | refine wIs fun K hK => ?_ | refine wOs fun K hK => ?_ | refine wQs fun K hK => ?_ | refine CallK_plain ?_ | refine CallQ_plain ?_ | refine CallR_plain ?_ | refine wCond ?_); simp [g0, g1, g12, g13, hlt, hlt', hw, he, hcell]) | (refine wIn ?_; refine And.intro (by kernel_rfl) ?_; try simp only [thenA_n]) | (first | refine wBlock ?_ | refine wScope ?_) | ((first | refine wRet ?_ | refine wExit ?_ | refine wSkip ?_); try simp) | ((first | refine wLabel ?_ | refine wOn ?_ | refine wQn ?_); try simp only [thenA_n]) | (refine CallE.pure (c) rfl ?_) | (refine CallE.lent (c) rfl ?_) | (refine CallF.pure (c) rfl ?_) | (refine CallF.lent (c) rfl ?_) | (refine CallE.own (c) ?_) | (refine CallH.pure (c) rfl ?_) | (refine CallH.lent (c) rfl ?_) | (refine CallH.own (c) ?_)
  all_goals refine hL _ (N - 1) (by omega) ⟨k + 1, by omega, ?_⟩
  all_goals simp [g0, g1, g12, g13, hw]
/-! ### What an event brings -/
theorem seeC_ss (c : Cl) (e n : Int) : (seeC c e n).ss = c.ss := by unfold seeC; split <;> rfl
theorem actM_ss (c : Cl) (e : Ev6) (hc : okI c.ss) (he : okI e.w.ss) : okI (actM c e).d.ss := by
  unfold actM
  split
  · exact hc
  split
  · show okI (waitC c 0).ss
    unfold waitC; split <;> exact hc
  split
  · show okI (rdC c e.n).ss
    unfold rdC waitC; split
    · split <;> exact hc
    · exact hc
  split
  · show okI (hearC c e.w).1.ss
    unfold hearC
    split
    · split
      · unfold openC; split
        · rw [seeC_ss]; exact he
        · exact hc
      split
      · unfold noC; split
        · exact okI0
        · exact hc
      split
      · unfold noteC; rw [seeC_ss]; exact hc
      split
      · split
        · show okI (seeC c e.w.ae e.w.an).ss
          rw [seeC_ss]; exact hc
        · exact hc
      · exact hc
    · exact hc
  split
  · exact hc
  · exact hc
theorem actM_ws (c : Cl) (e : Ev6) (hc : okI c.ss) (hx : okI (c.xi + 1)) (hr : OkQ e.r) : ∃ ws : List Wd, (actM c e).ws = wds ws ∧ (∀ w ∈ ws, OkV w) ∧ ws.length ≤ 1000000 := by
  have one : ∀ w : Wd, OkV w → (∀ v ∈ [w], OkV v) ∧ [w].length ≤ 1000000 := fun w h => ⟨by intro v hv; simp at hv; rw [hv]; exact h, by simp⟩
  have non : ∃ ws : List Wd, ([] : List (List PV)) = wds ws ∧ (∀ w ∈ ws, OkV w) ∧ ws.length ≤ 1000000 := ⟨[], rfl, by simp, by simp⟩
  unfold actM
  split
  · exact ⟨[conW c e.n], rfl, one _ ⟨OkQ.zero, [], rfl, by decide⟩⟩
  split
  · show ∃ ws : List Wd, askL c e.r = wds ws ∧ _
    unfold askL; split
    · exact ⟨[askW c e.r], rfl, one _ ⟨hr.put hc hx, [], rfl, by decide⟩⟩
    · exact non
  split
  · show ∃ ws : List Wd, rdL c e.n e.w.pa e.w.wa = wds ws ∧ _
    unfold rdL; split
    · exact ⟨[readW c e.n e.w.pa e.w.wa], rfl, one _ ⟨OkQ.zero, [], rfl, by decide⟩⟩
    · exact non
  split
  · exact non
  split
  · exact non
  · show ∃ ws : List Wd, beatL c = wds ws ∧ _
    unfold beatL; split
    · exact ⟨[wdZ c.id c.sv 4], rfl, one _ (.z ..)⟩
    · exact non
theorem rsE_rz (c : Cl) : ∃ rs : List Rw6, rsE c = rzs rs ∧ (∀ r ∈ rs, OkV r.w) ∧ rs.length ≤ 1000000 := by
  unfold rsE; split
  · exact ⟨[], rfl, by simp, by simp⟩
  · exact ⟨[⟨c.id, c.wt, true, wdZ 0 0 0⟩], rfl, by intro v hv; simp at hv; rw [hv]; exact .z .., by simp⟩
theorem actM_rs (c : Cl) (e : Ev6) (hw : OkV e.w) : ∃ rs : List Rw6, (actM c e).rs = rzs rs ∧ (∀ r ∈ rs, OkV r.w) ∧ rs.length ≤ 1000000 := by
  have non : ∃ rs : List Rw6, ([] : List (List PV)) = rzs rs ∧ (∀ r ∈ rs, OkV r.w) ∧ rs.length ≤ 1000000 := ⟨[], rfl, by simp, by simp⟩
  unfold actM
  split
  · exact rsE_rz c
  split
  · exact non
  split
  · exact non
  split
  · show ∃ rs : List Rw6, (hearC c e.w).2 = rzs rs ∧ _
    unfold hearC
    split
    · split
      · exact non
      split
      · exact rsE_rz c
      split
      · exact non
      split
      · split
        · exact ⟨[⟨c.id, c.wt, false, e.w⟩], rfl, by intro v hv; simp at hv; rw [hv]; exact hw, by simp⟩
        · exact non
      · exact non
    · exact non
  split
  · exact rsE_rz c
  · exact non
/- Clients: events that are too many. -/
/-- An op of a request. -/
structure Op6 where
  (k : Int)
  (pa da : List UInt8)
  (v : Int)
  (ow sq : Bool)
def Op6.cells (o : Op6) : List PV := [I o.k, SB o.pa, SB o.da, I o.v, B o.ow, B o.sq]
def ops6 (l : List Op6) : List (List PV) := l.map Op6.cells
@[simp] theorem ops6_len (l : List Op6) : (ops6 l).length = l.length := by simp [ops6]
theorem ops6_get {l : List Op6} {k : Nat} (h : k < l.length) : (ops6 l)[k]? = some [I l[k].k, SB l[k].pa, SB l[k].da, I l[k].v, B l[k].ow, B l[k].sq] := by simp [ops6, h, Op6.cells]
@[simp] theorem ops6_getElem (l : List Op6) (k : Nat) (h : k < (ops6 l).length) : (ops6 l)[k] = [I (l[k]'(by simpa using h)).k, SB (l[k]'(by simpa using h)).pa, SB (l[k]'(by simpa using h)).da, I (l[k]'(by simpa using h)).v, B (l[k]'(by simpa using h)).ow, B (l[k]'(by simpa using h)).sq] := by simp [ops6, Op6.cells]
def evs (l : List Ev6) : List (List PV) := l.map Ev6.cells
@[simp] theorem evs_len (l : List Ev6) : (evs l).length = l.length := by simp [evs]
theorem evs_get {l : List Ev6} {k : Nat} (h : k < l.length) : (evs l)[k]? = some l[k].cells := by simp [evs, h]
def sLen : PV → Nat
  | .v (.string s) => s.size
  | _ => 0
def oLen (r : List PV) : Nat := (sLen (r.getD 1 (I 0)) + sLen (r.getD 2 (I 0))) / 20
def osum (l : List (List PV)) : Nat := (l.map oLen).sum
theorem osum_take {l : List (List PV)} {k : Nat} (h : k < l.length) : osum (l.take (k + 1)) = osum (l.take k) + oLen l[k] := by
  unfold osum; rw [List.take_succ_eq_append_getElem h, List.map_append, List.sum_append]; simp
def cEv (e : Ev6) : Nat := e.r.ops.length + e.r.put.length + e.r.drop.length + e.w.nm.length + (e.w.pa.length + e.w.ma.length) / 20 + e.w.r.ops.length
def tot (l : List Ev6) : Nat := (l.map fun e => cEv e + osum e.r.ops).sum
theorem tot_take {l : List Ev6} {k : Nat} (h : k < l.length) : tot (l.take (k + 1)) = tot (l.take k) + (cEv l[k] + osum l[k].r.ops) := by
  unfold tot; rw [List.take_succ_eq_append_getElem h, List.map_append, List.sum_append]; simp
def farE (l : List Ev6) : Bool := decide (100 < l.length) || (l.any (fun e => decide (50 < e.r.ops.length)) || (decide (500 < tot l) || decide (90 < l.length)))
/-- What the form's reach bounds. -/
structure OkZ (e : Ev6) : Prop where
  os : ∃ os : List Op6, e.r.ops = ops6 os ∧ ∀ o ∈ os, o.pa.length ≤ 140737488355328 ∧ o.da.length ≤ 140737488355328
  o : e.r.ops.length ≤ 140737488355328
  p : e.r.put.length ≤ 4398046510976
  d : e.r.drop.length ≤ 17592186043904
  n : e.w.nm.length ≤ 140737488355328
  pa : e.w.pa.length ≤ 140737488355328
  ma : e.w.ma.length ≤ 140737488355328
  wo : e.w.r.ops.length ≤ 140737488355328
  wp : e.w.r.put.length ≤ 4398046510976
  wd : e.w.r.drop.length ≤ 17592186043904
theorem OkZ.c {e : Ev6} (h : OkZ e) : cEv e ≤ 844424930131968 := by
  have := h.o; have := h.p; have := h.d; have := h.n; have := h.pa; have := h.ma; have := h.wo
  unfold cEv; omega
theorem osum_bdB {os : List Op6} (B : Nat) (h : ∀ o ∈ os, (o.pa.length + o.da.length) / 20 ≤ B) : ∀ k, osum ((ops6 os).take k) ≤ k * B := by
  intro k
  induction k with
  | zero => simp [osum]
  | succ k ih =>
    rw [Nat.succ_mul]
    by_cases hk : k < (ops6 os).length
    · rw [osum_take hk]
      have hk' : k < os.length := by simpa using hk
      have := h _ (List.getElem_mem hk')
      have e : oLen (ops6 os)[k] = (os[k].pa.length + os[k].da.length) / 20 := by simp [oLen, sLen]
      omega
    · rw [List.take_of_length_le (by omega)] at ih ⊢
      omega
theorem osum_bd {os : List Op6} (h : ∀ o ∈ os, o.pa.length ≤ 140737488355328 ∧ o.da.length ≤ 140737488355328) (k : Nat) (hk : k ≤ 50) : osum ((ops6 os).take k) ≤ 703687441776600 :=
  Nat.le_trans (osum_bdB 14073748835532 (fun o ho => by have := h o ho; omega) k) (Nat.mul_le_mul_right 14073748835532 hk)
theorem tot_bdB {l : List Ev6} (B : Nat) (h : ∀ e ∈ l, cEv e + osum e.r.ops ≤ B) : tot l ≤ l.length * B := by
  induction l with
  | nil => simp [tot]
  | cons e l ih =>
    have ih := ih (fun e he => h e (List.mem_cons_of_mem _ he))
    have h1 := h e (List.mem_cons_self ..)
    have e1 : tot (e :: l) = cEv e + osum e.r.ops + tot l := by simp [tot]
    rw [e1, List.length_cons, Nat.succ_mul]
    omega
theorem tot_bd {l : List Ev6} (h : ∀ e ∈ l, OkZ e) (h5 : ∀ e ∈ l, e.r.ops.length ≤ 50) (hl : l.length ≤ 100) : tot l ≤ 154811237190856800 :=
  Nat.le_trans (tot_bdB 1548112371908568 fun e he => by
    have h1 := (h e he).c
    obtain ⟨os, ho, hb⟩ := (h e he).os
    have h3 := osum_bd hb 50 (Nat.le_refl _)
    rw [← ho, List.take_of_length_le (h5 e he)] at h3
    omega) (Nat.mul_le_mul_right 1548112371908568 hl)
set_option maxHeartbeats 8000000 in
theorem far26_con (l : List Ev6) (h : ∀ e ∈ l, OkZ e) (hl63 : l.length ≤ 9223372036854775807) : ACon Try.prog 5 [.p (.sl 44 (evs l))] (.p (B (farE l))) := by
  by_cases h1 : 100 < l.length
  · have e : farE l = true := by unfold farE; rw [decide_eq_true (by omega), Bool.true_or]
    rw [e]
    have h1' : (100 : Int) < l.length := by omega
    refine wBody Try.tab Try.mixed Try.func5 rfl rfl Try.ntmps5 (by simp) (by simp) fun Q hr hn => ?_
    repeat' first | (refine hK _ ?_; clear hK) | (refine hK _ _ ?_; clear hK) | (clear hK; refine hK _ ?_; clear hK) | (clear hK; clear hK; refine hK _ ?_; clear hK) | (clear hK; clear hK; clear hK; refine hK _ ?_; clear hK) | (clear hK; clear hK; clear hK; clear hK; refine hK _ ?_; clear hK) | (refine wSeq fun K hK => ?_) | ((first | refine wReg ?_ | refine wDrwQ rfl (by kernel_rfl) ?_ | refine wDrwI ?_ | refine wDrw (by kernel_rfl) ?_); simp only [List.map_cons, List.map_nil, strip]) | ((first | refine wIs fun K hK => ?_ | refine wOs fun K hK => ?_ | refine wQs fun K hK => ?_ | refine CallK_plain ?_ | refine CallQ_plain ?_ | refine CallR_plain ?_ | refine wCond ?_); simp [h1, h1']) | (refine wIn ?_; refine And.intro (by kernel_rfl) ?_; try simp only [thenA_n]) | (first | refine wBlock ?_ | refine wScope ?_) | ((first | refine wRet ?_ | refine wExit ?_ | refine wSkip ?_); try simp) | ((first | refine wLabel ?_ | refine wOn ?_ | refine wQn ?_); try simp only [thenA_n])
    all_goals apply hr
    all_goals simp [Try.f5]
  have h1' : ¬ (100 : Int) < l.length := by omega
  refine wBody Try.tab Try.mixed Try.func5 rfl rfl Try.ntmps5 (by simp) (by simp) fun Q hr hn => ?_
  repeat' first | (refine hK _ ?_; clear hK) | (refine hK _ _ ?_; clear hK) | (clear hK; refine hK _ ?_; clear hK) | (clear hK; clear hK; refine hK _ ?_; clear hK) | (clear hK; clear hK; clear hK; refine hK _ ?_; clear hK) | (clear hK; clear hK; clear hK; clear hK; refine hK _ ?_; clear hK) | (refine wSeq fun K hK => ?_) | ((first | refine wReg ?_ | refine wDrwQ rfl (by kernel_rfl) ?_ | refine wDrwI ?_ | refine wDrw (by kernel_rfl) ?_); simp only [List.map_cons, List.map_nil, strip]) | ((first | refine wIs fun K hK => ?_ | refine wOs fun K hK => ?_ | refine wQs fun K hK => ?_ | refine CallK_plain ?_ | refine CallQ_plain ?_ | refine CallR_plain ?_ | refine wCond ?_); simp [h1, h1']) | (refine wIn ?_; refine And.intro (by kernel_rfl) ?_; try simp only [thenA_n]) | (first | refine wBlock ?_ | refine wScope ?_) | ((first | refine wRet ?_ | refine wExit ?_ | refine wSkip ?_); try simp) | ((first | refine wLabel ?_ | refine wOn ?_ | refine wQn ?_); try simp only [thenA_n])
  refine wLoop (fun N st => ∃ (k m : Nat), k + N = l.length ∧ (∀ e ∈ l.take k, e.r.ops.length ≤ 50) ∧ m = tot (l.take k) ∧ st.s 0 = .p (.sl 44 (evs l)) ∧ st.s 4 = .p (I k) ∧ st.s 3 = .p (I m)) l.length ⟨0, 0, by simp [tot]⟩ fun K N st hL ⟨k, m, hk, h5, hm, g0, g4, g3⟩ => ?_
  by_cases hlt : k < l.length
  · have hlt' : (k : Int) < l.length := by omega
    have hw := wrapS k _ hlt (by omega)
    have he := evs_get hlt
    have hb2 := tot_bd (fun e he => h e (List.mem_of_mem_take he)) h5 (by rw [List.length_take]; omega)
    rw [← hm] at hb2
    have ho := h _ (List.getElem_mem hlt)
    have hs := tot_take hlt
    have hin : ∀ e ∈ l.take (k + 1), l[k].r.ops.length ≤ 50 → e.r.ops.length ≤ 50 := fun e he h6 => by
      rw [List.take_succ_eq_append_getElem hlt] at he
      rcases List.mem_append.1 he with he | he
      · exact h5 e he
      · simp at he; rw [he]; exact h6
    have hany : 50 < l[k].r.ops.length → farE l = true := fun h6 => by
      unfold farE
      rw [show l.any (fun e => decide (50 < e.r.ops.length)) = true from List.any_eq_true.2 ⟨_, List.getElem_mem hlt, decide_eq_true h6⟩]
      simp
    generalize hE : l[k] = e at *
    obtain ⟨os, hos, hob⟩ := ho.os
    have b1 := ho.o; have b2 := ho.p; have b3 := ho.d; have b4 := ho.n; have b5 := ho.pa; have b6 := ho.ma; have b7 := ho.wo
    have hce : cEv e = e.r.ops.length + e.r.put.length + e.r.drop.length + e.w.nm.length + (e.w.pa.length + e.w.ma.length) / 20 + e.w.r.ops.length := rfl
    obtain ⟨ek, en, ⟨rk, rs, rx, rdk, rwe, rwn, rops, rput, rdrop⟩, ⟨wcl, wsv, wkd, wxi, wss, wae, wan, ⟨qk, qs, qx, qdk, qwe, qwn, qops, qput, qdrop⟩, wrd, wpa, wwa, wer, wma, wnp, wnd, wnv, wnk, wno, wnm, wnt⟩⟩ := e
    unfold Ev6.cells at he
    simp only at he b1 b2 b3 b4 b5 b6 b7 hos hce hs hin hany
    subst hos
    rw [ops6_len] at b1 hce hin hany
    have hcell := Option.some.inj ((List.getElem?_eq_getElem (by simpa using hlt : k < (evs l).length)).symm.trans he)
    have c1 : os.length < 9223372036854775808 := by omega
    have w1 : IntKind.i64.wrap ((os.length : Int) + rput.length) = ((os.length + rput.length : Nat) : Int) := by rw [wrap_id] <;> omega
    have w2 : IntKind.i64.wrap (((os.length + rput.length : Nat) : Int) + rdrop.length) = ((os.length + rput.length + rdrop.length : Nat) : Int) := by rw [wrap_id] <;> omega
    have w3 : IntKind.i64.wrap (((os.length + rput.length + rdrop.length : Nat) : Int) + wnm.length) = ((os.length + rput.length + rdrop.length + wnm.length : Nat) : Int) := by rw [wrap_id] <;> omega
    have w4 : IntKind.i64.wrap ((wpa.length : Int) + wma.length) = ((wpa.length + wma.length : Nat) : Int) := by rw [wrap_id] <;> omega
    have w5 : IntKind.i64.wrap ((((wpa.length + wma.length : Nat) : Int)).tdiv 20) = (((wpa.length + wma.length) / 20 : Nat) : Int) := by
      rw [Int.tdiv_eq_ediv_of_nonneg (by omega), wrap_id] <;> omega
    have w6 : IntKind.i64.wrap (((os.length + rput.length + rdrop.length + wnm.length : Nat) : Int) + (((wpa.length + wma.length) / 20 : Nat) : Int)) = ((os.length + rput.length + rdrop.length + wnm.length + (wpa.length + wma.length) / 20 : Nat) : Int) := by rw [wrap_id] <;> omega
    have w7 : IntKind.i64.wrap (((os.length + rput.length + rdrop.length + wnm.length + (wpa.length + wma.length) / 20 : Nat) : Int) + qops.length) = ((os.length + rput.length + rdrop.length + wnm.length + (wpa.length + wma.length) / 20 + qops.length : Nat) : Int) := by rw [wrap_id] <;> omega
    rw [← hce] at w7
    have w8 : IntKind.i64.wrap ((m : Int) + (cEv ⟨ek, en, ⟨rk, rs, rx, rdk, rwe, rwn, ops6 os, rput, rdrop⟩, ⟨wcl, wsv, wkd, wxi, wss, wae, wan, ⟨qk, qs, qx, qdk, qwe, qwn, qops, qput, qdrop⟩, wrd, wpa, wwa, wer, wma, wnp, wnd, wnv, wnk, wno, wnm, wnt⟩⟩ : Nat)) = ((m + cEv ⟨ek, en, ⟨rk, rs, rx, rdk, rwe, rwn, ops6 os, rput, rdrop⟩, ⟨wcl, wsv, wkd, wxi, wss, wae, wan, ⟨qk, qs, qx, qdk, qwe, qwn, qops, qput, qdrop⟩, wrd, wpa, wwa, wer, wma, wnp, wnd, wnv, wnk, wno, wnm, wnt⟩⟩ : Nat) : Int) := by
      have := ho.c
      rw [wrap_id] <;> omega
    have hcb := ho.c
    generalize cEv ⟨ek, en, ⟨rk, rs, rx, rdk, rwe, rwn, ops6 os, rput, rdrop⟩, ⟨wcl, wsv, wkd, wxi, wss, wae, wan, ⟨qk, qs, qx, qdk, qwe, qwn, qops, qput, qdrop⟩, wrd, wpa, wwa, wer, wma, wnp, wnd, wnv, wnk, wno, wnm, wnt⟩⟩ = ce at *
    generalize os.length + rput.length + rdrop.length + wnm.length + (wpa.length + wma.length) / 20 = t5 at *
    generalize (wpa.length + wma.length) / 20 = t4 at *
    generalize hS : wpa.length + wma.length = t0 at *
    have w5' : IntKind.i64.wrap ((t0 : Int) / 20) = (t4 : Int) := by rw [Int.tdiv_eq_ediv_of_nonneg (by omega)] at w5; exact w5
    generalize hA : os.length + rput.length + rdrop.length + wnm.length = t3 at *
    generalize hB : os.length + rput.length + rdrop.length = t2 at *
    generalize hC : os.length + rput.length = t1 at *
    clear ho hce
    by_cases h6 : os.length ≤ 50
    case neg =>
      have h6' : (50 : Int) < os.length := by omega
      have h6n : 50 < os.length := by omega
      rw [hany h6n] at hr
      clear hL hany hin
      repeat' first | (refine hK _ ?_; clear hK) | (refine hK _ _ ?_; clear hK) | (clear hK; refine hK _ ?_; clear hK) | (clear hK; clear hK; refine hK _ ?_; clear hK) | (clear hK; clear hK; clear hK; refine hK _ ?_; clear hK) | (clear hK; clear hK; clear hK; clear hK; refine hK _ ?_; clear hK) | (refine wSeq fun K hK => ?_) | ((first | refine wReg ?_ | refine wDrwQ rfl (by kernel_rfl) ?_ | refine wDrwI ?_ | refine wDrw (by kernel_rfl) ?_); simp only [List.map_cons, List.map_nil, strip]) | ((first | refine wIs fun K hK => ?_ | refine wOs fun K hK => ?_ | refine wQs fun K hK => ?_ | refine CallK_plain ?_ | refine CallQ_plain ?_ | refine CallR_plain ?_ | refine wCond ?_); simp [g0, g4, g3, hlt, hlt', hw, he, hcell, c1, w1, w2, w3, w4, w5, w5', w6, w7, w8, h6', h6n]) | (refine wIn ?_; refine And.intro (by kernel_rfl) ?_; try simp only [thenA_n]) | (first | refine wBlock ?_ | refine wScope ?_) | ((first | refine wRet ?_ | refine wExit ?_ | refine wSkip ?_); try simp) | ((first | refine wLabel ?_ | refine wOn ?_ | refine wQn ?_); try simp only [thenA_n])
      all_goals apply hr
      all_goals simp [Try.f5]
    have h6' : ¬ (50 : Int) < os.length := by omega
    have h6n : ¬ 50 < os.length := by omega
    repeat' first | (refine hK _ ?_; clear hK) | (refine hK _ _ ?_; clear hK) | (clear hK; refine hK _ ?_; clear hK) | (clear hK; clear hK; refine hK _ ?_; clear hK) | (clear hK; clear hK; clear hK; refine hK _ ?_; clear hK) | (clear hK; clear hK; clear hK; clear hK; refine hK _ ?_; clear hK) | (refine wSeq fun K hK => ?_) | ((first | refine wReg ?_ | refine wDrwQ rfl (by kernel_rfl) ?_ | refine wDrwI ?_ | refine wDrw (by kernel_rfl) ?_); simp only [List.map_cons, List.map_nil, strip]) | ((first | refine wIs fun K hK => ?_ | refine wOs fun K hK => ?_ | refine wQs fun K hK => ?_ | refine CallK_plain ?_ | refine CallQ_plain ?_ | refine CallR_plain ?_ | refine wCond ?_); simp [g0, g4, g3, hlt, hlt', hw, he, hcell, c1, w1, w2, w3, w4, w5, w5', w6, w7, w8, h6', h6n]) | (refine wIn ?_; refine And.intro (by kernel_rfl) ?_; try simp only [thenA_n]) | (first | refine wBlock ?_ | refine wScope ?_) | ((first | refine wRet ?_ | refine wExit ?_ | refine wSkip ?_); try simp) | ((first | refine wLabel ?_ | refine wOn ?_ | refine wQn ?_); try simp only [thenA_n])
    refine wLoop (fun M st => ∃ (j n : Nat), j + M = os.length ∧ n = m + ce + osum ((ops6 os).take j) ∧ st.s 0 = .p (.sl 44 (evs l)) ∧ st.s 4 = .p (I k) ∧ st.s 3 = .p (I n) ∧ st.s 5 = .ptr 5 0 ∧ st.b 5 = some (.box 40 [.p (I rk), .p (I rs), .p (I rx), .p (.sl 6 (ops6 os)), .p (I rdk), .p (.sl 4 rput), .p (.sl 1 rdrop), .p (I rwe), .p (I rwn)]) ∧ st.s 7 = .p (I j)) os.length ⟨0, m + ce, by simp [osum, g0, g4]⟩ fun K2 M st hM ⟨j, n, hj, hn, g0, g4, g3, g5, b5, g7⟩ => ?_
    by_cases hjt : j < os.length
    · have hjt' : (j : Int) < os.length := by omega
      have hwj := wrapS j _ hjt (by omega)
      have hej := ops6_get hjt
      have hst := osum_take (l := ops6 os) (k := j) (by simpa using hjt)
      have hol : oLen ((ops6 os)[j]'(by simpa using hjt)) = (os[j].pa.length + os[j].da.length) / 20 := by simp [oLen, sLen]
      rw [hol] at hst
      have hbj := hob _ (List.getElem_mem hjt)
      have hbs := osum_bd hob j (by omega)
      generalize hQ : os[j] = q at *
      have v1 : IntKind.i64.wrap ((q.pa.length : Int) + q.da.length) = ((q.pa.length + q.da.length : Nat) : Int) := by rw [wrap_id] <;> omega
      have v2 : IntKind.i64.wrap (((q.pa.length + q.da.length : Nat) : Int).tdiv 20) = (((q.pa.length + q.da.length) / 20 : Nat) : Int) := by
        rw [Int.tdiv_eq_ediv_of_nonneg (by omega), wrap_id] <;> omega
      have v3 : IntKind.i64.wrap ((n : Int) + (((q.pa.length + q.da.length) / 20 : Nat) : Int)) = ((n + (q.pa.length + q.da.length) / 20 : Nat) : Int) := by rw [wrap_id] <;> omega
      generalize (q.pa.length + q.da.length) / 20 = t7 at *
      generalize hD : q.pa.length + q.da.length = t6 at *
      have v2' : IntKind.i64.wrap ((t6 : Int) / 20) = (t7 : Int) := by rw [Int.tdiv_eq_ediv_of_nonneg (by omega)] at v2; exact v2
      repeat' first | (refine hK _ ?_; clear hK) | (refine hK _ _ ?_; clear hK) | (clear hK; refine hK _ ?_; clear hK) | (clear hK; clear hK; refine hK _ ?_; clear hK) | (clear hK; clear hK; clear hK; refine hK _ ?_; clear hK) | (clear hK; clear hK; clear hK; clear hK; refine hK _ ?_; clear hK) | (refine wSeq fun K hK => ?_) | ((first | refine wReg ?_ | refine wDrwQ rfl (by kernel_rfl) ?_ | refine wDrwI ?_ | refine wDrw (by kernel_rfl) ?_); simp only [List.map_cons, List.map_nil, strip]) | ((first | refine wIs fun K hK => ?_ | refine wOs fun K hK => ?_ | refine wQs fun K hK => ?_ | refine CallK_plain ?_ | refine CallQ_plain ?_ | refine CallR_plain ?_ | refine wCond ?_); simp [g0, g4, g3, g5, b5, g7, hjt, hjt', hwj, hej, hQ, v1, v2, v2', v3, c1]) | (refine wIn ?_; refine And.intro (by kernel_rfl) ?_; try simp only [thenA_n]) | (first | refine wBlock ?_ | refine wScope ?_) | ((first | refine wRet ?_ | refine wExit ?_ | refine wSkip ?_); try simp) | ((first | refine wLabel ?_ | refine wOn ?_ | refine wQn ?_); try simp only [thenA_n])
      all_goals refine hM _ (M - 1) (by omega) ⟨j + 1, n + t7, by omega, by omega, ?_⟩
      all_goals simp [g0, g4, g3, g5, b5, g7, hwj, v3, v2, v2']
    · have hjt' : ¬ (j : Int) < os.length := by omega
      rw [List.take_of_length_le (by rw [ops6_len]; omega)] at hn
      repeat' first | (refine hK _ ?_; clear hK) | (refine hK _ _ ?_; clear hK) | (clear hK; refine hK _ ?_; clear hK) | (clear hK; clear hK; refine hK _ ?_; clear hK) | (clear hK; clear hK; clear hK; refine hK _ ?_; clear hK) | (clear hK; clear hK; clear hK; clear hK; refine hK _ ?_; clear hK) | (refine wSeq fun K hK => ?_) | ((first | refine wReg ?_ | refine wDrwQ rfl (by kernel_rfl) ?_ | refine wDrwI ?_ | refine wDrw (by kernel_rfl) ?_); simp only [List.map_cons, List.map_nil, strip]) | ((first | refine wIs fun K hK => ?_ | refine wOs fun K hK => ?_ | refine wQs fun K hK => ?_ | refine CallK_plain ?_ | refine CallQ_plain ?_ | refine CallR_plain ?_ | refine wCond ?_); simp [g0, g4, g3, g5, b5, g7, hjt, hjt', hw, c1]) | (refine wIn ?_; refine And.intro (by kernel_rfl) ?_; try simp only [thenA_n]) | (first | refine wBlock ?_ | refine wScope ?_) | ((first | refine wRet ?_ | refine wExit ?_ | refine wSkip ?_); try simp) | ((first | refine wLabel ?_ | refine wOn ?_ | refine wQn ?_); try simp only [thenA_n])
      all_goals refine hL _ (N - 1) (by omega) ⟨k + 1, n, by omega, fun e he => hin e he h6, by omega, ?_⟩
      all_goals simp [g0, g4, g3, g5, b5, g7, hw]
  · have hlt' : ¬ (k : Int) < l.length := by omega
    rw [List.take_of_length_le (by omega)] at h5 hm
    have e1 : farE l = (decide (500 < m) || decide (90 < l.length)) := by
      unfold farE
      rw [decide_eq_false h1, show l.any (fun e => decide (50 < e.r.ops.length)) = false from List.any_eq_false.2 fun e he => by have := h5 e he; simp; omega, hm]
      simp
    rw [e1] at hr
    by_cases h2 : 500 < m
    · have h2' : (500 : Int) < m := by omega
      repeat' first | (refine hK _ ?_; clear hK) | (refine hK _ _ ?_; clear hK) | (clear hK; refine hK _ ?_; clear hK) | (clear hK; clear hK; refine hK _ ?_; clear hK) | (clear hK; clear hK; clear hK; refine hK _ ?_; clear hK) | (clear hK; clear hK; clear hK; clear hK; refine hK _ ?_; clear hK) | (refine wSeq fun K hK => ?_) | ((first | refine wReg ?_ | refine wDrwQ rfl (by kernel_rfl) ?_ | refine wDrwI ?_ | refine wDrw (by kernel_rfl) ?_); simp only [List.map_cons, List.map_nil, strip]) | ((first | refine wIs fun K hK => ?_ | refine wOs fun K hK => ?_ | refine wQs fun K hK => ?_ | refine CallK_plain ?_ | refine CallQ_plain ?_ | refine CallR_plain ?_ | refine wCond ?_); simp [g0, g4, g3, hlt, hlt', h2, h2']) | (refine wIn ?_; refine And.intro (by kernel_rfl) ?_; try simp only [thenA_n]) | (first | refine wBlock ?_ | refine wScope ?_) | ((first | refine wRet ?_ | refine wExit ?_ | refine wSkip ?_); try simp) | ((first | refine wLabel ?_ | refine wOn ?_ | refine wQn ?_); try simp only [thenA_n])
      all_goals apply hr
      all_goals simp [Try.f5, h2]
    · have h2' : ¬ (500 : Int) < m := by omega
      by_cases h3 : 90 < l.length
      · have h3' : (90 : Int) < l.length := by omega
        repeat' first | (refine hK _ ?_; clear hK) | (refine hK _ _ ?_; clear hK) | (clear hK; refine hK _ ?_; clear hK) | (clear hK; clear hK; refine hK _ ?_; clear hK) | (clear hK; clear hK; clear hK; refine hK _ ?_; clear hK) | (clear hK; clear hK; clear hK; clear hK; refine hK _ ?_; clear hK) | (refine wSeq fun K hK => ?_) | ((first | refine wReg ?_ | refine wDrwQ rfl (by kernel_rfl) ?_ | refine wDrwI ?_ | refine wDrw (by kernel_rfl) ?_); simp only [List.map_cons, List.map_nil, strip]) | ((first | refine wIs fun K hK => ?_ | refine wOs fun K hK => ?_ | refine wQs fun K hK => ?_ | refine CallK_plain ?_ | refine CallQ_plain ?_ | refine CallR_plain ?_ | refine wCond ?_); simp [g0, g4, g3, hlt, hlt', h2, h2', h3, h3']) | (refine wIn ?_; refine And.intro (by kernel_rfl) ?_; try simp only [thenA_n]) | (first | refine wBlock ?_ | refine wScope ?_) | ((first | refine wRet ?_ | refine wExit ?_ | refine wSkip ?_); try simp) | ((first | refine wLabel ?_ | refine wOn ?_ | refine wQn ?_); try simp only [thenA_n])
        all_goals apply hr
        all_goals simp [Try.f5, h2, h3]
      · have h3' : ¬ (90 : Int) < l.length := by omega
        repeat' first | (refine hK _ ?_; clear hK) | (refine hK _ _ ?_; clear hK) | (clear hK; refine hK _ ?_; clear hK) | (clear hK; clear hK; refine hK _ ?_; clear hK) | (clear hK; clear hK; clear hK; refine hK _ ?_; clear hK) | (clear hK; clear hK; clear hK; clear hK; refine hK _ ?_; clear hK) | (refine wSeq fun K hK => ?_) | ((first | refine wReg ?_ | refine wDrwQ rfl (by kernel_rfl) ?_ | refine wDrwI ?_ | refine wDrw (by kernel_rfl) ?_); simp only [List.map_cons, List.map_nil, strip]) | ((first | refine wIs fun K hK => ?_ | refine wOs fun K hK => ?_ | refine wQs fun K hK => ?_ | refine CallK_plain ?_ | refine CallQ_plain ?_ | refine CallR_plain ?_ | refine wCond ?_); simp [g0, g4, g3, hlt, hlt', h2, h2', h3, h3']) | (refine wIn ?_; refine And.intro (by kernel_rfl) ?_; try simp only [thenA_n]) | (first | refine wBlock ?_ | refine wScope ?_) | ((first | refine wRet ?_ | refine wExit ?_ | refine wSkip ?_); try simp) | ((first | refine wLabel ?_ | refine wOn ?_ | refine wQn ?_); try simp only [thenA_n])
        all_goals apply hr
        all_goals simp [Try.f5, h2, h3]
theorem farE_not {l : List Ev6} (h : farE l = false) : l.length ≤ 90 ∧ tot l ≤ 500 := by
  unfold farE at h
  simp only [Bool.or_eq_false_iff, decide_eq_false_iff_not] at h
  omega
theorem tot_mem {l : List Ev6} {e : Ev6} (h : e ∈ l) : cEv e ≤ tot l := by
  induction l with
  | nil => simp at h
  | cons f l ih =>
    have e1 : tot (f :: l) = cEv f + osum f.r.ops + tot l := by simp [tot]
    rw [e1]
    rcases List.mem_cons.1 h with rfl | h
    · omega
    · have := ih h; omega
theorem farE_ok {l : List Ev6} (h : farE l = false) {e : Ev6} (he : e ∈ l) (hz : OkZ e) : OkR e.r ∧ OkW e.w := by
  have h1 := farE_not h
  have h2 := tot_mem he
  unfold cEv at h2
  exact ⟨⟨by omega, hz.p, hz.d⟩, ⟨⟨by omega, hz.wp, hz.wd⟩, by omega⟩⟩
/- Clients: the law ClientPlays. -/
/-- What holds of a client behind so many events. -/
structure InvP (c : Cl) (k : Nat) : Prop where
  n : c.nt.length ≤ k
  x : 0 ≤ c.xi ∧ c.xi ≤ 4194304 + k
  q : c.wt = 0 → c.rd = 0
  s : okI c.ss
theorem newC_invP (n : Int) : InvP (newC n) 0 := by
  unfold newC
  split
  · exact ⟨by simp, ⟨by simp only; omega, by simp only; omega⟩, fun _ => rfl, okI0⟩
  · exact ⟨by simp, ⟨by simp, by simp⟩, fun _ => rfl, okI0⟩
/-- What the bounds give of an event. -/
structure OkE (e : Ev6) : Prop where
  z : OkZ e
  r : e.r.ops.length ≤ 500 → OkQ e.r
  w : e.w.r.ops.length ≤ 500 → OkV e.w
  s : okI e.w.ss
theorem cEv_ops {l : List Ev6} (h : farE l = false) {e : Ev6} (he : e ∈ l) : e.r.ops.length ≤ 500 ∧ e.w.r.ops.length ≤ 500 := by
  have h1 := farE_not h
  have h2 := tot_mem he
  unfold cEv at h2
  omega
set_option maxHeartbeats 16000000 in
theorem clientPlays_con (n : Int) (l : List Ev6) (hz : ∀ e ∈ l, OkE e) (l63 : l.length ≤ 9223372036854775807) :
    ACon Try.prog 3 [.p (I n), .p (.sl 44 (evs l))] (.p (B true)) := by
  have cf := far26_con l (fun e he => (hz e he).z) l63
  have cn := newC_con n
  have cm := newC26_con n
  have hi := newC_invP n
  cases f1 : farE l with
  | true =>
    rw [f1] at cf
    clear cn cm hi
    refine wBody Try.tab Try.mixed Try.func3 rfl rfl Try.ntmps3 (by simp) (by simp) fun Q hr hn => ?_
    repeat' first | (refine hK _ ?_; clear hK) | (refine hK _ _ ?_; clear hK) | (clear hK; refine hK _ ?_; clear hK) | (clear hK; clear hK; refine hK _ ?_; clear hK) | (clear hK; clear hK; clear hK; refine hK _ ?_; clear hK) | (clear hK; clear hK; clear hK; clear hK; refine hK _ ?_; clear hK) | (refine wSeq fun K hK => ?_) | ((first | refine wReg ?_ | refine wDrwQ rfl (by kernel_rfl) ?_ | refine wDrwI ?_ | refine wDrw (by kernel_rfl) ?_); simp only [List.map_cons, List.map_nil, strip]) | ((first | refine wIs fun K hK => ?_ | refine wOs fun K hK => ?_ | refine wQs fun K hK => ?_ | refine CallK_plain ?_ | refine CallQ_plain ?_ | refine CallR_plain ?_ | refine wCond ?_); simp) | (refine wIn ?_; refine And.intro (by kernel_rfl) ?_; try simp only [thenA_n]) | (first | refine wBlock ?_ | refine wScope ?_) | ((first | refine wRet ?_ | refine wExit ?_ | refine wSkip ?_); try simp) | ((first | refine wLabel ?_ | refine wOn ?_ | refine wQn ?_); try simp only [thenA_n]) | (refine CallE.pure (cf) rfl ?_) | (refine CallE.lent (cf) rfl ?_) | (refine CallF.pure (cf) rfl ?_) | (refine CallF.lent (cf) rfl ?_) | (refine CallE.own (cf) ?_) | (refine CallH.pure (cf) rfl ?_) | (refine CallH.lent (cf) rfl ?_) | (refine CallH.own (cf) ?_) | (refine CallE.pure (awake26) rfl ?_) | (refine CallE.lent (awake26) rfl ?_) | (refine CallF.pure (awake26) rfl ?_) | (refine CallF.lent (awake26) rfl ?_) | (refine CallE.own (awake26) ?_) | (refine CallH.pure (awake26) rfl ?_) | (refine CallH.lent (awake26) rfl ?_) | (refine CallH.own (awake26) ?_)
    all_goals apply hr
    all_goals simp [Try.f3]
  | false =>
  rw [f1] at cf
  have hfar := farE_not f1
  generalize newC n = c0 at cn cm hi
  generalize newE n = e0 at cn cm
  have cs := same26_con c0 (by have := hi.n; omega)
  unfold Cl.cells at cn cm cs
  refine wBody Try.tab Try.mixed Try.func3 rfl rfl Try.ntmps3 (by simp) (by simp) fun Q hr hn => ?_
  repeat' first | (refine hK _ ?_; clear hK) | (refine hK _ _ ?_; clear hK) | (clear hK; refine hK _ ?_; clear hK) | (clear hK; clear hK; refine hK _ ?_; clear hK) | (clear hK; clear hK; clear hK; refine hK _ ?_; clear hK) | (clear hK; clear hK; clear hK; clear hK; refine hK _ ?_; clear hK) | (refine wSeq fun K hK => ?_) | ((first | refine wReg ?_ | refine wDrwQ rfl (by kernel_rfl) ?_ | refine wDrwI ?_ | refine wDrw (by kernel_rfl) ?_); simp only [List.map_cons, List.map_nil, strip]) | ((first | refine wIs fun K hK => ?_ | refine wOs fun K hK => ?_ | refine wQs fun K hK => ?_ | refine CallK_plain ?_ | refine CallQ_plain ?_ | refine CallR_plain ?_ | refine wCond ?_); simp) | (refine wIn ?_; refine And.intro (by kernel_rfl) ?_; try simp only [thenA_n]) | (first | refine wBlock ?_ | refine wScope ?_) | ((first | refine wRet ?_ | refine wExit ?_ | refine wSkip ?_); try simp) | ((first | refine wLabel ?_ | refine wOn ?_ | refine wQn ?_); try simp only [thenA_n]) | (refine CallE.pure (cf) rfl ?_) | (refine CallE.lent (cf) rfl ?_) | (refine CallF.pure (cf) rfl ?_) | (refine CallF.lent (cf) rfl ?_) | (refine CallE.own (cf) ?_) | (refine CallH.pure (cf) rfl ?_) | (refine CallH.lent (cf) rfl ?_) | (refine CallH.own (cf) ?_) | (refine CallE.pure (cn) rfl ?_) | (refine CallE.lent (cn) rfl ?_) | (refine CallF.pure (cn) rfl ?_) | (refine CallF.lent (cn) rfl ?_) | (refine CallE.own (cn) ?_) | (refine CallH.pure (cn) rfl ?_) | (refine CallH.lent (cn) rfl ?_) | (refine CallH.own (cn) ?_) | (refine CallE.pure (cm) rfl ?_) | (refine CallE.lent (cm) rfl ?_) | (refine CallF.pure (cm) rfl ?_) | (refine CallF.lent (cm) rfl ?_) | (refine CallE.own (cm) ?_) | (refine CallH.pure (cm) rfl ?_) | (refine CallH.lent (cm) rfl ?_) | (refine CallH.own (cm) ?_) | (refine CallE.pure (cs) rfl ?_) | (refine CallE.lent (cs) rfl ?_) | (refine CallF.pure (cs) rfl ?_) | (refine CallF.lent (cs) rfl ?_) | (refine CallE.own (cs) ?_) | (refine CallH.pure (cs) rfl ?_) | (refine CallH.lent (cs) rfl ?_) | (refine CallH.own (cs) ?_)
  refine wLoop (fun N st => ∃ (k : Nat) (c : Cl), k + N = l.length ∧ InvP c k ∧ st.s 7 = .ptr 7 0 ∧ st.b 7 = some (.box 29 [.p (I c.id), .p (I c.sv), .p (I c.ph), .p (I c.ss), .p (I c.se), .p (I c.sn), .p (I c.xi), .p (I c.wt), .p (I c.rd), .p (.sl 6 (nts c.nt))]) ∧ st.s 41 = .p (.sl 44 (evs l)) ∧ st.s 42 = .p (I l.length) ∧ st.s 43 = .p (I k)) l.length ⟨0, c0, by simp, hi, by simp⟩ fun K N st hL ⟨k, c, hk, hI, g7, b7, g41, g42, g43⟩ => ?_
  clear cf cn cm cs
  by_cases hlt : k < l.length
  case neg =>
    have hlt' : ¬ (k : Int) < l.length := by omega
    repeat' first | (refine hK _ ?_; clear hK) | (refine hK _ _ ?_; clear hK) | (clear hK; refine hK _ ?_; clear hK) | (clear hK; clear hK; refine hK _ ?_; clear hK) | (clear hK; clear hK; clear hK; refine hK _ ?_; clear hK) | (clear hK; clear hK; clear hK; clear hK; refine hK _ ?_; clear hK) | (refine wSeq fun K hK => ?_) | ((first | refine wReg ?_ | refine wDrwQ rfl (by kernel_rfl) ?_ | refine wDrwI ?_ | refine wDrw (by kernel_rfl) ?_); simp only [List.map_cons, List.map_nil, strip]) | ((first | refine wIs fun K hK => ?_ | refine wOs fun K hK => ?_ | refine wQs fun K hK => ?_ | refine CallK_plain ?_ | refine CallQ_plain ?_ | refine CallR_plain ?_ | refine wCond ?_); simp [g7, b7, g41, g42, g43, hlt, hlt']) | (refine wIn ?_; refine And.intro (by kernel_rfl) ?_; try simp only [thenA_n]) | (first | refine wBlock ?_ | refine wScope ?_) | ((first | refine wRet ?_ | refine wExit ?_ | refine wSkip ?_); try simp) | ((first | refine wLabel ?_ | refine wOn ?_ | refine wQn ?_); try simp only [thenA_n]) | (refine CallE.pure (awake26) rfl ?_) | (refine CallE.lent (awake26) rfl ?_) | (refine CallF.pure (awake26) rfl ?_) | (refine CallF.lent (awake26) rfl ?_) | (refine CallE.own (awake26) ?_) | (refine CallH.pure (awake26) rfl ?_) | (refine CallH.lent (awake26) rfl ?_) | (refine CallH.own (awake26) ?_)
    all_goals apply hr
    all_goals simp [Try.f3]
  have hlt' : (k : Int) < l.length := by omega
  have hw := wrapS k _ hlt (by omega)
  have he := evs_get hlt
  have hE := hz _ (List.getElem_mem hlt)
  have hok := farE_ok f1 (List.getElem_mem hlt) hE.z
  have hop := cEv_ops f1 (List.getElem_mem hlt)
  have hIx := hI.x
  have hIn := hI.n
  have ca := act_con c l[k] (by omega) ⟨by omega, hIx.1⟩ hok.1 hok.2
  have ci := ideal_con c l[k] (by omega) ⟨by omega, hIx.1⟩ hok.1 hok.2 hI.q
  have hS := actM_sees c l[k]
  have hq := actM_quiet c l[k] hI.q hIx.1
  have hs := actM_ss c l[k] hI.s hE.s
  obtain ⟨ws, e1, w1, w2⟩ := actM_ws c l[k] hI.s ⟨by omega, by omega⟩ (hE.r hop.1)
  obtain ⟨rs, e2, r1, r2⟩ := actM_rs c l[k] (hE.w hop.2)
  have hj : InvP (actM c l[k]).d (k + 1) := ⟨by have := hS.n; omega, by have := hS.x; omega, hq, hs⟩
  have cw := sameW_con ws w1 w2
  have cr := results_con rs r1 r2
  rw [e1, e2] at ca ci
  have cs := same26_con (actM c l[k]).d (by have := hj.n; omega)
  clear hS hq hs e1 e2 w1 r1 hok hE hz hop hI
  generalize (actM c l[k]).d = d at ca ci cs hj
  generalize (actM c l[k]).e = e at ca ci
  have hcell := Option.some.inj ((List.getElem?_eq_getElem (by simpa using hlt : k < (evs l).length)).symm.trans he)
  generalize l[k] = ev at he hcell ca ci
  unfold Ev6.cells at he hcell ca ci
  unfold Cl.cells at ca ci cs
  generalize wds ws = W at ca ci cw
  generalize rzs rs = R at ca ci cr
  repeat' first | (refine hK _ ?_; clear hK) | (refine hK _ _ ?_; clear hK) | (clear hK; refine hK _ ?_; clear hK) | (clear hK; clear hK; refine hK _ ?_; clear hK) | (clear hK; clear hK; clear hK; refine hK _ ?_; clear hK) | (clear hK; clear hK; clear hK; clear hK; refine hK _ ?_; clear hK) | (refine wSeq fun K hK => ?_) | ((first | refine wReg ?_ | refine wDrwQ rfl (by kernel_rfl) ?_ | refine wDrwI ?_ | refine wDrw (by kernel_rfl) ?_); simp only [List.map_cons, List.map_nil, strip]) | ((first | refine wIs fun K hK => ?_ | refine wOs fun K hK => ?_ | refine wQs fun K hK => ?_ | refine CallK_plain ?_ | refine CallQ_plain ?_ | refine CallR_plain ?_ | refine wCond ?_); simp [g7, b7, g41, g42, g43, hlt, hlt', hw, he, hcell]) | (refine wIn ?_; refine And.intro (by kernel_rfl) ?_; try simp only [thenA_n]) | (first | refine wBlock ?_ | refine wScope ?_) | ((first | refine wRet ?_ | refine wExit ?_ | refine wSkip ?_); try simp) | ((first | refine wLabel ?_ | refine wOn ?_ | refine wQn ?_); try simp only [thenA_n]) | (refine CallE.pure (ca) rfl ?_) | (refine CallE.lent (ca) rfl ?_) | (refine CallF.pure (ca) rfl ?_) | (refine CallF.lent (ca) rfl ?_) | (refine CallE.own (ca) ?_) | (refine CallH.pure (ca) rfl ?_) | (refine CallH.lent (ca) rfl ?_) | (refine CallH.own (ca) ?_) | (refine CallE.pure (ci) rfl ?_) | (refine CallE.lent (ci) rfl ?_) | (refine CallF.pure (ci) rfl ?_) | (refine CallF.lent (ci) rfl ?_) | (refine CallE.own (ci) ?_) | (refine CallH.pure (ci) rfl ?_) | (refine CallH.lent (ci) rfl ?_) | (refine CallH.own (ci) ?_) | (refine CallE.pure (cs) rfl ?_) | (refine CallE.lent (cs) rfl ?_) | (refine CallF.pure (cs) rfl ?_) | (refine CallF.lent (cs) rfl ?_) | (refine CallE.own (cs) ?_) | (refine CallH.pure (cs) rfl ?_) | (refine CallH.lent (cs) rfl ?_) | (refine CallH.own (cs) ?_) | (refine CallE.pure (cw) rfl ?_) | (refine CallE.lent (cw) rfl ?_) | (refine CallF.pure (cw) rfl ?_) | (refine CallF.lent (cw) rfl ?_) | (refine CallE.own (cw) ?_) | (refine CallH.pure (cw) rfl ?_) | (refine CallH.lent (cw) rfl ?_) | (refine CallH.own (cw) ?_) | (refine CallE.pure (cr) rfl ?_) | (refine CallE.lent (cr) rfl ?_) | (refine CallF.pure (cr) rfl ?_) | (refine CallF.lent (cr) rfl ?_) | (refine CallE.own (cr) ?_) | (refine CallH.pure (cr) rfl ?_) | (refine CallH.lent (cr) rfl ?_) | (refine CallH.own (cr) ?_)
  all_goals refine hL _ (N - 1) (by omega) ⟨k + 1, d, by omega, hj, ?_⟩
  all_goals simp [g7, b7, g41, g42, g43, hw]
end Go.Proofs.Ytefhnofdfnmiaaa
