/- Texts that the proof needs: CL6 CL7 CP1 CP2 CP3. -/
import Derived.Test.YtefhnofdfnmiaaaP22ClientPlays
/- Clients: an event; a client is the same as itself. -/
namespace Go.Proofs.Ytefhnofdfnmiaaa
set_option linter.unusedSimpArgs false
set_option linter.unusedVariables false
set_option maxRecDepth 8000
open Go Go.Av
attribute [local simp] Try.T1 Try.T2 Try.T3 Try.T4 Try.T5 Try.T9 Try.T12 Try.T15 Try.T16 Try.T17 Try.T21 Try.T22 Try.T23 Try.T24 Try.T26 Try.T27 Try.T29 Try.T30 Try.T32 Try.T33 Try.T34 Try.T35 Try.T36 Try.T38 Try.T40 Try.T42 Try.T43 Try.T45 Try.T47 Try.T49 Try.T50 Try.T51 Try.T53 Try.T54 Try.T55 Try.T56 Try.T57 Try.T59 Try.T61 Try.T63 Try.T65 Try.T66 Try.T67 Try.T69 Try.T70 Try.T71 Try.T72 Try.T73 Try.T74 Try.T75 Try.T76 Try.T78 Try.T79 Try.T80 Try.T81 Try.T82 Try.T83 Try.T84 Try.T85 Try.T86 Try.T87 Try.T88 Try.T89 Try.T90 Try.T91 Try.T92 Try.T93 Try.T94 Try.T95 Try.T96 Try.T97 Try.T98 Try.T99 Try.T101 Try.T102 Try.T103 Try.T104 Try.T105 Try.T106 Try.T107 Try.T108 Try.T109 Try.T112 Try.T115 Try.T116 Try.T119 Try.T120
attribute [local irreducible] Go.Av.CallK Go.Av.CallE Go.Av.CallQ Go.Av.CallF Go.Av.CallR Go.Av.CallH Go.Av.Con
/-- What happens to a client. -/
structure Ev6 where
  (k n : Int)
  (r : Rq)
  (w : Wd)
def Ev6.cells (e : Ev6) : List PV := [I e.k, I e.n, I e.r.k, I e.r.s, I e.r.x, .sl 6 e.r.ops, I e.r.dk, .sl 4 e.r.put, .sl 1 e.r.drop, I e.r.we, I e.r.wn, I e.w.cl, I e.w.sv, I e.w.kd, I e.w.xi, I e.w.ss, I e.w.ae, I e.w.an, I e.w.r.k, I e.w.r.s, I e.w.r.x, .sl 6 e.w.r.ops, I e.w.r.dk, .sl 4 e.w.r.put, .sl 1 e.w.r.drop, I e.w.r.we, I e.w.r.wn, I e.w.rd, SB e.w.pa, B e.w.wa, I e.w.er, SB e.w.ma, SB e.w.np, SB e.w.nd, I e.w.nv, I e.w.nk, I e.w.no, .sl 1 e.w.nm, I e.w.nt.s, I e.w.nt.k, SB e.w.nt.p, I e.w.nt.w, I e.w.nt.e, I e.w.nt.n]
structure AR6 where
  (d : Cl)
  (ws rs : List (List PV))
  (e : Int)
def actM (c : Cl) (e : Ev6) : AR6 :=
  if e.k = 0 then ⟨conC c e.n, [(conW c e.n).cells], rsE c, 0⟩ else if e.k = 1 then ⟨waitC c 0, askL c e.r, [], waitE c⟩
  else if e.k = 2 then ⟨rdC c e.n, rdL c e.n e.w.pa e.w.wa, [], rdE c e.n⟩ else if e.k = 3 then ⟨(hearC c e.w).1, [], (hearC c e.w).2, 0⟩
  else if e.k = 4 then ⟨lostC c, [], rsE c, 0⟩ else ⟨c, beatL c, [], 0⟩
set_option maxHeartbeats 4000000 in
theorem act_con (c : Cl) (e : Ev6) (hn : c.nt.length ≤ 1000000) (hx : c.xi ≤ 1000000000 ∧ 0 ≤ c.xi) (hr0 : OkR e.r) (hw : OkW e.w) : ACon Try.prog 10 [.p (.agg c.cells), .p (.agg e.cells)] (.tup [.p (.agg (actM c e).d.cells), .p (.sl 33 (actM c e).ws), .p (.sl 36 (actM c e).rs), .p (I (actM c e).e)]) := by
  have c0 := connect_con c e.n hn hx
  have c1 := ask_con c e.r hn hx hr0
  have c2 := readC_con c e.n e.w.pa e.w.wa hn hx
  have c3 := hear_con c e.w hn hw
  have c4 := lost_con c hn
  have c5 := beat_con c hn
  unfold actM
  obtain ⟨k, n, r, w⟩ := e
  dsimp only at *
  clear hr0 hw hx hn
  generalize conC c n = d0 at *
  generalize (conW c n).cells = w0 at *
  generalize rsE c = r0 at *
  generalize waitC c 0 = d1 at *
  generalize askL c r = w1 at *
  generalize waitE c = e1 at *
  generalize rdC c n = d2 at *
  generalize rdL c n w.pa w.wa = w2 at *
  generalize rdE c n = e2 at *
  generalize (hearC c w) = h3 at *
  generalize lostC c = d4 at *
  generalize beatL c = w5 at *
  unfold Ev6.cells
  unfold Cl.cells Rq.cells Wd.cells at *
  dsimp only at *
  by_cases h0 : k = 0
  · subst h0
    rw [if_pos rfl]
    clear c1 c2 c3 c4 c5
    refine wBody Try.tab Try.mixed Try.func10 rfl rfl Try.ntmps10 (by simp) (by simp) fun Q hr hn => ?_
    repeat' first | (refine hK _ ?_; clear hK) | (refine hK _ _ ?_; clear hK) | (clear hK; refine hK _ ?_; clear hK) | (clear hK; clear hK; refine hK _ ?_; clear hK) | (clear hK; clear hK; clear hK; refine hK _ ?_; clear hK) | (clear hK; clear hK; clear hK; clear hK; refine hK _ ?_; clear hK) | (refine wSeq fun K hK => ?_) | ((first | refine wReg ?_ | refine wDrwQ rfl (by kernel_rfl) ?_ | refine wDrwI ?_ | refine wDrw (by kernel_rfl) ?_); simp only [List.map_cons, List.map_nil, strip]) | ((first | refine wIs fun K hK => ?_ | refine wOs fun K hK => ?_ | refine wQs fun K hK => ?_ | refine CallK_plain ?_ | refine CallQ_plain ?_ | refine CallR_plain ?_ | refine wCond ?_); simp) | (refine wIn ?_; refine And.intro (by kernel_rfl) ?_; try simp only [thenA_n]) | (first | refine wBlock ?_ | refine wScope ?_) | ((first | refine wRet ?_ | refine wExit ?_ | refine wSkip ?_); try simp) | ((first | refine wLabel ?_ | refine wOn ?_ | refine wQn ?_); try simp only [thenA_n]) | (refine CallE.pure (c0) rfl ?_) | (refine CallE.lent (c0) rfl ?_) | (refine CallF.pure (c0) rfl ?_) | (refine CallF.lent (c0) rfl ?_) | (refine CallE.own (c0) ?_) | (refine CallH.pure (c0) rfl ?_) | (refine CallH.lent (c0) rfl ?_) | (refine CallH.own (c0) ?_)
    all_goals apply hr
    all_goals simp [Try.f10]
  rw [if_neg h0]
  by_cases h1 : k = 1
  · subst h1
    rw [if_pos rfl]
    clear c0 c2 c3 c4 c5
    refine wBody Try.tab Try.mixed Try.func10 rfl rfl Try.ntmps10 (by simp) (by simp) fun Q hr hn => ?_
    repeat' first | (refine hK _ ?_; clear hK) | (refine hK _ _ ?_; clear hK) | (clear hK; refine hK _ ?_; clear hK) | (clear hK; clear hK; refine hK _ ?_; clear hK) | (clear hK; clear hK; clear hK; refine hK _ ?_; clear hK) | (clear hK; clear hK; clear hK; clear hK; refine hK _ ?_; clear hK) | (refine wSeq fun K hK => ?_) | ((first | refine wReg ?_ | refine wDrwQ rfl (by kernel_rfl) ?_ | refine wDrwI ?_ | refine wDrw (by kernel_rfl) ?_); simp only [List.map_cons, List.map_nil, strip]) | ((first | refine wIs fun K hK => ?_ | refine wOs fun K hK => ?_ | refine wQs fun K hK => ?_ | refine CallK_plain ?_ | refine CallQ_plain ?_ | refine CallR_plain ?_ | refine wCond ?_); simp) | (refine wIn ?_; refine And.intro (by kernel_rfl) ?_; try simp only [thenA_n]) | (first | refine wBlock ?_ | refine wScope ?_) | ((first | refine wRet ?_ | refine wExit ?_ | refine wSkip ?_); try simp) | ((first | refine wLabel ?_ | refine wOn ?_ | refine wQn ?_); try simp only [thenA_n]) | (refine CallE.pure (c1) rfl ?_) | (refine CallE.lent (c1) rfl ?_) | (refine CallF.pure (c1) rfl ?_) | (refine CallF.lent (c1) rfl ?_) | (refine CallE.own (c1) ?_) | (refine CallH.pure (c1) rfl ?_) | (refine CallH.lent (c1) rfl ?_) | (refine CallH.own (c1) ?_)
    all_goals apply hr
    all_goals simp [Try.f10]
  rw [if_neg h1]
  by_cases h2 : k = 2
  · subst h2
    rw [if_pos rfl]
    clear c0 c1 c3 c4 c5
    refine wBody Try.tab Try.mixed Try.func10 rfl rfl Try.ntmps10 (by simp) (by simp) fun Q hr hn => ?_
    repeat' first | (refine hK _ ?_; clear hK) | (refine hK _ _ ?_; clear hK) | (clear hK; refine hK _ ?_; clear hK) | (clear hK; clear hK; refine hK _ ?_; clear hK) | (clear hK; clear hK; clear hK; refine hK _ ?_; clear hK) | (clear hK; clear hK; clear hK; clear hK; refine hK _ ?_; clear hK) | (refine wSeq fun K hK => ?_) | ((first | refine wReg ?_ | refine wDrwQ rfl (by kernel_rfl) ?_ | refine wDrwI ?_ | refine wDrw (by kernel_rfl) ?_); simp only [List.map_cons, List.map_nil, strip]) | ((first | refine wIs fun K hK => ?_ | refine wOs fun K hK => ?_ | refine wQs fun K hK => ?_ | refine CallK_plain ?_ | refine CallQ_plain ?_ | refine CallR_plain ?_ | refine wCond ?_); simp) | (refine wIn ?_; refine And.intro (by kernel_rfl) ?_; try simp only [thenA_n]) | (first | refine wBlock ?_ | refine wScope ?_) | ((first | refine wRet ?_ | refine wExit ?_ | refine wSkip ?_); try simp) | ((first | refine wLabel ?_ | refine wOn ?_ | refine wQn ?_); try simp only [thenA_n]) | (refine CallE.pure (c2) rfl ?_) | (refine CallE.lent (c2) rfl ?_) | (refine CallF.pure (c2) rfl ?_) | (refine CallF.lent (c2) rfl ?_) | (refine CallE.own (c2) ?_) | (refine CallH.pure (c2) rfl ?_) | (refine CallH.lent (c2) rfl ?_) | (refine CallH.own (c2) ?_)
    all_goals apply hr
    all_goals simp [Try.f10]
  rw [if_neg h2]
  by_cases h3' : k = 3
  · subst h3'
    rw [if_pos rfl]
    clear c0 c1 c2 c4 c5
    refine wBody Try.tab Try.mixed Try.func10 rfl rfl Try.ntmps10 (by simp) (by simp) fun Q hr hn => ?_
    repeat' first | (refine hK _ ?_; clear hK) | (refine hK _ _ ?_; clear hK) | (clear hK; refine hK _ ?_; clear hK) | (clear hK; clear hK; refine hK _ ?_; clear hK) | (clear hK; clear hK; clear hK; refine hK _ ?_; clear hK) | (clear hK; clear hK; clear hK; clear hK; refine hK _ ?_; clear hK) | (refine wSeq fun K hK => ?_) | ((first | refine wReg ?_ | refine wDrwQ rfl (by kernel_rfl) ?_ | refine wDrwI ?_ | refine wDrw (by kernel_rfl) ?_); simp only [List.map_cons, List.map_nil, strip]) | ((first | refine wIs fun K hK => ?_ | refine wOs fun K hK => ?_ | refine wQs fun K hK => ?_ | refine CallK_plain ?_ | refine CallQ_plain ?_ | refine CallR_plain ?_ | refine wCond ?_); simp) | (refine wIn ?_; refine And.intro (by kernel_rfl) ?_; try simp only [thenA_n]) | (first | refine wBlock ?_ | refine wScope ?_) | ((first | refine wRet ?_ | refine wExit ?_ | refine wSkip ?_); try simp) | ((first | refine wLabel ?_ | refine wOn ?_ | refine wQn ?_); try simp only [thenA_n]) | (refine CallE.pure (c3) rfl ?_) | (refine CallE.lent (c3) rfl ?_) | (refine CallF.pure (c3) rfl ?_) | (refine CallF.lent (c3) rfl ?_) | (refine CallE.own (c3) ?_) | (refine CallH.pure (c3) rfl ?_) | (refine CallH.lent (c3) rfl ?_) | (refine CallH.own (c3) ?_)
    all_goals apply hr
    all_goals simp [Try.f10]
  rw [if_neg h3']
  by_cases h4 : k = 4
  · subst h4
    rw [if_pos rfl]
    clear c0 c1 c2 c3 c5
    refine wBody Try.tab Try.mixed Try.func10 rfl rfl Try.ntmps10 (by simp) (by simp) fun Q hr hn => ?_
    repeat' first | (refine hK _ ?_; clear hK) | (refine hK _ _ ?_; clear hK) | (clear hK; refine hK _ ?_; clear hK) | (clear hK; clear hK; refine hK _ ?_; clear hK) | (clear hK; clear hK; clear hK; refine hK _ ?_; clear hK) | (clear hK; clear hK; clear hK; clear hK; refine hK _ ?_; clear hK) | (refine wSeq fun K hK => ?_) | ((first | refine wReg ?_ | refine wDrwQ rfl (by kernel_rfl) ?_ | refine wDrwI ?_ | refine wDrw (by kernel_rfl) ?_); simp only [List.map_cons, List.map_nil, strip]) | ((first | refine wIs fun K hK => ?_ | refine wOs fun K hK => ?_ | refine wQs fun K hK => ?_ | refine CallK_plain ?_ | refine CallQ_plain ?_ | refine CallR_plain ?_ | refine wCond ?_); simp) | (refine wIn ?_; refine And.intro (by kernel_rfl) ?_; try simp only [thenA_n]) | (first | refine wBlock ?_ | refine wScope ?_) | ((first | refine wRet ?_ | refine wExit ?_ | refine wSkip ?_); try simp) | ((first | refine wLabel ?_ | refine wOn ?_ | refine wQn ?_); try simp only [thenA_n]) | (refine CallE.pure (c4) rfl ?_) | (refine CallE.lent (c4) rfl ?_) | (refine CallF.pure (c4) rfl ?_) | (refine CallF.lent (c4) rfl ?_) | (refine CallE.own (c4) ?_) | (refine CallH.pure (c4) rfl ?_) | (refine CallH.lent (c4) rfl ?_) | (refine CallH.own (c4) ?_)
    all_goals apply hr
    all_goals simp [Try.f10]
  rw [if_neg h4]
  clear c0 c1 c2 c3 c4
  refine wBody Try.tab Try.mixed Try.func10 rfl rfl Try.ntmps10 (by simp) (by simp) fun Q hr hn => ?_
  repeat' first | (refine hK _ ?_; clear hK) | (refine hK _ _ ?_; clear hK) | (clear hK; refine hK _ ?_; clear hK) | (clear hK; clear hK; refine hK _ ?_; clear hK) | (clear hK; clear hK; clear hK; refine hK _ ?_; clear hK) | (clear hK; clear hK; clear hK; clear hK; refine hK _ ?_; clear hK) | (refine wSeq fun K hK => ?_) | ((first | refine wReg ?_ | refine wDrwQ rfl (by kernel_rfl) ?_ | refine wDrwI ?_ | refine wDrw (by kernel_rfl) ?_); simp only [List.map_cons, List.map_nil, strip]) | ((first | refine wIs fun K hK => ?_ | refine wOs fun K hK => ?_ | refine wQs fun K hK => ?_ | refine CallK_plain ?_ | refine CallQ_plain ?_ | refine CallR_plain ?_ | refine wCond ?_); simp [h0, h1, h2, h3', h4]) | (refine wIn ?_; refine And.intro (by kernel_rfl) ?_; try simp only [thenA_n]) | (first | refine wBlock ?_ | refine wScope ?_) | ((first | refine wRet ?_ | refine wExit ?_ | refine wSkip ?_); try simp) | ((first | refine wLabel ?_ | refine wOn ?_ | refine wQn ?_); try simp only [thenA_n]) | (refine CallE.pure (c5) rfl ?_) | (refine CallE.lent (c5) rfl ?_) | (refine CallF.pure (c5) rfl ?_) | (refine CallF.lent (c5) rfl ?_) | (refine CallE.own (c5) ?_) | (refine CallH.pure (c5) rfl ?_) | (refine CallH.lent (c5) rfl ?_) | (refine CallH.own (c5) ?_)
  all_goals apply hr
  all_goals simp [Try.f10]
/- Clients: a client is the same as itself; what an event comes to. -/
theorem nts_get {l : List Nt} {k : Nat} (h : k < l.length) : (nts l)[k]? = some [I l[k].s, I l[k].k, SB l[k].p, I l[k].w, I l[k].e, I l[k].n] := by simp [nts, h, Nt.cells]
@[simp] theorem nts_getElem (l : List Nt) (k : Nat) (h : k < (nts l).length) : (nts l)[k] = [I (l[k]'(by simpa using h)).s, I (l[k]'(by simpa using h)).k, SB (l[k]'(by simpa using h)).p, I (l[k]'(by simpa using h)).w, I (l[k]'(by simpa using h)).e, I (l[k]'(by simpa using h)).n] := by simp [nts, Nt.cells]
set_option maxHeartbeats 2000000 in
theorem same26_con (c : Cl) (hn : c.nt.length ≤ 1000000) : ACon Try.prog 9 [.p (.agg c.cells), .p (.agg c.cells)] (.p (B true)) := by
  obtain ⟨i0, i1, i2, i3, i4, i5, i6, i7, i8, nt⟩ := c
  unfold Cl.cells
  dsimp only at hn ⊢
  refine wBody Try.tab Try.mixed Try.func9 rfl rfl Try.ntmps9 (by simp) (by simp) fun Q hr hn => ?_
  repeat' first | (refine hK _ ?_; clear hK) | (refine hK _ _ ?_; clear hK) | (clear hK; refine hK _ ?_; clear hK) | (clear hK; clear hK; refine hK _ ?_; clear hK) | (clear hK; clear hK; clear hK; refine hK _ ?_; clear hK) | (clear hK; clear hK; clear hK; clear hK; refine hK _ ?_; clear hK) | (refine wSeq fun K hK => ?_) | ((first | refine wReg ?_ | refine wDrwQ rfl (by kernel_rfl) ?_ | refine wDrwI ?_ | refine wDrw (by kernel_rfl) ?_); simp only [List.map_cons, List.map_nil, strip]) | ((first | refine wIs fun K hK => ?_ | refine wOs fun K hK => ?_ | refine wQs fun K hK => ?_ | refine CallK_plain ?_ | refine CallQ_plain ?_ | refine CallR_plain ?_ | refine wCond ?_); simp) | (refine wIn ?_; refine And.intro (by kernel_rfl) ?_; try simp only [thenA_n]) | (first | refine wBlock ?_ | refine wScope ?_) | ((first | refine wRet ?_ | refine wExit ?_ | refine wSkip ?_); try simp) | ((first | refine wLabel ?_ | refine wOn ?_ | refine wQn ?_); try simp only [thenA_n])
  refine wLoop (fun N st => ∃ k, k + N = nt.length ∧ st.s 2 = .ptr 2 0 ∧ st.b 2 = some (.box 29 [.p (I i0), .p (I i1), .p (I i2), .p (I i3), .p (I i4), .p (I i5), .p (I i6), .p (I i7), .p (I i8), .p (.sl 6 (nts nt))]) ∧ st.s 3 = .ptr 3 0 ∧ st.b 3 = some (.box 29 [.p (I i0), .p (I i1), .p (I i2), .p (I i3), .p (I i4), .p (I i5), .p (I i6), .p (I i7), .p (I i8), .p (.sl 6 (nts nt))]) ∧ st.s 71 = .p (I nt.length) ∧ st.s 72 = .p (I k)) nt.length ⟨0, by simp⟩ fun K N st hL ⟨k, hk, g2, b2, g3, b3, g71, g72⟩ => ?_
  by_cases hlt : k < nt.length
  · have hlt' : (k : Int) < nt.length := by omega
    have hw := wrapS k _ hlt (by omega)
    have he := nts_get hlt
    repeat' first | (refine hK _ ?_; clear hK) | (refine hK _ _ ?_; clear hK) | (clear hK; refine hK _ ?_; clear hK) | (clear hK; clear hK; refine hK _ ?_; clear hK) | (clear hK; clear hK; clear hK; refine hK _ ?_; clear hK) | (clear hK; clear hK; clear hK; clear hK; refine hK _ ?_; clear hK) | (refine wSeq fun K hK => ?_) | ((first | refine wReg ?_ | refine wDrwQ rfl (by kernel_rfl) ?_ | refine wDrwI ?_ | refine wDrw (by kernel_rfl) ?_); simp only [List.map_cons, List.map_nil, strip]) | ((first | refine wIs fun K hK => ?_ | refine wOs fun K hK => ?_ | refine wQs fun K hK => ?_ | refine CallK_plain ?_ | refine CallQ_plain ?_ | refine CallR_plain ?_ | refine wCond ?_); simp [g2, b2, g3, b3, g71, g72, hlt, hlt', hw, he]) | (refine wIn ?_; refine And.intro (by kernel_rfl) ?_; try simp only [thenA_n]) | (first | refine wBlock ?_ | refine wScope ?_) | ((first | refine wRet ?_ | refine wExit ?_ | refine wSkip ?_); try simp) | ((first | refine wLabel ?_ | refine wOn ?_ | refine wQn ?_); try simp only [thenA_n])
    all_goals refine hL _ (N - 1) (by omega) ⟨k + 1, by omega, ?_⟩
    all_goals simp [g2, b2, g3, b3, g71, g72, hw]
  · have hlt' : ¬ (k : Int) < nt.length := by omega
    repeat' first | (refine hK _ ?_; clear hK) | (refine hK _ _ ?_; clear hK) | (clear hK; refine hK _ ?_; clear hK) | (clear hK; clear hK; refine hK _ ?_; clear hK) | (clear hK; clear hK; clear hK; refine hK _ ?_; clear hK) | (clear hK; clear hK; clear hK; clear hK; refine hK _ ?_; clear hK) | (refine wSeq fun K hK => ?_) | ((first | refine wReg ?_ | refine wDrwQ rfl (by kernel_rfl) ?_ | refine wDrwI ?_ | refine wDrw (by kernel_rfl) ?_); simp only [List.map_cons, List.map_nil, strip]) | ((first | refine wIs fun K hK => ?_ | refine wOs fun K hK => ?_ | refine wQs fun K hK => ?_ | refine CallK_plain ?_ | refine CallQ_plain ?_ | refine CallR_plain ?_ | refine wCond ?_); simp [g2, b2, g3, b3, g71, g72, hlt, hlt']) | (refine wIn ?_; refine And.intro (by kernel_rfl) ?_; try simp only [thenA_n]) | (first | refine wBlock ?_ | refine wScope ?_) | ((first | refine wRet ?_ | refine wExit ?_ | refine wSkip ?_); try simp) | ((first | refine wLabel ?_ | refine wOn ?_ | refine wQn ?_); try simp only [thenA_n])
    all_goals apply hr
    all_goals simp [Try.f9]
/-! ### What an event comes to -/
theorem zcmp_self (a b : Int) : zcmp a b a b = 0 := by rw [zcmp_spec]; simp
theorem seeC_f (c : Cl) (e n : Int) : (seeC c e n).xi = c.xi ∧ (seeC c e n).wt = c.wt ∧ (seeC c e n).nt = c.nt ∧ ¬ zcmp (seeC c e n).se (seeC c e n).sn c.se c.sn < 0 := by
  unfold seeC
  split
  · exact ⟨rfl, rfl, rfl, by simp only; omega⟩
  · exact ⟨rfl, rfl, rfl, by rw [zcmp_self]; omega⟩
/-- What the law asks of an event. -/
structure Sees (c : Cl) (e : Ev6) (a : AR6) : Prop where
  z : ¬ zcmp a.d.se a.d.sn c.se c.sn < 0
  x : c.xi ≤ a.d.xi ∧ a.d.xi ≤ c.xi + 1
  n : a.d.nt.length ≤ c.nt.length + 1
  r : (a.rs = [] ∧ (a.d.wt = c.wt ∨ a.d.wt = 0 ∨ (c.wt = 0 ∧ (e.k = 1 ∨ e.k = 2) ∧ a.e = 0))) ∨ (∃ u w, a.rs = [rsC c.id c.wt u w] ∧ ¬ c.wt = 0 ∧ a.d.wt = 0)
  w : a.ws.length ≤ 1
  o : (e.k = 1 ∨ e.k = 2) → a.e = 0 → c.wt = 0 ∧ a.d.wt = c.xi + 1 ∧ a.d.xi = c.xi + 1 ∧ a.ws.length = 1 ∧ a.rs = []
  b : (e.k = 1 ∨ e.k = 2) → a.e ≠ 0 → a.d = c ∧ a.rs = []
theorem wait_f (c : Cl) (k : Int) : (waitE c = 0 → c.wt = 0 ∧ (waitC c k).wt = c.xi + 1 ∧ (waitC c k).xi = c.xi + 1 ∧ (waitC c k).nt = c.nt ∧ (waitC c k).se = c.se ∧ (waitC c k).sn = c.sn) ∧ (waitE c ≠ 0 → waitC c k = c) := by
  refine ⟨fun h => ?_, fun h => ?_⟩
  · unfold waitC; rw [if_pos h]
    unfold waitE at h
    split at h
    · split at h
      · rename_i h2; exact ⟨h2, rfl, rfl, rfl, rfl, rfl⟩
      · simp at h
    · simp at h
  · unfold waitC; rw [if_neg h]
theorem rsE_f (c d : Cl) (hd : d.wt = 0) : (rsE c = [] ∧ (d.wt = c.wt ∨ d.wt = 0)) ∨ (∃ u w, rsE c = [rsC c.id c.wt u w] ∧ ¬ c.wt = 0 ∧ d.wt = 0) := by
  unfold rsE
  by_cases h : c.wt = 0
  · rw [if_pos h]; exact .inl ⟨rfl, .inr hd⟩
  · rw [if_neg h]; exact .inr ⟨true, _, rfl, h, hd⟩
theorem actM_sees (c : Cl) (e : Ev6) : Sees c e (actM c e) := by
  unfold actM
  by_cases h0 : e.k = 0
  · rw [if_pos h0]
    refine ⟨by show ¬ zcmp c.se c.sn c.se c.sn < 0; rw [zcmp_self]; omega, ⟨by show c.xi ≤ c.xi + 1; omega, by show c.xi + 1 ≤ c.xi + 1; omega⟩, by show c.nt.length ≤ _; omega, ?_, by simp, fun h => by omega, fun h => by omega⟩
    rcases rsE_f c (conC c e.n) rfl with ⟨h1, h2⟩ | h
    · exact .inl ⟨h1, h2.elim .inl fun h => .inr (.inl h)⟩
    · exact .inr h
  rw [if_neg h0]
  by_cases h1 : e.k = 1
  · rw [if_pos h1]
    have f := wait_f c 0
    by_cases hw : waitE c = 0
    · obtain ⟨f1, f2, f3, f4, f5, f6⟩ := f.1 hw
      refine ⟨by show ¬ zcmp (waitC c 0).se (waitC c 0).sn c.se c.sn < 0; rw [f5, f6, zcmp_self]; omega, ⟨by show c.xi ≤ (waitC c 0).xi; omega, by show (waitC c 0).xi ≤ _; omega⟩, by show (waitC c 0).nt.length ≤ _; rw [f4]; omega, .inl ⟨rfl, .inr (.inr ⟨f1, .inl h1, hw⟩)⟩, ?_, fun _ _ => ⟨f1, f2, f3, ?_, rfl⟩, fun _ h => absurd hw h⟩
      · show (askL c e.r).length ≤ 1; unfold askL; rw [if_pos hw]; simp
      · show (askL c e.r).length = 1; unfold askL; rw [if_pos hw]; simp
    · have f1 := f.2 hw
      rw [f1]
      refine ⟨by show ¬ zcmp c.se c.sn c.se c.sn < 0; rw [zcmp_self]; omega, ⟨by show c.xi ≤ c.xi; omega, by show c.xi ≤ _; omega⟩, by show c.nt.length ≤ _; omega, .inl ⟨rfl, .inl rfl⟩, ?_, fun _ h => absurd h hw, fun _ _ => ⟨rfl, rfl⟩⟩
      show (askL c e.r).length ≤ 1; unfold askL; rw [if_neg hw]; simp
  rw [if_neg h1]
  by_cases h2 : e.k = 2
  · rw [if_pos h2]
    have f := wait_f c e.n
    by_cases hk : e.n = 1 ∨ e.n = 2
    · have eE : rdE c e.n = waitE c := by unfold rdE; rw [if_pos hk]
      have eC : rdC c e.n = waitC c e.n := by unfold rdC; rw [if_pos hk]
      have eL : rdL c e.n e.w.pa e.w.wa = if waitE c = 0 then [(readW c e.n e.w.pa e.w.wa).cells] else [] := by unfold rdL; rw [eE]
      rw [eE, eC, eL]
      by_cases hw : waitE c = 0
      · obtain ⟨f1, f2, f3, f4, f5, f6⟩ := f.1 hw
        rw [if_pos hw]
        exact ⟨by show ¬ zcmp (waitC c e.n).se (waitC c e.n).sn c.se c.sn < 0; rw [f5, f6, zcmp_self]; omega, ⟨by show c.xi ≤ (waitC c e.n).xi; omega, by show (waitC c e.n).xi ≤ _; omega⟩, by show (waitC c e.n).nt.length ≤ _; rw [f4]; omega, .inl ⟨rfl, .inr (.inr ⟨f1, .inr h2, hw⟩)⟩, by simp, fun _ _ => ⟨f1, f2, f3, by simp, rfl⟩, fun _ h => absurd hw h⟩
      · rw [f.2 hw, if_neg hw]
        exact ⟨by show ¬ zcmp c.se c.sn c.se c.sn < 0; rw [zcmp_self]; omega, ⟨by show c.xi ≤ c.xi; omega, by show c.xi ≤ _; omega⟩, by show c.nt.length ≤ _; omega, .inl ⟨rfl, .inl rfl⟩, by simp, fun _ h => absurd h hw, fun _ _ => ⟨rfl, rfl⟩⟩
    · have eE : rdE c e.n = 1 := by unfold rdE; rw [if_neg hk]
      have eC : rdC c e.n = c := by unfold rdC; rw [if_neg hk]
      have eL : rdL c e.n e.w.pa e.w.wa = [] := by unfold rdL; rw [eE]; rfl
      rw [eE, eC, eL]
      exact ⟨by show ¬ zcmp c.se c.sn c.se c.sn < 0; rw [zcmp_self]; omega, ⟨by show c.xi ≤ c.xi; omega, by show c.xi ≤ _; omega⟩, by show c.nt.length ≤ _; omega, .inl ⟨rfl, .inl rfl⟩, by simp, fun _ h => by simp at h, fun _ _ => ⟨rfl, rfl⟩⟩
  rw [if_neg h2]
  have no : ∀ d : AR6, (e.k = 1 ∨ e.k = 2) → False := fun _ h => by omega
  have same : ∀ ws : List (List PV), ws.length ≤ 1 → Sees c e ⟨c, ws, [], 0⟩ := fun ws hws => ⟨by show ¬ zcmp c.se c.sn c.se c.sn < 0; rw [zcmp_self]; omega, ⟨by show c.xi ≤ c.xi; omega, by show c.xi ≤ _; omega⟩, by show c.nt.length ≤ _; omega, .inl ⟨rfl, .inl rfl⟩, hws, fun h => by omega, fun h => by omega⟩
  by_cases h3 : e.k = 3
  · rw [if_pos h3]
    unfold hearC
    split
    · split
      · unfold openC
        split
        · have f := seeC_f { c with ph := 2, ss := e.w.ss } e.w.ae e.w.an
          exact ⟨f.2.2.2, ⟨by show c.xi ≤ (seeC _ _ _).xi; rw [f.1]; exact Int.le_refl _, by show (seeC _ _ _).xi ≤ _; rw [f.1]; show c.xi ≤ _; omega⟩, by show (seeC _ _ _).nt.length ≤ _; rw [f.2.2.1]; exact Nat.le_succ _, .inl ⟨rfl, .inl f.2.1⟩, by simp, fun h => by omega, fun h => by omega⟩
        · exact same [] (by simp)
      split
      · have e1 : (noC c e.w).se = c.se ∧ (noC c e.w).sn = c.sn ∧ (noC c e.w).xi = c.xi ∧ (noC c e.w).nt = c.nt := by unfold noC; split <;> exact ⟨rfl, rfl, rfl, rfl⟩
        refine ⟨by show ¬ zcmp (noC c e.w).se (noC c e.w).sn c.se c.sn < 0; rw [e1.1, e1.2.1, zcmp_self]; omega, ⟨by show c.xi ≤ (noC c e.w).xi; omega, by show (noC c e.w).xi ≤ _; omega⟩, by show (noC c e.w).nt.length ≤ _; rw [e1.2.2.2]; omega, ?_, by simp, fun h => by omega, fun h => by omega⟩
        rcases rsE_f c (endC (noC c e.w)) rfl with ⟨h1, h2⟩ | h
        · exact .inl ⟨h1, h2.elim .inl fun h => .inr (.inl h)⟩
        · exact .inr h
      split
      · have f := seeC_f { c with nt := c.nt ++ [e.w.nt] } e.w.nt.e e.w.nt.n
        exact ⟨f.2.2.2, ⟨by show c.xi ≤ (seeC _ _ _).xi; rw [f.1]; exact Int.le_refl _, by show (seeC _ _ _).xi ≤ _; rw [f.1]; show c.xi ≤ _; omega⟩, by show (seeC _ _ _).nt.length ≤ _; rw [f.2.2.1]; simp, .inl ⟨rfl, .inl f.2.1⟩, by simp, fun h => by omega, fun h => by omega⟩
      split
      · split
        · rename_i hg
          have f := seeC_f c e.w.ae e.w.an
          exact ⟨f.2.2.2, ⟨by show c.xi ≤ (seeC _ _ _).xi; rw [f.1]; exact Int.le_refl _, by show (seeC _ _ _).xi ≤ _; rw [f.1]; omega⟩, by show (seeC _ _ _).nt.length ≤ _; rw [f.2.2.1]; omega, .inr ⟨false, e.w, rfl, hg.1, rfl⟩, by simp, fun h => by omega, fun h => by omega⟩
        · exact same [] (by simp)
      · exact same [] (by simp)
    · exact same [] (by simp)
  rw [if_neg h3]
  by_cases h4 : e.k = 4
  · rw [if_pos h4]
    refine ⟨by show ¬ zcmp c.se c.sn c.se c.sn < 0; rw [zcmp_self]; omega, ⟨by show c.xi ≤ c.xi; omega, by show c.xi ≤ _; omega⟩, by show c.nt.length ≤ _; omega, ?_, by simp, fun h => by omega, fun h => by omega⟩
    rcases rsE_f c (lostC c) rfl with ⟨h1, h2⟩ | h
    · exact .inl ⟨h1, h2.elim .inl fun h => .inr (.inl h)⟩
    · exact .inr h
  rw [if_neg h4]
  refine same _ ?_
  unfold beatL; split <;> simp
/- Clients, the document's: made, told of, lost, connected, asked, read. -/
theorem endC_id {c : Cl} (h : c.wt = 0) (h' : c.rd = 0) : endC c = c := by
  obtain ⟨i0, i1, i2, i3, i4, i5, i6, i7, i8, nt⟩ := c
  simp only at h h'
  subst h h'
  rfl
theorem own26_con (c : Cl) (hn : c.nt.length ≤ 1000000) : ACon Try.prog 37 [.p (.agg c.cells)] (.p (.agg c.cells)) := by
  have hl : (nts c.nt).length ≤ 1000000 := by simpa using hn
  unfold Cl.cells
  generalize nts c.nt = X at *
  refine wBody Try.tab Try.mixed Try.func37 rfl rfl Try.ntmps37 (by simp) (by simp) fun Q hr hn => ?_
  repeat' first | (refine And.intro (by omega) (Or.inr ?_)) | (refine And.intro (by omega) ?_) | (refine hK _ ?_; clear hK) | (refine hK _ _ ?_; clear hK) | (clear hK; refine hK _ ?_; clear hK) | (clear hK; clear hK; refine hK _ ?_; clear hK) | (clear hK; clear hK; clear hK; refine hK _ ?_; clear hK) | (clear hK; clear hK; clear hK; clear hK; refine hK _ ?_; clear hK) | (refine wSeq fun K hK => ?_) | ((first | refine wReg ?_ | refine wDrwQ rfl (by kernel_rfl) ?_ | refine wDrwI ?_ | refine wDrw (by kernel_rfl) ?_); simp only [List.map_cons, List.map_nil, strip]) | ((first | refine wIs fun K hK => ?_ | refine wOs fun K hK => ?_ | refine wQs fun K hK => ?_ | refine CallK_plain ?_ | refine CallQ_plain ?_ | refine CallR_plain ?_ | refine wCond ?_); simp) | (refine wIn ?_; refine And.intro (by kernel_rfl) ?_; try simp only [thenA_n]) | (first | refine wBlock ?_ | refine wScope ?_) | ((first | refine wRet ?_ | refine wExit ?_ | refine wSkip ?_); try simp) | ((first | refine wLabel ?_ | refine wOn ?_ | refine wQn ?_); try simp only [thenA_n])
  all_goals first | apply hn | apply hr
  all_goals simp [Try.f37]
theorem over0_con (c : Cl) (h : c.wt = 0) : ACon Try.prog 36 [.p (.agg c.cells)] (.tup [.p (.agg c.cells), .p (.sl 36 [])]) := by
  unfold Cl.cells
  refine wBody Try.tab Try.mixed Try.func36 rfl rfl Try.ntmps36 (by simp) (by simp) fun Q hr hn => ?_
  repeat' first | (refine hK _ ?_; clear hK) | (refine hK _ _ ?_; clear hK) | (clear hK; refine hK _ ?_; clear hK) | (clear hK; clear hK; refine hK _ ?_; clear hK) | (clear hK; clear hK; clear hK; refine hK _ ?_; clear hK) | (clear hK; clear hK; clear hK; clear hK; refine hK _ ?_; clear hK) | (refine wSeq fun K hK => ?_) | ((first | refine wReg ?_ | refine wDrwQ rfl (by kernel_rfl) ?_ | refine wDrwI ?_ | refine wDrw (by kernel_rfl) ?_); simp only [List.map_cons, List.map_nil, strip]) | ((first | refine wIs fun K hK => ?_ | refine wOs fun K hK => ?_ | refine wQs fun K hK => ?_ | refine CallK_plain ?_ | refine CallQ_plain ?_ | refine CallR_plain ?_ | refine wCond ?_); simp [h]) | (refine wIn ?_; refine And.intro (by kernel_rfl) ?_; try simp only [thenA_n]) | (first | refine wBlock ?_ | refine wScope ?_) | ((first | refine wRet ?_ | refine wExit ?_ | refine wSkip ?_); try simp) | ((first | refine wLabel ?_ | refine wOn ?_ | refine wQn ?_); try simp only [thenA_n])
  all_goals first | apply hn | apply hr
  all_goals simp [Try.f36, h]
theorem over1_con (c : Cl) (h : ¬ c.wt = 0) : ACon Try.prog 36 [.p (.agg c.cells)] (.tup [.p (.agg (endC c).cells), .p (.sl 36 [rsC c.id c.wt true (wdZ 0 0 0)])]) := by
  unfold endC rsC wdZ Wd.cells Rq.zero Nt.zero Cl.cells
  dsimp only
  refine wBody Try.tab Try.mixed Try.func36 rfl rfl Try.ntmps36 (by simp) (by simp) fun Q hr hn => ?_
  repeat' first | (refine hK _ ?_; clear hK) | (refine hK _ _ ?_; clear hK) | (clear hK; refine hK _ ?_; clear hK) | (clear hK; clear hK; refine hK _ ?_; clear hK) | (clear hK; clear hK; clear hK; refine hK _ ?_; clear hK) | (clear hK; clear hK; clear hK; clear hK; refine hK _ ?_; clear hK) | (refine wSeq fun K hK => ?_) | ((first | refine wReg ?_ | refine wDrwQ rfl (by kernel_rfl) ?_ | refine wDrwI ?_ | refine wDrw (by kernel_rfl) ?_); simp only [List.map_cons, List.map_nil, strip]) | ((first | refine wIs fun K hK => ?_ | refine wOs fun K hK => ?_ | refine wQs fun K hK => ?_ | refine CallK_plain ?_ | refine CallQ_plain ?_ | refine CallR_plain ?_ | refine wCond ?_); simp [h]) | (refine wIn ?_; refine And.intro (by kernel_rfl) ?_; try simp only [thenA_n]) | (first | refine wBlock ?_ | refine wScope ?_) | ((first | refine wRet ?_ | refine wExit ?_ | refine wSkip ?_); try simp) | ((first | refine wLabel ?_ | refine wOn ?_ | refine wQn ?_); try simp only [thenA_n])
  all_goals first | apply hn | apply hr
  all_goals simp [Try.f36, show ByteArray.empty = bs [] from rfl]
theorem word26_con (c : Cl) (k : Int) : ACon Try.prog 38 [.p (.agg c.cells), .p (I k)] (.p (.agg (wdZ c.id c.sv k).cells)) := by
  unfold wdZ Wd.cells Rq.zero Nt.zero Cl.cells
  dsimp only
  refine wBody Try.tab Try.mixed Try.func38 rfl rfl Try.ntmps38 (by simp) (by simp) fun Q hr hn => ?_
  repeat' first | (refine hK _ ?_; clear hK) | (refine hK _ _ ?_; clear hK) | (clear hK; refine hK _ ?_; clear hK) | (clear hK; clear hK; refine hK _ ?_; clear hK) | (clear hK; clear hK; clear hK; refine hK _ ?_; clear hK) | (clear hK; clear hK; clear hK; clear hK; refine hK _ ?_; clear hK) | (refine wSeq fun K hK => ?_) | ((first | refine wReg ?_ | refine wDrwQ rfl (by kernel_rfl) ?_ | refine wDrwI ?_ | refine wDrw (by kernel_rfl) ?_); simp only [List.map_cons, List.map_nil, strip]) | ((first | refine wIs fun K hK => ?_ | refine wOs fun K hK => ?_ | refine wQs fun K hK => ?_ | refine CallK_plain ?_ | refine CallQ_plain ?_ | refine CallR_plain ?_ | refine wCond ?_); simp) | (refine wIn ?_; refine And.intro (by kernel_rfl) ?_; try simp only [thenA_n]) | (first | refine wBlock ?_ | refine wScope ?_) | ((first | refine wRet ?_ | refine wExit ?_ | refine wSkip ?_); try simp) | ((first | refine wLabel ?_ | refine wOn ?_ | refine wQn ?_); try simp only [thenA_n])
  all_goals first | apply hn | apply hr
  all_goals simp [Try.f38, show ByteArray.empty = bs [] from rfl]
theorem seen26_con (c : Cl) (e n : Int) : ACon Try.prog 39 [.p (.agg c.cells), .p (.agg [I e, I n])] (.p (.agg (seeC c e n).cells)) := by
  have c1 := cmp02_con e n c.se c.sn
  unfold seeC
  generalize zcmp e n c.se c.sn = z at *
  by_cases h : 0 < z
  · rw [if_pos h]
    unfold Cl.cells
    refine wBody Try.tab Try.mixed Try.func39 rfl rfl Try.ntmps39 (by simp) (by simp) fun Q hr hn => ?_
    repeat' first | (refine hK _ ?_; clear hK) | (refine hK _ _ ?_; clear hK) | (clear hK; refine hK _ ?_; clear hK) | (clear hK; clear hK; refine hK _ ?_; clear hK) | (clear hK; clear hK; clear hK; refine hK _ ?_; clear hK) | (clear hK; clear hK; clear hK; clear hK; refine hK _ ?_; clear hK) | (refine wSeq fun K hK => ?_) | ((first | refine wReg ?_ | refine wDrwQ rfl (by kernel_rfl) ?_ | refine wDrwI ?_ | refine wDrw (by kernel_rfl) ?_); simp only [List.map_cons, List.map_nil, strip]) | ((first | refine wIs fun K hK => ?_ | refine wOs fun K hK => ?_ | refine wQs fun K hK => ?_ | refine CallK_plain ?_ | refine CallQ_plain ?_ | refine CallR_plain ?_ | refine wCond ?_); simp [h]) | (refine wIn ?_; refine And.intro (by kernel_rfl) ?_; try simp only [thenA_n]) | (first | refine wBlock ?_ | refine wScope ?_) | ((first | refine wRet ?_ | refine wExit ?_ | refine wSkip ?_); try simp) | ((first | refine wLabel ?_ | refine wOn ?_ | refine wQn ?_); try simp only [thenA_n]) | (refine CallE.pure (c1) rfl ?_) | (refine CallE.lent (c1) rfl ?_) | (refine CallF.pure (c1) rfl ?_) | (refine CallF.lent (c1) rfl ?_) | (refine CallE.own (c1) ?_) | (refine CallH.pure (c1) rfl ?_) | (refine CallH.lent (c1) rfl ?_) | (refine CallH.own (c1) ?_)
    all_goals first | apply hn | apply hr
    all_goals simp [Try.f39]
  · rw [if_neg h]
    unfold Cl.cells
    refine wBody Try.tab Try.mixed Try.func39 rfl rfl Try.ntmps39 (by simp) (by simp) fun Q hr hn => ?_
    repeat' first | (refine hK _ ?_; clear hK) | (refine hK _ _ ?_; clear hK) | (clear hK; refine hK _ ?_; clear hK) | (clear hK; clear hK; refine hK _ ?_; clear hK) | (clear hK; clear hK; clear hK; refine hK _ ?_; clear hK) | (clear hK; clear hK; clear hK; clear hK; refine hK _ ?_; clear hK) | (refine wSeq fun K hK => ?_) | ((first | refine wReg ?_ | refine wDrwQ rfl (by kernel_rfl) ?_ | refine wDrwI ?_ | refine wDrw (by kernel_rfl) ?_); simp only [List.map_cons, List.map_nil, strip]) | ((first | refine wIs fun K hK => ?_ | refine wOs fun K hK => ?_ | refine wQs fun K hK => ?_ | refine CallK_plain ?_ | refine CallQ_plain ?_ | refine CallR_plain ?_ | refine wCond ?_); simp [h]) | (refine wIn ?_; refine And.intro (by kernel_rfl) ?_; try simp only [thenA_n]) | (first | refine wBlock ?_ | refine wScope ?_) | ((first | refine wRet ?_ | refine wExit ?_ | refine wSkip ?_); try simp) | ((first | refine wLabel ?_ | refine wOn ?_ | refine wQn ?_); try simp only [thenA_n]) | (refine CallE.pure (c1) rfl ?_) | (refine CallE.lent (c1) rfl ?_) | (refine CallF.pure (c1) rfl ?_) | (refine CallF.lent (c1) rfl ?_) | (refine CallE.own (c1) ?_) | (refine CallH.pure (c1) rfl ?_) | (refine CallH.lent (c1) rfl ?_) | (refine CallH.own (c1) ?_)
    all_goals first | apply hn | apply hr
    all_goals simp [Try.f39]
theorem lost26_con (c : Cl) (hn : c.nt.length ≤ 1000000) (hq : c.wt = 0 → c.rd = 0) : ACon Try.prog 26 [.p (.agg c.cells)] (.tup [.p (.agg (lostC c).cells), .p (.sl 36 (rsE c))]) := by
  have c1 := own26_con c hn
  unfold lostC rsE
  by_cases h : c.wt = 0
  · have hr0 := hq h
    have c2 := over0_con { c with ph := 0 } h
    rw [if_pos h, show endC { c with ph := 0 } = { c with ph := 0 } by unfold endC; rw [show ({ c with ph := 0 } : Cl) = ⟨c.id, c.sv, 0, c.ss, c.se, c.sn, c.xi, c.wt, c.rd, c.nt⟩ from rfl, h, hr0]]
    unfold Cl.cells at *
    dsimp only at *
    refine wBody Try.tab Try.mixed Try.func26 rfl rfl Try.ntmps26 (by simp) (by simp) fun Q hr hn => ?_
    repeat' first | (refine hK _ ?_; clear hK) | (refine hK _ _ ?_; clear hK) | (clear hK; refine hK _ ?_; clear hK) | (clear hK; clear hK; refine hK _ ?_; clear hK) | (clear hK; clear hK; clear hK; refine hK _ ?_; clear hK) | (clear hK; clear hK; clear hK; clear hK; refine hK _ ?_; clear hK) | (refine wSeq fun K hK => ?_) | ((first | refine wReg ?_ | refine wDrwQ rfl (by kernel_rfl) ?_ | refine wDrwI ?_ | refine wDrw (by kernel_rfl) ?_); simp only [List.map_cons, List.map_nil, strip]) | ((first | refine wIs fun K hK => ?_ | refine wOs fun K hK => ?_ | refine wQs fun K hK => ?_ | refine CallK_plain ?_ | refine CallQ_plain ?_ | refine CallR_plain ?_ | refine wCond ?_); simp) | (refine wIn ?_; refine And.intro (by kernel_rfl) ?_; try simp only [thenA_n]) | (first | refine wBlock ?_ | refine wScope ?_) | ((first | refine wRet ?_ | refine wExit ?_ | refine wSkip ?_); try simp) | ((first | refine wLabel ?_ | refine wOn ?_ | refine wQn ?_); try simp only [thenA_n]) | (refine CallE.pure (c1) rfl ?_) | (refine CallE.lent (c1) rfl ?_) | (refine CallF.pure (c1) rfl ?_) | (refine CallF.lent (c1) rfl ?_) | (refine CallE.own (c1) ?_) | (refine CallH.pure (c1) rfl ?_) | (refine CallH.lent (c1) rfl ?_) | (refine CallH.own (c1) ?_) | (refine CallE.pure (c2) rfl ?_) | (refine CallE.lent (c2) rfl ?_) | (refine CallF.pure (c2) rfl ?_) | (refine CallF.lent (c2) rfl ?_) | (refine CallE.own (c2) ?_) | (refine CallH.pure (c2) rfl ?_) | (refine CallH.lent (c2) rfl ?_) | (refine CallH.own (c2) ?_)
    all_goals first | apply hn | apply hr
    all_goals simp [Try.f26]
  · have c2 := over1_con { c with ph := 0 } h
    dsimp only at c2
    rw [if_neg h]
    generalize rsC c.id c.wt true (wdZ 0 0 0) = rs at *
    unfold endC at *
    unfold Cl.cells at *
    dsimp only at *
    refine wBody Try.tab Try.mixed Try.func26 rfl rfl Try.ntmps26 (by simp) (by simp) fun Q hr hn => ?_
    repeat' first | (refine hK _ ?_; clear hK) | (refine hK _ _ ?_; clear hK) | (clear hK; refine hK _ ?_; clear hK) | (clear hK; clear hK; refine hK _ ?_; clear hK) | (clear hK; clear hK; clear hK; refine hK _ ?_; clear hK) | (clear hK; clear hK; clear hK; clear hK; refine hK _ ?_; clear hK) | (refine wSeq fun K hK => ?_) | ((first | refine wReg ?_ | refine wDrwQ rfl (by kernel_rfl) ?_ | refine wDrwI ?_ | refine wDrw (by kernel_rfl) ?_); simp only [List.map_cons, List.map_nil, strip]) | ((first | refine wIs fun K hK => ?_ | refine wOs fun K hK => ?_ | refine wQs fun K hK => ?_ | refine CallK_plain ?_ | refine CallQ_plain ?_ | refine CallR_plain ?_ | refine wCond ?_); simp) | (refine wIn ?_; refine And.intro (by kernel_rfl) ?_; try simp only [thenA_n]) | (first | refine wBlock ?_ | refine wScope ?_) | ((first | refine wRet ?_ | refine wExit ?_ | refine wSkip ?_); try simp) | ((first | refine wLabel ?_ | refine wOn ?_ | refine wQn ?_); try simp only [thenA_n]) | (refine CallE.pure (c1) rfl ?_) | (refine CallE.lent (c1) rfl ?_) | (refine CallF.pure (c1) rfl ?_) | (refine CallF.lent (c1) rfl ?_) | (refine CallE.own (c1) ?_) | (refine CallH.pure (c1) rfl ?_) | (refine CallH.lent (c1) rfl ?_) | (refine CallH.own (c1) ?_) | (refine CallE.pure (c2) rfl ?_) | (refine CallE.lent (c2) rfl ?_) | (refine CallF.pure (c2) rfl ?_) | (refine CallF.lent (c2) rfl ?_) | (refine CallE.own (c2) ?_) | (refine CallH.pure (c2) rfl ?_) | (refine CallH.lent (c2) rfl ?_) | (refine CallH.own (c2) ?_)
    all_goals first | apply hn | apply hr
    all_goals simp [Try.f26]
theorem beat26_con (c : Cl) : ACon Try.prog 27 [.p (.agg c.cells)] (.p (.sl 33 (beatL c))) := by
  have c3 := word26_con c 4
  unfold beatL
  generalize wdZ c.id c.sv 4 = w at *
  unfold Wd.cells Cl.cells at *
  by_cases h : c.ph = 2
  · rw [if_pos h]
    refine wBody Try.tab Try.mixed Try.func27 rfl rfl Try.ntmps27 (by simp) (by simp) fun Q hr hn => ?_
    repeat' first | (refine hK _ ?_; clear hK) | (refine hK _ _ ?_; clear hK) | (clear hK; refine hK _ ?_; clear hK) | (clear hK; clear hK; refine hK _ ?_; clear hK) | (clear hK; clear hK; clear hK; refine hK _ ?_; clear hK) | (clear hK; clear hK; clear hK; clear hK; refine hK _ ?_; clear hK) | (refine wSeq fun K hK => ?_) | ((first | refine wReg ?_ | refine wDrwQ rfl (by kernel_rfl) ?_ | refine wDrwI ?_ | refine wDrw (by kernel_rfl) ?_); simp only [List.map_cons, List.map_nil, strip]) | ((first | refine wIs fun K hK => ?_ | refine wOs fun K hK => ?_ | refine wQs fun K hK => ?_ | refine CallK_plain ?_ | refine CallQ_plain ?_ | refine CallR_plain ?_ | refine wCond ?_); simp [eq_true h]) | (refine wIn ?_; refine And.intro (by kernel_rfl) ?_; try simp only [thenA_n]) | (first | refine wBlock ?_ | refine wScope ?_) | ((first | refine wRet ?_ | refine wExit ?_ | refine wSkip ?_); try simp) | ((first | refine wLabel ?_ | refine wOn ?_ | refine wQn ?_); try simp only [thenA_n]) | (refine CallE.pure (c3) rfl ?_) | (refine CallE.lent (c3) rfl ?_) | (refine CallF.pure (c3) rfl ?_) | (refine CallF.lent (c3) rfl ?_) | (refine CallE.own (c3) ?_) | (refine CallH.pure (c3) rfl ?_) | (refine CallH.lent (c3) rfl ?_) | (refine CallH.own (c3) ?_)
    all_goals first | apply hn | apply hr
    all_goals simp [Try.f27]
  · rw [if_neg h]
    refine wBody Try.tab Try.mixed Try.func27 rfl rfl Try.ntmps27 (by simp) (by simp) fun Q hr hn => ?_
    repeat' first | (refine hK _ ?_; clear hK) | (refine hK _ _ ?_; clear hK) | (clear hK; refine hK _ ?_; clear hK) | (clear hK; clear hK; refine hK _ ?_; clear hK) | (clear hK; clear hK; clear hK; refine hK _ ?_; clear hK) | (clear hK; clear hK; clear hK; clear hK; refine hK _ ?_; clear hK) | (refine wSeq fun K hK => ?_) | ((first | refine wReg ?_ | refine wDrwQ rfl (by kernel_rfl) ?_ | refine wDrwI ?_ | refine wDrw (by kernel_rfl) ?_); simp only [List.map_cons, List.map_nil, strip]) | ((first | refine wIs fun K hK => ?_ | refine wOs fun K hK => ?_ | refine wQs fun K hK => ?_ | refine CallK_plain ?_ | refine CallQ_plain ?_ | refine CallR_plain ?_ | refine wCond ?_); simp [eq_false h]) | (refine wIn ?_; refine And.intro (by kernel_rfl) ?_; try simp only [thenA_n]) | (first | refine wBlock ?_ | refine wScope ?_) | ((first | refine wRet ?_ | refine wExit ?_ | refine wSkip ?_); try simp) | ((first | refine wLabel ?_ | refine wOn ?_ | refine wQn ?_); try simp only [thenA_n])
    all_goals first | apply hn | apply hr
    all_goals simp [Try.f27]
theorem newC26_con (n : Int) : ACon Try.prog 8 [.p (I n)] (.tup [.p (.agg (newC n).cells), .p (I (newE n))]) := by
  unfold newC newE
  by_cases h1 : n < 0
  · rw [if_neg (by omega), if_neg (by omega)]
    unfold Cl.cells
    refine wBody Try.tab Try.mixed Try.func8 rfl rfl Try.ntmps8 (by simp) (by simp) fun Q hr hn => ?_
    repeat' first | (refine hK _ ?_; clear hK) | (refine hK _ _ ?_; clear hK) | (clear hK; refine hK _ ?_; clear hK) | (clear hK; clear hK; refine hK _ ?_; clear hK) | (clear hK; clear hK; clear hK; refine hK _ ?_; clear hK) | (clear hK; clear hK; clear hK; clear hK; refine hK _ ?_; clear hK) | (refine wSeq fun K hK => ?_) | ((first | refine wReg ?_ | refine wDrwQ rfl (by kernel_rfl) ?_ | refine wDrwI ?_ | refine wDrw (by kernel_rfl) ?_); simp only [List.map_cons, List.map_nil, strip]) | ((first | refine wIs fun K hK => ?_ | refine wOs fun K hK => ?_ | refine wQs fun K hK => ?_ | refine CallK_plain ?_ | refine CallQ_plain ?_ | refine CallR_plain ?_ | refine wCond ?_); simp [h1]) | (refine wIn ?_; refine And.intro (by kernel_rfl) ?_; try simp only [thenA_n]) | (first | refine wBlock ?_ | refine wScope ?_) | ((first | refine wRet ?_ | refine wExit ?_ | refine wSkip ?_); try simp) | ((first | refine wLabel ?_ | refine wOn ?_ | refine wQn ?_); try simp only [thenA_n])
    all_goals first | apply hn | apply hr
    all_goals simp [Try.f8, nts]
  by_cases h2 : 4 ≤ n
  · rw [if_neg (by omega), if_neg (by omega)]
    unfold Cl.cells
    refine wBody Try.tab Try.mixed Try.func8 rfl rfl Try.ntmps8 (by simp) (by simp) fun Q hr hn => ?_
    repeat' first | (refine hK _ ?_; clear hK) | (refine hK _ _ ?_; clear hK) | (clear hK; refine hK _ ?_; clear hK) | (clear hK; clear hK; refine hK _ ?_; clear hK) | (clear hK; clear hK; clear hK; refine hK _ ?_; clear hK) | (clear hK; clear hK; clear hK; clear hK; refine hK _ ?_; clear hK) | (refine wSeq fun K hK => ?_) | ((first | refine wReg ?_ | refine wDrwQ rfl (by kernel_rfl) ?_ | refine wDrwI ?_ | refine wDrw (by kernel_rfl) ?_); simp only [List.map_cons, List.map_nil, strip]) | ((first | refine wIs fun K hK => ?_ | refine wOs fun K hK => ?_ | refine wQs fun K hK => ?_ | refine CallK_plain ?_ | refine CallQ_plain ?_ | refine CallR_plain ?_ | refine wCond ?_); simp [h1, h2]) | (refine wIn ?_; refine And.intro (by kernel_rfl) ?_; try simp only [thenA_n]) | (first | refine wBlock ?_ | refine wScope ?_) | ((first | refine wRet ?_ | refine wExit ?_ | refine wSkip ?_); try simp) | ((first | refine wLabel ?_ | refine wOn ?_ | refine wQn ?_); try simp only [thenA_n])
    all_goals first | apply hn | apply hr
    all_goals simp [Try.f8, nts]
  rw [if_pos (by omega), if_pos (by omega)]
  unfold Cl.cells
  have : n = 0 ∨ n = 1 ∨ n = 2 ∨ n = 3 := by omega
  rcases this with rfl | rfl | rfl | rfl
  all_goals
    refine wBody Try.tab Try.mixed Try.func8 rfl rfl Try.ntmps8 (by simp) (by simp) fun Q hr hn => ?_
    repeat' first | (refine hK _ ?_; clear hK) | (refine hK _ _ ?_; clear hK) | (clear hK; refine hK _ ?_; clear hK) | (clear hK; clear hK; refine hK _ ?_; clear hK) | (clear hK; clear hK; clear hK; refine hK _ ?_; clear hK) | (clear hK; clear hK; clear hK; clear hK; refine hK _ ?_; clear hK) | (refine wSeq fun K hK => ?_) | ((first | refine wReg ?_ | refine wDrwQ rfl (by kernel_rfl) ?_ | refine wDrwI ?_ | refine wDrw (by kernel_rfl) ?_); simp only [List.map_cons, List.map_nil, strip]) | ((first | refine wIs fun K hK => ?_ | refine wOs fun K hK => ?_ | refine wQs fun K hK => ?_ | refine CallK_plain ?_ | refine CallQ_plain ?_ | refine CallR_plain ?_ | refine wCond ?_); simp) | (refine wIn ?_; refine And.intro (by kernel_rfl) ?_; try simp only [thenA_n]) | (first | refine wBlock ?_ | refine wScope ?_) | ((first | refine wRet ?_ | refine wExit ?_ | refine wSkip ?_); try simp) | ((first | refine wLabel ?_ | refine wOn ?_ | refine wQn ?_); try simp only [thenA_n])
    all_goals first | apply hn | apply hr
    all_goals simp [Try.f8, nts]
    all_goals decide
/- Clients, the document's: connected, asked, read. -/
set_option maxHeartbeats 2000000 in
theorem connect26_con (c : Cl) (v : Int) (hn : c.nt.length ≤ 1000000) (hx : c.xi ≤ 1000000000 ∧ 0 ≤ c.xi) (hq : c.wt = 0 → c.rd = 0) : ACon Try.prog 22 [.p (.agg c.cells), .p (I v)] (.tup [.p (.agg (conC c v).cells), .p (.sl 33 [(conW c v).cells]), .p (.sl 36 (rsE c))]) := by
  have c1 := own26_con c hn
  have hw : IntKind.i64.wrap (c.xi + 1) = c.xi + 1 := by rw [wrap_id] <;> omega
  have c3 := word26_con (conC c v) 1
  obtain ⟨e0, hE, c2⟩ : ∃ rs, rs = rsE c ∧ ACon Try.prog 36 [.p (.agg c.cells)] (.tup [.p (.agg (endC c).cells), .p (.sl 36 rs)]) := by
    refine ⟨_, rfl, ?_⟩
    unfold rsE
    by_cases h : c.wt = 0
    · rw [if_pos h, endC_id h (hq h)]; exact over0_con c h
    · rw [if_neg h]; exact over1_con c h
  rw [← hE]
  clear hE hq
  unfold conC conW endC wdZ Wd.cells Rq.zero Nt.zero at *
  unfold Cl.cells at *
  dsimp only at *
  refine wBody Try.tab Try.mixed Try.func22 rfl rfl Try.ntmps22 (by simp) (by simp) fun Q hr hn => ?_
  repeat' first | (refine hK _ ?_; clear hK) | (refine hK _ _ ?_; clear hK) | (clear hK; refine hK _ ?_; clear hK) | (clear hK; clear hK; refine hK _ ?_; clear hK) | (clear hK; clear hK; clear hK; refine hK _ ?_; clear hK) | (clear hK; clear hK; clear hK; clear hK; refine hK _ ?_; clear hK) | (refine wSeq fun K hK => ?_) | ((first | refine wReg ?_ | refine wDrwQ rfl (by kernel_rfl) ?_ | refine wDrwI ?_ | refine wDrw (by kernel_rfl) ?_); simp only [List.map_cons, List.map_nil, strip]) | ((first | refine wIs fun K hK => ?_ | refine wOs fun K hK => ?_ | refine wQs fun K hK => ?_ | refine CallK_plain ?_ | refine CallQ_plain ?_ | refine CallR_plain ?_ | refine wCond ?_); simp [hw]) | (refine wIn ?_; refine And.intro (by kernel_rfl) ?_; try simp only [thenA_n]) | (first | refine wBlock ?_ | refine wScope ?_) | ((first | refine wRet ?_ | refine wExit ?_ | refine wSkip ?_); try simp) | ((first | refine wLabel ?_ | refine wOn ?_ | refine wQn ?_); try simp only [thenA_n]) | (refine CallE.pure (c1) rfl ?_) | (refine CallE.lent (c1) rfl ?_) | (refine CallF.pure (c1) rfl ?_) | (refine CallF.lent (c1) rfl ?_) | (refine CallE.own (c1) ?_) | (refine CallH.pure (c1) rfl ?_) | (refine CallH.lent (c1) rfl ?_) | (refine CallH.own (c1) ?_) | (refine CallE.pure (c2) rfl ?_) | (refine CallE.lent (c2) rfl ?_) | (refine CallF.pure (c2) rfl ?_) | (refine CallF.lent (c2) rfl ?_) | (refine CallE.own (c2) ?_) | (refine CallH.pure (c2) rfl ?_) | (refine CallH.lent (c2) rfl ?_) | (refine CallH.own (c2) ?_) | (refine CallE.pure (c3) rfl ?_) | (refine CallE.lent (c3) rfl ?_) | (refine CallF.pure (c3) rfl ?_) | (refine CallF.lent (c3) rfl ?_) | (refine CallE.own (c3) ?_) | (refine CallH.pure (c3) rfl ?_) | (refine CallH.lent (c3) rfl ?_) | (refine CallH.own (c3) ?_)
  all_goals first | apply hn | apply hr
  all_goals simp [Try.f22, hw]
set_option maxHeartbeats 2000000 in
theorem ask26_con (c : Cl) (r : Rq) (hn : c.nt.length ≤ 1000000) (hx : c.xi ≤ 1000000000 ∧ 0 ≤ c.xi) (hr0 : OkR r) : ACon Try.prog 23 [.p (.agg c.cells), .p (.agg r.cells)] (.tup [.p (.agg (waitC c 0).cells), .p (.sl 33 (askL c r)), .p (I (waitE c))]) := by
  have c1 := own26_con c hn
  have hw : IntKind.i64.wrap (c.xi + 1) = c.xi + 1 := by rw [wrap_id] <;> omega
  have b1 := hr0.o
  have b2 := hr0.p
  have b3 := hr0.d
  by_cases h1 : c.ph = 2
  · by_cases h2 : c.wt = 0
    · have e0 : waitE c = 0 := by unfold waitE; rw [if_pos h1, if_pos h2]
      have c3 := word26_con (waitC c 0) 2
      unfold askL
      rw [if_pos e0, e0]
      unfold waitC at *
      rw [if_pos e0] at *
      unfold askW wdZ Wd.cells Rq.zero Nt.zero at *
      unfold Cl.cells Rq.cells at *
      dsimp only at *
      refine wBody Try.tab Try.mixed Try.func23 rfl rfl Try.ntmps23 (by simp) (by simp) fun Q hr hn => ?_
      repeat' first | (refine And.intro (by omega) (Or.inr ?_)) | (refine And.intro (by omega) ?_) | (refine hK _ ?_; clear hK) | (refine hK _ _ ?_; clear hK) | (clear hK; refine hK _ ?_; clear hK) | (clear hK; clear hK; refine hK _ ?_; clear hK) | (clear hK; clear hK; clear hK; refine hK _ ?_; clear hK) | (clear hK; clear hK; clear hK; clear hK; refine hK _ ?_; clear hK) | (refine wSeq fun K hK => ?_) | ((first | refine wReg ?_ | refine wDrwQ rfl (by kernel_rfl) ?_ | refine wDrwI ?_ | refine wDrw (by kernel_rfl) ?_); simp only [List.map_cons, List.map_nil, strip]) | ((first | refine wIs fun K hK => ?_ | refine wOs fun K hK => ?_ | refine wQs fun K hK => ?_ | refine CallK_plain ?_ | refine CallQ_plain ?_ | refine CallR_plain ?_ | refine wCond ?_); simp [eq_true h1, eq_true h2, hw]) | (refine wIn ?_; refine And.intro (by kernel_rfl) ?_; try simp only [thenA_n]) | (first | refine wBlock ?_ | refine wScope ?_) | ((first | refine wRet ?_ | refine wExit ?_ | refine wSkip ?_); try simp) | ((first | refine wLabel ?_ | refine wOn ?_ | refine wQn ?_); try simp only [thenA_n]) | (refine CallE.pure (c1) rfl ?_) | (refine CallE.lent (c1) rfl ?_) | (refine CallF.pure (c1) rfl ?_) | (refine CallF.lent (c1) rfl ?_) | (refine CallE.own (c1) ?_) | (refine CallH.pure (c1) rfl ?_) | (refine CallH.lent (c1) rfl ?_) | (refine CallH.own (c1) ?_) | (refine CallE.pure (c3) rfl ?_) | (refine CallE.lent (c3) rfl ?_) | (refine CallF.pure (c3) rfl ?_) | (refine CallF.lent (c3) rfl ?_) | (refine CallE.own (c3) ?_) | (refine CallH.pure (c3) rfl ?_) | (refine CallH.lent (c3) rfl ?_) | (refine CallH.own (c3) ?_)
      all_goals first | apply hn | apply hr
      all_goals simp [Try.f23, hw]
    · have e0 : waitE c = 14 := by unfold waitE; rw [if_pos h1, if_neg h2]
      unfold askL waitC
      rw [e0, if_neg (by decide), if_neg (by decide)]
      unfold Cl.cells Rq.cells at *
      refine wBody Try.tab Try.mixed Try.func23 rfl rfl Try.ntmps23 (by simp) (by simp) fun Q hr hn => ?_
      repeat' first | (refine hK _ ?_; clear hK) | (refine hK _ _ ?_; clear hK) | (clear hK; refine hK _ ?_; clear hK) | (clear hK; clear hK; refine hK _ ?_; clear hK) | (clear hK; clear hK; clear hK; refine hK _ ?_; clear hK) | (clear hK; clear hK; clear hK; clear hK; refine hK _ ?_; clear hK) | (refine wSeq fun K hK => ?_) | ((first | refine wReg ?_ | refine wDrwQ rfl (by kernel_rfl) ?_ | refine wDrwI ?_ | refine wDrw (by kernel_rfl) ?_); simp only [List.map_cons, List.map_nil, strip]) | ((first | refine wIs fun K hK => ?_ | refine wOs fun K hK => ?_ | refine wQs fun K hK => ?_ | refine CallK_plain ?_ | refine CallQ_plain ?_ | refine CallR_plain ?_ | refine wCond ?_); simp [eq_true h1, eq_false h2]) | (refine wIn ?_; refine And.intro (by kernel_rfl) ?_; try simp only [thenA_n]) | (first | refine wBlock ?_ | refine wScope ?_) | ((first | refine wRet ?_ | refine wExit ?_ | refine wSkip ?_); try simp) | ((first | refine wLabel ?_ | refine wOn ?_ | refine wQn ?_); try simp only [thenA_n]) | (refine CallE.pure (c1) rfl ?_) | (refine CallE.lent (c1) rfl ?_) | (refine CallF.pure (c1) rfl ?_) | (refine CallF.lent (c1) rfl ?_) | (refine CallE.own (c1) ?_) | (refine CallH.pure (c1) rfl ?_) | (refine CallH.lent (c1) rfl ?_) | (refine CallH.own (c1) ?_)
      all_goals first | apply hn | apply hr
      all_goals simp [Try.f23]
  · have e0 : waitE c = 9 := by unfold waitE; rw [if_neg h1]
    unfold askL waitC
    rw [e0, if_neg (by decide), if_neg (by decide)]
    unfold Cl.cells Rq.cells at *
    refine wBody Try.tab Try.mixed Try.func23 rfl rfl Try.ntmps23 (by simp) (by simp) fun Q hr hn => ?_
    repeat' first | (refine hK _ ?_; clear hK) | (refine hK _ _ ?_; clear hK) | (clear hK; refine hK _ ?_; clear hK) | (clear hK; clear hK; refine hK _ ?_; clear hK) | (clear hK; clear hK; clear hK; refine hK _ ?_; clear hK) | (clear hK; clear hK; clear hK; clear hK; refine hK _ ?_; clear hK) | (refine wSeq fun K hK => ?_) | ((first | refine wReg ?_ | refine wDrwQ rfl (by kernel_rfl) ?_ | refine wDrwI ?_ | refine wDrw (by kernel_rfl) ?_); simp only [List.map_cons, List.map_nil, strip]) | ((first | refine wIs fun K hK => ?_ | refine wOs fun K hK => ?_ | refine wQs fun K hK => ?_ | refine CallK_plain ?_ | refine CallQ_plain ?_ | refine CallR_plain ?_ | refine wCond ?_); simp [eq_false h1]) | (refine wIn ?_; refine And.intro (by kernel_rfl) ?_; try simp only [thenA_n]) | (first | refine wBlock ?_ | refine wScope ?_) | ((first | refine wRet ?_ | refine wExit ?_ | refine wSkip ?_); try simp) | ((first | refine wLabel ?_ | refine wOn ?_ | refine wQn ?_); try simp only [thenA_n]) | (refine CallE.pure (c1) rfl ?_) | (refine CallE.lent (c1) rfl ?_) | (refine CallF.pure (c1) rfl ?_) | (refine CallF.lent (c1) rfl ?_) | (refine CallE.own (c1) ?_) | (refine CallH.pure (c1) rfl ?_) | (refine CallH.lent (c1) rfl ?_) | (refine CallH.own (c1) ?_)
    all_goals first | apply hn | apply hr
    all_goals simp [Try.f23]
set_option maxHeartbeats 2000000 in
theorem read26_con (c : Cl) (k : Int) (p : List UInt8) (b : Bool) (hn : c.nt.length ≤ 1000000) (hx : c.xi ≤ 1000000000 ∧ 0 ≤ c.xi) : ACon Try.prog 24 [.p (.agg c.cells), .p (I k), .p (SB p), .p (B b)] (.tup [.p (.agg (rdC c k).cells), .p (.sl 33 (rdL c k p b)), .p (I (rdE c k))]) := by
  have c1 := own26_con c hn
  have hw : IntKind.i64.wrap (c.xi + 1) = c.xi + 1 := by rw [wrap_id] <;> omega
  unfold rdL rdE rdC
  by_cases hk : k = 1 ∨ k = 2
  · rw [if_pos hk, if_pos hk]
    have hk2 : ¬ k = 1 → k = 2 := by omega
    by_cases h1 : c.ph = 2
    · by_cases h2 : c.wt = 0
      · have e0 : waitE c = 0 := by unfold waitE; rw [if_pos h1, if_pos h2]
        have c3 := word26_con (waitC c k) 3
        unfold waitC at *
        rw [if_pos e0] at *
        rw [e0, if_pos rfl]
        unfold readW wdZ Wd.cells Rq.zero Nt.zero at *
        unfold Cl.cells at *
        dsimp only at *
        by_cases k1 : k = 1
        · refine wBody Try.tab Try.mixed Try.func24 rfl rfl Try.ntmps24 (by simp) (by simp) fun Q hr hn => ?_
          repeat' first | (refine hK _ ?_; clear hK) | (refine hK _ _ ?_; clear hK) | (clear hK; refine hK _ ?_; clear hK) | (clear hK; clear hK; refine hK _ ?_; clear hK) | (clear hK; clear hK; clear hK; refine hK _ ?_; clear hK) | (clear hK; clear hK; clear hK; clear hK; refine hK _ ?_; clear hK) | (refine wSeq fun K hK => ?_) | ((first | refine wReg ?_ | refine wDrwQ rfl (by kernel_rfl) ?_ | refine wDrwI ?_ | refine wDrw (by kernel_rfl) ?_); simp only [List.map_cons, List.map_nil, strip]) | ((first | refine wIs fun K hK => ?_ | refine wOs fun K hK => ?_ | refine wQs fun K hK => ?_ | refine CallK_plain ?_ | refine CallQ_plain ?_ | refine CallR_plain ?_ | refine wCond ?_); simp [eq_true h1, eq_true h2, hw, eq_true k1]) | (refine wIn ?_; refine And.intro (by kernel_rfl) ?_; try simp only [thenA_n]) | (first | refine wBlock ?_ | refine wScope ?_) | ((first | refine wRet ?_ | refine wExit ?_ | refine wSkip ?_); try simp) | ((first | refine wLabel ?_ | refine wOn ?_ | refine wQn ?_); try simp only [thenA_n]) | (refine CallE.pure (c1) rfl ?_) | (refine CallE.lent (c1) rfl ?_) | (refine CallF.pure (c1) rfl ?_) | (refine CallF.lent (c1) rfl ?_) | (refine CallE.own (c1) ?_) | (refine CallH.pure (c1) rfl ?_) | (refine CallH.lent (c1) rfl ?_) | (refine CallH.own (c1) ?_) | (refine CallE.pure (c3) rfl ?_) | (refine CallE.lent (c3) rfl ?_) | (refine CallF.pure (c3) rfl ?_) | (refine CallF.lent (c3) rfl ?_) | (refine CallE.own (c3) ?_) | (refine CallH.pure (c3) rfl ?_) | (refine CallH.lent (c3) rfl ?_) | (refine CallH.own (c3) ?_)
          all_goals first | apply hn | apply hr
          all_goals simp [Try.f24, hw]
        · refine wBody Try.tab Try.mixed Try.func24 rfl rfl Try.ntmps24 (by simp) (by simp) fun Q hr hn => ?_
          repeat' first | (refine hK _ ?_; clear hK) | (refine hK _ _ ?_; clear hK) | (clear hK; refine hK _ ?_; clear hK) | (clear hK; clear hK; refine hK _ ?_; clear hK) | (clear hK; clear hK; clear hK; refine hK _ ?_; clear hK) | (clear hK; clear hK; clear hK; clear hK; refine hK _ ?_; clear hK) | (refine wSeq fun K hK => ?_) | ((first | refine wReg ?_ | refine wDrwQ rfl (by kernel_rfl) ?_ | refine wDrwI ?_ | refine wDrw (by kernel_rfl) ?_); simp only [List.map_cons, List.map_nil, strip]) | ((first | refine wIs fun K hK => ?_ | refine wOs fun K hK => ?_ | refine wQs fun K hK => ?_ | refine CallK_plain ?_ | refine CallQ_plain ?_ | refine CallR_plain ?_ | refine wCond ?_); simp [eq_true h1, eq_true h2, hw, eq_false k1, eq_true (hk2 k1)]) | (refine wIn ?_; refine And.intro (by kernel_rfl) ?_; try simp only [thenA_n]) | (first | refine wBlock ?_ | refine wScope ?_) | ((first | refine wRet ?_ | refine wExit ?_ | refine wSkip ?_); try simp) | ((first | refine wLabel ?_ | refine wOn ?_ | refine wQn ?_); try simp only [thenA_n]) | (refine CallE.pure (c1) rfl ?_) | (refine CallE.lent (c1) rfl ?_) | (refine CallF.pure (c1) rfl ?_) | (refine CallF.lent (c1) rfl ?_) | (refine CallE.own (c1) ?_) | (refine CallH.pure (c1) rfl ?_) | (refine CallH.lent (c1) rfl ?_) | (refine CallH.own (c1) ?_) | (refine CallE.pure (c3) rfl ?_) | (refine CallE.lent (c3) rfl ?_) | (refine CallF.pure (c3) rfl ?_) | (refine CallF.lent (c3) rfl ?_) | (refine CallE.own (c3) ?_) | (refine CallH.pure (c3) rfl ?_) | (refine CallH.lent (c3) rfl ?_) | (refine CallH.own (c3) ?_)
          all_goals first | apply hn | apply hr
          all_goals simp [Try.f24, hw]
      · have e0 : waitE c = 14 := by unfold waitE; rw [if_pos h1, if_neg h2]
        unfold waitC
        rw [e0, if_neg (by decide), if_neg (by decide)]
        unfold Cl.cells at *
        by_cases k1 : k = 1
        · refine wBody Try.tab Try.mixed Try.func24 rfl rfl Try.ntmps24 (by simp) (by simp) fun Q hr hn => ?_
          repeat' first | (refine hK _ ?_; clear hK) | (refine hK _ _ ?_; clear hK) | (clear hK; refine hK _ ?_; clear hK) | (clear hK; clear hK; refine hK _ ?_; clear hK) | (clear hK; clear hK; clear hK; refine hK _ ?_; clear hK) | (clear hK; clear hK; clear hK; clear hK; refine hK _ ?_; clear hK) | (refine wSeq fun K hK => ?_) | ((first | refine wReg ?_ | refine wDrwQ rfl (by kernel_rfl) ?_ | refine wDrwI ?_ | refine wDrw (by kernel_rfl) ?_); simp only [List.map_cons, List.map_nil, strip]) | ((first | refine wIs fun K hK => ?_ | refine wOs fun K hK => ?_ | refine wQs fun K hK => ?_ | refine CallK_plain ?_ | refine CallQ_plain ?_ | refine CallR_plain ?_ | refine wCond ?_); simp [eq_true h1, eq_false h2, eq_true k1]) | (refine wIn ?_; refine And.intro (by kernel_rfl) ?_; try simp only [thenA_n]) | (first | refine wBlock ?_ | refine wScope ?_) | ((first | refine wRet ?_ | refine wExit ?_ | refine wSkip ?_); try simp) | ((first | refine wLabel ?_ | refine wOn ?_ | refine wQn ?_); try simp only [thenA_n]) | (refine CallE.pure (c1) rfl ?_) | (refine CallE.lent (c1) rfl ?_) | (refine CallF.pure (c1) rfl ?_) | (refine CallF.lent (c1) rfl ?_) | (refine CallE.own (c1) ?_) | (refine CallH.pure (c1) rfl ?_) | (refine CallH.lent (c1) rfl ?_) | (refine CallH.own (c1) ?_)
          all_goals first | apply hn | apply hr
          all_goals simp [Try.f24]
        · refine wBody Try.tab Try.mixed Try.func24 rfl rfl Try.ntmps24 (by simp) (by simp) fun Q hr hn => ?_
          repeat' first | (refine hK _ ?_; clear hK) | (refine hK _ _ ?_; clear hK) | (clear hK; refine hK _ ?_; clear hK) | (clear hK; clear hK; refine hK _ ?_; clear hK) | (clear hK; clear hK; clear hK; refine hK _ ?_; clear hK) | (clear hK; clear hK; clear hK; clear hK; refine hK _ ?_; clear hK) | (refine wSeq fun K hK => ?_) | ((first | refine wReg ?_ | refine wDrwQ rfl (by kernel_rfl) ?_ | refine wDrwI ?_ | refine wDrw (by kernel_rfl) ?_); simp only [List.map_cons, List.map_nil, strip]) | ((first | refine wIs fun K hK => ?_ | refine wOs fun K hK => ?_ | refine wQs fun K hK => ?_ | refine CallK_plain ?_ | refine CallQ_plain ?_ | refine CallR_plain ?_ | refine wCond ?_); simp [eq_true h1, eq_false h2, eq_false k1, eq_true (hk2 k1)]) | (refine wIn ?_; refine And.intro (by kernel_rfl) ?_; try simp only [thenA_n]) | (first | refine wBlock ?_ | refine wScope ?_) | ((first | refine wRet ?_ | refine wExit ?_ | refine wSkip ?_); try simp) | ((first | refine wLabel ?_ | refine wOn ?_ | refine wQn ?_); try simp only [thenA_n]) | (refine CallE.pure (c1) rfl ?_) | (refine CallE.lent (c1) rfl ?_) | (refine CallF.pure (c1) rfl ?_) | (refine CallF.lent (c1) rfl ?_) | (refine CallE.own (c1) ?_) | (refine CallH.pure (c1) rfl ?_) | (refine CallH.lent (c1) rfl ?_) | (refine CallH.own (c1) ?_)
          all_goals first | apply hn | apply hr
          all_goals simp [Try.f24]
    · have e0 : waitE c = 9 := by unfold waitE; rw [if_neg h1]
      unfold waitC
      rw [e0, if_neg (by decide), if_neg (by decide)]
      unfold Cl.cells at *
      by_cases k1 : k = 1
      · refine wBody Try.tab Try.mixed Try.func24 rfl rfl Try.ntmps24 (by simp) (by simp) fun Q hr hn => ?_
        repeat' first | (refine hK _ ?_; clear hK) | (refine hK _ _ ?_; clear hK) | (clear hK; refine hK _ ?_; clear hK) | (clear hK; clear hK; refine hK _ ?_; clear hK) | (clear hK; clear hK; clear hK; refine hK _ ?_; clear hK) | (clear hK; clear hK; clear hK; clear hK; refine hK _ ?_; clear hK) | (refine wSeq fun K hK => ?_) | ((first | refine wReg ?_ | refine wDrwQ rfl (by kernel_rfl) ?_ | refine wDrwI ?_ | refine wDrw (by kernel_rfl) ?_); simp only [List.map_cons, List.map_nil, strip]) | ((first | refine wIs fun K hK => ?_ | refine wOs fun K hK => ?_ | refine wQs fun K hK => ?_ | refine CallK_plain ?_ | refine CallQ_plain ?_ | refine CallR_plain ?_ | refine wCond ?_); simp [eq_false h1, eq_true k1]) | (refine wIn ?_; refine And.intro (by kernel_rfl) ?_; try simp only [thenA_n]) | (first | refine wBlock ?_ | refine wScope ?_) | ((first | refine wRet ?_ | refine wExit ?_ | refine wSkip ?_); try simp) | ((first | refine wLabel ?_ | refine wOn ?_ | refine wQn ?_); try simp only [thenA_n]) | (refine CallE.pure (c1) rfl ?_) | (refine CallE.lent (c1) rfl ?_) | (refine CallF.pure (c1) rfl ?_) | (refine CallF.lent (c1) rfl ?_) | (refine CallE.own (c1) ?_) | (refine CallH.pure (c1) rfl ?_) | (refine CallH.lent (c1) rfl ?_) | (refine CallH.own (c1) ?_)
        all_goals first | apply hn | apply hr
        all_goals simp [Try.f24]
      · refine wBody Try.tab Try.mixed Try.func24 rfl rfl Try.ntmps24 (by simp) (by simp) fun Q hr hn => ?_
        repeat' first | (refine hK _ ?_; clear hK) | (refine hK _ _ ?_; clear hK) | (clear hK; refine hK _ ?_; clear hK) | (clear hK; clear hK; refine hK _ ?_; clear hK) | (clear hK; clear hK; clear hK; refine hK _ ?_; clear hK) | (clear hK; clear hK; clear hK; clear hK; refine hK _ ?_; clear hK) | (refine wSeq fun K hK => ?_) | ((first | refine wReg ?_ | refine wDrwQ rfl (by kernel_rfl) ?_ | refine wDrwI ?_ | refine wDrw (by kernel_rfl) ?_); simp only [List.map_cons, List.map_nil, strip]) | ((first | refine wIs fun K hK => ?_ | refine wOs fun K hK => ?_ | refine wQs fun K hK => ?_ | refine CallK_plain ?_ | refine CallQ_plain ?_ | refine CallR_plain ?_ | refine wCond ?_); simp [eq_false h1, eq_false k1, eq_true (hk2 k1)]) | (refine wIn ?_; refine And.intro (by kernel_rfl) ?_; try simp only [thenA_n]) | (first | refine wBlock ?_ | refine wScope ?_) | ((first | refine wRet ?_ | refine wExit ?_ | refine wSkip ?_); try simp) | ((first | refine wLabel ?_ | refine wOn ?_ | refine wQn ?_); try simp only [thenA_n]) | (refine CallE.pure (c1) rfl ?_) | (refine CallE.lent (c1) rfl ?_) | (refine CallF.pure (c1) rfl ?_) | (refine CallF.lent (c1) rfl ?_) | (refine CallE.own (c1) ?_) | (refine CallH.pure (c1) rfl ?_) | (refine CallH.lent (c1) rfl ?_) | (refine CallH.own (c1) ?_)
        all_goals first | apply hn | apply hr
        all_goals simp [Try.f24]
  · rw [if_neg hk, if_neg hk]
    have k1 : (k = 1) = False := eq_false fun h => hk (.inl h)
    have k2 : (k = 2) = False := eq_false fun h => hk (.inr h)
    unfold Cl.cells at *
    refine wBody Try.tab Try.mixed Try.func24 rfl rfl Try.ntmps24 (by simp) (by simp) fun Q hr hn => ?_
    repeat' first | (refine hK _ ?_; clear hK) | (refine hK _ _ ?_; clear hK) | (clear hK; refine hK _ ?_; clear hK) | (clear hK; clear hK; refine hK _ ?_; clear hK) | (clear hK; clear hK; clear hK; refine hK _ ?_; clear hK) | (clear hK; clear hK; clear hK; clear hK; refine hK _ ?_; clear hK) | (refine wSeq fun K hK => ?_) | ((first | refine wReg ?_ | refine wDrwQ rfl (by kernel_rfl) ?_ | refine wDrwI ?_ | refine wDrw (by kernel_rfl) ?_); simp only [List.map_cons, List.map_nil, strip]) | ((first | refine wIs fun K hK => ?_ | refine wOs fun K hK => ?_ | refine wQs fun K hK => ?_ | refine CallK_plain ?_ | refine CallQ_plain ?_ | refine CallR_plain ?_ | refine wCond ?_); simp [k1, k2]) | (refine wIn ?_; refine And.intro (by kernel_rfl) ?_; try simp only [thenA_n]) | (first | refine wBlock ?_ | refine wScope ?_) | ((first | refine wRet ?_ | refine wExit ?_ | refine wSkip ?_); try simp) | ((first | refine wLabel ?_ | refine wOn ?_ | refine wQn ?_); try simp only [thenA_n]) | (refine CallE.pure (c1) rfl ?_) | (refine CallE.lent (c1) rfl ?_) | (refine CallF.pure (c1) rfl ?_) | (refine CallF.lent (c1) rfl ?_) | (refine CallE.own (c1) ?_) | (refine CallH.pure (c1) rfl ?_) | (refine CallH.lent (c1) rfl ?_) | (refine CallH.own (c1) ?_)
    all_goals first | apply hn | apply hr
    all_goals simp [Try.f24]
/- Clients, the document's: a word heard. -/
/-- A row is frozen ahead of an operation, once. -/
theorem wFrzR [Glob] {P : Program} {T : TypeId → Option Ty} {N : Nat} {ops : Array Oper} {o : Oper} {rest : List Oper} {st : St} {K : St → Prop} {Z : Value → St → Prop} (b : Nat) {e c : Nat} (X : List (List PV)) (hb : st.b b = some (.row e c X)) (h : WO P T N ops (o :: rest) (Av.frz st b c X) K Z) : WO P T N ops (o :: rest) st K Z := by
  refine wFrz [.frz b] ?_
  have e0 : frzL st [.frz b] = Av.frz st b c X := by simp only [frzL, gh1, hb]
  rw [e0]
  exact h
theorem own26R_con (c : Cl) (hn : c.nt.length ≤ 1000000) : Con Try.prog 37 [.p (.agg c.cells)] [] (.ret (.ag [.p (I c.id), .p (I c.sv), .p (I c.ph), .p (I c.ss), .p (I c.se), .p (I c.sn), .p (I c.xi), .p (I c.wt), .p (I c.rd), .row 2048]) [.row 45 6 (nts c.nt)] []) := by
  have hl : (nts c.nt).length ≤ 1000000 := by simpa using hn
  unfold Cl.cells
  generalize nts c.nt = X at *
  by_cases hX : X = []
  · subst hX
    refine wBodyG Try.tab Try.mixed Try.func37 rfl rfl Try.ntmps37 (by simp) (by simp) fun Q hr hn hp => ?_
    repeat' first | (refine Or.inl ?_) | (refine And.intro (by omega) (Or.inl ?_)) | (refine And.intro (by omega) ?_) | (refine hK _ ?_; clear hK) | (refine hK _ _ ?_; clear hK) | (clear hK; refine hK _ ?_; clear hK) | (clear hK; clear hK; refine hK _ ?_; clear hK) | (clear hK; clear hK; clear hK; refine hK _ ?_; clear hK) | (clear hK; clear hK; clear hK; clear hK; refine hK _ ?_; clear hK) | (refine wSeq fun K hK => ?_) | ((first | refine wReg ?_ | refine wDrwQ rfl (by kernel_rfl) ?_ | refine wDrwI ?_ | refine wDrw (by kernel_rfl) ?_); simp only [List.map_cons, List.map_nil, strip]) | ((first | refine wIs fun K hK => ?_ | refine wOs fun K hK => ?_ | refine wQs fun K hK => ?_ | refine CallK_plain ?_ | refine CallQ_plain ?_ | refine CallR_plain ?_ | refine wCond ?_); simp) | (refine wIn ?_; refine And.intro (by kernel_rfl) ?_; try simp only [thenA_n]) | (first | refine wBlock ?_ | refine wScope ?_) | ((first | refine wRet ?_ | refine wExit ?_ | refine wSkip ?_); try simp) | ((first | refine wLabel ?_ | refine wOn ?_ | refine wQn ?_); try simp only [thenA_n])
    all_goals first | apply hn | apply hr
    all_goals refine ⟨[6], by simp, by simp, ?_⟩
    all_goals simp [Try.f37, outR, outB, renB, gaN]
  · refine wBodyG Try.tab Try.mixed Try.func37 rfl rfl Try.ntmps37 (by simp) (by simp) fun Q hr hn hp => ?_
    repeat' first | (refine And.intro (by omega) (Or.inl ?_)) | (refine And.intro (by omega) ?_) | (refine hK _ ?_; clear hK) | (refine hK _ _ ?_; clear hK) | (clear hK; refine hK _ ?_; clear hK) | (clear hK; clear hK; refine hK _ ?_; clear hK) | (clear hK; clear hK; clear hK; refine hK _ ?_; clear hK) | (clear hK; clear hK; clear hK; clear hK; refine hK _ ?_; clear hK) | (refine wSeq fun K hK => ?_) | ((first | refine wReg ?_ | refine wDrwQ rfl (by kernel_rfl) ?_ | refine wDrwI ?_ | refine wDrw (by kernel_rfl) ?_); simp only [List.map_cons, List.map_nil, strip]) | ((first | refine wIs fun K hK => ?_ | refine wOs fun K hK => ?_ | refine wQs fun K hK => ?_ | refine CallK_plain ?_ | refine CallQ_plain ?_ | refine CallR_plain ?_ | refine wCond ?_); simp [hX]) | (refine wIn ?_; refine And.intro (by kernel_rfl) ?_; try simp only [thenA_n]) | (first | refine wBlock ?_ | refine wScope ?_) | ((first | refine wRet ?_ | refine wExit ?_ | refine wSkip ?_); try simp) | ((first | refine wLabel ?_ | refine wOn ?_ | refine wQn ?_); try simp only [thenA_n])
    all_goals first | apply hn | apply hr
    all_goals refine ⟨[6], by simp, by simp, ?_⟩
    all_goals simp [Try.f37, outR, outB, renB, gaN]
set_option maxHeartbeats 4000000 in
theorem hear26_con (c : Cl) (w : Wd) (hn : c.nt.length ≤ 1000000) (hw : OkW w) (hq : c.wt = 0 → c.rd = 0) : ACon Try.prog 25 [.p (.agg c.cells), .p (.agg w.cells)] (.tup [.p (.agg (hearC c w).1.cells), .p (.sl 36 (hearC c w).2)]) := by
  have c1 := own26_con c hn
  have hnm := hw.n
  unfold hearC
  by_cases hf : forC c w
  case neg =>
    rw [if_neg hf]
    unfold forC at hf
    unfold Cl.cells Wd.cells at *
    by_cases f1 : w.cl = c.id
    · by_cases f2 : w.sv = c.sv
      · have f3 : c.ph = 0 := Decidable.byContradiction fun h => hf ⟨f1, f2, h⟩
        refine wBody Try.tab Try.mixed Try.func25 rfl rfl Try.ntmps25 (by simp) (by simp) fun Q hr hn => ?_
        repeat' first | (refine And.intro (by omega) (Or.inr ?_)) | (refine And.intro (by omega) ?_) | (refine hK _ ?_; clear hK) | (refine hK _ _ ?_; clear hK) | (clear hK; refine hK _ ?_; clear hK) | (clear hK; clear hK; refine hK _ ?_; clear hK) | (clear hK; clear hK; clear hK; refine hK _ ?_; clear hK) | (clear hK; clear hK; clear hK; clear hK; refine hK _ ?_; clear hK) | (refine wSeq fun K hK => ?_) | ((first | refine wReg ?_ | refine wDrwQ rfl (by kernel_rfl) ?_ | refine wDrwI ?_ | refine wDrw (by kernel_rfl) ?_); simp only [List.map_cons, List.map_nil, strip]) | ((first | refine wIs fun K hK => ?_ | refine wOs fun K hK => ?_ | refine wQs fun K hK => ?_ | refine CallK_plain ?_ | refine CallQ_plain ?_ | refine CallR_plain ?_ | refine wCond ?_); simp [eq_true f1, eq_true f2, eq_true f3]) | (refine wIn ?_; refine And.intro (by kernel_rfl) ?_; try simp only [thenA_n]) | (first | refine wBlock ?_ | refine wScope ?_) | ((first | refine wRet ?_ | refine wExit ?_ | refine wSkip ?_); try simp) | ((first | refine wLabel ?_ | refine wOn ?_ | refine wQn ?_); try simp only [thenA_n]) | (refine CallE.pure (c1) rfl ?_) | (refine CallE.lent (c1) rfl ?_) | (refine CallF.pure (c1) rfl ?_) | (refine CallF.lent (c1) rfl ?_) | (refine CallE.own (c1) ?_) | (refine CallH.pure (c1) rfl ?_) | (refine CallH.lent (c1) rfl ?_) | (refine CallH.own (c1) ?_)
        all_goals first | apply hn | apply hr
        all_goals simp [Try.f25]
      · skip
        refine wBody Try.tab Try.mixed Try.func25 rfl rfl Try.ntmps25 (by simp) (by simp) fun Q hr hn => ?_
        repeat' first | (refine And.intro (by omega) (Or.inr ?_)) | (refine And.intro (by omega) ?_) | (refine hK _ ?_; clear hK) | (refine hK _ _ ?_; clear hK) | (clear hK; refine hK _ ?_; clear hK) | (clear hK; clear hK; refine hK _ ?_; clear hK) | (clear hK; clear hK; clear hK; refine hK _ ?_; clear hK) | (clear hK; clear hK; clear hK; clear hK; refine hK _ ?_; clear hK) | (refine wSeq fun K hK => ?_) | ((first | refine wReg ?_ | refine wDrwQ rfl (by kernel_rfl) ?_ | refine wDrwI ?_ | refine wDrw (by kernel_rfl) ?_); simp only [List.map_cons, List.map_nil, strip]) | ((first | refine wIs fun K hK => ?_ | refine wOs fun K hK => ?_ | refine wQs fun K hK => ?_ | refine CallK_plain ?_ | refine CallQ_plain ?_ | refine CallR_plain ?_ | refine wCond ?_); simp [eq_true f1, eq_false f2]) | (refine wIn ?_; refine And.intro (by kernel_rfl) ?_; try simp only [thenA_n]) | (first | refine wBlock ?_ | refine wScope ?_) | ((first | refine wRet ?_ | refine wExit ?_ | refine wSkip ?_); try simp) | ((first | refine wLabel ?_ | refine wOn ?_ | refine wQn ?_); try simp only [thenA_n]) | (refine CallE.pure (c1) rfl ?_) | (refine CallE.lent (c1) rfl ?_) | (refine CallF.pure (c1) rfl ?_) | (refine CallF.lent (c1) rfl ?_) | (refine CallE.own (c1) ?_) | (refine CallH.pure (c1) rfl ?_) | (refine CallH.lent (c1) rfl ?_) | (refine CallH.own (c1) ?_)
        all_goals first | apply hn | apply hr
        all_goals simp [Try.f25]
    · skip
      refine wBody Try.tab Try.mixed Try.func25 rfl rfl Try.ntmps25 (by simp) (by simp) fun Q hr hn => ?_
      repeat' first | (refine And.intro (by omega) (Or.inr ?_)) | (refine And.intro (by omega) ?_) | (refine hK _ ?_; clear hK) | (refine hK _ _ ?_; clear hK) | (clear hK; refine hK _ ?_; clear hK) | (clear hK; clear hK; refine hK _ ?_; clear hK) | (clear hK; clear hK; clear hK; refine hK _ ?_; clear hK) | (clear hK; clear hK; clear hK; clear hK; refine hK _ ?_; clear hK) | (refine wSeq fun K hK => ?_) | ((first | refine wReg ?_ | refine wDrwQ rfl (by kernel_rfl) ?_ | refine wDrwI ?_ | refine wDrw (by kernel_rfl) ?_); simp only [List.map_cons, List.map_nil, strip]) | ((first | refine wIs fun K hK => ?_ | refine wOs fun K hK => ?_ | refine wQs fun K hK => ?_ | refine CallK_plain ?_ | refine CallQ_plain ?_ | refine CallR_plain ?_ | refine wCond ?_); simp [eq_false f1]) | (refine wIn ?_; refine And.intro (by kernel_rfl) ?_; try simp only [thenA_n]) | (first | refine wBlock ?_ | refine wScope ?_) | ((first | refine wRet ?_ | refine wExit ?_ | refine wSkip ?_); try simp) | ((first | refine wLabel ?_ | refine wOn ?_ | refine wQn ?_); try simp only [thenA_n]) | (refine CallE.pure (c1) rfl ?_) | (refine CallE.lent (c1) rfl ?_) | (refine CallF.pure (c1) rfl ?_) | (refine CallF.lent (c1) rfl ?_) | (refine CallE.own (c1) ?_) | (refine CallH.pure (c1) rfl ?_) | (refine CallH.lent (c1) rfl ?_) | (refine CallH.own (c1) ?_)
      all_goals first | apply hn | apply hr
      all_goals simp [Try.f25]
  rw [if_pos hf]
  obtain ⟨f1, f2, f3⟩ := hf
  have f1' : (w.cl = c.id) = True := eq_true f1
  have f2' : (w.sv = c.sv) = True := eq_true f2
  have f3' : (c.ph = 0) = False := eq_false f3
  by_cases h1 : w.kd = 11
  · rw [if_pos h1]
    have h1' : (w.kd = 11) = True := eq_true h1
    unfold openC
    by_cases h : c.ph = 1
    · rw [if_pos h]
      have c2 := seen26_con { c with ph := 2, ss := w.ss } w.ae w.an
      generalize seeC { c with ph := 2, ss := w.ss } w.ae w.an = r at *
      unfold Cl.cells Wd.cells at *
      dsimp only at *
      have hp : (c.ph = 1) = True := eq_true h
      refine wBody Try.tab Try.mixed Try.func25 rfl rfl Try.ntmps25 (by simp) (by simp) fun Q hr hn => ?_
      repeat' first | (refine And.intro (by omega) (Or.inr ?_)) | (refine And.intro (by omega) ?_) | (refine hK _ ?_; clear hK) | (refine hK _ _ ?_; clear hK) | (clear hK; refine hK _ ?_; clear hK) | (clear hK; clear hK; refine hK _ ?_; clear hK) | (clear hK; clear hK; clear hK; refine hK _ ?_; clear hK) | (clear hK; clear hK; clear hK; clear hK; refine hK _ ?_; clear hK) | (refine wSeq fun K hK => ?_) | ((first | refine wReg ?_ | refine wDrwQ rfl (by kernel_rfl) ?_ | refine wDrwI ?_ | refine wDrw (by kernel_rfl) ?_); simp only [List.map_cons, List.map_nil, strip]) | ((first | refine wIs fun K hK => ?_ | refine wOs fun K hK => ?_ | refine wQs fun K hK => ?_ | refine CallK_plain ?_ | refine CallQ_plain ?_ | refine CallR_plain ?_ | refine wCond ?_); simp [f1', f2', f3', h1', hp]) | (refine wIn ?_; refine And.intro (by kernel_rfl) ?_; try simp only [thenA_n]) | (first | refine wBlock ?_ | refine wScope ?_) | ((first | refine wRet ?_ | refine wExit ?_ | refine wSkip ?_); try simp) | ((first | refine wLabel ?_ | refine wOn ?_ | refine wQn ?_); try simp only [thenA_n]) | (refine CallE.pure (c1) rfl ?_) | (refine CallE.lent (c1) rfl ?_) | (refine CallF.pure (c1) rfl ?_) | (refine CallF.lent (c1) rfl ?_) | (refine CallE.own (c1) ?_) | (refine CallH.pure (c1) rfl ?_) | (refine CallH.lent (c1) rfl ?_) | (refine CallH.own (c1) ?_) | (refine CallE.pure (c2) rfl ?_) | (refine CallE.lent (c2) rfl ?_) | (refine CallF.pure (c2) rfl ?_) | (refine CallF.lent (c2) rfl ?_) | (refine CallE.own (c2) ?_) | (refine CallH.pure (c2) rfl ?_) | (refine CallH.lent (c2) rfl ?_) | (refine CallH.own (c2) ?_)
      all_goals first | apply hn | apply hr
      all_goals simp [Try.f25]
    · rw [if_neg h]
      unfold Cl.cells Wd.cells at *
      have hp : (c.ph = 1) = False := eq_false h
      refine wBody Try.tab Try.mixed Try.func25 rfl rfl Try.ntmps25 (by simp) (by simp) fun Q hr hn => ?_
      repeat' first | (refine And.intro (by omega) (Or.inr ?_)) | (refine And.intro (by omega) ?_) | (refine hK _ ?_; clear hK) | (refine hK _ _ ?_; clear hK) | (clear hK; refine hK _ ?_; clear hK) | (clear hK; clear hK; refine hK _ ?_; clear hK) | (clear hK; clear hK; clear hK; refine hK _ ?_; clear hK) | (clear hK; clear hK; clear hK; clear hK; refine hK _ ?_; clear hK) | (refine wSeq fun K hK => ?_) | ((first | refine wReg ?_ | refine wDrwQ rfl (by kernel_rfl) ?_ | refine wDrwI ?_ | refine wDrw (by kernel_rfl) ?_); simp only [List.map_cons, List.map_nil, strip]) | ((first | refine wIs fun K hK => ?_ | refine wOs fun K hK => ?_ | refine wQs fun K hK => ?_ | refine CallK_plain ?_ | refine CallQ_plain ?_ | refine CallR_plain ?_ | refine wCond ?_); simp [f1', f2', f3', h1', hp]) | (refine wIn ?_; refine And.intro (by kernel_rfl) ?_; try simp only [thenA_n]) | (first | refine wBlock ?_ | refine wScope ?_) | ((first | refine wRet ?_ | refine wExit ?_ | refine wSkip ?_); try simp) | ((first | refine wLabel ?_ | refine wOn ?_ | refine wQn ?_); try simp only [thenA_n]) | (refine CallE.pure (c1) rfl ?_) | (refine CallE.lent (c1) rfl ?_) | (refine CallF.pure (c1) rfl ?_) | (refine CallF.lent (c1) rfl ?_) | (refine CallE.own (c1) ?_) | (refine CallH.pure (c1) rfl ?_) | (refine CallH.lent (c1) rfl ?_) | (refine CallH.own (c1) ?_)
      all_goals first | apply hn | apply hr
      all_goals simp [Try.f25]
  rw [if_neg h1]
  have h1' : (w.kd = 11) = False := eq_false h1
  by_cases h2 : w.kd = 12
  · rw [if_pos h2]
    have h2' : (w.kd = 12) = True := eq_true h2
    obtain ⟨e0, hE, c2⟩ : ∃ rs, rs = rsE c ∧ ACon Try.prog 36 [.p (.agg (noC c w).cells)] (.tup [.p (.agg (endC (noC c w)).cells), .p (.sl 36 rs)]) := by
      refine ⟨_, rfl, ?_⟩
      have e1 : (noC c w).wt = c.wt ∧ (noC c w).rd = c.rd ∧ (noC c w).id = c.id := by unfold noC; split <;> exact ⟨rfl, rfl, rfl⟩
      unfold rsE
      by_cases h : c.wt = 0
      · rw [if_pos h, endC_id (by rw [e1.1]; exact h) (by rw [e1.2.1]; exact hq h)]; exact over0_con _ (by rw [e1.1]; exact h)
      · rw [if_neg h]
        have := over1_con (noC c w) (by rw [e1.1]; exact h)
        rw [e1.1, e1.2.2] at this; exact this
    rw [← hE]
    clear hE hq
    unfold noC at *
    by_cases h : w.er = 13
    · rw [if_pos h] at c2 ⊢
      generalize endC { c with ss := 0, ph := 0 } = r at *
      unfold Cl.cells Wd.cells at *
      dsimp only at *
      have hp : (w.er = 13) = True := eq_true h
      refine wBody Try.tab Try.mixed Try.func25 rfl rfl Try.ntmps25 (by simp) (by simp) fun Q hr hn => ?_
      repeat' first | (refine And.intro (by omega) (Or.inr ?_)) | (refine And.intro (by omega) ?_) | (refine hK _ ?_; clear hK) | (refine hK _ _ ?_; clear hK) | (clear hK; refine hK _ ?_; clear hK) | (clear hK; clear hK; refine hK _ ?_; clear hK) | (clear hK; clear hK; clear hK; refine hK _ ?_; clear hK) | (clear hK; clear hK; clear hK; clear hK; refine hK _ ?_; clear hK) | (refine wSeq fun K hK => ?_) | ((first | refine wReg ?_ | refine wDrwQ rfl (by kernel_rfl) ?_ | refine wDrwI ?_ | refine wDrw (by kernel_rfl) ?_); simp only [List.map_cons, List.map_nil, strip]) | ((first | refine wIs fun K hK => ?_ | refine wOs fun K hK => ?_ | refine wQs fun K hK => ?_ | refine CallK_plain ?_ | refine CallQ_plain ?_ | refine CallR_plain ?_ | refine wCond ?_); simp [f1', f2', f3', h1', h2', hp]) | (refine wIn ?_; refine And.intro (by kernel_rfl) ?_; try simp only [thenA_n]) | (first | refine wBlock ?_ | refine wScope ?_) | ((first | refine wRet ?_ | refine wExit ?_ | refine wSkip ?_); try simp) | ((first | refine wLabel ?_ | refine wOn ?_ | refine wQn ?_); try simp only [thenA_n]) | (refine CallE.pure (c1) rfl ?_) | (refine CallE.lent (c1) rfl ?_) | (refine CallF.pure (c1) rfl ?_) | (refine CallF.lent (c1) rfl ?_) | (refine CallE.own (c1) ?_) | (refine CallH.pure (c1) rfl ?_) | (refine CallH.lent (c1) rfl ?_) | (refine CallH.own (c1) ?_) | (refine CallE.pure (c2) rfl ?_) | (refine CallE.lent (c2) rfl ?_) | (refine CallF.pure (c2) rfl ?_) | (refine CallF.lent (c2) rfl ?_) | (refine CallE.own (c2) ?_) | (refine CallH.pure (c2) rfl ?_) | (refine CallH.lent (c2) rfl ?_) | (refine CallH.own (c2) ?_)
      all_goals first | apply hn | apply hr
      all_goals simp [Try.f25]
    · rw [if_neg h] at c2 ⊢
      generalize endC { c with ph := 0 } = r at *
      unfold Cl.cells Wd.cells at *
      dsimp only at *
      have hp : (w.er = 13) = False := eq_false h
      refine wBody Try.tab Try.mixed Try.func25 rfl rfl Try.ntmps25 (by simp) (by simp) fun Q hr hn => ?_
      repeat' first | (refine And.intro (by omega) (Or.inr ?_)) | (refine And.intro (by omega) ?_) | (refine hK _ ?_; clear hK) | (refine hK _ _ ?_; clear hK) | (clear hK; refine hK _ ?_; clear hK) | (clear hK; clear hK; refine hK _ ?_; clear hK) | (clear hK; clear hK; clear hK; refine hK _ ?_; clear hK) | (clear hK; clear hK; clear hK; clear hK; refine hK _ ?_; clear hK) | (refine wSeq fun K hK => ?_) | ((first | refine wReg ?_ | refine wDrwQ rfl (by kernel_rfl) ?_ | refine wDrwI ?_ | refine wDrw (by kernel_rfl) ?_); simp only [List.map_cons, List.map_nil, strip]) | ((first | refine wIs fun K hK => ?_ | refine wOs fun K hK => ?_ | refine wQs fun K hK => ?_ | refine CallK_plain ?_ | refine CallQ_plain ?_ | refine CallR_plain ?_ | refine wCond ?_); simp [f1', f2', f3', h1', h2', hp]) | (refine wIn ?_; refine And.intro (by kernel_rfl) ?_; try simp only [thenA_n]) | (first | refine wBlock ?_ | refine wScope ?_) | ((first | refine wRet ?_ | refine wExit ?_ | refine wSkip ?_); try simp) | ((first | refine wLabel ?_ | refine wOn ?_ | refine wQn ?_); try simp only [thenA_n]) | (refine CallE.pure (c1) rfl ?_) | (refine CallE.lent (c1) rfl ?_) | (refine CallF.pure (c1) rfl ?_) | (refine CallF.lent (c1) rfl ?_) | (refine CallE.own (c1) ?_) | (refine CallH.pure (c1) rfl ?_) | (refine CallH.lent (c1) rfl ?_) | (refine CallH.own (c1) ?_) | (refine CallE.pure (c2) rfl ?_) | (refine CallE.lent (c2) rfl ?_) | (refine CallF.pure (c2) rfl ?_) | (refine CallF.lent (c2) rfl ?_) | (refine CallE.own (c2) ?_) | (refine CallH.pure (c2) rfl ?_) | (refine CallH.lent (c2) rfl ?_) | (refine CallH.own (c2) ?_)
      all_goals first | apply hn | apply hr
      all_goals simp [Try.f25]
  rw [if_neg h2]
  have h2' : (w.kd = 12) = False := eq_false h2
  by_cases h3 : w.kd = 15
  · rw [if_pos h3]
    have h3' : (w.kd = 15) = True := eq_true h3
    have c0 := own26R_con c hn
    have c2 := seen26_con { c with nt := c.nt ++ [w.nt] } w.nt.e w.nt.n
    unfold noteC
    generalize seeC { c with nt := c.nt ++ [w.nt] } w.nt.e w.nt.n = r at *
    have hs := nts_snoc c.nt w.nt
    clear c1
    unfold Cl.cells Wd.cells at *
    dsimp only at *
    refine wBody Try.tab Try.mixed Try.func25 rfl rfl Try.ntmps25 (by simp) (by simp) fun Q hr hn => ?_
    repeat' first | (refine CallK_gen [] (c0) (by decide) (by decide) (by simp [blksOf]) (by simp [argsG, argG, ren0, inN, pos, renCs, renC, toP, toPF]) ⟨[500], by simp, by simp, ?_⟩; simp [lv, ouN, kpI, kpR, pos, ren, ren0, renB, renC, renCs, renF, renFs]) | (refine wFrzR 500 (nts (c.nt ++ [w.nt])) rfl ?_; simp [frz, sub, sub0, subB]) | (refine And.intro (by omega) (Or.inl ?_)) | (refine And.intro (by omega) ?_) | (refine hK _ ?_; clear hK) | (refine hK _ _ ?_; clear hK) | (clear hK; refine hK _ ?_; clear hK) | (clear hK; clear hK; refine hK _ ?_; clear hK) | (clear hK; clear hK; clear hK; refine hK _ ?_; clear hK) | (clear hK; clear hK; clear hK; clear hK; refine hK _ ?_; clear hK) | (refine wSeq fun K hK => ?_) | ((first | refine wReg ?_ | refine wDrwQ rfl (by kernel_rfl) ?_ | refine wDrwI ?_ | refine wDrw (by kernel_rfl) ?_); simp only [List.map_cons, List.map_nil, strip]) | ((first | refine wIs fun K hK => ?_ | refine wOs fun K hK => ?_ | refine wQs fun K hK => ?_ | refine CallK_plain ?_ | refine CallQ_plain ?_ | refine CallR_plain ?_ | refine wCond ?_); simp [lv, ouN, kpI, kpR, pos, ren, ren0, renB, renC, renCs, renF, renFs, f1', f2', f3', h1', h2', h3', hs]) | (refine wIn ?_; refine And.intro (by kernel_rfl) ?_; try simp only [thenA_n]) | (first | refine wBlock ?_ | refine wScope ?_) | ((first | refine wRet ?_ | refine wExit ?_ | refine wSkip ?_); try simp) | ((first | refine wLabel ?_ | refine wOn ?_ | refine wQn ?_); try simp only [thenA_n]) | (refine CallE.pure (c2) rfl ?_) | (refine CallE.lent (c2) rfl ?_) | (refine CallF.pure (c2) rfl ?_) | (refine CallF.lent (c2) rfl ?_) | (refine CallE.own (c2) ?_) | (refine CallH.pure (c2) rfl ?_) | (refine CallH.lent (c2) rfl ?_) | (refine CallH.own (c2) ?_)
    all_goals first | apply hn | apply hr
    all_goals simp [Try.f25]
  rw [if_neg h3]
  have h3' : (w.kd = 15) = False := eq_false h3
  by_cases h4 : w.kd = 13 ∨ w.kd = 14
  case neg =>
    rw [if_neg h4]
    have h4' : (w.kd = 13) = False := eq_false fun h => h4 (.inl h)
    have h5' : (w.kd = 14) = False := eq_false fun h => h4 (.inr h)
    unfold Cl.cells Wd.cells at *
    refine wBody Try.tab Try.mixed Try.func25 rfl rfl Try.ntmps25 (by simp) (by simp) fun Q hr hn => ?_
    repeat' first | (refine And.intro (by omega) (Or.inr ?_)) | (refine And.intro (by omega) ?_) | (refine hK _ ?_; clear hK) | (refine hK _ _ ?_; clear hK) | (clear hK; refine hK _ ?_; clear hK) | (clear hK; clear hK; refine hK _ ?_; clear hK) | (clear hK; clear hK; clear hK; refine hK _ ?_; clear hK) | (clear hK; clear hK; clear hK; clear hK; refine hK _ ?_; clear hK) | (refine wSeq fun K hK => ?_) | ((first | refine wReg ?_ | refine wDrwQ rfl (by kernel_rfl) ?_ | refine wDrwI ?_ | refine wDrw (by kernel_rfl) ?_); simp only [List.map_cons, List.map_nil, strip]) | ((first | refine wIs fun K hK => ?_ | refine wOs fun K hK => ?_ | refine wQs fun K hK => ?_ | refine CallK_plain ?_ | refine CallQ_plain ?_ | refine CallR_plain ?_ | refine wCond ?_); simp [f1', f2', f3', h1', h2', h3', h4', h5']) | (refine wIn ?_; refine And.intro (by kernel_rfl) ?_; try simp only [thenA_n]) | (first | refine wBlock ?_ | refine wScope ?_) | ((first | refine wRet ?_ | refine wExit ?_ | refine wSkip ?_); try simp) | ((first | refine wLabel ?_ | refine wOn ?_ | refine wQn ?_); try simp only [thenA_n]) | (refine CallE.pure (c1) rfl ?_) | (refine CallE.lent (c1) rfl ?_) | (refine CallF.pure (c1) rfl ?_) | (refine CallF.lent (c1) rfl ?_) | (refine CallE.own (c1) ?_) | (refine CallH.pure (c1) rfl ?_) | (refine CallH.lent (c1) rfl ?_) | (refine CallH.own (c1) ?_)
    all_goals first | apply hn | apply hr
    all_goals simp [Try.f25]
  rw [if_pos h4]
  have hk : ∀ (P : Prop), ((w.kd = 13) = True → (w.kd = 14) = False → P) → ((w.kd = 13) = False → (w.kd = 14) = True → P) → P := fun P p1 p2 => by
    rcases h4 with h | h
    · exact p1 (eq_true h) (eq_false (by omega))
    · exact p2 (eq_false (by omega)) (eq_true h)
  by_cases hg : goodT c w
  case neg =>
    rw [if_neg hg]
    unfold goodT at hg
    by_cases g1 : c.wt = 0
    · have g1' : (c.wt = 0) = True := eq_true g1
      unfold Cl.cells Wd.cells at *
      refine hk _ (fun h4' h5' => ?_) (fun h4' h5' => ?_)
      · skip
        refine wBody Try.tab Try.mixed Try.func25 rfl rfl Try.ntmps25 (by simp) (by simp) fun Q hr hn => ?_
        repeat' first | (refine And.intro (by omega) (Or.inr ?_)) | (refine And.intro (by omega) ?_) | (refine hK _ ?_; clear hK) | (refine hK _ _ ?_; clear hK) | (clear hK; refine hK _ ?_; clear hK) | (clear hK; clear hK; refine hK _ ?_; clear hK) | (clear hK; clear hK; clear hK; refine hK _ ?_; clear hK) | (clear hK; clear hK; clear hK; clear hK; refine hK _ ?_; clear hK) | (refine wSeq fun K hK => ?_) | ((first | refine wReg ?_ | refine wDrwQ rfl (by kernel_rfl) ?_ | refine wDrwI ?_ | refine wDrw (by kernel_rfl) ?_); simp only [List.map_cons, List.map_nil, strip]) | ((first | refine wIs fun K hK => ?_ | refine wOs fun K hK => ?_ | refine wQs fun K hK => ?_ | refine CallK_plain ?_ | refine CallQ_plain ?_ | refine CallR_plain ?_ | refine wCond ?_); simp [f1', f2', f3', h1', h2', h3', h4', h5', g1']) | (refine wIn ?_; refine And.intro (by kernel_rfl) ?_; try simp only [thenA_n]) | (first | refine wBlock ?_ | refine wScope ?_) | ((first | refine wRet ?_ | refine wExit ?_ | refine wSkip ?_); try simp) | ((first | refine wLabel ?_ | refine wOn ?_ | refine wQn ?_); try simp only [thenA_n]) | (refine CallE.pure (c1) rfl ?_) | (refine CallE.lent (c1) rfl ?_) | (refine CallF.pure (c1) rfl ?_) | (refine CallF.lent (c1) rfl ?_) | (refine CallE.own (c1) ?_) | (refine CallH.pure (c1) rfl ?_) | (refine CallH.lent (c1) rfl ?_) | (refine CallH.own (c1) ?_)
        all_goals first | apply hn | apply hr
        all_goals simp [Try.f25]
      · skip
        refine wBody Try.tab Try.mixed Try.func25 rfl rfl Try.ntmps25 (by simp) (by simp) fun Q hr hn => ?_
        repeat' first | (refine And.intro (by omega) (Or.inr ?_)) | (refine And.intro (by omega) ?_) | (refine hK _ ?_; clear hK) | (refine hK _ _ ?_; clear hK) | (clear hK; refine hK _ ?_; clear hK) | (clear hK; clear hK; refine hK _ ?_; clear hK) | (clear hK; clear hK; clear hK; refine hK _ ?_; clear hK) | (clear hK; clear hK; clear hK; clear hK; refine hK _ ?_; clear hK) | (refine wSeq fun K hK => ?_) | ((first | refine wReg ?_ | refine wDrwQ rfl (by kernel_rfl) ?_ | refine wDrwI ?_ | refine wDrw (by kernel_rfl) ?_); simp only [List.map_cons, List.map_nil, strip]) | ((first | refine wIs fun K hK => ?_ | refine wOs fun K hK => ?_ | refine wQs fun K hK => ?_ | refine CallK_plain ?_ | refine CallQ_plain ?_ | refine CallR_plain ?_ | refine wCond ?_); simp [f1', f2', f3', h1', h2', h3', h4', h5', g1']) | (refine wIn ?_; refine And.intro (by kernel_rfl) ?_; try simp only [thenA_n]) | (first | refine wBlock ?_ | refine wScope ?_) | ((first | refine wRet ?_ | refine wExit ?_ | refine wSkip ?_); try simp) | ((first | refine wLabel ?_ | refine wOn ?_ | refine wQn ?_); try simp only [thenA_n]) | (refine CallE.pure (c1) rfl ?_) | (refine CallE.lent (c1) rfl ?_) | (refine CallF.pure (c1) rfl ?_) | (refine CallF.lent (c1) rfl ?_) | (refine CallE.own (c1) ?_) | (refine CallH.pure (c1) rfl ?_) | (refine CallH.lent (c1) rfl ?_) | (refine CallH.own (c1) ?_)
        all_goals first | apply hn | apply hr
        all_goals simp [Try.f25]
    have g1' : (c.wt = 0) = False := eq_false g1
    by_cases g2 : c.wt = w.xi
    case neg =>
      have g2' : (w.xi = c.wt) = False := eq_false fun h => g2 h.symm
      unfold Cl.cells Wd.cells at *
      refine hk _ (fun h4' h5' => ?_) (fun h4' h5' => ?_)
      · skip
        refine wBody Try.tab Try.mixed Try.func25 rfl rfl Try.ntmps25 (by simp) (by simp) fun Q hr hn => ?_
        repeat' first | (refine And.intro (by omega) (Or.inr ?_)) | (refine And.intro (by omega) ?_) | (refine hK _ ?_; clear hK) | (refine hK _ _ ?_; clear hK) | (clear hK; refine hK _ ?_; clear hK) | (clear hK; clear hK; refine hK _ ?_; clear hK) | (clear hK; clear hK; clear hK; refine hK _ ?_; clear hK) | (clear hK; clear hK; clear hK; clear hK; refine hK _ ?_; clear hK) | (refine wSeq fun K hK => ?_) | ((first | refine wReg ?_ | refine wDrwQ rfl (by kernel_rfl) ?_ | refine wDrwI ?_ | refine wDrw (by kernel_rfl) ?_); simp only [List.map_cons, List.map_nil, strip]) | ((first | refine wIs fun K hK => ?_ | refine wOs fun K hK => ?_ | refine wQs fun K hK => ?_ | refine CallK_plain ?_ | refine CallQ_plain ?_ | refine CallR_plain ?_ | refine wCond ?_); simp [f1', f2', f3', h1', h2', h3', h4', h5', g1', g2']) | (refine wIn ?_; refine And.intro (by kernel_rfl) ?_; try simp only [thenA_n]) | (first | refine wBlock ?_ | refine wScope ?_) | ((first | refine wRet ?_ | refine wExit ?_ | refine wSkip ?_); try simp) | ((first | refine wLabel ?_ | refine wOn ?_ | refine wQn ?_); try simp only [thenA_n]) | (refine CallE.pure (c1) rfl ?_) | (refine CallE.lent (c1) rfl ?_) | (refine CallF.pure (c1) rfl ?_) | (refine CallF.lent (c1) rfl ?_) | (refine CallE.own (c1) ?_) | (refine CallH.pure (c1) rfl ?_) | (refine CallH.lent (c1) rfl ?_) | (refine CallH.own (c1) ?_)
        all_goals first | apply hn | apply hr
        all_goals simp [Try.f25]
      · skip
        refine wBody Try.tab Try.mixed Try.func25 rfl rfl Try.ntmps25 (by simp) (by simp) fun Q hr hn => ?_
        repeat' first | (refine And.intro (by omega) (Or.inr ?_)) | (refine And.intro (by omega) ?_) | (refine hK _ ?_; clear hK) | (refine hK _ _ ?_; clear hK) | (clear hK; refine hK _ ?_; clear hK) | (clear hK; clear hK; refine hK _ ?_; clear hK) | (clear hK; clear hK; clear hK; refine hK _ ?_; clear hK) | (clear hK; clear hK; clear hK; clear hK; refine hK _ ?_; clear hK) | (refine wSeq fun K hK => ?_) | ((first | refine wReg ?_ | refine wDrwQ rfl (by kernel_rfl) ?_ | refine wDrwI ?_ | refine wDrw (by kernel_rfl) ?_); simp only [List.map_cons, List.map_nil, strip]) | ((first | refine wIs fun K hK => ?_ | refine wOs fun K hK => ?_ | refine wQs fun K hK => ?_ | refine CallK_plain ?_ | refine CallQ_plain ?_ | refine CallR_plain ?_ | refine wCond ?_); simp [f1', f2', f3', h1', h2', h3', h4', h5', g1', g2']) | (refine wIn ?_; refine And.intro (by kernel_rfl) ?_; try simp only [thenA_n]) | (first | refine wBlock ?_ | refine wScope ?_) | ((first | refine wRet ?_ | refine wExit ?_ | refine wSkip ?_); try simp) | ((first | refine wLabel ?_ | refine wOn ?_ | refine wQn ?_); try simp only [thenA_n]) | (refine CallE.pure (c1) rfl ?_) | (refine CallE.lent (c1) rfl ?_) | (refine CallF.pure (c1) rfl ?_) | (refine CallF.lent (c1) rfl ?_) | (refine CallE.own (c1) ?_) | (refine CallH.pure (c1) rfl ?_) | (refine CallH.lent (c1) rfl ?_) | (refine CallH.own (c1) ?_)
        all_goals first | apply hn | apply hr
        all_goals simp [Try.f25]
    have g2' : (w.xi = c.wt) = True := eq_true g2.symm
    unfold Cl.cells Wd.cells at *
    refine hk _ (fun h4' h5' => ?_) (fun h4' h5' => ?_)
    · have h5n : ¬ w.kd = 14 := fun h => by rw [h] at h5'; simp at h5'
      have g3 : ¬ c.rd = 0 := fun h => hg ⟨g1, g2, ⟨fun _ => h5n, fun _ => h⟩⟩
      have b1 : (c.rd != 0) = true := by simp [g3]
      have b2 : (w.kd == 14) = false := by simp [h5n]
      have g3' : (c.rd = 0) = False := eq_false g3
      refine wBody Try.tab Try.mixed Try.func25 rfl rfl Try.ntmps25 (by simp) (by simp) fun Q hr hn => ?_
      repeat' first | (refine And.intro (by omega) (Or.inr ?_)) | (refine And.intro (by omega) ?_) | (refine hK _ ?_; clear hK) | (refine hK _ _ ?_; clear hK) | (clear hK; refine hK _ ?_; clear hK) | (clear hK; clear hK; refine hK _ ?_; clear hK) | (clear hK; clear hK; clear hK; refine hK _ ?_; clear hK) | (clear hK; clear hK; clear hK; clear hK; refine hK _ ?_; clear hK) | (refine wSeq fun K hK => ?_) | ((first | refine wReg ?_ | refine wDrwQ rfl (by kernel_rfl) ?_ | refine wDrwI ?_ | refine wDrw (by kernel_rfl) ?_); simp only [List.map_cons, List.map_nil, strip]) | ((first | refine wIs fun K hK => ?_ | refine wOs fun K hK => ?_ | refine wQs fun K hK => ?_ | refine CallK_plain ?_ | refine CallQ_plain ?_ | refine CallR_plain ?_ | refine wCond ?_); simp [f1', f2', f3', h1', h2', h3', h4', h5', g1', g2', g3', b1, b2]) | (refine wIn ?_; refine And.intro (by kernel_rfl) ?_; try simp only [thenA_n]) | (first | refine wBlock ?_ | refine wScope ?_) | ((first | refine wRet ?_ | refine wExit ?_ | refine wSkip ?_); try simp) | ((first | refine wLabel ?_ | refine wOn ?_ | refine wQn ?_); try simp only [thenA_n]) | (refine CallE.pure (c1) rfl ?_) | (refine CallE.lent (c1) rfl ?_) | (refine CallF.pure (c1) rfl ?_) | (refine CallF.lent (c1) rfl ?_) | (refine CallE.own (c1) ?_) | (refine CallH.pure (c1) rfl ?_) | (refine CallH.lent (c1) rfl ?_) | (refine CallH.own (c1) ?_)
      all_goals first | apply hn | apply hr
      all_goals simp [Try.f25]
    · have h5n : w.kd = 14 := by rw [h5']; trivial
      have g3 : c.rd = 0 := Decidable.byContradiction fun h => hg ⟨g1, g2, ⟨fun h6 => absurd h6 h, fun h6 => absurd h5n h6⟩⟩
      have b1 : (c.rd != 0) = false := by simp [g3]
      have b2 : (w.kd == 14) = true := by simp [h5n]
      have g3' : (c.rd = 0) = True := eq_true g3
      refine wBody Try.tab Try.mixed Try.func25 rfl rfl Try.ntmps25 (by simp) (by simp) fun Q hr hn => ?_
      repeat' first | (refine And.intro (by omega) (Or.inr ?_)) | (refine And.intro (by omega) ?_) | (refine hK _ ?_; clear hK) | (refine hK _ _ ?_; clear hK) | (clear hK; refine hK _ ?_; clear hK) | (clear hK; clear hK; refine hK _ ?_; clear hK) | (clear hK; clear hK; clear hK; refine hK _ ?_; clear hK) | (clear hK; clear hK; clear hK; clear hK; refine hK _ ?_; clear hK) | (refine wSeq fun K hK => ?_) | ((first | refine wReg ?_ | refine wDrwQ rfl (by kernel_rfl) ?_ | refine wDrwI ?_ | refine wDrw (by kernel_rfl) ?_); simp only [List.map_cons, List.map_nil, strip]) | ((first | refine wIs fun K hK => ?_ | refine wOs fun K hK => ?_ | refine wQs fun K hK => ?_ | refine CallK_plain ?_ | refine CallQ_plain ?_ | refine CallR_plain ?_ | refine wCond ?_); simp [f1', f2', f3', h1', h2', h3', h4', h5', g1', g2', g3', b1, b2]) | (refine wIn ?_; refine And.intro (by kernel_rfl) ?_; try simp only [thenA_n]) | (first | refine wBlock ?_ | refine wScope ?_) | ((first | refine wRet ?_ | refine wExit ?_ | refine wSkip ?_); try simp) | ((first | refine wLabel ?_ | refine wOn ?_ | refine wQn ?_); try simp only [thenA_n]) | (refine CallE.pure (c1) rfl ?_) | (refine CallE.lent (c1) rfl ?_) | (refine CallF.pure (c1) rfl ?_) | (refine CallF.lent (c1) rfl ?_) | (refine CallE.own (c1) ?_) | (refine CallH.pure (c1) rfl ?_) | (refine CallH.lent (c1) rfl ?_) | (refine CallH.own (c1) ?_)
      all_goals first | apply hn | apply hr
      all_goals simp [Try.f25]
  rw [if_pos hg]
  obtain ⟨g1, g2, g3⟩ := hg
  have g1' : (c.wt = 0) = False := eq_false g1
  have g2' : (w.xi = c.wt) = True := eq_true g2.symm
  have c2 := seen26_con c w.ae w.an
  have e1 : (seeC c w.ae w.an).id = c.id := by unfold seeC; split <;> rfl
  rw [g2]
  generalize seeC c w.ae w.an = r at *
  unfold endC rsC
  unfold Cl.cells Wd.cells at *
  dsimp only at *
  refine hk _ (fun h4' h5' => ?_) (fun h4' h5' => ?_)
  · have h5n : ¬ w.kd = 14 := fun h => by rw [h] at h5'; simp at h5'
    have g3q := g3.2 h5n
    have b1 : (c.rd != 0) = false := by simp [g3q]
    have b2 : (w.kd == 14) = false := by simp [h5n]
    have g3' : (c.rd = 0) = True := eq_true g3q
    refine wBody Try.tab Try.mixed Try.func25 rfl rfl Try.ntmps25 (by simp) (by simp) fun Q hr hn => ?_
    repeat' first | (refine And.intro (by omega) (Or.inr ?_)) | (refine And.intro (by omega) ?_) | (refine hK _ ?_; clear hK) | (refine hK _ _ ?_; clear hK) | (clear hK; refine hK _ ?_; clear hK) | (clear hK; clear hK; refine hK _ ?_; clear hK) | (clear hK; clear hK; clear hK; refine hK _ ?_; clear hK) | (clear hK; clear hK; clear hK; clear hK; refine hK _ ?_; clear hK) | (refine wSeq fun K hK => ?_) | ((first | refine wReg ?_ | refine wDrwQ rfl (by kernel_rfl) ?_ | refine wDrwI ?_ | refine wDrw (by kernel_rfl) ?_); simp only [List.map_cons, List.map_nil, strip]) | ((first | refine wIs fun K hK => ?_ | refine wOs fun K hK => ?_ | refine wQs fun K hK => ?_ | refine CallK_plain ?_ | refine CallQ_plain ?_ | refine CallR_plain ?_ | refine wCond ?_); simp [f1', f2', f3', h1', h2', h3', h4', h5', g1', g2', g3', b1, b2, e1]) | (refine wIn ?_; refine And.intro (by kernel_rfl) ?_; try simp only [thenA_n]) | (first | refine wBlock ?_ | refine wScope ?_) | ((first | refine wRet ?_ | refine wExit ?_ | refine wSkip ?_); try simp) | ((first | refine wLabel ?_ | refine wOn ?_ | refine wQn ?_); try simp only [thenA_n]) | (refine CallE.pure (c1) rfl ?_) | (refine CallE.lent (c1) rfl ?_) | (refine CallF.pure (c1) rfl ?_) | (refine CallF.lent (c1) rfl ?_) | (refine CallE.own (c1) ?_) | (refine CallH.pure (c1) rfl ?_) | (refine CallH.lent (c1) rfl ?_) | (refine CallH.own (c1) ?_) | (refine CallE.pure (c2) rfl ?_) | (refine CallE.lent (c2) rfl ?_) | (refine CallF.pure (c2) rfl ?_) | (refine CallF.lent (c2) rfl ?_) | (refine CallE.own (c2) ?_) | (refine CallH.pure (c2) rfl ?_) | (refine CallH.lent (c2) rfl ?_) | (refine CallH.own (c2) ?_)
    all_goals first | apply hn | apply hr
    all_goals simp [Try.f25, e1]
  · have h5n : w.kd = 14 := by rw [h5']; trivial
    have g3q : ¬ c.rd = 0 := fun h => g3.1 h h5n
    have b1 : (c.rd != 0) = true := by simp [g3q]
    have b2 : (w.kd == 14) = true := by simp [h5n]
    have g3' : (c.rd = 0) = False := eq_false g3q
    refine wBody Try.tab Try.mixed Try.func25 rfl rfl Try.ntmps25 (by simp) (by simp) fun Q hr hn => ?_
    repeat' first | (refine And.intro (by omega) (Or.inr ?_)) | (refine And.intro (by omega) ?_) | (refine hK _ ?_; clear hK) | (refine hK _ _ ?_; clear hK) | (clear hK; refine hK _ ?_; clear hK) | (clear hK; clear hK; refine hK _ ?_; clear hK) | (clear hK; clear hK; clear hK; refine hK _ ?_; clear hK) | (clear hK; clear hK; clear hK; clear hK; refine hK _ ?_; clear hK) | (refine wSeq fun K hK => ?_) | ((first | refine wReg ?_ | refine wDrwQ rfl (by kernel_rfl) ?_ | refine wDrwI ?_ | refine wDrw (by kernel_rfl) ?_); simp only [List.map_cons, List.map_nil, strip]) | ((first | refine wIs fun K hK => ?_ | refine wOs fun K hK => ?_ | refine wQs fun K hK => ?_ | refine CallK_plain ?_ | refine CallQ_plain ?_ | refine CallR_plain ?_ | refine wCond ?_); simp [f1', f2', f3', h1', h2', h3', h4', h5', g1', g2', g3', b1, b2, e1]) | (refine wIn ?_; refine And.intro (by kernel_rfl) ?_; try simp only [thenA_n]) | (first | refine wBlock ?_ | refine wScope ?_) | ((first | refine wRet ?_ | refine wExit ?_ | refine wSkip ?_); try simp) | ((first | refine wLabel ?_ | refine wOn ?_ | refine wQn ?_); try simp only [thenA_n]) | (refine CallE.pure (c1) rfl ?_) | (refine CallE.lent (c1) rfl ?_) | (refine CallF.pure (c1) rfl ?_) | (refine CallF.lent (c1) rfl ?_) | (refine CallE.own (c1) ?_) | (refine CallH.pure (c1) rfl ?_) | (refine CallH.lent (c1) rfl ?_) | (refine CallH.own (c1) ?_) | (refine CallE.pure (c2) rfl ?_) | (refine CallE.lent (c2) rfl ?_) | (refine CallF.pure (c2) rfl ?_) | (refine CallF.lent (c2) rfl ?_) | (refine CallE.own (c2) ?_) | (refine CallH.pure (c2) rfl ?_) | (refine CallH.lent (c2) rfl ?_) | (refine CallH.own (c2) ?_)
    all_goals first | apply hn | apply hr
    all_goals simp [Try.f25, e1]
end Go.Proofs.Ytefhnofdfnmiaaa
