/- Texts that the proof needs: CP5 CL2 CL3 CL4 CL4b CL4c CL5. -/
import Derived.Test.YtefhnofdfnmiaaaP21ClientPlays
/- Clients: words that are the same. -/
namespace Go.Proofs.Ytefhnofdfnmiaaa
set_option linter.unusedSimpArgs false
set_option linter.unusedVariables false
set_option maxRecDepth 8000
open Go Go.Av
attribute [local simp] Try.T1 Try.T2 Try.T3 Try.T4 Try.T5 Try.T9 Try.T12 Try.T15 Try.T16 Try.T17 Try.T21 Try.T22 Try.T23 Try.T24 Try.T26 Try.T27 Try.T29 Try.T30 Try.T32 Try.T33 Try.T34 Try.T35 Try.T36 Try.T38 Try.T40 Try.T42 Try.T43 Try.T45 Try.T47 Try.T49 Try.T50 Try.T51 Try.T53 Try.T54 Try.T55 Try.T56 Try.T57 Try.T59 Try.T61 Try.T63 Try.T65 Try.T66 Try.T67 Try.T69 Try.T70 Try.T71 Try.T72 Try.T73 Try.T74 Try.T75 Try.T76 Try.T78 Try.T79 Try.T80 Try.T81 Try.T82 Try.T83 Try.T84 Try.T85 Try.T86 Try.T87 Try.T88 Try.T89 Try.T90 Try.T91 Try.T92 Try.T93 Try.T94 Try.T95 Try.T96 Try.T97 Try.T98 Try.T99 Try.T101 Try.T102 Try.T103 Try.T104 Try.T105 Try.T106 Try.T107 Try.T108 Try.T109 Try.T112 Try.T115 Try.T116 Try.T119 Try.T120
attribute [local irreducible] Go.Av.CallK Go.Av.CallE Go.Av.CallQ Go.Av.CallF Go.Av.CallR Go.Av.CallH Go.Av.Con
/-- A request that may be laid. -/
structure OkQ (r : Rq) : Prop where
  ok : fRq.ok r.cells
  os : r.ops.length ≤ 500
  sz : ∀ o ∈ r.ops, fOp.sz o ≤ 2097300
  pu : r.put.length ≤ 1048576
  dr : r.drop.length ≤ 1048576
theorem OkQ.en {r : Rq} (h : OkQ r) : (fRq.en r.cells).length ≤ 2000000000 := by
  refine Nat.le_trans (fRq_L.szl _ h.ok) ?_
  have h1 : (r.ops.map fOp.sz).sum ≤ (r.ops.map fun _ => 2097300).sum := sum_le fun o ho => h.sz o ho
  rw [sum_const] at h1
  show 10 + (10 + (10 + ((fl 6 fOp).sz [.sl 6 r.ops] + (10 + ((fl 4 fMb).sz [.sl 4 r.put] + ((fl 1 foI).sz [.sl 1 r.drop] + (10 + 10))))))) ≤ _
  rw [fl_sz, szl_const szI, szl_const szMb]
  have h3 := h.pu
  have h4 := h.dr
  have h2 : 2097300 * r.ops.length ≤ 2097300 * 500 := Nat.mul_le_mul_left _ h.os
  omega
theorem OkQ.put {r : Rq} (h : OkQ r) {s x : Int} (hs : okI s) (hx : okI x) : OkQ { r with s := s, x := x } := by
  obtain ⟨a, b, c, d⟩ := h.ok
  exact ⟨⟨a, foI_ok.2 hs, foI_ok.2 hx, d⟩, h.os, h.sz, h.pu, h.dr⟩
theorem okI0 : okI 0 := ⟨by decide, by decide⟩
theorem OkQ.zero : OkQ Rq.zero := by
  refine ⟨⟨foI_ok.2 okI0, foI_ok.2 okI0, foI_ok.2 okI0, ⟨[], rfl, by decide, by simp⟩, foI_ok.2 okI0, ⟨[], rfl, by decide, by simp⟩, ⟨[], rfl, by decide, by simp⟩, foI_ok.2 okI0, foI_ok.2 okI0⟩, by decide, ?_, by decide, by decide⟩
  intro o ho
  simp [Rq.zero] at ho
def txs (l : List (List UInt8)) : List (List PV) := l.map fun s => [SB s]
@[simp] theorem txs_len (l : List (List UInt8)) : (txs l).length = l.length := by simp [txs]
theorem txs_get {l : List (List UInt8)} {k : Nat} (h : k < l.length) : (txs l)[k]? = some [SB l[k]] := by simp [txs, h]
@[simp] theorem txs_getElem (l : List (List UInt8)) (k : Nat) (h : k < (txs l).length) : (txs l)[k] = [SB (l[k]'(by simpa using h))] := by simp [txs]
/-- A word that may be laid. -/
structure OkV (w : Wd) : Prop where
  q : OkQ w.r
  n : ∃ ns : List (List UInt8), w.nm = txs ns ∧ ns.length ≤ 1048576
theorem OkV.z (c v k : Int) : OkV (wdZ c v k) := ⟨OkQ.zero, [], rfl, by decide⟩
def wds (l : List Wd) : List (List PV) := l.map Wd.cells
@[simp] theorem wds_len (l : List Wd) : (wds l).length = l.length := by simp [wds]
theorem wds_get {l : List Wd} {k : Nat} (h : k < l.length) : (wds l)[k]? = some l[k].cells := by simp [wds, h]
set_option maxHeartbeats 16000000 in
theorem sameW_con (ws : List Wd) (h : ∀ w ∈ ws, OkV w) (hl : ws.length ≤ 1000000) : ACon Try.prog 12 [.p (.sl 33 (wds ws)), .p (.sl 33 (wds ws))] (.p (B true)) := by
  refine wBody Try.tab Try.mixed Try.func12 rfl rfl Try.ntmps12 (by simp) (by simp) fun Q hr hn => ?_
  repeat' first | (refine hK _ ?_; clear hK) | (refine hK _ _ ?_; clear hK) | (clear hK; refine hK _ ?_; clear hK) | (clear hK; clear hK; refine hK _ ?_; clear hK) | (clear hK; clear hK; clear hK; refine hK _ ?_; clear hK) | (clear hK; clear hK; clear hK; clear hK; refine hK _ ?_; clear hK) | (refine wSeq fun K hK => ?_) | ((first | refine wReg ?_ | refine wDrwQ rfl (by kernel_rfl) ?_ | refine wDrwI ?_ | refine wDrw (by kernel_rfl) ?_); simp only [List.map_cons, List.map_nil, strip]) | ((first | refine wIs fun K hK => ?_ | refine wOs fun K hK => ?_ | refine wQs fun K hK => ?_ | refine CallK_plain ?_ | refine CallQ_plain ?_ | refine CallR_plain ?_ | refine wCond ?_); simp) | (refine wIn ?_; refine And.intro (by kernel_rfl) ?_; try simp only [thenA_n]) | (first | refine wBlock ?_ | refine wScope ?_) | ((first | refine wRet ?_ | refine wExit ?_ | refine wSkip ?_); try simp) | ((first | refine wLabel ?_ | refine wOn ?_ | refine wQn ?_); try simp only [thenA_n])
  refine wLoop (fun N st => ∃ k, k + N = ws.length ∧ st.s 0 = .p (.sl 33 (wds ws)) ∧ st.s 1 = .p (.sl 33 (wds ws)) ∧ st.s 15 = .p (I ws.length) ∧ st.s 16 = .p (I k)) ws.length ⟨0, by simp⟩ fun K N st hL ⟨k, hk, g0, g1, g15, g16⟩ => ?_
  by_cases hlt : k < ws.length
  case neg =>
    have hlt' : ¬ (k : Int) < ws.length := by omega
    repeat' first | (refine hK _ ?_; clear hK) | (refine hK _ _ ?_; clear hK) | (clear hK; refine hK _ ?_; clear hK) | (clear hK; clear hK; refine hK _ ?_; clear hK) | (clear hK; clear hK; clear hK; refine hK _ ?_; clear hK) | (clear hK; clear hK; clear hK; clear hK; refine hK _ ?_; clear hK) | (refine wSeq fun K hK => ?_) | ((first | refine wReg ?_ | refine wDrwQ rfl (by kernel_rfl) ?_ | refine wDrwI ?_ | refine wDrw (by kernel_rfl) ?_); simp only [List.map_cons, List.map_nil, strip]) | ((first | refine wIs fun K hK => ?_ | refine wOs fun K hK => ?_ | refine wQs fun K hK => ?_ | refine CallK_plain ?_ | refine CallQ_plain ?_ | refine CallR_plain ?_ | refine wCond ?_); simp [g0, g1, g15, g16, hlt, hlt']) | (refine wIn ?_; refine And.intro (by kernel_rfl) ?_; try simp only [thenA_n]) | (first | refine wBlock ?_ | refine wScope ?_) | ((first | refine wRet ?_ | refine wExit ?_ | refine wSkip ?_); try simp) | ((first | refine wLabel ?_ | refine wOn ?_ | refine wQn ?_); try simp only [thenA_n])
    all_goals apply hr
    all_goals simp [Try.f12]
  have hlt' : (k : Int) < ws.length := by omega
  have hw := wrapS k _ hlt (by omega)
  have he := wds_get hlt
  have hv := h _ (List.getElem_mem hlt)
  have hcell := Option.some.inj ((List.getElem?_eq_getElem (by simpa using hlt : k < (wds ws).length)).symm.trans he)
  generalize ws[k] = w at he hv hcell
  obtain ⟨ns, hns, hnl⟩ := hv.n
  have c := dRq [] w.r.cells hv.q.ok (by have := hv.q.en; simp; omega)
  rw [show vOf w.r.cells = .p (.agg w.r.cells) from rfl, List.nil_append, show by8 [] = [] from rfl] at c
  have u := unL_by8 (fRq.en w.r.cells)
  have s := strOf_by8 (fRq.en w.r.cells)
  generalize fRq.en w.r.cells = z at c u s
  clear hv
  obtain ⟨cl, sv, kd, xi, ss, ae, an, ⟨rk, rs, rx, rdk, rwe, rwn, ops, put, drop⟩, rd, pa, wa, er, ma, np, nd, nv, nk, no, nm, ⟨ts, tk, tp, tw, te, tn⟩⟩ := w
  dsimp only at hns
  subst hns
  unfold Wd.cells at he hcell
  unfold Rq.cells at c
  dsimp only at he hcell c
  repeat' first | ((first | refine wReg ?_ | refine wDrwQ rfl (by kernel_rfl) ?_ | refine wDrwI ?_); simp only [List.append_eq, List.map_append, List.map_cons, List.map_nil, List.cons_append, List.nil_append, strip]) | (refine hK _ ?_; clear hK) | (refine hK _ _ ?_; clear hK) | (clear hK; refine hK _ ?_; clear hK) | (clear hK; clear hK; refine hK _ ?_; clear hK) | (clear hK; clear hK; clear hK; refine hK _ ?_; clear hK) | (clear hK; clear hK; clear hK; clear hK; refine hK _ ?_; clear hK) | (refine wSeq fun K hK => ?_) | ((first | refine wReg ?_ | refine wDrwQ rfl (by kernel_rfl) ?_ | refine wDrwI ?_ | refine wDrw (by kernel_rfl) ?_); simp only [List.map_cons, List.map_nil, strip]) | ((first | refine wIs fun K hK => ?_ | refine wOs fun K hK => ?_ | refine wQs fun K hK => ?_ | refine CallK_plain ?_ | refine CallQ_plain ?_ | refine CallR_plain ?_ | refine wCond ?_); simp [g0, g1, g15, g16, hlt, hlt', hw, he, hcell, u, s]) | (refine wIn ?_; refine And.intro (by kernel_rfl) ?_; try simp only [thenA_n]) | (first | refine wBlock ?_ | refine wScope ?_) | ((first | refine wRet ?_ | refine wExit ?_ | refine wSkip ?_); try simp) | ((first | refine wLabel ?_ | refine wOn ?_ | refine wQn ?_); try simp only [thenA_n]) | (refine CallE.pure (c) rfl ?_) | (refine CallE.lent (c) rfl ?_) | (refine CallF.pure (c) rfl ?_) | (refine CallF.lent (c) rfl ?_) | (refine CallE.own (c) ?_) | (refine CallH.pure (c) rfl ?_) | (refine CallH.lent (c) rfl ?_) | (refine CallH.own (c) ?_)
  refine wLoop (fun M st => ∃ j, j + M = ns.length ∧ st.s 0 = .p (.sl 33 (wds ws)) ∧ st.s 1 = .p (.sl 33 (wds ws)) ∧ st.s 15 = .p (I ws.length) ∧ st.s 16 = .p (I k) ∧ st.s 6 = .ptr 6 0 ∧ st.s 7 = .ptr 7 0 ∧ st.b 6 = some (.box 47 [.p (I cl), .p (I sv), .p (I kd), .p (I xi), .p (I ss), .p (I ae), .p (I an), .p (I rk), .p (I rs), .p (I rx), .p (.sl 6 ops), .p (I rdk), .p (.sl 4 put), .p (.sl 1 drop), .p (I rwe), .p (I rwn), .p (I rd), .p (SB pa), .p (B wa), .p (I er), .p (SB ma), .p (SB np), .p (SB nd), .p (I nv), .p (I nk), .p (I no), .p (.sl 1 (txs ns)), .p (I ts), .p (I tk), .p (SB tp), .p (I tw), .p (I te), .p (I tn)]) ∧ st.b 7 = some (.box 47 [.p (I cl), .p (I sv), .p (I kd), .p (I xi), .p (I ss), .p (I ae), .p (I an), .p (I rk), .p (I rs), .p (I rx), .p (.sl 6 ops), .p (I rdk), .p (.sl 4 put), .p (.sl 1 drop), .p (I rwe), .p (I rwn), .p (I rd), .p (SB pa), .p (B wa), .p (I er), .p (SB ma), .p (SB np), .p (SB nd), .p (I nv), .p (I nk), .p (I no), .p (.sl 1 (txs ns)), .p (I ts), .p (I tk), .p (SB tp), .p (I tw), .p (I te), .p (I tn)]) ∧ st.s 138 = .p (I ns.length) ∧ st.s 139 = .p (I j)) ns.length ⟨0, by omega, ?_⟩ fun K2 M st hM ⟨j, hj, g0, g1, g15, g16, g6, g7, b6, b7, g138, g139⟩ => ?_
  · simp [g0, g1, g15, g16]
  by_cases hjt : j < ns.length
  · have hjt' : (j : Int) < ns.length := by omega
    have hwj := wrapS j _ hjt (by omega)
    have hej := txs_get hjt
    repeat' first | (refine hK _ ?_; clear hK) | (refine hK _ _ ?_; clear hK) | (clear hK; refine hK _ ?_; clear hK) | (clear hK; clear hK; refine hK _ ?_; clear hK) | (clear hK; clear hK; clear hK; refine hK _ ?_; clear hK) | (clear hK; clear hK; clear hK; clear hK; refine hK _ ?_; clear hK) | (refine wSeq fun K hK => ?_) | ((first | refine wReg ?_ | refine wDrwQ rfl (by kernel_rfl) ?_ | refine wDrwI ?_ | refine wDrw (by kernel_rfl) ?_); simp only [List.map_cons, List.map_nil, strip]) | ((first | refine wIs fun K hK => ?_ | refine wOs fun K hK => ?_ | refine wQs fun K hK => ?_ | refine CallK_plain ?_ | refine CallQ_plain ?_ | refine CallR_plain ?_ | refine wCond ?_); simp [g0, g1, g15, g16, g6, g7, b6, b7, g138, g139, hjt, hjt', hwj, hej]) | (refine wIn ?_; refine And.intro (by kernel_rfl) ?_; try simp only [thenA_n]) | (first | refine wBlock ?_ | refine wScope ?_) | ((first | refine wRet ?_ | refine wExit ?_ | refine wSkip ?_); try simp) | ((first | refine wLabel ?_ | refine wOn ?_ | refine wQn ?_); try simp only [thenA_n])
    all_goals refine hM _ (M - 1) (by omega) ⟨j + 1, by omega, ?_⟩
    all_goals simp [g0, g1, g15, g16, g6, g7, b6, b7, g138, g139, hwj]
  · have hjt' : ¬ (j : Int) < ns.length := by omega
    repeat' first | (refine hK _ ?_; clear hK) | (refine hK _ _ ?_; clear hK) | (clear hK; refine hK _ ?_; clear hK) | (clear hK; clear hK; refine hK _ ?_; clear hK) | (clear hK; clear hK; clear hK; refine hK _ ?_; clear hK) | (clear hK; clear hK; clear hK; clear hK; refine hK _ ?_; clear hK) | (refine wSeq fun K hK => ?_) | ((first | refine wReg ?_ | refine wDrwQ rfl (by kernel_rfl) ?_ | refine wDrwI ?_ | refine wDrw (by kernel_rfl) ?_); simp only [List.map_cons, List.map_nil, strip]) | ((first | refine wIs fun K hK => ?_ | refine wOs fun K hK => ?_ | refine wQs fun K hK => ?_ | refine CallK_plain ?_ | refine CallQ_plain ?_ | refine CallR_plain ?_ | refine wCond ?_); simp [g0, g1, g15, g16, g6, g7, b6, b7, g138, g139, hjt, hjt', hw]) | (refine wIn ?_; refine And.intro (by kernel_rfl) ?_; try simp only [thenA_n]) | (first | refine wBlock ?_ | refine wScope ?_) | ((first | refine wRet ?_ | refine wExit ?_ | refine wSkip ?_); try simp) | ((first | refine wLabel ?_ | refine wOn ?_ | refine wQn ?_); try simp only [thenA_n])
    all_goals refine hL _ (N - 1) (by omega) ⟨k + 1, by omega, ?_⟩
    all_goals simp [g0, g1, g15, g16, hw]
/- Clients: what a word does. -/
def openC (c : Cl) (w : Wd) : Cl := if c.ph = 1 then seeC { c with ph := 2, ss := w.ss } w.ae w.an else c
theorem openM_con (c : Cl) (w : Wd) : Con Try.prog 48 [.ptr 1024 0, .p (.agg w.cells)] (hW c) (.ret (.tup []) [] (hW (openC c w))) := by
  unfold openC
  by_cases h : c.ph = 1
  · rw [if_pos h]
    have c1 := see_con { c with ph := 2, ss := w.ss } w.ae w.an
    generalize seeC { c with ph := 2, ss := w.ss } w.ae w.an = r at *
    unfold hW hBx at *
    unfold Wd.cells
    dsimp only at c1 ⊢
    refine wBodyG Try.tab Try.mixed Try.func48 rfl rfl Try.ntmps48 (by simp) (by simp) fun Q hr hn hp => ?_
    repeat' first | (refine CallK_gen [1024, 1025] (c1) (by decide) (by decide) (by simp [blksOf, inN, pos, renB, renC, renCs, ren0, lv, ouN, kpI, kpR]) (by simp [argsG, argG, ren0, inN, pos, renCs, renC]) ⟨[], by simp, by simp, ?_⟩; simp [lv, ouN, kpI, kpR, pos, ren, ren0, renB, renC, renCs, renF, renFs]) | (refine hK _ ?_; clear hK) | (refine hK _ _ ?_; clear hK) | (clear hK; refine hK _ ?_; clear hK) | (clear hK; clear hK; refine hK _ ?_; clear hK) | (clear hK; clear hK; clear hK; refine hK _ ?_; clear hK) | (clear hK; clear hK; clear hK; clear hK; refine hK _ ?_; clear hK) | (refine wSeq fun K hK => ?_) | ((first | refine wReg ?_ | refine wDrwQ rfl (by kernel_rfl) ?_ | refine wDrwI ?_ | refine wDrw (by kernel_rfl) ?_); simp only [List.map_cons, List.map_nil, strip]) | ((first | refine wIs fun K hK => ?_ | refine wOs fun K hK => ?_ | refine wQs fun K hK => ?_ | refine CallK_plain ?_ | refine CallQ_plain ?_ | refine CallR_plain ?_ | refine wCond ?_); simp [h]) | (refine wIn ?_; refine And.intro (by kernel_rfl) ?_; try simp only [thenA_n]) | (first | refine wBlock ?_ | refine wScope ?_) | ((first | refine wRet ?_ | refine wExit ?_ | refine wSkip ?_); try simp) | ((first | refine wLabel ?_ | refine wOn ?_ | refine wQn ?_); try simp only [thenA_n])
    all_goals first | apply hn | apply hr
    all_goals refine ⟨[], by simp, by simp, ?_⟩
    all_goals simp [Try.f48, outR, outB, renB, gaN, lv, ouN, kpI, kpR, pos, ren, ren0, renC, renCs, renF, renFs]
  · rw [if_neg h]
    unfold hW hBx Wd.cells
    refine wBodyG Try.tab Try.mixed Try.func48 rfl rfl Try.ntmps48 (by simp) (by simp) fun Q hr hn hp => ?_
    repeat' first | (refine hK _ ?_; clear hK) | (refine hK _ _ ?_; clear hK) | (clear hK; refine hK _ ?_; clear hK) | (clear hK; clear hK; refine hK _ ?_; clear hK) | (clear hK; clear hK; clear hK; refine hK _ ?_; clear hK) | (clear hK; clear hK; clear hK; clear hK; refine hK _ ?_; clear hK) | (refine wSeq fun K hK => ?_) | ((first | refine wReg ?_ | refine wDrwQ rfl (by kernel_rfl) ?_ | refine wDrwI ?_ | refine wDrw (by kernel_rfl) ?_); simp only [List.map_cons, List.map_nil, strip]) | ((first | refine wIs fun K hK => ?_ | refine wOs fun K hK => ?_ | refine wQs fun K hK => ?_ | refine CallK_plain ?_ | refine CallQ_plain ?_ | refine CallR_plain ?_ | refine wCond ?_); simp [h]) | (refine wIn ?_; refine And.intro (by kernel_rfl) ?_; try simp only [thenA_n]) | (first | refine wBlock ?_ | refine wScope ?_) | ((first | refine wRet ?_ | refine wExit ?_ | refine wSkip ?_); try simp) | ((first | refine wLabel ?_ | refine wOn ?_ | refine wQn ?_); try simp only [thenA_n])
    all_goals first | apply hn | apply hr
    all_goals refine ⟨[], by simp, by simp, ?_⟩
    all_goals simp [Try.f48, outR, outB, renB, gaN, lv, ouN, kpI, kpR, pos, ren, ren0, renC, renCs, renF, renFs]
def noC (c : Cl) (w : Wd) : Cl := if w.er = 13 then { c with ss := 0, ph := 0 } else { c with ph := 0 }
theorem no0_con (c : Cl) (w : Wd) (h0 : c.wt = 0) : Con Try.prog 49 [.ptr 1024 0, .p (.agg w.cells)] (hW c) (.ret (.tup []) [] (hW (endC (noC c w)))) := by
  have c1 := end0_con (noC c w) (by unfold noC; split <;> exact h0)
  unfold noC at *
  by_cases h : w.er = 13
  · rw [if_pos h] at c1 ⊢
    generalize endC { c with ss := 0, ph := 0 } = r at *
    unfold hW hBx at *
    unfold Wd.cells
    dsimp only at c1 ⊢
    refine wBodyG Try.tab Try.mixed Try.func49 rfl rfl Try.ntmps49 (by simp) (by simp) fun Q hr hn hp => ?_
    repeat' first | (refine CallK_gen [1024, 1025] (c1) (by decide) (by decide) (by simp [blksOf, inN, pos, renB, renC, renCs, ren0, lv, ouN, kpI, kpR]) (by simp [argsG, argG, ren0, inN, pos, renCs, renC]) ⟨[], by simp, by simp, ?_⟩; simp [lv, ouN, kpI, kpR, pos, ren, ren0, renB, renC, renCs, renF, renFs]) | (refine hK _ ?_; clear hK) | (refine hK _ _ ?_; clear hK) | (clear hK; refine hK _ ?_; clear hK) | (clear hK; clear hK; refine hK _ ?_; clear hK) | (clear hK; clear hK; clear hK; refine hK _ ?_; clear hK) | (clear hK; clear hK; clear hK; clear hK; refine hK _ ?_; clear hK) | (refine wSeq fun K hK => ?_) | ((first | refine wReg ?_ | refine wDrwQ rfl (by kernel_rfl) ?_ | refine wDrwI ?_ | refine wDrw (by kernel_rfl) ?_); simp only [List.map_cons, List.map_nil, strip]) | ((first | refine wIs fun K hK => ?_ | refine wOs fun K hK => ?_ | refine wQs fun K hK => ?_ | refine CallK_plain ?_ | refine CallQ_plain ?_ | refine CallR_plain ?_ | refine wCond ?_); simp [h]) | (refine wIn ?_; refine And.intro (by kernel_rfl) ?_; try simp only [thenA_n]) | (first | refine wBlock ?_ | refine wScope ?_) | ((first | refine wRet ?_ | refine wExit ?_ | refine wSkip ?_); try simp) | ((first | refine wLabel ?_ | refine wOn ?_ | refine wQn ?_); try simp only [thenA_n])
    all_goals first | apply hn | apply hr
    all_goals refine ⟨[], by simp, by simp, ?_⟩
    all_goals simp [Try.f49, outR, outB, renB, gaN, lv, ouN, kpI, kpR, pos, ren, ren0, renC, renCs, renF, renFs]
  · rw [if_neg h] at c1 ⊢
    generalize endC { c with ph := 0 } = r at *
    unfold hW hBx at *
    unfold Wd.cells
    dsimp only at c1 ⊢
    refine wBodyG Try.tab Try.mixed Try.func49 rfl rfl Try.ntmps49 (by simp) (by simp) fun Q hr hn hp => ?_
    repeat' first | (refine CallK_gen [1024, 1025] (c1) (by decide) (by decide) (by simp [blksOf, inN, pos, renB, renC, renCs, ren0, lv, ouN, kpI, kpR]) (by simp [argsG, argG, ren0, inN, pos, renCs, renC]) ⟨[], by simp, by simp, ?_⟩; simp [lv, ouN, kpI, kpR, pos, ren, ren0, renB, renC, renCs, renF, renFs]) | (refine hK _ ?_; clear hK) | (refine hK _ _ ?_; clear hK) | (clear hK; refine hK _ ?_; clear hK) | (clear hK; clear hK; refine hK _ ?_; clear hK) | (clear hK; clear hK; clear hK; refine hK _ ?_; clear hK) | (clear hK; clear hK; clear hK; clear hK; refine hK _ ?_; clear hK) | (refine wSeq fun K hK => ?_) | ((first | refine wReg ?_ | refine wDrwQ rfl (by kernel_rfl) ?_ | refine wDrwI ?_ | refine wDrw (by kernel_rfl) ?_); simp only [List.map_cons, List.map_nil, strip]) | ((first | refine wIs fun K hK => ?_ | refine wOs fun K hK => ?_ | refine wQs fun K hK => ?_ | refine CallK_plain ?_ | refine CallQ_plain ?_ | refine CallR_plain ?_ | refine wCond ?_); simp [h]) | (refine wIn ?_; refine And.intro (by kernel_rfl) ?_; try simp only [thenA_n]) | (first | refine wBlock ?_ | refine wScope ?_) | ((first | refine wRet ?_ | refine wExit ?_ | refine wSkip ?_); try simp) | ((first | refine wLabel ?_ | refine wOn ?_ | refine wQn ?_); try simp only [thenA_n])
    all_goals first | apply hn | apply hr
    all_goals refine ⟨[], by simp, by simp, ?_⟩
    all_goals simp [Try.f49, outR, outB, renB, gaN, lv, ouN, kpI, kpR, pos, ren, ren0, renC, renCs, renF, renFs]
theorem no1_con (c : Cl) (w : Wd) (h0 : ¬ c.wt = 0) : Con Try.prog 49 [.ptr 1024 0, .p (.agg w.cells)] (hW c) (.ret (.tup []) [.row 59 36 [rsC c.id c.wt true (wdZ 0 0 0)]] (hW1 (endC (noC c w)))) := by
  have c1 := end1_con (noC c w) (by unfold noC; split <;> exact h0)
  have e1 : (noC c w).id = c.id := by unfold noC; split <;> rfl
  have e2 : (noC c w).wt = c.wt := by unfold noC; split <;> rfl
  rw [e1, e2] at c1
  clear e1 e2
  generalize rsC c.id c.wt true (wdZ 0 0 0) = rs at *
  unfold noC at *
  by_cases h : w.er = 13
  · rw [if_pos h] at c1 ⊢
    generalize endC { c with ss := 0, ph := 0 } = r at *
    unfold hW hW1 hBx at *
    unfold Wd.cells
    dsimp only at c1 ⊢
    refine wBodyG Try.tab Try.mixed Try.func49 rfl rfl Try.ntmps49 (by simp) (by simp) fun Q hr hn hp => ?_
    repeat' first | (refine CallK_gen [1024, 1025] (c1) (by decide) (by decide) (by simp [blksOf, inN, pos, renB, renC, renCs, ren0, lv, ouN, kpI, kpR]) (by simp [argsG, argG, ren0, inN, pos, renCs, renC]) ⟨[500], by simp, by simp, ?_⟩; simp [lv, ouN, kpI, kpR, pos, ren, ren0, renB, renC, renCs, renF, renFs]) | (refine hK _ ?_; clear hK) | (refine hK _ _ ?_; clear hK) | (clear hK; refine hK _ ?_; clear hK) | (clear hK; clear hK; refine hK _ ?_; clear hK) | (clear hK; clear hK; clear hK; refine hK _ ?_; clear hK) | (clear hK; clear hK; clear hK; clear hK; refine hK _ ?_; clear hK) | (refine wSeq fun K hK => ?_) | ((first | refine wReg ?_ | refine wDrwQ rfl (by kernel_rfl) ?_ | refine wDrwI ?_ | refine wDrw (by kernel_rfl) ?_); simp only [List.map_cons, List.map_nil, strip]) | ((first | refine wIs fun K hK => ?_ | refine wOs fun K hK => ?_ | refine wQs fun K hK => ?_ | refine CallK_plain ?_ | refine CallQ_plain ?_ | refine CallR_plain ?_ | refine wCond ?_); simp [h]) | (refine wIn ?_; refine And.intro (by kernel_rfl) ?_; try simp only [thenA_n]) | (first | refine wBlock ?_ | refine wScope ?_) | ((first | refine wRet ?_ | refine wExit ?_ | refine wSkip ?_); try simp) | ((first | refine wLabel ?_ | refine wOn ?_ | refine wQn ?_); try simp only [thenA_n])
    all_goals first | apply hn | apply hr
    all_goals refine ⟨[500], by simp, by simp, ?_⟩
    all_goals simp [Try.f49, outR, outB, renB, gaN, lv, ouN, kpI, kpR, pos, ren, ren0, renC, renCs, renF, renFs]
  · rw [if_neg h] at c1 ⊢
    generalize endC { c with ph := 0 } = r at *
    unfold hW hW1 hBx at *
    unfold Wd.cells
    dsimp only at c1 ⊢
    refine wBodyG Try.tab Try.mixed Try.func49 rfl rfl Try.ntmps49 (by simp) (by simp) fun Q hr hn hp => ?_
    repeat' first | (refine CallK_gen [1024, 1025] (c1) (by decide) (by decide) (by simp [blksOf, inN, pos, renB, renC, renCs, ren0, lv, ouN, kpI, kpR]) (by simp [argsG, argG, ren0, inN, pos, renCs, renC]) ⟨[500], by simp, by simp, ?_⟩; simp [lv, ouN, kpI, kpR, pos, ren, ren0, renB, renC, renCs, renF, renFs]) | (refine hK _ ?_; clear hK) | (refine hK _ _ ?_; clear hK) | (clear hK; refine hK _ ?_; clear hK) | (clear hK; clear hK; refine hK _ ?_; clear hK) | (clear hK; clear hK; clear hK; refine hK _ ?_; clear hK) | (clear hK; clear hK; clear hK; clear hK; refine hK _ ?_; clear hK) | (refine wSeq fun K hK => ?_) | ((first | refine wReg ?_ | refine wDrwQ rfl (by kernel_rfl) ?_ | refine wDrwI ?_ | refine wDrw (by kernel_rfl) ?_); simp only [List.map_cons, List.map_nil, strip]) | ((first | refine wIs fun K hK => ?_ | refine wOs fun K hK => ?_ | refine wQs fun K hK => ?_ | refine CallK_plain ?_ | refine CallQ_plain ?_ | refine CallR_plain ?_ | refine wCond ?_); simp [h]) | (refine wIn ?_; refine And.intro (by kernel_rfl) ?_; try simp only [thenA_n]) | (first | refine wBlock ?_ | refine wScope ?_) | ((first | refine wRet ?_ | refine wExit ?_ | refine wSkip ?_); try simp) | ((first | refine wLabel ?_ | refine wOn ?_ | refine wQn ?_); try simp only [thenA_n])
    all_goals first | apply hn | apply hr
    all_goals refine ⟨[500], by simp, by simp, ?_⟩
    all_goals simp [Try.f49, outR, outB, renB, gaN, lv, ouN, kpI, kpR, pos, ren, ren0, renC, renCs, renF, renFs]
def noteC (c : Cl) (w : Wd) : Cl := seeC { c with nt := c.nt ++ [w.nt] } w.nt.e w.nt.n
theorem note_con (c : Cl) (w : Wd) (hn : c.nt.length ≤ 1000000) : Con Try.prog 50 [.ptr 1024 0, .p (.agg w.cells)] (hW c) (.ret (.tup []) [] (hW (noteC c w))) := by
  have c1 := see_con { c with nt := c.nt ++ [w.nt] } w.nt.e w.nt.n
  unfold noteC
  generalize seeC { c with nt := c.nt ++ [w.nt] } w.nt.e w.nt.n = r at *
  have hs := nts_snoc c.nt w.nt
  unfold hW hBx at *
  unfold Wd.cells
  dsimp only at c1 ⊢
  refine wBodyG Try.tab Try.mixed Try.func50 rfl rfl Try.ntmps50 (by simp) (by simp) fun Q hr hn hp => ?_
  repeat' first | (refine CallK_gen [1024, 1025] (c1) (by decide) (by decide) (by simp [blksOf, inN, pos, renB, renC, renCs, ren0, lv, ouN, kpI, kpR]) (by simp [argsG, argG, ren0, inN, pos, renCs, renC]) ⟨[], by simp, by simp, ?_⟩; simp [lv, ouN, kpI, kpR, pos, ren, ren0, renB, renC, renCs, renF, renFs]) | (refine And.intro (by omega) (Or.inl ?_)) | (refine And.intro (by omega) ?_) | (refine hK _ ?_; clear hK) | (refine hK _ _ ?_; clear hK) | (clear hK; refine hK _ ?_; clear hK) | (clear hK; clear hK; refine hK _ ?_; clear hK) | (clear hK; clear hK; clear hK; refine hK _ ?_; clear hK) | (clear hK; clear hK; clear hK; clear hK; refine hK _ ?_; clear hK) | (refine wSeq fun K hK => ?_) | ((first | refine wReg ?_ | refine wDrwQ rfl (by kernel_rfl) ?_ | refine wDrwI ?_ | refine wDrw (by kernel_rfl) ?_); simp only [List.map_cons, List.map_nil, strip]) | ((first | refine wIs fun K hK => ?_ | refine wOs fun K hK => ?_ | refine wQs fun K hK => ?_ | refine CallK_plain ?_ | refine CallQ_plain ?_ | refine CallR_plain ?_ | refine wCond ?_); simp [hs]) | (refine wIn ?_; refine And.intro (by kernel_rfl) ?_; try simp only [thenA_n]) | (first | refine wBlock ?_ | refine wScope ?_) | ((first | refine wRet ?_ | refine wExit ?_ | refine wSkip ?_); try simp) | ((first | refine wLabel ?_ | refine wOn ?_ | refine wQn ?_); try simp only [thenA_n])
  all_goals first | apply hn | apply hr
  all_goals refine ⟨[], by simp, by simp, ?_⟩
  all_goals simp [Try.f50, outR, outB, renB, gaN, lv, ouN, kpI, kpR, pos, ren, ren0, renC, renCs, renF, renFs]
theorem nothing_con (c : Cl) (w : Wd) : Con Try.prog 52 [.ptr 1024 0, .p (.agg w.cells)] (hW c) (.ret (.tup []) [] (hW c)) := by
  unfold hW hBx Wd.cells
  refine wBodyG Try.tab Try.mixed Try.func52 rfl rfl Try.ntmps52 (by simp) (by simp) fun Q hr hn hp => ?_
  repeat' first | (refine hK _ ?_; clear hK) | (refine hK _ _ ?_; clear hK) | (clear hK; refine hK _ ?_; clear hK) | (clear hK; clear hK; refine hK _ ?_; clear hK) | (clear hK; clear hK; clear hK; refine hK _ ?_; clear hK) | (clear hK; clear hK; clear hK; clear hK; refine hK _ ?_; clear hK) | (refine wSeq fun K hK => ?_) | ((first | refine wReg ?_ | refine wDrwQ rfl (by kernel_rfl) ?_ | refine wDrwI ?_ | refine wDrw (by kernel_rfl) ?_); simp only [List.map_cons, List.map_nil, strip]) | ((first | refine wIs fun K hK => ?_ | refine wOs fun K hK => ?_ | refine wQs fun K hK => ?_ | refine CallK_plain ?_ | refine CallQ_plain ?_ | refine CallR_plain ?_ | refine wCond ?_); simp) | (refine wIn ?_; refine And.intro (by kernel_rfl) ?_; try simp only [thenA_n]) | (first | refine wBlock ?_ | refine wScope ?_) | ((first | refine wRet ?_ | refine wExit ?_ | refine wSkip ?_); try simp) | ((first | refine wLabel ?_ | refine wOn ?_ | refine wQn ?_); try simp only [thenA_n])
  all_goals first | apply hn | apply hr
  all_goals refine ⟨[], by simp, by simp, ?_⟩
  all_goals simp [Try.f52, outR, outB, renB, gaN, lv, ouN, kpI, kpR, pos, ren, ren0, renC, renCs, renF, renFs]
/-- Whom a word of that kind is handed. -/
def hearsF (k : Int) : FuncId := if k = 11 then 48 else if k = 12 then 49 else if k = 15 then 50 else if k = 13 ∨ k = 14 then 51 else 52
theorem hears_con (k : Int) : ACon Try.prog 32 [.ptr 1024 0, .p (I k)] (.clo ⟨hearsF k, true⟩ [.box 1024]) := by
  unfold hearsF
  by_cases h1 : k = 11
  · subst h1
    refine wBody Try.tab Try.mixed Try.func32 rfl rfl Try.ntmps32 (by simp) (by simp) fun Q hr hn => ?_
    repeat' first | (refine hK _ ?_; clear hK) | (refine hK _ _ ?_; clear hK) | (clear hK; refine hK _ ?_; clear hK) | (clear hK; clear hK; refine hK _ ?_; clear hK) | (clear hK; clear hK; clear hK; refine hK _ ?_; clear hK) | (clear hK; clear hK; clear hK; clear hK; refine hK _ ?_; clear hK) | (refine wSeq fun K hK => ?_) | ((first | refine wReg ?_ | refine wDrwQ rfl (by kernel_rfl) ?_ | refine wDrwI ?_ | refine wDrw (by kernel_rfl) ?_); simp only [List.map_cons, List.map_nil, strip]) | ((first | refine wIs fun K hK => ?_ | refine wOs fun K hK => ?_ | refine wQs fun K hK => ?_ | refine CallK_plain ?_ | refine CallQ_plain ?_ | refine CallR_plain ?_ | refine wCond ?_); simp) | (refine wIn ?_; refine And.intro (by kernel_rfl) ?_; try simp only [thenA_n]) | (first | refine wBlock ?_ | refine wScope ?_) | ((first | refine wRet ?_ | refine wExit ?_ | refine wSkip ?_); try simp) | ((first | refine wLabel ?_ | refine wOn ?_ | refine wQn ?_); try simp only [thenA_n])
    all_goals first | apply hn | apply hr
    all_goals simp [Try.f32, outR, outB, renB, gaN, lv, ouN, kpI, kpR, pos, ren, ren0, renC, renCs, renF, renFs]
  by_cases h2 : k = 12
  · subst h2
    refine wBody Try.tab Try.mixed Try.func32 rfl rfl Try.ntmps32 (by simp) (by simp) fun Q hr hn => ?_
    repeat' first | (refine hK _ ?_; clear hK) | (refine hK _ _ ?_; clear hK) | (clear hK; refine hK _ ?_; clear hK) | (clear hK; clear hK; refine hK _ ?_; clear hK) | (clear hK; clear hK; clear hK; refine hK _ ?_; clear hK) | (clear hK; clear hK; clear hK; clear hK; refine hK _ ?_; clear hK) | (refine wSeq fun K hK => ?_) | ((first | refine wReg ?_ | refine wDrwQ rfl (by kernel_rfl) ?_ | refine wDrwI ?_ | refine wDrw (by kernel_rfl) ?_); simp only [List.map_cons, List.map_nil, strip]) | ((first | refine wIs fun K hK => ?_ | refine wOs fun K hK => ?_ | refine wQs fun K hK => ?_ | refine CallK_plain ?_ | refine CallQ_plain ?_ | refine CallR_plain ?_ | refine wCond ?_); simp) | (refine wIn ?_; refine And.intro (by kernel_rfl) ?_; try simp only [thenA_n]) | (first | refine wBlock ?_ | refine wScope ?_) | ((first | refine wRet ?_ | refine wExit ?_ | refine wSkip ?_); try simp) | ((first | refine wLabel ?_ | refine wOn ?_ | refine wQn ?_); try simp only [thenA_n])
    all_goals first | apply hn | apply hr
    all_goals simp [Try.f32, outR, outB, renB, gaN, lv, ouN, kpI, kpR, pos, ren, ren0, renC, renCs, renF, renFs]
  by_cases h3 : k = 15
  · subst h3
    refine wBody Try.tab Try.mixed Try.func32 rfl rfl Try.ntmps32 (by simp) (by simp) fun Q hr hn => ?_
    repeat' first | (refine hK _ ?_; clear hK) | (refine hK _ _ ?_; clear hK) | (clear hK; refine hK _ ?_; clear hK) | (clear hK; clear hK; refine hK _ ?_; clear hK) | (clear hK; clear hK; clear hK; refine hK _ ?_; clear hK) | (clear hK; clear hK; clear hK; clear hK; refine hK _ ?_; clear hK) | (refine wSeq fun K hK => ?_) | ((first | refine wReg ?_ | refine wDrwQ rfl (by kernel_rfl) ?_ | refine wDrwI ?_ | refine wDrw (by kernel_rfl) ?_); simp only [List.map_cons, List.map_nil, strip]) | ((first | refine wIs fun K hK => ?_ | refine wOs fun K hK => ?_ | refine wQs fun K hK => ?_ | refine CallK_plain ?_ | refine CallQ_plain ?_ | refine CallR_plain ?_ | refine wCond ?_); simp) | (refine wIn ?_; refine And.intro (by kernel_rfl) ?_; try simp only [thenA_n]) | (first | refine wBlock ?_ | refine wScope ?_) | ((first | refine wRet ?_ | refine wExit ?_ | refine wSkip ?_); try simp) | ((first | refine wLabel ?_ | refine wOn ?_ | refine wQn ?_); try simp only [thenA_n])
    all_goals first | apply hn | apply hr
    all_goals simp [Try.f32, outR, outB, renB, gaN, lv, ouN, kpI, kpR, pos, ren, ren0, renC, renCs, renF, renFs]
  by_cases h4 : k = 13
  · subst h4
    refine wBody Try.tab Try.mixed Try.func32 rfl rfl Try.ntmps32 (by simp) (by simp) fun Q hr hn => ?_
    repeat' first | (refine hK _ ?_; clear hK) | (refine hK _ _ ?_; clear hK) | (clear hK; refine hK _ ?_; clear hK) | (clear hK; clear hK; refine hK _ ?_; clear hK) | (clear hK; clear hK; clear hK; refine hK _ ?_; clear hK) | (clear hK; clear hK; clear hK; clear hK; refine hK _ ?_; clear hK) | (refine wSeq fun K hK => ?_) | ((first | refine wReg ?_ | refine wDrwQ rfl (by kernel_rfl) ?_ | refine wDrwI ?_ | refine wDrw (by kernel_rfl) ?_); simp only [List.map_cons, List.map_nil, strip]) | ((first | refine wIs fun K hK => ?_ | refine wOs fun K hK => ?_ | refine wQs fun K hK => ?_ | refine CallK_plain ?_ | refine CallQ_plain ?_ | refine CallR_plain ?_ | refine wCond ?_); simp) | (refine wIn ?_; refine And.intro (by kernel_rfl) ?_; try simp only [thenA_n]) | (first | refine wBlock ?_ | refine wScope ?_) | ((first | refine wRet ?_ | refine wExit ?_ | refine wSkip ?_); try simp) | ((first | refine wLabel ?_ | refine wOn ?_ | refine wQn ?_); try simp only [thenA_n])
    all_goals first | apply hn | apply hr
    all_goals simp [Try.f32, outR, outB, renB, gaN, lv, ouN, kpI, kpR, pos, ren, ren0, renC, renCs, renF, renFs]
  by_cases h5 : k = 14
  · subst h5
    refine wBody Try.tab Try.mixed Try.func32 rfl rfl Try.ntmps32 (by simp) (by simp) fun Q hr hn => ?_
    repeat' first | (refine hK _ ?_; clear hK) | (refine hK _ _ ?_; clear hK) | (clear hK; refine hK _ ?_; clear hK) | (clear hK; clear hK; refine hK _ ?_; clear hK) | (clear hK; clear hK; clear hK; refine hK _ ?_; clear hK) | (clear hK; clear hK; clear hK; clear hK; refine hK _ ?_; clear hK) | (refine wSeq fun K hK => ?_) | ((first | refine wReg ?_ | refine wDrwQ rfl (by kernel_rfl) ?_ | refine wDrwI ?_ | refine wDrw (by kernel_rfl) ?_); simp only [List.map_cons, List.map_nil, strip]) | ((first | refine wIs fun K hK => ?_ | refine wOs fun K hK => ?_ | refine wQs fun K hK => ?_ | refine CallK_plain ?_ | refine CallQ_plain ?_ | refine CallR_plain ?_ | refine wCond ?_); simp) | (refine wIn ?_; refine And.intro (by kernel_rfl) ?_; try simp only [thenA_n]) | (first | refine wBlock ?_ | refine wScope ?_) | ((first | refine wRet ?_ | refine wExit ?_ | refine wSkip ?_); try simp) | ((first | refine wLabel ?_ | refine wOn ?_ | refine wQn ?_); try simp only [thenA_n])
    all_goals first | apply hn | apply hr
    all_goals simp [Try.f32, outR, outB, renB, gaN, lv, ouN, kpI, kpR, pos, ren, ren0, renC, renCs, renF, renFs]
  rw [if_neg h1, if_neg h2, if_neg h3, if_neg (by omega)]
  refine wBody Try.tab Try.mixed Try.func32 rfl rfl Try.ntmps32 (by simp) (by simp) fun Q hr hn => ?_
  repeat' first | (refine hK _ ?_; clear hK) | (refine hK _ _ ?_; clear hK) | (clear hK; refine hK _ ?_; clear hK) | (clear hK; clear hK; refine hK _ ?_; clear hK) | (clear hK; clear hK; clear hK; refine hK _ ?_; clear hK) | (clear hK; clear hK; clear hK; clear hK; refine hK _ ?_; clear hK) | (refine wSeq fun K hK => ?_) | ((first | refine wReg ?_ | refine wDrwQ rfl (by kernel_rfl) ?_ | refine wDrwI ?_ | refine wDrw (by kernel_rfl) ?_); simp only [List.map_cons, List.map_nil, strip]) | ((first | refine wIs fun K hK => ?_ | refine wOs fun K hK => ?_ | refine wQs fun K hK => ?_ | refine CallK_plain ?_ | refine CallQ_plain ?_ | refine CallR_plain ?_ | refine wCond ?_); simp [h1, h2, h3, h4, h5]) | (refine wIn ?_; refine And.intro (by kernel_rfl) ?_; try simp only [thenA_n]) | (first | refine wBlock ?_ | refine wScope ?_) | ((first | refine wRet ?_ | refine wExit ?_ | refine wSkip ?_); try simp) | ((first | refine wLabel ?_ | refine wOn ?_ | refine wQn ?_); try simp only [thenA_n])
  all_goals first | apply hn | apply hr
  all_goals simp [Try.f32, outR, outB, renB, gaN, lv, ouN, kpI, kpR, pos, ren, ren0, renC, renCs, renF, renFs]
/- Clients: words copied; its request ended. -/
theorem cloneOp_con (l : List (List PV)) (hl : l.length ≤ 1000000) : RCon 54 [.p (.sl 6 l)] 61 6 l := by
  refine wBodyR Try.tab Try.mixed Try.func54 rfl rfl Try.ntmps54 rfl (by simp) (by simp) fun Q hr hn => ?_
  repeat' first | (refine wRetG [.row 2 61 6] ?_) | (refine And.intro (by omega) (Or.inl ?_)) | (refine And.intro ?_ (fun hnil => ?_)) | (refine hK _ ?_; clear hK) | (refine hK _ _ ?_; clear hK) | (clear hK; refine hK _ ?_; clear hK) | (clear hK; clear hK; refine hK _ ?_; clear hK) | (clear hK; clear hK; clear hK; refine hK _ ?_; clear hK) | (clear hK; clear hK; clear hK; clear hK; refine hK _ ?_; clear hK) | (refine wSeq fun K hK => ?_) | ((first | refine wReg ?_ | refine wDrwQ rfl (by kernel_rfl) ?_ | refine wDrwI ?_ | refine wDrw (by kernel_rfl) ?_); simp only [List.map_cons, List.map_nil, strip]) | ((first | refine wIs fun K hK => ?_ | refine wOs fun K hK => ?_ | refine wQs fun K hK => ?_ | refine CallK_plain ?_ | refine CallQ_plain ?_ | refine CallR_plain ?_ | refine wCond ?_); simp) | (refine wIn ?_; refine And.intro (by kernel_rfl) ?_; try simp only [thenA_n]) | (first | refine wBlock ?_ | refine wScope ?_) | ((first | refine wRet ?_ | refine wExit ?_ | refine wSkip ?_); try simp) | ((first | refine wLabel ?_ | refine wOn ?_ | refine wQn ?_); try simp only [thenA_n])
  · refine hr _ 7 (by simp) (by simp) (by omega)
  · subst hnil
    simp only [thenA_r]
    refine hr _ 2 (by simp) (by simp) (by omega)
theorem cloneMb_con (l : List (List PV)) (hl : l.length ≤ 4398046510976) : RCon 55 [.p (.sl 4 l)] 101 4 l := by
  refine wBodyR Try.tab Try.mixed Try.func55 rfl rfl Try.ntmps55 rfl (by simp) (by simp) fun Q hr hn => ?_
  repeat' first | (refine wRetG [.row 2 101 4] ?_) | (refine And.intro (by omega) (Or.inl ?_)) | (refine And.intro ?_ (fun hnil => ?_)) | (refine hK _ ?_; clear hK) | (refine hK _ _ ?_; clear hK) | (clear hK; refine hK _ ?_; clear hK) | (clear hK; clear hK; refine hK _ ?_; clear hK) | (clear hK; clear hK; clear hK; refine hK _ ?_; clear hK) | (clear hK; clear hK; clear hK; clear hK; refine hK _ ?_; clear hK) | (refine wSeq fun K hK => ?_) | ((first | refine wReg ?_ | refine wDrwQ rfl (by kernel_rfl) ?_ | refine wDrwI ?_ | refine wDrw (by kernel_rfl) ?_); simp only [List.map_cons, List.map_nil, strip]) | ((first | refine wIs fun K hK => ?_ | refine wOs fun K hK => ?_ | refine wQs fun K hK => ?_ | refine CallK_plain ?_ | refine CallQ_plain ?_ | refine CallR_plain ?_ | refine wCond ?_); simp) | (refine wIn ?_; refine And.intro (by kernel_rfl) ?_; try simp only [thenA_n]) | (first | refine wBlock ?_ | refine wScope ?_) | ((first | refine wRet ?_ | refine wExit ?_ | refine wSkip ?_); try simp) | ((first | refine wLabel ?_ | refine wOn ?_ | refine wQn ?_); try simp only [thenA_n])
  · refine hr _ 7 (by simp) (by simp) (by omega)
  · subst hnil
    simp only [thenA_r]
    refine hr _ 2 (by simp) (by simp) (by omega)
theorem cloneIn_con (l : List (List PV)) (hl : l.length ≤ 17592186043904) : RCon 56 [.p (.sl 1 l)] 3 1 l := by
  refine wBodyR Try.tab Try.mixed Try.func56 rfl rfl Try.ntmps56 rfl (by simp) (by simp) fun Q hr hn => ?_
  repeat' first | (refine wRetG [.row 2 3 1] ?_) | (refine And.intro (by omega) (Or.inl ?_)) | (refine And.intro ?_ (fun hnil => ?_)) | (refine hK _ ?_; clear hK) | (refine hK _ _ ?_; clear hK) | (clear hK; refine hK _ ?_; clear hK) | (clear hK; clear hK; refine hK _ ?_; clear hK) | (clear hK; clear hK; clear hK; refine hK _ ?_; clear hK) | (clear hK; clear hK; clear hK; clear hK; refine hK _ ?_; clear hK) | (refine wSeq fun K hK => ?_) | ((first | refine wReg ?_ | refine wDrwQ rfl (by kernel_rfl) ?_ | refine wDrwI ?_ | refine wDrw (by kernel_rfl) ?_); simp only [List.map_cons, List.map_nil, strip]) | ((first | refine wIs fun K hK => ?_ | refine wOs fun K hK => ?_ | refine wQs fun K hK => ?_ | refine CallK_plain ?_ | refine CallQ_plain ?_ | refine CallR_plain ?_ | refine wCond ?_); simp) | (refine wIn ?_; refine And.intro (by kernel_rfl) ?_; try simp only [thenA_n]) | (first | refine wBlock ?_ | refine wScope ?_) | ((first | refine wRet ?_ | refine wExit ?_ | refine wSkip ?_); try simp) | ((first | refine wLabel ?_ | refine wOn ?_ | refine wQn ?_); try simp only [thenA_n])
  · refine hr _ 7 (by simp) (by simp) (by omega)
  · subst hnil
    simp only [thenA_r]
    refine hr _ 2 (by simp) (by simp) (by omega)
theorem cloneSt_con (l : List (List PV)) (hl : l.length ≤ 1000000) : RCon 60 [.p (.sl 1 l)] 9 1 l := by
  refine wBodyR Try.tab Try.mixed Try.func60 rfl rfl Try.ntmps60 rfl (by simp) (by simp) fun Q hr hn => ?_
  repeat' first | (refine wRetG [.row 2 9 1] ?_) | (refine And.intro (by omega) (Or.inl ?_)) | (refine And.intro ?_ (fun hnil => ?_)) | (refine hK _ ?_; clear hK) | (refine hK _ _ ?_; clear hK) | (clear hK; refine hK _ ?_; clear hK) | (clear hK; clear hK; refine hK _ ?_; clear hK) | (clear hK; clear hK; clear hK; refine hK _ ?_; clear hK) | (clear hK; clear hK; clear hK; clear hK; refine hK _ ?_; clear hK) | (refine wSeq fun K hK => ?_) | ((first | refine wReg ?_ | refine wDrwQ rfl (by kernel_rfl) ?_ | refine wDrwI ?_ | refine wDrw (by kernel_rfl) ?_); simp only [List.map_cons, List.map_nil, strip]) | ((first | refine wIs fun K hK => ?_ | refine wOs fun K hK => ?_ | refine wQs fun K hK => ?_ | refine CallK_plain ?_ | refine CallQ_plain ?_ | refine CallR_plain ?_ | refine wCond ?_); simp) | (refine wIn ?_; refine And.intro (by kernel_rfl) ?_; try simp only [thenA_n]) | (first | refine wBlock ?_ | refine wScope ?_) | ((first | refine wRet ?_ | refine wExit ?_ | refine wSkip ?_); try simp) | ((first | refine wLabel ?_ | refine wOn ?_ | refine wQn ?_); try simp only [thenA_n])
  · refine hr _ 7 (by simp) (by simp) (by omega)
  · subst hnil
    simp only [thenA_r]
    refine hr _ 2 (by simp) (by simp) (by omega)
structure OkR (r : Rq) : Prop where
  o : r.ops.length ≤ 1000000
  p : r.put.length ≤ 4398046510976
  d : r.drop.length ≤ 17592186043904
set_option maxHeartbeats 1000000 in
theorem ownRq_con (r : Rq) (h : OkR r) : ACon Try.prog 35 [.p (.agg r.cells)] (.p (.agg r.cells)) := by
  have c1 := cloneOp_con r.ops h.o
  have c2 := cloneMb_con r.put h.p
  have c3 := cloneIn_con r.drop h.d
  unfold Rq.cells
  refine wBody Try.tab Try.mixed Try.func35 rfl rfl Try.ntmps35 (by simp) (by simp) fun Q hr hn => ?_
  repeat' first | (refine hK _ ?_; clear hK) | (refine hK _ _ ?_; clear hK) | (clear hK; refine hK _ ?_; clear hK) | (clear hK; clear hK; refine hK _ ?_; clear hK) | (clear hK; clear hK; clear hK; refine hK _ ?_; clear hK) | (clear hK; clear hK; clear hK; clear hK; refine hK _ ?_; clear hK) | (refine wSeq fun K hK => ?_) | ((first | refine wReg ?_ | refine wDrwQ rfl (by kernel_rfl) ?_ | refine wDrwI ?_ | refine wDrw (by kernel_rfl) ?_); simp only [List.map_cons, List.map_nil, strip]) | ((first | refine wIs fun K hK => ?_ | refine wOs fun K hK => ?_ | refine wQs fun K hK => ?_ | refine CallK_plain ?_ | refine CallQ_plain ?_ | refine CallR_plain ?_ | refine wCond ?_); simp) | (refine wIn ?_; refine And.intro (by kernel_rfl) ?_; try simp only [thenA_n]) | (first | refine wBlock ?_ | refine wScope ?_) | ((first | refine wRet ?_ | refine wExit ?_ | refine wSkip ?_); try simp) | ((first | refine wLabel ?_ | refine wOn ?_ | refine wQn ?_); try simp only [thenA_n]) | (refine CallE.pure (c1) rfl ?_) | (refine CallE.lent (c1) rfl ?_) | (refine CallF.pure (c1) rfl ?_) | (refine CallF.lent (c1) rfl ?_) | (refine CallE.own (c1) ?_) | (refine CallH.pure (c1) rfl ?_) | (refine CallH.lent (c1) rfl ?_) | (refine CallH.own (c1) ?_) | (refine CallE.pure (c2) rfl ?_) | (refine CallE.lent (c2) rfl ?_) | (refine CallF.pure (c2) rfl ?_) | (refine CallF.lent (c2) rfl ?_) | (refine CallE.own (c2) ?_) | (refine CallH.pure (c2) rfl ?_) | (refine CallH.lent (c2) rfl ?_) | (refine CallH.own (c2) ?_) | (refine CallE.pure (c3) rfl ?_) | (refine CallE.lent (c3) rfl ?_) | (refine CallF.pure (c3) rfl ?_) | (refine CallF.lent (c3) rfl ?_) | (refine CallE.own (c3) ?_) | (refine CallH.pure (c3) rfl ?_) | (refine CallH.lent (c3) rfl ?_) | (refine CallH.own (c3) ?_)
  all_goals first | apply hn | apply hr
  all_goals simp [Try.f35]
structure OkW (w : Wd) : Prop where
  r : OkR w.r
  n : w.nm.length ≤ 1000000
set_option maxHeartbeats 1000000 in
theorem ownWd_con (w : Wd) (h : OkW w) : ACon Try.prog 58 [.p (.agg w.cells)] (.p (.agg w.cells)) := by
  have c1 := ownRq_con w.r h.r
  have c2 := cloneSt_con w.nm h.n
  unfold Wd.cells
  unfold Rq.cells at c1
  refine wBody Try.tab Try.mixed Try.func58 rfl rfl Try.ntmps58 (by simp) (by simp) fun Q hr hn => ?_
  repeat' first | (refine hK _ ?_; clear hK) | (refine hK _ _ ?_; clear hK) | (clear hK; refine hK _ ?_; clear hK) | (clear hK; clear hK; refine hK _ ?_; clear hK) | (clear hK; clear hK; clear hK; refine hK _ ?_; clear hK) | (clear hK; clear hK; clear hK; clear hK; refine hK _ ?_; clear hK) | (refine wSeq fun K hK => ?_) | ((first | refine wReg ?_ | refine wDrwQ rfl (by kernel_rfl) ?_ | refine wDrwI ?_ | refine wDrw (by kernel_rfl) ?_); simp only [List.map_cons, List.map_nil, strip]) | ((first | refine wIs fun K hK => ?_ | refine wOs fun K hK => ?_ | refine wQs fun K hK => ?_ | refine CallK_plain ?_ | refine CallQ_plain ?_ | refine CallR_plain ?_ | refine wCond ?_); simp) | (refine wIn ?_; refine And.intro (by kernel_rfl) ?_; try simp only [thenA_n]) | (first | refine wBlock ?_ | refine wScope ?_) | ((first | refine wRet ?_ | refine wExit ?_ | refine wSkip ?_); try simp) | ((first | refine wLabel ?_ | refine wOn ?_ | refine wQn ?_); try simp only [thenA_n]) | (refine CallE.pure (c1) rfl ?_) | (refine CallE.lent (c1) rfl ?_) | (refine CallF.pure (c1) rfl ?_) | (refine CallF.lent (c1) rfl ?_) | (refine CallE.own (c1) ?_) | (refine CallH.pure (c1) rfl ?_) | (refine CallH.lent (c1) rfl ?_) | (refine CallH.own (c1) ?_) | (refine CallE.pure (c2) rfl ?_) | (refine CallE.lent (c2) rfl ?_) | (refine CallF.pure (c2) rfl ?_) | (refine CallF.lent (c2) rfl ?_) | (refine CallE.own (c2) ?_) | (refine CallH.pure (c2) rfl ?_) | (refine CallH.lent (c2) rfl ?_) | (refine CallH.own (c2) ?_)
  all_goals first | apply hn | apply hr
  all_goals simp [Try.f58]
/-- Whether the word answers what waits. -/
def goodT (c : Cl) (w : Wd) : Prop := ¬ c.wt = 0 ∧ c.wt = w.xi ∧ (c.rd = 0 ↔ ¬ w.kd = 14)
instance (c : Cl) (w : Wd) : Decidable (goodT c w) := by unfold goodT; infer_instance
set_option maxHeartbeats 2000000 in
theorem told0_con (c : Cl) (w : Wd) (h : ¬ goodT c w) : Con Try.prog 51 [.ptr 1024 0, .p (.agg w.cells)] (hW c) (.ret (.tup []) [] (hW c)) := by
  unfold goodT at h
  unfold hW hBx Wd.cells
  by_cases h1 : c.wt = 0
  · refine wBodyG Try.tab Try.mixed Try.func51 rfl rfl Try.ntmps51 (by simp) (by simp) fun Q hr hn hp => ?_
    repeat' first | (refine hK _ ?_; clear hK) | (refine hK _ _ ?_; clear hK) | (clear hK; refine hK _ ?_; clear hK) | (clear hK; clear hK; refine hK _ ?_; clear hK) | (clear hK; clear hK; clear hK; refine hK _ ?_; clear hK) | (clear hK; clear hK; clear hK; clear hK; refine hK _ ?_; clear hK) | (refine wSeq fun K hK => ?_) | ((first | refine wReg ?_ | refine wDrwQ rfl (by kernel_rfl) ?_ | refine wDrwI ?_ | refine wDrw (by kernel_rfl) ?_); simp only [List.map_cons, List.map_nil, strip]) | ((first | refine wIs fun K hK => ?_ | refine wOs fun K hK => ?_ | refine wQs fun K hK => ?_ | refine CallK_plain ?_ | refine CallQ_plain ?_ | refine CallR_plain ?_ | refine wCond ?_); simp [h1]) | (refine wIn ?_; refine And.intro (by kernel_rfl) ?_; try simp only [thenA_n]) | (first | refine wBlock ?_ | refine wScope ?_) | ((first | refine wRet ?_ | refine wExit ?_ | refine wSkip ?_); try simp) | ((first | refine wLabel ?_ | refine wOn ?_ | refine wQn ?_); try simp only [thenA_n])
    all_goals first | apply hn | apply hr
    all_goals refine ⟨[], by simp, by simp, ?_⟩
    all_goals simp [Try.f51, outR, outB, renB, gaN, h1]
  by_cases h2 : c.wt = w.xi
  case neg =>
    refine wBodyG Try.tab Try.mixed Try.func51 rfl rfl Try.ntmps51 (by simp) (by simp) fun Q hr hn hp => ?_
    repeat' first | (refine hK _ ?_; clear hK) | (refine hK _ _ ?_; clear hK) | (clear hK; refine hK _ ?_; clear hK) | (clear hK; clear hK; refine hK _ ?_; clear hK) | (clear hK; clear hK; clear hK; refine hK _ ?_; clear hK) | (clear hK; clear hK; clear hK; clear hK; refine hK _ ?_; clear hK) | (refine wSeq fun K hK => ?_) | ((first | refine wReg ?_ | refine wDrwQ rfl (by kernel_rfl) ?_ | refine wDrwI ?_ | refine wDrw (by kernel_rfl) ?_); simp only [List.map_cons, List.map_nil, strip]) | ((first | refine wIs fun K hK => ?_ | refine wOs fun K hK => ?_ | refine wQs fun K hK => ?_ | refine CallK_plain ?_ | refine CallQ_plain ?_ | refine CallR_plain ?_ | refine wCond ?_); simp [h1, h2]) | (refine wIn ?_; refine And.intro (by kernel_rfl) ?_; try simp only [thenA_n]) | (first | refine wBlock ?_ | refine wScope ?_) | ((first | refine wRet ?_ | refine wExit ?_ | refine wSkip ?_); try simp) | ((first | refine wLabel ?_ | refine wOn ?_ | refine wQn ?_); try simp only [thenA_n])
    all_goals first | apply hn | apply hr
    all_goals refine ⟨[], by simp, by simp, ?_⟩
    all_goals simp [Try.f51, outR, outB, renB, gaN]
  have h1' : (c.wt = 0) = False := eq_false h1
  have h2' : (c.wt = w.xi) = True := eq_true h2
  by_cases h3 : c.rd = 0
  · have h4 : w.kd = 14 := by
      refine Decidable.byContradiction fun h5 => h ⟨h1, h2, ?_⟩
      exact ⟨fun _ => h5, fun _ => h3⟩
    have h3' : (c.rd = 0) = True := eq_true h3
    have h4' : (w.kd = 14) = True := eq_true h4
    have b1 : (c.rd != 0) = false := by simp [h3]
    have b2 : (w.kd == 14) = true := by simp [h4]
    refine wBodyG Try.tab Try.mixed Try.func51 rfl rfl Try.ntmps51 (by simp) (by simp) fun Q hr hn hp => ?_
    repeat' first | (refine hK _ ?_; clear hK) | (refine hK _ _ ?_; clear hK) | (clear hK; refine hK _ ?_; clear hK) | (clear hK; clear hK; refine hK _ ?_; clear hK) | (clear hK; clear hK; clear hK; refine hK _ ?_; clear hK) | (clear hK; clear hK; clear hK; clear hK; refine hK _ ?_; clear hK) | (refine wSeq fun K hK => ?_) | ((first | refine wReg ?_ | refine wDrwQ rfl (by kernel_rfl) ?_ | refine wDrwI ?_ | refine wDrw (by kernel_rfl) ?_); simp only [List.map_cons, List.map_nil, strip]) | ((first | refine wIs fun K hK => ?_ | refine wOs fun K hK => ?_ | refine wQs fun K hK => ?_ | refine CallK_plain ?_ | refine CallQ_plain ?_ | refine CallR_plain ?_ | refine wCond ?_); simp [h1', h2', h3', h4', b1, b2]) | (refine wIn ?_; refine And.intro (by kernel_rfl) ?_; try simp only [thenA_n]) | (first | refine wBlock ?_ | refine wScope ?_) | ((first | refine wRet ?_ | refine wExit ?_ | refine wSkip ?_); try simp) | ((first | refine wLabel ?_ | refine wOn ?_ | refine wQn ?_); try simp only [thenA_n])
    all_goals first | apply hn | apply hr
    all_goals refine ⟨[], by simp, by simp, ?_⟩
    all_goals simp [Try.f51, outR, outB, renB, gaN]
  · have h4 : ¬ w.kd = 14 := fun h5 => h ⟨h1, h2, ⟨fun h6 => absurd h6 h3, fun h6 => absurd h5 h6⟩⟩
    have h3' : (c.rd = 0) = False := eq_false h3
    have h4' : (w.kd = 14) = False := eq_false h4
    have b1 : (c.rd != 0) = true := by simp [h3]
    have b2 : (w.kd == 14) = false := by simp [h4]
    refine wBodyG Try.tab Try.mixed Try.func51 rfl rfl Try.ntmps51 (by simp) (by simp) fun Q hr hn hp => ?_
    repeat' first | (refine hK _ ?_; clear hK) | (refine hK _ _ ?_; clear hK) | (clear hK; refine hK _ ?_; clear hK) | (clear hK; clear hK; refine hK _ ?_; clear hK) | (clear hK; clear hK; clear hK; refine hK _ ?_; clear hK) | (clear hK; clear hK; clear hK; clear hK; refine hK _ ?_; clear hK) | (refine wSeq fun K hK => ?_) | ((first | refine wReg ?_ | refine wDrwQ rfl (by kernel_rfl) ?_ | refine wDrwI ?_ | refine wDrw (by kernel_rfl) ?_); simp only [List.map_cons, List.map_nil, strip]) | ((first | refine wIs fun K hK => ?_ | refine wOs fun K hK => ?_ | refine wQs fun K hK => ?_ | refine CallK_plain ?_ | refine CallQ_plain ?_ | refine CallR_plain ?_ | refine wCond ?_); simp [h1', h2', h3', h4', b1, b2]) | (refine wIn ?_; refine And.intro (by kernel_rfl) ?_; try simp only [thenA_n]) | (first | refine wBlock ?_ | refine wScope ?_) | ((first | refine wRet ?_ | refine wExit ?_ | refine wSkip ?_); try simp) | ((first | refine wLabel ?_ | refine wOn ?_ | refine wQn ?_); try simp only [thenA_n])
    all_goals first | apply hn | apply hr
    all_goals refine ⟨[], by simp, by simp, ?_⟩
    all_goals simp [Try.f51, outR, outB, renB, gaN]
set_option maxHeartbeats 4000000 in
theorem told1_con (c : Cl) (w : Wd) (h : goodT c w) (hw : OkW w) : Con Try.prog 51 [.ptr 1024 0, .p (.agg w.cells)] (hW c) (.ret (.tup []) [.row 59 36 [rsC c.id c.wt false w]] (hW1 (endC (seeC c w.ae w.an)))) := by
  obtain ⟨h1, h2, h3⟩ := h
  have c1 := see_con c w.ae w.an
  have c2 := ownWd_con w hw
  have e1 : (seeC c w.ae w.an).id = c.id := by unfold seeC; split <;> rfl
  have e2 : (seeC c w.ae w.an).wt = c.wt := by unfold seeC; split <;> rfl
  have e3 : (seeC c w.ae w.an).nt = c.nt := by unfold seeC; split <;> rfl
  generalize seeC c w.ae w.an = r at *
  unfold hW hW1 hBx endC rsC
  unfold hW hBx at c1
  rw [e1, e2, e3] at c1
  dsimp only
  rw [e1, e3]
  unfold Wd.cells at c2 ⊢
  by_cases h4 : c.rd = 0
  · have h5 := h3.1 h4
    have h1' : (c.wt = 0) = False := eq_false h1
    have h2' : (c.wt = w.xi) = True := eq_true h2
    have h4' : (c.rd = 0) = True := eq_true h4
    have h5' : (w.kd = 14) = False := eq_false h5
    have b1 : (c.rd != 0) = false := by simp [h4]
    have b2 : (w.kd == 14) = false := by simp [h5]
    refine wBodyG Try.tab Try.mixed Try.func51 rfl rfl Try.ntmps51 (by simp) (by simp) fun Q hr hn hp => ?_
    repeat' first | (refine CallK_gen [1024, 1025] (c1) (by decide) (by decide) (by simp [blksOf, inN, pos, renB, renC, renCs, ren0, lv, ouN, kpI, kpR]) (by simp [argsG, argG, ren0, inN, pos, renCs, renC]) ⟨[], by simp, by simp, ?_⟩; simp [lv, ouN, kpI, kpR, pos, ren, ren0, renB, renC, renCs, renF, renFs]) | (refine wDrwI ?_; simp only [List.map_cons, List.map_nil, strip]) | (refine And.intro (by omega) (Or.inl ?_)) | (refine And.intro (by omega) ?_) | (refine hK _ ?_; clear hK) | (refine hK _ _ ?_; clear hK) | (clear hK; refine hK _ ?_; clear hK) | (clear hK; clear hK; refine hK _ ?_; clear hK) | (clear hK; clear hK; clear hK; refine hK _ ?_; clear hK) | (clear hK; clear hK; clear hK; clear hK; refine hK _ ?_; clear hK) | (refine wSeq fun K hK => ?_) | ((first | refine wReg ?_ | refine wDrwQ rfl (by kernel_rfl) ?_ | refine wDrwI ?_ | refine wDrw (by kernel_rfl) ?_); simp only [List.map_cons, List.map_nil, strip]) | ((first | refine wIs fun K hK => ?_ | refine wOs fun K hK => ?_ | refine wQs fun K hK => ?_ | refine CallK_plain ?_ | refine CallQ_plain ?_ | refine CallR_plain ?_ | refine wCond ?_); simp [h1', h2', h4', h5', b1, b2]) | (refine wIn ?_; refine And.intro (by kernel_rfl) ?_; try simp only [thenA_n]) | (first | refine wBlock ?_ | refine wScope ?_) | ((first | refine wRet ?_ | refine wExit ?_ | refine wSkip ?_); try simp) | ((first | refine wLabel ?_ | refine wOn ?_ | refine wQn ?_); try simp only [thenA_n]) | (refine CallE.pure (c2) rfl ?_) | (refine CallE.lent (c2) rfl ?_) | (refine CallF.pure (c2) rfl ?_) | (refine CallF.lent (c2) rfl ?_) | (refine CallE.own (c2) ?_) | (refine CallH.pure (c2) rfl ?_) | (refine CallH.lent (c2) rfl ?_) | (refine CallH.own (c2) ?_)
    all_goals first | apply hn | apply hr
    all_goals refine ⟨[55], by simp, by simp, ?_⟩
    all_goals simp [Try.f51, outR, outB, renB, gaN, lv, ouN, kpI, kpR, pos, ren, ren0, renC, renCs, renF, renFs]
  · have h5 : w.kd = 14 := Decidable.byContradiction fun h6 => h4 (h3.2 h6)
    have h1' : (c.wt = 0) = False := eq_false h1
    have h2' : (c.wt = w.xi) = True := eq_true h2
    have h4' : (c.rd = 0) = False := eq_false h4
    have h5' : (w.kd = 14) = True := eq_true h5
    have b1 : (c.rd != 0) = true := by simp [h4]
    have b2 : (w.kd == 14) = true := by simp [h5]
    refine wBodyG Try.tab Try.mixed Try.func51 rfl rfl Try.ntmps51 (by simp) (by simp) fun Q hr hn hp => ?_
    repeat' first | (refine CallK_gen [1024, 1025] (c1) (by decide) (by decide) (by simp [blksOf, inN, pos, renB, renC, renCs, ren0, lv, ouN, kpI, kpR]) (by simp [argsG, argG, ren0, inN, pos, renCs, renC]) ⟨[], by simp, by simp, ?_⟩; simp [lv, ouN, kpI, kpR, pos, ren, ren0, renB, renC, renCs, renF, renFs]) | (refine wDrwI ?_; simp only [List.map_cons, List.map_nil, strip]) | (refine And.intro (by omega) (Or.inl ?_)) | (refine And.intro (by omega) ?_) | (refine hK _ ?_; clear hK) | (refine hK _ _ ?_; clear hK) | (clear hK; refine hK _ ?_; clear hK) | (clear hK; clear hK; refine hK _ ?_; clear hK) | (clear hK; clear hK; clear hK; refine hK _ ?_; clear hK) | (clear hK; clear hK; clear hK; clear hK; refine hK _ ?_; clear hK) | (refine wSeq fun K hK => ?_) | ((first | refine wReg ?_ | refine wDrwQ rfl (by kernel_rfl) ?_ | refine wDrwI ?_ | refine wDrw (by kernel_rfl) ?_); simp only [List.map_cons, List.map_nil, strip]) | ((first | refine wIs fun K hK => ?_ | refine wOs fun K hK => ?_ | refine wQs fun K hK => ?_ | refine CallK_plain ?_ | refine CallQ_plain ?_ | refine CallR_plain ?_ | refine wCond ?_); simp [h1', h2', h4', h5', b1, b2]) | (refine wIn ?_; refine And.intro (by kernel_rfl) ?_; try simp only [thenA_n]) | (first | refine wBlock ?_ | refine wScope ?_) | ((first | refine wRet ?_ | refine wExit ?_ | refine wSkip ?_); try simp) | ((first | refine wLabel ?_ | refine wOn ?_ | refine wQn ?_); try simp only [thenA_n]) | (refine CallE.pure (c2) rfl ?_) | (refine CallE.lent (c2) rfl ?_) | (refine CallF.pure (c2) rfl ?_) | (refine CallF.lent (c2) rfl ?_) | (refine CallE.own (c2) ?_) | (refine CallH.pure (c2) rfl ?_) | (refine CallH.lent (c2) rfl ?_) | (refine CallH.own (c2) ?_)
    all_goals first | apply hn | apply hr
    all_goals refine ⟨[55], by simp, by simp, ?_⟩
    all_goals simp [Try.f51, outR, outB, renB, gaN, lv, ouN, kpI, kpR, pos, ren, ren0, renC, renCs, renF, renFs]
/- Clients: made, connected, asked, read, lost. -/
def newC (n : Int) : Cl := if 0 ≤ n ∧ n < 4 then ⟨n, -1, 0, 0, 0, 0, (n + 1) * 1048576, 0, 0, []⟩ else ⟨0, 0, 0, 0, 0, 0, 0, 0, 0, []⟩
def newE (n : Int) : Int := if 0 ≤ n ∧ n < 4 then 0 else 1
theorem newC_con (n : Int) : ACon Try.prog 7 [.p (I n)] (.tup [.p (.agg (newC n).cells), .p (I (newE n))]) := by
  unfold newC newE
  by_cases h1 : n < 0
  · rw [if_neg (by omega), if_neg (by omega)]
    unfold Cl.cells
    refine wBody Try.tab Try.mixed Try.func7 rfl rfl Try.ntmps7 (by simp) (by simp) fun Q hr hn => ?_
    repeat' first | (refine hK _ ?_; clear hK) | (refine hK _ _ ?_; clear hK) | (clear hK; refine hK _ ?_; clear hK) | (clear hK; clear hK; refine hK _ ?_; clear hK) | (clear hK; clear hK; clear hK; refine hK _ ?_; clear hK) | (clear hK; clear hK; clear hK; clear hK; refine hK _ ?_; clear hK) | (refine wSeq fun K hK => ?_) | ((first | refine wReg ?_ | refine wDrwQ rfl (by kernel_rfl) ?_ | refine wDrwI ?_ | refine wDrw (by kernel_rfl) ?_); simp only [List.map_cons, List.map_nil, strip]) | ((first | refine wIs fun K hK => ?_ | refine wOs fun K hK => ?_ | refine wQs fun K hK => ?_ | refine CallK_plain ?_ | refine CallQ_plain ?_ | refine CallR_plain ?_ | refine wCond ?_); simp [h1]) | (refine wIn ?_; refine And.intro (by kernel_rfl) ?_; try simp only [thenA_n]) | (first | refine wBlock ?_ | refine wScope ?_) | ((first | refine wRet ?_ | refine wExit ?_ | refine wSkip ?_); try simp) | ((first | refine wLabel ?_ | refine wOn ?_ | refine wQn ?_); try simp only [thenA_n])
    all_goals first | apply hn | apply hr
    all_goals simp [Try.f7, nts]
  by_cases h2 : 4 ≤ n
  · rw [if_neg (by omega), if_neg (by omega)]
    unfold Cl.cells
    refine wBody Try.tab Try.mixed Try.func7 rfl rfl Try.ntmps7 (by simp) (by simp) fun Q hr hn => ?_
    repeat' first | (refine hK _ ?_; clear hK) | (refine hK _ _ ?_; clear hK) | (clear hK; refine hK _ ?_; clear hK) | (clear hK; clear hK; refine hK _ ?_; clear hK) | (clear hK; clear hK; clear hK; refine hK _ ?_; clear hK) | (clear hK; clear hK; clear hK; clear hK; refine hK _ ?_; clear hK) | (refine wSeq fun K hK => ?_) | ((first | refine wReg ?_ | refine wDrwQ rfl (by kernel_rfl) ?_ | refine wDrwI ?_ | refine wDrw (by kernel_rfl) ?_); simp only [List.map_cons, List.map_nil, strip]) | ((first | refine wIs fun K hK => ?_ | refine wOs fun K hK => ?_ | refine wQs fun K hK => ?_ | refine CallK_plain ?_ | refine CallQ_plain ?_ | refine CallR_plain ?_ | refine wCond ?_); simp [h1, h2]) | (refine wIn ?_; refine And.intro (by kernel_rfl) ?_; try simp only [thenA_n]) | (first | refine wBlock ?_ | refine wScope ?_) | ((first | refine wRet ?_ | refine wExit ?_ | refine wSkip ?_); try simp) | ((first | refine wLabel ?_ | refine wOn ?_ | refine wQn ?_); try simp only [thenA_n])
    all_goals first | apply hn | apply hr
    all_goals simp [Try.f7, nts]
  rw [if_pos (by omega), if_pos (by omega)]
  unfold Cl.cells
  have w1 : IntKind.i64.wrap (n + 1) = n + 1 := by rw [wrap_id] <;> omega
  have w2 : IntKind.i64.wrap ((n + 1) * 1048576) = (n + 1) * 1048576 := by rw [wrap_id] <;> omega
  refine wBody Try.tab Try.mixed Try.func7 rfl rfl Try.ntmps7 (by simp) (by simp) fun Q hr hn => ?_
  repeat' first | (refine hK _ ?_; clear hK) | (refine hK _ _ ?_; clear hK) | (clear hK; refine hK _ ?_; clear hK) | (clear hK; clear hK; refine hK _ ?_; clear hK) | (clear hK; clear hK; clear hK; refine hK _ ?_; clear hK) | (clear hK; clear hK; clear hK; clear hK; refine hK _ ?_; clear hK) | (refine wSeq fun K hK => ?_) | ((first | refine wReg ?_ | refine wDrwQ rfl (by kernel_rfl) ?_ | refine wDrwI ?_ | refine wDrw (by kernel_rfl) ?_); simp only [List.map_cons, List.map_nil, strip]) | ((first | refine wIs fun K hK => ?_ | refine wOs fun K hK => ?_ | refine wQs fun K hK => ?_ | refine CallK_plain ?_ | refine CallQ_plain ?_ | refine CallR_plain ?_ | refine wCond ?_); simp [h1, h2, w1, w2]) | (refine wIn ?_; refine And.intro (by kernel_rfl) ?_; try simp only [thenA_n]) | (first | refine wBlock ?_ | refine wScope ?_) | ((first | refine wRet ?_ | refine wExit ?_ | refine wSkip ?_); try simp) | ((first | refine wLabel ?_ | refine wOn ?_ | refine wQn ?_); try simp only [thenA_n])
  all_goals first | apply hn | apply hr
  all_goals simp [Try.f7, nts, w1, w2]
theorem word1_con (c : Cl) (k : Int) (rs : List (List PV)) : Con Try.prog 31 [.ptr 1024 0, .p (I k)] [.box 78 (hBx c (.row 1025) (.row 1026)), .row 45 6 (nts c.nt), .row 59 36 rs] (.ret (.p (.agg (wdZ c.id c.sv k).cells)) [] [.box 78 (hBx c (.row 1025) (.row 1026)), .row 45 6 (nts c.nt), .row 59 36 rs]) := by
  unfold hBx wdZ Wd.cells Rq.zero Nt.zero
  dsimp only
  refine wBodyG Try.tab Try.mixed Try.func31 rfl rfl Try.ntmps31 (by simp) (by simp) fun Q hr hn hp => ?_
  repeat' first | (refine hK _ ?_; clear hK) | (refine hK _ _ ?_; clear hK) | (clear hK; refine hK _ ?_; clear hK) | (clear hK; clear hK; refine hK _ ?_; clear hK) | (clear hK; clear hK; clear hK; refine hK _ ?_; clear hK) | (clear hK; clear hK; clear hK; clear hK; refine hK _ ?_; clear hK) | (refine wSeq fun K hK => ?_) | ((first | refine wReg ?_ | refine wDrwQ rfl (by kernel_rfl) ?_ | refine wDrwI ?_ | refine wDrw (by kernel_rfl) ?_); simp only [List.map_cons, List.map_nil, strip]) | ((first | refine wIs fun K hK => ?_ | refine wOs fun K hK => ?_ | refine wQs fun K hK => ?_ | refine CallK_plain ?_ | refine CallQ_plain ?_ | refine CallR_plain ?_ | refine wCond ?_); simp) | (refine wIn ?_; refine And.intro (by kernel_rfl) ?_; try simp only [thenA_n]) | (first | refine wBlock ?_ | refine wScope ?_) | ((first | refine wRet ?_ | refine wExit ?_ | refine wSkip ?_); try simp) | ((first | refine wLabel ?_ | refine wOn ?_ | refine wQn ?_); try simp only [thenA_n])
  all_goals apply hr
  all_goals refine ⟨[], by simp, by simp, ?_⟩
  all_goals simp [Try.f31, outR, outB, renB, gaN, show ByteArray.empty = bs [] from rfl]
def rsE (c : Cl) : List (List PV) := if c.wt = 0 then [] else [rsC c.id c.wt true (wdZ 0 0 0)]
def lostC (c : Cl) : Cl := endC { c with ph := 0 }
set_option maxHeartbeats 1000000 in
theorem lost_con (c : Cl) (hn : c.nt.length ≤ 1000000) : ACon Try.prog 20 [.p (.agg c.cells)] (.tup [.p (.agg (lostC c).cells), .p (.sl 36 (rsE c))]) := by
  have c1 := hearing_con c hn
  unfold lostC rsE
  by_cases h : c.wt = 0
  · rw [if_pos h]
    have c2 := end0_con { c with ph := 0 } h
    unfold endC at *
    unfold hW hBx at *
    unfold Cl.cells at *
    dsimp only at *
    refine wBody Try.tab Try.mixed Try.func20 rfl rfl Try.ntmps20 (by simp) (by simp) fun Q hr hn => ?_
    repeat' first | (refine CallK_gen [] (c1) (by decide) (by decide) (by simp [blksOf]) (by simp [argsG, argG, ren0, inN, pos, renCs, renC, toP, toPF]) ⟨[500, 501], by simp, by simp, ?_⟩; simp [lv, ouN, kpI, kpR, pos, ren, ren0, renB, renC, renCs, renF, renFs]) | (refine CallK_gen [500, 501] (c2) (by decide) (by decide) (by simp [blksOf, inN, pos, renB, renC, renCs, ren0, lv, ouN, kpI, kpR]) (by simp [argsG, argG, ren0, inN, pos, renCs, renC]) ⟨[], by simp, by simp, ?_⟩; simp [lv, ouN, kpI, kpR, pos, ren, ren0, renB, renC, renCs, renF, renFs]) | (refine hK _ ?_; clear hK) | (refine hK _ _ ?_; clear hK) | (clear hK; refine hK _ ?_; clear hK) | (clear hK; clear hK; refine hK _ ?_; clear hK) | (clear hK; clear hK; clear hK; refine hK _ ?_; clear hK) | (clear hK; clear hK; clear hK; clear hK; refine hK _ ?_; clear hK) | (refine wSeq fun K hK => ?_) | ((first | refine wReg ?_ | refine wDrwQ rfl (by kernel_rfl) ?_ | refine wDrwI ?_ | refine wDrw (by kernel_rfl) ?_); simp only [List.map_cons, List.map_nil, strip]) | ((first | refine wIs fun K hK => ?_ | refine wOs fun K hK => ?_ | refine wQs fun K hK => ?_ | refine CallK_plain ?_ | refine CallQ_plain ?_ | refine CallR_plain ?_ | refine wCond ?_); simp [lv, ouN, kpI, kpR, pos, ren, ren0, renB, renC, renCs, renF, renFs]) | (refine wIn ?_; refine And.intro (by kernel_rfl) ?_; try simp only [thenA_n]) | (first | refine wBlock ?_ | refine wScope ?_) | ((first | refine wRet ?_ | refine wExit ?_ | refine wSkip ?_); try simp) | ((first | refine wLabel ?_ | refine wOn ?_ | refine wQn ?_); try simp only [thenA_n])
    all_goals first | apply hn | apply hr
    all_goals simp [Try.f20, lv, ouN, kpI, kpR, pos, ren, ren0, renB, renC, renCs, renF, renFs]
  · rw [if_neg h]
    have c2 := end1_con { c with ph := 0 } h
    dsimp only at c2
    generalize rsC c.id c.wt true (wdZ 0 0 0) = rs at *
    unfold endC at *
    unfold hW hW1 hBx at *
    unfold Cl.cells at *
    dsimp only at *
    refine wBody Try.tab Try.mixed Try.func20 rfl rfl Try.ntmps20 (by simp) (by simp) fun Q hr hn => ?_
    repeat' first | (refine CallK_gen [] (c1) (by decide) (by decide) (by simp [blksOf]) (by simp [argsG, argG, ren0, inN, pos, renCs, renC, toP, toPF]) ⟨[500, 501], by simp, by simp, ?_⟩; simp [lv, ouN, kpI, kpR, pos, ren, ren0, renB, renC, renCs, renF, renFs]) | (refine CallK_gen [500, 501] (c2) (by decide) (by decide) (by simp [blksOf, inN, pos, renB, renC, renCs, ren0, lv, ouN, kpI, kpR]) (by simp [argsG, argG, ren0, inN, pos, renCs, renC]) ⟨[502], by simp, by simp, ?_⟩; simp [lv, ouN, kpI, kpR, pos, ren, ren0, renB, renC, renCs, renF, renFs]) | (refine hK _ ?_; clear hK) | (refine hK _ _ ?_; clear hK) | (clear hK; refine hK _ ?_; clear hK) | (clear hK; clear hK; refine hK _ ?_; clear hK) | (clear hK; clear hK; clear hK; refine hK _ ?_; clear hK) | (clear hK; clear hK; clear hK; clear hK; refine hK _ ?_; clear hK) | (refine wSeq fun K hK => ?_) | ((first | refine wReg ?_ | refine wDrwQ rfl (by kernel_rfl) ?_ | refine wDrwI ?_ | refine wDrw (by kernel_rfl) ?_); simp only [List.map_cons, List.map_nil, strip]) | ((first | refine wIs fun K hK => ?_ | refine wOs fun K hK => ?_ | refine wQs fun K hK => ?_ | refine CallK_plain ?_ | refine CallQ_plain ?_ | refine CallR_plain ?_ | refine wCond ?_); simp [lv, ouN, kpI, kpR, pos, ren, ren0, renB, renC, renCs, renF, renFs]) | (refine wIn ?_; refine And.intro (by kernel_rfl) ?_; try simp only [thenA_n]) | (first | refine wBlock ?_ | refine wScope ?_) | ((first | refine wRet ?_ | refine wExit ?_ | refine wSkip ?_); try simp) | ((first | refine wLabel ?_ | refine wOn ?_ | refine wQn ?_); try simp only [thenA_n])
    all_goals first | apply hn | apply hr
    all_goals simp [Try.f20, lv, ouN, kpI, kpR, pos, ren, ren0, renB, renC, renCs, renF, renFs]
/- Clients: made, connected, asked, read, lost. -/
def conC (c : Cl) (v : Int) : Cl := { endC c with sv := v, ph := 1, xi := c.xi + 1 }
def conW (c : Cl) (v : Int) : Wd := { wdZ c.id v 1 with xi := c.xi + 1, ss := c.ss, ae := c.se, an := c.sn }
set_option maxHeartbeats 2000000 in
theorem connect_con (c : Cl) (v : Int) (hn : c.nt.length ≤ 1000000) (hx : c.xi ≤ 1000000000 ∧ 0 ≤ c.xi) : ACon Try.prog 15 [.p (.agg c.cells), .p (I v)] (.tup [.p (.agg (conC c v).cells), .p (.sl 33 [(conW c v).cells]), .p (.sl 36 (rsE c))]) := by
  have c1 := hearing_con c hn
  have hw : IntKind.i64.wrap (c.xi + 1) = c.xi + 1 := by rw [wrap_id] <;> omega
  unfold rsE
  by_cases h : c.wt = 0
  · rw [if_pos h]
    have c2 := end0_con c h
    have c3 := word_con (conC c v) 1
    unfold conC conW endC wdZ Wd.cells Rq.zero Nt.zero at *
    unfold hW hBx at *
    unfold Cl.cells at *
    dsimp only at *
    refine wBody Try.tab Try.mixed Try.func15 rfl rfl Try.ntmps15 (by simp) (by simp) fun Q hr hn => ?_
    repeat' first | (refine CallK_gen [] (c1) (by decide) (by decide) (by simp [blksOf]) (by simp [argsG, argG, ren0, inN, pos, renCs, renC, toP, toPF]) ⟨[500, 501], by simp, by simp, ?_⟩; simp [lv, ouN, kpI, kpR, pos, ren, ren0, renB, renC, renCs, renF, renFs]) | (refine CallK_gen [500, 501] (c2) (by decide) (by decide) (by simp [blksOf, inN, pos, renB, renC, renCs, ren0, lv, ouN, kpI, kpR]) (by simp [argsG, argG, ren0, inN, pos, renCs, renC]) ⟨[], by simp, by simp, ?_⟩; simp [lv, ouN, kpI, kpR, pos, ren, ren0, renB, renC, renCs, renF, renFs]) | (refine CallK_gen [500, 501] (c3) (by decide) (by decide) (by simp [blksOf, inN, pos, renB, renC, renCs, ren0, lv, ouN, kpI, kpR]) (by simp [argsG, argG, ren0, inN, pos, renCs, renC]) ⟨[], by simp, by simp, ?_⟩; simp [lv, ouN, kpI, kpR, pos, ren, ren0, renB, renC, renCs, renF, renFs]) | (refine hK _ ?_; clear hK) | (refine hK _ _ ?_; clear hK) | (clear hK; refine hK _ ?_; clear hK) | (clear hK; clear hK; refine hK _ ?_; clear hK) | (clear hK; clear hK; clear hK; refine hK _ ?_; clear hK) | (clear hK; clear hK; clear hK; clear hK; refine hK _ ?_; clear hK) | (refine wSeq fun K hK => ?_) | ((first | refine wReg ?_ | refine wDrwQ rfl (by kernel_rfl) ?_ | refine wDrwI ?_ | refine wDrw (by kernel_rfl) ?_); simp only [List.map_cons, List.map_nil, strip]) | ((first | refine wIs fun K hK => ?_ | refine wOs fun K hK => ?_ | refine wQs fun K hK => ?_ | refine CallK_plain ?_ | refine CallQ_plain ?_ | refine CallR_plain ?_ | refine wCond ?_); simp [lv, ouN, kpI, kpR, pos, ren, ren0, renB, renC, renCs, renF, renFs, hw]) | (refine wIn ?_; refine And.intro (by kernel_rfl) ?_; try simp only [thenA_n]) | (first | refine wBlock ?_ | refine wScope ?_) | ((first | refine wRet ?_ | refine wExit ?_ | refine wSkip ?_); try simp) | ((first | refine wLabel ?_ | refine wOn ?_ | refine wQn ?_); try simp only [thenA_n])
    all_goals first | apply hn | apply hr
    all_goals simp [Try.f15, lv, ouN, kpI, kpR, pos, ren, ren0, renB, renC, renCs, renF, renFs, hw]
  · rw [if_neg h]
    have c2 := end1_con c h
    have c3 := word1_con (conC c v) 1 [rsC c.id c.wt true (wdZ 0 0 0)]
    generalize rsC c.id c.wt true (wdZ 0 0 0) = rs at *
    unfold conC conW endC wdZ Wd.cells Rq.zero Nt.zero at *
    unfold hW hW1 hBx at *
    unfold Cl.cells at *
    dsimp only at *
    refine wBody Try.tab Try.mixed Try.func15 rfl rfl Try.ntmps15 (by simp) (by simp) fun Q hr hn => ?_
    repeat' first | (refine CallK_gen [] (c1) (by decide) (by decide) (by simp [blksOf]) (by simp [argsG, argG, ren0, inN, pos, renCs, renC, toP, toPF]) ⟨[500, 501], by simp, by simp, ?_⟩; simp [lv, ouN, kpI, kpR, pos, ren, ren0, renB, renC, renCs, renF, renFs]) | (refine CallK_gen [500, 501] (c2) (by decide) (by decide) (by simp [blksOf, inN, pos, renB, renC, renCs, ren0, lv, ouN, kpI, kpR]) (by simp [argsG, argG, ren0, inN, pos, renCs, renC]) ⟨[502], by simp, by simp, ?_⟩; simp [lv, ouN, kpI, kpR, pos, ren, ren0, renB, renC, renCs, renF, renFs]) | (refine CallK_gen [500, 501, 502] (c3) (by decide) (by decide) (by simp [blksOf, inN, pos, renB, renC, renCs, ren0, lv, ouN, kpI, kpR]) (by simp [argsG, argG, ren0, inN, pos, renCs, renC]) ⟨[], by simp, by simp, ?_⟩; simp [lv, ouN, kpI, kpR, pos, ren, ren0, renB, renC, renCs, renF, renFs]) | (refine hK _ ?_; clear hK) | (refine hK _ _ ?_; clear hK) | (clear hK; refine hK _ ?_; clear hK) | (clear hK; clear hK; refine hK _ ?_; clear hK) | (clear hK; clear hK; clear hK; refine hK _ ?_; clear hK) | (clear hK; clear hK; clear hK; clear hK; refine hK _ ?_; clear hK) | (refine wSeq fun K hK => ?_) | ((first | refine wReg ?_ | refine wDrwQ rfl (by kernel_rfl) ?_ | refine wDrwI ?_ | refine wDrw (by kernel_rfl) ?_); simp only [List.map_cons, List.map_nil, strip]) | ((first | refine wIs fun K hK => ?_ | refine wOs fun K hK => ?_ | refine wQs fun K hK => ?_ | refine CallK_plain ?_ | refine CallQ_plain ?_ | refine CallR_plain ?_ | refine wCond ?_); simp [lv, ouN, kpI, kpR, pos, ren, ren0, renB, renC, renCs, renF, renFs, hw]) | (refine wIn ?_; refine And.intro (by kernel_rfl) ?_; try simp only [thenA_n]) | (first | refine wBlock ?_ | refine wScope ?_) | ((first | refine wRet ?_ | refine wExit ?_ | refine wSkip ?_); try simp) | ((first | refine wLabel ?_ | refine wOn ?_ | refine wQn ?_); try simp only [thenA_n])
    all_goals first | apply hn | apply hr
    all_goals simp [Try.f15, lv, ouN, kpI, kpR, pos, ren, ren0, renB, renC, renCs, renF, renFs, hw]
/- Clients: made, connected, asked, read, lost. -/
/-- What is asked. -/
def askW (c : Cl) (r : Rq) : Wd := { wdZ c.id c.sv 2 with r := { r with s := c.ss, x := c.xi + 1 } }
def askL (c : Cl) (r : Rq) : List (List PV) := if waitE c = 0 then [(askW c r).cells] else []
set_option maxHeartbeats 2000000 in
theorem ask_con (c : Cl) (r : Rq) (hn : c.nt.length ≤ 1000000) (hx : c.xi ≤ 1000000000 ∧ 0 ≤ c.xi) (hr0 : OkR r) : ACon Try.prog 18 [.p (.agg c.cells), .p (.agg r.cells)] (.tup [.p (.agg (waitC c 0).cells), .p (.sl 33 (askL c r)), .p (I (waitE c))]) := by
  have c1 := hearing_con c hn
  have c2 := wait_con c 0 hx
  have c3 := word_con (waitC c 0) 2
  have c4 := ownRq_con r hr0
  unfold askL
  by_cases h : waitE c = 0
  · unfold waitC at *
    rw [if_pos h] at *
    rw [h] at c2
    rw [h]
    unfold askW wdZ Wd.cells Rq.zero Nt.zero at *
    unfold hW hBx at *
    unfold Cl.cells Rq.cells at *
    try dsimp only at *
    clear h
    refine wBody Try.tab Try.mixed Try.func18 rfl rfl Try.ntmps18 (by simp) (by simp) fun Q hr hn => ?_
    repeat' first | (refine CallK_gen [] (c1) (by decide) (by decide) (by simp [blksOf]) (by simp [argsG, argG, ren0, inN, pos, renCs, renC, toP, toPF]) ⟨[500, 501], by simp, by simp, ?_⟩; simp [lv, ouN, kpI, kpR, pos, ren, ren0, renB, renC, renCs, renF, renFs]) | (refine CallK_gen [500, 501] (c2) (by decide) (by decide) (by simp [blksOf, inN, pos, renB, renC, renCs, ren0, lv, ouN, kpI, kpR]) (by simp [argsG, argG, ren0, inN, pos, renCs, renC]) ⟨[], by simp, by simp, ?_⟩; simp [lv, ouN, kpI, kpR, pos, ren, ren0, renB, renC, renCs, renF, renFs]) | (refine CallK_gen [500, 501] (c3) (by decide) (by decide) (by simp [blksOf, inN, pos, renB, renC, renCs, ren0, lv, ouN, kpI, kpR]) (by simp [argsG, argG, ren0, inN, pos, renCs, renC]) ⟨[], by simp, by simp, ?_⟩; simp [lv, ouN, kpI, kpR, pos, ren, ren0, renB, renC, renCs, renF, renFs]) | (refine hK _ ?_; clear hK) | (refine hK _ _ ?_; clear hK) | (clear hK; refine hK _ ?_; clear hK) | (clear hK; clear hK; refine hK _ ?_; clear hK) | (clear hK; clear hK; clear hK; refine hK _ ?_; clear hK) | (clear hK; clear hK; clear hK; clear hK; refine hK _ ?_; clear hK) | (refine wSeq fun K hK => ?_) | ((first | refine wReg ?_ | refine wDrwQ rfl (by kernel_rfl) ?_ | refine wDrwI ?_ | refine wDrw (by kernel_rfl) ?_); simp only [List.map_cons, List.map_nil, strip]) | ((first | refine wIs fun K hK => ?_ | refine wOs fun K hK => ?_ | refine wQs fun K hK => ?_ | refine CallK_plain ?_ | refine CallQ_plain ?_ | refine CallR_plain ?_ | refine wCond ?_); simp [lv, ouN, kpI, kpR, pos, ren, ren0, renB, renC, renCs, renF, renFs]) | (refine wIn ?_; refine And.intro (by kernel_rfl) ?_; try simp only [thenA_n]) | (first | refine wBlock ?_ | refine wScope ?_) | ((first | refine wRet ?_ | refine wExit ?_ | refine wSkip ?_); try simp) | ((first | refine wLabel ?_ | refine wOn ?_ | refine wQn ?_); try simp only [thenA_n]) | (refine CallE.pure (c4) rfl ?_) | (refine CallE.lent (c4) rfl ?_) | (refine CallF.pure (c4) rfl ?_) | (refine CallF.lent (c4) rfl ?_) | (refine CallE.own (c4) ?_) | (refine CallH.pure (c4) rfl ?_) | (refine CallH.lent (c4) rfl ?_) | (refine CallH.own (c4) ?_)
    all_goals first | apply hn | apply hr
    all_goals simp [Try.f18, lv, ouN, kpI, kpR, pos, ren, ren0, renB, renC, renCs, renF, renFs]
  · unfold waitC at *
    rw [if_neg h] at *
    generalize waitE c = e at *
    unfold hW hBx at *
    unfold Cl.cells Rq.cells at *
    try dsimp only at *
    refine wBody Try.tab Try.mixed Try.func18 rfl rfl Try.ntmps18 (by simp) (by simp) fun Q hr hn => ?_
    repeat' first | (refine CallK_gen [] (c1) (by decide) (by decide) (by simp [blksOf]) (by simp [argsG, argG, ren0, inN, pos, renCs, renC, toP, toPF]) ⟨[500, 501], by simp, by simp, ?_⟩; simp [lv, ouN, kpI, kpR, pos, ren, ren0, renB, renC, renCs, renF, renFs]) | (refine CallK_gen [500, 501] (c2) (by decide) (by decide) (by simp [blksOf, inN, pos, renB, renC, renCs, ren0, lv, ouN, kpI, kpR]) (by simp [argsG, argG, ren0, inN, pos, renCs, renC]) ⟨[], by simp, by simp, ?_⟩; simp [lv, ouN, kpI, kpR, pos, ren, ren0, renB, renC, renCs, renF, renFs]) | (refine hK _ ?_; clear hK) | (refine hK _ _ ?_; clear hK) | (clear hK; refine hK _ ?_; clear hK) | (clear hK; clear hK; refine hK _ ?_; clear hK) | (clear hK; clear hK; clear hK; refine hK _ ?_; clear hK) | (clear hK; clear hK; clear hK; clear hK; refine hK _ ?_; clear hK) | (refine wSeq fun K hK => ?_) | ((first | refine wReg ?_ | refine wDrwQ rfl (by kernel_rfl) ?_ | refine wDrwI ?_ | refine wDrw (by kernel_rfl) ?_); simp only [List.map_cons, List.map_nil, strip]) | ((first | refine wIs fun K hK => ?_ | refine wOs fun K hK => ?_ | refine wQs fun K hK => ?_ | refine CallK_plain ?_ | refine CallQ_plain ?_ | refine CallR_plain ?_ | refine wCond ?_); simp [lv, ouN, kpI, kpR, pos, ren, ren0, renB, renC, renCs, renF, renFs, h]) | (refine wIn ?_; refine And.intro (by kernel_rfl) ?_; try simp only [thenA_n]) | (first | refine wBlock ?_ | refine wScope ?_) | ((first | refine wRet ?_ | refine wExit ?_ | refine wSkip ?_); try simp) | ((first | refine wLabel ?_ | refine wOn ?_ | refine wQn ?_); try simp only [thenA_n])
    all_goals first | apply hn | apply hr
    all_goals simp [Try.f18, lv, ouN, kpI, kpR, pos, ren, ren0, renB, renC, renCs, renF, renFs, h]
def readW (c : Cl) (k : Int) (p : List UInt8) (b : Bool) : Wd := { wdZ c.id c.sv 3 with xi := c.xi + 1, rd := k, pa := p, wa := b }
def rdE (c : Cl) (k : Int) : Int := if k = 1 ∨ k = 2 then waitE c else 1
def rdC (c : Cl) (k : Int) : Cl := if k = 1 ∨ k = 2 then waitC c k else c
def rdL (c : Cl) (k : Int) (p : List UInt8) (b : Bool) : List (List PV) := if rdE c k = 0 then [(readW c k p b).cells] else []
set_option maxHeartbeats 2000000 in
theorem readC_con (c : Cl) (k : Int) (p : List UInt8) (b : Bool) (hn : c.nt.length ≤ 1000000) (hx : c.xi ≤ 1000000000 ∧ 0 ≤ c.xi) : ACon Try.prog 19 [.p (.agg c.cells), .p (I k), .p (SB p), .p (B b)] (.tup [.p (.agg (rdC c k).cells), .p (.sl 33 (rdL c k p b)), .p (I (rdE c k))]) := by
  have c1 := hearing_con c hn
  have c2 := wait_con c k hx
  have c3 := word_con (waitC c k) 3
  unfold rdL rdE rdC
  by_cases hk : k = 1 ∨ k = 2
  · rw [if_pos hk, if_pos hk]
    have hk2 : ¬ k = 1 → k = 2 := by omega
    by_cases h : waitE c = 0
    · unfold waitC at *
      rw [if_pos h] at *
      rw [h] at c2
      rw [h]
      unfold readW wdZ Wd.cells Rq.zero Nt.zero at *
      unfold hW hBx at *
      unfold Cl.cells at *
      try dsimp only at *
      clear h
      by_cases k1 : k = 1
      · refine wBody Try.tab Try.mixed Try.func19 rfl rfl Try.ntmps19 (by simp) (by simp) fun Q hr hn => ?_
        repeat' first | (refine CallK_gen [] (c1) (by decide) (by decide) (by simp [blksOf]) (by simp [argsG, argG, ren0, inN, pos, renCs, renC, toP, toPF]) ⟨[500, 501], by simp, by simp, ?_⟩; simp [lv, ouN, kpI, kpR, pos, ren, ren0, renB, renC, renCs, renF, renFs]) | (refine CallK_gen [500, 501] (c2) (by decide) (by decide) (by simp [blksOf, inN, pos, renB, renC, renCs, ren0, lv, ouN, kpI, kpR]) (by simp [argsG, argG, ren0, inN, pos, renCs, renC]) ⟨[], by simp, by simp, ?_⟩; simp [lv, ouN, kpI, kpR, pos, ren, ren0, renB, renC, renCs, renF, renFs]) | (refine CallK_gen [500, 501] (c3) (by decide) (by decide) (by simp [blksOf, inN, pos, renB, renC, renCs, ren0, lv, ouN, kpI, kpR]) (by simp [argsG, argG, ren0, inN, pos, renCs, renC]) ⟨[], by simp, by simp, ?_⟩; simp [lv, ouN, kpI, kpR, pos, ren, ren0, renB, renC, renCs, renF, renFs]) | (refine hK _ ?_; clear hK) | (refine hK _ _ ?_; clear hK) | (clear hK; refine hK _ ?_; clear hK) | (clear hK; clear hK; refine hK _ ?_; clear hK) | (clear hK; clear hK; clear hK; refine hK _ ?_; clear hK) | (clear hK; clear hK; clear hK; clear hK; refine hK _ ?_; clear hK) | (refine wSeq fun K hK => ?_) | ((first | refine wReg ?_ | refine wDrwQ rfl (by kernel_rfl) ?_ | refine wDrwI ?_ | refine wDrw (by kernel_rfl) ?_); simp only [List.map_cons, List.map_nil, strip]) | ((first | refine wIs fun K hK => ?_ | refine wOs fun K hK => ?_ | refine wQs fun K hK => ?_ | refine CallK_plain ?_ | refine CallQ_plain ?_ | refine CallR_plain ?_ | refine wCond ?_); simp [lv, ouN, kpI, kpR, pos, ren, ren0, renB, renC, renCs, renF, renFs, eq_true k1]) | (refine wIn ?_; refine And.intro (by kernel_rfl) ?_; try simp only [thenA_n]) | (first | refine wBlock ?_ | refine wScope ?_) | ((first | refine wRet ?_ | refine wExit ?_ | refine wSkip ?_); try simp) | ((first | refine wLabel ?_ | refine wOn ?_ | refine wQn ?_); try simp only [thenA_n])
        all_goals first | apply hn | apply hr
        all_goals simp [Try.f19, lv, ouN, kpI, kpR, pos, ren, ren0, renB, renC, renCs, renF, renFs]
      · have k2 := hk2 k1
        refine wBody Try.tab Try.mixed Try.func19 rfl rfl Try.ntmps19 (by simp) (by simp) fun Q hr hn => ?_
        repeat' first | (refine CallK_gen [] (c1) (by decide) (by decide) (by simp [blksOf]) (by simp [argsG, argG, ren0, inN, pos, renCs, renC, toP, toPF]) ⟨[500, 501], by simp, by simp, ?_⟩; simp [lv, ouN, kpI, kpR, pos, ren, ren0, renB, renC, renCs, renF, renFs]) | (refine CallK_gen [500, 501] (c2) (by decide) (by decide) (by simp [blksOf, inN, pos, renB, renC, renCs, ren0, lv, ouN, kpI, kpR]) (by simp [argsG, argG, ren0, inN, pos, renCs, renC]) ⟨[], by simp, by simp, ?_⟩; simp [lv, ouN, kpI, kpR, pos, ren, ren0, renB, renC, renCs, renF, renFs]) | (refine CallK_gen [500, 501] (c3) (by decide) (by decide) (by simp [blksOf, inN, pos, renB, renC, renCs, ren0, lv, ouN, kpI, kpR]) (by simp [argsG, argG, ren0, inN, pos, renCs, renC]) ⟨[], by simp, by simp, ?_⟩; simp [lv, ouN, kpI, kpR, pos, ren, ren0, renB, renC, renCs, renF, renFs]) | (refine hK _ ?_; clear hK) | (refine hK _ _ ?_; clear hK) | (clear hK; refine hK _ ?_; clear hK) | (clear hK; clear hK; refine hK _ ?_; clear hK) | (clear hK; clear hK; clear hK; refine hK _ ?_; clear hK) | (clear hK; clear hK; clear hK; clear hK; refine hK _ ?_; clear hK) | (refine wSeq fun K hK => ?_) | ((first | refine wReg ?_ | refine wDrwQ rfl (by kernel_rfl) ?_ | refine wDrwI ?_ | refine wDrw (by kernel_rfl) ?_); simp only [List.map_cons, List.map_nil, strip]) | ((first | refine wIs fun K hK => ?_ | refine wOs fun K hK => ?_ | refine wQs fun K hK => ?_ | refine CallK_plain ?_ | refine CallQ_plain ?_ | refine CallR_plain ?_ | refine wCond ?_); simp [lv, ouN, kpI, kpR, pos, ren, ren0, renB, renC, renCs, renF, renFs, eq_false k1, eq_true k2]) | (refine wIn ?_; refine And.intro (by kernel_rfl) ?_; try simp only [thenA_n]) | (first | refine wBlock ?_ | refine wScope ?_) | ((first | refine wRet ?_ | refine wExit ?_ | refine wSkip ?_); try simp) | ((first | refine wLabel ?_ | refine wOn ?_ | refine wQn ?_); try simp only [thenA_n])
        all_goals first | apply hn | apply hr
        all_goals simp [Try.f19, lv, ouN, kpI, kpR, pos, ren, ren0, renB, renC, renCs, renF, renFs]
    · unfold waitC at *
      rw [if_neg h] at *
      generalize waitE c = e at *
      unfold hW hBx at *
      unfold Cl.cells at *
      try dsimp only at *
      by_cases k1 : k = 1
      · refine wBody Try.tab Try.mixed Try.func19 rfl rfl Try.ntmps19 (by simp) (by simp) fun Q hr hn => ?_
        repeat' first | (refine CallK_gen [] (c1) (by decide) (by decide) (by simp [blksOf]) (by simp [argsG, argG, ren0, inN, pos, renCs, renC, toP, toPF]) ⟨[500, 501], by simp, by simp, ?_⟩; simp [lv, ouN, kpI, kpR, pos, ren, ren0, renB, renC, renCs, renF, renFs]) | (refine CallK_gen [500, 501] (c2) (by decide) (by decide) (by simp [blksOf, inN, pos, renB, renC, renCs, ren0, lv, ouN, kpI, kpR]) (by simp [argsG, argG, ren0, inN, pos, renCs, renC]) ⟨[], by simp, by simp, ?_⟩; simp [lv, ouN, kpI, kpR, pos, ren, ren0, renB, renC, renCs, renF, renFs]) | (refine hK _ ?_; clear hK) | (refine hK _ _ ?_; clear hK) | (clear hK; refine hK _ ?_; clear hK) | (clear hK; clear hK; refine hK _ ?_; clear hK) | (clear hK; clear hK; clear hK; refine hK _ ?_; clear hK) | (clear hK; clear hK; clear hK; clear hK; refine hK _ ?_; clear hK) | (refine wSeq fun K hK => ?_) | ((first | refine wReg ?_ | refine wDrwQ rfl (by kernel_rfl) ?_ | refine wDrwI ?_ | refine wDrw (by kernel_rfl) ?_); simp only [List.map_cons, List.map_nil, strip]) | ((first | refine wIs fun K hK => ?_ | refine wOs fun K hK => ?_ | refine wQs fun K hK => ?_ | refine CallK_plain ?_ | refine CallQ_plain ?_ | refine CallR_plain ?_ | refine wCond ?_); simp [lv, ouN, kpI, kpR, pos, ren, ren0, renB, renC, renCs, renF, renFs, eq_true k1, h]) | (refine wIn ?_; refine And.intro (by kernel_rfl) ?_; try simp only [thenA_n]) | (first | refine wBlock ?_ | refine wScope ?_) | ((first | refine wRet ?_ | refine wExit ?_ | refine wSkip ?_); try simp) | ((first | refine wLabel ?_ | refine wOn ?_ | refine wQn ?_); try simp only [thenA_n])
        all_goals first | apply hn | apply hr
        all_goals simp [Try.f19, lv, ouN, kpI, kpR, pos, ren, ren0, renB, renC, renCs, renF, renFs, h]
      · have k2 := hk2 k1
        refine wBody Try.tab Try.mixed Try.func19 rfl rfl Try.ntmps19 (by simp) (by simp) fun Q hr hn => ?_
        repeat' first | (refine CallK_gen [] (c1) (by decide) (by decide) (by simp [blksOf]) (by simp [argsG, argG, ren0, inN, pos, renCs, renC, toP, toPF]) ⟨[500, 501], by simp, by simp, ?_⟩; simp [lv, ouN, kpI, kpR, pos, ren, ren0, renB, renC, renCs, renF, renFs]) | (refine CallK_gen [500, 501] (c2) (by decide) (by decide) (by simp [blksOf, inN, pos, renB, renC, renCs, ren0, lv, ouN, kpI, kpR]) (by simp [argsG, argG, ren0, inN, pos, renCs, renC]) ⟨[], by simp, by simp, ?_⟩; simp [lv, ouN, kpI, kpR, pos, ren, ren0, renB, renC, renCs, renF, renFs]) | (refine hK _ ?_; clear hK) | (refine hK _ _ ?_; clear hK) | (clear hK; refine hK _ ?_; clear hK) | (clear hK; clear hK; refine hK _ ?_; clear hK) | (clear hK; clear hK; clear hK; refine hK _ ?_; clear hK) | (clear hK; clear hK; clear hK; clear hK; refine hK _ ?_; clear hK) | (refine wSeq fun K hK => ?_) | ((first | refine wReg ?_ | refine wDrwQ rfl (by kernel_rfl) ?_ | refine wDrwI ?_ | refine wDrw (by kernel_rfl) ?_); simp only [List.map_cons, List.map_nil, strip]) | ((first | refine wIs fun K hK => ?_ | refine wOs fun K hK => ?_ | refine wQs fun K hK => ?_ | refine CallK_plain ?_ | refine CallQ_plain ?_ | refine CallR_plain ?_ | refine wCond ?_); simp [lv, ouN, kpI, kpR, pos, ren, ren0, renB, renC, renCs, renF, renFs, eq_false k1, eq_true k2, h]) | (refine wIn ?_; refine And.intro (by kernel_rfl) ?_; try simp only [thenA_n]) | (first | refine wBlock ?_ | refine wScope ?_) | ((first | refine wRet ?_ | refine wExit ?_ | refine wSkip ?_); try simp) | ((first | refine wLabel ?_ | refine wOn ?_ | refine wQn ?_); try simp only [thenA_n])
        all_goals first | apply hn | apply hr
        all_goals simp [Try.f19, lv, ouN, kpI, kpR, pos, ren, ren0, renB, renC, renCs, renF, renFs, h]
  · rw [if_neg hk, if_neg hk]
    have k1 : (k = 1) = False := eq_false fun h => hk (.inl h)
    have k2 : (k = 2) = False := eq_false fun h => hk (.inr h)
    unfold hW hBx at *
    unfold Cl.cells at *
    refine wBody Try.tab Try.mixed Try.func19 rfl rfl Try.ntmps19 (by simp) (by simp) fun Q hr hn => ?_
    repeat' first | (refine CallK_gen [] (c1) (by decide) (by decide) (by simp [blksOf]) (by simp [argsG, argG, ren0, inN, pos, renCs, renC, toP, toPF]) ⟨[500, 501], by simp, by simp, ?_⟩; simp [lv, ouN, kpI, kpR, pos, ren, ren0, renB, renC, renCs, renF, renFs]) | (refine hK _ ?_; clear hK) | (refine hK _ _ ?_; clear hK) | (clear hK; refine hK _ ?_; clear hK) | (clear hK; clear hK; refine hK _ ?_; clear hK) | (clear hK; clear hK; clear hK; refine hK _ ?_; clear hK) | (clear hK; clear hK; clear hK; clear hK; refine hK _ ?_; clear hK) | (refine wSeq fun K hK => ?_) | ((first | refine wReg ?_ | refine wDrwQ rfl (by kernel_rfl) ?_ | refine wDrwI ?_ | refine wDrw (by kernel_rfl) ?_); simp only [List.map_cons, List.map_nil, strip]) | ((first | refine wIs fun K hK => ?_ | refine wOs fun K hK => ?_ | refine wQs fun K hK => ?_ | refine CallK_plain ?_ | refine CallQ_plain ?_ | refine CallR_plain ?_ | refine wCond ?_); simp [lv, ouN, kpI, kpR, pos, ren, ren0, renB, renC, renCs, renF, renFs, k1, k2]) | (refine wIn ?_; refine And.intro (by kernel_rfl) ?_; try simp only [thenA_n]) | (first | refine wBlock ?_ | refine wScope ?_) | ((first | refine wRet ?_ | refine wExit ?_ | refine wSkip ?_); try simp) | ((first | refine wLabel ?_ | refine wOn ?_ | refine wQn ?_); try simp only [thenA_n])
    all_goals first | apply hn | apply hr
    all_goals simp [Try.f19, lv, ouN, kpI, kpR, pos, ren, ren0, renB, renC, renCs, renF, renFs]
def beatL (c : Cl) : List (List PV) := if c.ph = 2 then [(wdZ c.id c.sv 4).cells] else []
set_option maxHeartbeats 1000000 in
theorem beat_con (c : Cl) (hn : c.nt.length ≤ 1000000) : ACon Try.prog 21 [.p (.agg c.cells)] (.p (.sl 33 (beatL c))) := by
  have c1 := hearing_con c hn
  have c3 := word_con c 4
  unfold beatL
  by_cases h : c.ph = 2
  · rw [if_pos h]
    generalize wdZ c.id c.sv 4 = w at *
    unfold Wd.cells at *
    unfold hW hBx at *
    unfold Cl.cells at *
    refine wBody Try.tab Try.mixed Try.func21 rfl rfl Try.ntmps21 (by simp) (by simp) fun Q hr hn => ?_
    repeat' first | (refine CallK_gen [] (c1) (by decide) (by decide) (by simp [blksOf]) (by simp [argsG, argG, ren0, inN, pos, renCs, renC, toP, toPF]) ⟨[500, 501], by simp, by simp, ?_⟩; simp [lv, ouN, kpI, kpR, pos, ren, ren0, renB, renC, renCs, renF, renFs]) | (refine CallK_gen [500, 501] (c3) (by decide) (by decide) (by simp [blksOf, inN, pos, renB, renC, renCs, ren0, lv, ouN, kpI, kpR]) (by simp [argsG, argG, ren0, inN, pos, renCs, renC]) ⟨[], by simp, by simp, ?_⟩; simp [lv, ouN, kpI, kpR, pos, ren, ren0, renB, renC, renCs, renF, renFs]) | (refine hK _ ?_; clear hK) | (refine hK _ _ ?_; clear hK) | (clear hK; refine hK _ ?_; clear hK) | (clear hK; clear hK; refine hK _ ?_; clear hK) | (clear hK; clear hK; clear hK; refine hK _ ?_; clear hK) | (clear hK; clear hK; clear hK; clear hK; refine hK _ ?_; clear hK) | (refine wSeq fun K hK => ?_) | ((first | refine wReg ?_ | refine wDrwQ rfl (by kernel_rfl) ?_ | refine wDrwI ?_ | refine wDrw (by kernel_rfl) ?_); simp only [List.map_cons, List.map_nil, strip]) | ((first | refine wIs fun K hK => ?_ | refine wOs fun K hK => ?_ | refine wQs fun K hK => ?_ | refine CallK_plain ?_ | refine CallQ_plain ?_ | refine CallR_plain ?_ | refine wCond ?_); simp [lv, ouN, kpI, kpR, pos, ren, ren0, renB, renC, renCs, renF, renFs, eq_true h]) | (refine wIn ?_; refine And.intro (by kernel_rfl) ?_; try simp only [thenA_n]) | (first | refine wBlock ?_ | refine wScope ?_) | ((first | refine wRet ?_ | refine wExit ?_ | refine wSkip ?_); try simp) | ((first | refine wLabel ?_ | refine wOn ?_ | refine wQn ?_); try simp only [thenA_n])
    all_goals first | apply hn | apply hr
    all_goals simp [Try.f21, lv, ouN, kpI, kpR, pos, ren, ren0, renB, renC, renCs, renF, renFs]
  · rw [if_neg h]
    unfold Cl.cells at *
    refine wBody Try.tab Try.mixed Try.func21 rfl rfl Try.ntmps21 (by simp) (by simp) fun Q hr hn => ?_
    repeat' first | (refine hK _ ?_; clear hK) | (refine hK _ _ ?_; clear hK) | (clear hK; refine hK _ ?_; clear hK) | (clear hK; clear hK; refine hK _ ?_; clear hK) | (clear hK; clear hK; clear hK; refine hK _ ?_; clear hK) | (clear hK; clear hK; clear hK; clear hK; refine hK _ ?_; clear hK) | (refine wSeq fun K hK => ?_) | ((first | refine wReg ?_ | refine wDrwQ rfl (by kernel_rfl) ?_ | refine wDrwI ?_ | refine wDrw (by kernel_rfl) ?_); simp only [List.map_cons, List.map_nil, strip]) | ((first | refine wIs fun K hK => ?_ | refine wOs fun K hK => ?_ | refine wQs fun K hK => ?_ | refine CallK_plain ?_ | refine CallQ_plain ?_ | refine CallR_plain ?_ | refine wCond ?_); simp [eq_false h]) | (refine wIn ?_; refine And.intro (by kernel_rfl) ?_; try simp only [thenA_n]) | (first | refine wBlock ?_ | refine wScope ?_) | ((first | refine wRet ?_ | refine wExit ?_ | refine wSkip ?_); try simp) | ((first | refine wLabel ?_ | refine wOn ?_ | refine wQn ?_); try simp only [thenA_n])
    all_goals first | apply hn | apply hr
    all_goals simp [Try.f21]
/- Clients: a word heard. -/
def forC (c : Cl) (w : Wd) : Prop := w.cl = c.id ∧ w.sv = c.sv ∧ ¬ c.ph = 0
instance (c : Cl) (w : Wd) : Decidable (forC c w) := by unfold forC; infer_instance
set_option maxHeartbeats 2000000 in
theorem hear0_con (c c' : Cl) (w : Wd) (F : FuncId) (hn : c.nt.length ≤ 1000000) (hf : forC c w) (hF : hearsF w.kd = F) (c3 : Con Try.prog F [.ptr 1024 0, .p (.agg w.cells)] (hW c) (.ret (.tup []) [] (hW c'))) : ACon Try.prog 16 [.p (.agg c.cells), .p (.agg w.cells)] (.tup [.p (.agg c'.cells), .p (.sl 36 [])]) := by
  have c1 := hearing_con c hn
  have c2 := hears_con w.kd
  rw [hF] at c2
  obtain ⟨f1, f2, f3⟩ := hf
  have f1' : (w.cl = c.id) = True := eq_true f1
  have f2' : (w.sv = c.sv) = True := eq_true f2
  have f3' : (c.ph = 0) = False := eq_false f3
  clear f1 f2 f3
  unfold hW hBx at *
  unfold Cl.cells Wd.cells at *
  refine wBody Try.tab Try.mixed Try.func16 rfl rfl Try.ntmps16 (by simp) (by simp) fun Q hr hn => ?_
  repeat' first | (refine CallK_gen [] (c1) (by decide) (by decide) (by simp [blksOf]) (by simp [argsG, argG, ren0, inN, pos, renCs, renC, toP, toPF]) ⟨[500, 501], by simp, by simp, ?_⟩; simp [lv, ouN, kpI, kpR, pos, ren, ren0, renB, renC, renCs, renF, renFs]) | (refine wDrwT (id := 3) 5 (by kernel_rfl) ?_; simp only [List.map_cons, List.map_nil, strip, List.take_succ_cons, List.take_zero, List.drop_succ_cons, List.drop_zero]) | (refine CallQ_opq [500] c2 (by decide) (by simp [argsG, argG, ren0, inN, pos, renCs, renC]) ?_; simp [lv, ouN, kpI, kpR, pos, ren, ren0, renB, renC, renCs, renF, renFs]) | (refine CallK_gen [500, 501] (c3) (by decide) (by decide) (by simp [blksOf, inN, pos, renB, renC, renCs, ren0, lv, ouN, kpI, kpR]) (by simp [argsG, argG, ren0, inN, pos, renCs, renC]) ⟨[], by simp, by simp, ?_⟩; simp [lv, ouN, kpI, kpR, pos, ren, ren0, renB, renC, renCs, renF, renFs]) | (refine hK _ ?_; clear hK) | (refine hK _ _ ?_; clear hK) | (clear hK; refine hK _ ?_; clear hK) | (clear hK; clear hK; refine hK _ ?_; clear hK) | (clear hK; clear hK; clear hK; refine hK _ ?_; clear hK) | (clear hK; clear hK; clear hK; clear hK; refine hK _ ?_; clear hK) | (refine wSeq fun K hK => ?_) | ((first | refine wReg ?_ | refine wDrwQ rfl (by kernel_rfl) ?_ | refine wDrwI ?_ | refine wDrw (by kernel_rfl) ?_); simp only [List.map_cons, List.map_nil, strip]) | ((first | refine wIs fun K hK => ?_ | refine wOs fun K hK => ?_ | refine wQs fun K hK => ?_ | refine CallK_plain ?_ | refine CallQ_plain ?_ | refine CallR_plain ?_ | refine wCond ?_); simp [lv, ouN, kpI, kpR, pos, ren, ren0, renB, renC, renCs, renF, renFs, f1', f2', f3']) | (refine wIn ?_; refine And.intro (by kernel_rfl) ?_; try simp only [thenA_n]) | (first | refine wBlock ?_ | refine wScope ?_) | ((first | refine wRet ?_ | refine wExit ?_ | refine wSkip ?_); try simp) | ((first | refine wLabel ?_ | refine wOn ?_ | refine wQn ?_); try simp only [thenA_n])
  all_goals first | apply hn | apply hr
  all_goals simp [Try.f16, lv, ouN, kpI, kpR, pos, ren, ren0, renB, renC, renCs, renF, renFs]
set_option maxHeartbeats 2000000 in
theorem hear1_con (c c' : Cl) (w : Wd) (F : FuncId) (rs : List (List PV)) (hn : c.nt.length ≤ 1000000) (hf : forC c w) (hF : hearsF w.kd = F) (c3 : Con Try.prog F [.ptr 1024 0, .p (.agg w.cells)] (hW c) (.ret (.tup []) [.row 59 36 rs] (hW1 c'))) : ACon Try.prog 16 [.p (.agg c.cells), .p (.agg w.cells)] (.tup [.p (.agg c'.cells), .p (.sl 36 rs)]) := by
  have c1 := hearing_con c hn
  have c2 := hears_con w.kd
  rw [hF] at c2
  obtain ⟨f1, f2, f3⟩ := hf
  have f1' : (w.cl = c.id) = True := eq_true f1
  have f2' : (w.sv = c.sv) = True := eq_true f2
  have f3' : (c.ph = 0) = False := eq_false f3
  clear f1 f2 f3
  unfold hW hW1 hBx at *
  unfold Cl.cells Wd.cells at *
  refine wBody Try.tab Try.mixed Try.func16 rfl rfl Try.ntmps16 (by simp) (by simp) fun Q hr hn => ?_
  repeat' first | (refine CallK_gen [] (c1) (by decide) (by decide) (by simp [blksOf]) (by simp [argsG, argG, ren0, inN, pos, renCs, renC, toP, toPF]) ⟨[500, 501], by simp, by simp, ?_⟩; simp [lv, ouN, kpI, kpR, pos, ren, ren0, renB, renC, renCs, renF, renFs]) | (refine wDrwT (id := 3) 5 (by kernel_rfl) ?_; simp only [List.map_cons, List.map_nil, strip, List.take_succ_cons, List.take_zero, List.drop_succ_cons, List.drop_zero]) | (refine CallQ_opq [500] c2 (by decide) (by simp [argsG, argG, ren0, inN, pos, renCs, renC]) ?_; simp [lv, ouN, kpI, kpR, pos, ren, ren0, renB, renC, renCs, renF, renFs]) | (refine CallK_gen [500, 501] (c3) (by decide) (by decide) (by simp [blksOf, inN, pos, renB, renC, renCs, ren0, lv, ouN, kpI, kpR]) (by simp [argsG, argG, ren0, inN, pos, renCs, renC]) ⟨[502], by simp, by simp, ?_⟩; simp [lv, ouN, kpI, kpR, pos, ren, ren0, renB, renC, renCs, renF, renFs]) | (refine hK _ ?_; clear hK) | (refine hK _ _ ?_; clear hK) | (clear hK; refine hK _ ?_; clear hK) | (clear hK; clear hK; refine hK _ ?_; clear hK) | (clear hK; clear hK; clear hK; refine hK _ ?_; clear hK) | (clear hK; clear hK; clear hK; clear hK; refine hK _ ?_; clear hK) | (refine wSeq fun K hK => ?_) | ((first | refine wReg ?_ | refine wDrwQ rfl (by kernel_rfl) ?_ | refine wDrwI ?_ | refine wDrw (by kernel_rfl) ?_); simp only [List.map_cons, List.map_nil, strip]) | ((first | refine wIs fun K hK => ?_ | refine wOs fun K hK => ?_ | refine wQs fun K hK => ?_ | refine CallK_plain ?_ | refine CallQ_plain ?_ | refine CallR_plain ?_ | refine wCond ?_); simp [lv, ouN, kpI, kpR, pos, ren, ren0, renB, renC, renCs, renF, renFs, f1', f2', f3']) | (refine wIn ?_; refine And.intro (by kernel_rfl) ?_; try simp only [thenA_n]) | (first | refine wBlock ?_ | refine wScope ?_) | ((first | refine wRet ?_ | refine wExit ?_ | refine wSkip ?_); try simp) | ((first | refine wLabel ?_ | refine wOn ?_ | refine wQn ?_); try simp only [thenA_n])
  all_goals first | apply hn | apply hr
  all_goals simp [Try.f16, lv, ouN, kpI, kpR, pos, ren, ren0, renB, renC, renCs, renF, renFs]
set_option maxHeartbeats 2000000 in
theorem hearN_con (c : Cl) (w : Wd) (hn : c.nt.length ≤ 1000000) (hf : ¬ forC c w) : ACon Try.prog 16 [.p (.agg c.cells), .p (.agg w.cells)] (.tup [.p (.agg c.cells), .p (.sl 36 [])]) := by
  have c1 := hearing_con c hn
  unfold forC at hf
  unfold hBx at *
  unfold Cl.cells Wd.cells at *
  by_cases f1 : w.cl = c.id
  · by_cases f2 : w.sv = c.sv
    · have f3 : c.ph = 0 := Decidable.byContradiction fun h => hf ⟨f1, f2, h⟩
      have f1' : (w.cl = c.id) = True := eq_true f1
      have f2' : (w.sv = c.sv) = True := eq_true f2
      have f3' : (c.ph = 0) = True := eq_true f3
      refine wBody Try.tab Try.mixed Try.func16 rfl rfl Try.ntmps16 (by simp) (by simp) fun Q hr hn => ?_
      repeat' first | (refine CallK_gen [] (c1) (by decide) (by decide) (by simp [blksOf]) (by simp [argsG, argG, ren0, inN, pos, renCs, renC, toP, toPF]) ⟨[500, 501], by simp, by simp, ?_⟩; simp [lv, ouN, kpI, kpR, pos, ren, ren0, renB, renC, renCs, renF, renFs]) | (refine hK _ ?_; clear hK) | (refine hK _ _ ?_; clear hK) | (clear hK; refine hK _ ?_; clear hK) | (clear hK; clear hK; refine hK _ ?_; clear hK) | (clear hK; clear hK; clear hK; refine hK _ ?_; clear hK) | (clear hK; clear hK; clear hK; clear hK; refine hK _ ?_; clear hK) | (refine wSeq fun K hK => ?_) | ((first | refine wReg ?_ | refine wDrwQ rfl (by kernel_rfl) ?_ | refine wDrwI ?_ | refine wDrw (by kernel_rfl) ?_); simp only [List.map_cons, List.map_nil, strip]) | ((first | refine wIs fun K hK => ?_ | refine wOs fun K hK => ?_ | refine wQs fun K hK => ?_ | refine CallK_plain ?_ | refine CallQ_plain ?_ | refine CallR_plain ?_ | refine wCond ?_); simp [lv, ouN, kpI, kpR, pos, ren, ren0, renB, renC, renCs, renF, renFs, f1', f2', f3']) | (refine wIn ?_; refine And.intro (by kernel_rfl) ?_; try simp only [thenA_n]) | (first | refine wBlock ?_ | refine wScope ?_) | ((first | refine wRet ?_ | refine wExit ?_ | refine wSkip ?_); try simp) | ((first | refine wLabel ?_ | refine wOn ?_ | refine wQn ?_); try simp only [thenA_n])
      all_goals first | apply hn | apply hr
      all_goals simp [Try.f16, lv, ouN, kpI, kpR, pos, ren, ren0, renB, renC, renCs, renF, renFs]
    · have f1' : (w.cl = c.id) = True := eq_true f1
      have f2' : (w.sv = c.sv) = False := eq_false f2
      refine wBody Try.tab Try.mixed Try.func16 rfl rfl Try.ntmps16 (by simp) (by simp) fun Q hr hn => ?_
      repeat' first | (refine CallK_gen [] (c1) (by decide) (by decide) (by simp [blksOf]) (by simp [argsG, argG, ren0, inN, pos, renCs, renC, toP, toPF]) ⟨[500, 501], by simp, by simp, ?_⟩; simp [lv, ouN, kpI, kpR, pos, ren, ren0, renB, renC, renCs, renF, renFs]) | (refine hK _ ?_; clear hK) | (refine hK _ _ ?_; clear hK) | (clear hK; refine hK _ ?_; clear hK) | (clear hK; clear hK; refine hK _ ?_; clear hK) | (clear hK; clear hK; clear hK; refine hK _ ?_; clear hK) | (clear hK; clear hK; clear hK; clear hK; refine hK _ ?_; clear hK) | (refine wSeq fun K hK => ?_) | ((first | refine wReg ?_ | refine wDrwQ rfl (by kernel_rfl) ?_ | refine wDrwI ?_ | refine wDrw (by kernel_rfl) ?_); simp only [List.map_cons, List.map_nil, strip]) | ((first | refine wIs fun K hK => ?_ | refine wOs fun K hK => ?_ | refine wQs fun K hK => ?_ | refine CallK_plain ?_ | refine CallQ_plain ?_ | refine CallR_plain ?_ | refine wCond ?_); simp [lv, ouN, kpI, kpR, pos, ren, ren0, renB, renC, renCs, renF, renFs, f1', f2']) | (refine wIn ?_; refine And.intro (by kernel_rfl) ?_; try simp only [thenA_n]) | (first | refine wBlock ?_ | refine wScope ?_) | ((first | refine wRet ?_ | refine wExit ?_ | refine wSkip ?_); try simp) | ((first | refine wLabel ?_ | refine wOn ?_ | refine wQn ?_); try simp only [thenA_n])
      all_goals first | apply hn | apply hr
      all_goals simp [Try.f16, lv, ouN, kpI, kpR, pos, ren, ren0, renB, renC, renCs, renF, renFs]
  · have f1' : (w.cl = c.id) = False := eq_false f1
    refine wBody Try.tab Try.mixed Try.func16 rfl rfl Try.ntmps16 (by simp) (by simp) fun Q hr hn => ?_
    repeat' first | (refine CallK_gen [] (c1) (by decide) (by decide) (by simp [blksOf]) (by simp [argsG, argG, ren0, inN, pos, renCs, renC, toP, toPF]) ⟨[500, 501], by simp, by simp, ?_⟩; simp [lv, ouN, kpI, kpR, pos, ren, ren0, renB, renC, renCs, renF, renFs]) | (refine hK _ ?_; clear hK) | (refine hK _ _ ?_; clear hK) | (clear hK; refine hK _ ?_; clear hK) | (clear hK; clear hK; refine hK _ ?_; clear hK) | (clear hK; clear hK; clear hK; refine hK _ ?_; clear hK) | (clear hK; clear hK; clear hK; clear hK; refine hK _ ?_; clear hK) | (refine wSeq fun K hK => ?_) | ((first | refine wReg ?_ | refine wDrwQ rfl (by kernel_rfl) ?_ | refine wDrwI ?_ | refine wDrw (by kernel_rfl) ?_); simp only [List.map_cons, List.map_nil, strip]) | ((first | refine wIs fun K hK => ?_ | refine wOs fun K hK => ?_ | refine wQs fun K hK => ?_ | refine CallK_plain ?_ | refine CallQ_plain ?_ | refine CallR_plain ?_ | refine wCond ?_); simp [lv, ouN, kpI, kpR, pos, ren, ren0, renB, renC, renCs, renF, renFs, f1']) | (refine wIn ?_; refine And.intro (by kernel_rfl) ?_; try simp only [thenA_n]) | (first | refine wBlock ?_ | refine wScope ?_) | ((first | refine wRet ?_ | refine wExit ?_ | refine wSkip ?_); try simp) | ((first | refine wLabel ?_ | refine wOn ?_ | refine wQn ?_); try simp only [thenA_n])
    all_goals first | apply hn | apply hr
    all_goals simp [Try.f16, lv, ouN, kpI, kpR, pos, ren, ren0, renB, renC, renCs, renF, renFs]
def hearC (c : Cl) (w : Wd) : Cl × List (List PV) :=
  if forC c w then
    (if w.kd = 11 then (openC c w, []) else if w.kd = 12 then (endC (noC c w), rsE c) else if w.kd = 15 then (noteC c w, [])
    else if w.kd = 13 ∨ w.kd = 14 then (if goodT c w then (endC (seeC c w.ae w.an), [rsC c.id c.wt false w]) else (c, [])) else (c, []))
  else (c, [])
theorem hear_con (c : Cl) (w : Wd) (hn : c.nt.length ≤ 1000000) (hw : OkW w) : ACon Try.prog 16 [.p (.agg c.cells), .p (.agg w.cells)] (.tup [.p (.agg (hearC c w).1.cells), .p (.sl 36 (hearC c w).2)]) := by
  unfold hearC
  by_cases hf : forC c w
  case neg => rw [if_neg hf]; exact hearN_con c w hn hf
  rw [if_pos hf]
  by_cases h1 : w.kd = 11
  · rw [if_pos h1]; exact hear0_con c _ w _ hn hf (by unfold hearsF; rw [if_pos h1]) (openM_con c w)
  rw [if_neg h1]
  by_cases h2 : w.kd = 12
  · rw [if_pos h2]
    have e : hearsF w.kd = 49 := by unfold hearsF; rw [if_neg h1, if_pos h2]
    unfold rsE
    by_cases h0 : c.wt = 0
    · rw [if_pos h0]; exact hear0_con c _ w _ hn hf e (no0_con c w h0)
    · rw [if_neg h0]; exact hear1_con c _ w _ _ hn hf e (no1_con c w h0)
  rw [if_neg h2]
  by_cases h3 : w.kd = 15
  · rw [if_pos h3]; exact hear0_con c _ w _ hn hf (by unfold hearsF; rw [if_neg h1, if_neg h2, if_pos h3]) (note_con c w hn)
  rw [if_neg h3]
  by_cases h4 : w.kd = 13 ∨ w.kd = 14
  · rw [if_pos h4]
    have e : hearsF w.kd = 51 := by unfold hearsF; rw [if_neg h1, if_neg h2, if_neg h3, if_pos h4]
    by_cases hg : goodT c w
    · rw [if_pos hg]; exact hear1_con c _ w _ _ hn hf e (told1_con c w hg hw)
    · rw [if_neg hg]; exact hear0_con c _ w _ hn hf e (told0_con c w hg)
  · rw [if_neg h4]; exact hear0_con c _ w _ hn hf (by unfold hearsF; rw [if_neg h1, if_neg h2, if_neg h3, if_neg h4]) (nothing_con c w)
end Go.Proofs.Ytefhnofdfnmiaaa
