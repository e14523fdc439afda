/- Clients: law ClientSees. -/
import Derived.Test.YtefhnofdfnmiaaaCL7
import Derived.Test.YtefhnofdfnmiaaaCL8
namespace Go.Proofs.Ytefhnofdfnmiaaa
set_option linter.unusedSimpArgs false
set_option linter.unusedVariables false
set_option maxRecDepth 8000
open Go Go.Av
attribute [local simp] Try.T1 Try.T2 Try.T3 Try.T4 Try.T5 Try.T9 Try.T12 Try.T15 Try.T16 Try.T17 Try.T21 Try.T22 Try.T23 Try.T24 Try.T26 Try.T27 Try.T29 Try.T30 Try.T32 Try.T33 Try.T34 Try.T35 Try.T36 Try.T38 Try.T40 Try.T42 Try.T43 Try.T45 Try.T47 Try.T49 Try.T50 Try.T51 Try.T53 Try.T54 Try.T55 Try.T56 Try.T57 Try.T59 Try.T61 Try.T63 Try.T65 Try.T66 Try.T67 Try.T69 Try.T70 Try.T71 Try.T72 Try.T73 Try.T74 Try.T75 Try.T76 Try.T78 Try.T79 Try.T80 Try.T81 Try.T82 Try.T83 Try.T84 Try.T85 Try.T86 Try.T87 Try.T88 Try.T89 Try.T90 Try.T91 Try.T92 Try.T93 Try.T94 Try.T95 Try.T96 Try.T97 Try.T98 Try.T99 Try.T101 Try.T102 Try.T103 Try.T104 Try.T105 Try.T106 Try.T107 Try.T108 Try.T109 Try.T112 Try.T115 Try.T116 Try.T119 Try.T120
attribute [local irreducible] Go.Av.CallK Go.Av.CallE Go.Av.CallQ Go.Av.CallF Go.Av.CallR Go.Av.CallH Go.Av.Con
/-- What holds of a client behind so many events. -/
structure InvC (c : Cl) (ak en : Int) (k : Nat) : Prop where
  n : c.nt.length ≤ k
  x : 0 ≤ c.xi ∧ c.xi ≤ 4194304 + k
  a : ak ≤ c.xi
  e : en ≤ ak
  w : c.wt = 0 ∨ (c.wt = ak ∧ en < ak)
theorem newC_inv (n : Int) (h0 : 0 ≤ n) (h4 : n < 4) : InvC (newC n) 0 0 0 := by
  unfold newC
  rw [if_pos ⟨h0, h4⟩]
  exact ⟨by simp, ⟨by simp only; omega, by simp only; omega⟩, by simp only; omega, by omega, .inl rfl⟩
set_option maxHeartbeats 16000000 in
theorem clientSees_con (n : Int) (l : List Ev6) (hz : ∀ e ∈ l, OkZ e) (l63 : l.length ≤ 9223372036854775807) :
    ACon Try.prog 4 [.p (I n), .p (.sl 44 (evs l))] (.p (B true)) := by
  have cf := far26_con l hz l63
  have cn := newC_con n
  by_cases h0 : n < 0
  · have e1 : newE n = 1 := by unfold newE; rw [if_neg (by omega)]
    rw [e1] at cn
    generalize newC n = c at cn
    generalize farE l = fb at cf
    unfold Cl.cells at cn
    cases fb
    all_goals
      refine wBody Try.tab Try.mixed Try.func4 rfl rfl Try.ntmps4 (by simp) (by simp) fun Q hr hn => ?_
      repeat' first | (refine hK _ ?_; clear hK) | (refine hK _ _ ?_; clear hK) | (clear hK; refine hK _ ?_; clear hK) | (clear hK; clear hK; refine hK _ ?_; clear hK) | (clear hK; clear hK; clear hK; refine hK _ ?_; clear hK) | (clear hK; clear hK; clear hK; clear hK; refine hK _ ?_; clear hK) | (refine wSeq fun K hK => ?_) | ((first | refine wReg ?_ | refine wDrwQ rfl (by kernel_rfl) ?_ | refine wDrwI ?_ | refine wDrw (by kernel_rfl) ?_); simp only [List.map_cons, List.map_nil, strip]) | ((first | refine wIs fun K hK => ?_ | refine wOs fun K hK => ?_ | refine wQs fun K hK => ?_ | refine CallK_plain ?_ | refine CallQ_plain ?_ | refine CallR_plain ?_ | refine wCond ?_); simp [h0]) | (refine wIn ?_; refine And.intro (by kernel_rfl) ?_; try simp only [thenA_n]) | (first | refine wBlock ?_ | refine wScope ?_) | ((first | refine wRet ?_ | refine wExit ?_ | refine wSkip ?_); try simp) | ((first | refine wLabel ?_ | refine wOn ?_ | refine wQn ?_); try simp only [thenA_n]) | (refine CallE.pure (cn) rfl ?_) | (refine CallE.lent (cn) rfl ?_) | (refine CallF.pure (cn) rfl ?_) | (refine CallF.lent (cn) rfl ?_) | (refine CallE.own (cn) ?_) | (refine CallH.pure (cn) rfl ?_) | (refine CallH.lent (cn) rfl ?_) | (refine CallH.own (cn) ?_) | (refine CallE.pure (cf) rfl ?_) | (refine CallE.lent (cf) rfl ?_) | (refine CallF.pure (cf) rfl ?_) | (refine CallF.lent (cf) rfl ?_) | (refine CallE.own (cf) ?_) | (refine CallH.pure (cf) rfl ?_) | (refine CallH.lent (cf) rfl ?_) | (refine CallH.own (cf) ?_) | (refine CallE.pure (awake26) rfl ?_) | (refine CallE.lent (awake26) rfl ?_) | (refine CallF.pure (awake26) rfl ?_) | (refine CallF.lent (awake26) rfl ?_) | (refine CallE.own (awake26) ?_) | (refine CallH.pure (awake26) rfl ?_) | (refine CallH.lent (awake26) rfl ?_) | (refine CallH.own (awake26) ?_)
      all_goals apply hr
      all_goals simp [Try.f4]
  by_cases h4 : 4 ≤ n
  · have e1 : newE n = 1 := by unfold newE; rw [if_neg (by omega)]
    rw [e1] at cn
    generalize newC n = c at cn
    generalize farE l = fb at cf
    unfold Cl.cells at cn
    cases fb
    all_goals
      refine wBody Try.tab Try.mixed Try.func4 rfl rfl Try.ntmps4 (by simp) (by simp) fun Q hr hn => ?_
      repeat' first | (refine hK _ ?_; clear hK) | (refine hK _ _ ?_; clear hK) | (clear hK; refine hK _ ?_; clear hK) | (clear hK; clear hK; refine hK _ ?_; clear hK) | (clear hK; clear hK; clear hK; refine hK _ ?_; clear hK) | (clear hK; clear hK; clear hK; clear hK; refine hK _ ?_; clear hK) | (refine wSeq fun K hK => ?_) | ((first | refine wReg ?_ | refine wDrwQ rfl (by kernel_rfl) ?_ | refine wDrwI ?_ | refine wDrw (by kernel_rfl) ?_); simp only [List.map_cons, List.map_nil, strip]) | ((first | refine wIs fun K hK => ?_ | refine wOs fun K hK => ?_ | refine wQs fun K hK => ?_ | refine CallK_plain ?_ | refine CallQ_plain ?_ | refine CallR_plain ?_ | refine wCond ?_); simp [h0, h4]) | (refine wIn ?_; refine And.intro (by kernel_rfl) ?_; try simp only [thenA_n]) | (first | refine wBlock ?_ | refine wScope ?_) | ((first | refine wRet ?_ | refine wExit ?_ | refine wSkip ?_); try simp) | ((first | refine wLabel ?_ | refine wOn ?_ | refine wQn ?_); try simp only [thenA_n]) | (refine CallE.pure (cn) rfl ?_) | (refine CallE.lent (cn) rfl ?_) | (refine CallF.pure (cn) rfl ?_) | (refine CallF.lent (cn) rfl ?_) | (refine CallE.own (cn) ?_) | (refine CallH.pure (cn) rfl ?_) | (refine CallH.lent (cn) rfl ?_) | (refine CallH.own (cn) ?_) | (refine CallE.pure (cf) rfl ?_) | (refine CallE.lent (cf) rfl ?_) | (refine CallF.pure (cf) rfl ?_) | (refine CallF.lent (cf) rfl ?_) | (refine CallE.own (cf) ?_) | (refine CallH.pure (cf) rfl ?_) | (refine CallH.lent (cf) rfl ?_) | (refine CallH.own (cf) ?_) | (refine CallE.pure (awake26) rfl ?_) | (refine CallE.lent (awake26) rfl ?_) | (refine CallF.pure (awake26) rfl ?_) | (refine CallF.lent (awake26) rfl ?_) | (refine CallE.own (awake26) ?_) | (refine CallH.pure (awake26) rfl ?_) | (refine CallH.lent (awake26) rfl ?_) | (refine CallH.own (awake26) ?_)
      all_goals apply hr
      all_goals simp [Try.f4]
  have e1 : newE n = 0 := by unfold newE; rw [if_pos (by omega)]
  rw [e1] at cn
  have hi := newC_inv n (by omega) (by omega)
  cases f1 : farE l with
  | true =>
    rw [f1] at cf
    generalize newC n = c at cn
    unfold Cl.cells at cn
    refine wBody Try.tab Try.mixed Try.func4 rfl rfl Try.ntmps4 (by simp) (by simp) fun Q hr hn => ?_
    repeat' first | (refine hK _ ?_; clear hK) | (refine hK _ _ ?_; clear hK) | (clear hK; refine hK _ ?_; clear hK) | (clear hK; clear hK; refine hK _ ?_; clear hK) | (clear hK; clear hK; clear hK; refine hK _ ?_; clear hK) | (clear hK; clear hK; clear hK; clear hK; refine hK _ ?_; clear hK) | (refine wSeq fun K hK => ?_) | ((first | refine wReg ?_ | refine wDrwQ rfl (by kernel_rfl) ?_ | refine wDrwI ?_ | refine wDrw (by kernel_rfl) ?_); simp only [List.map_cons, List.map_nil, strip]) | ((first | refine wIs fun K hK => ?_ | refine wOs fun K hK => ?_ | refine wQs fun K hK => ?_ | refine CallK_plain ?_ | refine CallQ_plain ?_ | refine CallR_plain ?_ | refine wCond ?_); simp) | (refine wIn ?_; refine And.intro (by kernel_rfl) ?_; try simp only [thenA_n]) | (first | refine wBlock ?_ | refine wScope ?_) | ((first | refine wRet ?_ | refine wExit ?_ | refine wSkip ?_); try simp) | ((first | refine wLabel ?_ | refine wOn ?_ | refine wQn ?_); try simp only [thenA_n]) | (refine CallE.pure (cn) rfl ?_) | (refine CallE.lent (cn) rfl ?_) | (refine CallF.pure (cn) rfl ?_) | (refine CallF.lent (cn) rfl ?_) | (refine CallE.own (cn) ?_) | (refine CallH.pure (cn) rfl ?_) | (refine CallH.lent (cn) rfl ?_) | (refine CallH.own (cn) ?_) | (refine CallE.pure (cf) rfl ?_) | (refine CallE.lent (cf) rfl ?_) | (refine CallF.pure (cf) rfl ?_) | (refine CallF.lent (cf) rfl ?_) | (refine CallE.own (cf) ?_) | (refine CallH.pure (cf) rfl ?_) | (refine CallH.lent (cf) rfl ?_) | (refine CallH.own (cf) ?_) | (refine CallE.pure (awake26) rfl ?_) | (refine CallE.lent (awake26) rfl ?_) | (refine CallF.pure (awake26) rfl ?_) | (refine CallF.lent (awake26) rfl ?_) | (refine CallE.own (awake26) ?_) | (refine CallH.pure (awake26) rfl ?_) | (refine CallH.lent (awake26) rfl ?_) | (refine CallH.own (awake26) ?_)
    all_goals apply hr
    all_goals simp [Try.f4]
  | false =>
  rw [f1] at cf
  have hfar := farE_not f1
  generalize newC n = c0 at cn hi
  unfold Cl.cells at cn
  refine wBody Try.tab Try.mixed Try.func4 rfl rfl Try.ntmps4 (by simp) (by simp) fun Q hr hn => ?_
  repeat' first | (refine hK _ ?_; clear hK) | (refine hK _ _ ?_; clear hK) | (clear hK; refine hK _ ?_; clear hK) | (clear hK; clear hK; refine hK _ ?_; clear hK) | (clear hK; clear hK; clear hK; refine hK _ ?_; clear hK) | (clear hK; clear hK; clear hK; clear hK; refine hK _ ?_; clear hK) | (refine wSeq fun K hK => ?_) | ((first | refine wReg ?_ | refine wDrwQ rfl (by kernel_rfl) ?_ | refine wDrwI ?_ | refine wDrw (by kernel_rfl) ?_); simp only [List.map_cons, List.map_nil, strip]) | ((first | refine wIs fun K hK => ?_ | refine wOs fun K hK => ?_ | refine wQs fun K hK => ?_ | refine CallK_plain ?_ | refine CallQ_plain ?_ | refine CallR_plain ?_ | refine wCond ?_); simp) | (refine wIn ?_; refine And.intro (by kernel_rfl) ?_; try simp only [thenA_n]) | (first | refine wBlock ?_ | refine wScope ?_) | ((first | refine wRet ?_ | refine wExit ?_ | refine wSkip ?_); try simp) | ((first | refine wLabel ?_ | refine wOn ?_ | refine wQn ?_); try simp only [thenA_n]) | (refine CallE.pure (cn) rfl ?_) | (refine CallE.lent (cn) rfl ?_) | (refine CallF.pure (cn) rfl ?_) | (refine CallF.lent (cn) rfl ?_) | (refine CallE.own (cn) ?_) | (refine CallH.pure (cn) rfl ?_) | (refine CallH.lent (cn) rfl ?_) | (refine CallH.own (cn) ?_) | (refine CallE.pure (cf) rfl ?_) | (refine CallE.lent (cf) rfl ?_) | (refine CallF.pure (cf) rfl ?_) | (refine CallF.lent (cf) rfl ?_) | (refine CallE.own (cf) ?_) | (refine CallH.pure (cf) rfl ?_) | (refine CallH.lent (cf) rfl ?_) | (refine CallH.own (cf) ?_)
  refine wLoop (fun N st => ∃ (k : Nat) (c : Cl) (ak en : Int), k + N = l.length ∧ InvC c ak en k ∧ st.s 5 = .ptr 5 0 ∧ st.b 5 = some (.box 29 [.p (I c.id), .p (I c.sv), .p (I c.ph), .p (I c.ss), .p (I c.se), .p (I c.sn), .p (I c.xi), .p (I c.wt), .p (I c.rd), .p (.sl 6 (nts c.nt))]) ∧ st.s 7 = .p (I ak) ∧ st.s 8 = .p (I en) ∧ st.s 39 = .p (.sl 44 (evs l)) ∧ st.s 40 = .p (I l.length) ∧ st.s 41 = .p (I k)) l.length ⟨0, c0, 0, 0, by simp, hi, by simp⟩ fun K N st hL ⟨k, c, ak, en, hk, hI, g5, b5, g7, g8, g39, g40, g41⟩ => ?_
  by_cases hlt : k < l.length
  case neg =>
    have hlt' : ¬ (k : Int) < l.length := by omega
    repeat' first | (refine hK _ ?_; clear hK) | (refine hK _ _ ?_; clear hK) | (clear hK; refine hK _ ?_; clear hK) | (clear hK; clear hK; refine hK _ ?_; clear hK) | (clear hK; clear hK; clear hK; refine hK _ ?_; clear hK) | (clear hK; clear hK; clear hK; clear hK; refine hK _ ?_; clear hK) | (refine wSeq fun K hK => ?_) | ((first | refine wReg ?_ | refine wDrwQ rfl (by kernel_rfl) ?_ | refine wDrwI ?_ | refine wDrw (by kernel_rfl) ?_); simp only [List.map_cons, List.map_nil, strip]) | ((first | refine wIs fun K hK => ?_ | refine wOs fun K hK => ?_ | refine wQs fun K hK => ?_ | refine CallK_plain ?_ | refine CallQ_plain ?_ | refine CallR_plain ?_ | refine wCond ?_); simp [g5, b5, g7, g8, g39, g40, g41, hlt, hlt']) | (refine wIn ?_; refine And.intro (by kernel_rfl) ?_; try simp only [thenA_n]) | (first | refine wBlock ?_ | refine wScope ?_) | ((first | refine wRet ?_ | refine wExit ?_ | refine wSkip ?_); try simp) | ((first | refine wLabel ?_ | refine wOn ?_ | refine wQn ?_); try simp only [thenA_n]) | (refine CallE.pure (awake26) rfl ?_) | (refine CallE.lent (awake26) rfl ?_) | (refine CallF.pure (awake26) rfl ?_) | (refine CallF.lent (awake26) rfl ?_) | (refine CallE.own (awake26) ?_) | (refine CallH.pure (awake26) rfl ?_) | (refine CallH.lent (awake26) rfl ?_) | (refine CallH.own (awake26) ?_)
    all_goals apply hr
    all_goals simp [Try.f4]
  have hlt' : (k : Int) < l.length := by omega
  have hw := wrapS k _ hlt (by omega)
  have he := evs_get hlt
  have hok := farE_ok f1 (List.getElem_mem hlt) (hz _ (List.getElem_mem hlt))
  have hIx := hI.x
  have hIn := hI.n
  have cp := act_con c l[k] (by omega) ⟨by omega, hIx.1⟩ hok.1 hok.2
  have hS := actM_sees c l[k]
  generalize actM c l[k] = a at cp hS
  obtain ⟨d, ws, rs, e⟩ := a
  have cz := cmp02_con d.se d.sn c.se c.sn
  have hzz := hS.z
  have hxx := hS.x
  have hnn := hS.n
  have hrr := hS.r
  have hww := hS.w
  have hoo := hS.o
  have hbb := hS.b
  clear hS hok hz
  dsimp only at cp hzz hxx hnn hrr hww hoo hbb
  generalize zcmp d.se d.sn c.se c.sn = z at cz hzz
  have hL2 : ∀ (ak' en' : Int), InvC d ak' en' (k + 1) → ∀ st : St, st.s 5 = .ptr 5 0 → st.b 5 = some (.box 29 [.p (I d.id), .p (I d.sv), .p (I d.ph), .p (I d.ss), .p (I d.se), .p (I d.sn), .p (I d.xi), .p (I d.wt), .p (I d.rd), .p (.sl 6 (nts d.nt))]) → st.s 7 = .p (I ak') → st.s 8 = .p (I en') → st.s 39 = .p (.sl 44 (evs l)) → st.s 40 = .p (I l.length) → st.s 41 = .p (I ((k + 1 : Nat) : Int)) → K st := fun ak' en' hi st a1 a2 a3 a4 a5 a6 a7 => hL st (N - 1) (by omega) ⟨k + 1, d, ak', en', by omega, hi, a1, a2, a3, a4, a5, a6, a7⟩
  clear hL
  have hcell := Option.some.inj ((List.getElem?_eq_getElem (by simpa using hlt : k < (evs l).length)).symm.trans he)
  generalize l[k] = ev at he hcell cp hrr hoo hbb
  have hx1 : ¬ d.xi < c.xi := by omega
  have hw1 : ¬ (1 : Int) < ws.length := by omega
  have hw1n : ¬ 1 < ws.length := by omega
  unfold Ev6.cells at he hcell cp
  unfold Cl.cells at cp
  rcases hrr with ⟨rfl, hwt⟩ | ⟨u, w, rfl, hwn, hd0⟩
  · by_cases hk12 : ev.k = 1 ∨ ev.k = 2
    · by_cases e0 : e = 0
      · subst e0
        obtain ⟨q1, q2, q3, q4, -⟩ := hoo hk12 rfl
        have hq := hL2 d.wt en ⟨by omega, ⟨by omega, by omega⟩, by omega, by have := hI.a; have := hI.e; omega, .inr ⟨rfl, by have := hI.a; have := hI.e; omega⟩⟩
        have q5 : ¬ d.wt ≤ ak := by have := hI.a; omega
        have q1' : (c.wt = 0) = True := eq_true q1
        have q4' : (ws.length : Int) = 1 := by omega
        rcases hk12 with k1 | k2
        · have k1' : (ev.k = 1) = True := eq_true k1
          repeat' first | (refine hK _ ?_; clear hK) | (refine hK _ _ ?_; clear hK) | (clear hK; refine hK _ ?_; clear hK) | (clear hK; clear hK; refine hK _ ?_; clear hK) | (clear hK; clear hK; clear hK; refine hK _ ?_; clear hK) | (clear hK; clear hK; clear hK; clear hK; refine hK _ ?_; clear hK) | (refine wSeq fun K hK => ?_) | ((first | refine wReg ?_ | refine wDrwQ rfl (by kernel_rfl) ?_ | refine wDrwI ?_ | refine wDrw (by kernel_rfl) ?_); simp only [List.map_cons, List.map_nil, strip]) | ((first | refine wIs fun K hK => ?_ | refine wOs fun K hK => ?_ | refine wQs fun K hK => ?_ | refine CallK_plain ?_ | refine CallQ_plain ?_ | refine CallR_plain ?_ | refine wCond ?_); simp [g5, b5, g7, g8, g39, g40, g41, hlt, hlt', hw, he, hcell, hzz, hx1, hw1, hw1n, q1', q4, q4', q5, k1']) | (refine wIn ?_; refine And.intro (by kernel_rfl) ?_; try simp only [thenA_n]) | (first | refine wBlock ?_ | refine wScope ?_) | ((first | refine wRet ?_ | refine wExit ?_ | refine wSkip ?_); try simp) | ((first | refine wLabel ?_ | refine wOn ?_ | refine wQn ?_); try simp only [thenA_n]) | (refine CallE.pure (cp) rfl ?_) | (refine CallE.lent (cp) rfl ?_) | (refine CallF.pure (cp) rfl ?_) | (refine CallF.lent (cp) rfl ?_) | (refine CallE.own (cp) ?_) | (refine CallH.pure (cp) rfl ?_) | (refine CallH.lent (cp) rfl ?_) | (refine CallH.own (cp) ?_) | (refine CallE.pure (cz) rfl ?_) | (refine CallE.lent (cz) rfl ?_) | (refine CallF.pure (cz) rfl ?_) | (refine CallF.lent (cz) rfl ?_) | (refine CallE.own (cz) ?_) | (refine CallH.pure (cz) rfl ?_) | (refine CallH.lent (cz) rfl ?_) | (refine CallH.own (cz) ?_)
          all_goals refine hq _ ?_ ?_ ?_ ?_ ?_ ?_ ?_
          all_goals simp [g5, b5, g7, g8, g39, g40, g41, hw]
        · have k1' : (ev.k = 1) = False := eq_false (by omega)
          have k2' : (ev.k = 2) = True := eq_true k2
          repeat' first | (refine hK _ ?_; clear hK) | (refine hK _ _ ?_; clear hK) | (clear hK; refine hK _ ?_; clear hK) | (clear hK; clear hK; refine hK _ ?_; clear hK) | (clear hK; clear hK; clear hK; refine hK _ ?_; clear hK) | (clear hK; clear hK; clear hK; clear hK; refine hK _ ?_; clear hK) | (refine wSeq fun K hK => ?_) | ((first | refine wReg ?_ | refine wDrwQ rfl (by kernel_rfl) ?_ | refine wDrwI ?_ | refine wDrw (by kernel_rfl) ?_); simp only [List.map_cons, List.map_nil, strip]) | ((first | refine wIs fun K hK => ?_ | refine wOs fun K hK => ?_ | refine wQs fun K hK => ?_ | refine CallK_plain ?_ | refine CallQ_plain ?_ | refine CallR_plain ?_ | refine wCond ?_); simp [g5, b5, g7, g8, g39, g40, g41, hlt, hlt', hw, he, hcell, hzz, hx1, hw1, hw1n, q1', q4, q4', q5, k1', k2']) | (refine wIn ?_; refine And.intro (by kernel_rfl) ?_; try simp only [thenA_n]) | (first | refine wBlock ?_ | refine wScope ?_) | ((first | refine wRet ?_ | refine wExit ?_ | refine wSkip ?_); try simp) | ((first | refine wLabel ?_ | refine wOn ?_ | refine wQn ?_); try simp only [thenA_n]) | (refine CallE.pure (cp) rfl ?_) | (refine CallE.lent (cp) rfl ?_) | (refine CallF.pure (cp) rfl ?_) | (refine CallF.lent (cp) rfl ?_) | (refine CallE.own (cp) ?_) | (refine CallH.pure (cp) rfl ?_) | (refine CallH.lent (cp) rfl ?_) | (refine CallH.own (cp) ?_) | (refine CallE.pure (cz) rfl ?_) | (refine CallE.lent (cz) rfl ?_) | (refine CallF.pure (cz) rfl ?_) | (refine CallF.lent (cz) rfl ?_) | (refine CallE.own (cz) ?_) | (refine CallH.pure (cz) rfl ?_) | (refine CallH.lent (cz) rfl ?_) | (refine CallH.own (cz) ?_)
          all_goals refine hq _ ?_ ?_ ?_ ?_ ?_ ?_ ?_
          all_goals simp [g5, b5, g7, g8, g39, g40, g41, hw]
      · obtain ⟨rfl, -⟩ := hbb hk12 e0
        have cs := same26_con d (by omega)
        unfold Cl.cells at cs
        have hq := hL2 ak en ⟨by omega, ⟨by omega, by omega⟩, hI.a, hI.e, hI.w⟩
        have e0' : (e = 0) = False := eq_false e0
        rcases hk12 with k1 | k2
        · have k1' : (ev.k = 1) = True := eq_true k1
          repeat' first | (refine hK _ ?_; clear hK) | (refine hK _ _ ?_; clear hK) | (clear hK; refine hK _ ?_; clear hK) | (clear hK; clear hK; refine hK _ ?_; clear hK) | (clear hK; clear hK; clear hK; refine hK _ ?_; clear hK) | (clear hK; clear hK; clear hK; clear hK; refine hK _ ?_; clear hK) | (refine wSeq fun K hK => ?_) | ((first | refine wReg ?_ | refine wDrwQ rfl (by kernel_rfl) ?_ | refine wDrwI ?_ | refine wDrw (by kernel_rfl) ?_); simp only [List.map_cons, List.map_nil, strip]) | ((first | refine wIs fun K hK => ?_ | refine wOs fun K hK => ?_ | refine wQs fun K hK => ?_ | refine CallK_plain ?_ | refine CallQ_plain ?_ | refine CallR_plain ?_ | refine wCond ?_); simp [g5, b5, g7, g8, g39, g40, g41, hlt, hlt', hw, he, hcell, hzz, hx1, hw1, hw1n, k1', e0']) | (refine wIn ?_; refine And.intro (by kernel_rfl) ?_; try simp only [thenA_n]) | (first | refine wBlock ?_ | refine wScope ?_) | ((first | refine wRet ?_ | refine wExit ?_ | refine wSkip ?_); try simp) | ((first | refine wLabel ?_ | refine wOn ?_ | refine wQn ?_); try simp only [thenA_n]) | (refine CallE.pure (cp) rfl ?_) | (refine CallE.lent (cp) rfl ?_) | (refine CallF.pure (cp) rfl ?_) | (refine CallF.lent (cp) rfl ?_) | (refine CallE.own (cp) ?_) | (refine CallH.pure (cp) rfl ?_) | (refine CallH.lent (cp) rfl ?_) | (refine CallH.own (cp) ?_) | (refine CallE.pure (cz) rfl ?_) | (refine CallE.lent (cz) rfl ?_) | (refine CallF.pure (cz) rfl ?_) | (refine CallF.lent (cz) rfl ?_) | (refine CallE.own (cz) ?_) | (refine CallH.pure (cz) rfl ?_) | (refine CallH.lent (cz) rfl ?_) | (refine CallH.own (cz) ?_) | (refine CallE.pure (cs) rfl ?_) | (refine CallE.lent (cs) rfl ?_) | (refine CallF.pure (cs) rfl ?_) | (refine CallF.lent (cs) rfl ?_) | (refine CallE.own (cs) ?_) | (refine CallH.pure (cs) rfl ?_) | (refine CallH.lent (cs) rfl ?_) | (refine CallH.own (cs) ?_)
          all_goals refine hq _ ?_ ?_ ?_ ?_ ?_ ?_ ?_
          all_goals simp [g5, b5, g7, g8, g39, g40, g41, hw]
        · have k1' : (ev.k = 1) = False := eq_false (by omega)
          have k2' : (ev.k = 2) = True := eq_true k2
          repeat' first | (refine hK _ ?_; clear hK) | (refine hK _ _ ?_; clear hK) | (clear hK; refine hK _ ?_; clear hK) | (clear hK; clear hK; refine hK _ ?_; clear hK) | (clear hK; clear hK; clear hK; refine hK _ ?_; clear hK) | (clear hK; clear hK; clear hK; clear hK; refine hK _ ?_; clear hK) | (refine wSeq fun K hK => ?_) | ((first | refine wReg ?_ | refine wDrwQ rfl (by kernel_rfl) ?_ | refine wDrwI ?_ | refine wDrw (by kernel_rfl) ?_); simp only [List.map_cons, List.map_nil, strip]) | ((first | refine wIs fun K hK => ?_ | refine wOs fun K hK => ?_ | refine wQs fun K hK => ?_ | refine CallK_plain ?_ | refine CallQ_plain ?_ | refine CallR_plain ?_ | refine wCond ?_); simp [g5, b5, g7, g8, g39, g40, g41, hlt, hlt', hw, he, hcell, hzz, hx1, hw1, hw1n, k1', k2', e0']) | (refine wIn ?_; refine And.intro (by kernel_rfl) ?_; try simp only [thenA_n]) | (first | refine wBlock ?_ | refine wScope ?_) | ((first | refine wRet ?_ | refine wExit ?_ | refine wSkip ?_); try simp) | ((first | refine wLabel ?_ | refine wOn ?_ | refine wQn ?_); try simp only [thenA_n]) | (refine CallE.pure (cp) rfl ?_) | (refine CallE.lent (cp) rfl ?_) | (refine CallF.pure (cp) rfl ?_) | (refine CallF.lent (cp) rfl ?_) | (refine CallE.own (cp) ?_) | (refine CallH.pure (cp) rfl ?_) | (refine CallH.lent (cp) rfl ?_) | (refine CallH.own (cp) ?_) | (refine CallE.pure (cz) rfl ?_) | (refine CallE.lent (cz) rfl ?_) | (refine CallF.pure (cz) rfl ?_) | (refine CallF.lent (cz) rfl ?_) | (refine CallE.own (cz) ?_) | (refine CallH.pure (cz) rfl ?_) | (refine CallH.lent (cz) rfl ?_) | (refine CallH.own (cz) ?_) | (refine CallE.pure (cs) rfl ?_) | (refine CallE.lent (cs) rfl ?_) | (refine CallF.pure (cs) rfl ?_) | (refine CallF.lent (cs) rfl ?_) | (refine CallE.own (cs) ?_) | (refine CallH.pure (cs) rfl ?_) | (refine CallH.lent (cs) rfl ?_) | (refine CallH.own (cs) ?_)
          all_goals refine hq _ ?_ ?_ ?_ ?_ ?_ ?_ ?_
          all_goals simp [g5, b5, g7, g8, g39, g40, g41, hw]
    · have k1' : (ev.k = 1) = False := eq_false fun h => hk12 (.inl h)
      have k2' : (ev.k = 2) = False := eq_false fun h => hk12 (.inr h)
      have hwt2 : d.wt = c.wt ∨ d.wt = 0 := by
        rcases hwt with h | h | ⟨-, h, -⟩
        · exact .inl h
        · exact .inr h
        · exact absurd h hk12
      have hq := hL2 ak en ⟨by omega, ⟨by omega, by omega⟩, by have := hI.a; omega, hI.e, by
        rcases hwt2 with h | h
        · rw [h]; exact hI.w
        · exact .inl h⟩
      repeat' first | (refine hK _ ?_; clear hK) | (refine hK _ _ ?_; clear hK) | (clear hK; refine hK _ ?_; clear hK) | (clear hK; clear hK; refine hK _ ?_; clear hK) | (clear hK; clear hK; clear hK; refine hK _ ?_; clear hK) | (clear hK; clear hK; clear hK; clear hK; refine hK _ ?_; clear hK) | (refine wSeq fun K hK => ?_) | ((first | refine wReg ?_ | refine wDrwQ rfl (by kernel_rfl) ?_ | refine wDrwI ?_ | refine wDrw (by kernel_rfl) ?_); simp only [List.map_cons, List.map_nil, strip]) | ((first | refine wIs fun K hK => ?_ | refine wOs fun K hK => ?_ | refine wQs fun K hK => ?_ | refine CallK_plain ?_ | refine CallQ_plain ?_ | refine CallR_plain ?_ | refine wCond ?_); simp [g5, b5, g7, g8, g39, g40, g41, hlt, hlt', hw, he, hcell, hzz, hx1, hw1, hw1n, k1', k2']) | (refine wIn ?_; refine And.intro (by kernel_rfl) ?_; try simp only [thenA_n]) | (first | refine wBlock ?_ | refine wScope ?_) | ((first | refine wRet ?_ | refine wExit ?_ | refine wSkip ?_); try simp) | ((first | refine wLabel ?_ | refine wOn ?_ | refine wQn ?_); try simp only [thenA_n]) | (refine CallE.pure (cp) rfl ?_) | (refine CallE.lent (cp) rfl ?_) | (refine CallF.pure (cp) rfl ?_) | (refine CallF.lent (cp) rfl ?_) | (refine CallE.own (cp) ?_) | (refine CallH.pure (cp) rfl ?_) | (refine CallH.lent (cp) rfl ?_) | (refine CallH.own (cp) ?_) | (refine CallE.pure (cz) rfl ?_) | (refine CallE.lent (cz) rfl ?_) | (refine CallF.pure (cz) rfl ?_) | (refine CallF.lent (cz) rfl ?_) | (refine CallE.own (cz) ?_) | (refine CallH.pure (cz) rfl ?_) | (refine CallH.lent (cz) rfl ?_) | (refine CallH.own (cz) ?_)
      all_goals refine hq _ ?_ ?_ ?_ ?_ ?_ ?_ ?_
      all_goals simp [g5, b5, g7, g8, g39, g40, g41, hw]
  · have hk12 : ¬ (ev.k = 1 ∨ ev.k = 2) := fun h => by
      by_cases e0 : e = 0
      · have := (hoo h e0).2.2.2.2; simp at this
      · have := (hbb h e0).2; simp at this
    have k1' : (ev.k = 1) = False := eq_false fun h => hk12 (.inl h)
    have k2' : (ev.k = 2) = False := eq_false fun h => hk12 (.inr h)
    obtain ⟨w1, w2⟩ : c.wt = ak ∧ en < ak := hI.w.resolve_left hwn
    have hq := hL2 ak ak ⟨by omega, ⟨by omega, by omega⟩, by have := hI.a; omega, by omega, .inl hd0⟩
    have w1' : (c.wt = ak) = True := eq_true w1
    have w2' : ¬ ak ≤ en := by omega
    have w3' : ¬ c.wt ≤ en := by omega
    rw [w1] at cp b5
    unfold rsC Wd.cells at cp
    repeat' first | (refine hK _ ?_; clear hK) | (refine hK _ _ ?_; clear hK) | (clear hK; refine hK _ ?_; clear hK) | (clear hK; clear hK; refine hK _ ?_; clear hK) | (clear hK; clear hK; clear hK; refine hK _ ?_; clear hK) | (clear hK; clear hK; clear hK; clear hK; refine hK _ ?_; clear hK) | (refine wSeq fun K hK => ?_) | ((first | refine wReg ?_ | refine wDrwQ rfl (by kernel_rfl) ?_ | refine wDrwI ?_ | refine wDrw (by kernel_rfl) ?_); simp only [List.map_cons, List.map_nil, strip]) | ((first | refine wIs fun K hK => ?_ | refine wOs fun K hK => ?_ | refine wQs fun K hK => ?_ | refine CallK_plain ?_ | refine CallQ_plain ?_ | refine CallR_plain ?_ | refine wCond ?_); simp [g5, b5, g7, g8, g39, g40, g41, hlt, hlt', hw, he, hcell, hzz, hx1, hw1, hw1n, k1', k2', w2', w3']) | (refine wIn ?_; refine And.intro (by kernel_rfl) ?_; try simp only [thenA_n]) | (first | refine wBlock ?_ | refine wScope ?_) | ((first | refine wRet ?_ | refine wExit ?_ | refine wSkip ?_); try simp) | ((first | refine wLabel ?_ | refine wOn ?_ | refine wQn ?_); try simp only [thenA_n]) | (refine CallE.pure (cp) rfl ?_) | (refine CallE.lent (cp) rfl ?_) | (refine CallF.pure (cp) rfl ?_) | (refine CallF.lent (cp) rfl ?_) | (refine CallE.own (cp) ?_) | (refine CallH.pure (cp) rfl ?_) | (refine CallH.lent (cp) rfl ?_) | (refine CallH.own (cp) ?_) | (refine CallE.pure (cz) rfl ?_) | (refine CallE.lent (cz) rfl ?_) | (refine CallF.pure (cz) rfl ?_) | (refine CallF.lent (cz) rfl ?_) | (refine CallE.own (cz) ?_) | (refine CallH.pure (cz) rfl ?_) | (refine CallH.lent (cz) rfl ?_) | (refine CallH.own (cz) ?_)
    all_goals refine hq _ ?_ ?_ ?_ ?_ ?_ ?_ ?_
    all_goals simp [g5, b5, g7, g8, g39, g40, g41, hw]
end Go.Proofs.Ytefhnofdfnmiaaa
