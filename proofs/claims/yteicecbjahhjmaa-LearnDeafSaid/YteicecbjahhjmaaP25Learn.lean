/- Texts that the proof needs: HN HP HQ HS LN0 NA22 LN1. -/
import Derived.Test.YteicecbjahhjmaaP23Learn
import Derived.Test.YteicecbjahhjmaaP24Learn
/- The plan that makes one history of another: the program's. -/
namespace Go.Proofs.Yteicecbjahhjmaa
set_option linter.unusedSimpArgs false
set_option linter.unusedVariables false
open Go Go.Av
attribute [local simp] Try.T1 Try.T2 Try.T3 Try.T4 Try.T5 Try.T9 Try.T12 Try.T15 Try.T16 Try.T17 Try.T21 Try.T22 Try.T23 Try.T25 Try.T26 Try.T28 Try.T30 Try.T31 Try.T33 Try.T35 Try.T36 Try.T37 Try.T38 Try.T39 Try.T41 Try.T42 Try.T44 Try.T45 Try.T47 Try.T48 Try.T50 Try.T51 Try.T52 Try.T54 Try.T55 Try.T56 Try.T58 Try.T59 Try.T61 Try.T63 Try.T65 Try.T67 Try.T68 Try.T69 Try.T70 Try.T72 Try.T73 Try.T74 Try.T75 Try.T76 Try.T77 Try.T78 Try.T79 Try.T80 Try.T81 Try.T83 Try.T84 Try.T85 Try.T87 Try.T88 Try.T89 Try.T90 Try.T91 Try.T92 Try.T93 Try.T94 Try.T95 Try.T96 Try.T97 Try.T98 Try.T99 Try.T101 Try.T103 Try.T104 Try.T105 Try.T106 Try.T107 Try.T108 Try.T109 Try.T110 Try.T111 Try.T113 Try.T114 Try.T115 Try.T116 Try.T117 Try.T118 Try.T119 Try.T120 Try.T121 Try.T122 Try.T123 Try.T124 Try.T125 Try.T126 Try.T127 Try.T128 Try.T129 Try.T130 Try.T131 Try.T132 Try.T133 Try.T134 Try.T135 Try.T137 Try.T138 Try.T139 Try.T140 Try.T141 Try.T142 Try.T143 Try.T144 Try.T145 Try.T146 Try.T147 Try.T148 Try.T149 Try.T150 Try.T153 Try.T156 Try.T157 Try.T160 Try.T161 Try.T167
attribute [local irreducible] Go.Av.CallK Go.Av.CallE Go.Av.CallQ Go.Av.CallF Go.Av.CallR Go.Av.CallH Go.Av.Con
def mks (h : Hy) : List Zx := ⟨h.im.ae, h.im.an⟩ :: h.lg.map fun t => ⟨t.e, t.n⟩
theorem mks_len (h : Hy) : (mks h).length = h.lg.length + 1 := by simp [mks]
theorem mks_take (h : Hy) (k : Nat) (hk : k < h.lg.length) : (mks h).take (k + 2) = (mks h).take (k + 1) ++ [⟨h.lg[k].e, h.lg[k].n⟩] := by
  unfold mks
  simp only [List.take_succ_cons, List.cons_append]
  rw [List.take_succ_eq_append_getElem (by simpa using hk)]
  simp
theorem zxs_app (a b : List Zx) : zxs (a ++ b) = zxs a ++ zxs b := by simp [zxs]
set_option maxHeartbeats 1000000 in
theorem marks_con (h : Hy) (hl : h.lg.length ≤ 1000) : ACon Try.prog 57 [.p (.agg h.cells)] (.p (.sl 2 (zxs (mks h)))) := by
  have cb := base_con h
  have hz0 : (mks h).take 1 = [⟨h.im.ae, h.im.an⟩] := rfl
  have hmt := mks_take h
  have hml := mks_len h
  generalize mks h = M at *
  unfold Hy.cells at *
  refine wBody Try.tab Try.mixed Try.func57 rfl rfl Try.ntmps57 (by simp) (by simp) fun Q hr hn => ?_
  repeat' first | (refine CallE.pure (cb) rfl ?_) | (refine CallE.lent (cb) rfl ?_) | (refine CallF.pure (cb) rfl ?_) | (refine CallF.lent (cb) rfl ?_) | (refine CallE.own (cb) ?_) | (refine CallH.pure (cb) rfl ?_) | (refine CallH.lent (cb) rfl ?_) | (refine CallH.own (cb) ?_) | (refine hK _ ?_; clear hK) | (refine hK _ _ ?_; clear hK) | (clear hK; refine hK _ ?_; clear hK) | (clear hK; clear hK; refine hK _ ?_; clear hK) | (clear hK; clear hK; clear hK; refine hK _ ?_; clear hK) | (clear hK; clear hK; clear hK; clear hK; refine hK _ ?_; clear hK) | (refine wSeq fun K hK => ?_) | ((first | refine wReg ?_ | refine wDrwQ rfl (by kernel_rfl) ?_ | refine wDrwI ?_ | refine wDrw (by kernel_rfl) ?_); simp only [List.map_cons, List.map_nil, strip]) | ((first | refine wIs fun K hK => ?_ | refine wOs fun K hK => ?_ | refine wQs fun K hK => ?_ | refine CallK_plain ?_ | refine CallQ_plain ?_ | refine CallR_plain ?_ | refine wCond ?_); simp) | (refine wIn ?_; refine And.intro (by kernel_rfl) ?_; try simp only [thenA_n]) | (first | refine wBlock ?_ | refine wScope ?_) | ((first | refine wRet ?_ | refine wExit ?_ | refine wSkip ?_); try simp) | ((first | refine wLabel ?_ | refine wOn ?_ | refine wQn ?_); try simp only [thenA_n])
  refine wLoop (fun N st => ∃ k, k + N = h.lg.length ∧ st.s 10 = .p (.sl 8 (txns h.lg)) ∧ st.s 11 = .p (I h.lg.length) ∧ st.s 12 = .p (I k) ∧ (k = 0 ∧ st.s 3 = .full 2 (zxs (M.take 1)) ∨ 0 < k ∧ st.s 3 = .row 20 ∧ st.b 20 = some (.row 25 2 (zxs (M.take (k + 1)))))) h.lg.length ⟨0, by simp [hz0, zxs]⟩ fun K N st hL ⟨k, hk, g10, g11, g12, hc⟩ => ?_
  by_cases hlt : k < h.lg.length
  · have hw := wrapS k _ hlt (by omega)
    have he := txns_get hlt
    have hs := zxs_app (M.take (k + 1)) [⟨h.lg[k].e, h.lg[k].n⟩]
    rw [← hmt k hlt] at hs
    have hs' : zxs (M.take (k + 1)) ++ [[I h.lg[k].e, I h.lg[k].n]] = zxs (M.take (k + 1 + 1)) := hs.symm
    have hw1 : IntKind.i64.wrap 1 = 1 := by rw [wrap_id] <;> omega
    have hln : (zxs (M.take (k + 1))).length ≤ 1001 := by rw [zxs_len, List.length_take]; omega
    rcases hc with ⟨rfl, g3⟩ | ⟨hk0, g3, b20⟩
    · repeat' first | (refine Or.inl ?_) | (refine And.intro (by (try simp); omega) ?_) | (refine hK _ ?_; clear hK) | (refine hK _ _ ?_; clear hK) | (clear hK; refine hK _ ?_; clear hK) | (clear hK; clear hK; refine hK _ ?_; clear hK) | (clear hK; clear hK; clear hK; refine hK _ ?_; clear hK) | (clear hK; clear hK; clear hK; clear hK; refine hK _ ?_; clear hK) | (refine wSeq fun K hK => ?_) | ((first | refine wReg ?_ | refine wDrwQ rfl (by kernel_rfl) ?_ | refine wDrwI ?_ | refine wDrw (by kernel_rfl) ?_); simp only [List.map_cons, List.map_nil, strip]) | ((first | refine wIs fun K hK => ?_ | refine wOs fun K hK => ?_ | refine wQs fun K hK => ?_ | refine CallK_plain ?_ | refine CallQ_plain ?_ | refine CallR_plain ?_ | refine wCond ?_); simp [g10, g11, g12, g3, hlt, hw, he]) | (refine wIn ?_; refine And.intro (by kernel_rfl) ?_; try simp only [thenA_n]) | (first | refine wBlock ?_ | refine wScope ?_) | ((first | refine wRet ?_ | refine wExit ?_ | refine wSkip ?_); try simp) | ((first | refine wLabel ?_ | refine wOn ?_ | refine wQn ?_); try simp only [thenA_n])
      refine hL _ (N - 1) (by omega) ⟨1, by omega, ?_⟩
      simp only [Nat.zero_add] at hs'
      simp [g10, g11, hw1, hs']
    · repeat' first | (refine And.intro (by (try simp); omega) ?_) | (refine hK _ ?_; clear hK) | (refine hK _ _ ?_; clear hK) | (clear hK; refine hK _ ?_; clear hK) | (clear hK; clear hK; refine hK _ ?_; clear hK) | (clear hK; clear hK; clear hK; refine hK _ ?_; clear hK) | (clear hK; clear hK; clear hK; clear hK; refine hK _ ?_; clear hK) | (refine wSeq fun K hK => ?_) | ((first | refine wReg ?_ | refine wDrwQ rfl (by kernel_rfl) ?_ | refine wDrwI ?_ | refine wDrw (by kernel_rfl) ?_); simp only [List.map_cons, List.map_nil, strip]) | ((first | refine wIs fun K hK => ?_ | refine wOs fun K hK => ?_ | refine wQs fun K hK => ?_ | refine CallK_plain ?_ | refine CallQ_plain ?_ | refine CallR_plain ?_ | refine wCond ?_); simp [g10, g11, g12, g3, b20, hlt, hw, he]) | (refine wIn ?_; refine And.intro (by kernel_rfl) ?_; try simp only [thenA_n]) | (first | refine wBlock ?_ | refine wScope ?_) | ((first | refine wRet ?_ | refine wExit ?_ | refine wSkip ?_); try simp) | ((first | refine wLabel ?_ | refine wOn ?_ | refine wQn ?_); try simp only [thenA_n])
      refine hL _ (N - 1) (by omega) ⟨k + 1, by omega, ?_⟩
      simp [g10, g11, g3, b20, hw, hs']
  · have hk0 : k = h.lg.length := by omega
    rcases hc with ⟨h0, g3⟩ | ⟨hk0, g3, b20⟩
    · rw [List.take_of_length_le (by omega)] at g3
      repeat' first | (refine hK _ ?_; clear hK) | (refine hK _ _ ?_; clear hK) | (clear hK; refine hK _ ?_; clear hK) | (clear hK; clear hK; refine hK _ ?_; clear hK) | (clear hK; clear hK; clear hK; refine hK _ ?_; clear hK) | (clear hK; clear hK; clear hK; clear hK; refine hK _ ?_; clear hK) | (refine wSeq fun K hK => ?_) | ((first | refine wReg ?_ | refine wDrwQ rfl (by kernel_rfl) ?_ | refine wDrwI ?_ | refine wDrw (by kernel_rfl) ?_); simp only [List.map_cons, List.map_nil, strip]) | ((first | refine wIs fun K hK => ?_ | refine wOs fun K hK => ?_ | refine wQs fun K hK => ?_ | refine CallK_plain ?_ | refine CallQ_plain ?_ | refine CallR_plain ?_ | refine wCond ?_); simp [g10, g11, g12, g3, hlt]) | (refine wIn ?_; refine And.intro (by kernel_rfl) ?_; try simp only [thenA_n]) | (first | refine wBlock ?_ | refine wScope ?_) | ((first | refine wRet ?_ | refine wExit ?_ | refine wSkip ?_); try simp) | ((first | refine wLabel ?_ | refine wOn ?_ | refine wQn ?_); try simp only [thenA_n])
      all_goals apply hr
      all_goals simp [Try.f57, g3]
    · rw [List.take_of_length_le (by omega)] at b20
      repeat' first | (refine hK _ ?_; clear hK) | (refine hK _ _ ?_; clear hK) | (clear hK; refine hK _ ?_; clear hK) | (clear hK; clear hK; refine hK _ ?_; clear hK) | (clear hK; clear hK; clear hK; refine hK _ ?_; clear hK) | (clear hK; clear hK; clear hK; clear hK; refine hK _ ?_; clear hK) | (refine wSeq fun K hK => ?_) | ((first | refine wReg ?_ | refine wDrwQ rfl (by kernel_rfl) ?_ | refine wDrwI ?_ | refine wDrw (by kernel_rfl) ?_); simp only [List.map_cons, List.map_nil, strip]) | ((first | refine wIs fun K hK => ?_ | refine wOs fun K hK => ?_ | refine wQs fun K hK => ?_ | refine CallK_plain ?_ | refine CallQ_plain ?_ | refine CallR_plain ?_ | refine wCond ?_); simp [g10, g11, g12, g3, b20, hlt]) | (refine wIn ?_; refine And.intro (by kernel_rfl) ?_; try simp only [thenA_n]) | (first | refine wBlock ?_ | refine wScope ?_) | ((first | refine wRet ?_ | refine wExit ?_ | refine wSkip ?_); try simp) | ((first | refine wLabel ?_ | refine wOn ?_ | refine wQn ?_); try simp only [thenA_n])
      all_goals apply hr
      all_goals simp [Try.f57, g3, b20]
/-! ### The plan -/
theorem ownStateP_con (ns ss ms : List (List PV)) (nx e n k ae an : Int) (h1 : ns.length ≤ 1000000) (h2 : ss.length ≤ 1000000) (h3 : ms.length ≤ 4398046510976) :
    ACon Try.prog 84 [.p (.agg [.sl 5 ns, .sl 1 ss, I nx, I e, I n, I k, .sl 4 ms, I ae, I an])] (.p (.agg [.sl 5 ns, .sl 1 ss, I nx, I e, I n, I k, .sl 4 ms, I ae, I an])) := by
  have c1 := cloneZ ns h1
  have c2 := cloneI ss h2
  have c3 := ownConfig_con e n k ms h3
  refine wBody Try.tab Try.mixed Try.func84 rfl rfl Try.ntmps84 (by simp) (by simp) fun Q hr hn => ?_
  repeat' first | (refine hK _ ?_; clear hK) | (refine hK _ _ ?_; clear hK) | (clear hK; refine hK _ ?_; clear hK) | (clear hK; clear hK; refine hK _ ?_; clear hK) | (clear hK; clear hK; clear hK; refine hK _ ?_; clear hK) | (clear hK; clear hK; clear hK; clear hK; refine hK _ ?_; clear hK) | (refine wSeq fun K hK => ?_) | ((first | refine wReg ?_ | refine wDrwQ rfl (by kernel_rfl) ?_ | refine wDrwI ?_ | refine wDrw (by kernel_rfl) ?_); simp only [List.map_cons, List.map_nil, strip]) | ((first | refine wIs fun K hK => ?_ | refine wOs fun K hK => ?_ | refine wQs fun K hK => ?_ | refine CallK_plain ?_ | refine CallQ_plain ?_ | refine CallR_plain ?_ | refine wCond ?_); simp) | (refine wIn ?_; refine And.intro (by kernel_rfl) ?_; try simp only [thenA_n]) | (first | refine wBlock ?_ | refine wScope ?_) | ((first | refine wRet ?_ | refine wExit ?_ | refine wSkip ?_); try simp) | ((first | refine wLabel ?_ | refine wOn ?_ | refine wQn ?_); try simp only [thenA_n]) | (refine CallE.pure (c1) rfl ?_) | (refine CallE.lent (c1) rfl ?_) | (refine CallF.pure (c1) rfl ?_) | (refine CallF.lent (c1) rfl ?_) | (refine CallE.own (c1) ?_) | (refine CallH.pure (c1) rfl ?_) | (refine CallH.lent (c1) rfl ?_) | (refine CallH.own (c1) ?_) | (refine CallE.pure (c2) rfl ?_) | (refine CallE.lent (c2) rfl ?_) | (refine CallF.pure (c2) rfl ?_) | (refine CallF.lent (c2) rfl ?_) | (refine CallE.own (c2) ?_) | (refine CallH.pure (c2) rfl ?_) | (refine CallH.lent (c2) rfl ?_) | (refine CallH.own (c2) ?_) | (refine CallE.pure (c3) rfl ?_) | (refine CallE.lent (c3) rfl ?_) | (refine CallF.pure (c3) rfl ?_) | (refine CallF.lent (c3) rfl ?_) | (refine CallE.own (c3) ?_) | (refine CallH.pure (c3) rfl ?_) | (refine CallH.lent (c3) rfl ?_) | (refine CallH.own (c3) ?_)
  all_goals apply hr
  all_goals simp [Try.f84]
theorem ownHist_con (h : Hy) (hk : OkH h) : ACon Try.prog 67 [.p (.agg h.cells)] (.p (.agg h.cells)) := by
  have c1 := ownStateP_con (zns h.im.ns) (ints h.im.ss) (mbs h.im.c.ms) h.im.nx h.im.c.ep h.im.c.n h.im.c.kind h.im.ae h.im.an (by have := hk.ns; simp; omega) (by have := hk.ss; simp; omega) (by have := hk.c; simp; omega)
  have c2 := (ownTxns_con h.lg hk.lg hk.ps).toPure
  unfold Hy.cells
  refine wBody Try.tab Try.mixed Try.func67 rfl rfl Try.ntmps67 (by simp) (by simp) fun Q hr hn => ?_
  repeat' first | (refine CallE.pure (c1) rfl ?_) | (refine CallE.lent (c1) rfl ?_) | (refine CallF.pure (c1) rfl ?_) | (refine CallF.lent (c1) rfl ?_) | (refine CallE.own (c1) ?_) | (refine CallH.pure (c1) rfl ?_) | (refine CallH.lent (c1) rfl ?_) | (refine CallH.own (c1) ?_) | (refine CallE.pure (c2) rfl ?_) | (refine CallE.lent (c2) rfl ?_) | (refine CallF.pure (c2) rfl ?_) | (refine CallF.lent (c2) rfl ?_) | (refine CallE.own (c2) ?_) | (refine CallH.pure (c2) rfl ?_) | (refine CallH.lent (c2) rfl ?_) | (refine CallH.own (c2) ?_) | (refine hK _ ?_; clear hK) | (refine hK _ _ ?_; clear hK) | (clear hK; refine hK _ ?_; clear hK) | (clear hK; clear hK; refine hK _ ?_; clear hK) | (clear hK; clear hK; clear hK; refine hK _ ?_; clear hK) | (clear hK; clear hK; clear hK; clear hK; refine hK _ ?_; clear hK) | (refine wSeq fun K hK => ?_) | ((first | refine wReg ?_ | refine wDrwQ rfl (by kernel_rfl) ?_ | refine wDrwI ?_ | refine wDrw (by kernel_rfl) ?_); simp only [List.map_cons, List.map_nil, strip]) | ((first | refine wIs fun K hK => ?_ | refine wOs fun K hK => ?_ | refine wQs fun K hK => ?_ | refine CallK_plain ?_ | refine CallQ_plain ?_ | refine CallR_plain ?_ | refine wCond ?_); simp) | (refine wIn ?_; refine And.intro (by kernel_rfl) ?_; try simp only [thenA_n]) | (first | refine wBlock ?_ | refine wScope ?_) | ((first | refine wRet ?_ | refine wExit ?_ | refine wSkip ?_); try simp) | ((first | refine wLabel ?_ | refine wOn ?_ | refine wQn ?_); try simp only [thenA_n])
  all_goals apply hr
  all_goals simp [Try.f67]
theorem ownH_con (h : Hy) (hk : OkH h) : ACon Try.prog 79 [.p (.agg h.cells)] (.p (.agg h.cells)) := by
  have c1 := ownHist_con h hk
  unfold Hy.cells at *
  refine wBody Try.tab Try.mixed Try.func79 rfl rfl Try.ntmps79 (by simp) (by simp) fun Q hr hn => ?_
  repeat' first | (refine CallE.pure (c1) rfl ?_) | (refine CallE.lent (c1) rfl ?_) | (refine CallF.pure (c1) rfl ?_) | (refine CallF.lent (c1) rfl ?_) | (refine CallE.own (c1) ?_) | (refine CallH.pure (c1) rfl ?_) | (refine CallH.lent (c1) rfl ?_) | (refine CallH.own (c1) ?_) | (refine hK _ ?_; clear hK) | (refine hK _ _ ?_; clear hK) | (clear hK; refine hK _ ?_; clear hK) | (clear hK; clear hK; refine hK _ ?_; clear hK) | (clear hK; clear hK; clear hK; refine hK _ ?_; clear hK) | (clear hK; clear hK; clear hK; clear hK; refine hK _ ?_; clear hK) | (refine wSeq fun K hK => ?_) | ((first | refine wReg ?_ | refine wDrwQ rfl (by kernel_rfl) ?_ | refine wDrwI ?_ | refine wDrw (by kernel_rfl) ?_); simp only [List.map_cons, List.map_nil, strip]) | ((first | refine wIs fun K hK => ?_ | refine wOs fun K hK => ?_ | refine wQs fun K hK => ?_ | refine CallK_plain ?_ | refine CallQ_plain ?_ | refine CallR_plain ?_ | refine wCond ?_); simp) | (refine wIn ?_; refine And.intro (by kernel_rfl) ?_; try simp only [thenA_n]) | (first | refine wBlock ?_ | refine wScope ?_) | ((first | refine wRet ?_ | refine wExit ?_ | refine wSkip ?_); try simp) | ((first | refine wLabel ?_ | refine wOn ?_ | refine wQn ?_); try simp only [thenA_n])
  all_goals apply hr
  all_goals simp [Try.f79]
/- The plan that makes one history of another: history.Make. -/
/- Histories: one grown, cut, done by a plan: the program's. -/
def hyCells (h : Hy) (X : Fc) : List Fc := [.p (.sl 5 (zns h.im.ns)), .p (.sl 1 (ints h.im.ss)), .p (I h.im.nx), .p (I h.im.c.ep), .p (I h.im.c.n), .p (I h.im.c.kind), .p (.sl 4 (mbs h.im.c.ms)), .p (I h.im.ae), .p (I h.im.an), X]
/-- Own, its log a row of the caller's. -/
theorem ownHistR_con (h : Hy) (hk : OkH h) : Con Try.prog 67 [.p (.agg h.cells)] [] (.ret (.ag (hyCells h (.row 2048))) [.row 58 8 (txns h.lg)] []) := by
  have c1 := ownStateP_con (zns h.im.ns) (ints h.im.ss) (mbs h.im.c.ms) h.im.nx h.im.c.ep h.im.c.n h.im.c.kind h.im.ae h.im.an (by have := hk.ns; simp; omega) (by have := hk.ss; simp; omega) (by have := hk.c; simp; omega)
  have c2 := ownTxns_con h.lg hk.lg hk.ps
  unfold Hy.cells hyCells
  refine wBodyG Try.tab Try.mixed Try.func67 rfl rfl Try.ntmps67 (by simp) (by simp) fun Q hr hn hp => ?_
  repeat' first | (refine CallE.pure (c1) rfl ?_) | (refine CallE.lent (c1) rfl ?_) | (refine CallF.pure (c1) rfl ?_) | (refine CallF.lent (c1) rfl ?_) | (refine CallE.own (c1) ?_) | (refine CallH.pure (c1) rfl ?_) | (refine CallH.lent (c1) rfl ?_) | (refine CallH.own (c1) ?_) | (refine CallE.pure (c2) rfl ?_) | (refine CallE.lent (c2) rfl ?_) | (refine CallF.pure (c2) rfl ?_) | (refine CallF.lent (c2) rfl ?_) | (refine CallE.own (c2) ?_) | (refine CallH.pure (c2) rfl ?_) | (refine CallH.lent (c2) rfl ?_) | (refine CallH.own (c2) ?_) | (refine hK _ ?_; clear hK) | (refine hK _ _ ?_; clear hK) | (clear hK; refine hK _ ?_; clear hK) | (clear hK; clear hK; refine hK _ ?_; clear hK) | (clear hK; clear hK; clear hK; refine hK _ ?_; clear hK) | (clear hK; clear hK; clear hK; clear hK; refine hK _ ?_; clear hK) | (refine wSeq fun K hK => ?_) | ((first | refine wReg ?_ | refine wDrwQ rfl (by kernel_rfl) ?_ | refine wDrwI ?_ | refine wDrw (by kernel_rfl) ?_); simp only [List.map_cons, List.map_nil, strip]) | ((first | refine wIs fun K hK => ?_ | refine wOs fun K hK => ?_ | refine wQs fun K hK => ?_ | refine CallK_plain ?_ | refine CallQ_plain ?_ | refine CallR_plain ?_ | refine wCond ?_); simp) | (refine wIn ?_; refine And.intro (by kernel_rfl) ?_; try simp only [thenA_n]) | (first | refine wBlock ?_ | refine wScope ?_) | ((first | refine wRet ?_ | refine wExit ?_ | refine wSkip ?_); try simp) | ((first | refine wLabel ?_ | refine wOn ?_ | refine wQn ?_); try simp only [thenA_n])
  all_goals apply hr
  all_goals refine ⟨[8], by simp, by simp, ?_⟩
  all_goals simp [Try.f67, outR, outB, renB]
theorem ownHR_con (h : Hy) (hk : OkH h) : Con Try.prog 79 [.p (.agg h.cells)] [] (.ret (.ag (hyCells h (.row 2048))) [.row 58 8 (txns h.lg)] []) := by
  have c1 := ownHistR_con h hk
  unfold Hy.cells hyCells at *
  refine wBodyG Try.tab Try.mixed Try.func79 rfl rfl Try.ntmps79 (by simp) (by simp) fun Q hr hn hp => ?_
  repeat' first | (refine CallK_gen [] (c1) (by decide) (by decide) (by simp [blksOf]) (by simp [argsG, argG, ren0, inN, pos, renCs, renC, toP, toPF]) ⟨[500], by simp, by simp, ?_⟩; simp [lv, ouN, kpI, kpR, pos, ren, ren0, renB, renC, renCs, renF, renFs]) | (refine hK _ ?_; clear hK) | (refine hK _ _ ?_; clear hK) | (clear hK; refine hK _ ?_; clear hK) | (clear hK; clear hK; refine hK _ ?_; clear hK) | (clear hK; clear hK; clear hK; refine hK _ ?_; clear hK) | (clear hK; clear hK; clear hK; clear hK; refine hK _ ?_; clear hK) | (refine wSeq fun K hK => ?_) | ((first | refine wReg ?_ | refine wDrwQ rfl (by kernel_rfl) ?_ | refine wDrwI ?_ | refine wDrw (by kernel_rfl) ?_); simp only [List.map_cons, List.map_nil, strip]) | ((first | refine wIs fun K hK => ?_ | refine wOs fun K hK => ?_ | refine wQs fun K hK => ?_ | refine CallK_plain ?_ | refine CallQ_plain ?_ | refine CallR_plain ?_ | refine wCond ?_); simp) | (refine wIn ?_; refine And.intro (by kernel_rfl) ?_; try simp only [thenA_n]) | (first | refine wBlock ?_ | refine wScope ?_) | ((first | refine wRet ?_ | refine wExit ?_ | refine wSkip ?_); try simp) | ((first | refine wLabel ?_ | refine wOn ?_ | refine wQn ?_); try simp only [thenA_n])
  all_goals apply hr
  all_goals refine ⟨[500], by simp, by simp, ?_⟩
  all_goals simp [Try.f79, outR, outB, renB]
def follows (z : Zx) : List Tx → Bool
  | [] => true
  | t :: l => if zcmp t.e t.n z.e z.n ≤ 0 then false else follows ⟨t.e, t.n⟩ l
theorem follows_con (z : Zx) (l : List Tx) (hl : l.length ≤ 1000) : ACon Try.prog 91 [.p (.agg [I z.e, I z.n]), .p (.sl 8 (txns l))] (.p (B (follows z l))) := by
  refine wBody Try.tab Try.mixed Try.func91 rfl rfl Try.ntmps91 (by simp) (by simp) fun Q hr hn => ?_
  repeat' first | (refine hK _ ?_; clear hK) | (refine hK _ _ ?_; clear hK) | (clear hK; refine hK _ ?_; clear hK) | (clear hK; clear hK; refine hK _ ?_; clear hK) | (clear hK; clear hK; clear hK; refine hK _ ?_; clear hK) | (clear hK; clear hK; clear hK; clear hK; refine hK _ ?_; clear hK) | (refine wSeq fun K hK => ?_) | ((first | refine wReg ?_ | refine wDrwQ rfl (by kernel_rfl) ?_ | refine wDrwI ?_ | refine wDrw (by kernel_rfl) ?_); simp only [List.map_cons, List.map_nil, strip]) | ((first | refine wIs fun K hK => ?_ | refine wOs fun K hK => ?_ | refine wQs fun K hK => ?_ | refine CallK_plain ?_ | refine CallQ_plain ?_ | refine CallR_plain ?_ | refine wCond ?_); simp) | (refine wIn ?_; refine And.intro (by kernel_rfl) ?_; try simp only [thenA_n]) | (first | refine wBlock ?_ | refine wScope ?_) | ((first | refine wRet ?_ | refine wExit ?_ | refine wSkip ?_); try simp) | ((first | refine wLabel ?_ | refine wOn ?_ | refine wQn ?_); try simp only [thenA_n])
  refine wLoop (fun N st => ∃ (k : Nat) (y : Zx), k + N = l.length ∧ st.s 2 = .ptr 2 0 ∧ st.b 2 = some (.box 25 [.p (I y.e), .p (I y.n)]) ∧ st.s 7 = .p (.sl 8 (txns l)) ∧ st.s 8 = .p (I l.length) ∧ st.s 9 = .p (I k) ∧ follows y (l.drop k) = follows z l) l.length ⟨0, z, by simp⟩ fun K N st hL ⟨k, y, hk, g2, b2, g7, g8, g9, hi⟩ => ?_
  by_cases hlt : k < l.length
  · have hw := wrapS k _ hlt (by omega)
    have he := txns_get hlt
    rw [List.drop_eq_getElem_cons hlt, follows] at hi
    have cc := cmp_con l[k].e l[k].n y.e y.n
    by_cases o : zcmp l[k].e l[k].n y.e y.n ≤ 0
    · rw [if_pos o] at hi
      rw [← hi] at hr
      generalize zcmp l[k].e l[k].n y.e y.n = q at *
      repeat' first | (refine CallE.pure (cc) rfl ?_) | (refine CallE.lent (cc) rfl ?_) | (refine CallF.pure (cc) rfl ?_) | (refine CallF.lent (cc) rfl ?_) | (refine CallE.own (cc) ?_) | (refine CallH.pure (cc) rfl ?_) | (refine CallH.lent (cc) rfl ?_) | (refine CallH.own (cc) ?_) | (refine hK _ ?_; clear hK) | (refine hK _ _ ?_; clear hK) | (clear hK; refine hK _ ?_; clear hK) | (clear hK; clear hK; refine hK _ ?_; clear hK) | (clear hK; clear hK; clear hK; refine hK _ ?_; clear hK) | (clear hK; clear hK; clear hK; clear hK; refine hK _ ?_; clear hK) | (refine wSeq fun K hK => ?_) | ((first | refine wReg ?_ | refine wDrwQ rfl (by kernel_rfl) ?_ | refine wDrwI ?_ | refine wDrw (by kernel_rfl) ?_); simp only [List.map_cons, List.map_nil, strip]) | ((first | refine wIs fun K hK => ?_ | refine wOs fun K hK => ?_ | refine wQs fun K hK => ?_ | refine CallK_plain ?_ | refine CallQ_plain ?_ | refine CallR_plain ?_ | refine wCond ?_); simp [g2, b2, g7, g8, g9, hlt, hw, he, o]) | (refine wIn ?_; refine And.intro (by kernel_rfl) ?_; try simp only [thenA_n]) | (first | refine wBlock ?_ | refine wScope ?_) | ((first | refine wRet ?_ | refine wExit ?_ | refine wSkip ?_); try simp) | ((first | refine wLabel ?_ | refine wOn ?_ | refine wQn ?_); try simp only [thenA_n])
      all_goals apply hr
      all_goals simp [Try.f91]
    · rw [if_neg o] at hi
      generalize zcmp l[k].e l[k].n y.e y.n = q at *
      repeat' first | (refine CallE.pure (cc) rfl ?_) | (refine CallE.lent (cc) rfl ?_) | (refine CallF.pure (cc) rfl ?_) | (refine CallF.lent (cc) rfl ?_) | (refine CallE.own (cc) ?_) | (refine CallH.pure (cc) rfl ?_) | (refine CallH.lent (cc) rfl ?_) | (refine CallH.own (cc) ?_) | (refine hK _ ?_; clear hK) | (refine hK _ _ ?_; clear hK) | (clear hK; refine hK _ ?_; clear hK) | (clear hK; clear hK; refine hK _ ?_; clear hK) | (clear hK; clear hK; clear hK; refine hK _ ?_; clear hK) | (clear hK; clear hK; clear hK; clear hK; refine hK _ ?_; clear hK) | (refine wSeq fun K hK => ?_) | ((first | refine wReg ?_ | refine wDrwQ rfl (by kernel_rfl) ?_ | refine wDrwI ?_ | refine wDrw (by kernel_rfl) ?_); simp only [List.map_cons, List.map_nil, strip]) | ((first | refine wIs fun K hK => ?_ | refine wOs fun K hK => ?_ | refine wQs fun K hK => ?_ | refine CallK_plain ?_ | refine CallQ_plain ?_ | refine CallR_plain ?_ | refine wCond ?_); simp [g2, b2, g7, g8, g9, hlt, hw, he, o]) | (refine wIn ?_; refine And.intro (by kernel_rfl) ?_; try simp only [thenA_n]) | (first | refine wBlock ?_ | refine wScope ?_) | ((first | refine wRet ?_ | refine wExit ?_ | refine wSkip ?_); try simp) | ((first | refine wLabel ?_ | refine wOn ?_ | refine wQn ?_); try simp only [thenA_n])
      refine hL _ (N - 1) (by omega) ⟨k + 1, ⟨l[k].e, l[k].n⟩, by omega, ?_⟩
      simp [g2, b2, g7, g8, hw, hi]
  · rw [List.drop_of_length_le (by omega), follows] at hi
    rw [← hi] at hr
    repeat' first | (refine hK _ ?_; clear hK) | (refine hK _ _ ?_; clear hK) | (clear hK; refine hK _ ?_; clear hK) | (clear hK; clear hK; refine hK _ ?_; clear hK) | (clear hK; clear hK; clear hK; refine hK _ ?_; clear hK) | (clear hK; clear hK; clear hK; clear hK; refine hK _ ?_; clear hK) | (refine wSeq fun K hK => ?_) | ((first | refine wReg ?_ | refine wDrwQ rfl (by kernel_rfl) ?_ | refine wDrwI ?_ | refine wDrw (by kernel_rfl) ?_); simp only [List.map_cons, List.map_nil, strip]) | ((first | refine wIs fun K hK => ?_ | refine wOs fun K hK => ?_ | refine wQs fun K hK => ?_ | refine CallK_plain ?_ | refine CallQ_plain ?_ | refine CallR_plain ?_ | refine wCond ?_); simp [g2, b2, g7, g8, g9, hlt]) | (refine wIn ?_; refine And.intro (by kernel_rfl) ?_; try simp only [thenA_n]) | (first | refine wBlock ?_ | refine wScope ?_) | ((first | refine wRet ?_ | refine wExit ?_ | refine wSkip ?_); try simp) | ((first | refine wLabel ?_ | refine wOn ?_ | refine wQn ?_); try simp only [thenA_n])
    all_goals apply hr
    all_goals simp [Try.f91]
def lastH (h : Hy) : Zx := if h.lg.length = 0 then ⟨h.im.ae, h.im.an⟩ else ⟨(h.lg.getD (h.lg.length - 1) tx0).e, (h.lg.getD (h.lg.length - 1) tx0).n⟩
theorem lastH_con (h : Hy) (hl : h.lg.length ≤ 1000) : ACon Try.prog 61 [.p (.agg h.cells)] (.p (.agg [I (lastH h).e, I (lastH h).n])) := by
  have cb := base_con h
  unfold lastH
  by_cases h0 : h.lg.length = 0
  · have h0' : (h.lg.length : Int) = 0 := by omega
    rw [if_pos h0]
    unfold Hy.cells at *
    refine wBody Try.tab Try.mixed Try.func61 rfl rfl Try.ntmps61 (by simp) (by simp) fun Q hr hn => ?_
    repeat' first | (refine CallE.pure (cb) rfl ?_) | (refine CallE.lent (cb) rfl ?_) | (refine CallF.pure (cb) rfl ?_) | (refine CallF.lent (cb) rfl ?_) | (refine CallE.own (cb) ?_) | (refine CallH.pure (cb) rfl ?_) | (refine CallH.lent (cb) rfl ?_) | (refine CallH.own (cb) ?_) | (refine hK _ ?_; clear hK) | (refine hK _ _ ?_; clear hK) | (clear hK; refine hK _ ?_; clear hK) | (clear hK; clear hK; refine hK _ ?_; clear hK) | (clear hK; clear hK; clear hK; refine hK _ ?_; clear hK) | (clear hK; clear hK; clear hK; clear hK; refine hK _ ?_; clear hK) | (refine wSeq fun K hK => ?_) | ((first | refine wReg ?_ | refine wDrwQ rfl (by kernel_rfl) ?_ | refine wDrwI ?_ | refine wDrw (by kernel_rfl) ?_); simp only [List.map_cons, List.map_nil, strip]) | ((first | refine wIs fun K hK => ?_ | refine wOs fun K hK => ?_ | refine wQs fun K hK => ?_ | refine CallK_plain ?_ | refine CallQ_plain ?_ | refine CallR_plain ?_ | refine wCond ?_); simp [h0, h0']) | (refine wIn ?_; refine And.intro (by kernel_rfl) ?_; try simp only [thenA_n]) | (first | refine wBlock ?_ | refine wScope ?_) | ((first | refine wRet ?_ | refine wExit ?_ | refine wSkip ?_); try simp) | ((first | refine wLabel ?_ | refine wOn ?_ | refine wQn ?_); try simp only [thenA_n])
    all_goals apply hr
    all_goals simp [Try.f61]
  · have h0' : ¬ (h.lg.length : Int) = 0 := by omega
    rw [if_neg h0]
    have hlt : h.lg.length - 1 < h.lg.length := by omega
    have hg : h.lg.getD (h.lg.length - 1) tx0 = h.lg[h.lg.length - 1] := by rw [List.getD_eq_getElem?_getD, List.getElem?_eq_getElem hlt]; rfl
    rw [hg]
    have hw : IntKind.i64.wrap ((h.lg.length : Int) - 1) = ((h.lg.length - 1 : Nat) : Int) := by rw [wrap_id] <;> omega
    have he := txns_get hlt
    generalize h.lg.length - 1 = j at *
    unfold Hy.cells at *
    refine wBody Try.tab Try.mixed Try.func61 rfl rfl Try.ntmps61 (by simp) (by simp) fun Q hr hn => ?_
    repeat' first | (refine CallE.pure (cb) rfl ?_) | (refine CallE.lent (cb) rfl ?_) | (refine CallF.pure (cb) rfl ?_) | (refine CallF.lent (cb) rfl ?_) | (refine CallE.own (cb) ?_) | (refine CallH.pure (cb) rfl ?_) | (refine CallH.lent (cb) rfl ?_) | (refine CallH.own (cb) ?_) | (refine hK _ ?_; clear hK) | (refine hK _ _ ?_; clear hK) | (clear hK; refine hK _ ?_; clear hK) | (clear hK; clear hK; refine hK _ ?_; clear hK) | (clear hK; clear hK; clear hK; refine hK _ ?_; clear hK) | (clear hK; clear hK; clear hK; clear hK; refine hK _ ?_; clear hK) | (refine wSeq fun K hK => ?_) | ((first | refine wReg ?_ | refine wDrwQ rfl (by kernel_rfl) ?_ | refine wDrwI ?_ | refine wDrw (by kernel_rfl) ?_); simp only [List.map_cons, List.map_nil, strip]) | ((first | refine wIs fun K hK => ?_ | refine wOs fun K hK => ?_ | refine wQs fun K hK => ?_ | refine CallK_plain ?_ | refine CallQ_plain ?_ | refine CallR_plain ?_ | refine wCond ?_); simp [h0, h0', hw, hlt, he]) | (refine wIn ?_; refine And.intro (by kernel_rfl) ?_; try simp only [thenA_n]) | (first | refine wBlock ?_ | refine wScope ?_) | ((first | refine wRet ?_ | refine wExit ?_ | refine wSkip ?_); try simp) | ((first | refine wLabel ?_ | refine wOn ?_ | refine wQn ?_); try simp only [thenA_n])
    all_goals apply hr
    all_goals simp [Try.f61]
def growOk (h : Hy) (l : List Tx) : Bool := follows (lastH h) l
set_option maxHeartbeats 1000000 in
theorem grow_con (h : Hy) (l : List Tx) (hk : OkH h) (hl : l.length ≤ 1000) (hp : ∀ x ∈ l, x.ps.length ≤ 1000 ∧ ∀ p ∈ x.ps, p.c.ms.length ≤ 1000) :
    ACon Try.prog 80 [.p (.agg h.cells), .p (.sl 8 (txns l))] (.tup [.p (.agg (if growOk h l = true then { h with lg := h.lg ++ l } else h).cells), .p (I (if growOk h l = true then 0 else 1))]) := by
  have c1 := ownHR_con h hk
  have c2 := lastH_con h hk.lg
  have c3 := follows_con (lastH h) l hl
  have c4 := (ownTxns_con l hl hp).toPure
  have ha : txns h.lg ++ txns l = txns (h.lg ++ l) := by simp [txns]
  have hlg := hk.lg
  unfold growOk
  generalize follows (lastH h) l = b at *
  generalize lastH h = z at *
  cases b
  · simp only [Bool.false_eq_true, if_false]
    unfold Hy.cells hyCells at *
    refine wBody Try.tab Try.mixed Try.func80 rfl rfl Try.ntmps80 (by simp) (by simp) fun Q hr hn => ?_
    repeat' first | (refine CallK_gen [] (c1) (by decide) (by decide) (by simp [blksOf]) (by simp [argsG, argG, ren0, inN, pos, renCs, renC, toP, toPF]) ⟨[500], by simp, by simp, ?_⟩; simp [lv, ouN, kpI, kpR, pos, ren, ren0, renB, renC, renCs, renF, renFs]) | (refine CallE.pure (c2) rfl ?_) | (refine CallE.lent (c2) rfl ?_) | (refine CallF.pure (c2) rfl ?_) | (refine CallF.lent (c2) rfl ?_) | (refine CallE.own (c2) ?_) | (refine CallH.pure (c2) rfl ?_) | (refine CallH.lent (c2) rfl ?_) | (refine CallH.own (c2) ?_) | (refine CallE.pure (c3) rfl ?_) | (refine CallE.lent (c3) rfl ?_) | (refine CallF.pure (c3) rfl ?_) | (refine CallF.lent (c3) rfl ?_) | (refine CallE.own (c3) ?_) | (refine CallH.pure (c3) rfl ?_) | (refine CallH.lent (c3) rfl ?_) | (refine CallH.own (c3) ?_) | (refine hK _ ?_; clear hK) | (refine hK _ _ ?_; clear hK) | (clear hK; refine hK _ ?_; clear hK) | (clear hK; clear hK; refine hK _ ?_; clear hK) | (clear hK; clear hK; clear hK; refine hK _ ?_; clear hK) | (clear hK; clear hK; clear hK; clear hK; refine hK _ ?_; clear hK) | (refine wSeq fun K hK => ?_) | ((first | refine wReg ?_ | refine wDrwQ rfl (by kernel_rfl) ?_ | refine wDrwI ?_ | refine wDrw (by kernel_rfl) ?_); simp only [List.map_cons, List.map_nil, strip]) | ((first | refine wIs fun K hK => ?_ | refine wOs fun K hK => ?_ | refine wQs fun K hK => ?_ | refine CallK_plain ?_ | refine CallQ_plain ?_ | refine CallR_plain ?_ | refine wCond ?_); simp) | (refine wIn ?_; refine And.intro (by kernel_rfl) ?_; try simp only [thenA_n]) | (first | refine wBlock ?_ | refine wScope ?_) | ((first | refine wRet ?_ | refine wExit ?_ | refine wSkip ?_); try simp) | ((first | refine wLabel ?_ | refine wOn ?_ | refine wQn ?_); try simp only [thenA_n])
    all_goals apply hr
    all_goals simp [Try.f80]
  · simp only [if_true]
    unfold Hy.cells hyCells at *
    refine wBody Try.tab Try.mixed Try.func80 rfl rfl Try.ntmps80 (by simp) (by simp) fun Q hr hn => ?_
    repeat' first | (refine CallK_gen [] (c1) (by decide) (by decide) (by simp [blksOf]) (by simp [argsG, argG, ren0, inN, pos, renCs, renC, toP, toPF]) ⟨[500], by simp, by simp, ?_⟩; simp [lv, ouN, kpI, kpR, pos, ren, ren0, renB, renC, renCs, renF, renFs]) | (refine CallE.pure (c2) rfl ?_) | (refine CallE.lent (c2) rfl ?_) | (refine CallF.pure (c2) rfl ?_) | (refine CallF.lent (c2) rfl ?_) | (refine CallE.own (c2) ?_) | (refine CallH.pure (c2) rfl ?_) | (refine CallH.lent (c2) rfl ?_) | (refine CallH.own (c2) ?_) | (refine CallE.pure (c3) rfl ?_) | (refine CallE.lent (c3) rfl ?_) | (refine CallF.pure (c3) rfl ?_) | (refine CallF.lent (c3) rfl ?_) | (refine CallE.own (c3) ?_) | (refine CallH.pure (c3) rfl ?_) | (refine CallH.lent (c3) rfl ?_) | (refine CallH.own (c3) ?_) | (refine CallE.pure (c4) rfl ?_) | (refine CallE.lent (c4) rfl ?_) | (refine CallF.pure (c4) rfl ?_) | (refine CallF.lent (c4) rfl ?_) | (refine CallE.own (c4) ?_) | (refine CallH.pure (c4) rfl ?_) | (refine CallH.lent (c4) rfl ?_) | (refine CallH.own (c4) ?_) | (refine And.intro (by (try simp); omega) ?_) | (refine Or.inl ?_) | (refine hK _ ?_; clear hK) | (refine hK _ _ ?_; clear hK) | (clear hK; refine hK _ ?_; clear hK) | (clear hK; clear hK; refine hK _ ?_; clear hK) | (clear hK; clear hK; clear hK; refine hK _ ?_; clear hK) | (clear hK; clear hK; clear hK; clear hK; refine hK _ ?_; clear hK) | (refine wSeq fun K hK => ?_) | ((first | refine wReg ?_ | refine wDrwQ rfl (by kernel_rfl) ?_ | refine wDrwI ?_ | refine wDrw (by kernel_rfl) ?_); simp only [List.map_cons, List.map_nil, strip]) | ((first | refine wIs fun K hK => ?_ | refine wOs fun K hK => ?_ | refine wQs fun K hK => ?_ | refine CallK_plain ?_ | refine CallQ_plain ?_ | refine CallR_plain ?_ | refine wCond ?_); simp [ha]) | (refine wIn ?_; refine And.intro (by kernel_rfl) ?_; try simp only [thenA_n]) | (first | refine wBlock ?_ | refine wScope ?_) | ((first | refine wRet ?_ | refine wExit ?_ | refine wSkip ?_); try simp) | ((first | refine wLabel ?_ | refine wOn ?_ | refine wQn ?_); try simp only [thenA_n])
    all_goals apply hr
    all_goals simp [Try.f80, ha]
/- Histories: what is behind a mark, up to it; a plan done: the program's. -/
def plc (z : Zx) : List Zx → Nat → Option Nat
  | [], _ => none
  | m :: l, k => if m = z then some k else plc z l (k + 1)
theorem plc_lt (z : Zx) : ∀ (l : List Zx) (k n : Nat), plc z l k = some n → k ≤ n ∧ n < k + l.length
  | [], _, _, h => by simp [plc] at h
  | m :: l, k, n, h => by
    simp only [plc] at h
    by_cases o : m = z
    · rw [if_pos o] at h
      simp only [Option.some.injEq] at h
      simp only [List.length_cons]; omega
    · rw [if_neg o] at h
      have := plc_lt z l (k + 1) n h
      simp only [List.length_cons]; omega
def bhN (o : Option Nat) : Int := match o with
  | some n => n
  | none => 0
def bhE (o : Option Nat) : Int := match o with
  | some _ => 0
  | none => 6
theorem behind_con (h : Hy) (z : Zx) (hl : h.lg.length ≤ 1000) : ACon Try.prog 90 [.p (.agg h.cells), .p (.agg [I z.e, I z.n])] (.tup [.p (I (bhN (plc z (mks h) 0))), .p (I (bhE (plc z (mks h) 0)))]) := by
  have c1 := marks_con h hl
  have hml := mks_len h
  generalize mks h = M at *
  unfold Hy.cells at *
  refine wBody Try.tab Try.mixed Try.func90 rfl rfl Try.ntmps90 (by simp) (by simp) fun Q hr hn => ?_
  repeat' first | (refine CallE.pure (c1) rfl ?_) | (refine CallE.lent (c1) rfl ?_) | (refine CallF.pure (c1) rfl ?_) | (refine CallF.lent (c1) rfl ?_) | (refine CallE.own (c1) ?_) | (refine CallH.pure (c1) rfl ?_) | (refine CallH.lent (c1) rfl ?_) | (refine CallH.own (c1) ?_) | (refine hK _ ?_; clear hK) | (refine hK _ _ ?_; clear hK) | (clear hK; refine hK _ ?_; clear hK) | (clear hK; clear hK; refine hK _ ?_; clear hK) | (clear hK; clear hK; clear hK; refine hK _ ?_; clear hK) | (clear hK; clear hK; clear hK; clear hK; refine hK _ ?_; clear hK) | (refine wSeq fun K hK => ?_) | ((first | refine wReg ?_ | refine wDrwQ rfl (by kernel_rfl) ?_ | refine wDrwI ?_ | refine wDrw (by kernel_rfl) ?_); simp only [List.map_cons, List.map_nil, strip]) | ((first | refine wIs fun K hK => ?_ | refine wOs fun K hK => ?_ | refine wQs fun K hK => ?_ | refine CallK_plain ?_ | refine CallQ_plain ?_ | refine CallR_plain ?_ | refine wCond ?_); simp) | (refine wIn ?_; refine And.intro (by kernel_rfl) ?_; try simp only [thenA_n]) | (first | refine wBlock ?_ | refine wScope ?_) | ((first | refine wRet ?_ | refine wExit ?_ | refine wSkip ?_); try simp) | ((first | refine wLabel ?_ | refine wOn ?_ | refine wQn ?_); try simp only [thenA_n])
  refine wLoop (fun N st => ∃ k, k + N = M.length ∧ st.s 3 = .ptr 3 0 ∧ st.b 3 = some (.box 25 [.p (I z.e), .p (I z.n)]) ∧ st.s 9 = .p (.sl 2 (zxs M)) ∧ st.s 10 = .p (I M.length) ∧ st.s 11 = .p (I k) ∧ plc z (M.drop k) k = plc z M 0) M.length ⟨0, by simp⟩ fun K N st hL ⟨k, hk, g3, b3, g9, g10, g11, hi⟩ => ?_
  by_cases hlt : k < M.length
  · have hw := wrapS k _ hlt (by omega)
    rw [List.drop_eq_getElem_cons hlt, plc] at hi
    have hx : M[k] = z ↔ M[k].e = z.e ∧ M[k].n = z.n := by cases M[k]; cases z; simp
    by_cases o : M[k].e = z.e ∧ M[k].n = z.n
    · rw [if_pos (hx.2 o)] at hi
      rw [← hi] at hr
      simp only [bhN, bhE] at hr
      obtain ⟨o1, o2⟩ := o
      replace o1 : (M[k].e = z.e) = True := eq_true o1
      replace o2 : (M[k].n = z.n) = True := eq_true o2
      repeat' first | (refine hK _ ?_; clear hK) | (refine hK _ _ ?_; clear hK) | (clear hK; refine hK _ ?_; clear hK) | (clear hK; clear hK; refine hK _ ?_; clear hK) | (clear hK; clear hK; clear hK; refine hK _ ?_; clear hK) | (clear hK; clear hK; clear hK; clear hK; refine hK _ ?_; clear hK) | (refine wSeq fun K hK => ?_) | ((first | refine wReg ?_ | refine wDrwQ rfl (by kernel_rfl) ?_ | refine wDrwI ?_ | refine wDrw (by kernel_rfl) ?_); simp only [List.map_cons, List.map_nil, strip]) | ((first | refine wIs fun K hK => ?_ | refine wOs fun K hK => ?_ | refine wQs fun K hK => ?_ | refine CallK_plain ?_ | refine CallQ_plain ?_ | refine CallR_plain ?_ | refine wCond ?_); simp [g3, b3, g9, g10, g11, hlt, hw, o1, o2]) | (refine wIn ?_; refine And.intro (by kernel_rfl) ?_; try simp only [thenA_n]) | (first | refine wBlock ?_ | refine wScope ?_) | ((first | refine wRet ?_ | refine wExit ?_ | refine wSkip ?_); try simp) | ((first | refine wLabel ?_ | refine wOn ?_ | refine wQn ?_); try simp only [thenA_n])
      all_goals apply hr
      all_goals simp [Try.f90]
    · rw [if_neg fun h => o (hx.1 h)] at hi
      repeat' first | (refine hK _ ?_; clear hK) | (refine hK _ _ ?_; clear hK) | (clear hK; refine hK _ ?_; clear hK) | (clear hK; clear hK; refine hK _ ?_; clear hK) | (clear hK; clear hK; clear hK; refine hK _ ?_; clear hK) | (clear hK; clear hK; clear hK; clear hK; refine hK _ ?_; clear hK) | (refine wSeq fun K hK => ?_) | ((first | refine wReg ?_ | refine wDrwQ rfl (by kernel_rfl) ?_ | refine wDrwI ?_ | refine wDrw (by kernel_rfl) ?_); simp only [List.map_cons, List.map_nil, strip]) | ((first | refine wIs fun K hK => ?_ | refine wOs fun K hK => ?_ | refine wQs fun K hK => ?_ | refine CallK_plain ?_ | refine CallQ_plain ?_ | refine CallR_plain ?_ | refine wCond ?_); simp [g3, b3, g9, g10, g11, hlt, hw, o]) | (refine wIn ?_; refine And.intro (by kernel_rfl) ?_; try simp only [thenA_n]) | (first | refine wBlock ?_ | refine wScope ?_) | ((first | refine wRet ?_ | refine wExit ?_ | refine wSkip ?_); try simp) | ((first | refine wLabel ?_ | refine wOn ?_ | refine wQn ?_); try simp only [thenA_n]) | (intro _)
      all_goals first | exact o | skip
      refine hL _ (N - 1) (by omega) ⟨k + 1, by omega, ?_⟩
      simp [g3, b3, g9, g10, hw, hi]
  · rw [List.drop_of_length_le (by omega), plc] at hi
    rw [← hi] at hr
    simp only [bhN, bhE] at hr
    repeat' first | (refine hK _ ?_; clear hK) | (refine hK _ _ ?_; clear hK) | (clear hK; refine hK _ ?_; clear hK) | (clear hK; clear hK; refine hK _ ?_; clear hK) | (clear hK; clear hK; clear hK; refine hK _ ?_; clear hK) | (clear hK; clear hK; clear hK; clear hK; refine hK _ ?_; clear hK) | (refine wSeq fun K hK => ?_) | ((first | refine wReg ?_ | refine wDrwQ rfl (by kernel_rfl) ?_ | refine wDrwI ?_ | refine wDrw (by kernel_rfl) ?_); simp only [List.map_cons, List.map_nil, strip]) | ((first | refine wIs fun K hK => ?_ | refine wOs fun K hK => ?_ | refine wQs fun K hK => ?_ | refine CallK_plain ?_ | refine CallQ_plain ?_ | refine CallR_plain ?_ | refine wCond ?_); simp [g3, b3, g9, g10, g11, hlt]) | (refine wIn ?_; refine And.intro (by kernel_rfl) ?_; try simp only [thenA_n]) | (first | refine wBlock ?_ | refine wScope ?_) | ((first | refine wRet ?_ | refine wExit ?_ | refine wSkip ?_); try simp) | ((first | refine wLabel ?_ | refine wOn ?_ | refine wQn ?_); try simp only [thenA_n])
    all_goals apply hr
    all_goals simp [Try.f90]
def uptoH (h : Hy) (z : Zx) : Hy := match plc z (mks h) 0 with
  | some n => { h with lg := h.lg.take n }
  | none => h
theorem OkH.take {h : Hy} (hk : OkH h) (n : Nat) : OkH { h with lg := h.lg.take n } := by
  refine ⟨hk.ns, hk.ss, hk.c, ?_, fun t ht => hk.ps t (List.mem_of_mem_take ht), ?_⟩
  · have := hk.lg; simp; omega
  · have := hk.tot
    refine Nat.le_trans ?_ this
    conv => rhs; rw [← List.take_append_drop n h.lg]
    simp only [List.map_append, List.sum_append]; omega
set_option maxHeartbeats 1000000 in
theorem upto_con (h : Hy) (z : Zx) (hk : OkH h) : ACon Try.prog 78 [.p (.agg h.cells), .p (.agg [I z.e, I z.n])] (.tup [.p (.agg (uptoH h z).cells), .p (I (bhE (plc z (mks h) 0)))]) := by
  have c1 := behind_con h z hk.lg
  have hml := mks_len h
  have hlt := plc_lt z (mks h) 0
  unfold uptoH
  generalize plc z (mks h) 0 = o at *
  cases o with
  | none =>
    have c2 := ownH_con h hk
    simp only [bhN, bhE] at *
    unfold Hy.cells at *
    refine wBody Try.tab Try.mixed Try.func78 rfl rfl Try.ntmps78 (by simp) (by simp) fun Q hr hn => ?_
    repeat' first | (refine CallE.pure (c1) rfl ?_) | (refine CallE.lent (c1) rfl ?_) | (refine CallF.pure (c1) rfl ?_) | (refine CallF.lent (c1) rfl ?_) | (refine CallE.own (c1) ?_) | (refine CallH.pure (c1) rfl ?_) | (refine CallH.lent (c1) rfl ?_) | (refine CallH.own (c1) ?_) | (refine CallE.pure (c2) rfl ?_) | (refine CallE.lent (c2) rfl ?_) | (refine CallF.pure (c2) rfl ?_) | (refine CallF.lent (c2) rfl ?_) | (refine CallE.own (c2) ?_) | (refine CallH.pure (c2) rfl ?_) | (refine CallH.lent (c2) rfl ?_) | (refine CallH.own (c2) ?_) | (refine hK _ ?_; clear hK) | (refine hK _ _ ?_; clear hK) | (clear hK; refine hK _ ?_; clear hK) | (clear hK; clear hK; refine hK _ ?_; clear hK) | (clear hK; clear hK; clear hK; refine hK _ ?_; clear hK) | (clear hK; clear hK; clear hK; clear hK; refine hK _ ?_; clear hK) | (refine wSeq fun K hK => ?_) | ((first | refine wReg ?_ | refine wDrwQ rfl (by kernel_rfl) ?_ | refine wDrwI ?_ | refine wDrw (by kernel_rfl) ?_); simp only [List.map_cons, List.map_nil, strip]) | ((first | refine wIs fun K hK => ?_ | refine wOs fun K hK => ?_ | refine wQs fun K hK => ?_ | refine CallK_plain ?_ | refine CallQ_plain ?_ | refine CallR_plain ?_ | refine wCond ?_); simp) | (refine wIn ?_; refine And.intro (by kernel_rfl) ?_; try simp only [thenA_n]) | (first | refine wBlock ?_ | refine wScope ?_) | ((first | refine wRet ?_ | refine wExit ?_ | refine wSkip ?_); try simp) | ((first | refine wLabel ?_ | refine wOn ?_ | refine wQn ?_); try simp only [thenA_n])
    all_goals apply hr
    all_goals simp [Try.f78]
  | some n =>
    have c2 := ownH_con { h with lg := h.lg.take n } (hk.take n)
    have hnl : n ≤ h.lg.length := by have := (hlt n rfl).2; omega
    have htk : (txns h.lg).take n = txns (h.lg.take n) := by simp [txns, List.map_take]
    simp only [bhN, bhE] at *
    unfold Hy.cells at *
    simp only at c2
    refine wBody Try.tab Try.mixed Try.func78 rfl rfl Try.ntmps78 (by simp) (by simp) fun Q hr hn => ?_
    repeat' first | (refine CallE.pure (c1) rfl ?_) | (refine CallE.lent (c1) rfl ?_) | (refine CallF.pure (c1) rfl ?_) | (refine CallF.lent (c1) rfl ?_) | (refine CallE.own (c1) ?_) | (refine CallH.pure (c1) rfl ?_) | (refine CallH.lent (c1) rfl ?_) | (refine CallH.own (c1) ?_) | (refine CallE.pure (c2) rfl ?_) | (refine CallE.lent (c2) rfl ?_) | (refine CallF.pure (c2) rfl ?_) | (refine CallF.lent (c2) rfl ?_) | (refine CallE.own (c2) ?_) | (refine CallH.pure (c2) rfl ?_) | (refine CallH.lent (c2) rfl ?_) | (refine CallH.own (c2) ?_) | (refine hK _ ?_; clear hK) | (refine hK _ _ ?_; clear hK) | (clear hK; refine hK _ ?_; clear hK) | (clear hK; clear hK; refine hK _ ?_; clear hK) | (clear hK; clear hK; clear hK; refine hK _ ?_; clear hK) | (clear hK; clear hK; clear hK; clear hK; refine hK _ ?_; clear hK) | (refine wSeq fun K hK => ?_) | ((first | refine wReg ?_ | refine wDrwQ rfl (by kernel_rfl) ?_ | refine wDrwI ?_ | refine wDrw (by kernel_rfl) ?_); simp only [List.map_cons, List.map_nil, strip]) | ((first | refine wIs fun K hK => ?_ | refine wOs fun K hK => ?_ | refine wQs fun K hK => ?_ | refine CallK_plain ?_ | refine CallQ_plain ?_ | refine CallR_plain ?_ | refine wCond ?_); simp [hnl, htk]) | (refine wIn ?_; refine And.intro (by kernel_rfl) ?_; try simp only [thenA_n]) | (first | refine wBlock ?_ | refine wScope ?_) | ((first | refine wRet ?_ | refine wExit ?_ | refine wSkip ?_); try simp) | ((first | refine wLabel ?_ | refine wOn ?_ | refine wQn ?_); try simp only [thenA_n])
    all_goals apply hr
    all_goals simp [Try.f78]
/-- What a plan without an image comes to: kept, then grown. -/
def doH (h : Hy) (kd : Int) (z : Zx) (l : List Tx) : Hy × Int :=
  if kd = 2 ∧ plc z (mks h) 0 = none then (h, 6)
  else if growOk (if kd = 2 then uptoH h z else h) l = true then ({ (if kd = 2 then uptoH h z else h) with lg := (if kd = 2 then uptoH h z else h).lg ++ l }, 0) else (h, 1)
set_option maxHeartbeats 2000000 in
theorem doPlan_con (h : Hy) (kd : Int) (z : Zx) (im : List PV) (l : List Tx) (hkd : kd = 1 ∨ kd = 2) (him : ∃ a b c d e f g i j, im = [.sl 5 a, .sl 1 b, I c, I d, I e, I f, .sl 4 g, I i, I j]) (hk : OkH h) (hl : l.length ≤ 1000) (hp : ∀ x ∈ l, x.ps.length ≤ 1000 ∧ ∀ p ∈ x.ps, p.c.ms.length ≤ 1000) :
    ACon Try.prog 58 [.p (.agg h.cells), .p (.agg ([I kd, I z.e, I z.n] ++ im ++ [.sl 8 (txns l)]))] (.tup [.p (.agg (doH h kd z l).1.cells), .p (I (doH h kd z l).2)]) := by
  obtain ⟨a, b, c, d, e, f, g, i, j, rfl⟩ := him
  have co := ownH_con h hk
  simp only [List.cons_append, List.nil_append]
  rcases hkd with rfl | rfl
  · have cg := grow_con h l hk hl hp
    simp only [doH, show ¬ ((1 : Int) = 2 ∧ plc z (mks h) 0 = none) from fun h => by omega, show ¬ (1 : Int) = 2 by omega, if_false]
    generalize growOk h l = q at *
    cases q
    · simp only [Bool.false_eq_true, if_false] at *
      unfold Hy.cells at *
      refine wBody Try.tab Try.mixed Try.func58 rfl rfl Try.ntmps58 (by simp) (by simp) fun Q hr hn => ?_
      repeat' first | (refine CallE.pure (co) rfl ?_) | (refine CallE.lent (co) rfl ?_) | (refine CallF.pure (co) rfl ?_) | (refine CallF.lent (co) rfl ?_) | (refine CallE.own (co) ?_) | (refine CallH.pure (co) rfl ?_) | (refine CallH.lent (co) rfl ?_) | (refine CallH.own (co) ?_) | (refine CallE.pure (cg) rfl ?_) | (refine CallE.lent (cg) rfl ?_) | (refine CallF.pure (cg) rfl ?_) | (refine CallF.lent (cg) rfl ?_) | (refine CallE.own (cg) ?_) | (refine CallH.pure (cg) rfl ?_) | (refine CallH.lent (cg) rfl ?_) | (refine CallH.own (cg) ?_) | (refine hK _ ?_; clear hK) | (refine hK _ _ ?_; clear hK) | (clear hK; refine hK _ ?_; clear hK) | (clear hK; clear hK; refine hK _ ?_; clear hK) | (clear hK; clear hK; clear hK; refine hK _ ?_; clear hK) | (clear hK; clear hK; clear hK; clear hK; refine hK _ ?_; clear hK) | (refine wSeq fun K hK => ?_) | ((first | refine wReg ?_ | refine wDrwQ rfl (by kernel_rfl) ?_ | refine wDrwI ?_ | refine wDrw (by kernel_rfl) ?_); simp only [List.map_cons, List.map_nil, strip]) | ((first | refine wIs fun K hK => ?_ | refine wOs fun K hK => ?_ | refine wQs fun K hK => ?_ | refine CallK_plain ?_ | refine CallQ_plain ?_ | refine CallR_plain ?_ | refine wCond ?_); simp) | (refine wIn ?_; refine And.intro (by kernel_rfl) ?_; try simp only [thenA_n]) | (first | refine wBlock ?_ | refine wScope ?_) | ((first | refine wRet ?_ | refine wExit ?_ | refine wSkip ?_); try simp) | ((first | refine wLabel ?_ | refine wOn ?_ | refine wQn ?_); try simp only [thenA_n])
      all_goals apply hr
      all_goals simp [Try.f58]
    · simp only [if_true] at *
      unfold Hy.cells at *
      refine wBody Try.tab Try.mixed Try.func58 rfl rfl Try.ntmps58 (by simp) (by simp) fun Q hr hn => ?_
      repeat' first | (refine CallE.pure (co) rfl ?_) | (refine CallE.lent (co) rfl ?_) | (refine CallF.pure (co) rfl ?_) | (refine CallF.lent (co) rfl ?_) | (refine CallE.own (co) ?_) | (refine CallH.pure (co) rfl ?_) | (refine CallH.lent (co) rfl ?_) | (refine CallH.own (co) ?_) | (refine CallE.pure (cg) rfl ?_) | (refine CallE.lent (cg) rfl ?_) | (refine CallF.pure (cg) rfl ?_) | (refine CallF.lent (cg) rfl ?_) | (refine CallE.own (cg) ?_) | (refine CallH.pure (cg) rfl ?_) | (refine CallH.lent (cg) rfl ?_) | (refine CallH.own (cg) ?_) | (refine hK _ ?_; clear hK) | (refine hK _ _ ?_; clear hK) | (clear hK; refine hK _ ?_; clear hK) | (clear hK; clear hK; refine hK _ ?_; clear hK) | (clear hK; clear hK; clear hK; refine hK _ ?_; clear hK) | (clear hK; clear hK; clear hK; clear hK; refine hK _ ?_; clear hK) | (refine wSeq fun K hK => ?_) | ((first | refine wReg ?_ | refine wDrwQ rfl (by kernel_rfl) ?_ | refine wDrwI ?_ | refine wDrw (by kernel_rfl) ?_); simp only [List.map_cons, List.map_nil, strip]) | ((first | refine wIs fun K hK => ?_ | refine wOs fun K hK => ?_ | refine wQs fun K hK => ?_ | refine CallK_plain ?_ | refine CallQ_plain ?_ | refine CallR_plain ?_ | refine wCond ?_); simp) | (refine wIn ?_; refine And.intro (by kernel_rfl) ?_; try simp only [thenA_n]) | (first | refine wBlock ?_ | refine wScope ?_) | ((first | refine wRet ?_ | refine wExit ?_ | refine wSkip ?_); try simp) | ((first | refine wLabel ?_ | refine wOn ?_ | refine wQn ?_); try simp only [thenA_n])
      all_goals apply hr
      all_goals simp [Try.f58]
  · have cu := upto_con h z hk
    have hu : OkH (uptoH h z) := by
      unfold uptoH
      split
      · exact hk.take _
      · exact hk
    have cg := grow_con (uptoH h z) l hu hl hp
    simp only [doH, true_and, if_true]
    generalize hy : uptoH h z = y at *
    generalize plc z (mks h) 0 = o at *
    cases o with
    | none =>
      simp only [bhE, if_true] at *
      unfold Hy.cells at *
      refine wBody Try.tab Try.mixed Try.func58 rfl rfl Try.ntmps58 (by simp) (by simp) fun Q hr hn => ?_
      repeat' first | (refine CallE.pure (co) rfl ?_) | (refine CallE.lent (co) rfl ?_) | (refine CallF.pure (co) rfl ?_) | (refine CallF.lent (co) rfl ?_) | (refine CallE.own (co) ?_) | (refine CallH.pure (co) rfl ?_) | (refine CallH.lent (co) rfl ?_) | (refine CallH.own (co) ?_) | (refine CallE.pure (cu) rfl ?_) | (refine CallE.lent (cu) rfl ?_) | (refine CallF.pure (cu) rfl ?_) | (refine CallF.lent (cu) rfl ?_) | (refine CallE.own (cu) ?_) | (refine CallH.pure (cu) rfl ?_) | (refine CallH.lent (cu) rfl ?_) | (refine CallH.own (cu) ?_) | (refine hK _ ?_; clear hK) | (refine hK _ _ ?_; clear hK) | (clear hK; refine hK _ ?_; clear hK) | (clear hK; clear hK; refine hK _ ?_; clear hK) | (clear hK; clear hK; clear hK; refine hK _ ?_; clear hK) | (clear hK; clear hK; clear hK; clear hK; refine hK _ ?_; clear hK) | (refine wSeq fun K hK => ?_) | ((first | refine wReg ?_ | refine wDrwQ rfl (by kernel_rfl) ?_ | refine wDrwI ?_ | refine wDrw (by kernel_rfl) ?_); simp only [List.map_cons, List.map_nil, strip]) | ((first | refine wIs fun K hK => ?_ | refine wOs fun K hK => ?_ | refine wQs fun K hK => ?_ | refine CallK_plain ?_ | refine CallQ_plain ?_ | refine CallR_plain ?_ | refine wCond ?_); simp) | (refine wIn ?_; refine And.intro (by kernel_rfl) ?_; try simp only [thenA_n]) | (first | refine wBlock ?_ | refine wScope ?_) | ((first | refine wRet ?_ | refine wExit ?_ | refine wSkip ?_); try simp) | ((first | refine wLabel ?_ | refine wOn ?_ | refine wQn ?_); try simp only [thenA_n])
      all_goals apply hr
      all_goals simp [Try.f58]
    | some n =>
      simp only [bhE, reduceCtorEq, if_false] at *
      generalize growOk y l = q at *
      cases q
      · simp only [Bool.false_eq_true, if_false] at *
        unfold Hy.cells at *
        refine wBody Try.tab Try.mixed Try.func58 rfl rfl Try.ntmps58 (by simp) (by simp) fun Q hr hn => ?_
        repeat' first | (refine CallE.pure (co) rfl ?_) | (refine CallE.lent (co) rfl ?_) | (refine CallF.pure (co) rfl ?_) | (refine CallF.lent (co) rfl ?_) | (refine CallE.own (co) ?_) | (refine CallH.pure (co) rfl ?_) | (refine CallH.lent (co) rfl ?_) | (refine CallH.own (co) ?_) | (refine CallE.pure (cu) rfl ?_) | (refine CallE.lent (cu) rfl ?_) | (refine CallF.pure (cu) rfl ?_) | (refine CallF.lent (cu) rfl ?_) | (refine CallE.own (cu) ?_) | (refine CallH.pure (cu) rfl ?_) | (refine CallH.lent (cu) rfl ?_) | (refine CallH.own (cu) ?_) | (refine CallE.pure (cg) rfl ?_) | (refine CallE.lent (cg) rfl ?_) | (refine CallF.pure (cg) rfl ?_) | (refine CallF.lent (cg) rfl ?_) | (refine CallE.own (cg) ?_) | (refine CallH.pure (cg) rfl ?_) | (refine CallH.lent (cg) rfl ?_) | (refine CallH.own (cg) ?_) | (refine hK _ ?_; clear hK) | (refine hK _ _ ?_; clear hK) | (clear hK; refine hK _ ?_; clear hK) | (clear hK; clear hK; refine hK _ ?_; clear hK) | (clear hK; clear hK; clear hK; refine hK _ ?_; clear hK) | (clear hK; clear hK; clear hK; clear hK; refine hK _ ?_; clear hK) | (refine wSeq fun K hK => ?_) | ((first | refine wReg ?_ | refine wDrwQ rfl (by kernel_rfl) ?_ | refine wDrwI ?_ | refine wDrw (by kernel_rfl) ?_); simp only [List.map_cons, List.map_nil, strip]) | ((first | refine wIs fun K hK => ?_ | refine wOs fun K hK => ?_ | refine wQs fun K hK => ?_ | refine CallK_plain ?_ | refine CallQ_plain ?_ | refine CallR_plain ?_ | refine wCond ?_); simp) | (refine wIn ?_; refine And.intro (by kernel_rfl) ?_; try simp only [thenA_n]) | (first | refine wBlock ?_ | refine wScope ?_) | ((first | refine wRet ?_ | refine wExit ?_ | refine wSkip ?_); try simp) | ((first | refine wLabel ?_ | refine wOn ?_ | refine wQn ?_); try simp only [thenA_n])
        all_goals apply hr
        all_goals simp [Try.f58]
      · simp only [if_true] at *
        unfold Hy.cells at *
        refine wBody Try.tab Try.mixed Try.func58 rfl rfl Try.ntmps58 (by simp) (by simp) fun Q hr hn => ?_
        repeat' first | (refine CallE.pure (co) rfl ?_) | (refine CallE.lent (co) rfl ?_) | (refine CallF.pure (co) rfl ?_) | (refine CallF.lent (co) rfl ?_) | (refine CallE.own (co) ?_) | (refine CallH.pure (co) rfl ?_) | (refine CallH.lent (co) rfl ?_) | (refine CallH.own (co) ?_) | (refine CallE.pure (cu) rfl ?_) | (refine CallE.lent (cu) rfl ?_) | (refine CallF.pure (cu) rfl ?_) | (refine CallF.lent (cu) rfl ?_) | (refine CallE.own (cu) ?_) | (refine CallH.pure (cu) rfl ?_) | (refine CallH.lent (cu) rfl ?_) | (refine CallH.own (cu) ?_) | (refine CallE.pure (cg) rfl ?_) | (refine CallE.lent (cg) rfl ?_) | (refine CallF.pure (cg) rfl ?_) | (refine CallF.lent (cg) rfl ?_) | (refine CallE.own (cg) ?_) | (refine CallH.pure (cg) rfl ?_) | (refine CallH.lent (cg) rfl ?_) | (refine CallH.own (cg) ?_) | (refine hK _ ?_; clear hK) | (refine hK _ _ ?_; clear hK) | (clear hK; refine hK _ ?_; clear hK) | (clear hK; clear hK; refine hK _ ?_; clear hK) | (clear hK; clear hK; clear hK; refine hK _ ?_; clear hK) | (clear hK; clear hK; clear hK; clear hK; refine hK _ ?_; clear hK) | (refine wSeq fun K hK => ?_) | ((first | refine wReg ?_ | refine wDrwQ rfl (by kernel_rfl) ?_ | refine wDrwI ?_ | refine wDrw (by kernel_rfl) ?_); simp only [List.map_cons, List.map_nil, strip]) | ((first | refine wIs fun K hK => ?_ | refine wOs fun K hK => ?_ | refine wQs fun K hK => ?_ | refine CallK_plain ?_ | refine CallQ_plain ?_ | refine CallR_plain ?_ | refine wCond ?_); simp) | (refine wIn ?_; refine And.intro (by kernel_rfl) ?_; try simp only [thenA_n]) | (first | refine wBlock ?_ | refine wScope ?_) | ((first | refine wRet ?_ | refine wExit ?_ | refine wSkip ?_); try simp) | ((first | refine wLabel ?_ | refine wOn ?_ | refine wQn ?_); try simp only [thenA_n])
        all_goals apply hr
        all_goals simp [Try.f58]
/- Histories: what any plan makes of one: the program's. -/
set_option maxHeartbeats 2000000 in
theorem doPlan3_con (h : Hy) (z : Zx) (im : Sv) (l : List Tx) (hk : OkH h) (hi : OkH ⟨im, []⟩) (hl : l.length ≤ 1000) (hp : ∀ x ∈ l, x.ps.length ≤ 1000 ∧ ∀ p ∈ x.ps, p.c.ms.length ≤ 1000) :
    ACon Try.prog 58 [.p (.agg h.cells), .p (.agg ([I 3, I z.e, I z.n] ++ im.cells ++ [.sl 8 (txns l)]))] (.tup [.p (.agg (if growOk ⟨im, []⟩ l = true then (⟨im, l⟩ : Hy) else h).cells), .p (I (if growOk ⟨im, []⟩ l = true then 0 else 1))]) := by
  have co := ownH_con h hk
  have cg := grow_con ⟨im, []⟩ l hi hl hp
  simp only [List.nil_append] at cg
  unfold Sv.cells
  simp only [List.cons_append, List.nil_append]
  generalize growOk ⟨im, []⟩ l = q at *
  cases q
  · simp only [Bool.false_eq_true, if_false] at *
    unfold Hy.cells at *
    simp only [show txns [] = [] from rfl] at cg
    refine wBody Try.tab Try.mixed Try.func58 rfl rfl Try.ntmps58 (by simp) (by simp) fun Q hr hn => ?_
    repeat' first | (refine CallE.pure (co) rfl ?_) | (refine CallE.lent (co) rfl ?_) | (refine CallF.pure (co) rfl ?_) | (refine CallF.lent (co) rfl ?_) | (refine CallE.own (co) ?_) | (refine CallH.pure (co) rfl ?_) | (refine CallH.lent (co) rfl ?_) | (refine CallH.own (co) ?_) | (refine CallE.pure (cg) rfl ?_) | (refine CallE.lent (cg) rfl ?_) | (refine CallF.pure (cg) rfl ?_) | (refine CallF.lent (cg) rfl ?_) | (refine CallE.own (cg) ?_) | (refine CallH.pure (cg) rfl ?_) | (refine CallH.lent (cg) rfl ?_) | (refine CallH.own (cg) ?_) | (refine hK _ ?_; clear hK) | (refine hK _ _ ?_; clear hK) | (clear hK; refine hK _ ?_; clear hK) | (clear hK; clear hK; refine hK _ ?_; clear hK) | (clear hK; clear hK; clear hK; refine hK _ ?_; clear hK) | (clear hK; clear hK; clear hK; clear hK; refine hK _ ?_; clear hK) | (refine wSeq fun K hK => ?_) | ((first | refine wReg ?_ | refine wDrwQ rfl (by kernel_rfl) ?_ | refine wDrwI ?_ | refine wDrw (by kernel_rfl) ?_); simp only [List.map_cons, List.map_nil, strip]) | ((first | refine wIs fun K hK => ?_ | refine wOs fun K hK => ?_ | refine wQs fun K hK => ?_ | refine CallK_plain ?_ | refine CallQ_plain ?_ | refine CallR_plain ?_ | refine wCond ?_); simp) | (refine wIn ?_; refine And.intro (by kernel_rfl) ?_; try simp only [thenA_n]) | (first | refine wBlock ?_ | refine wScope ?_) | ((first | refine wRet ?_ | refine wExit ?_ | refine wSkip ?_); try simp) | ((first | refine wLabel ?_ | refine wOn ?_ | refine wQn ?_); try simp only [thenA_n])
    all_goals apply hr
    all_goals simp [Try.f58]
  · simp only [if_true] at *
    unfold Hy.cells at *
    simp only [show txns [] = [] from rfl] at cg
    refine wBody Try.tab Try.mixed Try.func58 rfl rfl Try.ntmps58 (by simp) (by simp) fun Q hr hn => ?_
    repeat' first | (refine CallE.pure (co) rfl ?_) | (refine CallE.lent (co) rfl ?_) | (refine CallF.pure (co) rfl ?_) | (refine CallF.lent (co) rfl ?_) | (refine CallE.own (co) ?_) | (refine CallH.pure (co) rfl ?_) | (refine CallH.lent (co) rfl ?_) | (refine CallH.own (co) ?_) | (refine CallE.pure (cg) rfl ?_) | (refine CallE.lent (cg) rfl ?_) | (refine CallF.pure (cg) rfl ?_) | (refine CallF.lent (cg) rfl ?_) | (refine CallE.own (cg) ?_) | (refine CallH.pure (cg) rfl ?_) | (refine CallH.lent (cg) rfl ?_) | (refine CallH.own (cg) ?_) | (refine hK _ ?_; clear hK) | (refine hK _ _ ?_; clear hK) | (clear hK; refine hK _ ?_; clear hK) | (clear hK; clear hK; refine hK _ ?_; clear hK) | (clear hK; clear hK; clear hK; refine hK _ ?_; clear hK) | (clear hK; clear hK; clear hK; clear hK; refine hK _ ?_; clear hK) | (refine wSeq fun K hK => ?_) | ((first | refine wReg ?_ | refine wDrwQ rfl (by kernel_rfl) ?_ | refine wDrwI ?_ | refine wDrw (by kernel_rfl) ?_); simp only [List.map_cons, List.map_nil, strip]) | ((first | refine wIs fun K hK => ?_ | refine wOs fun K hK => ?_ | refine wQs fun K hK => ?_ | refine CallK_plain ?_ | refine CallQ_plain ?_ | refine CallR_plain ?_ | refine wCond ?_); simp) | (refine wIn ?_; refine And.intro (by kernel_rfl) ?_; try simp only [thenA_n]) | (first | refine wBlock ?_ | refine wScope ?_) | ((first | refine wRet ?_ | refine wExit ?_ | refine wSkip ?_); try simp) | ((first | refine wLabel ?_ | refine wOn ?_ | refine wQn ?_); try simp only [thenA_n])
    all_goals apply hr
    all_goals simp [Try.f58]
set_option maxHeartbeats 2000000 in
theorem doPlan0_con (h : Hy) (kd : Int) (z : Zx) (im : Sv) (l : List Tx) (hk : OkH h) (h1 : ¬ kd = 1) (h2 : ¬ kd = 2) (h3 : ¬ kd = 3) :
    ACon Try.prog 58 [.p (.agg h.cells), .p (.agg ([I kd, I z.e, I z.n] ++ im.cells ++ [.sl 8 (txns l)]))] (.tup [.p (.agg h.cells), .p (I 1)]) := by
  have co := ownH_con h hk
  unfold Sv.cells
  simp only [List.cons_append, List.nil_append]
  unfold Hy.cells at *
  refine wBody Try.tab Try.mixed Try.func58 rfl rfl Try.ntmps58 (by simp) (by simp) fun Q hr hn => ?_
  repeat' first | (refine CallE.pure (co) rfl ?_) | (refine CallE.lent (co) rfl ?_) | (refine CallF.pure (co) rfl ?_) | (refine CallF.lent (co) rfl ?_) | (refine CallE.own (co) ?_) | (refine CallH.pure (co) rfl ?_) | (refine CallH.lent (co) rfl ?_) | (refine CallH.own (co) ?_) | (refine hK _ ?_; clear hK) | (refine hK _ _ ?_; clear hK) | (clear hK; refine hK _ ?_; clear hK) | (clear hK; clear hK; refine hK _ ?_; clear hK) | (clear hK; clear hK; clear hK; refine hK _ ?_; clear hK) | (clear hK; clear hK; clear hK; clear hK; refine hK _ ?_; clear hK) | (refine wSeq fun K hK => ?_) | ((first | refine wReg ?_ | refine wDrwQ rfl (by kernel_rfl) ?_ | refine wDrwI ?_ | refine wDrw (by kernel_rfl) ?_); simp only [List.map_cons, List.map_nil, strip]) | ((first | refine wIs fun K hK => ?_ | refine wOs fun K hK => ?_ | refine wQs fun K hK => ?_ | refine CallK_plain ?_ | refine CallQ_plain ?_ | refine CallR_plain ?_ | refine wCond ?_); simp [h1, h2, h3]) | (refine wIn ?_; refine And.intro (by kernel_rfl) ?_; try simp only [thenA_n]) | (first | refine wBlock ?_ | refine wScope ?_) | ((first | refine wRet ?_ | refine wExit ?_ | refine wSkip ?_); try simp) | ((first | refine wLabel ?_ | refine wOn ?_ | refine wQn ?_); try simp only [thenA_n])
  all_goals apply hr
  all_goals simp [Try.f58]
/-- What any plan comes to. -/
def doG (h : Hy) (kd : Int) (z : Zx) (im : Sv) (l : List Tx) : Hy × Int :=
  if kd = 1 ∨ kd = 2 then doH h kd z l
  else if kd = 3 then (if growOk ⟨im, []⟩ l = true then (⟨im, l⟩ : Hy) else h, if growOk ⟨im, []⟩ l = true then 0 else 1)
  else (h, 1)
theorem doG_con (h : Hy) (kd : Int) (z : Zx) (im : Sv) (l : List Tx) (hk : OkH h) (hi : OkH ⟨im, []⟩) (hl : l.length ≤ 1000) (hp : ∀ x ∈ l, x.ps.length ≤ 1000 ∧ ∀ p ∈ x.ps, p.c.ms.length ≤ 1000) :
    ACon Try.prog 58 [.p (.agg h.cells), .p (.agg ([I kd, I z.e, I z.n] ++ im.cells ++ [.sl 8 (txns l)]))] (.tup [.p (.agg (doG h kd z im l).1.cells), .p (I (doG h kd z im l).2)]) := by
  unfold doG
  by_cases h12 : kd = 1 ∨ kd = 2
  · simp only [if_pos h12]
    exact doPlan_con h kd z im.cells l h12 ⟨_, _, _, _, _, _, _, _, _, rfl⟩ hk hl hp
  simp only [if_neg h12]
  by_cases h3 : kd = 3
  · subst h3
    simp only [if_true]
    exact doPlan3_con h z im l hk hi hl hp
  · simp only [if_neg h3]
    exact doPlan0_con h kd z im l hk (fun h => h12 (.inl h)) (fun h => h12 (.inr h)) h3
/- Learners: far. -/
def near22 (h : Hy) : Prop := h.lg.length ≤ 30 ∧ (∀ t ∈ h.lg, t.ps.length ≤ 50) ∧ wH h ≤ 200
instance (h : Hy) : Decidable (near22 h) := by unfold near22; infer_instance
set_option maxHeartbeats 8000000 in
theorem far22_con (h : Hy) (hs : SmallH h) : ACon Try.prog 22 [.p (.agg h.cells)] (.p (B (decide (¬ near22 h)))) := by
  obtain ⟨⟨ns, ss, nx, ⟨ep, n, kind, ms⟩, ae, an⟩, lg⟩ := h
  obtain ⟨h1, h2, h3, h4⟩ := hs
  simp only at h1 h2 h3 h4
  unfold Hy.cells
  refine ACon.lenA ⟨Try.f22, Try.func22, rfl, rfl⟩ 0 9 8 (txns lg) _ rfl rfl fun hlg => ?_
  simp only [txns_len] at hlg
  dsimp only
  have w1 := wrapN ns.length ms.length (by omega)
  have w2 : IntKind.i64.wrap ((ns.length : Int) + (ms.length : Int) + (ss.length : Int)) = ((ns.length + ms.length + ss.length : Nat) : Int) := by rw [wrap_id] <;> omega
  generalize hn0 : ns.length + ms.length + ss.length = n0 at w2
  have hn0' : n0 ≤ 3 * 140737488355328 := by omega
  by_cases q1 : 60 < lg.length
  · have q1' : (60 : Int) < lg.length := by omega
    rw [show decide (¬ near22 ⟨⟨ns, ss, nx, ⟨ep, n, kind, ms⟩, ae, an⟩, lg⟩) = true from decide_eq_true fun h => by have := h.1; simp only at this; omega]
    refine wBody Try.tab Try.mixed Try.func22 rfl rfl Try.ntmps22 (by simp) (by simp) fun Q hr hn => ?_
    repeat' first | (refine hK _ ?_; clear hK) | (refine hK _ _ ?_; clear hK) | (clear hK; refine hK _ ?_; clear hK) | (clear hK; clear hK; refine hK _ ?_; clear hK) | (clear hK; clear hK; clear hK; refine hK _ ?_; clear hK) | (clear hK; clear hK; clear hK; clear hK; refine hK _ ?_; clear hK) | (refine wSeq fun K hK => ?_) | ((first | refine wReg ?_ | refine wDrwQ rfl (by kernel_rfl) ?_ | refine wDrwI ?_ | refine wDrw (by kernel_rfl) ?_); simp only [List.map_cons, List.map_nil, strip]) | ((first | refine wIs fun K hK => ?_ | refine wOs fun K hK => ?_ | refine wQs fun K hK => ?_ | refine CallK_plain ?_ | refine CallQ_plain ?_ | refine CallR_plain ?_ | refine wCond ?_); simp [q1, q1', w1, w2]) | (refine wIn ?_; refine And.intro (by kernel_rfl) ?_; try simp only [thenA_n]) | (first | refine wBlock ?_ | refine wScope ?_) | ((first | refine wRet ?_ | refine wExit ?_ | refine wSkip ?_); try simp) | ((first | refine wLabel ?_ | refine wOn ?_ | refine wQn ?_); try simp only [thenA_n])
    all_goals apply hr
    all_goals simp [Try.f22]
  have q1' : ¬ (60 : Int) < lg.length := by omega
  refine wBody Try.tab Try.mixed Try.func22 rfl rfl Try.ntmps22 (by simp) (by simp) fun Q hr hn => ?_
  repeat' first | (refine hK _ ?_; clear hK) | (refine hK _ _ ?_; clear hK) | (clear hK; refine hK _ ?_; clear hK) | (clear hK; clear hK; refine hK _ ?_; clear hK) | (clear hK; clear hK; clear hK; refine hK _ ?_; clear hK) | (clear hK; clear hK; clear hK; clear hK; refine hK _ ?_; clear hK) | (refine wSeq fun K hK => ?_) | ((first | refine wReg ?_ | refine wDrwQ rfl (by kernel_rfl) ?_ | refine wDrwI ?_ | refine wDrw (by kernel_rfl) ?_); simp only [List.map_cons, List.map_nil, strip]) | ((first | refine wIs fun K hK => ?_ | refine wOs fun K hK => ?_ | refine wQs fun K hK => ?_ | refine CallK_plain ?_ | refine CallQ_plain ?_ | refine CallR_plain ?_ | refine wCond ?_); simp [q1, q1', w1, w2]) | (refine wIn ?_; refine And.intro (by kernel_rfl) ?_; try simp only [thenA_n]) | (first | refine wBlock ?_ | refine wScope ?_) | ((first | refine wRet ?_ | refine wExit ?_ | refine wSkip ?_); try simp) | ((first | refine wLabel ?_ | refine wOn ?_ | refine wQn ?_); try simp only [thenA_n])
  refine wLoop (fun N st => ∃ (k m : Nat), k + N = lg.length ∧ m = n0 + ((lg.take k).map wT).sum ∧ m ≤ 3 * 140737488355328 + k * (51 * 140737488355328 + 51) ∧ (∀ t ∈ lg.take k, t.ps.length ≤ 50) ∧ st.s 1 = .ptr 1 0 ∧ st.b 1 = some (.box 33 [.p (.sl 5 (zns ns)), .p (.sl 1 (ints ss)), .p (I nx), .p (I ep), .p (I n), .p (I kind), .p (.sl 4 (mbs ms)), .p (I ae), .p (I an), .p (.sl 8 (txns lg))]) ∧ st.s 3 = .p (I m) ∧ st.s 4 = .p (I k)) lg.length ⟨0, n0, by simp; omega⟩ fun K N st hL ⟨k, m, hk, hm, hmb, hps, g1, b1, g3, g4⟩ => ?_
  by_cases hlt : k < lg.length
  · have hlt' : (k : Int) < lg.length := by omega
    have hw := wrapS k _ hlt (by omega)
    have he := txns_get hlt
    obtain ⟨hp1, hp2⟩ := h4 lg[k] (List.getElem_mem hlt)
    have wm : IntKind.i64.wrap ((m : Int) + (lg[k].ps.length : Int)) = ((m + lg[k].ps.length : Nat) : Int) := by rw [wrap_id] <;> omega
    by_cases q2 : 50 < lg[k].ps.length
    · have q2' : (50 : Int) < lg[k].ps.length := by omega
      rw [show decide (¬ near22 ⟨⟨ns, ss, nx, ⟨ep, n, kind, ms⟩, ae, an⟩, lg⟩) = true from decide_eq_true fun h => by have := h.2.1 lg[k] (List.getElem_mem hlt); omega] at hr
      repeat' first | (refine hK _ ?_; clear hK) | (refine hK _ _ ?_; clear hK) | (clear hK; refine hK _ ?_; clear hK) | (clear hK; clear hK; refine hK _ ?_; clear hK) | (clear hK; clear hK; clear hK; refine hK _ ?_; clear hK) | (clear hK; clear hK; clear hK; clear hK; refine hK _ ?_; clear hK) | (refine wSeq fun K hK => ?_) | ((first | refine wReg ?_ | refine wDrwQ rfl (by kernel_rfl) ?_ | refine wDrwI ?_ | refine wDrw (by kernel_rfl) ?_); simp only [List.map_cons, List.map_nil, strip]) | ((first | refine wIs fun K hK => ?_ | refine wOs fun K hK => ?_ | refine wQs fun K hK => ?_ | refine CallK_plain ?_ | refine CallQ_plain ?_ | refine CallR_plain ?_ | refine wCond ?_); simp [g1, b1, g3, g4, hlt, hlt', hw, he, wm, q2, q2']) | (refine wIn ?_; refine And.intro (by kernel_rfl) ?_; try simp only [thenA_n]) | (first | refine wBlock ?_ | refine wScope ?_) | ((first | refine wRet ?_ | refine wExit ?_ | refine wSkip ?_); try simp) | ((first | refine wLabel ?_ | refine wOn ?_ | refine wQn ?_); try simp only [thenA_n])
      all_goals apply hr
      all_goals simp [Try.f22]
    · have q2' : ¬ (50 : Int) < lg[k].ps.length := by omega
      repeat' first | (refine hK _ ?_; clear hK) | (refine hK _ _ ?_; clear hK) | (clear hK; refine hK _ ?_; clear hK) | (clear hK; clear hK; refine hK _ ?_; clear hK) | (clear hK; clear hK; clear hK; refine hK _ ?_; clear hK) | (clear hK; clear hK; clear hK; clear hK; refine hK _ ?_; clear hK) | (refine wSeq fun K hK => ?_) | ((first | refine wReg ?_ | refine wDrwQ rfl (by kernel_rfl) ?_ | refine wDrwI ?_ | refine wDrw (by kernel_rfl) ?_); simp only [List.map_cons, List.map_nil, strip]) | ((first | refine wIs fun K hK => ?_ | refine wOs fun K hK => ?_ | refine wQs fun K hK => ?_ | refine CallK_plain ?_ | refine CallQ_plain ?_ | refine CallR_plain ?_ | refine wCond ?_); simp [g1, b1, g3, g4, hlt, hlt', hw, he, wm, q2, q2']) | (refine wIn ?_; refine And.intro (by kernel_rfl) ?_; try simp only [thenA_n]) | (first | refine wBlock ?_ | refine wScope ?_) | ((first | refine wRet ?_ | refine wExit ?_ | refine wSkip ?_); try simp) | ((first | refine wLabel ?_ | refine wOn ?_ | refine wQn ?_); try simp only [thenA_n])
      refine wLoop (fun N' st => ∃ (q z : Nat), q + N' = lg[k].ps.length ∧ z = m + lg[k].ps.length + ((lg[k].ps.take q).map fun p => p.c.ms.length).sum ∧ z ≤ m + lg[k].ps.length + q * 140737488355328 ∧ st.s 1 = .ptr 1 0 ∧ st.b 1 = some (.box 33 [.p (.sl 5 (zns ns)), .p (.sl 1 (ints ss)), .p (I nx), .p (I ep), .p (I n), .p (I kind), .p (.sl 4 (mbs ms)), .p (I ae), .p (I an), .p (.sl 8 (txns lg))]) ∧ st.s 3 = .p (I z) ∧ st.s 4 = .p (I k) ∧ st.s 5 = .p (I q)) lg[k].ps.length ⟨0, m + lg[k].ps.length, by omega, by simp, by omega, ?_⟩ fun K' N' st hL' ⟨q, z, hq, hz, hzb, e1, d1, e3, e4, e5⟩ => ?_
      · simp [g1, b1, g4]
      by_cases hlq : q < lg[k].ps.length
      · have hlq' : (q : Int) < lg[k].ps.length := by omega
        have hwq := wrapS q _ hlq (by omega)
        have heq := pts_get hlq
        have hpq := hp2 lg[k].ps[q] (List.getElem_mem hlq)
        have wz := wrapN z lg[k].ps[q].c.ms.length (by omega)
        repeat' first | (refine hK _ ?_; clear hK) | (refine hK _ _ ?_; clear hK) | (clear hK; refine hK _ ?_; clear hK) | (clear hK; clear hK; refine hK _ ?_; clear hK) | (clear hK; clear hK; clear hK; refine hK _ ?_; clear hK) | (clear hK; clear hK; clear hK; clear hK; refine hK _ ?_; clear hK) | (refine wSeq fun K hK => ?_) | ((first | refine wReg ?_ | refine wDrwQ rfl (by kernel_rfl) ?_ | refine wDrwI ?_ | refine wDrw (by kernel_rfl) ?_); simp only [List.map_cons, List.map_nil, strip]) | ((first | refine wIs fun K hK => ?_ | refine wOs fun K hK => ?_ | refine wQs fun K hK => ?_ | refine CallK_plain ?_ | refine CallQ_plain ?_ | refine CallR_plain ?_ | refine wCond ?_); simp [e1, d1, e3, e4, e5, hlt, hlt', he, hlq, hlq', hwq, heq, wz]) | (refine wIn ?_; refine And.intro (by kernel_rfl) ?_; try simp only [thenA_n]) | (first | refine wBlock ?_ | refine wScope ?_) | ((first | refine wRet ?_ | refine wExit ?_ | refine wSkip ?_); try simp) | ((first | refine wLabel ?_ | refine wOn ?_ | refine wQn ?_); try simp only [thenA_n])
        refine hL' _ (N' - 1) (by omega) ⟨q + 1, z + lg[k].ps[q].c.ms.length, by omega, ?_, by omega, ?_⟩
        · rw [sum_snoc _ hlq, hz]; omega
        · simp [e1, d1, e3, e4, e5, hwq, wz]
      · have hlq' : ¬ (q : Int) < lg[k].ps.length := by omega
        rw [List.take_of_length_le (by omega)] at hz
        repeat' first | (refine hK _ ?_; clear hK) | (refine hK _ _ ?_; clear hK) | (clear hK; refine hK _ ?_; clear hK) | (clear hK; clear hK; refine hK _ ?_; clear hK) | (clear hK; clear hK; clear hK; refine hK _ ?_; clear hK) | (clear hK; clear hK; clear hK; clear hK; refine hK _ ?_; clear hK) | (refine wSeq fun K hK => ?_) | ((first | refine wReg ?_ | refine wDrwQ rfl (by kernel_rfl) ?_ | refine wDrwI ?_ | refine wDrw (by kernel_rfl) ?_); simp only [List.map_cons, List.map_nil, strip]) | ((first | refine wIs fun K hK => ?_ | refine wOs fun K hK => ?_ | refine wQs fun K hK => ?_ | refine CallK_plain ?_ | refine CallQ_plain ?_ | refine CallR_plain ?_ | refine wCond ?_); simp [e1, d1, e3, e4, e5, hlt, hlt', he, hlq, hlq', hw]) | (refine wIn ?_; refine And.intro (by kernel_rfl) ?_; try simp only [thenA_n]) | (first | refine wBlock ?_ | refine wScope ?_) | ((first | refine wRet ?_ | refine wExit ?_ | refine wSkip ?_); try simp) | ((first | refine wLabel ?_ | refine wOn ?_ | refine wQn ?_); try simp only [thenA_n])
        refine hL _ (N - 1) (by omega) ⟨k + 1, z, by omega, ?_, by omega, fun t ht => ?_, ?_⟩
        · rw [sum_snoc _ hlt, hz, hm]; unfold wT; omega
        · rw [List.take_succ_eq_append_getElem hlt] at ht
          rcases List.mem_append.1 ht with ht | ht
          · exact hps t ht
          · rw [List.mem_singleton.1 ht]; omega
        · simp [e1, d1, e3, e4, e5, hw]
  · have hlt' : ¬ (k : Int) < lg.length := by omega
    rw [List.take_of_length_le (by omega)] at hm hps
    have hmH : m = wH ⟨⟨ns, ss, nx, ⟨ep, n, kind, ms⟩, ae, an⟩, lg⟩ := by unfold wH; first | omega | (simp only; omega)
    by_cases q3 : 200 < m
    · have q3' : (200 : Int) < m := by omega
      rw [show decide (¬ near22 ⟨⟨ns, ss, nx, ⟨ep, n, kind, ms⟩, ae, an⟩, lg⟩) = true from decide_eq_true fun h => by have := h.2.2; first | omega | (simp only at this; omega)] at hr
      repeat' first | (refine hK _ ?_; clear hK) | (refine hK _ _ ?_; clear hK) | (clear hK; refine hK _ ?_; clear hK) | (clear hK; clear hK; refine hK _ ?_; clear hK) | (clear hK; clear hK; clear hK; refine hK _ ?_; clear hK) | (clear hK; clear hK; clear hK; clear hK; refine hK _ ?_; clear hK) | (refine wSeq fun K hK => ?_) | ((first | refine wReg ?_ | refine wDrwQ rfl (by kernel_rfl) ?_ | refine wDrwI ?_ | refine wDrw (by kernel_rfl) ?_); simp only [List.map_cons, List.map_nil, strip]) | ((first | refine wIs fun K hK => ?_ | refine wOs fun K hK => ?_ | refine wQs fun K hK => ?_ | refine CallK_plain ?_ | refine CallQ_plain ?_ | refine CallR_plain ?_ | refine wCond ?_); simp [g1, b1, g3, g4, hlt, hlt', q3, q3']) | (refine wIn ?_; refine And.intro (by kernel_rfl) ?_; try simp only [thenA_n]) | (first | refine wBlock ?_ | refine wScope ?_) | ((first | refine wRet ?_ | refine wExit ?_ | refine wSkip ?_); try simp) | ((first | refine wLabel ?_ | refine wOn ?_ | refine wQn ?_); try simp only [thenA_n])
      all_goals apply hr
      all_goals simp [Try.f22]
    · have q3' : ¬ (200 : Int) < m := by omega
      by_cases q4 : 30 < lg.length
      · have q4' : (30 : Int) < lg.length := by omega
        rw [show decide (¬ near22 ⟨⟨ns, ss, nx, ⟨ep, n, kind, ms⟩, ae, an⟩, lg⟩) = true from decide_eq_true fun h => by have := h.1; simp only at this; omega] at hr
        repeat' first | (refine hK _ ?_; clear hK) | (refine hK _ _ ?_; clear hK) | (clear hK; refine hK _ ?_; clear hK) | (clear hK; clear hK; refine hK _ ?_; clear hK) | (clear hK; clear hK; clear hK; refine hK _ ?_; clear hK) | (clear hK; clear hK; clear hK; clear hK; refine hK _ ?_; clear hK) | (refine wSeq fun K hK => ?_) | ((first | refine wReg ?_ | refine wDrwQ rfl (by kernel_rfl) ?_ | refine wDrwI ?_ | refine wDrw (by kernel_rfl) ?_); simp only [List.map_cons, List.map_nil, strip]) | ((first | refine wIs fun K hK => ?_ | refine wOs fun K hK => ?_ | refine wQs fun K hK => ?_ | refine CallK_plain ?_ | refine CallQ_plain ?_ | refine CallR_plain ?_ | refine wCond ?_); simp [g1, b1, g3, g4, hlt, hlt', q3, q3', q4, q4']) | (refine wIn ?_; refine And.intro (by kernel_rfl) ?_; try simp only [thenA_n]) | (first | refine wBlock ?_ | refine wScope ?_) | ((first | refine wRet ?_ | refine wExit ?_ | refine wSkip ?_); try simp) | ((first | refine wLabel ?_ | refine wOn ?_ | refine wQn ?_); try simp only [thenA_n])
        all_goals apply hr
        all_goals simp [Try.f22]
      · have q4' : ¬ (30 : Int) < lg.length := by omega
        rw [show decide (¬ near22 ⟨⟨ns, ss, nx, ⟨ep, n, kind, ms⟩, ae, an⟩, lg⟩) = false from decide_eq_false fun h => h ⟨by simp only; omega, hps, by show wH _ ≤ 200; omega⟩] at hr
        repeat' first | (refine hK _ ?_; clear hK) | (refine hK _ _ ?_; clear hK) | (clear hK; refine hK _ ?_; clear hK) | (clear hK; clear hK; refine hK _ ?_; clear hK) | (clear hK; clear hK; clear hK; refine hK _ ?_; clear hK) | (clear hK; clear hK; clear hK; clear hK; refine hK _ ?_; clear hK) | (refine wSeq fun K hK => ?_) | ((first | refine wReg ?_ | refine wDrwQ rfl (by kernel_rfl) ?_ | refine wDrwI ?_ | refine wDrw (by kernel_rfl) ?_); simp only [List.map_cons, List.map_nil, strip]) | ((first | refine wIs fun K hK => ?_ | refine wOs fun K hK => ?_ | refine wQs fun K hK => ?_ | refine CallK_plain ?_ | refine CallQ_plain ?_ | refine CallR_plain ?_ | refine wCond ?_); simp [g1, b1, g3, g4, hlt, hlt', q3, q3', q4, q4']) | (refine wIn ?_; refine And.intro (by kernel_rfl) ?_; try simp only [thenA_n]) | (first | refine wBlock ?_ | refine wScope ?_) | ((first | refine wRet ?_ | refine wExit ?_ | refine wSkip ?_); try simp) | ((first | refine wLabel ?_ | refine wOn ?_ | refine wQn ?_); try simp only [thenA_n])
        all_goals apply hr
        all_goals simp [Try.f22]
end Go.Proofs.Yteicecbjahhjmaa
/- Learners, messages; what a learner sends. -/
namespace Go.Proofs.Yteicecbjahhjmaa
set_option linter.unusedSimpArgs false
set_option linter.unusedVariables false
set_option maxRecDepth 8000
open Go Go.Av
attribute [local simp] Try.T1 Try.T2 Try.T3 Try.T4 Try.T5 Try.T9 Try.T12 Try.T15 Try.T16 Try.T17 Try.T21 Try.T22 Try.T23 Try.T25 Try.T26 Try.T28 Try.T30 Try.T31 Try.T33 Try.T35 Try.T36 Try.T37 Try.T38 Try.T39 Try.T41 Try.T42 Try.T44 Try.T45 Try.T47 Try.T48 Try.T50 Try.T51 Try.T52 Try.T54 Try.T55 Try.T56 Try.T58 Try.T59 Try.T61 Try.T63 Try.T65 Try.T67 Try.T68 Try.T69 Try.T70 Try.T72 Try.T73 Try.T74 Try.T75 Try.T76 Try.T77 Try.T78 Try.T79 Try.T80 Try.T81 Try.T83 Try.T84 Try.T85 Try.T87 Try.T88 Try.T89 Try.T90 Try.T91 Try.T92 Try.T93 Try.T94 Try.T95 Try.T96 Try.T97 Try.T98 Try.T99 Try.T101 Try.T103 Try.T104 Try.T105 Try.T106 Try.T107 Try.T108 Try.T109 Try.T110 Try.T111 Try.T113 Try.T114 Try.T115 Try.T116 Try.T117 Try.T118 Try.T119 Try.T120 Try.T121 Try.T122 Try.T123 Try.T124 Try.T125 Try.T126 Try.T127 Try.T128 Try.T129 Try.T130 Try.T131 Try.T132 Try.T133 Try.T134 Try.T135 Try.T137 Try.T138 Try.T139 Try.T140 Try.T141 Try.T142 Try.T143 Try.T144 Try.T145 Try.T146 Try.T147 Try.T148 Try.T149 Try.T150 Try.T153 Try.T156 Try.T157 Try.T160 Try.T161 Try.T167
attribute [local irreducible] Go.Av.CallK Go.Av.CallE Go.Av.CallQ Go.Av.CallF Go.Av.CallR Go.Av.CallH Go.Av.Con
/-- A learner. -/
structure Lp where
  (id ac cu : Int)
  (h : Hy)
  (d : Zx)
  (mo ld ph wt ep : Int)
def Lp.cells (p : Lp) : List PV := [I p.id, I p.ac, I p.cu, .sl 5 (zns p.h.im.ns), .sl 1 (ints p.h.im.ss), I p.h.im.nx, I p.h.im.c.ep, I p.h.im.c.n, I p.h.im.c.kind, .sl 4 (mbs p.h.im.c.ms), I p.h.im.ae, I p.h.im.an, .sl 8 (txns p.h.lg), I p.d.e, I p.d.n, I p.mo, I 0, I 0, I 0, I 0, I 0, I 0, I 0, I 0, I 0, I 0, I 0, I 0, I 0, I 0, I 0, I 0, .sl 7 [], I p.ld, I p.ph, I p.wt, I p.ep, .sl 8 []]
/-- A message. -/
structure Mg where
  (fr to kd v0 v1 v2 v3 v4 v5 v6 ep cu : Int)
  (z : Zx)
  (ms : List Zx)
  (pk : Int)
  (pz : Zx)
  (pim : Sv)
  (pl : List Tx)
  (tx : Tx)
  (tc : List (List PV))
  (aK aS aX : Int)
  (ao : List (List PV))
  (adk : Int)
  (ap ad : List (List PV))
  (awe awn : Int)
def Mg.cells (m : Mg) : List PV := [I m.fr, I m.to, I m.kd, I m.v0, I m.v1, I m.v2, I m.v3, I m.v4, I m.v5, I m.v6, I m.ep, I m.cu, I m.z.e, I m.z.n, .sl 2 (zxs m.ms), I m.pk, I m.pz.e, I m.pz.n, .sl 5 (zns m.pim.ns), .sl 1 (ints m.pim.ss), I m.pim.nx, I m.pim.c.ep, I m.pim.c.n, I m.pim.c.kind, .sl 4 (mbs m.pim.c.ms), I m.pim.ae, I m.pim.an, .sl 8 (txns m.pl), I m.tx.e, I m.tx.n, I m.tx.s, I m.tx.x, I m.tx.r, I m.tx.b, SB m.tx.m, .sl 11 (pts m.tx.ps), .sl 1 m.tc, I m.aK, I m.aS, I m.aX, .sl 6 m.ao, I m.adk, .sl 4 m.ap, .sl 1 m.ad, I m.awe, I m.awn]
abbrev sv0 : Sv := ⟨[], [], 0, ⟨0, 0, 0, []⟩, 0, 0⟩
/-- A message with so much in it. -/
def mgZ (fr to kd ep cu : Int) (z : Zx) (mk : List Zx) : Mg := ⟨fr, to, kd, 0, 0, 0, 0, 0, 0, 0, ep, cu, z, mk, 0, ⟨0, 0⟩, sv0, [], ⟨0, 0, 0, 0, 0, 0, [], []⟩, [], 0, 0, 0, [], 0, [], [], 0, 0⟩
def sBx (p : Lp) (X : V) (g : Bool) : List V := [.p (I p.id), .p (I p.ac), .p (I p.cu), .p (.sl 5 (zns p.h.im.ns)), .p (.sl 1 (ints p.h.im.ss)), .p (I p.h.im.nx), .p (I p.h.im.c.ep), .p (I p.h.im.c.n), .p (I p.h.im.c.kind), .p (.sl 4 (mbs p.h.im.c.ms)), .p (I p.h.im.ae), .p (I p.h.im.an), .p (.sl 8 (txns p.h.lg)), .p (I p.d.e), .p (I p.d.n), .p (I p.mo), .p (I 0), .p (I 0), .p (I 0), .p (I 0), .p (I 0), .p (I 0), .p (I 0), .p (I 0), .p (I 0), .p (I 0), .p (I 0), .p (I 0), .p (I 0), .p (I 0), .p (I 0), .p (I 0), .p (.sl 7 []), .p (I p.ld), .p (I p.ph), .p (I p.wt), .p (I p.ep), .p (.sl 8 []), X, .p (B g)]
/-- What stands behind the pointer: the learner, nothing sent yet. -/
abbrev sW (p : Lp) (g : Bool) : List Blk := [.box 87 (sBx p (.nil 46) g)]
/-- And with one message sent. -/
abbrev sW1 (p : Lp) (g : Bool) : List Blk := [.box 87 (sBx p (.row 2048) g)]
theorem send_con (p : Lp) (m : Mg) (g : Bool) : Con Try.prog 43 [.ptr 1024 0, .p (.agg m.cells)] (sW p g) (.ret (.tup []) [.row 65 46 [({ m with fr := p.id, to := p.ld } : Mg).cells]] (sW1 p g)) := by
  unfold sW sW1 sBx Mg.cells
  dsimp only
  refine wBodyG Try.tab Try.mixed Try.func43 rfl rfl Try.ntmps43 (by simp) (by simp) fun Q hr hn hp => ?_
  repeat' first | (refine And.intro (by omega) (Or.inl ?_)) | (refine And.intro (by omega) ?_) | (refine hK _ ?_; clear hK) | (refine hK _ _ ?_; clear hK) | (clear hK; refine hK _ ?_; clear hK) | (clear hK; clear hK; refine hK _ ?_; clear hK) | (clear hK; clear hK; clear hK; refine hK _ ?_; clear hK) | (clear hK; clear hK; clear hK; clear hK; refine hK _ ?_; clear hK) | (refine wSeq fun K hK => ?_) | ((first | refine wReg ?_ | refine wDrwQ rfl (by kernel_rfl) ?_ | refine wDrwI ?_ | refine wDrw (by kernel_rfl) ?_); simp only [List.map_cons, List.map_nil, strip]) | ((first | refine wIs fun K hK => ?_ | refine wOs fun K hK => ?_ | refine wQs fun K hK => ?_ | refine CallK_plain ?_ | refine CallQ_plain ?_ | refine CallR_plain ?_ | refine wCond ?_); simp) | (refine wIn ?_; refine And.intro (by kernel_rfl) ?_; try simp only [thenA_n]) | (first | refine wBlock ?_ | refine wScope ?_) | ((first | refine wRet ?_ | refine wExit ?_ | refine wSkip ?_); try simp) | ((first | refine wLabel ?_ | refine wOn ?_ | refine wQn ?_); try simp only [thenA_n])
  all_goals first | apply hn | apply hr
  all_goals refine ⟨[23], by simp, by simp, ?_⟩
  all_goals simp [Try.f43, outR, outB, renB, gaN]
theorem nothing_con (p : Lp) (m : Mg) (g : Bool) : Con Try.prog 52 [.ptr 1024 0, .p (.agg m.cells)] (sW p g) (.ret (.tup []) [] (sW p g)) := by
  unfold sW sBx Mg.cells
  refine wBodyG Try.tab Try.mixed Try.func52 rfl rfl Try.ntmps52 (by simp) (by simp) fun Q hr hn hp => ?_
  repeat' first | (refine hK _ ?_; clear hK) | (refine hK _ _ ?_; clear hK) | (clear hK; refine hK _ ?_; clear hK) | (clear hK; clear hK; refine hK _ ?_; clear hK) | (clear hK; clear hK; clear hK; refine hK _ ?_; clear hK) | (clear hK; clear hK; clear hK; clear hK; refine hK _ ?_; clear hK) | (refine wSeq fun K hK => ?_) | ((first | refine wReg ?_ | refine wDrwQ rfl (by kernel_rfl) ?_ | refine wDrwI ?_ | refine wDrw (by kernel_rfl) ?_); simp only [List.map_cons, List.map_nil, strip]) | ((first | refine wIs fun K hK => ?_ | refine wOs fun K hK => ?_ | refine wQs fun K hK => ?_ | refine CallK_plain ?_ | refine CallQ_plain ?_ | refine CallR_plain ?_ | refine wCond ?_); simp) | (refine wIn ?_; refine And.intro (by kernel_rfl) ?_; try simp only [thenA_n]) | (first | refine wBlock ?_ | refine wScope ?_) | ((first | refine wRet ?_ | refine wExit ?_ | refine wSkip ?_); try simp) | ((first | refine wLabel ?_ | refine wOn ?_ | refine wQn ?_); try simp only [thenA_n])
  all_goals first | apply hn | apply hr
  all_goals refine ⟨[], by simp, by simp, ?_⟩
  all_goals simp [Try.f52, outR, outB, renB, gaN]
def comeM (p : Lp) : Mg := mgZ p.id p.ld 2 p.ac 0 ⟨0, 0⟩ []
theorem come_con (p : Lp) (g : Bool) : Con Try.prog 25 [.ptr 1024 0] (sW p g) (.ret (.tup []) [.row 65 46 [(comeM p).cells]] (sW1 p g)) := by
  have c1 := send_con p (mgZ 0 0 2 p.ac 0 ⟨0, 0⟩ []) g
  rw [show ({ mgZ 0 0 2 p.ac 0 ⟨0, 0⟩ [] with fr := p.id, to := p.ld } : Mg) = comeM p from rfl] at c1
  generalize (comeM p).cells = mm at *
  unfold sW sW1 sBx mgZ Mg.cells at *
  simp only [zns, ints, mbs, txns, zxs, pts, List.map_nil] at c1 ⊢
  refine wBodyG Try.tab Try.mixed Try.func25 rfl rfl Try.ntmps25 (by simp) (by simp) fun Q hr hn hp => ?_
  repeat' first | (refine CallK_gen [1024] (c1) (by decide) (by decide) (by simp [blksOf, inN, pos, renB, renC, renCs, ren0, lv, ouN, kpI, kpR]) (by simp [argsG, argG, ren0, inN, pos, renCs, renC]) ⟨[500], by simp, by simp, ?_⟩; simp [lv, ouN, kpI, kpR, pos, ren, ren0, renB, renC, renCs, renF, renFs]) | (refine hK _ ?_; clear hK) | (refine hK _ _ ?_; clear hK) | (clear hK; refine hK _ ?_; clear hK) | (clear hK; clear hK; refine hK _ ?_; clear hK) | (clear hK; clear hK; clear hK; refine hK _ ?_; clear hK) | (clear hK; clear hK; clear hK; clear hK; refine hK _ ?_; clear hK) | (refine wSeq fun K hK => ?_) | ((first | refine wReg ?_ | refine wDrwQ rfl (by kernel_rfl) ?_ | refine wDrwI ?_ | refine wDrw (by kernel_rfl) ?_); simp only [List.map_cons, List.map_nil, strip]) | ((first | refine wIs fun K hK => ?_ | refine wOs fun K hK => ?_ | refine wQs fun K hK => ?_ | refine CallK_plain ?_ | refine CallQ_plain ?_ | refine CallR_plain ?_ | refine wCond ?_); simp [show ByteArray.empty = bs [] from rfl]) | (refine wIn ?_; refine And.intro (by kernel_rfl) ?_; try simp only [thenA_n]) | (first | refine wBlock ?_ | refine wScope ?_) | ((first | refine wRet ?_ | refine wExit ?_ | refine wSkip ?_); try simp) | ((first | refine wLabel ?_ | refine wOn ?_ | refine wQn ?_); try simp only [thenA_n])
  all_goals first | apply hn | apply hr
  all_goals refine ⟨[500], by simp, by simp, ?_⟩
  all_goals simp [Try.f25, outR, outB, renB, gaN, lv, ouN, kpI, kpR, pos, ren, ren0, renC, renCs, renF, renFs]
end Go.Proofs.Yteicecbjahhjmaa
