/- Texts that the proof needs: HO HX HY. -/
import Derived.Test.YtegoihognjpcjaaP27HistorySquashes
import Derived.Test.YtegoihognjpcjaaP28HistorySquashes
/- Histories: what comes in, opened. -/
namespace Go.Proofs.Ytegoihognjpcjaa
set_option linter.unusedVariables false
open Go Go.Av Go.ChangeShapes Go.WideShapes Go.ChangeAt Go.RowKit
/-- How many bytes an element of so many cells has at least. -/
def KB (c : Nat) : Nat := 1
theorem hpos : PosK Try.T KB := by
  intro t yt e y h hk hy hs
  unfold Try.T at h
  split at h
  all_goals first | (cases h; done) | (cases h; cases hk; done) | (cases h; cases hk; cases hy; done) | (cases h; cases hk; cases hy; first | exact of_decide_eq_true (by kernel_rfl) | (simp at hs; done))
theorem Mb.ofL {ps : List PV} (h : ShL [.int .i64, .int .i64, .int .i64, .int .i64] ps) : ∃ a : Mb, ps = a.cells := by
  obtain ⟨_, _, rfl, h0, h⟩ := h.cons
  obtain ⟨_, _, rfl, h1, h⟩ := h.cons
  obtain ⟨_, _, rfl, h2, h⟩ := h.cons
  obtain ⟨_, _, rfl, h3, h⟩ := h.cons
  obtain rfl := h.nil
  obtain ⟨_, rfl, -⟩ := h0.intI
  obtain ⟨_, rfl, -⟩ := h1.intI
  obtain ⟨_, rfl, -⟩ := h2.intI
  obtain ⟨_, rfl, -⟩ := h3.intI
  exact ⟨⟨_, _, _, _⟩, rfl⟩
abbrev LMb : Lf := .sl [.int .i64, .int .i64, .int .i64, .int .i64]
abbrev LZn : List Lf := [.str, .str, .int .i64, .int .i64, .int .i64]
abbrev LPt : List Lf := [.int .i64, .str, .str, .int .i64, .int .i64, .int .i64, .int .i64, .int .i64, .int .i64, .int .i64, LMb]
abbrev LTx : List Lf := [.int .i64, .int .i64, .int .i64, .int .i64, .int .i64, .int .i64, .str, .sl LPt]
theorem Cf.ofL {ps : List PV} (h : ShL [.int .i64, .int .i64, .int .i64, LMb] ps) : ∃ a : Cf, ps = a.cells := by
  obtain ⟨_, _, rfl, h0, h⟩ := h.cons
  obtain ⟨_, _, rfl, h1, h⟩ := h.cons
  obtain ⟨_, _, rfl, h2, h⟩ := h.cons
  obtain ⟨_, _, rfl, h3, h⟩ := h.cons
  obtain rfl := h.nil
  obtain ⟨_, rfl, -⟩ := h0.intI
  obtain ⟨_, rfl, -⟩ := h1.intI
  obtain ⟨_, rfl, -⟩ := h2.intI
  obtain ⟨l, rfl⟩ := h3.slI (f := Mb.cells) fun ps h => Mb.ofL h
  exact ⟨⟨_, _, _, l⟩, rfl⟩
theorem Pt.ofL {ps : List PV} (h : ShL LPt ps) : ∃ a : Pt, ps = a.cells := by
  obtain ⟨_, _, rfl, h0, h⟩ := h.cons
  obtain ⟨_, _, rfl, h1, h⟩ := h.cons
  obtain ⟨_, _, rfl, h2, h⟩ := h.cons
  obtain ⟨_, _, rfl, h3, h⟩ := h.cons
  obtain ⟨_, _, rfl, h4, h⟩ := h.cons
  obtain ⟨_, _, rfl, h5, h⟩ := h.cons
  obtain ⟨_, _, rfl, h6, h⟩ := h.cons
  obtain ⟨_, _, rfl, h7, h⟩ := h.cons
  obtain ⟨_, _, rfl, h8, h⟩ := h.cons
  obtain ⟨_, _, rfl, h9, h⟩ := h.cons
  obtain ⟨_, _, rfl, h10, h⟩ := h.cons
  obtain rfl := h.nil
  obtain ⟨_, rfl, -⟩ := h0.intI
  obtain ⟨s1, rfl, -⟩ := h1.strI
  obtain ⟨s2, rfl, -⟩ := h2.strI
  obtain ⟨_, rfl, -⟩ := h3.intI
  obtain ⟨_, rfl, -⟩ := h4.intI
  obtain ⟨_, rfl, -⟩ := h5.intI
  obtain ⟨_, rfl, -⟩ := h6.intI
  obtain ⟨_, rfl, -⟩ := h7.intI
  obtain ⟨_, rfl, -⟩ := h8.intI
  obtain ⟨_, rfl, -⟩ := h9.intI
  obtain ⟨l, rfl⟩ := h10.slI (f := Mb.cells) fun ps h => Mb.ofL h
  exact ⟨⟨_, ⟨s1.data.toList, s2.data.toList, _, _, _⟩, _, ⟨_, _, _, l⟩⟩, rfl⟩
theorem Tx.ofL {ps : List PV} (h : ShL LTx ps) : ∃ a : Tx, ps = a.cells := by
  obtain ⟨_, _, rfl, h0, h⟩ := h.cons
  obtain ⟨_, _, rfl, h1, h⟩ := h.cons
  obtain ⟨_, _, rfl, h2, h⟩ := h.cons
  obtain ⟨_, _, rfl, h3, h⟩ := h.cons
  obtain ⟨_, _, rfl, h4, h⟩ := h.cons
  obtain ⟨_, _, rfl, h5, h⟩ := h.cons
  obtain ⟨_, _, rfl, h6, h⟩ := h.cons
  obtain ⟨_, _, rfl, h7, h⟩ := h.cons
  obtain rfl := h.nil
  obtain ⟨_, rfl, -⟩ := h0.intI
  obtain ⟨_, rfl, -⟩ := h1.intI
  obtain ⟨_, rfl, -⟩ := h2.intI
  obtain ⟨_, rfl, -⟩ := h3.intI
  obtain ⟨_, rfl, -⟩ := h4.intI
  obtain ⟨_, rfl, -⟩ := h5.intI
  obtain ⟨s, rfl, -⟩ := h6.strI
  obtain ⟨l, rfl⟩ := h7.slI (f := Pt.cells) fun ps h => Pt.ofL h
  exact ⟨⟨_, _, _, _, _, _, s.data.toList, l⟩, rfl⟩
theorem Zn.ofL' {ps : List PV} (h : ShL LZn ps) : ∃ a : Zn, ps = a.c := by
  obtain ⟨a, h⟩ := Zn.ofL h
  exact ⟨a.1, h⟩
theorem Sv.ofL {ps : List PV} (h : ShL [.sl LZn, .sl [.int .i64], .int .i64, .int .i64, .int .i64, .int .i64, LMb, .int .i64, .int .i64] ps) : ∃ s : Sv, ps = s.cells := by
  obtain ⟨_, _, rfl, h0, h⟩ := h.cons
  obtain ⟨_, _, rfl, h1, h⟩ := h.cons
  obtain ⟨_, _, rfl, h2, h⟩ := h.cons
  obtain ⟨_, _, rfl, h3, h⟩ := h.cons
  obtain ⟨_, _, rfl, h4, h⟩ := h.cons
  obtain ⟨_, _, rfl, h5, h⟩ := h.cons
  obtain ⟨_, _, rfl, h6, h⟩ := h.cons
  obtain ⟨_, _, rfl, h7, h⟩ := h.cons
  obtain ⟨_, _, rfl, h8, h⟩ := h.cons
  obtain rfl := h.nil
  obtain ⟨ns, rfl⟩ := h0.slI (f := Zn.c) fun ps h => Zn.ofL' h
  obtain ⟨ss, rfl⟩ := h1.slI (f := fun n : Int => [I n]) fun ps h => by
    obtain ⟨_, _, rfl, h0, h⟩ := h.cons
    obtain rfl := h.nil
    obtain ⟨n, rfl, -⟩ := h0.intI
    exact ⟨n, rfl⟩
  obtain ⟨_, rfl, -⟩ := h2.intI
  obtain ⟨_, rfl, -⟩ := h3.intI
  obtain ⟨_, rfl, -⟩ := h4.intI
  obtain ⟨_, rfl, -⟩ := h5.intI
  obtain ⟨ms, rfl⟩ := h6.slI (f := Mb.cells) fun ps h => Mb.ofL h
  obtain ⟨_, rfl, -⟩ := h7.intI
  obtain ⟨_, rfl, -⟩ := h8.intI
  exact ⟨⟨ns, ss, _, ⟨_, _, _, ms⟩, _, _⟩, rfl⟩
theorem szLe {N c : Nat} {l : List (List PV)} (h : SzI KB N (.sl c l)) : l.length ≤ N := by
  have := h.len
  have h1 : 1 ≤ KB c := by unfold KB; omega
  have := Nat.le_mul_of_pos_right l.length (show 0 < KB c by omega)
  omega
abbrev LZx : List Lf := [.int .i64, .int .i64]
theorem Zx.ofL {ps : List PV} (h : ShL LZx ps) : ∃ a : Zx, ps = [I a.e, I a.n] := by
  obtain ⟨_, _, rfl, h0, h⟩ := h.cons
  obtain ⟨_, _, rfl, h1, h⟩ := h.cons
  obtain rfl := h.nil
  obtain ⟨_, rfl, -⟩ := h0.intI
  obtain ⟨_, rfl, -⟩ := h1.intI
  exact ⟨⟨_, _⟩, rfl⟩
theorem Hy.ofL {ps : List PV} (h : ShL [.sl LZn, .sl [.int .i64], .int .i64, .int .i64, .int .i64, .int .i64, LMb, .int .i64, .int .i64, .sl LTx] ps) : ∃ h : Hy, ps = h.cells := by
  obtain ⟨_, _, rfl, h0, h⟩ := h.cons
  obtain ⟨_, _, rfl, h1, h⟩ := h.cons
  obtain ⟨_, _, rfl, h2, h⟩ := h.cons
  obtain ⟨_, _, rfl, h3, h⟩ := h.cons
  obtain ⟨_, _, rfl, h4, h⟩ := h.cons
  obtain ⟨_, _, rfl, h5, h⟩ := h.cons
  obtain ⟨_, _, rfl, h6, h⟩ := h.cons
  obtain ⟨_, _, rfl, h7, h⟩ := h.cons
  obtain ⟨_, _, rfl, h8, h⟩ := h.cons
  obtain ⟨_, _, rfl, h9, h⟩ := h.cons
  obtain rfl := h.nil
  obtain ⟨ns, rfl⟩ := h0.slI (f := Zn.c) fun ps h => Zn.ofL' h
  obtain ⟨ss, rfl⟩ := h1.slI (f := fun n : Int => [I n]) fun ps h => by
    obtain ⟨_, _, rfl, h0, h⟩ := h.cons
    obtain rfl := h.nil
    obtain ⟨n, rfl, -⟩ := h0.intI
    exact ⟨n, rfl⟩
  obtain ⟨_, rfl, -⟩ := h2.intI
  obtain ⟨_, rfl, -⟩ := h3.intI
  obtain ⟨_, rfl, -⟩ := h4.intI
  obtain ⟨_, rfl, -⟩ := h5.intI
  obtain ⟨ms, rfl⟩ := h6.slI (f := Mb.cells) fun ps h => Mb.ofL h
  obtain ⟨_, rfl, -⟩ := h7.intI
  obtain ⟨_, rfl, -⟩ := h8.intI
  obtain ⟨lg, rfl⟩ := h9.slI (f := Tx.cells) fun ps h => Tx.ofL h
  exact ⟨⟨⟨ns, ss, _, ⟨_, _, _, ms⟩, _, _⟩, lg⟩, rfl⟩
theorem hy_open {p : PV} (hp : ShT Try.T 33 p) : ∃ h : Hy, p = .agg h.cells := by
  obtain ⟨ps, rfl, h⟩ := hp.agg (E := [.sl LZn, .sl [.int .i64], .int .i64, .int .i64, .int .i64, .int .i64, LMb, .int .i64, .int .i64, .sl LTx]) rfl rfl rfl
  obtain ⟨s, rfl⟩ := Hy.ofL h
  exact ⟨s, rfl⟩
theorem SmallH.of {h : Hy} (hz : SzI KB reachBytes (.agg h.cells)) : SmallH h := by
  have hr : reachBytes = 140737488351232 := rfl
  have h1 := szLe (hz.part (p := .sl 5 (zns h.im.ns)) (by simp [Hy.cells]))
  have h2 := szLe (hz.part (p := .sl 1 (ints h.im.ss)) (by simp [Hy.cells]))
  have h3 := szLe (hz.part (p := .sl 4 (mbs h.im.c.ms)) (by simp [Hy.cells]))
  rw [zns_len] at h1
  rw [ints_len] at h2
  rw [mbs_len] at h3
  refine ⟨by omega, by omega, by omega, fun t ht => ?_⟩
  have h4 := (hz.part (p := .sl 8 (txns h.lg)) (by simp [Hy.cells])).at (e := t.cells) (List.mem_map.2 ⟨t, ht, rfl⟩) (p := .sl 11 (pts t.ps)) (by simp [Tx.cells])
  have h5 := szLe h4
  rw [pts_len] at h5
  refine ⟨by omega, fun p hp => ?_⟩
  have h6 := szLe (h4.at (e := p.cells) (List.mem_map.2 ⟨p, hp, rfl⟩) (p := .sl 4 (mbs p.c.ms)) (by simp [Pt.cells]))
  rw [mbs_len] at h6
  omega
end Go.Proofs.Ytegoihognjpcjaa


/- Histories, the program's: the state at a place, squashed there, whether the marks rise; marks compared. -/
namespace Go.Proofs.Ytegoihognjpcjaa
set_option linter.unusedSimpArgs false
set_option linter.unusedVariables false
open Go Go.Av
attribute [local simp] Try.T1 Try.T2 Try.T3 Try.T4 Try.T5 Try.T9 Try.T12 Try.T15 Try.T16 Try.T17 Try.T21 Try.T22 Try.T23 Try.T25 Try.T26 Try.T28 Try.T30 Try.T31 Try.T33 Try.T34 Try.T35 Try.T36 Try.T37 Try.T38 Try.T40 Try.T42 Try.T43 Try.T44 Try.T45 Try.T46 Try.T48 Try.T49 Try.T50 Try.T51 Try.T52 Try.T53 Try.T54 Try.T55 Try.T56 Try.T57 Try.T58 Try.T59 Try.T60 Try.T61 Try.T62 Try.T64 Try.T66 Try.T67 Try.T68 Try.T69 Try.T70 Try.T71 Try.T72 Try.T73 Try.T74 Try.T75 Try.T76 Try.T77 Try.T78 Try.T80 Try.T81 Try.T82 Try.T83 Try.T84 Try.T85 Try.T86 Try.T88 Try.T89 Try.T90 Try.T91 Try.T92 Try.T93 Try.T94 Try.T95 Try.T96 Try.T97 Try.T98 Try.T99 Try.T100 Try.T101 Try.T102 Try.T103 Try.T104 Try.T105 Try.T106 Try.T107 Try.T108 Try.T109 Try.T110 Try.T111 Try.T112 Try.T113 Try.T116 Try.T119 Try.T120 Try.T123 Try.T124
attribute [local irreducible] Go.Av.CallK Go.Av.CallE Go.Av.CallQ Go.Av.CallF Go.Av.CallR Go.Av.CallH Go.Av.Con
set_option maxHeartbeats 4000000 in
theorem stateAt_con (h : Hy) (z : Zx) (hf : Fits h.im (psum (upL z h.lg))) (ht : ∀ t ∈ h.lg, okT t) (hlg : h.lg.length ≤ 1000) : ACon Try.prog 20 [.p (.agg h.cells), .p (.agg [I z.e, I z.n])] (.p (.agg (stAt h z).cells)) := by
  have c1 := all_con h.im (upL z h.lg) hf fun t h' => ht t (List.mem_filter.1 h').1
  have s0 : upL z [] = [] := rfl
  unfold stAt
  generalize allS h.im (upL z h.lg) = S at *
  unfold Sv.cells at *
  unfold Hy.cells
  refine wBody Try.tab Try.mixed Try.func20 rfl rfl Try.ntmps20 (by simp) (by simp) fun Q hr hn => ?_
  repeat' first | (refine hK _ ?_; clear hK) | (refine hK _ _ ?_; clear hK) | (clear hK; refine hK _ ?_; clear hK) | (clear hK; clear hK; refine hK _ ?_; clear hK) | (clear hK; clear hK; clear hK; refine hK _ ?_; clear hK) | (clear hK; clear hK; clear hK; clear hK; refine hK _ ?_; clear hK) | (refine wSeq fun K hK => ?_) | ((first | refine wReg ?_ | refine wDrwQ rfl (by kernel_rfl) ?_ | refine wDrwI ?_ | refine wDrw (by kernel_rfl) ?_); simp only [List.map_cons, List.map_nil, strip]) | ((first | refine wIs fun K hK => ?_ | refine wOs fun K hK => ?_ | refine wQs fun K hK => ?_ | refine CallK_plain ?_ | refine CallQ_plain ?_ | refine CallR_plain ?_ | refine wCond ?_); simp) | (refine wIn ?_; refine And.intro (by kernel_rfl) ?_; try simp only [thenA_n]) | (first | refine wBlock ?_ | refine wScope ?_) | ((first | refine wRet ?_ | refine wExit ?_ | refine wSkip ?_); try simp) | ((first | refine wLabel ?_ | refine wOn ?_ | refine wQn ?_); try simp only [thenA_n])
  refine wLoopG [.row 5 40 8] (fun N st => ∃ k, k + N = h.lg.length ∧ st.s 3 = .ptr 3 0 ∧ st.b 3 = some (.box 25 [.p (I z.e), .p (I z.n)]) ∧ st.s 2 = .ptr 2 0 ∧ st.b 2 = some (.box 33 [.p (.sl 5 (zns h.im.ns)), .p (.sl 1 (ints h.im.ss)), .p (I h.im.nx), .p (I h.im.c.ep), .p (I h.im.c.n), .p (I h.im.c.kind), .p (.sl 4 (mbs h.im.c.ms)), .p (I h.im.ae), .p (I h.im.an), .p (.sl 8 (txns h.lg))]) ∧ st.s 4 = .ptr 4 0 ∧ st.b 4 = some (.box 30 [.nil 5, .nil 1, .p (I 0), .p (I 0), .p (I 0), .p (I 0), .nil 4, .p (I 0), .p (I 0)]) ∧ st.s 5 = .row 5 ∧ st.b 5 = some (.row 40 8 (txns (upL z (h.lg.take k)))) ∧ st.s 9 = .p (.sl 8 (txns h.lg)) ∧ st.s 10 = .p (I h.lg.length) ∧ st.s 11 = .p (I k)) h.lg.length ⟨0, by simp [frzL, gh1, txns, s0]⟩ fun K N st hL ⟨k, hk, g3, b3, g2, b2, g4, b4, g5, b5, g9, g10, g11⟩ => ?_
  by_cases hlt : k < h.lg.length
  · have hw := wrapS k _ hlt (by omega)
    have he := txns_get hlt
    have hsn := upL_snoc z hlt
    have cc := cmp_con h.lg[k].e h.lg[k].n z.e z.n
    have hll : (upL z (h.lg.take k)).length ≤ 1000 := by
      have := List.length_filter_le (fun t : Tx => decide (zcmp t.e t.n z.e z.n ≤ 0)) (h.lg.take k)
      unfold upL
      rw [List.length_take] at this
      omega
    by_cases o : zcmp h.lg[k].e h.lg[k].n z.e z.n ≤ 0
    · rw [if_pos o] at hsn
      have hs := txns_snoc (upL z (h.lg.take k)) h.lg[k]
      rw [← hsn] at hs
      generalize zcmp h.lg[k].e h.lg[k].n z.e z.n = r at *
      generalize upL z (h.lg.take k) = L at *
      generalize hL2 : upL z (h.lg.take (k + 1)) = L2 at *
      repeat' first | (refine And.intro (by (try simp); omega) ?_) | (refine hK _ ?_; clear hK) | (refine hK _ _ ?_; clear hK) | (clear hK; refine hK _ ?_; clear hK) | (clear hK; clear hK; refine hK _ ?_; clear hK) | (clear hK; clear hK; clear hK; refine hK _ ?_; clear hK) | (clear hK; clear hK; clear hK; clear hK; refine hK _ ?_; clear hK) | (refine wSeq fun K hK => ?_) | ((first | refine wReg ?_ | refine wDrwQ rfl (by kernel_rfl) ?_ | refine wDrwI ?_ | refine wDrw (by kernel_rfl) ?_); simp only [List.map_cons, List.map_nil, strip]) | ((first | refine wIs fun K hK => ?_ | refine wOs fun K hK => ?_ | refine wQs fun K hK => ?_ | refine CallK_plain ?_ | refine CallQ_plain ?_ | refine CallR_plain ?_ | refine wCond ?_); simp [g3, b3, g2, b2, g4, b4, g5, b5, g9, g10, g11, hlt, hw, he, o, hs]) | (refine wIn ?_; refine And.intro (by kernel_rfl) ?_; try simp only [thenA_n]) | (first | refine wBlock ?_ | refine wScope ?_) | ((first | refine wRet ?_ | refine wExit ?_ | refine wSkip ?_); try simp) | ((first | refine wLabel ?_ | refine wOn ?_ | refine wQn ?_); try simp only [thenA_n]) | (refine CallE.pure (cc) rfl ?_) | (refine CallE.lent (cc) rfl ?_) | (refine CallF.pure (cc) rfl ?_) | (refine CallF.lent (cc) rfl ?_) | (refine CallE.own (cc) ?_) | (refine CallH.pure (cc) rfl ?_) | (refine CallH.lent (cc) rfl ?_) | (refine CallH.own (cc) ?_)
      refine hL _ (N - 1) (by omega) ⟨k + 1, by omega, ?_⟩
      simp [g3, b3, g2, b2, g4, b4, g5, b5, g9, g10, g11, hw, hs, hL2]
    · rw [if_neg o, List.append_nil] at hsn
      generalize zcmp h.lg[k].e h.lg[k].n z.e z.n = r at *
      repeat' first | (refine hK _ ?_; clear hK) | (refine hK _ _ ?_; clear hK) | (clear hK; refine hK _ ?_; clear hK) | (clear hK; clear hK; refine hK _ ?_; clear hK) | (clear hK; clear hK; clear hK; refine hK _ ?_; clear hK) | (clear hK; clear hK; clear hK; clear hK; refine hK _ ?_; clear hK) | (refine wSeq fun K hK => ?_) | ((first | refine wReg ?_ | refine wDrwQ rfl (by kernel_rfl) ?_ | refine wDrwI ?_ | refine wDrw (by kernel_rfl) ?_); simp only [List.map_cons, List.map_nil, strip]) | ((first | refine wIs fun K hK => ?_ | refine wOs fun K hK => ?_ | refine wQs fun K hK => ?_ | refine CallK_plain ?_ | refine CallQ_plain ?_ | refine CallR_plain ?_ | refine wCond ?_); simp [g3, b3, g2, b2, g4, b4, g5, b5, g9, g10, g11, hlt, hw, he, o]) | (refine wIn ?_; refine And.intro (by kernel_rfl) ?_; try simp only [thenA_n]) | (first | refine wBlock ?_ | refine wScope ?_) | ((first | refine wRet ?_ | refine wExit ?_ | refine wSkip ?_); try simp) | ((first | refine wLabel ?_ | refine wOn ?_ | refine wQn ?_); try simp only [thenA_n]) | (refine CallE.pure (cc) rfl ?_) | (refine CallE.lent (cc) rfl ?_) | (refine CallF.pure (cc) rfl ?_) | (refine CallF.lent (cc) rfl ?_) | (refine CallE.own (cc) ?_) | (refine CallH.pure (cc) rfl ?_) | (refine CallH.lent (cc) rfl ?_) | (refine CallH.own (cc) ?_)
      refine hL _ (N - 1) (by omega) ⟨k + 1, by omega, ?_⟩
      rw [hsn]
      simp [g3, b3, g2, b2, g4, b4, g5, b5, g9, g10, g11, hw]
  · rw [List.take_of_length_le (by omega)] at b5
    generalize upL z h.lg = L at *
    have e2 : (frzL st [.frz 5]).s 2 = .ptr 2 0 := by simp [g2, b5]
    have d2 : (frzL st [.frz 5]).b 2 = some (.box 33 [.p (.sl 5 (zns h.im.ns)), .p (.sl 1 (ints h.im.ss)), .p (I h.im.nx), .p (I h.im.c.ep), .p (I h.im.c.n), .p (I h.im.c.kind), .p (.sl 4 (mbs h.im.c.ms)), .p (I h.im.ae), .p (I h.im.an), .p (.sl 8 (txns h.lg))]) := by simp [b2, b5]
    have e4 : (frzL st [.frz 5]).s 4 = .ptr 4 0 := by simp [g4, b5]
    have d4 : (frzL st [.frz 5]).b 4 = some (.box 30 [.nil 5, .nil 1, .p (I 0), .p (I 0), .p (I 0), .p (I 0), .nil 4, .p (I 0), .p (I 0)]) := by simp [b4, b5]
    have e5 : (frzL st [.frz 5]).s 5 = .p (.sl 8 (txns L)) := by simp [g5, b5]
    have e10 : (frzL st [.frz 5]).s 10 = .p (I h.lg.length) := by simp [g10, b5]
    have e11 : (frzL st [.frz 5]).s 11 = .p (I k) := by simp [g11, b5]
    repeat' first | (refine wFrz (st := st) [.frz 5] ?_; generalize frzL st [.frz 5] = st2 at e2 d2 e4 d4 e5 e10 e11 ⊢) | (refine CallE.pure (c1) rfl ?_) | (refine CallE.lent (c1) rfl ?_) | (refine CallF.pure (c1) rfl ?_) | (refine CallF.lent (c1) rfl ?_) | (refine CallE.own (c1) ?_) | (refine CallH.pure (c1) rfl ?_) | (refine CallH.lent (c1) rfl ?_) | (refine CallH.own (c1) ?_) | (refine hK _ ?_; clear hK) | (refine hK _ _ ?_; clear hK) | (clear hK; refine hK _ ?_; clear hK) | (clear hK; clear hK; refine hK _ ?_; clear hK) | (clear hK; clear hK; clear hK; refine hK _ ?_; clear hK) | (clear hK; clear hK; clear hK; clear hK; refine hK _ ?_; clear hK) | (refine wSeq fun K hK => ?_) | ((first | refine wReg ?_ | refine wDrwQ rfl (by kernel_rfl) ?_ | refine wDrwI ?_ | refine wDrw (by kernel_rfl) ?_); simp only [List.map_cons, List.map_nil, strip]) | ((first | refine wIs fun K hK => ?_ | refine wOs fun K hK => ?_ | refine wQs fun K hK => ?_ | refine CallK_plain ?_ | refine CallQ_plain ?_ | refine CallR_plain ?_ | refine wCond ?_); simp [e2, d2, e4, d4, e5, e10, e11, hlt]) | (refine wIn ?_; refine And.intro (by kernel_rfl) ?_; try simp only [thenA_n]) | (first | refine wBlock ?_ | refine wScope ?_) | ((first | refine wRet ?_ | refine wExit ?_ | refine wSkip ?_); try simp) | ((first | refine wLabel ?_ | refine wOn ?_ | refine wQn ?_); try simp only [thenA_n])
    all_goals apply hr
    all_goals simp [Try.f20, e2, d2, e4, d4]
theorem follows_rises : ∀ (l : List Tx) (z : Zx), follows z l = risesB (z :: l.map fun t => ⟨t.e, t.n⟩)
  | [], _ => rfl
  | t :: l, z => by
    rw [follows, follows_rises l, List.map_cons, risesB]
    have : zcmp t.e t.n z.e z.n ≤ 0 ↔ ¬ zcmp z.e z.n t.e t.n < 0 := by
      have a := zlt_iff z ⟨t.e, t.n⟩
      unfold zlt at a
      rw [a, show zcmp t.e t.n z.e z.n ≤ 0 ↔ ¬ 0 < zcmp t.e t.n z.e z.n by omega, zcmp_pos]
      first | omega | (simp only; omega) | skip
    by_cases o : zcmp t.e t.n z.e z.n ≤ 0
    · rw [if_pos o, decide_eq_false (this.1 o), Bool.false_and]
    · rw [if_neg o, decide_eq_true (by rw [this] at o; exact Decidable.not_not.1 o), Bool.true_and]
theorem check_con (h : Hy) (hl : h.lg.length ≤ 1000) : ACon Try.prog 18 [.p (.agg h.cells)] (.p (B (risesB (mks h)))) := by
  have c1 := base_con h
  have c2 := follows_con ⟨h.im.ae, h.im.an⟩ h.lg hl
  rw [follows_rises] at c2
  change ACon _ _ _ (.p (B (risesB (mks h)))) at c2
  generalize risesB (mks h) = b at *
  unfold Hy.cells at *
  refine wBody Try.tab Try.mixed Try.func18 rfl rfl Try.ntmps18 (by simp) (by simp) fun Q hr hn => ?_
  repeat' first | (refine CallE.pure (c1) rfl ?_) | (refine CallE.lent (c1) rfl ?_) | (refine CallF.pure (c1) rfl ?_) | (refine CallF.lent (c1) rfl ?_) | (refine CallE.own (c1) ?_) | (refine CallH.pure (c1) rfl ?_) | (refine CallH.lent (c1) rfl ?_) | (refine CallH.own (c1) ?_) | (refine CallE.pure (c2) rfl ?_) | (refine CallE.lent (c2) rfl ?_) | (refine CallF.pure (c2) rfl ?_) | (refine CallF.lent (c2) rfl ?_) | (refine CallE.own (c2) ?_) | (refine CallH.pure (c2) rfl ?_) | (refine CallH.lent (c2) rfl ?_) | (refine CallH.own (c2) ?_) | (refine hK _ ?_; clear hK) | (refine hK _ _ ?_; clear hK) | (clear hK; refine hK _ ?_; clear hK) | (clear hK; clear hK; refine hK _ ?_; clear hK) | (clear hK; clear hK; clear hK; refine hK _ ?_; clear hK) | (clear hK; clear hK; clear hK; clear hK; refine hK _ ?_; clear hK) | (refine wSeq fun K hK => ?_) | ((first | refine wReg ?_ | refine wDrwQ rfl (by kernel_rfl) ?_ | refine wDrwI ?_ | refine wDrw (by kernel_rfl) ?_); simp only [List.map_cons, List.map_nil, strip]) | ((first | refine wIs fun K hK => ?_ | refine wOs fun K hK => ?_ | refine wQs fun K hK => ?_ | refine CallK_plain ?_ | refine CallQ_plain ?_ | refine CallR_plain ?_ | refine wCond ?_); simp) | (refine wIn ?_; refine And.intro (by kernel_rfl) ?_; try simp only [thenA_n]) | (first | refine wBlock ?_ | refine wScope ?_) | ((first | refine wRet ?_ | refine wExit ?_ | refine wSkip ?_); try simp) | ((first | refine wLabel ?_ | refine wOn ?_ | refine wQn ?_); try simp only [thenA_n])
  all_goals apply hr
  all_goals simp [Try.f18]
def sqH (h : Hy) (z : Zx) (n : Nat) : Hy := ⟨stAt h z, h.lg.drop n⟩
set_option maxHeartbeats 1000000 in
theorem squash_con (h : Hy) (z : Zx) (n : Nat) (hk : OkH h) (hn : plc z (mks h) 0 = some n) : ACon Try.prog 16 [.p (.agg h.cells), .p (.agg [I z.e, I z.n])] (.tup [.p (.agg (sqH h z n).cells), .p (I 0)]) := by
  have c1 := behind_con h z hk.lg
  have hml := mks_len h
  have hlt := (plc_lt z (mks h) 0 n hn).2
  rw [hn] at c1
  simp only [bhN, bhE] at c1
  have hf := hk.fits (psum (upL z h.lg)) (by have := psum_filter (fun t => decide (zcmp t.e t.n z.e z.n ≤ 0)) h.lg; have := hk.tot; unfold upL psum at *; omega)
  have c2 := stateAt_con h z hf hk.okT hk.lg
  have c3 := (ownTxns_con (h.lg.drop n) (by have := hk.lg; simp; omega) fun x hx => hk.ps x (List.mem_of_mem_drop hx)).toPure
  have hnl : n ≤ h.lg.length := by omega
  have hd : (txns h.lg).drop n = txns (h.lg.drop n) := by simp [txns, List.map_drop]
  have htl : (txns h.lg).take h.lg.length = txns h.lg := by rw [List.take_of_length_le (by simp)]
  unfold sqH
  generalize stAt h z = S at *
  unfold Hy.cells at *
  unfold Sv.cells at c2
  refine wBody Try.tab Try.mixed Try.func16 rfl rfl Try.ntmps16 (by simp) (by simp) fun Q hr hn => ?_
  repeat' first | (refine CallE.pure (c1) rfl ?_) | (refine CallE.lent (c1) rfl ?_) | (refine CallF.pure (c1) rfl ?_) | (refine CallF.lent (c1) rfl ?_) | (refine CallE.own (c1) ?_) | (refine CallH.pure (c1) rfl ?_) | (refine CallH.lent (c1) rfl ?_) | (refine CallH.own (c1) ?_) | (refine CallE.pure (c2) rfl ?_) | (refine CallE.lent (c2) rfl ?_) | (refine CallF.pure (c2) rfl ?_) | (refine CallF.lent (c2) rfl ?_) | (refine CallE.own (c2) ?_) | (refine CallH.pure (c2) rfl ?_) | (refine CallH.lent (c2) rfl ?_) | (refine CallH.own (c2) ?_) | (refine CallE.pure (c3) rfl ?_) | (refine CallE.lent (c3) rfl ?_) | (refine CallF.pure (c3) rfl ?_) | (refine CallF.lent (c3) rfl ?_) | (refine CallE.own (c3) ?_) | (refine CallH.pure (c3) rfl ?_) | (refine CallH.lent (c3) rfl ?_) | (refine CallH.own (c3) ?_) | (refine hK _ ?_; clear hK) | (refine hK _ _ ?_; clear hK) | (clear hK; refine hK _ ?_; clear hK) | (clear hK; clear hK; refine hK _ ?_; clear hK) | (clear hK; clear hK; clear hK; refine hK _ ?_; clear hK) | (clear hK; clear hK; clear hK; clear hK; refine hK _ ?_; clear hK) | (refine wSeq fun K hK => ?_) | ((first | refine wReg ?_ | refine wDrwQ rfl (by kernel_rfl) ?_ | refine wDrwI ?_ | refine wDrw (by kernel_rfl) ?_); simp only [List.map_cons, List.map_nil, strip]) | ((first | refine wIs fun K hK => ?_ | refine wOs fun K hK => ?_ | refine wQs fun K hK => ?_ | refine CallK_plain ?_ | refine CallQ_plain ?_ | refine CallR_plain ?_ | refine wCond ?_); simp [hnl, hd, htl]) | (refine wIn ?_; refine And.intro (by kernel_rfl) ?_; try simp only [thenA_n]) | (first | refine wBlock ?_ | refine wScope ?_) | ((first | refine wRet ?_ | refine wExit ?_ | refine wSkip ?_); try simp) | ((first | refine wLabel ?_ | refine wOn ?_ | refine wQn ?_); try simp only [thenA_n])
  all_goals apply hr
  all_goals simp [Try.f16, hd]
theorem zxs_get {l : List Zx} {k : Nat} (h : k < l.length) : (zxs l)[k]? = some [I l[k].e, I l[k].n] := by simp [zxs, h]
theorem marksEq_con (a b : List Zx) : ACon Try.prog 17 [.p (.sl 2 (zxs a)), .p (.sl 2 (zxs b))] (.p (B (decide (a = b)))) := by
  refine ACon.len ⟨Try.f17, Try.func17, rfl, rfl⟩ 0 _ _ rfl fun hlen => ?_
  simp only [zxs_len] at hlen
  by_cases o4 : a.length = b.length
  rotate_left
  · rw [decide_eq_false fun h => o4 (by rw [h])]
    have o4' : ¬ (a.length : Int) = b.length := by omega
    refine wBody Try.tab Try.mixed Try.func17 rfl rfl Try.ntmps17 (by simp) (by simp) fun Q hr hn => ?_
    repeat' first | (refine hK _ ?_; clear hK) | (refine hK _ _ ?_; clear hK) | (clear hK; refine hK _ ?_; clear hK) | (clear hK; clear hK; refine hK _ ?_; clear hK) | (clear hK; clear hK; clear hK; refine hK _ ?_; clear hK) | (clear hK; clear hK; clear hK; clear hK; refine hK _ ?_; clear hK) | (refine wSeq fun K hK => ?_) | ((first | refine wReg ?_ | refine wDrwQ rfl (by kernel_rfl) ?_ | refine wDrwI ?_ | refine wDrw (by kernel_rfl) ?_); simp only [List.map_cons, List.map_nil, strip]) | ((first | refine wIs fun K hK => ?_ | refine wOs fun K hK => ?_ | refine wQs fun K hK => ?_ | refine CallK_plain ?_ | refine CallQ_plain ?_ | refine CallR_plain ?_ | refine wCond ?_); simp [o4, o4']) | (refine wIn ?_; refine And.intro (by kernel_rfl) ?_; try simp only [thenA_n]) | (first | refine wBlock ?_ | refine wScope ?_) | ((first | refine wRet ?_ | refine wExit ?_ | refine wSkip ?_); try simp) | ((first | refine wLabel ?_ | refine wOn ?_ | refine wQn ?_); try simp only [thenA_n])
    all_goals apply hr
    all_goals simp [Try.f17]
  have o4' : ((a.length : Int) = b.length) = True := eq_true (by omega)
  refine wBody Try.tab Try.mixed Try.func17 rfl rfl Try.ntmps17 (by simp) (by simp) fun Q hr hn => ?_
  repeat' first | (refine hK _ ?_; clear hK) | (refine hK _ _ ?_; clear hK) | (clear hK; refine hK _ ?_; clear hK) | (clear hK; clear hK; refine hK _ ?_; clear hK) | (clear hK; clear hK; clear hK; refine hK _ ?_; clear hK) | (clear hK; clear hK; clear hK; clear hK; refine hK _ ?_; clear hK) | (refine wSeq fun K hK => ?_) | ((first | refine wReg ?_ | refine wDrwQ rfl (by kernel_rfl) ?_ | refine wDrwI ?_ | refine wDrw (by kernel_rfl) ?_); simp only [List.map_cons, List.map_nil, strip]) | ((first | refine wIs fun K hK => ?_ | refine wOs fun K hK => ?_ | refine wQs fun K hK => ?_ | refine CallK_plain ?_ | refine CallQ_plain ?_ | refine CallR_plain ?_ | refine wCond ?_); simp [o4, o4']) | (refine wIn ?_; refine And.intro (by kernel_rfl) ?_; try simp only [thenA_n]) | (first | refine wBlock ?_ | refine wScope ?_) | ((first | refine wRet ?_ | refine wExit ?_ | refine wSkip ?_); try simp) | ((first | refine wLabel ?_ | refine wOn ?_ | refine wQn ?_); try simp only [thenA_n])
  refine wLoop (fun N st => ∃ k, k + N = a.length ∧ st.s 0 = .p (.sl 2 (zxs a)) ∧ st.s 1 = .p (.sl 2 (zxs b)) ∧ st.s 12 = .p (I a.length) ∧ st.s 13 = .p (I k) ∧ (a = b ↔ a.drop k = b.drop k)) a.length ⟨0, by simp [o4, o4']⟩ fun K N st hL ⟨k, hk, g0, g1, g12, g13, hi⟩ => ?_
  by_cases hlt : k < a.length
  · have hlt' : k < b.length := by omega
    have hw := wrapS k _ hlt hlen
    have h1 := zxs_get hlt
    have h2 := zxs_get hlt'
    rw [List.drop_eq_getElem_cons hlt, List.drop_eq_getElem_cons hlt', List.cons.injEq] at hi
    have hx : a[k] = b[k] ↔ a[k].e = b[k].e ∧ a[k].n = b[k].n := by cases a[k]; cases b[k]; simp
    by_cases o : a[k].e = b[k].e ∧ a[k].n = b[k].n
    · rw [and_iff_right (hx.2 o)] at hi
      obtain ⟨q1, q2⟩ := o
      repeat' first | (refine hK _ ?_; clear hK) | (refine hK _ _ ?_; clear hK) | (clear hK; refine hK _ ?_; clear hK) | (clear hK; clear hK; refine hK _ ?_; clear hK) | (clear hK; clear hK; clear hK; refine hK _ ?_; clear hK) | (clear hK; clear hK; clear hK; clear hK; refine hK _ ?_; clear hK) | (refine wSeq fun K hK => ?_) | ((first | refine wReg ?_ | refine wDrwQ rfl (by kernel_rfl) ?_ | refine wDrwI ?_ | refine wDrw (by kernel_rfl) ?_); simp only [List.map_cons, List.map_nil, strip]) | ((first | refine wIs fun K hK => ?_ | refine wOs fun K hK => ?_ | refine wQs fun K hK => ?_ | refine CallK_plain ?_ | refine CallQ_plain ?_ | refine CallR_plain ?_ | refine wCond ?_); simp [g0, g1, g12, g13, hlt, hlt', hw, h1, h2, q1, q2]) | (refine wIn ?_; refine And.intro (by kernel_rfl) ?_; try simp only [thenA_n]) | (first | refine wBlock ?_ | refine wScope ?_) | ((first | refine wRet ?_ | refine wExit ?_ | refine wSkip ?_); try simp) | ((first | refine wLabel ?_ | refine wOn ?_ | refine wQn ?_); try simp only [thenA_n])
      refine hL _ (N - 1) (by omega) ⟨k + 1, by omega, ?_⟩
      simp [g0, g1, g12, g13, hw]
      exact hi
    · rw [show decide (a = b) = false from decide_eq_false fun h => o (hx.1 (hi.1 h).1)] at hr
      repeat' first | (refine hK _ ?_; clear hK) | (refine hK _ _ ?_; clear hK) | (clear hK; refine hK _ ?_; clear hK) | (clear hK; clear hK; refine hK _ ?_; clear hK) | (clear hK; clear hK; clear hK; refine hK _ ?_; clear hK) | (clear hK; clear hK; clear hK; clear hK; refine hK _ ?_; clear hK) | (refine wSeq fun K hK => ?_) | ((first | refine wReg ?_ | refine wDrwQ rfl (by kernel_rfl) ?_ | refine wDrwI ?_ | refine wDrw (by kernel_rfl) ?_); simp only [List.map_cons, List.map_nil, strip]) | ((first | refine wIs fun K hK => ?_ | refine wOs fun K hK => ?_ | refine wQs fun K hK => ?_ | refine CallK_plain ?_ | refine CallQ_plain ?_ | refine CallR_plain ?_ | refine wCond ?_); simp [g0, g1, g12, g13, hlt, hlt', hw, h1, h2, o]) | (refine wIn ?_; refine And.intro (by kernel_rfl) ?_; try simp only [thenA_n]) | (first | refine wBlock ?_ | refine wScope ?_) | ((first | refine wRet ?_ | refine wExit ?_ | refine wSkip ?_); try simp) | ((first | refine wLabel ?_ | refine wOn ?_ | refine wQn ?_); try simp only [thenA_n]) | (intro _)
      all_goals first | exact o | skip
      all_goals apply hr
      all_goals simp [Try.f17]
  · rw [List.drop_of_length_le (by omega), List.drop_of_length_le (by omega)] at hi
    rw [show decide (a = b) = true from decide_eq_true (hi.2 rfl)] at hr
    repeat' first | (refine hK _ ?_; clear hK) | (refine hK _ _ ?_; clear hK) | (clear hK; refine hK _ ?_; clear hK) | (clear hK; clear hK; refine hK _ ?_; clear hK) | (clear hK; clear hK; clear hK; refine hK _ ?_; clear hK) | (clear hK; clear hK; clear hK; clear hK; refine hK _ ?_; clear hK) | (refine wSeq fun K hK => ?_) | ((first | refine wReg ?_ | refine wDrwQ rfl (by kernel_rfl) ?_ | refine wDrwI ?_ | refine wDrw (by kernel_rfl) ?_); simp only [List.map_cons, List.map_nil, strip]) | ((first | refine wIs fun K hK => ?_ | refine wOs fun K hK => ?_ | refine wQs fun K hK => ?_ | refine CallK_plain ?_ | refine CallQ_plain ?_ | refine CallR_plain ?_ | refine wCond ?_); simp [g0, g1, g12, g13, hlt]) | (refine wIn ?_; refine And.intro (by kernel_rfl) ?_; try simp only [thenA_n]) | (first | refine wBlock ?_ | refine wScope ?_) | ((first | refine wRet ?_ | refine wExit ?_ | refine wSkip ?_); try simp) | ((first | refine wLabel ?_ | refine wOn ?_ | refine wQn ?_); try simp only [thenA_n])
    all_goals apply hr
    all_goals simp [Try.f17]
end Go.Proofs.Ytegoihognjpcjaa


/- Histories: facts of what is squashed; the law HistorySquashes. -/
namespace Go.Proofs.Ytegoihognjpcjaa
set_option linter.unusedSimpArgs false
set_option linter.unusedVariables false
open Go Go.Av
attribute [local simp] Try.T1 Try.T2 Try.T3 Try.T4 Try.T5 Try.T9 Try.T12 Try.T15 Try.T16 Try.T17 Try.T21 Try.T22 Try.T23 Try.T25 Try.T26 Try.T28 Try.T30 Try.T31 Try.T33 Try.T34 Try.T35 Try.T36 Try.T37 Try.T38 Try.T40 Try.T42 Try.T43 Try.T44 Try.T45 Try.T46 Try.T48 Try.T49 Try.T50 Try.T51 Try.T52 Try.T53 Try.T54 Try.T55 Try.T56 Try.T57 Try.T58 Try.T59 Try.T60 Try.T61 Try.T62 Try.T64 Try.T66 Try.T67 Try.T68 Try.T69 Try.T70 Try.T71 Try.T72 Try.T73 Try.T74 Try.T75 Try.T76 Try.T77 Try.T78 Try.T80 Try.T81 Try.T82 Try.T83 Try.T84 Try.T85 Try.T86 Try.T88 Try.T89 Try.T90 Try.T91 Try.T92 Try.T93 Try.T94 Try.T95 Try.T96 Try.T97 Try.T98 Try.T99 Try.T100 Try.T101 Try.T102 Try.T103 Try.T104 Try.T105 Try.T106 Try.T107 Try.T108 Try.T109 Try.T110 Try.T111 Try.T112 Try.T113 Try.T116 Try.T119 Try.T120 Try.T123 Try.T124
attribute [local irreducible] Go.Av.CallK Go.Av.CallE Go.Av.CallQ Go.Av.CallF Go.Av.CallR Go.Av.CallH Go.Av.Con
theorem stepP_at (s : Sv) (p : Pt) : (stepP s p).ae = s.ae ∧ (stepP s p).an = s.an := by
  unfold stepP
  repeat' split
  all_goals exact ⟨rfl, rfl⟩
theorem runP_at : ∀ (l : List Pt) (s : Sv), (runP s l).ae = s.ae ∧ (runP s l).an = s.an
  | [], _ => ⟨rfl, rfl⟩
  | p :: l, s => by
    obtain ⟨a, b⟩ := runP_at l (stepP s p)
    obtain ⟨c, d⟩ := stepP_at s p
    exact ⟨a.trans c, b.trans d⟩
theorem doS_late {s : Sv} {t : Tx} (h : zlt ⟨s.ae, s.an⟩ ⟨t.e, t.n⟩) : (doS s t).ae = t.e ∧ (doS s t).an = t.n := by
  obtain ⟨a, b⟩ := runP_at t.ps s
  have hz : 0 < zcmp t.e t.n s.ae s.an := by
    rw [zcmp_pos]
    have := (zlt_iff _ _).1 h
    simp only at this
    omega
  unfold doS lateS
  simp only [last2, a, b, if_pos hz]
  exact ⟨trivial, trivial⟩
theorem zlt_irr (a : Zx) : ¬ zlt a a := by rw [zlt_iff]; omega
theorem mks_at (h : Hy) (i : Nat) (hi : i < h.lg.length) (hi' : i + 1 < (mks h).length) : (mks h)[i + 1] = ⟨h.lg[i].e, h.lg[i].n⟩ := by simp [mks]
theorem at_take {h : Hy} (hr : risesB (mks h) = true) : ∀ (k : Nat) (hk : k < (mks h).length), (⟨(allS h.im (h.lg.take k)).ae, (allS h.im (h.lg.take k)).an⟩ : Zx) = (mks h)[k]
  | 0, hk => by simp [allS, mks]
  | k + 1, hk => by
    have hml := mks_len h
    have ih := at_take hr k (by omega)
    have hlt : k < h.lg.length := by omega
    have hp := List.pairwise_iff_getElem.1 (rises_pw hr) k (k + 1) (by omega) hk (by omega)
    rw [← ih, mks_at h k hlt hk] at hp
    obtain ⟨a, b⟩ := doS_late hp
    rw [allS_snoc h.im hlt, a, b, mks_at h k hlt hk]
theorem up_at {h : Hy} (hr : risesB (mks h) = true) {k : Nat} (hk : k < (mks h).length) : upL (mks h)[k] h.lg = h.lg.take k := by
  have hml := mks_len h
  have hp := List.pairwise_iff_getElem.1 (rises_pw hr)
  have e : h.lg = h.lg.take k ++ h.lg.drop k := (List.take_append_drop k h.lg).symm
  have e1 : (h.lg.take k).filter (fun t => decide (zcmp t.e t.n (mks h)[k].e (mks h)[k].n ≤ 0)) = h.lg.take k := by
    rw [List.filter_eq_self]
    intro t ht
    obtain ⟨i, hi, rfl⟩ := List.getElem_of_mem ht
    rw [List.length_take] at hi
    rw [List.getElem_take]
    have hm := mks_at h i (by omega) (by omega)
    refine decide_eq_true ?_
    by_cases o : i + 1 = k
    · have e2 : (mks h)[k] = (mks h)[i + 1] := by simp only [← o]
      rw [e2, hm, zcmp_spec, if_pos ⟨rfl, rfl⟩]; omega
    · have hz := hp (i + 1) k (by omega) hk (by omega)
      rw [hm] at hz
      unfold zlt at hz
      simp only at hz
      omega
  have e2 : (h.lg.drop k).filter (fun t => decide (zcmp t.e t.n (mks h)[k].e (mks h)[k].n ≤ 0)) = [] := by
    rw [List.filter_eq_nil_iff]
    intro t ht
    obtain ⟨i, hi, rfl⟩ := List.getElem_of_mem ht
    rw [List.length_drop] at hi
    rw [List.getElem_drop]
    have hm := mks_at h (k + i) (by omega) (by omega)
    have hz := hp k (k + i + 1) hk (by omega) (by omega)
    rw [hm, zlt_iff] at hz
    have hq := zcmp_pos h.lg[k + i].e h.lg[k + i].n (mks h)[k].e (mks h)[k].n
    simp only at hz
    have : 0 < zcmp h.lg[k + i].e h.lg[k + i].n (mks h)[k].e (mks h)[k].n := by rw [hq]; omega
    simp only [decide_eq_true_eq]
    omega
  unfold upL
  conv => lhs; rw [e]
  rw [List.filter_append, e1, e2, List.append_nil]
theorem plc_at : ∀ (l : List Zx) (j k : Nat) (hk : k < l.length), l.Pairwise zlt → plc l[k] l j = some (j + k)
  | a :: l, j, 0, _, _ => by simp [plc]
  | a :: l, j, k + 1, hk, .cons h g => by
    have hk' : k < l.length := by simpa using hk
    have hne : ¬ a = l[k] := fun he => zlt_irr a (by have := h l[k] (List.getElem_mem hk'); rwa [← he] at this)
    show (if a = l[k] then some j else plc l[k] l (j + 1)) = _
    rw [if_neg hne, plc_at l (j + 1) k hk' g]
    congr 1; omega
theorem mks_sq {h : Hy} (hr : risesB (mks h) = true) {k : Nat} (hk : k < (mks h).length) : mks (sqH h (mks h)[k] k) = (mks h).drop k := by
  rw [List.drop_eq_getElem_cons hk]
  show (⟨(stAt h (mks h)[k]).ae, (stAt h (mks h)[k]).an⟩ : Zx) :: (h.lg.drop k).map (fun t => (⟨t.e, t.n⟩ : Zx)) = _
  have e : stAt h (mks h)[k] = allS h.im (h.lg.take k) := by unfold stAt; rw [up_at hr hk]
  rw [e, at_take hr k hk]
  congr 1
  unfold mks
  simp [List.map_drop]
theorem stAt_sq {h : Hy} (hr : risesB (mks h) = true) {k i : Nat} (hki : k ≤ i) (hk : k < (mks h).length) (hi : i < (mks h).length) : stAt (sqH h (mks h)[k] k) (mks h)[i] = stAt h (mks h)[i] := by
  have hx := mks_sq hr hk
  have hrx : risesB (mks (sqH h (mks h)[k] k)) = true := by rw [hx]; exact pw_rises ((rises_pw hr).sublist (List.drop_sublist k _))
  have hl : i - k < (mks (sqH h (mks h)[k] k)).length := by rw [hx, List.length_drop]; omega
  have hu := up_at hrx hl
  have he : (mks (sqH h (mks h)[k] k))[i - k] = (mks h)[i] := by
    simp only [hx, List.getElem_drop]
    congr 1; omega
  rw [he] at hu
  conv => lhs; unfold stAt
  rw [hu]
  unfold sqH
  simp only
  unfold stAt
  rw [up_at hr hk, up_at hr hi, ← allS_app]
  congr 1
  rw [show i = k + (i - k) by omega, List.take_add]
  congr 2
  congr 1; omega
theorem u64_modH (t : Int) (L : Nat) (h0 : 0 < L) (hL : L ≤ 1000000) : ∃ n : Nat, n < L ∧ IntKind.i64.wrap (IntKind.u64.wrap t |>.tmod (IntKind.u64.wrap (L : Int))) = (n : Int) ∧ IntKind.u64.wrap (L : Int) ≠ 0 := by
  have e1 : IntKind.u64.wrap (L : Int) = L := by simp [IntKind.wrap, IntKind.bits, IntKind.signed]; omega
  have e2 : 0 ≤ IntKind.u64.wrap t := by simp [IntKind.wrap, IntKind.bits, IntKind.signed]; omega
  rw [e1]
  refine ⟨((IntKind.u64.wrap t).tmod L).toNat, ?_, ?_, by omega⟩
  · rw [Int.tmod_eq_emod_of_nonneg e2]
    have := Int.emod_lt_of_pos (IntKind.u64.wrap t) (show (0 : Int) < L by omega)
    have := Int.emod_nonneg (IntKind.u64.wrap t) (show (L : Int) ≠ 0 by omega)
    omega
  · rw [Int.tmod_eq_emod_of_nonneg e2]
    have h1 := Int.emod_lt_of_pos (IntKind.u64.wrap t) (show (0 : Int) < L by omega)
    have h2 := Int.emod_nonneg (IntKind.u64.wrap t) (show (L : Int) ≠ 0 by omega)
    rw [wrap_id (by omega) (by omega)]; omega
set_option maxHeartbeats 8000000 in
theorem historySquashes_con (h : Hy) (a b : Int) (hs : SmallH h) : ACon Try.prog 4 [.p (.agg h.cells), .p (I a), .p (I b)] (.p (B true)) := by
  have cf := far16_con h hs
  have ca := awake16
  by_cases hn : near16 h
  rotate_left
  · rw [decide_eq_true hn] at cf
    unfold Hy.cells at *
    refine wBody Try.tab Try.mixed Try.func4 rfl rfl Try.ntmps4 (by simp) (by simp) fun Q hr hn => ?_
    repeat' first | (refine CallE.pure (cf) rfl ?_) | (refine CallE.lent (cf) rfl ?_) | (refine CallF.pure (cf) rfl ?_) | (refine CallF.lent (cf) rfl ?_) | (refine CallE.own (cf) ?_) | (refine CallH.pure (cf) rfl ?_) | (refine CallH.lent (cf) rfl ?_) | (refine CallH.own (cf) ?_) | (refine CallE.pure (ca) rfl ?_) | (refine CallE.lent (ca) rfl ?_) | (refine CallF.pure (ca) rfl ?_) | (refine CallF.lent (ca) rfl ?_) | (refine CallE.own (ca) ?_) | (refine CallH.pure (ca) rfl ?_) | (refine CallH.lent (ca) rfl ?_) | (refine CallH.own (ca) ?_) | (refine hK _ ?_; clear hK) | (refine hK _ _ ?_; clear hK) | (clear hK; refine hK _ ?_; clear hK) | (clear hK; clear hK; refine hK _ ?_; clear hK) | (clear hK; clear hK; clear hK; refine hK _ ?_; clear hK) | (clear hK; clear hK; clear hK; clear hK; refine hK _ ?_; clear hK) | (refine wSeq fun K hK => ?_) | ((first | refine wReg ?_ | refine wDrwQ rfl (by kernel_rfl) ?_ | refine wDrwI ?_ | refine wDrw (by kernel_rfl) ?_); simp only [List.map_cons, List.map_nil, strip]) | ((first | refine wIs fun K hK => ?_ | refine wOs fun K hK => ?_ | refine wQs fun K hK => ?_ | refine CallK_plain ?_ | refine CallQ_plain ?_ | refine CallR_plain ?_ | refine wCond ?_); simp) | (refine wIn ?_; refine And.intro (by kernel_rfl) ?_; try simp only [thenA_n]) | (first | refine wBlock ?_ | refine wScope ?_) | ((first | refine wRet ?_ | refine wExit ?_ | refine wSkip ?_); try simp) | ((first | refine wLabel ?_ | refine wOn ?_ | refine wQn ?_); try simp only [thenA_n])
    all_goals apply hr
    all_goals simp [Try.f4]
  rw [decide_eq_false (not_not_intro hn)] at cf
  have hk := OkH.of hn
  have cc := check16_con h hk.lg
  cases hc : risesB (mks h)
  · rw [hc] at cc
    unfold Hy.cells at *
    refine wBody Try.tab Try.mixed Try.func4 rfl rfl Try.ntmps4 (by simp) (by simp) fun Q hr hn => ?_
    repeat' first | (refine CallE.pure (cf) rfl ?_) | (refine CallE.lent (cf) rfl ?_) | (refine CallF.pure (cf) rfl ?_) | (refine CallF.lent (cf) rfl ?_) | (refine CallE.own (cf) ?_) | (refine CallH.pure (cf) rfl ?_) | (refine CallH.lent (cf) rfl ?_) | (refine CallH.own (cf) ?_) | (refine CallE.pure (cc) rfl ?_) | (refine CallE.lent (cc) rfl ?_) | (refine CallF.pure (cc) rfl ?_) | (refine CallF.lent (cc) rfl ?_) | (refine CallE.own (cc) ?_) | (refine CallH.pure (cc) rfl ?_) | (refine CallH.lent (cc) rfl ?_) | (refine CallH.own (cc) ?_) | (refine CallE.pure (ca) rfl ?_) | (refine CallE.lent (ca) rfl ?_) | (refine CallF.pure (ca) rfl ?_) | (refine CallF.lent (ca) rfl ?_) | (refine CallE.own (ca) ?_) | (refine CallH.pure (ca) rfl ?_) | (refine CallH.lent (ca) rfl ?_) | (refine CallH.own (ca) ?_) | (refine hK _ ?_; clear hK) | (refine hK _ _ ?_; clear hK) | (clear hK; refine hK _ ?_; clear hK) | (clear hK; clear hK; refine hK _ ?_; clear hK) | (clear hK; clear hK; clear hK; refine hK _ ?_; clear hK) | (clear hK; clear hK; clear hK; clear hK; refine hK _ ?_; clear hK) | (refine wSeq fun K hK => ?_) | ((first | refine wReg ?_ | refine wDrwQ rfl (by kernel_rfl) ?_ | refine wDrwI ?_ | refine wDrw (by kernel_rfl) ?_); simp only [List.map_cons, List.map_nil, strip]) | ((first | refine wIs fun K hK => ?_ | refine wOs fun K hK => ?_ | refine wQs fun K hK => ?_ | refine CallK_plain ?_ | refine CallQ_plain ?_ | refine CallR_plain ?_ | refine wCond ?_); simp) | (refine wIn ?_; refine And.intro (by kernel_rfl) ?_; try simp only [thenA_n]) | (first | refine wBlock ?_ | refine wScope ?_) | ((first | refine wRet ?_ | refine wExit ?_ | refine wSkip ?_); try simp) | ((first | refine wLabel ?_ | refine wOn ?_ | refine wQn ?_); try simp only [thenA_n])
    all_goals apply hr
    all_goals simp [Try.f4]
  rw [hc] at cc
  have hml := mks_len h
  have hlg := hk.lg
  obtain ⟨k, hkl, hk1, hk2⟩ := u64_modH a (mks h).length (by omega) (by omega)
  obtain ⟨r, hrl, hr1, hr2⟩ := u64_modH b ((mks h).length - k) (by omega) (by omega)
  have hwk : IntKind.i64.wrap (((mks h).length : Int) - (k : Int)) = (((mks h).length - k : Nat) : Int) := by rw [wrap_id] <;> omega
  have hwi : IntKind.i64.wrap ((k : Int) + (r : Int)) = ((k + r : Nat) : Int) := by rw [wrap_id] <;> omega
  have hil : k + r < (mks h).length := by omega
  have hrx : risesB (mks (sqH h (mks h)[k] k)) = true := by rw [mks_sq hc hkl]; exact pw_rises ((rises_pw hc).sublist (List.drop_sublist k _))
  have c1 := marks16_con h hk.lg
  have c2 := squash_con h (mks h)[k] k hk (by rw [plc_at _ 0 k hkl (rises_pw hc)]; simp)
  have hxl : (sqH h (mks h)[k] k).lg.length ≤ 1000 := by simp [sqH]; omega
  have c3 := marks_con (sqH h (mks h)[k] k) hxl
  have c4 := marksEq_con (mks (sqH h (mks h)[k] k)) (mks (sqH h (mks h)[k] k))
  have c5 := check_con (sqH h (mks h)[k] k) hxl
  have hfx : Fits (sqH h (mks h)[k] k).im (psum (upL (mks h)[k + r] (sqH h (mks h)[k] k).lg)) := by
    refine (hk.up (mks h)[k] h.lg (fun _ h => h) hk.tot).le ?_
    have p1 := psum_filter (fun t => decide (zcmp t.e t.n (mks h)[k + r].e (mks h)[k + r].n ≤ 0)) (sqH h (mks h)[k] k).lg
    have p2 : psum (h.lg.drop k) ≤ psum h.lg := by
      conv => rhs; rw [← List.take_append_drop k h.lg]
      unfold psum
      simp only [List.map_append, List.sum_append]; omega
    have p3 := hk.tot
    unfold upL
    unfold sqH at p1 ⊢
    unfold psum at *
    simp only at *
    omega
  have c6 := stateAt_con (sqH h (mks h)[k] k) (mks h)[k + r] hfx (fun t ht => hk.okT t (List.mem_of_mem_drop ht)) hxl
  have c7 := stateAt_con h (mks h)[k + r] (hk.fits _ (by have := psum_filter (fun t => decide (zcmp t.e t.n (mks h)[k + r].e (mks h)[k + r].n ≤ 0)) h.lg; have := hk.tot; unfold upL psum at *; omega)) hk.okT hk.lg
  rw [stAt_sq hc (by omega) hkl hil] at c6
  have c8 := sameS08_con (stAt h (mks h)[k + r]) (stAt h (mks h)[k + r])
  rw [decide_eq_true rfl] at c8 c4
  rw [hrx] at c5
  rw [mks_sq hc hkl] at c3 c4
  have hdr : (zxs (mks h)).drop k = zxs ((mks h).drop k) := by simp [zxs, List.map_drop]
  have htl : (zxs (mks h)).take (mks h).length = zxs (mks h) := by rw [List.take_of_length_le (by simp)]
  have hg1 := zxs_get hkl
  have hg2 := zxs_get hil
  have hkl' : k ≤ (mks h).length := by omega
  generalize stAt h (mks h)[k + r] = S at *
  generalize sqH h (mks h)[k] k = X at *
  generalize hz1 : (mks h)[k] = zk at *
  generalize hz2 : (mks h)[k + r] = zi at *
  generalize mks h = M at *
  generalize k + r = i at *
  unfold Hy.cells at *
  unfold Sv.cells at *
  refine wBody Try.tab Try.mixed Try.func4 rfl rfl Try.ntmps4 (by simp) (by simp) fun Q hr hn => ?_
  repeat' first | (refine CallE.pure (cf) rfl ?_) | (refine CallE.lent (cf) rfl ?_) | (refine CallF.pure (cf) rfl ?_) | (refine CallF.lent (cf) rfl ?_) | (refine CallE.own (cf) ?_) | (refine CallH.pure (cf) rfl ?_) | (refine CallH.lent (cf) rfl ?_) | (refine CallH.own (cf) ?_) | (refine CallE.pure (cc) rfl ?_) | (refine CallE.lent (cc) rfl ?_) | (refine CallF.pure (cc) rfl ?_) | (refine CallF.lent (cc) rfl ?_) | (refine CallE.own (cc) ?_) | (refine CallH.pure (cc) rfl ?_) | (refine CallH.lent (cc) rfl ?_) | (refine CallH.own (cc) ?_) | (refine CallE.pure (ca) rfl ?_) | (refine CallE.lent (ca) rfl ?_) | (refine CallF.pure (ca) rfl ?_) | (refine CallF.lent (ca) rfl ?_) | (refine CallE.own (ca) ?_) | (refine CallH.pure (ca) rfl ?_) | (refine CallH.lent (ca) rfl ?_) | (refine CallH.own (ca) ?_) | (refine CallE.pure (c1) rfl ?_) | (refine CallE.lent (c1) rfl ?_) | (refine CallF.pure (c1) rfl ?_) | (refine CallF.lent (c1) rfl ?_) | (refine CallE.own (c1) ?_) | (refine CallH.pure (c1) rfl ?_) | (refine CallH.lent (c1) rfl ?_) | (refine CallH.own (c1) ?_) | (refine CallE.pure (c2) rfl ?_) | (refine CallE.lent (c2) rfl ?_) | (refine CallF.pure (c2) rfl ?_) | (refine CallF.lent (c2) rfl ?_) | (refine CallE.own (c2) ?_) | (refine CallH.pure (c2) rfl ?_) | (refine CallH.lent (c2) rfl ?_) | (refine CallH.own (c2) ?_) | (refine CallE.pure (c3) rfl ?_) | (refine CallE.lent (c3) rfl ?_) | (refine CallF.pure (c3) rfl ?_) | (refine CallF.lent (c3) rfl ?_) | (refine CallE.own (c3) ?_) | (refine CallH.pure (c3) rfl ?_) | (refine CallH.lent (c3) rfl ?_) | (refine CallH.own (c3) ?_) | (refine CallE.pure (c4) rfl ?_) | (refine CallE.lent (c4) rfl ?_) | (refine CallF.pure (c4) rfl ?_) | (refine CallF.lent (c4) rfl ?_) | (refine CallE.own (c4) ?_) | (refine CallH.pure (c4) rfl ?_) | (refine CallH.lent (c4) rfl ?_) | (refine CallH.own (c4) ?_) | (refine CallE.pure (c5) rfl ?_) | (refine CallE.lent (c5) rfl ?_) | (refine CallF.pure (c5) rfl ?_) | (refine CallF.lent (c5) rfl ?_) | (refine CallE.own (c5) ?_) | (refine CallH.pure (c5) rfl ?_) | (refine CallH.lent (c5) rfl ?_) | (refine CallH.own (c5) ?_) | (refine CallE.pure (c6) rfl ?_) | (refine CallE.lent (c6) rfl ?_) | (refine CallF.pure (c6) rfl ?_) | (refine CallF.lent (c6) rfl ?_) | (refine CallE.own (c6) ?_) | (refine CallH.pure (c6) rfl ?_) | (refine CallH.lent (c6) rfl ?_) | (refine CallH.own (c6) ?_) | (refine CallE.pure (c7) rfl ?_) | (refine CallE.lent (c7) rfl ?_) | (refine CallF.pure (c7) rfl ?_) | (refine CallF.lent (c7) rfl ?_) | (refine CallE.own (c7) ?_) | (refine CallH.pure (c7) rfl ?_) | (refine CallH.lent (c7) rfl ?_) | (refine CallH.own (c7) ?_) | (refine CallE.pure (c8) rfl ?_) | (refine CallE.lent (c8) rfl ?_) | (refine CallF.pure (c8) rfl ?_) | (refine CallF.lent (c8) rfl ?_) | (refine CallE.own (c8) ?_) | (refine CallH.pure (c8) rfl ?_) | (refine CallH.lent (c8) rfl ?_) | (refine CallH.own (c8) ?_) | (refine hK _ ?_; clear hK) | (refine hK _ _ ?_; clear hK) | (clear hK; refine hK _ ?_; clear hK) | (clear hK; clear hK; refine hK _ ?_; clear hK) | (clear hK; clear hK; clear hK; refine hK _ ?_; clear hK) | (clear hK; clear hK; clear hK; clear hK; refine hK _ ?_; clear hK) | (refine wSeq fun K hK => ?_) | ((first | refine wReg ?_ | refine wDrwQ rfl (by kernel_rfl) ?_ | refine wDrwI ?_ | refine wDrw (by kernel_rfl) ?_); simp only [List.map_cons, List.map_nil, strip]) | ((first | refine wIs fun K hK => ?_ | refine wOs fun K hK => ?_ | refine wQs fun K hK => ?_ | refine CallK_plain ?_ | refine CallQ_plain ?_ | refine CallR_plain ?_ | refine wCond ?_); simp [hk1, hk2, hr1, hr2, hwk, hwi, hkl, hil, hkl', hdr, htl, hg1, hg2, hz1, hz2]) | (refine wIn ?_; refine And.intro (by kernel_rfl) ?_; try simp only [thenA_n]) | (first | refine wBlock ?_ | refine wScope ?_) | ((first | refine wRet ?_ | refine wExit ?_ | refine wSkip ?_); try simp) | ((first | refine wLabel ?_ | refine wOn ?_ | refine wQn ?_); try simp only [thenA_n])
  all_goals apply hr
  all_goals simp [Try.f4]
end Go.Proofs.Ytegoihognjpcjaa

