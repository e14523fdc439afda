/- Texts that the proof needs: HO. -/
import Derived.Test.YtegoihognjpcjaaP28HistoryNeeds
import Derived.Test.YtegoihognjpcjaaP29HistoryNeeds
/- Histories: what comes in, opened. -/
namespace Go.Proofs.Ytegoihognjpcjaa
set_option linter.unusedVariables false
open Go Go.Av Go.ChangeShapes Go.WideShapes Go.ChangeAt Go.RowKit
/-- How many bytes an element of so many cells has at least. -/
def KB (c : Nat) : Nat := 1
theorem hpos : PosK Try.T KB := by
  intro t yt e y h hk hy hs
  unfold Try.T at h
  split at h
  all_goals first | (cases h; done) | (cases h; cases hk; done) | (cases h; cases hk; cases hy; done) | (cases h; cases hk; cases hy; first | exact of_decide_eq_true (by kernel_rfl) | (simp at hs; done))
theorem Mb.ofL {ps : List PV} (h : ShL [.int .i64, .int .i64, .int .i64, .int .i64] ps) : ∃ a : Mb, ps = a.cells := by
  obtain ⟨_, _, rfl, h0, h⟩ := h.cons
  obtain ⟨_, _, rfl, h1, h⟩ := h.cons
  obtain ⟨_, _, rfl, h2, h⟩ := h.cons
  obtain ⟨_, _, rfl, h3, h⟩ := h.cons
  obtain rfl := h.nil
  obtain ⟨_, rfl, -⟩ := h0.intI
  obtain ⟨_, rfl, -⟩ := h1.intI
  obtain ⟨_, rfl, -⟩ := h2.intI
  obtain ⟨_, rfl, -⟩ := h3.intI
  exact ⟨⟨_, _, _, _⟩, rfl⟩
abbrev LMb : Lf := .sl [.int .i64, .int .i64, .int .i64, .int .i64]
abbrev LZn : List Lf := [.str, .str, .int .i64, .int .i64, .int .i64]
abbrev LPt : List Lf := [.int .i64, .str, .str, .int .i64, .int .i64, .int .i64, .int .i64, .int .i64, .int .i64, .int .i64, LMb]
abbrev LTx : List Lf := [.int .i64, .int .i64, .int .i64, .int .i64, .int .i64, .int .i64, .str, .sl LPt]
theorem Cf.ofL {ps : List PV} (h : ShL [.int .i64, .int .i64, .int .i64, LMb] ps) : ∃ a : Cf, ps = a.cells := by
  obtain ⟨_, _, rfl, h0, h⟩ := h.cons
  obtain ⟨_, _, rfl, h1, h⟩ := h.cons
  obtain ⟨_, _, rfl, h2, h⟩ := h.cons
  obtain ⟨_, _, rfl, h3, h⟩ := h.cons
  obtain rfl := h.nil
  obtain ⟨_, rfl, -⟩ := h0.intI
  obtain ⟨_, rfl, -⟩ := h1.intI
  obtain ⟨_, rfl, -⟩ := h2.intI
  obtain ⟨l, rfl⟩ := h3.slI (f := Mb.cells) fun ps h => Mb.ofL h
  exact ⟨⟨_, _, _, l⟩, rfl⟩
theorem Pt.ofL {ps : List PV} (h : ShL LPt ps) : ∃ a : Pt, ps = a.cells := by
  obtain ⟨_, _, rfl, h0, h⟩ := h.cons
  obtain ⟨_, _, rfl, h1, h⟩ := h.cons
  obtain ⟨_, _, rfl, h2, h⟩ := h.cons
  obtain ⟨_, _, rfl, h3, h⟩ := h.cons
  obtain ⟨_, _, rfl, h4, h⟩ := h.cons
  obtain ⟨_, _, rfl, h5, h⟩ := h.cons
  obtain ⟨_, _, rfl, h6, h⟩ := h.cons
  obtain ⟨_, _, rfl, h7, h⟩ := h.cons
  obtain ⟨_, _, rfl, h8, h⟩ := h.cons
  obtain ⟨_, _, rfl, h9, h⟩ := h.cons
  obtain ⟨_, _, rfl, h10, h⟩ := h.cons
  obtain rfl := h.nil
  obtain ⟨_, rfl, -⟩ := h0.intI
  obtain ⟨s1, rfl, -⟩ := h1.strI
  obtain ⟨s2, rfl, -⟩ := h2.strI
  obtain ⟨_, rfl, -⟩ := h3.intI
  obtain ⟨_, rfl, -⟩ := h4.intI
  obtain ⟨_, rfl, -⟩ := h5.intI
  obtain ⟨_, rfl, -⟩ := h6.intI
  obtain ⟨_, rfl, -⟩ := h7.intI
  obtain ⟨_, rfl, -⟩ := h8.intI
  obtain ⟨_, rfl, -⟩ := h9.intI
  obtain ⟨l, rfl⟩ := h10.slI (f := Mb.cells) fun ps h => Mb.ofL h
  exact ⟨⟨_, ⟨s1.data.toList, s2.data.toList, _, _, _⟩, _, ⟨_, _, _, l⟩⟩, rfl⟩
theorem Tx.ofL {ps : List PV} (h : ShL LTx ps) : ∃ a : Tx, ps = a.cells := by
  obtain ⟨_, _, rfl, h0, h⟩ := h.cons
  obtain ⟨_, _, rfl, h1, h⟩ := h.cons
  obtain ⟨_, _, rfl, h2, h⟩ := h.cons
  obtain ⟨_, _, rfl, h3, h⟩ := h.cons
  obtain ⟨_, _, rfl, h4, h⟩ := h.cons
  obtain ⟨_, _, rfl, h5, h⟩ := h.cons
  obtain ⟨_, _, rfl, h6, h⟩ := h.cons
  obtain ⟨_, _, rfl, h7, h⟩ := h.cons
  obtain rfl := h.nil
  obtain ⟨_, rfl, -⟩ := h0.intI
  obtain ⟨_, rfl, -⟩ := h1.intI
  obtain ⟨_, rfl, -⟩ := h2.intI
  obtain ⟨_, rfl, -⟩ := h3.intI
  obtain ⟨_, rfl, -⟩ := h4.intI
  obtain ⟨_, rfl, -⟩ := h5.intI
  obtain ⟨s, rfl, -⟩ := h6.strI
  obtain ⟨l, rfl⟩ := h7.slI (f := Pt.cells) fun ps h => Pt.ofL h
  exact ⟨⟨_, _, _, _, _, _, s.data.toList, l⟩, rfl⟩
theorem Zn.ofL' {ps : List PV} (h : ShL LZn ps) : ∃ a : Zn, ps = a.c := by
  obtain ⟨a, h⟩ := Zn.ofL h
  exact ⟨a.1, h⟩
theorem Sv.ofL {ps : List PV} (h : ShL [.sl LZn, .sl [.int .i64], .int .i64, .int .i64, .int .i64, .int .i64, LMb, .int .i64, .int .i64] ps) : ∃ s : Sv, ps = s.cells := by
  obtain ⟨_, _, rfl, h0, h⟩ := h.cons
  obtain ⟨_, _, rfl, h1, h⟩ := h.cons
  obtain ⟨_, _, rfl, h2, h⟩ := h.cons
  obtain ⟨_, _, rfl, h3, h⟩ := h.cons
  obtain ⟨_, _, rfl, h4, h⟩ := h.cons
  obtain ⟨_, _, rfl, h5, h⟩ := h.cons
  obtain ⟨_, _, rfl, h6, h⟩ := h.cons
  obtain ⟨_, _, rfl, h7, h⟩ := h.cons
  obtain ⟨_, _, rfl, h8, h⟩ := h.cons
  obtain rfl := h.nil
  obtain ⟨ns, rfl⟩ := h0.slI (f := Zn.c) fun ps h => Zn.ofL' h
  obtain ⟨ss, rfl⟩ := h1.slI (f := fun n : Int => [I n]) fun ps h => by
    obtain ⟨_, _, rfl, h0, h⟩ := h.cons
    obtain rfl := h.nil
    obtain ⟨n, rfl, -⟩ := h0.intI
    exact ⟨n, rfl⟩
  obtain ⟨_, rfl, -⟩ := h2.intI
  obtain ⟨_, rfl, -⟩ := h3.intI
  obtain ⟨_, rfl, -⟩ := h4.intI
  obtain ⟨_, rfl, -⟩ := h5.intI
  obtain ⟨ms, rfl⟩ := h6.slI (f := Mb.cells) fun ps h => Mb.ofL h
  obtain ⟨_, rfl, -⟩ := h7.intI
  obtain ⟨_, rfl, -⟩ := h8.intI
  exact ⟨⟨ns, ss, _, ⟨_, _, _, ms⟩, _, _⟩, rfl⟩
theorem szLe {N c : Nat} {l : List (List PV)} (h : SzI KB N (.sl c l)) : l.length ≤ N := by
  have := h.len
  have h1 : 1 ≤ KB c := by unfold KB; omega
  have := Nat.le_mul_of_pos_right l.length (show 0 < KB c by omega)
  omega
abbrev LZx : List Lf := [.int .i64, .int .i64]
theorem Zx.ofL {ps : List PV} (h : ShL LZx ps) : ∃ a : Zx, ps = [I a.e, I a.n] := by
  obtain ⟨_, _, rfl, h0, h⟩ := h.cons
  obtain ⟨_, _, rfl, h1, h⟩ := h.cons
  obtain rfl := h.nil
  obtain ⟨_, rfl, -⟩ := h0.intI
  obtain ⟨_, rfl, -⟩ := h1.intI
  exact ⟨⟨_, _⟩, rfl⟩
theorem Hy.ofL {ps : List PV} (h : ShL [.sl LZn, .sl [.int .i64], .int .i64, .int .i64, .int .i64, .int .i64, LMb, .int .i64, .int .i64, .sl LTx] ps) : ∃ h : Hy, ps = h.cells := by
  obtain ⟨_, _, rfl, h0, h⟩ := h.cons
  obtain ⟨_, _, rfl, h1, h⟩ := h.cons
  obtain ⟨_, _, rfl, h2, h⟩ := h.cons
  obtain ⟨_, _, rfl, h3, h⟩ := h.cons
  obtain ⟨_, _, rfl, h4, h⟩ := h.cons
  obtain ⟨_, _, rfl, h5, h⟩ := h.cons
  obtain ⟨_, _, rfl, h6, h⟩ := h.cons
  obtain ⟨_, _, rfl, h7, h⟩ := h.cons
  obtain ⟨_, _, rfl, h8, h⟩ := h.cons
  obtain ⟨_, _, rfl, h9, h⟩ := h.cons
  obtain rfl := h.nil
  obtain ⟨ns, rfl⟩ := h0.slI (f := Zn.c) fun ps h => Zn.ofL' h
  obtain ⟨ss, rfl⟩ := h1.slI (f := fun n : Int => [I n]) fun ps h => by
    obtain ⟨_, _, rfl, h0, h⟩ := h.cons
    obtain rfl := h.nil
    obtain ⟨n, rfl, -⟩ := h0.intI
    exact ⟨n, rfl⟩
  obtain ⟨_, rfl, -⟩ := h2.intI
  obtain ⟨_, rfl, -⟩ := h3.intI
  obtain ⟨_, rfl, -⟩ := h4.intI
  obtain ⟨_, rfl, -⟩ := h5.intI
  obtain ⟨ms, rfl⟩ := h6.slI (f := Mb.cells) fun ps h => Mb.ofL h
  obtain ⟨_, rfl, -⟩ := h7.intI
  obtain ⟨_, rfl, -⟩ := h8.intI
  obtain ⟨lg, rfl⟩ := h9.slI (f := Tx.cells) fun ps h => Tx.ofL h
  exact ⟨⟨⟨ns, ss, _, ⟨_, _, _, ms⟩, _, _⟩, lg⟩, rfl⟩
theorem hy_open {p : PV} (hp : ShT Try.T 33 p) : ∃ h : Hy, p = .agg h.cells := by
  obtain ⟨ps, rfl, h⟩ := hp.agg (E := [.sl LZn, .sl [.int .i64], .int .i64, .int .i64, .int .i64, .int .i64, LMb, .int .i64, .int .i64, .sl LTx]) rfl rfl rfl
  obtain ⟨s, rfl⟩ := Hy.ofL h
  exact ⟨s, rfl⟩
theorem SmallH.of {h : Hy} (hz : SzI KB reachBytes (.agg h.cells)) : SmallH h := by
  have hr : reachBytes = 140737488351232 := rfl
  have h1 := szLe (hz.part (p := .sl 5 (zns h.im.ns)) (by simp [Hy.cells]))
  have h2 := szLe (hz.part (p := .sl 1 (ints h.im.ss)) (by simp [Hy.cells]))
  have h3 := szLe (hz.part (p := .sl 4 (mbs h.im.c.ms)) (by simp [Hy.cells]))
  rw [zns_len] at h1
  rw [ints_len] at h2
  rw [mbs_len] at h3
  refine ⟨by omega, by omega, by omega, fun t ht => ?_⟩
  have h4 := (hz.part (p := .sl 8 (txns h.lg)) (by simp [Hy.cells])).at (e := t.cells) (List.mem_map.2 ⟨t, ht, rfl⟩) (p := .sl 11 (pts t.ps)) (by simp [Tx.cells])
  have h5 := szLe h4
  rw [pts_len] at h5
  refine ⟨by omega, fun p hp => ?_⟩
  have h6 := szLe (h4.at (e := p.cells) (List.mem_map.2 ⟨p, hp, rfl⟩) (p := .sl 4 (mbs p.c.ms)) (by simp [Pt.cells]))
  rw [mbs_len] at h6
  omega
theorem zx_open {p : PV} (hp : ShT Try.T 25 p) : ∃ z : Zx, p = .agg [I z.e, I z.n] := by
  obtain ⟨ps, rfl, h⟩ := hp.agg (E := LZx) rfl rfl rfl
  obtain ⟨s, rfl⟩ := Zx.ofL h
  exact ⟨s, rfl⟩
end Go.Proofs.Ytegoihognjpcjaa

