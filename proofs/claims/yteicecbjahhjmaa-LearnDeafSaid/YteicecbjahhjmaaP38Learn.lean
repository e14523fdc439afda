/- Texts that the proof needs: LNO LNA. -/
import Derived.Test.YteicecbjahhjmaaP36Learn
import Derived.Test.YteicecbjahhjmaaP37Learn
/- Learners: what comes in, opened. -/
namespace Go.Proofs.Yteicecbjahhjmaa
set_option linter.unusedVariables false
open Go Go.Av Go.ChangeShapes Go.WideShapes Go.ChangeAt Go.RowKit
/-- How many bytes an element of so many cells has at least. -/
def KB (c : Nat) : Nat := if c = 48 then 552 else 1
theorem hpos : PosK Try.T KB := by
  intro t yt e y h hk hy hs
  unfold Try.T at h
  split at h
  all_goals first | (cases h; done) | (cases h; cases hk; done) | (cases h; cases hk; cases hy; done) | (cases h; cases hk; cases hy; first | exact of_decide_eq_true (by kernel_rfl) | (simp at hs; done))
theorem Mb.ofL {ps : List PV} (h : ShL [.int .i64, .int .i64, .int .i64, .int .i64] ps) : ∃ a : Mb, ps = a.cells := by
  obtain ⟨_, _, rfl, h0, h⟩ := h.cons
  obtain ⟨_, _, rfl, h1, h⟩ := h.cons
  obtain ⟨_, _, rfl, h2, h⟩ := h.cons
  obtain ⟨_, _, rfl, h3, h⟩ := h.cons
  obtain rfl := h.nil
  obtain ⟨_, rfl, -⟩ := h0.intI
  obtain ⟨_, rfl, -⟩ := h1.intI
  obtain ⟨_, rfl, -⟩ := h2.intI
  obtain ⟨_, rfl, -⟩ := h3.intI
  exact ⟨⟨_, _, _, _⟩, rfl⟩
abbrev LMb : Lf := .sl [.int .i64, .int .i64, .int .i64, .int .i64]
abbrev LZn : List Lf := [.str, .str, .int .i64, .int .i64, .int .i64]
abbrev LPt : List Lf := [.int .i64, .str, .str, .int .i64, .int .i64, .int .i64, .int .i64, .int .i64, .int .i64, .int .i64, LMb]
abbrev LTx : List Lf := [.int .i64, .int .i64, .int .i64, .int .i64, .int .i64, .int .i64, .str, .sl LPt]
theorem Cf.ofL {ps : List PV} (h : ShL [.int .i64, .int .i64, .int .i64, LMb] ps) : ∃ a : Cf, ps = a.cells := by
  obtain ⟨_, _, rfl, h0, h⟩ := h.cons
  obtain ⟨_, _, rfl, h1, h⟩ := h.cons
  obtain ⟨_, _, rfl, h2, h⟩ := h.cons
  obtain ⟨_, _, rfl, h3, h⟩ := h.cons
  obtain rfl := h.nil
  obtain ⟨_, rfl, -⟩ := h0.intI
  obtain ⟨_, rfl, -⟩ := h1.intI
  obtain ⟨_, rfl, -⟩ := h2.intI
  obtain ⟨l, rfl⟩ := h3.slI (f := Mb.cells) fun ps h => Mb.ofL h
  exact ⟨⟨_, _, _, l⟩, rfl⟩
theorem Pt.ofL {ps : List PV} (h : ShL LPt ps) : ∃ a : Pt, ps = a.cells := by
  obtain ⟨_, _, rfl, h0, h⟩ := h.cons
  obtain ⟨_, _, rfl, h1, h⟩ := h.cons
  obtain ⟨_, _, rfl, h2, h⟩ := h.cons
  obtain ⟨_, _, rfl, h3, h⟩ := h.cons
  obtain ⟨_, _, rfl, h4, h⟩ := h.cons
  obtain ⟨_, _, rfl, h5, h⟩ := h.cons
  obtain ⟨_, _, rfl, h6, h⟩ := h.cons
  obtain ⟨_, _, rfl, h7, h⟩ := h.cons
  obtain ⟨_, _, rfl, h8, h⟩ := h.cons
  obtain ⟨_, _, rfl, h9, h⟩ := h.cons
  obtain ⟨_, _, rfl, h10, h⟩ := h.cons
  obtain rfl := h.nil
  obtain ⟨_, rfl, -⟩ := h0.intI
  obtain ⟨s1, rfl, -⟩ := h1.strI
  obtain ⟨s2, rfl, -⟩ := h2.strI
  obtain ⟨_, rfl, -⟩ := h3.intI
  obtain ⟨_, rfl, -⟩ := h4.intI
  obtain ⟨_, rfl, -⟩ := h5.intI
  obtain ⟨_, rfl, -⟩ := h6.intI
  obtain ⟨_, rfl, -⟩ := h7.intI
  obtain ⟨_, rfl, -⟩ := h8.intI
  obtain ⟨_, rfl, -⟩ := h9.intI
  obtain ⟨l, rfl⟩ := h10.slI (f := Mb.cells) fun ps h => Mb.ofL h
  exact ⟨⟨_, ⟨s1.data.toList, s2.data.toList, _, _, _⟩, _, ⟨_, _, _, l⟩⟩, rfl⟩
theorem Tx.ofL {ps : List PV} (h : ShL LTx ps) : ∃ a : Tx, ps = a.cells := by
  obtain ⟨_, _, rfl, h0, h⟩ := h.cons
  obtain ⟨_, _, rfl, h1, h⟩ := h.cons
  obtain ⟨_, _, rfl, h2, h⟩ := h.cons
  obtain ⟨_, _, rfl, h3, h⟩ := h.cons
  obtain ⟨_, _, rfl, h4, h⟩ := h.cons
  obtain ⟨_, _, rfl, h5, h⟩ := h.cons
  obtain ⟨_, _, rfl, h6, h⟩ := h.cons
  obtain ⟨_, _, rfl, h7, h⟩ := h.cons
  obtain rfl := h.nil
  obtain ⟨_, rfl, -⟩ := h0.intI
  obtain ⟨_, rfl, -⟩ := h1.intI
  obtain ⟨_, rfl, -⟩ := h2.intI
  obtain ⟨_, rfl, -⟩ := h3.intI
  obtain ⟨_, rfl, -⟩ := h4.intI
  obtain ⟨_, rfl, -⟩ := h5.intI
  obtain ⟨s, rfl, -⟩ := h6.strI
  obtain ⟨l, rfl⟩ := h7.slI (f := Pt.cells) fun ps h => Pt.ofL h
  exact ⟨⟨_, _, _, _, _, _, s.data.toList, l⟩, rfl⟩
theorem Zn.ofL' {ps : List PV} (h : ShL LZn ps) : ∃ a : Zn, ps = a.c := by
  obtain ⟨a, h⟩ := Zn.ofL h
  exact ⟨a.1, h⟩
theorem Sv.ofL {ps : List PV} (h : ShL [.sl LZn, .sl [.int .i64], .int .i64, .int .i64, .int .i64, .int .i64, LMb, .int .i64, .int .i64] ps) : ∃ s : Sv, ps = s.cells := by
  obtain ⟨_, _, rfl, h0, h⟩ := h.cons
  obtain ⟨_, _, rfl, h1, h⟩ := h.cons
  obtain ⟨_, _, rfl, h2, h⟩ := h.cons
  obtain ⟨_, _, rfl, h3, h⟩ := h.cons
  obtain ⟨_, _, rfl, h4, h⟩ := h.cons
  obtain ⟨_, _, rfl, h5, h⟩ := h.cons
  obtain ⟨_, _, rfl, h6, h⟩ := h.cons
  obtain ⟨_, _, rfl, h7, h⟩ := h.cons
  obtain ⟨_, _, rfl, h8, h⟩ := h.cons
  obtain rfl := h.nil
  obtain ⟨ns, rfl⟩ := h0.slI (f := Zn.c) fun ps h => Zn.ofL' h
  obtain ⟨ss, rfl⟩ := h1.slI (f := fun n : Int => [I n]) fun ps h => by
    obtain ⟨_, _, rfl, h0, h⟩ := h.cons
    obtain rfl := h.nil
    obtain ⟨n, rfl, -⟩ := h0.intI
    exact ⟨n, rfl⟩
  obtain ⟨_, rfl, -⟩ := h2.intI
  obtain ⟨_, rfl, -⟩ := h3.intI
  obtain ⟨_, rfl, -⟩ := h4.intI
  obtain ⟨_, rfl, -⟩ := h5.intI
  obtain ⟨ms, rfl⟩ := h6.slI (f := Mb.cells) fun ps h => Mb.ofL h
  obtain ⟨_, rfl, -⟩ := h7.intI
  obtain ⟨_, rfl, -⟩ := h8.intI
  exact ⟨⟨ns, ss, _, ⟨_, _, _, ms⟩, _, _⟩, rfl⟩
theorem szLe {N c : Nat} {l : List (List PV)} (h : SzI KB N (.sl c l)) : l.length ≤ N := by
  have := h.len
  have h1 : 1 ≤ KB c := by unfold KB; split <;> omega
  have := Nat.le_mul_of_pos_right l.length (show 0 < KB c by omega)
  omega
abbrev LZx : List Lf := [.int .i64, .int .i64]
theorem Zx.ofL {ps : List PV} (h : ShL LZx ps) : ∃ a : Zx, ps = [I a.e, I a.n] := by
  obtain ⟨_, _, rfl, h0, h⟩ := h.cons
  obtain ⟨_, _, rfl, h1, h⟩ := h.cons
  obtain rfl := h.nil
  obtain ⟨_, rfl, -⟩ := h0.intI
  obtain ⟨_, rfl, -⟩ := h1.intI
  exact ⟨⟨_, _⟩, rfl⟩
theorem Hy.ofL {ps : List PV} (h : ShL [.sl LZn, .sl [.int .i64], .int .i64, .int .i64, .int .i64, .int .i64, LMb, .int .i64, .int .i64, .sl LTx] ps) : ∃ h : Hy, ps = h.cells := by
  obtain ⟨_, _, rfl, h0, h⟩ := h.cons
  obtain ⟨_, _, rfl, h1, h⟩ := h.cons
  obtain ⟨_, _, rfl, h2, h⟩ := h.cons
  obtain ⟨_, _, rfl, h3, h⟩ := h.cons
  obtain ⟨_, _, rfl, h4, h⟩ := h.cons
  obtain ⟨_, _, rfl, h5, h⟩ := h.cons
  obtain ⟨_, _, rfl, h6, h⟩ := h.cons
  obtain ⟨_, _, rfl, h7, h⟩ := h.cons
  obtain ⟨_, _, rfl, h8, h⟩ := h.cons
  obtain ⟨_, _, rfl, h9, h⟩ := h.cons
  obtain rfl := h.nil
  obtain ⟨ns, rfl⟩ := h0.slI (f := Zn.c) fun ps h => Zn.ofL' h
  obtain ⟨ss, rfl⟩ := h1.slI (f := fun n : Int => [I n]) fun ps h => by
    obtain ⟨_, _, rfl, h0, h⟩ := h.cons
    obtain rfl := h.nil
    obtain ⟨n, rfl, -⟩ := h0.intI
    exact ⟨n, rfl⟩
  obtain ⟨_, rfl, -⟩ := h2.intI
  obtain ⟨_, rfl, -⟩ := h3.intI
  obtain ⟨_, rfl, -⟩ := h4.intI
  obtain ⟨_, rfl, -⟩ := h5.intI
  obtain ⟨ms, rfl⟩ := h6.slI (f := Mb.cells) fun ps h => Mb.ofL h
  obtain ⟨_, rfl, -⟩ := h7.intI
  obtain ⟨_, rfl, -⟩ := h8.intI
  obtain ⟨lg, rfl⟩ := h9.slI (f := Tx.cells) fun ps h => Tx.ofL h
  exact ⟨⟨⟨ns, ss, _, ⟨_, _, _, ms⟩, _, _⟩, lg⟩, rfl⟩
abbrev LOp : List Lf := [.int .i64, .str, .str, .int .i64, .bool, .bool]
abbrev LMg : List Lf := [.int .i64, .int .i64, .int .i64, .int .i64, .int .i64, .int .i64, .int .i64, .int .i64, .int .i64, .int .i64, .int .i64, .int .i64, .int .i64, .int .i64, .sl LZx, .int .i64, .int .i64, .int .i64, .sl LZn, .sl [.int .i64], .int .i64, .int .i64, .int .i64, .int .i64, LMb, .int .i64, .int .i64, .sl LTx, .int .i64, .int .i64, .int .i64, .int .i64, .int .i64, .int .i64, .str, .sl LPt, .sl [.int .i64], .int .i64, .int .i64, .int .i64, .sl LOp, .int .i64, LMb, .sl [.int .i64], .int .i64, .int .i64]
set_option maxHeartbeats 1000000 in
theorem Mg.ofL {ps : List PV} (h : ShL LMg ps) : ∃ a : Mg, ps = a.cells := by
  obtain ⟨_, _, rfl, h0, h⟩ := h.cons
  obtain ⟨_, _, rfl, h1, h⟩ := h.cons
  obtain ⟨_, _, rfl, h2, h⟩ := h.cons
  obtain ⟨_, _, rfl, h3, h⟩ := h.cons
  obtain ⟨_, _, rfl, h4, h⟩ := h.cons
  obtain ⟨_, _, rfl, h5, h⟩ := h.cons
  obtain ⟨_, _, rfl, h6, h⟩ := h.cons
  obtain ⟨_, _, rfl, h7, h⟩ := h.cons
  obtain ⟨_, _, rfl, h8, h⟩ := h.cons
  obtain ⟨_, _, rfl, h9, h⟩ := h.cons
  obtain ⟨_, _, rfl, h10, h⟩ := h.cons
  obtain ⟨_, _, rfl, h11, h⟩ := h.cons
  obtain ⟨_, _, rfl, h12, h⟩ := h.cons
  obtain ⟨_, _, rfl, h13, h⟩ := h.cons
  obtain ⟨_, _, rfl, h14, h⟩ := h.cons
  obtain ⟨_, _, rfl, h15, h⟩ := h.cons
  obtain ⟨_, _, rfl, h16, h⟩ := h.cons
  obtain ⟨_, _, rfl, h17, h⟩ := h.cons
  obtain ⟨_, _, rfl, h18, h⟩ := h.cons
  obtain ⟨_, _, rfl, h19, h⟩ := h.cons
  obtain ⟨_, _, rfl, h20, h⟩ := h.cons
  obtain ⟨_, _, rfl, h21, h⟩ := h.cons
  obtain ⟨_, _, rfl, h22, h⟩ := h.cons
  obtain ⟨_, _, rfl, h23, h⟩ := h.cons
  obtain ⟨_, _, rfl, h24, h⟩ := h.cons
  obtain ⟨_, _, rfl, h25, h⟩ := h.cons
  obtain ⟨_, _, rfl, h26, h⟩ := h.cons
  obtain ⟨_, _, rfl, h27, h⟩ := h.cons
  obtain ⟨_, _, rfl, h28, h⟩ := h.cons
  obtain ⟨_, _, rfl, h29, h⟩ := h.cons
  obtain ⟨_, _, rfl, h30, h⟩ := h.cons
  obtain ⟨_, _, rfl, h31, h⟩ := h.cons
  obtain ⟨_, _, rfl, h32, h⟩ := h.cons
  obtain ⟨_, _, rfl, h33, h⟩ := h.cons
  obtain ⟨_, _, rfl, h34, h⟩ := h.cons
  obtain ⟨_, _, rfl, h35, h⟩ := h.cons
  obtain ⟨_, _, rfl, h36, h⟩ := h.cons
  obtain ⟨_, _, rfl, h37, h⟩ := h.cons
  obtain ⟨_, _, rfl, h38, h⟩ := h.cons
  obtain ⟨_, _, rfl, h39, h⟩ := h.cons
  obtain ⟨_, _, rfl, h40, h⟩ := h.cons
  obtain ⟨_, _, rfl, h41, h⟩ := h.cons
  obtain ⟨_, _, rfl, h42, h⟩ := h.cons
  obtain ⟨_, _, rfl, h43, h⟩ := h.cons
  obtain ⟨_, _, rfl, h44, h⟩ := h.cons
  obtain ⟨_, _, rfl, h45, h⟩ := h.cons
  obtain rfl := h.nil
  obtain ⟨x0, rfl, -⟩ := h0.intI
  obtain ⟨x1, rfl, -⟩ := h1.intI
  obtain ⟨x2, rfl, -⟩ := h2.intI
  obtain ⟨x3, rfl, -⟩ := h3.intI
  obtain ⟨x4, rfl, -⟩ := h4.intI
  obtain ⟨x5, rfl, -⟩ := h5.intI
  obtain ⟨x6, rfl, -⟩ := h6.intI
  obtain ⟨x7, rfl, -⟩ := h7.intI
  obtain ⟨x8, rfl, -⟩ := h8.intI
  obtain ⟨x9, rfl, -⟩ := h9.intI
  obtain ⟨x10, rfl, -⟩ := h10.intI
  obtain ⟨x11, rfl, -⟩ := h11.intI
  obtain ⟨x12, rfl, -⟩ := h12.intI
  obtain ⟨x13, rfl, -⟩ := h13.intI
  obtain ⟨x14, rfl⟩ := h14.slI (f := fun z : Zx => [I z.e, I z.n]) fun ps h => Zx.ofL h
  obtain ⟨x15, rfl, -⟩ := h15.intI
  obtain ⟨x16, rfl, -⟩ := h16.intI
  obtain ⟨x17, rfl, -⟩ := h17.intI
  obtain ⟨x18, rfl⟩ := h18.slI (f := Zn.c) fun ps h => Zn.ofL' h
  obtain ⟨x19, rfl⟩ := h19.slI (f := fun n : Int => [I n]) fun ps h => by
    obtain ⟨_, _, rfl, h0, h⟩ := h.cons
    obtain rfl := h.nil
    obtain ⟨n, rfl, -⟩ := h0.intI
    exact ⟨n, rfl⟩
  obtain ⟨x20, rfl, -⟩ := h20.intI
  obtain ⟨x21, rfl, -⟩ := h21.intI
  obtain ⟨x22, rfl, -⟩ := h22.intI
  obtain ⟨x23, rfl, -⟩ := h23.intI
  obtain ⟨x24, rfl⟩ := h24.slI (f := Mb.cells) fun ps h => Mb.ofL h
  obtain ⟨x25, rfl, -⟩ := h25.intI
  obtain ⟨x26, rfl, -⟩ := h26.intI
  obtain ⟨x27, rfl⟩ := h27.slI (f := Tx.cells) fun ps h => Tx.ofL h
  obtain ⟨x28, rfl, -⟩ := h28.intI
  obtain ⟨x29, rfl, -⟩ := h29.intI
  obtain ⟨x30, rfl, -⟩ := h30.intI
  obtain ⟨x31, rfl, -⟩ := h31.intI
  obtain ⟨x32, rfl, -⟩ := h32.intI
  obtain ⟨x33, rfl, -⟩ := h33.intI
  obtain ⟨x34, rfl, -⟩ := h34.strI
  obtain ⟨x35, rfl⟩ := h35.slI (f := Pt.cells) fun ps h => Pt.ofL h
  obtain ⟨x36, rfl⟩ := h36.slI (f := fun r : List PV => r) fun ps h => ⟨ps, rfl⟩
  rw [List.map_id'] at *
  obtain ⟨x37, rfl, -⟩ := h37.intI
  obtain ⟨x38, rfl, -⟩ := h38.intI
  obtain ⟨x39, rfl, -⟩ := h39.intI
  obtain ⟨x40, rfl⟩ := h40.slI (f := fun r : List PV => r) fun ps h => ⟨ps, rfl⟩
  rw [List.map_id'] at *
  obtain ⟨x41, rfl, -⟩ := h41.intI
  obtain ⟨x42, rfl⟩ := h42.slI (f := fun r : List PV => r) fun ps h => ⟨ps, rfl⟩
  rw [List.map_id'] at *
  obtain ⟨x43, rfl⟩ := h43.slI (f := fun r : List PV => r) fun ps h => ⟨ps, rfl⟩
  rw [List.map_id'] at *
  obtain ⟨x44, rfl, -⟩ := h44.intI
  obtain ⟨x45, rfl, -⟩ := h45.intI
  exact ⟨⟨x0, x1, x2, x3, x4, x5, x6, x7, x8, x9, x10, x11, ⟨x12, x13⟩, x14, x15, ⟨x16, x17⟩, ⟨x18, x19, x20, ⟨x21, x22, x23, x24⟩, x25, x26⟩, x27, ⟨x28, x29, x30, x31, x32, x33, x34.data.toList, x35⟩, x36, x37, x38, x39, x40, x41, x42, x43, x44, x45⟩, rfl⟩
abbrev LEv : List Lf := [.int .i64, .int .i64, .int .i64, .int .i64, .int .i64, .int .i64, .int .i64, .int .i64, .int .i64, .int .i64, .int .i64, .int .i64, .int .i64, .int .i64, .int .i64, .int .i64, .sl LZx, .int .i64, .int .i64, .int .i64, .sl LZn, .sl [.int .i64], .int .i64, .int .i64, .int .i64, .int .i64, LMb, .int .i64, .int .i64, .sl LTx, .int .i64, .int .i64, .int .i64, .int .i64, .int .i64, .int .i64, .str, .sl LPt, .sl [.int .i64], .int .i64, .int .i64, .int .i64, .sl LOp, .int .i64, LMb, .sl [.int .i64], .int .i64, .int .i64]
set_option maxHeartbeats 1000000 in
theorem Ev22.ofL {ps : List PV} (h : ShL LEv ps) : ∃ a : Ev22, ps = a.cells := by
  obtain ⟨_, _, rfl, h0, h⟩ := h.cons
  obtain ⟨_, _, rfl, h1, h⟩ := h.cons
  obtain ⟨_, _, rfl, h2, h⟩ := h.cons
  obtain ⟨_, _, rfl, h3, h⟩ := h.cons
  obtain ⟨_, _, rfl, h4, h⟩ := h.cons
  obtain ⟨_, _, rfl, h5, h⟩ := h.cons
  obtain ⟨_, _, rfl, h6, h⟩ := h.cons
  obtain ⟨_, _, rfl, h7, h⟩ := h.cons
  obtain ⟨_, _, rfl, h8, h⟩ := h.cons
  obtain ⟨_, _, rfl, h9, h⟩ := h.cons
  obtain ⟨_, _, rfl, h10, h⟩ := h.cons
  obtain ⟨_, _, rfl, h11, h⟩ := h.cons
  obtain ⟨_, _, rfl, h12, h⟩ := h.cons
  obtain ⟨_, _, rfl, h13, h⟩ := h.cons
  obtain ⟨_, _, rfl, h14, h⟩ := h.cons
  obtain ⟨_, _, rfl, h15, h⟩ := h.cons
  obtain ⟨_, _, rfl, h16, h⟩ := h.cons
  obtain ⟨_, _, rfl, h17, h⟩ := h.cons
  obtain ⟨_, _, rfl, h18, h⟩ := h.cons
  obtain ⟨_, _, rfl, h19, h⟩ := h.cons
  obtain ⟨_, _, rfl, h20, h⟩ := h.cons
  obtain ⟨_, _, rfl, h21, h⟩ := h.cons
  obtain ⟨_, _, rfl, h22, h⟩ := h.cons
  obtain ⟨_, _, rfl, h23, h⟩ := h.cons
  obtain ⟨_, _, rfl, h24, h⟩ := h.cons
  obtain ⟨_, _, rfl, h25, h⟩ := h.cons
  obtain ⟨_, _, rfl, h26, h⟩ := h.cons
  obtain ⟨_, _, rfl, h27, h⟩ := h.cons
  obtain ⟨_, _, rfl, h28, h⟩ := h.cons
  obtain ⟨_, _, rfl, h29, h⟩ := h.cons
  obtain ⟨_, _, rfl, h30, h⟩ := h.cons
  obtain ⟨_, _, rfl, h31, h⟩ := h.cons
  obtain ⟨_, _, rfl, h32, h⟩ := h.cons
  obtain ⟨_, _, rfl, h33, h⟩ := h.cons
  obtain ⟨_, _, rfl, h34, h⟩ := h.cons
  obtain ⟨_, _, rfl, h35, h⟩ := h.cons
  obtain ⟨_, _, rfl, h36, h⟩ := h.cons
  obtain ⟨_, _, rfl, h37, h⟩ := h.cons
  obtain ⟨_, _, rfl, h38, h⟩ := h.cons
  obtain ⟨_, _, rfl, h39, h⟩ := h.cons
  obtain ⟨_, _, rfl, h40, h⟩ := h.cons
  obtain ⟨_, _, rfl, h41, h⟩ := h.cons
  obtain ⟨_, _, rfl, h42, h⟩ := h.cons
  obtain ⟨_, _, rfl, h43, h⟩ := h.cons
  obtain ⟨_, _, rfl, h44, h⟩ := h.cons
  obtain ⟨_, _, rfl, h45, h⟩ := h.cons
  obtain ⟨_, _, rfl, h46, h⟩ := h.cons
  obtain ⟨_, _, rfl, h47, h⟩ := h.cons
  obtain rfl := h.nil
  obtain ⟨x0, rfl, -⟩ := h0.intI
  obtain ⟨x1, rfl, -⟩ := h1.intI
  obtain ⟨x2, rfl, -⟩ := h2.intI
  obtain ⟨x3, rfl, -⟩ := h3.intI
  obtain ⟨x4, rfl, -⟩ := h4.intI
  obtain ⟨x5, rfl, -⟩ := h5.intI
  obtain ⟨x6, rfl, -⟩ := h6.intI
  obtain ⟨x7, rfl, -⟩ := h7.intI
  obtain ⟨x8, rfl, -⟩ := h8.intI
  obtain ⟨x9, rfl, -⟩ := h9.intI
  obtain ⟨x10, rfl, -⟩ := h10.intI
  obtain ⟨x11, rfl, -⟩ := h11.intI
  obtain ⟨x12, rfl, -⟩ := h12.intI
  obtain ⟨x13, rfl, -⟩ := h13.intI
  obtain ⟨x14, rfl, -⟩ := h14.intI
  obtain ⟨x15, rfl, -⟩ := h15.intI
  obtain ⟨x16, rfl⟩ := h16.slI (f := fun z : Zx => [I z.e, I z.n]) fun ps h => Zx.ofL h
  obtain ⟨x17, rfl, -⟩ := h17.intI
  obtain ⟨x18, rfl, -⟩ := h18.intI
  obtain ⟨x19, rfl, -⟩ := h19.intI
  obtain ⟨x20, rfl⟩ := h20.slI (f := Zn.c) fun ps h => Zn.ofL' h
  obtain ⟨x21, rfl⟩ := h21.slI (f := fun n : Int => [I n]) fun ps h => by
    obtain ⟨_, _, rfl, h0, h⟩ := h.cons
    obtain rfl := h.nil
    obtain ⟨n, rfl, -⟩ := h0.intI
    exact ⟨n, rfl⟩
  obtain ⟨x22, rfl, -⟩ := h22.intI
  obtain ⟨x23, rfl, -⟩ := h23.intI
  obtain ⟨x24, rfl, -⟩ := h24.intI
  obtain ⟨x25, rfl, -⟩ := h25.intI
  obtain ⟨x26, rfl⟩ := h26.slI (f := Mb.cells) fun ps h => Mb.ofL h
  obtain ⟨x27, rfl, -⟩ := h27.intI
  obtain ⟨x28, rfl, -⟩ := h28.intI
  obtain ⟨x29, rfl⟩ := h29.slI (f := Tx.cells) fun ps h => Tx.ofL h
  obtain ⟨x30, rfl, -⟩ := h30.intI
  obtain ⟨x31, rfl, -⟩ := h31.intI
  obtain ⟨x32, rfl, -⟩ := h32.intI
  obtain ⟨x33, rfl, -⟩ := h33.intI
  obtain ⟨x34, rfl, -⟩ := h34.intI
  obtain ⟨x35, rfl, -⟩ := h35.intI
  obtain ⟨x36, rfl, -⟩ := h36.strI
  obtain ⟨x37, rfl⟩ := h37.slI (f := Pt.cells) fun ps h => Pt.ofL h
  obtain ⟨x38, rfl⟩ := h38.slI (f := fun r : List PV => r) fun ps h => ⟨ps, rfl⟩
  rw [List.map_id'] at *
  obtain ⟨x39, rfl, -⟩ := h39.intI
  obtain ⟨x40, rfl, -⟩ := h40.intI
  obtain ⟨x41, rfl, -⟩ := h41.intI
  obtain ⟨x42, rfl⟩ := h42.slI (f := fun r : List PV => r) fun ps h => ⟨ps, rfl⟩
  rw [List.map_id'] at *
  obtain ⟨x43, rfl, -⟩ := h43.intI
  obtain ⟨x44, rfl⟩ := h44.slI (f := fun r : List PV => r) fun ps h => ⟨ps, rfl⟩
  rw [List.map_id'] at *
  obtain ⟨x45, rfl⟩ := h45.slI (f := fun r : List PV => r) fun ps h => ⟨ps, rfl⟩
  rw [List.map_id'] at *
  obtain ⟨x46, rfl, -⟩ := h46.intI
  obtain ⟨x47, rfl, -⟩ := h47.intI
  exact ⟨⟨x0, x1, ⟨x2, x3, x4, x5, x6, x7, x8, x9, x10, x11, x12, x13, ⟨x14, x15⟩, x16, x17, ⟨x18, x19⟩, ⟨x20, x21, x22, ⟨x23, x24, x25, x26⟩, x27, x28⟩, x29, ⟨x30, x31, x32, x33, x34, x35, x36.data.toList, x37⟩, x38, x39, x40, x41, x42, x43, x44, x45, x46, x47⟩⟩, rfl⟩
abbrev LWh : List Lf := [.int .i64, .int .i64, .int .i64, .int .i64, .sl LZn, .sl [.int .i64], .int .i64, .int .i64, .int .i64, .int .i64, LMb, .int .i64, .int .i64, .sl LTx]
set_option maxHeartbeats 1000000 in
theorem Wh.ofL {ps : List PV} (h : ShL LWh ps) : ∃ a : Wh, ps = a.cells := by
  obtain ⟨_, _, rfl, h0, h⟩ := h.cons
  obtain ⟨_, _, rfl, h1, h⟩ := h.cons
  obtain ⟨_, _, rfl, h2, h⟩ := h.cons
  obtain ⟨_, _, rfl, h3, h⟩ := h.cons
  obtain ⟨_, _, rfl, h4, h⟩ := h.cons
  obtain ⟨_, _, rfl, h5, h⟩ := h.cons
  obtain ⟨_, _, rfl, h6, h⟩ := h.cons
  obtain ⟨_, _, rfl, h7, h⟩ := h.cons
  obtain ⟨_, _, rfl, h8, h⟩ := h.cons
  obtain ⟨_, _, rfl, h9, h⟩ := h.cons
  obtain ⟨_, _, rfl, h10, h⟩ := h.cons
  obtain ⟨_, _, rfl, h11, h⟩ := h.cons
  obtain ⟨_, _, rfl, h12, h⟩ := h.cons
  obtain ⟨_, _, rfl, h13, h⟩ := h.cons
  obtain rfl := h.nil
  obtain ⟨x0, rfl, -⟩ := h0.intI
  obtain ⟨x1, rfl, -⟩ := h1.intI
  obtain ⟨x2, rfl, -⟩ := h2.intI
  obtain ⟨x3, rfl, -⟩ := h3.intI
  obtain ⟨x4, rfl⟩ := h4.slI (f := Zn.c) fun ps h => Zn.ofL' h
  obtain ⟨x5, rfl⟩ := h5.slI (f := fun n : Int => [I n]) fun ps h => by
    obtain ⟨_, _, rfl, h0, h⟩ := h.cons
    obtain rfl := h.nil
    obtain ⟨n, rfl, -⟩ := h0.intI
    exact ⟨n, rfl⟩
  obtain ⟨x6, rfl, -⟩ := h6.intI
  obtain ⟨x7, rfl, -⟩ := h7.intI
  obtain ⟨x8, rfl, -⟩ := h8.intI
  obtain ⟨x9, rfl, -⟩ := h9.intI
  obtain ⟨x10, rfl⟩ := h10.slI (f := Mb.cells) fun ps h => Mb.ofL h
  obtain ⟨x11, rfl, -⟩ := h11.intI
  obtain ⟨x12, rfl, -⟩ := h12.intI
  obtain ⟨x13, rfl⟩ := h13.slI (f := Tx.cells) fun ps h => Tx.ofL h
  exact ⟨⟨x0, x1, x2, x3, ⟨⟨x4, x5, x6, ⟨x7, x8, x9, x10⟩, x11, x12⟩, x13⟩⟩, rfl⟩
theorem who_open {p : PV} (hp : ShT Try.T 35 p) : ∃ w : Wh, p = .agg w.cells := by
  obtain ⟨ps, rfl, h⟩ := hp.agg (E := LWh) rfl rfl rfl
  obtain ⟨s, rfl⟩ := Wh.ofL h
  exact ⟨s, rfl⟩
theorem evs_open {p : PV} (hp : ShT Try.T 36 p) : ∃ l : List Ev22, p = .sl 48 (evsC l) :=
  (hp.one (f := .sl LEv) rfl rfl rfl).slI (f := Ev22.cells) fun ps h => Ev22.ofL h
theorem msg_open {p : PV} (hp : ShT Try.T 65 p) : ∃ m : Mg, p = .agg m.cells := by
  obtain ⟨ps, rfl, h⟩ := hp.agg (E := LMg) rfl rfl rfl
  obtain ⟨s, rfl⟩ := Mg.ofL h
  exact ⟨s, rfl⟩
theorem SmallE.of {e : Ev22} (h5 : SzI KB reachBytes (.sl 5 (zns e.m.pim.ns))) (h1 : SzI KB reachBytes (.sl 1 (ints e.m.pim.ss))) (h4 : SzI KB reachBytes (.sl 4 (mbs e.m.pim.c.ms))) (h8 : SzI KB reachBytes (.sl 8 (txns e.m.pl))) (h11 : SzI KB reachBytes (.sl 11 (pts e.m.tx.ps))) : SmallE e := by
  have hr : reachBytes = 140737488351232 := rfl
  have k5 := szLe h5
  have k1 := szLe h1
  have k4 := szLe h4
  rw [zns_len] at k5
  rw [ints_len] at k1
  rw [mbs_len] at k4
  have key : ∀ t : Tx, SzI KB reachBytes (.sl 11 (pts t.ps)) → t.ps.length ≤ 140737488355328 ∧ ∀ p ∈ t.ps, p.c.ms.length ≤ 140737488355328 := fun t h => by
    have g5 := szLe h
    rw [pts_len] at g5
    refine ⟨by omega, fun p hp => ?_⟩
    have g6 := szLe (h.at (e := p.cells) (List.mem_map.2 ⟨p, hp, rfl⟩) (p := .sl 4 (mbs p.c.ms)) (by simp [Pt.cells]))
    rw [mbs_len] at g6
    omega
  refine ⟨⟨by simp only; omega, by simp only; omega, by simp only; omega, fun t ht => key t ?_⟩, ⟨by simp, by simp, by simp, fun t ht => key t ?_⟩⟩
  · exact h8.at (e := t.cells) (List.mem_map.2 ⟨t, ht, rfl⟩) (p := .sl 11 (pts t.ps)) (by simp [Tx.cells])
  · rw [List.mem_singleton.1 ht]; exact h11
theorem SmallE.ofL {l : List Ev22} (hz : SzI KB reachBytes (.sl 48 (evsC l))) : ∀ e ∈ l, SmallE e := fun e he => by
  have key : ∀ q ∈ e.cells, SzI KB reachBytes q := fun q hq => hz.at (e := e.cells) (List.mem_map.2 ⟨e, he, rfl⟩) hq
  exact .of (key _ (by simp [Ev22.cells])) (key _ (by simp [Ev22.cells])) (key _ (by simp [Ev22.cells])) (key _ (by simp [Ev22.cells])) (key _ (by simp [Ev22.cells]))
theorem SmallE.ofM {m : Mg} (hz : SzI KB reachBytes (.agg m.cells)) : SmallE ⟨0, 0, m⟩ := by
  have key : ∀ q ∈ m.cells, SzI KB reachBytes q := fun q hq => hz.part hq
  exact .of (key _ (by simp [Mg.cells])) (key _ (by simp [Mg.cells])) (key _ (by simp [Mg.cells])) (key _ (by simp [Mg.cells])) (key _ (by simp [Mg.cells]))
theorem evs_lim {l : List Ev22} (hz : SzI KB reachBytes (.sl 48 (evsC l))) : l.length * 552 ≤ 140737488351232 := by
  have h1 := hz.len
  rw [evsC_len] at h1
  have hr : reachBytes = 140737488351232 := rfl
  have hk : KB 48 = 552 := rfl
  rw [hk, hr] at h1
  omega
theorem SmallH.ofW {w : Wh} (hz : SzI KB reachBytes (.agg w.cells)) : SmallH w.h := by
  have hr : reachBytes = 140737488351232 := rfl
  have h1 := szLe (hz.part (p := .sl 5 (zns w.h.im.ns)) (by simp [Wh.cells]))
  have h2 := szLe (hz.part (p := .sl 1 (ints w.h.im.ss)) (by simp [Wh.cells]))
  have h3 := szLe (hz.part (p := .sl 4 (mbs w.h.im.c.ms)) (by simp [Wh.cells]))
  rw [zns_len] at h1
  rw [ints_len] at h2
  rw [mbs_len] at h3
  refine ⟨by omega, by omega, by omega, fun t ht => ?_⟩
  have h4 := (hz.part (p := .sl 8 (txns w.h.lg)) (by simp [Wh.cells])).at (e := t.cells) (List.mem_map.2 ⟨t, ht, rfl⟩) (p := .sl 11 (pts t.ps)) (by simp [Tx.cells])
  have h5 := szLe h4
  rw [pts_len] at h5
  refine ⟨by omega, fun p hp => ?_⟩
  have h6 := szLe (h4.at (e := p.cells) (List.mem_map.2 ⟨p, hp, rfl⟩) (p := .sl 4 (mbs p.c.ms)) (by simp [Pt.cells]))
  rw [mbs_len] at h6
  omega
end Go.Proofs.Yteicecbjahhjmaa
/- Learners: what the laws share. -/
namespace Go.Proofs.Yteicecbjahhjmaa
set_option linter.unusedSimpArgs false
set_option linter.unusedVariables false
set_option maxRecDepth 8000
open Go Go.Av
attribute [local simp] Try.T1 Try.T2 Try.T3 Try.T4 Try.T5 Try.T9 Try.T12 Try.T15 Try.T16 Try.T17 Try.T21 Try.T22 Try.T23 Try.T25 Try.T26 Try.T28 Try.T30 Try.T31 Try.T33 Try.T35 Try.T36 Try.T37 Try.T38 Try.T39 Try.T41 Try.T42 Try.T44 Try.T45 Try.T47 Try.T48 Try.T50 Try.T51 Try.T52 Try.T54 Try.T55 Try.T56 Try.T58 Try.T59 Try.T61 Try.T63 Try.T65 Try.T67 Try.T68 Try.T69 Try.T70 Try.T72 Try.T73 Try.T74 Try.T75 Try.T76 Try.T77 Try.T78 Try.T79 Try.T80 Try.T81 Try.T83 Try.T84 Try.T85 Try.T87 Try.T88 Try.T89 Try.T90 Try.T91 Try.T92 Try.T93 Try.T94 Try.T95 Try.T96 Try.T97 Try.T98 Try.T99 Try.T101 Try.T103 Try.T104 Try.T105 Try.T106 Try.T107 Try.T108 Try.T109 Try.T110 Try.T111 Try.T113 Try.T114 Try.T115 Try.T116 Try.T117 Try.T118 Try.T119 Try.T120 Try.T121 Try.T122 Try.T123 Try.T124 Try.T125 Try.T126 Try.T127 Try.T128 Try.T129 Try.T130 Try.T131 Try.T132 Try.T133 Try.T134 Try.T135 Try.T137 Try.T138 Try.T139 Try.T140 Try.T141 Try.T142 Try.T143 Try.T144 Try.T145 Try.T146 Try.T147 Try.T148 Try.T149 Try.T150 Try.T153 Try.T156 Try.T157 Try.T160 Try.T161 Try.T167
attribute [local irreducible] Go.Av.CallK Go.Av.CallE Go.Av.CallQ Go.Av.CallF Go.Av.CallR Go.Av.CallH Go.Av.Con
def mgsC (l : List Mg) : List (List PV) := l.map Mg.cells
@[simp] theorem mgsC_len (l : List Mg) : (mgsC l).length = l.length := by simp [mgsC]
@[simp] theorem mgsC_getElem (l : List Mg) (k : Nat) (h : k < (mgsC l).length) : (mgsC l)[k] = [I (l[k]'(by simpa using h)).fr, I (l[k]'(by simpa using h)).to, I (l[k]'(by simpa using h)).kd, I (l[k]'(by simpa using h)).v0, I (l[k]'(by simpa using h)).v1, I (l[k]'(by simpa using h)).v2, I (l[k]'(by simpa using h)).v3, I (l[k]'(by simpa using h)).v4, I (l[k]'(by simpa using h)).v5, I (l[k]'(by simpa using h)).v6, I (l[k]'(by simpa using h)).ep, I (l[k]'(by simpa using h)).cu, I (l[k]'(by simpa using h)).z.e, I (l[k]'(by simpa using h)).z.n, .sl 2 (zxs (l[k]'(by simpa using h)).ms), I (l[k]'(by simpa using h)).pk, I (l[k]'(by simpa using h)).pz.e, I (l[k]'(by simpa using h)).pz.n, .sl 5 (zns (l[k]'(by simpa using h)).pim.ns), .sl 1 (ints (l[k]'(by simpa using h)).pim.ss), I (l[k]'(by simpa using h)).pim.nx, I (l[k]'(by simpa using h)).pim.c.ep, I (l[k]'(by simpa using h)).pim.c.n, I (l[k]'(by simpa using h)).pim.c.kind, .sl 4 (mbs (l[k]'(by simpa using h)).pim.c.ms), I (l[k]'(by simpa using h)).pim.ae, I (l[k]'(by simpa using h)).pim.an, .sl 8 (txns (l[k]'(by simpa using h)).pl), I (l[k]'(by simpa using h)).tx.e, I (l[k]'(by simpa using h)).tx.n, I (l[k]'(by simpa using h)).tx.s, I (l[k]'(by simpa using h)).tx.x, I (l[k]'(by simpa using h)).tx.r, I (l[k]'(by simpa using h)).tx.b, SB (l[k]'(by simpa using h)).tx.m, .sl 11 (pts (l[k]'(by simpa using h)).tx.ps), .sl 1 (l[k]'(by simpa using h)).tc, I (l[k]'(by simpa using h)).aK, I (l[k]'(by simpa using h)).aS, I (l[k]'(by simpa using h)).aX, .sl 6 (l[k]'(by simpa using h)).ao, I (l[k]'(by simpa using h)).adk, .sl 4 (l[k]'(by simpa using h)).ap, .sl 1 (l[k]'(by simpa using h)).ad, I (l[k]'(by simpa using h)).awe, I (l[k]'(by simpa using h)).awn] := by simp [mgsC, Mg.cells]
theorem mgsC_get {l : List Mg} {k : Nat} (h : k < l.length) : (mgsC l)[k]? = some l[k].cells := by simp [mgsC, h]
def pB (p : Lp) : List V := [.p (I p.id), .p (I p.ac), .p (I p.cu), .p (.sl 5 (zns p.h.im.ns)), .p (.sl 1 (ints p.h.im.ss)), .p (I p.h.im.nx), .p (I p.h.im.c.ep), .p (I p.h.im.c.n), .p (I p.h.im.c.kind), .p (.sl 4 (mbs p.h.im.c.ms)), .p (I p.h.im.ae), .p (I p.h.im.an), .p (.sl 8 (txns p.h.lg)), .p (I p.d.e), .p (I p.d.n), .p (I p.mo), .p (I 0), .p (I 0), .p (I 0), .p (I 0), .p (I 0), .p (I 0), .p (I 0), .p (I 0), .p (I 0), .p (I 0), .p (I 0), .p (I 0), .p (I 0), .p (I 0), .p (I 0), .p (I 0), .p (.sl 7 []), .p (I p.ld), .p (I p.ph), .p (I p.wt), .p (I p.ep), .p (.sl 8 [])]
def wB (w : Wh) : List V := [.p (I w.id), .p (I w.ld), .p (I w.ac), .p (I w.cu), .p (.sl 5 (zns w.h.im.ns)), .p (.sl 1 (ints w.h.im.ss)), .p (I w.h.im.nx), .p (I w.h.im.c.ep), .p (I w.h.im.c.n), .p (I w.h.im.c.kind), .p (.sl 4 (mbs w.h.im.c.ms)), .p (I w.h.im.ae), .p (I w.h.im.an), .p (.sl 8 (txns w.h.lg))]
theorem out_eq (r : HR) : r.out = .tup [.p (.agg r.p.cells), .p (.sl 46 (mgsC r.l)), .p (B r.up)] := rfl
theorem act_len (p : Lp) (e : Ev22) : (actR p e).l.length ≤ 1 := by
  unfold actR
  split
  · unfold hearR promR syncR followR propR
    repeat' split
    all_goals simp
  split
  · unfold tickM
    show (if _ then _ else _ : List Mg).length ≤ 1
    split <;> simp
  · simp
end Go.Proofs.Yteicecbjahhjmaa
