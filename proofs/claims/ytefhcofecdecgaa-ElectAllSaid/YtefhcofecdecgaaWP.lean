/- Votes that come in, opened. -/
import Derived.Test.YtefhcofecdecgaaWB
import Derived.Test.YtefhcofecdecgaaAvRow
namespace Go.Proofs.Ytefhcofecdecgaa
set_option linter.unusedVariables false
open Go Go.Av
theorem Vt.ofL {ps : List PV} (h : ShL [.int .i64, .int .i64, .int .i64, .int .i64, .int .i64, .int .i64, .int .i64] ps) : ∃ a : Vt, ps = a.cells := by
  obtain ⟨_, _, rfl, h0, h⟩ := h.cons
  obtain ⟨_, _, rfl, h1, h⟩ := h.cons
  obtain ⟨_, _, rfl, h2, h⟩ := h.cons
  obtain ⟨_, _, rfl, h3, h⟩ := h.cons
  obtain ⟨_, _, rfl, h4, h⟩ := h.cons
  obtain ⟨_, _, rfl, h5, h⟩ := h.cons
  obtain ⟨_, _, rfl, h6, h⟩ := h.cons
  obtain rfl := h.nil
  obtain ⟨_, rfl, -⟩ := h0.intI
  obtain ⟨_, rfl, -⟩ := h1.intI
  obtain ⟨_, rfl, -⟩ := h2.intI
  obtain ⟨_, rfl, -⟩ := h3.intI
  obtain ⟨_, rfl, -⟩ := h4.intI
  obtain ⟨_, rfl, -⟩ := h5.intI
  obtain ⟨_, rfl, -⟩ := h6.intI
  exact ⟨⟨_, _, _, _, _, _, _⟩, rfl⟩
theorem Vt.open {p : PV} (hp : ShT Try.T 37 p) : ∃ a : Vt, p = .agg a.cells := by
  obtain ⟨ps, rfl, h⟩ := hp.agg (E := [.int .i64, .int .i64, .int .i64, .int .i64, .int .i64, .int .i64, .int .i64]) rfl rfl rfl
  obtain ⟨a, rfl⟩ := Vt.ofL h
  exact ⟨a, rfl⟩
theorem vts_open {p : PV} (hp : ShT Try.T 35 p) : ∃ l : List Vt, p = .sl 7 (vts l) :=
  (hp.one (f := .sl [.int .i64, .int .i64, .int .i64, .int .i64, .int .i64, .int .i64, .int .i64]) rfl rfl rfl).slI (f := Vt.cells) fun ps h => Vt.ofL h
end Go.Proofs.Ytefhcofecdecgaa
