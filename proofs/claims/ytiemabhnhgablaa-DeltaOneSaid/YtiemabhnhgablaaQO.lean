/- What comes in, opened: numbers, members, configs. -/
import Derived.Test.YtiemabhnhgablaaQB
import Derived.Test.YtiemabhnhgablaaAvRow
namespace Go.Proofs.Ytiemabhnhgablaa
set_option linter.unusedVariables false
open Go Go.Av
theorem int_open {p : PV} (hp : ShT Try.T 3 p) : ∃ n, p = I n := by
  obtain ⟨n, rfl, -⟩ := (hp.one (f := .int .i64) rfl rfl rfl).intI
  exact ⟨n, rfl⟩
theorem ints_open {p : PV} (hp : ShT Try.T 28 p) : ∃ l, p = .sl 1 (ints l) :=
  (hp.one (f := .sl [.int .i64]) rfl rfl rfl).slI (f := fun n => [I n]) fun ps h => by
    obtain ⟨_, _, rfl, h0, h⟩ := h.cons
    obtain rfl := h.nil
    obtain ⟨n, rfl, -⟩ := h0.intI
    exact ⟨n, rfl⟩
theorem Mb.ofL {ps : List PV} (h : ShL [.int .i64, .int .i64, .int .i64, .int .i64] ps) : ∃ a : Mb, ps = a.cells := by
  obtain ⟨_, _, rfl, h0, h⟩ := h.cons
  obtain ⟨_, _, rfl, h1, h⟩ := h.cons
  obtain ⟨_, _, rfl, h2, h⟩ := h.cons
  obtain ⟨_, _, rfl, h3, h⟩ := h.cons
  obtain rfl := h.nil
  obtain ⟨_, rfl, -⟩ := h0.intI
  obtain ⟨_, rfl, -⟩ := h1.intI
  obtain ⟨_, rfl, -⟩ := h2.intI
  obtain ⟨_, rfl, -⟩ := h3.intI
  exact ⟨⟨_, _, _, _⟩, rfl⟩
theorem Cf.ofL {ps : List PV} (h : ShL [.int .i64, .int .i64, .int .i64, .sl [.int .i64, .int .i64, .int .i64, .int .i64]] ps) : ∃ a : Cf, ps = a.cells := by
  obtain ⟨_, _, rfl, h0, h⟩ := h.cons
  obtain ⟨_, _, rfl, h1, h⟩ := h.cons
  obtain ⟨_, _, rfl, h2, h⟩ := h.cons
  obtain ⟨_, _, rfl, h3, h⟩ := h.cons
  obtain rfl := h.nil
  obtain ⟨_, rfl, -⟩ := h0.intI
  obtain ⟨_, rfl, -⟩ := h1.intI
  obtain ⟨_, rfl, -⟩ := h2.intI
  obtain ⟨l, rfl⟩ := h3.slI (f := Mb.cells) fun ps h => Mb.ofL h
  exact ⟨⟨_, _, _, l⟩, rfl⟩
theorem cf_open {p : PV} (hp : ShT Try.T 26 p) : ∃ a : Cf, p = .agg a.cells := by
  obtain ⟨ps, rfl, h⟩ := hp.agg (E := [.int .i64, .int .i64, .int .i64, .sl [.int .i64, .int .i64, .int .i64, .int .i64]]) rfl rfl rfl
  obtain ⟨a, rfl⟩ := Cf.ofL h
  exact ⟨a, rfl⟩
end Go.Proofs.Ytiemabhnhgablaa
