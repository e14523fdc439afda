/- What comes in, opened: changes. -/
import Derived.Test.YtiemabhnhgablaaDA
import Derived.Test.YtiemabhnhgablaaQO
namespace Go.Proofs.Ytiemabhnhgablaa
set_option linter.unusedVariables false
open Go Go.Av
theorem Dl.ofL {ps : List PV} (h : ShL [.int .i64, .sl [.int .i64, .int .i64, .int .i64, .int .i64], .sl [.int .i64]] ps) : ∃ a : Dl, ps = a.cells := by
  obtain ⟨_, _, rfl, h0, h⟩ := h.cons
  obtain ⟨_, _, rfl, h1, h⟩ := h.cons
  obtain ⟨_, _, rfl, h2, h⟩ := h.cons
  obtain rfl := h.nil
  obtain ⟨_, rfl, -⟩ := h0.intI
  obtain ⟨l, rfl⟩ := h1.slI (f := Mb.cells) fun ps h => Mb.ofL h
  obtain ⟨r, rfl⟩ := h2.slI (f := fun n => [I n]) fun ps h => by
    obtain ⟨_, _, rfl, h0, h⟩ := h.cons
    obtain rfl := h.nil
    obtain ⟨n, rfl, -⟩ := h0.intI
    exact ⟨n, rfl⟩
  exact ⟨⟨_, l, r⟩, rfl⟩
theorem dl_open {p : PV} (hp : ShT Try.T 30 p) : ∃ a : Dl, p = .agg a.cells := by
  obtain ⟨ps, rfl, h⟩ := hp.agg (E := [.int .i64, .sl [.int .i64, .int .i64, .int .i64, .int .i64], .sl [.int .i64]]) rfl rfl rfl
  obtain ⟨a, rfl⟩ := Dl.ofL h
  exact ⟨a, rfl⟩
end Go.Proofs.Ytiemabhnhgablaa
