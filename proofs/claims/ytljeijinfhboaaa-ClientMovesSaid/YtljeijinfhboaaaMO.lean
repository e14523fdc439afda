/- What comes in, opened: numbers, bytes, pairs of numbers. -/
import Derived.Test.YtljeijinfhboaaaMS
import Derived.Test.YtljeijinfhboaaaME
import Derived.Test.YtljeijinfhboaaaAvRow
namespace Go.Proofs.Ytljeijinfhboaaa
set_option linter.unusedVariables false
open Go Go.Av
theorem int_open {p : PV} (hp : ShT Try.T 3 p) : ∃ n, p = I n := by
  obtain ⟨n, rfl, -⟩ := (hp.one (f := .int .i64) rfl rfl rfl).intI
  exact ⟨n, rfl⟩
theorem u8_open {p : PV} (hp : ShT Try.T 5 p) : ∃ n : Int, p = .v (.int .u8 n) ∧ (0 ≤ n ∧ n < 256) := by
  obtain ⟨n, rfl, h⟩ := (hp.one (f := .int .u8) rfl rfl rfl).intI
  refine ⟨n, rfl, ?_⟩
  simp only [Lit.wf, Bool.and_eq_true, decide_eq_true_eq] at h
  have h1 : IntKind.u8.min = 0 := by decide
  have h2 : IntKind.u8.max = 255 := by decide
  omega
theorem ints_open {p : PV} (hp : ShT Try.T 27 p) : ∃ l, p = .sl 1 (ints l) :=
  (hp.one (f := .sl [.int .i64]) rfl rfl rfl).slI (f := fun n => [I n]) fun ps h => by
    obtain ⟨_, _, rfl, h0, h⟩ := h.cons
    obtain rfl := h.nil
    obtain ⟨n, rfl, -⟩ := h0.intI
    exact ⟨n, rfl⟩
theorem two_open {p : PV} (hp : ShT Try.T 52 p) : ∃ a b : Int, p = .agg [I a, I b] := by
  obtain ⟨ps, rfl, h⟩ := hp.agg (E := [.int .i64, .int .i64]) rfl rfl rfl
  obtain ⟨_, _, rfl, h0, h⟩ := h.cons
  obtain ⟨_, _, rfl, h1, h⟩ := h.cons
  obtain rfl := h.nil
  obtain ⟨_, rfl, -⟩ := h0.intI
  obtain ⟨_, rfl, -⟩ := h1.intI
  exact ⟨_, _, rfl⟩
end Go.Proofs.Ytljeijinfhboaaa
