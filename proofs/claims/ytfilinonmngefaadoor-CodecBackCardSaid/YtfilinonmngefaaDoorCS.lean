/- What comes in: lists of numbers, of texts. -/
import Derived.Test.YtfilinonmngefaaDoorCR
import Derived.Test.YtfilinonmngefaaDoorCO
namespace Go.Proofs.YtfilinonmngefaaDoor
set_option linter.unusedVariables false
open Go Go.Av
theorem oks_open {p : PV} (hp : ShT Tryd.T 44 p) : ∃ l, (∀ n ∈ l, okI n) ∧ p = .sl 1 (ints l) := by
  obtain ⟨l, rfl⟩ := (hp.one (f := .sl [.int .i64]) rfl rfl rfl).slI (α := {n : Int // okI n}) (f := fun n => [I n.1]) fun ps h => by
    obtain ⟨_, _, rfl, h0, h⟩ := h.cons
    obtain rfl := h.nil
    obtain ⟨n, rfl, hw⟩ := h0.intI
    simp only [Lit.wf, Bool.and_eq_true, decide_eq_true_eq] at hw
    have h1 : IntKind.i64.min = -9223372036854775808 := by decide
    have h2 : IntKind.i64.max = 9223372036854775807 := by decide
    exact ⟨⟨n, by unfold okI; omega⟩, rfl⟩
  refine ⟨l.map Subtype.val, fun n hn => ?_, ?_⟩
  · obtain ⟨m, -, rfl⟩ := List.mem_map.1 hn
    exact m.2
  · simp [ints, List.map_map]
theorem strs_open {p : PV} (hp : ShT Tryd.T 45 p) : ∃ l, p = .sl 1 (txs l) :=
  (hp.one (f := .sl [.str]) rfl rfl rfl).slI (f := fun x : List UInt8 => [SB x]) fun ps h => by
    obtain ⟨_, _, rfl, h0, h⟩ := h.cons
    obtain rfl := h.nil
    obtain ⟨s, rfl, -⟩ := h0.strI
    exact ⟨s.data.toList, by show [PV.v (.string s)] = [.v (.string ⟨s.data.toList.toArray⟩)]; rw [Array.toArray_toList]⟩
end Go.Proofs.YtfilinonmngefaaDoor
