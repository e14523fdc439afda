/- What comes in: a mask. -/
import Derived.Test.YtfilinonmngefaaDoorCUC
import Derived.Test.YtfilinonmngefaaDoorCO
namespace Go.Proofs.YtfilinonmngefaaDoor
set_option linter.unusedVariables false
open Go Go.Av
theorem u32_open {p : PV} (hp : ShT Tryd.T 35 p) : ∃ m : Nat, m < 4294967296 ∧ p = .v (.int .u32 m) := by
  obtain ⟨n, rfl, h⟩ := (hp.one (f := .int .u32) rfl rfl rfl).intI
  simp only [Lit.wf, Bool.and_eq_true, decide_eq_true_eq] at h
  have h1 : IntKind.u32.min = 0 := by decide
  have h2 : IntKind.u32.max = 4294967295 := by decide
  exact ⟨n.toNat, by omega, by rw [Int.toNat_of_nonneg (by omega)]⟩
end Go.Proofs.YtfilinonmngefaaDoor
