/- What comes in: lists of bytes. -/
import Derived.Test.YtfilinonmngefaaDoorCT
import Derived.Test.YtfilinonmngefaaDoorCO
namespace Go.Proofs.YtfilinonmngefaaDoor
set_option linter.unusedVariables false
open Go Go.Av
theorem by8_sh {p : PV} (hp : Sh (.sl [.int .u8]) p) : ∃ l, p = .sl 1 (by8 l) :=
  hp.slI (f := dcell) fun ps h => by
    obtain ⟨_, _, rfl, h0, h⟩ := h.cons
    obtain rfl := h.nil
    obtain ⟨n, rfl, hn⟩ := h0.intI
    simp only [Lit.wf, Bool.and_eq_true, decide_eq_true_eq] at hn
    have h1 : IntKind.u8.min = 0 := by decide
    have h2 : IntKind.u8.max = 255 := by decide
    refine ⟨UInt8.ofNat n.toNat, ?_⟩
    unfold dcell
    rw [UInt8.toNat_ofNat_of_lt' (by simp; omega), Int.toNat_of_nonneg (by omega)]
theorem lds_open {p : PV} (hp : ShT Tryd.T 39 p) : ∃ l, p = .sl 1 (lds l) :=
  (hp.one (f := .sl [.sl [.int .u8]]) rfl rfl rfl).slI (f := fun x : List UInt8 => [.sl 1 (by8 x)]) fun ps h => by
    obtain ⟨_, _, rfl, h0, h⟩ := h.cons
    obtain rfl := h.nil
    obtain ⟨x, rfl⟩ := by8_sh h0
    exact ⟨x, rfl⟩
end Go.Proofs.YtfilinonmngefaaDoor
