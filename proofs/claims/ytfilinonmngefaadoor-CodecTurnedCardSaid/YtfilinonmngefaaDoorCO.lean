/- What comes in: bytes, texts, numbers. -/
import Derived.Test.YtfilinonmngefaaDoorCK
import Derived.Test.YtfilinonmngefaaDoorAvRow
namespace Go.Proofs.YtfilinonmngefaaDoor
set_option linter.unusedVariables false
open Go Go.Av
theorem okn_open {p : PV} (hp : ShT Tryd.T 3 p) : ∃ n, okI n ∧ p = I n := by
  obtain ⟨n, rfl, h⟩ := (hp.one (f := .int .i64) rfl rfl rfl).intI
  refine ⟨n, ?_, rfl⟩
  simp only [Lit.wf, Bool.and_eq_true, decide_eq_true_eq] at h
  have h1 : IntKind.i64.min = -9223372036854775808 := by decide
  have h2 : IntKind.i64.max = 9223372036854775807 := by decide
  unfold okI
  omega
theorem str_open {p : PV} (hp : ShT Tryd.T 9 p) : ∃ l : List UInt8, l.length ≤ 9223372036854775807 ∧ p = SB l := by
  obtain ⟨s, rfl, hs⟩ := (hp.one (f := .str) rfl rfl rfl).strI
  refine ⟨s.data.toList, ?_, ?_⟩
  · have h1 : s.data.toList.length = s.size := Array.length_toList
    have h2 : maxLen = 9223372036854775807 := rfl
    omega
  · show _ = PV.v (.string ⟨s.data.toList.toArray⟩); rw [Array.toArray_toList]
theorem by8_open {p : PV} (hp : ShT Tryd.T 22 p) : ∃ l, p = .sl 1 (by8 l) :=
  (hp.one (f := .sl [.int .u8]) rfl rfl rfl).slI (f := dcell) fun ps h => by
    obtain ⟨_, _, rfl, h0, h⟩ := h.cons
    obtain rfl := h.nil
    obtain ⟨n, rfl, hn⟩ := h0.intI
    simp only [Lit.wf, Bool.and_eq_true, decide_eq_true_eq] at hn
    have h1 : IntKind.u8.min = 0 := by decide
    have h2 : IntKind.u8.max = 255 := by decide
    refine ⟨UInt8.ofNat n.toNat, ?_⟩
    unfold dcell
    rw [UInt8.toNat_ofNat_of_lt' (by simp; omega), Int.toNat_of_nonneg (by omega)]
end Go.Proofs.YtfilinonmngefaaDoor
