/- ClientEven: if servers are only added, and there is one client on each of the old ones, then over all draws each server gets as many. No condition. -/
import Derived.Test.YtljeijinfhboaaaMO
import Derived.Test.YtljeijinfhboaaaRows
import Derived.ProofKit
-- ALIAS Try
set_option linter.unusedVariables false
namespace Go.Proofs.Ytljeijinfhboaaa
open Go Go.Av Go.ChangeShapes Go.WideShapes Go.ChangeAt Go.RowKit
theorem clientEven_all (ps : List PV) (h : ShTs Try.T Try.f7.params.toList ps) : ACon Try.prog 7 (ps.map .p) (.p (B true)) := by
  have hp : Try.f7.params.toList = [5, 5] := by kernel_rfl
  rw [hp] at h
  match ps, h with
  | [p0, p1], ⟨h0, h1, _⟩ =>
    obtain ⟨a, rfl, ha⟩ := u8_open h0
    obtain ⟨b, rfl, hb⟩ := u8_open h1
    exact clientEven_con a b ha hb
set_option maxRecDepth 100000 in
theorem clientEven_lifted (os : Os) (started : os.Started) (H : Type) (enc : TypeId × Value → H) :
    ReturnsInHanded {} Try.checked os 7 .any (Rows.clientEvenSpec.pre6 enc Try.prog Try.f7 Rows.clientEvenRow.domain false) (Rows.clientEvenSpec.post enc Try.prog Try.f7 false true false false) :=
  row_lifted (C := Try.checked) (tb := 4) Try.tab (by kernel_rfl) started (by kernel_rfl) Try.func7
    (ChangeSpec.witness6 (enc := enc) (C := Try.checked) false ⟨#[], #[.int .u8 0, .int .u8 0], []⟩ 8 (by kernel_rfl) (by kernel_rfl) (by kernel_rfl) (by kernel_rfl))
    rfl rfl Try.underlying4
    (fun ds h => by
      match ds, h with
      | [_, _], _ => exact ⟨rfl, rfl, rfl⟩)
    (by kernel_rfl) clientEven_all ⟨Try.f7, Try.func7, rfl, rfl⟩
theorem clientEven_holds : Rows.ClientEvenSaid :=
  OpenClaim.holds_of_wide 7 Try.f7 rfl rfl rfl rfl rfl rfl rfl ⟨rfl, rfl, rfl, rfl, rfl⟩ rfl rfl rfl rfl rfl (by kernel_rfl) Try.func7 (by kernel_rfl)
    (of_decide_eq_true (by kernel_rfl)) (by unfold Func.isWrapper; first | (rw [if_pos (by decide +kernel)]; kernel_rfl) | (rw [if_neg (by decide +kernel)]; exact ⟨rfl, rfl⟩))
    (fun os started H enc _ => clientEven_lifted os started H enc)
#print axioms clientEven_holds
end Go.Proofs.Ytljeijinfhboaaa
