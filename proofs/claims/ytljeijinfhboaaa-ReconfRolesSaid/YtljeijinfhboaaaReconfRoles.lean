/- ReconfRoles: who is what by any configs is what the document says. No condition. -/
import Derived.Test.YtljeijinfhboaaaRC
import Derived.Test.YtljeijinfhboaaaQO
import Derived.Test.YtljeijinfhboaaaAvRow
import Derived.Test.YtljeijinfhboaaaRows
import Derived.ProofKit
-- ALIAS Try
set_option linter.unusedVariables false
namespace Go.Proofs.Ytljeijinfhboaaa
open Go Go.Av Go.ChangeShapes Go.WideShapes Go.ChangeAt Go.RowKit
theorem reconfRoles_all (ps : List PV) (h : ShTs Try.T Try.f5.params.toList ps) : ACon Try.prog 5 (ps.map .p) (.p (B true)) := by
  have hp : Try.f5.params.toList = [45, 3] := by kernel_rfl
  rw [hp] at h
  match ps, h with
  | [p0, p1], ⟨h0, h1, _⟩ =>
    obtain ⟨l, rfl⟩ := cfs_open h0
    obtain ⟨n, rfl⟩ := int_open h1
    exact reconfRoles_con l n
set_option maxRecDepth 100000 in
theorem reconfRoles_lifted (os : Os) (started : os.Started) (H : Type) (enc : TypeId × Value → H) :
    ReturnsInHanded {} Try.checked os 5 .any (Rows.reconfRolesSpec.pre6 enc Try.prog Try.f5 Rows.reconfRolesRow.domain false) (Rows.reconfRolesSpec.post enc Try.prog Try.f5 false true false false) :=
  row_lifted (C := Try.checked) (tb := 4) Try.tab (by kernel_rfl) started (by kernel_rfl) Try.func5
    (ChangeSpec.witness6 (enc := enc) (C := Try.checked) false ⟨#[], #[.slice none 0 0, .int .i64 0], []⟩ 8 (by kernel_rfl) (by kernel_rfl) (by kernel_rfl) (by kernel_rfl))
    rfl rfl Try.underlying4
    (fun ds h => by
      match ds, h with
      | [_, _], _ => exact ⟨rfl, rfl, rfl⟩)
    (by kernel_rfl) reconfRoles_all ⟨Try.f5, Try.func5, rfl, rfl⟩
theorem reconfRoles_holds : Rows.ReconfRolesSaid :=
  OpenClaim.holds_of_wide 5 Try.f5 rfl rfl rfl rfl rfl rfl rfl ⟨rfl, rfl, rfl, rfl, rfl⟩ rfl rfl rfl rfl rfl (by kernel_rfl) Try.func5 (by kernel_rfl)
    (of_decide_eq_true (by kernel_rfl)) (by unfold Func.isWrapper; first | (rw [if_pos (by decide +kernel)]; kernel_rfl) | (rw [if_neg (by decide +kernel)]; exact ⟨rfl, rfl⟩))
    (fun os started H enc _ => reconfRoles_lifted os started H enc)
#print axioms reconfRoles_holds
end Go.Proofs.Ytljeijinfhboaaa
