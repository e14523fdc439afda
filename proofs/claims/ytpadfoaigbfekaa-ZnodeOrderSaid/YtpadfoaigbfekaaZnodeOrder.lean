/- ZnodeOrder: nodes put to the root in any order make one list. No condition. -/
import Derived.Test.YtpadfoaigbfekaaNJ
import Derived.Test.YtpadfoaigbfekaaRows
import Derived.ProofKit
-- ALIAS Try
set_option linter.unusedVariables false
namespace Go.Proofs.Ytpadfoaigbfekaa
open Go Go.Av Go.ChangeShapes Go.WideShapes Go.ChangeAt Go.RowKit
theorem znodeOrder_all (ps : List PV) (h : ShTs Try.T Try.f7.params.toList ps) : ACon Try.prog 7 (ps.map .p) (.p (B true)) := by
  have hp : Try.f7.params.toList = [22, 3] := by kernel_rfl
  rw [hp] at h
  match ps, h with
  | [p0, p1], ⟨h0, h1, _⟩ =>
    obtain ⟨l, hl, rfl⟩ := zns_open h0
    obtain ⟨t, rfl, -⟩ := (h1.one (f := .int .i64) rfl rfl rfl).intI
    exact znodeOrder_con l t
set_option maxRecDepth 100000 in
theorem znodeOrder_lifted (os : Os) (started : os.Started) (H : Type) (enc : TypeId × Value → H) :
    ReturnsInHanded {} Try.checked os 7 .any (Rows.znodeOrderSpec.pre6 enc Try.prog Try.f7 Rows.znodeOrderRow.domain false) (Rows.znodeOrderSpec.post enc Try.prog Try.f7 false true false false) :=
  row_lifted (C := Try.checked) (tb := 4) Try.tab (by kernel_rfl) started (by kernel_rfl) Try.func7
    (ChangeSpec.witness6 (enc := enc) (C := Try.checked) false ⟨#[], #[.slice none 0 0, .int .i64 0], []⟩ 8 (by kernel_rfl) (by kernel_rfl) (by kernel_rfl) (by kernel_rfl))
    rfl rfl Try.underlying4
    (fun ds h => by
      match ds, h with
      | [_, _], _ => exact ⟨rfl, rfl, rfl⟩)
    (by kernel_rfl) znodeOrder_all ⟨Try.f7, Try.func7, rfl, rfl⟩
theorem znodeOrder_holds : Rows.ZnodeOrderSaid :=
  OpenClaim.holds_of_wide 7 Try.f7 rfl rfl rfl rfl rfl rfl rfl ⟨rfl, rfl, rfl, rfl, rfl⟩ rfl rfl rfl rfl rfl (by kernel_rfl) Try.func7 (by kernel_rfl)
    (of_decide_eq_true (by kernel_rfl)) (by unfold Func.isWrapper; first | (rw [if_pos (by decide +kernel)]; kernel_rfl) | (rw [if_neg (by decide +kernel)]; exact ⟨rfl, rfl⟩))
    (fun os started H enc _ => znodeOrder_lifted os started H enc)
#print axioms znodeOrder_holds
end Go.Proofs.Ytpadfoaigbfekaa
