/- ZnodeTree: a tree stays a tree where a node is put below one without an owner or one without children goes, and all but the root have a parent. No condition. -/
import Derived.Test.YtpadfoaigbfekaaNI
import Derived.Test.YtpadfoaigbfekaaRows
import Derived.ProofKit
-- ALIAS Try
set_option linter.unusedVariables false
namespace Go.Proofs.Ytpadfoaigbfekaa
open Go Go.Av Go.ChangeShapes Go.WideShapes Go.ChangeAt Go.RowKit
theorem znodeTree_all (ps : List PV) (h : ShTs Try.T Try.f6.params.toList ps) : ACon Try.prog 6 (ps.map .p) (.p (B true)) := by
  have hp : Try.f6.params.toList = [22, 3, 9] := by kernel_rfl
  rw [hp] at h
  match ps, h with
  | [p0, p1, p2], ⟨h0, h1, h2, _⟩ =>
    obtain ⟨l, hl, rfl⟩ := zns_open h0
    obtain ⟨t, rfl, -⟩ := (h1.one (f := .int .i64) rfl rfl rfl).intI
    obtain ⟨p, hp, rfl⟩ := strN_open h2
    exact znodeTree_con l t p hp hl
set_option maxRecDepth 100000 in
theorem znodeTree_lifted (os : Os) (started : os.Started) (H : Type) (enc : TypeId × Value → H) :
    ReturnsInHanded {} Try.checked os 6 .any (Rows.znodeTreeSpec.pre6 enc Try.prog Try.f6 Rows.znodeTreeRow.domain false) (Rows.znodeTreeSpec.post enc Try.prog Try.f6 false true false false) :=
  row_lifted (C := Try.checked) (tb := 4) Try.tab (by kernel_rfl) started (by kernel_rfl) Try.func6
    (ChangeSpec.witness6 (enc := enc) (C := Try.checked) false ⟨#[], #[.slice none 0 0, .int .i64 0, .string ByteArray.empty], []⟩ 8 (by kernel_rfl) (by kernel_rfl) (by kernel_rfl) (by kernel_rfl))
    rfl rfl Try.underlying4
    (fun ds h => by
      match ds, h with
      | [_, _, _], _ => exact ⟨rfl, rfl, rfl⟩)
    (by kernel_rfl) znodeTree_all ⟨Try.f6, Try.func6, rfl, rfl⟩
theorem znodeTree_holds : Rows.ZnodeTreeSaid :=
  OpenClaim.holds_of_wide 6 Try.f6 rfl rfl rfl rfl rfl rfl rfl ⟨rfl, rfl, rfl, rfl, rfl⟩ rfl rfl rfl rfl rfl (by kernel_rfl) Try.func6 (by kernel_rfl)
    (of_decide_eq_true (by kernel_rfl)) (by unfold Func.isWrapper; first | (rw [if_pos (by decide +kernel)]; kernel_rfl) | (rw [if_neg (by decide +kernel)]; exact ⟨rfl, rfl⟩))
    (fun os started H enc _ => znodeTree_lifted os started H enc)
#print axioms znodeTree_holds
end Go.Proofs.Ytpadfoaigbfekaa
