/- ZnodeAsks: what is asked of any list of nodes is what the document says. -/
import Derived.Test.YtpadfoaigbfekaaNF
import Derived.Test.YtpadfoaigbfekaaRows
import Derived.ProofKit
-- ALIAS Try
set_option linter.unusedVariables false
namespace Go.Proofs.Ytpadfoaigbfekaa
open Go Go.Av Go.ChangeShapes Go.WideShapes Go.ChangeAt Go.RowKit
theorem znodeAsks_all (ps : List PV) (h : ShTs Try.T Try.f4.params.toList ps) : ACon Try.prog 4 (ps.map .p) (.p (B true)) := by
  have hp : Try.f4.params.toList = [22, 22, 9] := by kernel_rfl
  rw [hp] at h
  match ps, h with
  | [p0, p1, p2], ⟨h0, h1, h2, _⟩ =>
    obtain ⟨l, hl, rfl⟩ := zns_open h0
    obtain ⟨m, hm, rfl⟩ := zns_open h1
    obtain ⟨p, hp, rfl⟩ := strN_open h2
    exact znodeAsks_con l m p hl
set_option maxRecDepth 100000 in
theorem znodeAsks_lifted (os : Os) (started : os.Started) (H : Type) (enc : TypeId × Value → H) :
    ReturnsInHanded {} Try.checked os 4 .any (Rows.znodeAsksSpec.pre6 enc Try.prog Try.f4 Rows.znodeAsksRow.domain false) (Rows.znodeAsksSpec.post enc Try.prog Try.f4 false true false false) :=
  row_lifted (C := Try.checked) (tb := 4) Try.tab (by kernel_rfl) started (by kernel_rfl) Try.func4
    (ChangeSpec.witness6 (enc := enc) (C := Try.checked) false ⟨#[], #[.slice none 0 0, .slice none 0 0, .string ByteArray.empty], []⟩ 8 (by kernel_rfl) (by kernel_rfl) (by kernel_rfl) (by kernel_rfl))
    rfl rfl Try.underlying4
    (fun ds h => by
      match ds, h with
      | [_, _, _], _ => exact ⟨rfl, rfl, rfl⟩)
    (by kernel_rfl) znodeAsks_all ⟨Try.f4, Try.func4, rfl, rfl⟩
theorem znodeAsks_holds : Rows.ZnodeAsksSaid :=
  OpenClaim.holds_of_wide 4 Try.f4 rfl rfl rfl rfl rfl rfl rfl ⟨rfl, rfl, rfl, rfl, rfl⟩ rfl rfl rfl rfl rfl (by kernel_rfl) Try.func4 (by kernel_rfl)
    (of_decide_eq_true (by kernel_rfl)) (by unfold Func.isWrapper; first | (rw [if_pos (by decide +kernel)]; kernel_rfl) | (rw [if_neg (by decide +kernel)]; exact ⟨rfl, rfl⟩))
    (fun os started H enc _ => znodeAsks_lifted os started H enc)
#print axioms znodeAsks_holds
end Go.Proofs.Ytpadfoaigbfekaa
