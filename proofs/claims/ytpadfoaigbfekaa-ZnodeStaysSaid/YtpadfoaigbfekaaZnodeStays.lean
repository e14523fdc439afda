/- ZnodeStays: what was put is found as it was put, what is gone is not, and all others are found as they were. No condition. -/
import Derived.Test.YtpadfoaigbfekaaNH
import Derived.Test.YtpadfoaigbfekaaRows
import Derived.ProofKit
-- ALIAS Try
set_option linter.unusedVariables false
namespace Go.Proofs.Ytpadfoaigbfekaa
open Go Go.Av Go.ChangeShapes Go.WideShapes Go.ChangeAt Go.RowKit
theorem znodeStays_all (ps : List PV) (h : ShTs Try.T Try.f5.params.toList ps) : ACon Try.prog 5 (ps.map .p) (.p (B true)) := by
  have hp : Try.f5.params.toList = [22, 24, 9] := by kernel_rfl
  rw [hp] at h
  match ps, h with
  | [p0, p1, p2], ⟨h0, h1, h2, _⟩ =>
    obtain ⟨l, hl, rfl⟩ := zns_open h0
    obtain ⟨z, hz, rfl⟩ := Zn.open h1
    obtain ⟨p, hp, rfl⟩ := strN_open h2
    exact znodeStays_con l z p hl
set_option maxRecDepth 100000 in
theorem znodeStays_lifted (os : Os) (started : os.Started) (H : Type) (enc : TypeId × Value → H) :
    ReturnsInHanded {} Try.checked os 5 .any (Rows.znodeStaysSpec.pre6 enc Try.prog Try.f5 Rows.znodeStaysRow.domain false) (Rows.znodeStaysSpec.post enc Try.prog Try.f5 false true false false) :=
  row_lifted (C := Try.checked) (tb := 4) Try.tab (by kernel_rfl) started (by kernel_rfl) Try.func5
    (ChangeSpec.witness6 (enc := enc) (C := Try.checked) false ⟨#[], #[.slice none 0 0, .agg #[.string ByteArray.empty, .string ByteArray.empty, .int .i64 0, .int .i64 0, .int .i64 0], .string ByteArray.empty], []⟩ 8 (by kernel_rfl) (by kernel_rfl) (by kernel_rfl) (by kernel_rfl))
    rfl rfl Try.underlying4
    (fun ds h => by
      match ds, h with
      | [_, _, _], _ => exact ⟨rfl, rfl, rfl⟩)
    (by kernel_rfl) znodeStays_all ⟨Try.f5, Try.func5, rfl, rfl⟩
theorem znodeStays_holds : Rows.ZnodeStaysSaid :=
  OpenClaim.holds_of_wide 5 Try.f5 rfl rfl rfl rfl rfl rfl rfl ⟨rfl, rfl, rfl, rfl, rfl⟩ rfl rfl rfl rfl rfl (by kernel_rfl) Try.func5 (by kernel_rfl)
    (of_decide_eq_true (by kernel_rfl)) (by unfold Func.isWrapper; first | (rw [if_pos (by decide +kernel)]; kernel_rfl) | (rw [if_neg (by decide +kernel)]; exact ⟨rfl, rfl⟩))
    (fun os started H enc _ => znodeStays_lifted os started H enc)
#print axioms znodeStays_holds
end Go.Proofs.Ytpadfoaigbfekaa
