/- ZnodePuts: any node put to any list, or taken from it, comes to what the document says. -/
import Derived.Test.YtpadfoaigbfekaaNF
import Derived.Test.YtpadfoaigbfekaaRows
import Derived.ProofKit
-- ALIAS Try
set_option linter.unusedVariables false
namespace Go.Proofs.Ytpadfoaigbfekaa
open Go Go.Av Go.ChangeShapes Go.WideShapes Go.ChangeAt Go.RowKit
theorem znodePuts_all (ps : List PV) (h : ShTs Try.T Try.f3.params.toList ps) : ACon Try.prog 3 (ps.map .p) (.p (B true)) := by
  have hp : Try.f3.params.toList = [22, 24, 9] := by kernel_rfl
  rw [hp] at h
  match ps, h with
  | [p0, p1, p2], ⟨h0, h1, h2, _⟩ =>
    obtain ⟨l, hl, rfl⟩ := zns_open h0
    obtain ⟨z, hz, rfl⟩ := Zn.open h1
    obtain ⟨p, hp, rfl⟩ := strN_open h2
    exact znodePuts_con l z p
set_option maxRecDepth 100000 in
theorem znodePuts_lifted (os : Os) (started : os.Started) (H : Type) (enc : TypeId × Value → H) :
    ReturnsInHanded {} Try.checked os 3 .any (Rows.znodePutsSpec.pre6 enc Try.prog Try.f3 Rows.znodePutsRow.domain false) (Rows.znodePutsSpec.post enc Try.prog Try.f3 false true false false) :=
  row_lifted (C := Try.checked) (tb := 4) Try.tab (by kernel_rfl) started (by kernel_rfl) Try.func3
    (ChangeSpec.witness6 (enc := enc) (C := Try.checked) false ⟨#[], #[.slice none 0 0, .agg #[.string ByteArray.empty, .string ByteArray.empty, .int .i64 0, .int .i64 0, .int .i64 0], .string ByteArray.empty], []⟩ 8 (by kernel_rfl) (by kernel_rfl) (by kernel_rfl) (by kernel_rfl))
    rfl rfl Try.underlying4
    (fun ds h => by
      match ds, h with
      | [_, _, _], _ => exact ⟨rfl, rfl, rfl⟩)
    (by kernel_rfl) znodePuts_all ⟨Try.f3, Try.func3, rfl, rfl⟩
theorem znodePuts_holds : Rows.ZnodePutsSaid :=
  OpenClaim.holds_of_wide 3 Try.f3 rfl rfl rfl rfl rfl rfl rfl ⟨rfl, rfl, rfl, rfl, rfl⟩ rfl rfl rfl rfl rfl (by kernel_rfl) Try.func3 (by kernel_rfl)
    (of_decide_eq_true (by kernel_rfl)) (by unfold Func.isWrapper; first | (rw [if_pos (by decide +kernel)]; kernel_rfl) | (rw [if_neg (by decide +kernel)]; exact ⟨rfl, rfl⟩))
    (fun os started H enc _ => znodePuts_lifted os started H enc)
#print axioms znodePuts_holds
end Go.Proofs.Ytpadfoaigbfekaa
