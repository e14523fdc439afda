/- DeltaBack: the change between two configs that may be, done to the first, makes the second; done to the second, back the first. No condition. -/
import Derived.Test.YtiemabhnhgablaaDO
import Derived.Test.YtiemabhnhgablaaDH
import Derived.Test.YtiemabhnhgablaaRows
import Derived.ProofKit
-- ALIAS Try
set_option linter.unusedVariables false
namespace Go.Proofs.Ytiemabhnhgablaa
open Go Go.Av Go.ChangeShapes Go.WideShapes Go.ChangeAt Go.RowKit
theorem deltaBack_all (ps : List PV) (h : ShTs Try.T Try.f3.params.toList ps) : ACon Try.prog 3 (ps.map .p) (.p (B true)) := by
  have hp : Try.f3.params.toList = [26, 26] := by kernel_rfl
  rw [hp] at h
  match ps, h with
  | [p0, p1], ⟨h0, h1, _⟩ =>
    obtain ⟨a, rfl⟩ := cf_open h0
    obtain ⟨b, rfl⟩ := cf_open h1
    exact deltaBack_con a b
set_option maxRecDepth 100000 in
theorem deltaBack_lifted (os : Os) (started : os.Started) (H : Type) (enc : TypeId × Value → H) :
    ReturnsInHanded {} Try.checked os 3 .any (Rows.deltaBackSpec.pre6 enc Try.prog Try.f3 Rows.deltaBackRow.domain false) (Rows.deltaBackSpec.post enc Try.prog Try.f3 false true false false) :=
  row_lifted (C := Try.checked) (tb := 4) Try.tab (by kernel_rfl) started (by kernel_rfl) Try.func3
    (ChangeSpec.witness6 (enc := enc) (C := Try.checked) false ⟨#[], #[.agg #[.int .i64 0, .int .i64 0, .int .i64 0, .slice none 0 0], .agg #[.int .i64 0, .int .i64 0, .int .i64 0, .slice none 0 0]], []⟩ 8 (by kernel_rfl) (by kernel_rfl) (by kernel_rfl) (by kernel_rfl))
    rfl rfl Try.underlying4
    (fun ds h => by
      match ds, h with
      | [_, _], _ => exact ⟨rfl, rfl, rfl⟩)
    (by kernel_rfl) deltaBack_all ⟨Try.f3, Try.func3, rfl, rfl⟩
theorem deltaBack_holds : Rows.DeltaBackSaid :=
  OpenClaim.holds_of_wide 3 Try.f3 rfl rfl rfl rfl rfl rfl rfl ⟨rfl, rfl, rfl, rfl, rfl⟩ rfl rfl rfl rfl rfl (by kernel_rfl) Try.func3 (by kernel_rfl)
    (of_decide_eq_true (by kernel_rfl)) (by unfold Func.isWrapper; first | (rw [if_pos (by decide +kernel)]; kernel_rfl) | (rw [if_neg (by decide +kernel)]; exact ⟨rfl, rfl⟩))
    (fun os started H enc _ => deltaBack_lifted os started H enc)
#print axioms deltaBack_holds
end Go.Proofs.Ytiemabhnhgablaa
