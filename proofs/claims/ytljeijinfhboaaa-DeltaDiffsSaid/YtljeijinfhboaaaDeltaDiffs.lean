/- DeltaDiffs: the change between any two configs, and which changes are the same, is what the document says. No condition. -/
import Derived.Test.YtljeijinfhboaaaDO
import Derived.Test.YtljeijinfhboaaaRows
import Derived.ProofKit
-- ALIAS Try
set_option linter.unusedVariables false
namespace Go.Proofs.Ytljeijinfhboaaa
open Go Go.Av Go.ChangeShapes Go.WideShapes Go.ChangeAt Go.RowKit
theorem deltaDiffs_all (ps : List PV) (h : ShTs Try.T Try.f3.params.toList ps) : ACon Try.prog 3 (ps.map .p) (.p (B true)) := by
  have hp : Try.f3.params.toList = [26, 26, 29] := by kernel_rfl
  rw [hp] at h
  match ps, h with
  | [p0, p1, p2], ⟨h0, h1, h2, _⟩ =>
    obtain ⟨a, rfl⟩ := cf_open h0
    obtain ⟨b, rfl⟩ := cf_open h1
    obtain ⟨d, rfl⟩ := dl_open h2
    exact deltaDiffs_con a b d
set_option maxRecDepth 100000 in
theorem deltaDiffs_lifted (os : Os) (started : os.Started) (H : Type) (enc : TypeId × Value → H) :
    ReturnsInHanded {} Try.checked os 3 .any (Rows.deltaDiffsSpec.pre6 enc Try.prog Try.f3 Rows.deltaDiffsRow.domain false) (Rows.deltaDiffsSpec.post enc Try.prog Try.f3 false true false false) :=
  row_lifted (C := Try.checked) (tb := 4) Try.tab (by kernel_rfl) started (by kernel_rfl) Try.func3
    (ChangeSpec.witness6 (enc := enc) (C := Try.checked) false ⟨#[], #[.agg #[.int .i64 0, .int .i64 0, .int .i64 0, .slice none 0 0], .agg #[.int .i64 0, .int .i64 0, .int .i64 0, .slice none 0 0], .agg #[.int .i64 0, .slice none 0 0, .slice none 0 0]], []⟩ 8 (by kernel_rfl) (by kernel_rfl) (by kernel_rfl) (by kernel_rfl))
    rfl rfl Try.underlying4
    (fun ds h => by
      match ds, h with
      | [_, _, _], _ => exact ⟨rfl, rfl, rfl⟩)
    (by kernel_rfl) deltaDiffs_all ⟨Try.f3, Try.func3, rfl, rfl⟩
theorem deltaDiffs_holds : Rows.DeltaDiffsSaid :=
  OpenClaim.holds_of_wide 3 Try.f3 rfl rfl rfl rfl rfl rfl rfl ⟨rfl, rfl, rfl, rfl, rfl⟩ rfl rfl rfl rfl rfl (by kernel_rfl) Try.func3 (by kernel_rfl)
    (of_decide_eq_true (by kernel_rfl)) (by unfold Func.isWrapper; first | (rw [if_pos (by decide +kernel)]; kernel_rfl) | (rw [if_neg (by decide +kernel)]; exact ⟨rfl, rfl⟩))
    (fun os started H enc _ => deltaDiffs_lifted os started H enc)
#print axioms deltaDiffs_holds
end Go.Proofs.Ytljeijinfhboaaa
