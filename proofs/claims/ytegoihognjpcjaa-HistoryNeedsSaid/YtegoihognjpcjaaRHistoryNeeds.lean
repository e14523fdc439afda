/- HistoryNeeds: of any history whose places rise, the quorums needed are of the last config, and of the one ahead of it as long as it isn't known that the last one is committed; of no other. No condition. -/
import Derived.Test.YtegoihognjpcjaaP30HistoryNeeds
import Derived.Test.YtegoihognjpcjaaRows
import Derived.ProofKit
-- ALIAS Try
set_option linter.unusedVariables false
namespace Go.Proofs.Ytegoihognjpcjaa
open Go Go.Av Go.ChangeShapes Go.WideShapes Go.ChangeAt Go.RowKit
theorem historyNeeds_all (ps : List PV) (h : ShTs Try.T Try.f5.params.toList ps) (hz : ∀ p ∈ ps, SzI KB reachBytes p) : ACon Try.prog 5 (ps.map .p) (.p (B true)) := by
  have hp : Try.f5.params.toList = [33, 25] := by kernel_rfl
  rw [hp] at h
  match ps, h, hz with
  | [p0, p1], ⟨h0, h1, _⟩, hz =>
    obtain ⟨h, rfl⟩ := hy_open h0
    obtain ⟨z, rfl⟩ := zx_open h1
    exact historyNeeds_con h z (.of (hz _ (by simp)))
set_option maxRecDepth 100000 in
theorem historyNeeds_lifted (os : Os) (started : os.Started) (H : Type) (enc : TypeId × Value → H) :
    ReturnsInHanded {} Try.checked os 5 .any (Rows.historyNeedsSpec.pre6 enc Try.prog Try.f5 Rows.historyNeedsRow.domain false) (Rows.historyNeedsSpec.post enc Try.prog Try.f5 false true false false) :=
  row_liftedD (K := KB) (C := Try.checked) (tb := 4) Try.tab (by kernel_rfl) started (by kernel_rfl) Try.func5
    (ChangeSpec.witness6 (enc := enc) (C := Try.checked) false ⟨#[], #[.agg #[.slice none 0 0, .slice none 0 0, .int .i64 0, .int .i64 0, .int .i64 0, .int .i64 0, .slice none 0 0, .int .i64 0, .int .i64 0, .slice none 0 0], .agg #[.int .i64 0, .int .i64 0]], []⟩ 8 (by kernel_rfl) (by kernel_rfl) (by kernel_rfl) (by kernel_rfl))
    rfl rfl Try.underlying4
    (fun ds h => by
      match ds, h with
      | [_, _], _ => exact ⟨rfl, rfl, rfl⟩)
    (by kernel_rfl) hpos historyNeeds_all ⟨Try.f5, Try.func5, rfl, rfl⟩
theorem historyNeeds_holds : Rows.HistoryNeedsSaid :=
  OpenClaim.holds_of_wide 5 Try.f5 rfl rfl rfl rfl rfl rfl rfl ⟨rfl, rfl, rfl, rfl, rfl⟩ rfl rfl rfl rfl rfl (by kernel_rfl) Try.func5 (by kernel_rfl)
    (of_decide_eq_true (by kernel_rfl)) (by unfold Func.isWrapper; first | (rw [if_pos (by decide +kernel)]; kernel_rfl) | (rw [if_neg (by decide +kernel)]; exact ⟨rfl, rfl⟩))
    (fun os started H enc _ => historyNeeds_lifted os started H enc)
#print axioms historyNeeds_holds
end Go.Proofs.Ytegoihognjpcjaa

