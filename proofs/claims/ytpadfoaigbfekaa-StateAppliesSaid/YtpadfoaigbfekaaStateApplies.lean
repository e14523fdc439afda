/- StateApplies: any transactions done on any state come to what the document says, one by one and at once. No condition. -/
import Derived.Test.YtpadfoaigbfekaaM1
import Derived.Test.YtpadfoaigbfekaaRows
import Derived.ProofKit
-- ALIAS Try
set_option linter.unusedVariables false
namespace Go.Proofs.Ytpadfoaigbfekaa
open Go Go.Av Go.ChangeShapes Go.WideShapes Go.ChangeAt Go.RowKit
theorem stateApplies_all (ps : List PV) (h : ShTs Try.T Try.f8.params.toList ps) (hz : ∀ p ∈ ps, SzI KB reachBytes p) : ACon Try.prog 8 (ps.map .p) (.p (B true)) := by
  have hp : Try.f8.params.toList = [51, 52] := by kernel_rfl
  rw [hp] at h
  match ps, h, hz with
  | [p0, p1], ⟨h0, h1, _⟩, hz =>
    obtain ⟨s, rfl⟩ := sv_open h0
    obtain ⟨l, rfl⟩ := txs_open h1
    exact stateApplies_con s l (.of (hz _ (by simp))) (.ofS (hz _ (by simp)))
set_option maxRecDepth 100000 in
theorem stateApplies_lifted (os : Os) (started : os.Started) (H : Type) (enc : TypeId × Value → H) :
    ReturnsInHanded {} Try.checked os 8 .any (Rows.stateAppliesSpec.pre6 enc Try.prog Try.f8 Rows.stateAppliesRow.domain false) (Rows.stateAppliesSpec.post enc Try.prog Try.f8 false true false false) :=
  row_liftedD (K := KB) (C := Try.checked) (tb := 4) Try.tab (by kernel_rfl) started (by kernel_rfl) Try.func8
    (ChangeSpec.witness6 (enc := enc) (C := Try.checked) false ⟨#[], #[.agg #[.slice none 0 0, .slice none 0 0, .int .i64 0, .int .i64 0, .int .i64 0, .int .i64 0, .slice none 0 0, .int .i64 0, .int .i64 0], .slice none 0 0], []⟩ 8 (by kernel_rfl) (by kernel_rfl) (by kernel_rfl) (by kernel_rfl))
    rfl rfl Try.underlying4
    (fun ds h => by
      match ds, h with
      | [_, _], _ => exact ⟨rfl, rfl, rfl⟩)
    (by kernel_rfl) hpos stateApplies_all ⟨Try.f8, Try.func8, rfl, rfl⟩
theorem stateApplies_holds : Rows.StateAppliesSaid :=
  OpenClaim.holds_of_wide 8 Try.f8 rfl rfl rfl rfl rfl rfl rfl ⟨rfl, rfl, rfl, rfl, rfl⟩ rfl rfl rfl rfl rfl (by kernel_rfl) Try.func8 (by kernel_rfl)
    (of_decide_eq_true (by kernel_rfl)) (by unfold Func.isWrapper; first | (rw [if_pos (by decide +kernel)]; kernel_rfl) | (rw [if_neg (by decide +kernel)]; exact ⟨rfl, rfl⟩))
    (fun os started H enc _ => stateApplies_lifted os started H enc)
#print axioms stateApplies_holds
end Go.Proofs.Ytpadfoaigbfekaa
