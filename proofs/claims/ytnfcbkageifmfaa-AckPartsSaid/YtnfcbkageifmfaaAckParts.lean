/- AckParts: of two leaders with histories that part, and one config, not both have committed beyond where they part, if nobody has acknowledged both beyond it. No condition. -/
import Derived.Test.YtnfcbkageifmfaaKT
import Derived.Test.YtnfcbkageifmfaaKO
import Derived.Test.YtnfcbkageifmfaaRows
import Derived.ProofKit
-- ALIAS Try
set_option linter.unusedVariables false
namespace Go.Proofs.Ytnfcbkageifmfaa
open Go Go.Av Go.ChangeShapes Go.WideShapes Go.ChangeAt Go.RowKit
theorem ackParts_all (ps : List PV) (h : ShTs Try.T Try.f7.params.toList ps) (hz : ∀ p ∈ ps, SzI KB reachBytes p) : ACon Try.prog 7 (ps.map .p) (.p (B true)) := by
  have hp : Try.f7.params.toList = [40, 61, 62] := by kernel_rfl
  rw [hp] at h
  match ps, h, hz with
  | [p0, p1, p2], ⟨h0, h1, h2, _⟩, hz =>
    obtain ⟨h, rfl⟩ := hy_open h0
    obtain ⟨l0, l1, rfl⟩ := lrs2_open h1
    obtain ⟨a, b, rfl⟩ := two_open h2
    have hz1 := hz (.agg [.sl 8 (lrs l0), .sl 8 (lrs l1)]) (by simp)
    exact ackParts_con h l0 l1 a b (.of (hz _ (by simp))) (.of (hz1.part (by simp))) (.of (hz1.part (by simp)))
set_option maxRecDepth 100000 in
theorem ackParts_lifted (os : Os) (started : os.Started) (H : Type) (enc : TypeId × Value → H) :
    ReturnsInHanded {} Try.checked os 7 .any (Rows.ackPartsSpec.pre6 enc Try.prog Try.f7 Rows.ackPartsRow.domain false) (Rows.ackPartsSpec.post enc Try.prog Try.f7 false true false false) :=
  row_liftedD (K := KB) (C := Try.checked) (tb := 4) Try.tab (by kernel_rfl) started (by kernel_rfl) Try.func7
    (ChangeSpec.witness6 (enc := enc) (C := Try.checked) false ⟨#[], #[.agg #[.slice none 0 0, .slice none 0 0, .int .i64 0, .int .i64 0, .int .i64 0, .int .i64 0, .slice none 0 0, .int .i64 0, .int .i64 0, .slice none 0 0], .agg #[.slice none 0 0, .slice none 0 0], .agg #[.int .i64 0, .int .i64 0]], []⟩ 8 (by kernel_rfl) (by kernel_rfl) (by kernel_rfl) (by kernel_rfl))
    rfl rfl Try.underlying4
    (fun ds h => by
      match ds, h with
      | [_, _, _], _ => exact ⟨rfl, rfl, rfl⟩)
    (by kernel_rfl) hpos ackParts_all ⟨Try.f7, Try.func7, rfl, rfl⟩
theorem ackParts_holds : Rows.AckPartsSaid :=
  OpenClaim.holds_of_wide 7 Try.f7 rfl rfl rfl rfl rfl rfl rfl ⟨rfl, rfl, rfl, rfl, rfl⟩ rfl rfl rfl rfl rfl (by kernel_rfl) Try.func7 (by kernel_rfl)
    (of_decide_eq_true (by kernel_rfl)) (by unfold Func.isWrapper; first | (rw [if_pos (by decide +kernel)]; kernel_rfl) | (rw [if_neg (by decide +kernel)]; exact ⟨rfl, rfl⟩))
    (fun os started H enc _ => ackParts_lifted os started H enc)
#print axioms ackParts_holds
end Go.Proofs.Ytnfcbkageifmfaa
