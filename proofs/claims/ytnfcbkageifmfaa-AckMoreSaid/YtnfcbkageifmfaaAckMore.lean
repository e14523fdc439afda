/- AckMore: if some have more, no less is committed, and asked again, with what was committed, it is the same. No condition. -/
import Derived.Test.YtnfcbkageifmfaaKS
import Derived.Test.YtnfcbkageifmfaaKO
import Derived.Test.YtnfcbkageifmfaaRows
import Derived.ProofKit
-- ALIAS Try
set_option linter.unusedVariables false
namespace Go.Proofs.Ytnfcbkageifmfaa
open Go Go.Av Go.ChangeShapes Go.WideShapes Go.ChangeAt Go.RowKit
theorem ackMore_all (ps : List PV) (h : ShTs Try.T Try.f6.params.toList ps) (hz : ∀ p ∈ ps, SzI KB reachBytes p) : ACon Try.prog 6 (ps.map .p) (.p (B true)) := by
  have hp : Try.f6.params.toList = [40, 22, 29] := by kernel_rfl
  rw [hp] at h
  match ps, h, hz with
  | [p0, p1, p2], ⟨h0, h1, h2, _⟩, hz =>
    obtain ⟨h, rfl⟩ := hy_open h0
    obtain ⟨l, rfl⟩ := lrs_open h1
    obtain ⟨a, b, c, d, rfl⟩ := where_open h2
    exact ackMore_con h l a b c d (.of (hz _ (by simp))) (.of (hz _ (by simp)))
set_option maxRecDepth 100000 in
theorem ackMore_lifted (os : Os) (started : os.Started) (H : Type) (enc : TypeId × Value → H) :
    ReturnsInHanded {} Try.checked os 6 .any (Rows.ackMoreSpec.pre6 enc Try.prog Try.f6 Rows.ackMoreRow.domain false) (Rows.ackMoreSpec.post enc Try.prog Try.f6 false true false false) :=
  row_liftedD (K := KB) (C := Try.checked) (tb := 4) Try.tab (by kernel_rfl) started (by kernel_rfl) Try.func6
    (ChangeSpec.witness6 (enc := enc) (C := Try.checked) false ⟨#[], #[.agg #[.slice none 0 0, .slice none 0 0, .int .i64 0, .int .i64 0, .int .i64 0, .int .i64 0, .slice none 0 0, .int .i64 0, .int .i64 0, .slice none 0 0], .slice none 0 0, .agg #[.int .i64 0, .int .i64 0, .int .i64 0, .int .i64 0]], []⟩ 8 (by kernel_rfl) (by kernel_rfl) (by kernel_rfl) (by kernel_rfl))
    rfl rfl Try.underlying4
    (fun ds h => by
      match ds, h with
      | [_, _, _], _ => exact ⟨rfl, rfl, rfl⟩)
    (by kernel_rfl) hpos ackMore_all ⟨Try.f6, Try.func6, rfl, rfl⟩
theorem ackMore_holds : Rows.AckMoreSaid :=
  OpenClaim.holds_of_wide 6 Try.f6 rfl rfl rfl rfl rfl rfl rfl ⟨rfl, rfl, rfl, rfl, rfl⟩ rfl rfl rfl rfl rfl (by kernel_rfl) Try.func6 (by kernel_rfl)
    (of_decide_eq_true (by kernel_rfl)) (by unfold Func.isWrapper; first | (rw [if_pos (by decide +kernel)]; kernel_rfl) | (rw [if_neg (by decide +kernel)]; exact ⟨rfl, rfl⟩))
    (fun os started H enc _ => ackMore_lifted os started H enc)
#print axioms ackMore_holds
end Go.Proofs.Ytnfcbkageifmfaa
