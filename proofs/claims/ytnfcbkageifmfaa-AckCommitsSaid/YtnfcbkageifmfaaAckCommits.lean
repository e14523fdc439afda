/- AckCommits: up to where any history is committed by any book, and which transactions these are, is what the document says. No condition. -/
import Derived.Test.YtnfcbkageifmfaaMM5
import Derived.Test.YtnfcbkageifmfaaKO
import Derived.Test.YtnfcbkageifmfaaRows
import Derived.ProofKit
-- ALIAS Try
set_option linter.unusedVariables false
namespace Go.Proofs.Ytnfcbkageifmfaa
open Go Go.Av Go.ChangeShapes Go.WideShapes Go.ChangeAt Go.RowKit
theorem ackCommits_all (ps : List PV) (h : ShTs Try.T Try.f4.params.toList ps) (hz : ∀ p ∈ ps, SzI KB reachBytes p) : ACon Try.prog 4 (ps.map .p) (.p (B true)) := by
  have hp : Try.f4.params.toList = [40, 22, 29] := by kernel_rfl
  rw [hp] at h
  match ps, h, hz with
  | [p0, p1, p2], ⟨h0, h1, h2, _⟩, hz =>
    obtain ⟨h, rfl⟩ := hy_open h0
    obtain ⟨l, rfl⟩ := lrs_open h1
    obtain ⟨a, b, c, d, rfl⟩ := where_open h2
    exact ackCommits_con h l a b c d (.of (hz _ (by simp))) (.of (hz _ (by simp)))
set_option maxRecDepth 100000 in
theorem ackCommits_lifted (os : Os) (started : os.Started) (H : Type) (enc : TypeId × Value → H) :
    ReturnsInHanded {} Try.checked os 4 .any (Rows.ackCommitsSpec.pre6 enc Try.prog Try.f4 Rows.ackCommitsRow.domain false) (Rows.ackCommitsSpec.post enc Try.prog Try.f4 false true false false) :=
  row_liftedD (K := KB) (C := Try.checked) (tb := 4) Try.tab (by kernel_rfl) started (by kernel_rfl) Try.func4
    (ChangeSpec.witness6 (enc := enc) (C := Try.checked) false ⟨#[], #[.agg #[.slice none 0 0, .slice none 0 0, .int .i64 0, .int .i64 0, .int .i64 0, .int .i64 0, .slice none 0 0, .int .i64 0, .int .i64 0, .slice none 0 0], .slice none 0 0, .agg #[.int .i64 0, .int .i64 0, .int .i64 0, .int .i64 0]], []⟩ 8 (by kernel_rfl) (by kernel_rfl) (by kernel_rfl) (by kernel_rfl))
    rfl rfl Try.underlying4
    (fun ds h => by
      match ds, h with
      | [_, _, _], _ => exact ⟨rfl, rfl, rfl⟩)
    (by kernel_rfl) hpos ackCommits_all ⟨Try.f4, Try.func4, rfl, rfl⟩
theorem ackCommits_holds : Rows.AckCommitsSaid :=
  OpenClaim.holds_of_wide 4 Try.f4 rfl rfl rfl rfl rfl rfl rfl ⟨rfl, rfl, rfl, rfl, rfl⟩ rfl rfl rfl rfl rfl (by kernel_rfl) Try.func4 (by kernel_rfl)
    (of_decide_eq_true (by kernel_rfl)) (by unfold Func.isWrapper; first | (rw [if_pos (by decide +kernel)]; kernel_rfl) | (rw [if_neg (by decide +kernel)]; exact ⟨rfl, rfl⟩))
    (fun os started H enc _ => ackCommits_lifted os started H enc)
#print axioms ackCommits_holds
end Go.Proofs.Ytnfcbkageifmfaa
