/- AckLearners: any learner laid into any book stands where the document lays it, and who has a place is whom the document says. No condition. -/
import Derived.Test.YtnfcbkageifmfaaMM4
import Derived.Test.YtnfcbkageifmfaaKO
import Derived.Test.YtnfcbkageifmfaaRows
import Derived.ProofKit
-- ALIAS Try
set_option linter.unusedVariables false
namespace Go.Proofs.Ytnfcbkageifmfaa
open Go Go.Av Go.ChangeShapes Go.WideShapes Go.ChangeAt Go.RowKit
theorem ackLearners_all (ps : List PV) (h : ShTs Try.T Try.f3.params.toList ps) (hz : ∀ p ∈ ps, SzI KB reachBytes p) : ACon Try.prog 3 (ps.map .p) (.p (B true)) := by
  have hp : Try.f3.params.toList = [22, 27, 29] := by kernel_rfl
  rw [hp] at h
  match ps, h, hz with
  | [p0, p1, p2], ⟨h0, h1, h2, _⟩, hz =>
    obtain ⟨l, rfl⟩ := lrs_open h0
    obtain ⟨x, rfl⟩ := lr_open h1
    obtain ⟨a, b, c, d, rfl⟩ := where_open h2
    have hx := szLe ((hz (.agg x.cells) (by simp)).part (p := .sl 2 (zxs x.ms)) (by simp [Lr.cells]))
    rw [zxs_len] at hx
    exact ackLearners_con l x a b c d (lrs_lim (hz _ (by simp))) (.of (hz _ (by simp))) (Nat.le_trans hx (by decide))
set_option maxRecDepth 100000 in
theorem ackLearners_lifted (os : Os) (started : os.Started) (H : Type) (enc : TypeId × Value → H) :
    ReturnsInHanded {} Try.checked os 3 .any (Rows.ackLearnersSpec.pre6 enc Try.prog Try.f3 Rows.ackLearnersRow.domain false) (Rows.ackLearnersSpec.post enc Try.prog Try.f3 false true false false) :=
  row_liftedD (K := KB) (C := Try.checked) (tb := 4) Try.tab (by kernel_rfl) started (by kernel_rfl) Try.func3
    (ChangeSpec.witness6 (enc := enc) (C := Try.checked) false ⟨#[], #[.slice none 0 0, .agg #[.int .i64 0, .int .i64 0, .int .i64 0, .int .i64 0, .slice none 0 0, .int .i64 0, .int .i64 0, .int .i64 0], .agg #[.int .i64 0, .int .i64 0, .int .i64 0, .int .i64 0]], []⟩ 8 (by kernel_rfl) (by kernel_rfl) (by kernel_rfl) (by kernel_rfl))
    rfl rfl Try.underlying4
    (fun ds h => by
      match ds, h with
      | [_, _, _], _ => exact ⟨rfl, rfl, rfl⟩)
    (by kernel_rfl) hpos ackLearners_all ⟨Try.f3, Try.func3, rfl, rfl⟩
theorem ackLearners_holds : Rows.AckLearnersSaid :=
  OpenClaim.holds_of_wide 3 Try.f3 rfl rfl rfl rfl rfl rfl rfl ⟨rfl, rfl, rfl, rfl, rfl⟩ rfl rfl rfl rfl rfl (by kernel_rfl) Try.func3 (by kernel_rfl)
    (of_decide_eq_true (by kernel_rfl)) (by unfold Func.isWrapper; first | (rw [if_pos (by decide +kernel)]; kernel_rfl) | (rw [if_neg (by decide +kernel)]; exact ⟨rfl, rfl⟩))
    (fun os started H enc _ => ackLearners_lifted os started H enc)
#print axioms ackLearners_holds
end Go.Proofs.Ytnfcbkageifmfaa
