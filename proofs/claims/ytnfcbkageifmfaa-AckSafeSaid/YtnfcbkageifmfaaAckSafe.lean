/- AckSafe: each transaction that is committed has a quorum of the config that holds ahead of it, one that makes a config has one of its own, too, and nothing is passed over. No condition. -/
import Derived.Test.YtnfcbkageifmfaaKR
import Derived.Test.YtnfcbkageifmfaaKO
import Derived.Test.YtnfcbkageifmfaaRows
import Derived.ProofKit
-- ALIAS Try
set_option linter.unusedVariables false
namespace Go.Proofs.Ytnfcbkageifmfaa
open Go Go.Av Go.ChangeShapes Go.WideShapes Go.ChangeAt Go.RowKit
theorem ackSafe_all (ps : List PV) (h : ShTs Try.T Try.f5.params.toList ps) (hz : ∀ p ∈ ps, SzI KB reachBytes p) : ACon Try.prog 5 (ps.map .p) (.p (B true)) := by
  have hp : Try.f5.params.toList = [40, 22, 3] := by kernel_rfl
  rw [hp] at h
  match ps, h, hz with
  | [p0, p1, p2], ⟨h0, h1, h2, _⟩, hz =>
    obtain ⟨h, rfl⟩ := hy_open h0
    obtain ⟨l, rfl⟩ := lrs_open h1
    obtain ⟨s, rfl, -⟩ := (h2.one (f := .int .i64) rfl rfl rfl).intI
    exact ackSafe_con h l s (.of (hz _ (by simp))) (.of (hz _ (by simp)))
set_option maxRecDepth 100000 in
theorem ackSafe_lifted (os : Os) (started : os.Started) (H : Type) (enc : TypeId × Value → H) :
    ReturnsInHanded {} Try.checked os 5 .any (Rows.ackSafeSpec.pre6 enc Try.prog Try.f5 Rows.ackSafeRow.domain false) (Rows.ackSafeSpec.post enc Try.prog Try.f5 false true false false) :=
  row_liftedD (K := KB) (C := Try.checked) (tb := 4) Try.tab (by kernel_rfl) started (by kernel_rfl) Try.func5
    (ChangeSpec.witness6 (enc := enc) (C := Try.checked) false ⟨#[], #[.agg #[.slice none 0 0, .slice none 0 0, .int .i64 0, .int .i64 0, .int .i64 0, .int .i64 0, .slice none 0 0, .int .i64 0, .int .i64 0, .slice none 0 0], .slice none 0 0, .int .i64 0], []⟩ 8 (by kernel_rfl) (by kernel_rfl) (by kernel_rfl) (by kernel_rfl))
    rfl rfl Try.underlying4
    (fun ds h => by
      match ds, h with
      | [_, _, _], _ => exact ⟨rfl, rfl, rfl⟩)
    (by kernel_rfl) hpos ackSafe_all ⟨Try.f5, Try.func5, rfl, rfl⟩
theorem ackSafe_holds : Rows.AckSafeSaid :=
  OpenClaim.holds_of_wide 5 Try.f5 rfl rfl rfl rfl rfl rfl rfl ⟨rfl, rfl, rfl, rfl, rfl⟩ rfl rfl rfl rfl rfl (by kernel_rfl) Try.func5 (by kernel_rfl)
    (of_decide_eq_true (by kernel_rfl)) (by unfold Func.isWrapper; first | (rw [if_pos (by decide +kernel)]; kernel_rfl) | (rw [if_neg (by decide +kernel)]; exact ⟨rfl, rfl⟩))
    (fun os started H enc _ => ackSafe_lifted os started H enc)
#print axioms ackSafe_holds
end Go.Proofs.Ytnfcbkageifmfaa
