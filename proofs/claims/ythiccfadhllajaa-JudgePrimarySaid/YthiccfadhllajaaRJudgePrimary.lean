/- JudgePrimary: of any facts the program says what the document says of their primaries. No condition. -/
import Derived.Test.YthiccfadhllajaaP32JudgePrimary
import Derived.Test.YthiccfadhllajaaRows
import Derived.ProofKit
set_option linter.unusedVariables false
namespace Go.Proofs.Ythiccfadhllajaa
open Go Go.Av Go.ChangeShapes Go.WideShapes Go.ChangeAt Go.RowKit
theorem judgePrimary_all (ps : List PV) (h : ShTs Try.T Try.f3.params.toList ps) (hz : ∀ p ∈ ps, SzI KB reachBytes p) : ACon Try.prog 3 (ps.map .p) (.p (B true)) := by
 have hp : Try.f3.params.toList = [22] := by kernel_rfl
 rw [hp] at h
 match ps, h, hz with
 | [p0], ⟨h0, _⟩, hz =>
  obtain ⟨l, rfl, ho, hl⟩ := facts_open h0 (hz _ (by simp))
  exact judgePrimary_con l ho hl
set_option maxRecDepth 100000 in
theorem judgePrimary_lifted (os : Os) (started : os.Started) (H : Type) (enc : TypeId × Value -> H) :
 ReturnsInHanded {} Try.checked os 3 .any (Rows.judgePrimarySpec.pre6 enc Try.prog Try.f3 Rows.judgePrimaryRow.domain false) (Rows.judgePrimarySpec.post enc Try.prog Try.f3 false true false false) :=
 row_liftedD (K := KB) (C := Try.checked) (tb := 4) Try.tab (by kernel_rfl) started (by kernel_rfl) Try.func3
  (ChangeSpec.witness6 (enc := enc) (C := Try.checked) false ⟨#[], #[.slice none 0 0], []⟩ 8 (by kernel_rfl) (by kernel_rfl) (by kernel_rfl) (by kernel_rfl))
  rfl rfl Try.underlying4
  (fun ds h => by
   match ds, h with
   | [_], _ => exact ⟨rfl, rfl, rfl⟩)
  (by kernel_rfl) hpos judgePrimary_all ⟨Try.f3, Try.func3, rfl, rfl⟩
theorem judgePrimary_holds : Rows.JudgePrimarySaid :=
 OpenClaim.holds_of_wide 3 Try.f3 rfl rfl rfl rfl rfl rfl rfl ⟨rfl, rfl, rfl, rfl, rfl⟩ rfl rfl rfl rfl rfl (by kernel_rfl) Try.func3 (by kernel_rfl)
  (of_decide_eq_true (by kernel_rfl)) (by unfold Func.isWrapper; first | (rw [if_pos (by decide +kernel)]; kernel_rfl) | (rw [if_neg (by decide +kernel)]; exact ⟨rfl, rfl⟩))
  (fun os started H enc _ => judgePrimary_lifted os started H enc)
#print axioms judgePrimary_holds
end Go.Proofs.Ythiccfadhllajaa

