/- LearnGrows: once it has its leader's history, a learner's history only grows, what is committed never falls, and it is of the epoch that it promised. No condition. -/
import Derived.Test.YteicecbjahhjmaaP38Learn
import Derived.Test.YteicecbjahhjmaaP42Learn
import Derived.Test.YteicecbjahhjmaaRows
import Derived.ProofKit
-- ALIAS Try
set_option linter.unusedVariables false
namespace Go.Proofs.Yteicecbjahhjmaa
open Go Go.Av Go.ChangeShapes Go.WideShapes Go.ChangeAt Go.RowKit
theorem learnGrows_all (ps : List PV) (h : ShTs Try.T Try.f5.params.toList ps) (hz : ∀ p ∈ ps, SzI KB reachBytes p) : ACon Try.prog 5 (ps.map .p) (.p (B true)) := by
  have hp : Try.f5.params.toList = [35, 36] := by kernel_rfl
  rw [hp] at h
  match ps, h, hz with
  | [p0, p1], ⟨h0, h1, _⟩, hz =>
    obtain ⟨w, rfl⟩ := who_open h0
    obtain ⟨l, rfl⟩ := evs_open h1
    have z0 := hz (.agg w.cells) (by simp)
    have z1 := hz (.sl 48 (evsC l)) (by simp)
    exact learnGrows_con w l (.ofW z0) (SmallE.ofL z1)
set_option maxRecDepth 100000 in
theorem learnGrows_lifted (os : Os) (started : os.Started) (H : Type) (enc : TypeId × Value → H) :
    ReturnsInHanded {} Try.checked os 5 .any (Rows.learnGrowsSpec.pre6 enc Try.prog Try.f5 Rows.learnGrowsRow.domain false) (Rows.learnGrowsSpec.post enc Try.prog Try.f5 false true false false) :=
  row_liftedD (K := KB) (C := Try.checked) (tb := 4) Try.tab (by kernel_rfl) started (by kernel_rfl) Try.func5
    (ChangeSpec.witness6 (enc := enc) (C := Try.checked) false ⟨#[], #[.agg #[.int .i64 0, .int .i64 0, .int .i64 0, .int .i64 0, .slice none 0 0, .slice none 0 0, .int .i64 0, .int .i64 0, .int .i64 0, .int .i64 0, .slice none 0 0, .int .i64 0, .int .i64 0, .slice none 0 0], .slice none 0 0], []⟩ 8 (by kernel_rfl) (by kernel_rfl) (by kernel_rfl) (by kernel_rfl))
    rfl rfl Try.underlying4
    (fun ds h => by
      match ds, h with
      | [_, _], _ => exact ⟨rfl, rfl, rfl⟩)
    (by kernel_rfl) hpos learnGrows_all ⟨Try.f5, Try.func5, rfl, rfl⟩
theorem learnGrows_holds : Rows.LearnGrowsSaid :=
  OpenClaim.holds_of_wide 5 Try.f5 rfl rfl rfl rfl rfl rfl rfl ⟨rfl, rfl, rfl, rfl, rfl⟩ rfl rfl rfl rfl rfl (by kernel_rfl) Try.func5 (by kernel_rfl)
    (of_decide_eq_true (by kernel_rfl)) (by unfold Func.isWrapper; first | (rw [if_pos (by decide +kernel)]; kernel_rfl) | (rw [if_neg (by decide +kernel)]; exact ⟨rfl, rfl⟩))
    (fun os started H enc _ => learnGrows_lifted os started H enc)
#print axioms learnGrows_holds
end Go.Proofs.Yteicecbjahhjmaa

