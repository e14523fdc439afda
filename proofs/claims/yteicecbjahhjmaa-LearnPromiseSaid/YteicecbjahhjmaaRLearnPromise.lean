/- LearnPromise: whatever a learner hears, what it has promised never falls, and it acknowledges epochs that are its leader's, not below what it promised ahead. No condition. -/
import Derived.Test.YteicecbjahhjmaaP38Learn
import Derived.Test.YteicecbjahhjmaaP39Learn
import Derived.Test.YteicecbjahhjmaaRows
import Derived.ProofKit
-- ALIAS Try
set_option linter.unusedVariables false
namespace Go.Proofs.Yteicecbjahhjmaa
open Go Go.Av Go.ChangeShapes Go.WideShapes Go.ChangeAt Go.RowKit
theorem learnPromise_all (ps : List PV) (h : ShTs Try.T Try.f3.params.toList ps) (hz : ∀ p ∈ ps, SzI KB reachBytes p) : ACon Try.prog 3 (ps.map .p) (.p (B true)) := by
  have hp : Try.f3.params.toList = [35, 36] := by kernel_rfl
  rw [hp] at h
  match ps, h, hz with
  | [p0, p1], ⟨h0, h1, _⟩, hz =>
    obtain ⟨w, rfl⟩ := who_open h0
    obtain ⟨l, rfl⟩ := evs_open h1
    have z0 := hz (.agg w.cells) (by simp)
    have z1 := hz (.sl 48 (evsC l)) (by simp)
    exact learnPromise_con w l (.ofW z0) (SmallE.ofL z1)
set_option maxRecDepth 100000 in
theorem learnPromise_lifted (os : Os) (started : os.Started) (H : Type) (enc : TypeId × Value → H) :
    ReturnsInHanded {} Try.checked os 3 .any (Rows.learnPromiseSpec.pre6 enc Try.prog Try.f3 Rows.learnPromiseRow.domain false) (Rows.learnPromiseSpec.post enc Try.prog Try.f3 false true false false) :=
  row_liftedD (K := KB) (C := Try.checked) (tb := 4) Try.tab (by kernel_rfl) started (by kernel_rfl) Try.func3
    (ChangeSpec.witness6 (enc := enc) (C := Try.checked) false ⟨#[], #[.agg #[.int .i64 0, .int .i64 0, .int .i64 0, .int .i64 0, .slice none 0 0, .slice none 0 0, .int .i64 0, .int .i64 0, .int .i64 0, .int .i64 0, .slice none 0 0, .int .i64 0, .int .i64 0, .slice none 0 0], .slice none 0 0], []⟩ 8 (by kernel_rfl) (by kernel_rfl) (by kernel_rfl) (by kernel_rfl))
    rfl rfl Try.underlying4
    (fun ds h => by
      match ds, h with
      | [_, _], _ => exact ⟨rfl, rfl, rfl⟩)
    (by kernel_rfl) hpos learnPromise_all ⟨Try.f3, Try.func3, rfl, rfl⟩
theorem learnPromise_holds : Rows.LearnPromiseSaid :=
  OpenClaim.holds_of_wide 3 Try.f3 rfl rfl rfl rfl rfl rfl rfl ⟨rfl, rfl, rfl, rfl, rfl⟩ rfl rfl rfl rfl rfl (by kernel_rfl) Try.func3 (by kernel_rfl)
    (of_decide_eq_true (by kernel_rfl)) (by unfold Func.isWrapper; first | (rw [if_pos (by decide +kernel)]; kernel_rfl) | (rw [if_neg (by decide +kernel)]; exact ⟨rfl, rfl⟩))
    (fun os started H enc _ => learnPromise_lifted os started H enc)
#print axioms learnPromise_holds
end Go.Proofs.Yteicecbjahhjmaa

