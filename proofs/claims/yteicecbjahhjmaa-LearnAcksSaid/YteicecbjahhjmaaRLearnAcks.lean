/- LearnAcks: whatever a learner hears, what it acknowledges is the last of its history, and what it knows to be committed is a place of it. No condition. -/
import Derived.Test.YteicecbjahhjmaaP38Learn
import Derived.Test.YteicecbjahhjmaaP41Learn
import Derived.Test.YteicecbjahhjmaaRows
import Derived.ProofKit
-- ALIAS Try
set_option linter.unusedVariables false
namespace Go.Proofs.Yteicecbjahhjmaa
open Go Go.Av Go.ChangeShapes Go.WideShapes Go.ChangeAt Go.RowKit
theorem learnAcks_all (ps : List PV) (h : ShTs Try.T Try.f4.params.toList ps) (hz : ∀ p ∈ ps, SzI KB reachBytes p) : ACon Try.prog 4 (ps.map .p) (.p (B true)) := by
  have hp : Try.f4.params.toList = [35, 36] := by kernel_rfl
  rw [hp] at h
  match ps, h, hz with
  | [p0, p1], ⟨h0, h1, _⟩, hz =>
    obtain ⟨w, rfl⟩ := who_open h0
    obtain ⟨l, rfl⟩ := evs_open h1
    have z0 := hz (.agg w.cells) (by simp)
    have z1 := hz (.sl 48 (evsC l)) (by simp)
    exact learnAcks_con w l (.ofW z0) (SmallE.ofL z1)
set_option maxRecDepth 100000 in
theorem learnAcks_lifted (os : Os) (started : os.Started) (H : Type) (enc : TypeId × Value → H) :
    ReturnsInHanded {} Try.checked os 4 .any (Rows.learnAcksSpec.pre6 enc Try.prog Try.f4 Rows.learnAcksRow.domain false) (Rows.learnAcksSpec.post enc Try.prog Try.f4 false true false false) :=
  row_liftedD (K := KB) (C := Try.checked) (tb := 4) Try.tab (by kernel_rfl) started (by kernel_rfl) Try.func4
    (ChangeSpec.witness6 (enc := enc) (C := Try.checked) false ⟨#[], #[.agg #[.int .i64 0, .int .i64 0, .int .i64 0, .int .i64 0, .slice none 0 0, .slice none 0 0, .int .i64 0, .int .i64 0, .int .i64 0, .int .i64 0, .slice none 0 0, .int .i64 0, .int .i64 0, .slice none 0 0], .slice none 0 0], []⟩ 8 (by kernel_rfl) (by kernel_rfl) (by kernel_rfl) (by kernel_rfl))
    rfl rfl Try.underlying4
    (fun ds h => by
      match ds, h with
      | [_, _], _ => exact ⟨rfl, rfl, rfl⟩)
    (by kernel_rfl) hpos learnAcks_all ⟨Try.f4, Try.func4, rfl, rfl⟩
theorem learnAcks_holds : Rows.LearnAcksSaid :=
  OpenClaim.holds_of_wide 4 Try.f4 rfl rfl rfl rfl rfl rfl rfl ⟨rfl, rfl, rfl, rfl, rfl⟩ rfl rfl rfl rfl rfl (by kernel_rfl) Try.func4 (by kernel_rfl)
    (of_decide_eq_true (by kernel_rfl)) (by unfold Func.isWrapper; first | (rw [if_pos (by decide +kernel)]; kernel_rfl) | (rw [if_neg (by decide +kernel)]; exact ⟨rfl, rfl⟩))
    (fun os started H enc _ => learnAcks_lifted os started H enc)
#print axioms learnAcks_holds
end Go.Proofs.Yteicecbjahhjmaa

