/- LearnDeaf: what is not from a learner's leader, or of another epoch, changes nothing. No condition. -/
import Derived.Test.YteicecbjahhjmaaP38Learn
import Derived.Test.YteicecbjahhjmaaP43Learn
import Derived.Test.YteicecbjahhjmaaRows
import Derived.ProofKit
-- ALIAS Try
set_option linter.unusedVariables false
namespace Go.Proofs.Yteicecbjahhjmaa
open Go Go.Av Go.ChangeShapes Go.WideShapes Go.ChangeAt Go.RowKit
theorem learnDeaf_all (ps : List PV) (h : ShTs Try.T Try.f6.params.toList ps) (hz : ∀ p ∈ ps, SzI KB reachBytes p) : ACon Try.prog 6 (ps.map .p) (.p (B true)) := by
  have hp : Try.f6.params.toList = [35, 36, 65] := by kernel_rfl
  rw [hp] at h
  match ps, h, hz with
  | [p0, p1, p2], ⟨h0, h1, h2, _⟩, hz =>
    obtain ⟨w, rfl⟩ := who_open h0
    obtain ⟨l, rfl⟩ := evs_open h1
    obtain ⟨m, rfl⟩ := msg_open h2
    have z0 := hz (.agg w.cells) (by simp)
    have z1 := hz (.sl 48 (evsC l)) (by simp)
    have z2 := hz (.agg m.cells) (by simp)
    exact learnDeaf_con w l m (.ofW z0) (SmallE.ofL z1) (.ofM z2) (evs_lim z1)
set_option maxRecDepth 100000 in
theorem learnDeaf_lifted (os : Os) (started : os.Started) (H : Type) (enc : TypeId × Value → H) :
    ReturnsInHanded {} Try.checked os 6 .any (Rows.learnDeafSpec.pre6 enc Try.prog Try.f6 Rows.learnDeafRow.domain false) (Rows.learnDeafSpec.post enc Try.prog Try.f6 false true false false) :=
  row_liftedD (K := KB) (C := Try.checked) (tb := 4) Try.tab (by kernel_rfl) started (by kernel_rfl) Try.func6
    (ChangeSpec.witness6 (enc := enc) (C := Try.checked) false ⟨#[], #[.agg #[.int .i64 0, .int .i64 0, .int .i64 0, .int .i64 0, .slice none 0 0, .slice none 0 0, .int .i64 0, .int .i64 0, .int .i64 0, .int .i64 0, .slice none 0 0, .int .i64 0, .int .i64 0, .slice none 0 0], .slice none 0 0, .agg #[.int .i64 0, .int .i64 0, .int .i64 0, .int .i64 0, .int .i64 0, .int .i64 0, .int .i64 0, .int .i64 0, .int .i64 0, .int .i64 0, .int .i64 0, .int .i64 0, .int .i64 0, .int .i64 0, .slice none 0 0, .int .i64 0, .int .i64 0, .int .i64 0, .slice none 0 0, .slice none 0 0, .int .i64 0, .int .i64 0, .int .i64 0, .int .i64 0, .slice none 0 0, .int .i64 0, .int .i64 0, .slice none 0 0, .int .i64 0, .int .i64 0, .int .i64 0, .int .i64 0, .int .i64 0, .int .i64 0, .string ⟨#[]⟩, .slice none 0 0, .slice none 0 0, .int .i64 0, .int .i64 0, .int .i64 0, .slice none 0 0, .int .i64 0, .slice none 0 0, .slice none 0 0, .int .i64 0, .int .i64 0]], []⟩ 8 (by kernel_rfl) (by kernel_rfl) (by kernel_rfl) (by kernel_rfl))
    rfl rfl Try.underlying4
    (fun ds h => by
      match ds, h with
      | [_, _, _], _ => exact ⟨rfl, rfl, rfl⟩)
    (by kernel_rfl) hpos learnDeaf_all ⟨Try.f6, Try.func6, rfl, rfl⟩
theorem learnDeaf_holds : Rows.LearnDeafSaid :=
  OpenClaim.holds_of_wide 6 Try.f6 rfl rfl rfl rfl rfl rfl rfl ⟨rfl, rfl, rfl, rfl, rfl⟩ rfl rfl rfl rfl rfl (by kernel_rfl) Try.func6 (by kernel_rfl)
    (of_decide_eq_true (by kernel_rfl)) (by unfold Func.isWrapper; first | (rw [if_pos (by decide +kernel)]; kernel_rfl) | (rw [if_neg (by decide +kernel)]; exact ⟨rfl, rfl⟩))
    (fun os started H enc _ => learnDeaf_lifted os started H enc)
#print axioms learnDeaf_holds
end Go.Proofs.Yteicecbjahhjmaa

