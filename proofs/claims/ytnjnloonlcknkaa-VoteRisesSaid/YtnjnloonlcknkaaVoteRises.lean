/- VoteRises: whatever three votes come in, the law of layer 17 answers true, and what came in reads as before. No condition. -/
import Derived.Test.YtnjnloonlcknkaaVoteC
import Derived.Test.YtnjnloonlcknkaaAvRow
import Derived.Test.YtnjnloonlcknkaaRows
import Derived.ProofKit
namespace Go.Proofs.Ytnjnloonlcknkaa
set_option linter.unusedSimpArgs false
set_option linter.unusedVariables false
open Go Go.Av Go.ChangeShapes Go.WideShapes Go.ChangeAt Go.RowKit

theorem Vt.open {p : PV} (hp : ShT Try.T 38 p) : ∃ a : Vt, p = .agg a.cells := by
  obtain ⟨ps, rfl, h⟩ := hp.agg (E := [.int .i64, .int .i64, .int .i64, .int .i64, .int .i64, .int .i64, .int .i64]) rfl rfl rfl
  obtain ⟨_, _, rfl, h0, h⟩ := h.cons
  obtain ⟨_, _, rfl, h1, h⟩ := h.cons
  obtain ⟨_, _, rfl, h2, h⟩ := h.cons
  obtain ⟨_, _, rfl, h3, h⟩ := h.cons
  obtain ⟨_, _, rfl, h4, h⟩ := h.cons
  obtain ⟨_, _, rfl, h5, h⟩ := h.cons
  obtain ⟨_, _, rfl, h6, h⟩ := h.cons
  obtain rfl := h.nil
  obtain ⟨_, rfl, -⟩ := h0.intI
  obtain ⟨_, rfl, -⟩ := h1.intI
  obtain ⟨_, rfl, -⟩ := h2.intI
  obtain ⟨_, rfl, -⟩ := h3.intI
  obtain ⟨_, rfl, -⟩ := h4.intI
  obtain ⟨_, rfl, -⟩ := h5.intI
  obtain ⟨_, rfl, -⟩ := h6.intI
  exact ⟨⟨_, _, _, _, _, _, _⟩, rfl⟩

theorem rises_all (ps : List PV) (h : ShTs Try.T Try.f8.params.toList ps) : ACon Try.prog 8 (ps.map .p) (.p (B true)) := by
  have hp : Try.f8.params.toList = [38, 38, 38] := by kernel_rfl
  rw [hp] at h
  match ps, h with
  | [a, b, c], ⟨h1, h2, h3, _⟩ =>
    obtain ⟨a, rfl⟩ := Vt.open h1
    obtain ⟨b, rfl⟩ := Vt.open h2
    obtain ⟨c, rfl⟩ := Vt.open h3
    exact rises_con a b c

theorem Try.own : ownKnob Try.prog.godebug = none := by kernel_rfl

set_option maxRecDepth 100000 in
theorem voteRises_lifted (os : Os) (started : os.Started) (H : Type) (enc : TypeId × Value → H) :
    ReturnsInHanded {} Try.checked os 8 .any (Rows.voteRisesSpec.pre6 enc Try.prog Try.f8 Rows.voteRisesRow.domain false) (Rows.voteRisesSpec.post enc Try.prog Try.f8 false true false false) :=
  row_lifted (C := Try.checked) (tb := 4) Try.tab Try.own started (by kernel_rfl) Try.func8
    (ChangeSpec.witness6 (enc := enc) (C := Try.checked) false ⟨#[], #[.agg #[.int .i64 0, .int .i64 0, .int .i64 0, .int .i64 0, .int .i64 0, .int .i64 0, .int .i64 0], .agg #[.int .i64 0, .int .i64 0, .int .i64 0, .int .i64 0, .int .i64 0, .int .i64 0, .int .i64 0], .agg #[.int .i64 0, .int .i64 0, .int .i64 0, .int .i64 0, .int .i64 0, .int .i64 0, .int .i64 0]], []⟩ 8 (by kernel_rfl) (by kernel_rfl) (by kernel_rfl) (by kernel_rfl))
    rfl rfl Try.underlying4
    (fun ds h => by
      match ds, h with
      | [_, _, _], _ => exact ⟨rfl, rfl, rfl⟩)
    (by kernel_rfl) rises_all

theorem voteRises_holds : Rows.VoteRisesSaid :=
  OpenClaim.holds_of_wide 8 Try.f8 rfl rfl rfl rfl rfl rfl rfl ⟨rfl, rfl, rfl, rfl, rfl⟩ rfl rfl rfl rfl rfl (by kernel_rfl) Try.func8 (by kernel_rfl)
    (of_decide_eq_true (by kernel_rfl)) (by unfold Func.isWrapper; first | (rw [if_pos (by decide +kernel)]; kernel_rfl) | (rw [if_neg (by decide +kernel)]; exact ⟨rfl, rfl⟩))
    (fun os started H enc _ => voteRises_lifted os started H enc)
#print axioms voteRises_holds
end Go.Proofs.Ytnjnloonlcknkaa
