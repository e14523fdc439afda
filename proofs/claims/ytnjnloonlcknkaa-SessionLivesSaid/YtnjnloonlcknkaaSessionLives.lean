/- SessionLives: whatever session, span and touches: the law of layer 11 answers true, and what came in reads as before. No condition. -/
import Derived.Test.YtnjnloonlcknkaaSessC
import Derived.Test.YtnjnloonlcknkaaSessO
import Derived.Test.YtnjnloonlcknkaaRows
import Derived.ProofKit
-- ALIAS Try
namespace Go.Proofs.Ytnjnloonlcknkaa
open Go Go.Av Go.ChangeShapes Go.WideShapes Go.ChangeAt Go.RowKit
theorem bools_open {p : PV} (hp : ShT Try.T 31 p) : ∃ l, p = .sl 1 (bools l) :=
  (hp.one (f := .sl [.bool]) rfl rfl rfl).slI (f := fun b => [B b]) fun ps h => by
    obtain ⟨_, _, rfl, h0, h⟩ := h.cons
    obtain rfl := h.nil
    obtain ⟨n, rfl⟩ := h0.boolI
    exact ⟨n, rfl⟩
theorem sessionLives_all (ps : List PV) (h : ShTs Try.T Try.f4.params.toList ps) : ACon Try.prog 4 (ps.map .p) (.p (B true)) := by
  have hp : Try.f4.params.toList = [3, 3, 31] := by kernel_rfl
  rw [hp] at h
  match ps, h with
  | [p0, p1, p2], ⟨h0, h1, h2, _⟩ =>
    obtain ⟨a, rfl⟩ := int_open h0
    obtain ⟨b, rfl⟩ := int_open h1
    obtain ⟨l, rfl⟩ := bools_open h2
    exact lives_con a b l
set_option maxRecDepth 100000 in
theorem sessionLives_lifted (os : Os) (started : os.Started) (H : Type) (enc : TypeId × Value → H) :
    ReturnsInHanded {} Try.checked os 4 .any (Rows.sessionLivesSpec.pre6 enc Try.prog Try.f4 Rows.sessionLivesRow.domain false) (Rows.sessionLivesSpec.post enc Try.prog Try.f4 false true false false) :=
  row_lifted (C := Try.checked) (tb := 4) Try.tab (by kernel_rfl) started (by kernel_rfl) Try.func4
    (ChangeSpec.witness6 (enc := enc) (C := Try.checked) false ⟨#[], #[.int .i64 0, .int .i64 0, .slice none 0 0], []⟩ 8 (by kernel_rfl) (by kernel_rfl) (by kernel_rfl) (by kernel_rfl))
    rfl rfl Try.underlying4
    (fun ds h => by
      match ds, h with
      | [_, _, _], _ => exact ⟨rfl, rfl, rfl⟩)
    (by kernel_rfl) sessionLives_all
theorem sessionLives_holds : Rows.SessionLivesSaid :=
  OpenClaim.holds_of_wide 4 Try.f4 rfl rfl rfl rfl rfl rfl rfl ⟨rfl, rfl, rfl, rfl, rfl⟩ rfl rfl rfl rfl rfl (by kernel_rfl) Try.func4 (by kernel_rfl)
    (of_decide_eq_true (by kernel_rfl)) (by unfold Func.isWrapper; first | (rw [if_pos (by decide +kernel)]; kernel_rfl) | (rw [if_neg (by decide +kernel)]; exact ⟨rfl, rfl⟩))
    (fun os started H enc _ => sessionLives_lifted os started H enc)
#print axioms sessionLives_holds
end Go.Proofs.Ytnjnloonlcknkaa
