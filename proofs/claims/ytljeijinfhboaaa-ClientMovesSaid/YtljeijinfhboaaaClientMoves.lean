/- ClientMoves: whom a client is to go to, by any lists, is what the document says. No condition. -/
import Derived.Test.YtljeijinfhboaaaMO
import Derived.Test.YtljeijinfhboaaaRows
import Derived.ProofKit
-- ALIAS Try
set_option linter.unusedVariables false
namespace Go.Proofs.Ytljeijinfhboaaa
open Go Go.Av Go.ChangeShapes Go.WideShapes Go.ChangeAt Go.RowKit
theorem clientMoves_all (ps : List PV) (h : ShTs Try.T Try.f6.params.toList ps) : ACon Try.prog 6 (ps.map .p) (.p (B true)) := by
  have hp : Try.f6.params.toList = [27, 27, 52] := by kernel_rfl
  rw [hp] at h
  match ps, h with
  | [p0, p1, p2], ⟨h0, h1, h2, _⟩ =>
    obtain ⟨a, rfl⟩ := ints_open h0
    obtain ⟨b, rfl⟩ := ints_open h1
    obtain ⟨x, y, rfl⟩ := two_open h2
    exact clientMoves_con a b x y
set_option maxRecDepth 100000 in
theorem clientMoves_lifted (os : Os) (started : os.Started) (H : Type) (enc : TypeId × Value → H) :
    ReturnsInHanded {} Try.checked os 6 .any (Rows.clientMovesSpec.pre6 enc Try.prog Try.f6 Rows.clientMovesRow.domain false) (Rows.clientMovesSpec.post enc Try.prog Try.f6 false true false false) :=
  row_lifted (C := Try.checked) (tb := 4) Try.tab (by kernel_rfl) started (by kernel_rfl) Try.func6
    (ChangeSpec.witness6 (enc := enc) (C := Try.checked) false ⟨#[], #[.slice none 0 0, .slice none 0 0, .agg #[.int .i64 0, .int .i64 0]], []⟩ 8 (by kernel_rfl) (by kernel_rfl) (by kernel_rfl) (by kernel_rfl))
    rfl rfl Try.underlying4
    (fun ds h => by
      match ds, h with
      | [_, _, _], _ => exact ⟨rfl, rfl, rfl⟩)
    (by kernel_rfl) clientMoves_all ⟨Try.f6, Try.func6, rfl, rfl⟩
theorem clientMoves_holds : Rows.ClientMovesSaid :=
  OpenClaim.holds_of_wide 6 Try.f6 rfl rfl rfl rfl rfl rfl rfl ⟨rfl, rfl, rfl, rfl, rfl⟩ rfl rfl rfl rfl rfl (by kernel_rfl) Try.func6 (by kernel_rfl)
    (of_decide_eq_true (by kernel_rfl)) (by unfold Func.isWrapper; first | (rw [if_pos (by decide +kernel)]; kernel_rfl) | (rw [if_neg (by decide +kernel)]; exact ⟨rfl, rfl⟩))
    (fun os started H enc _ => clientMoves_lifted os started H enc)
#print axioms clientMoves_holds
end Go.Proofs.Ytljeijinfhboaaa
