/- ClientStays: if servers are only dropped, who is on one that is left stays, and who is on none goes to one that is left; over all draws to each as often. No condition. -/
import Derived.Test.YtljeijinfhboaaaMO
import Derived.Test.YtljeijinfhboaaaRows
import Derived.ProofKit
-- ALIAS Try
set_option linter.unusedVariables false
namespace Go.Proofs.Ytljeijinfhboaaa
open Go Go.Av Go.ChangeShapes Go.WideShapes Go.ChangeAt Go.RowKit
theorem clientStays_all (ps : List PV) (h : ShTs Try.T Try.f8.params.toList ps) : ACon Try.prog 8 (ps.map .p) (.p (B true)) := by
  have hp : Try.f8.params.toList = [27, 27, 3] := by kernel_rfl
  rw [hp] at h
  match ps, h with
  | [p0, p1, p2], ⟨h0, h1, h2, _⟩ =>
    obtain ⟨a, rfl⟩ := ints_open h0
    obtain ⟨b, rfl⟩ := ints_open h1
    obtain ⟨n, rfl⟩ := int_open h2
    exact clientStays_con a b n
set_option maxRecDepth 100000 in
theorem clientStays_lifted (os : Os) (started : os.Started) (H : Type) (enc : TypeId × Value → H) :
    ReturnsInHanded {} Try.checked os 8 .any (Rows.clientStaysSpec.pre6 enc Try.prog Try.f8 Rows.clientStaysRow.domain false) (Rows.clientStaysSpec.post enc Try.prog Try.f8 false true false false) :=
  row_lifted (C := Try.checked) (tb := 4) Try.tab (by kernel_rfl) started (by kernel_rfl) Try.func8
    (ChangeSpec.witness6 (enc := enc) (C := Try.checked) false ⟨#[], #[.slice none 0 0, .slice none 0 0, .int .i64 0], []⟩ 8 (by kernel_rfl) (by kernel_rfl) (by kernel_rfl) (by kernel_rfl))
    rfl rfl Try.underlying4
    (fun ds h => by
      match ds, h with
      | [_, _, _], _ => exact ⟨rfl, rfl, rfl⟩)
    (by kernel_rfl) clientStays_all ⟨Try.f8, Try.func8, rfl, rfl⟩
theorem clientStays_holds : Rows.ClientStaysSaid :=
  OpenClaim.holds_of_wide 8 Try.f8 rfl rfl rfl rfl rfl rfl rfl ⟨rfl, rfl, rfl, rfl, rfl⟩ rfl rfl rfl rfl rfl (by kernel_rfl) Try.func8 (by kernel_rfl)
    (of_decide_eq_true (by kernel_rfl)) (by unfold Func.isWrapper; first | (rw [if_pos (by decide +kernel)]; kernel_rfl) | (rw [if_neg (by decide +kernel)]; exact ⟨rfl, rfl⟩))
    (fun os started H enc _ => clientStays_lifted os started H enc)
#print axioms clientStays_holds
end Go.Proofs.Ytljeijinfhboaaa
