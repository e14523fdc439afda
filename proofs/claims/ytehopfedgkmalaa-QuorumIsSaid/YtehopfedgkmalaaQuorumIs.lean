/- QuorumIs: whatever configs, whatever set: the law of layer 5 answers true, and what came in reads as before. No condition. -/
import Derived.Test.YtehopfedgkmalaaQH
import Derived.Test.YtehopfedgkmalaaQO
import Derived.Test.YtehopfedgkmalaaRows
import Derived.ProofKit
-- ALIAS Try
namespace Go.Proofs.Ytehopfedgkmalaa
open Go Go.Av Go.ChangeShapes Go.WideShapes Go.ChangeAt Go.RowKit
theorem quorumIs_all (ps : List PV) (h : ShTs Try.T Try.f3.params.toList ps) : ACon Try.prog 3 (ps.map .p) (.p (B true)) := by
  have hp : Try.f3.params.toList = [22, 23] := by kernel_rfl
  rw [hp] at h
  match ps, h with
  | [p0, p1], ⟨h0, h1, _⟩ =>
    obtain ⟨l, rfl⟩ := cfs_open h0
    obtain ⟨s, rfl⟩ := ints_open h1
    exact quorumIs_con l s
set_option maxRecDepth 100000 in
theorem quorumIs_lifted (os : Os) (started : os.Started) (H : Type) (enc : TypeId × Value → H) :
    ReturnsInHanded {} Try.checked os 3 .any (Rows.quorumIsSpec.pre6 enc Try.prog Try.f3 Rows.quorumIsRow.domain false) (Rows.quorumIsSpec.post enc Try.prog Try.f3 false true false false) :=
  row_lifted (C := Try.checked) (tb := 4) Try.tab (by kernel_rfl) started (by kernel_rfl) Try.func3
    (ChangeSpec.witness6 (enc := enc) (C := Try.checked) false ⟨#[], #[.slice none 0 0, .slice none 0 0], []⟩ 8 (by kernel_rfl) (by kernel_rfl) (by kernel_rfl) (by kernel_rfl))
    rfl rfl Try.underlying4
    (fun ds h => by
      match ds, h with
      | [_, _], _ => exact ⟨rfl, rfl, rfl⟩)
    (by kernel_rfl) quorumIs_all
theorem quorumIs_holds : Rows.QuorumIsSaid :=
  OpenClaim.holds_of_wide 3 Try.f3 rfl rfl rfl rfl rfl rfl rfl ⟨rfl, rfl, rfl, rfl, rfl⟩ rfl rfl rfl rfl rfl (by kernel_rfl) Try.func3 (by kernel_rfl)
    (of_decide_eq_true (by kernel_rfl)) (by unfold Func.isWrapper; first | (rw [if_pos (by decide +kernel)]; kernel_rfl) | (rw [if_neg (by decide +kernel)]; exact ⟨rfl, rfl⟩))
    (fun os started H enc _ => quorumIs_lifted os started H enc)
#print axioms quorumIs_holds
end Go.Proofs.Ytehopfedgkmalaa
