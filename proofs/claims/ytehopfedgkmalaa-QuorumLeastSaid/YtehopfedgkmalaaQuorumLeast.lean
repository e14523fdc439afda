/- QuorumLeast: whatever config, whatever set: the law of layer 5 answers true, and what came in reads as before. No condition. -/
import Derived.Test.YtehopfedgkmalaaQM
import Derived.Test.YtehopfedgkmalaaQO
import Derived.Test.YtehopfedgkmalaaRows
import Derived.ProofKit
-- ALIAS Try
namespace Go.Proofs.Ytehopfedgkmalaa
open Go Go.Av Go.ChangeShapes Go.WideShapes Go.ChangeAt Go.RowKit
theorem quorumLeast_all (ps : List PV) (h : ShTs Try.T Try.f4.params.toList ps) : ACon Try.prog 4 (ps.map .p) (.p (B true)) := by
  have hp : Try.f4.params.toList = [29, 23] := by kernel_rfl
  rw [hp] at h
  match ps, h with
  | [p0, p1], ⟨h0, h1, _⟩ =>
    obtain ⟨c, rfl⟩ := cf_open h0
    obtain ⟨a, rfl⟩ := ints_open h1
    exact quorumLeast_con c a
set_option maxRecDepth 100000 in
theorem quorumLeast_lifted (os : Os) (started : os.Started) (H : Type) (enc : TypeId × Value → H) :
    ReturnsInHanded {} Try.checked os 4 .any (Rows.quorumLeastSpec.pre6 enc Try.prog Try.f4 Rows.quorumLeastRow.domain false) (Rows.quorumLeastSpec.post enc Try.prog Try.f4 false true false false) :=
  row_lifted (C := Try.checked) (tb := 4) Try.tab (by kernel_rfl) started (by kernel_rfl) Try.func4
    (ChangeSpec.witness6 (enc := enc) (C := Try.checked) false ⟨#[], #[.agg #[.int .i64 0, .int .i64 0, .int .i64 0, .slice none 0 0], .slice none 0 0], []⟩ 8 (by kernel_rfl) (by kernel_rfl) (by kernel_rfl) (by kernel_rfl))
    rfl rfl Try.underlying4
    (fun ds h => by
      match ds, h with
      | [_, _], _ => exact ⟨rfl, rfl, rfl⟩)
    (by kernel_rfl) quorumLeast_all
theorem quorumLeast_holds : Rows.QuorumLeastSaid :=
  OpenClaim.holds_of_wide 4 Try.f4 rfl rfl rfl rfl rfl rfl rfl ⟨rfl, rfl, rfl, rfl, rfl⟩ rfl rfl rfl rfl rfl (by kernel_rfl) Try.func4 (by kernel_rfl)
    (of_decide_eq_true (by kernel_rfl)) (by unfold Func.isWrapper; first | (rw [if_pos (by decide +kernel)]; kernel_rfl) | (rw [if_neg (by decide +kernel)]; exact ⟨rfl, rfl⟩))
    (fun os started H enc _ => quorumLeast_lifted os started H enc)
#print axioms quorumLeast_holds
end Go.Proofs.Ytehopfedgkmalaa
