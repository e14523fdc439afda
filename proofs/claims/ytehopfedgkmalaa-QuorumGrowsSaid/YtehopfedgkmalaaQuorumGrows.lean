/- QuorumGrows: whatever config, whatever two sets: the law of layer 5 answers true, and what came in reads as before. No condition. -/
import Derived.Test.YtehopfedgkmalaaQJ
import Derived.Test.YtehopfedgkmalaaQO
import Derived.Test.YtehopfedgkmalaaRows
import Derived.ProofKit
-- ALIAS Try
namespace Go.Proofs.Ytehopfedgkmalaa
open Go Go.Av Go.ChangeShapes Go.WideShapes Go.ChangeAt Go.RowKit
theorem quorumGrows_all (ps : List PV) (h : ShTs Try.T Try.f6.params.toList ps) : ACon Try.prog 6 (ps.map .p) (.p (B true)) := by
  have hp : Try.f6.params.toList = [29, 23, 23] := by kernel_rfl
  rw [hp] at h
  match ps, h with
  | [p0, p1, p2], ⟨h0, h1, h2, _⟩ =>
    obtain ⟨c, rfl⟩ := cf_open h0
    obtain ⟨a, rfl⟩ := ints_open h1
    obtain ⟨b, rfl⟩ := ints_open h2
    exact quorumGrows_con c a b
set_option maxRecDepth 100000 in
theorem quorumGrows_lifted (os : Os) (started : os.Started) (H : Type) (enc : TypeId × Value → H) :
    ReturnsInHanded {} Try.checked os 6 .any (Rows.quorumGrowsSpec.pre6 enc Try.prog Try.f6 Rows.quorumGrowsRow.domain false) (Rows.quorumGrowsSpec.post enc Try.prog Try.f6 false true false false) :=
  row_lifted (C := Try.checked) (tb := 4) Try.tab (by kernel_rfl) started (by kernel_rfl) Try.func6
    (ChangeSpec.witness6 (enc := enc) (C := Try.checked) false ⟨#[], #[.agg #[.int .i64 0, .int .i64 0, .int .i64 0, .slice none 0 0], .slice none 0 0, .slice none 0 0], []⟩ 8 (by kernel_rfl) (by kernel_rfl) (by kernel_rfl) (by kernel_rfl))
    rfl rfl Try.underlying4
    (fun ds h => by
      match ds, h with
      | [_, _, _], _ => exact ⟨rfl, rfl, rfl⟩)
    (by kernel_rfl) quorumGrows_all
theorem quorumGrows_holds : Rows.QuorumGrowsSaid :=
  OpenClaim.holds_of_wide 6 Try.f6 rfl rfl rfl rfl rfl rfl rfl ⟨rfl, rfl, rfl, rfl, rfl⟩ rfl rfl rfl rfl rfl (by kernel_rfl) Try.func6 (by kernel_rfl)
    (of_decide_eq_true (by kernel_rfl)) (by unfold Func.isWrapper; first | (rw [if_pos (by decide +kernel)]; kernel_rfl) | (rw [if_neg (by decide +kernel)]; exact ⟨rfl, rfl⟩))
    (fun os started H enc _ => quorumGrows_lifted os started H enc)
#print axioms quorumGrows_holds
end Go.Proofs.Ytehopfedgkmalaa
