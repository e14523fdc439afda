/- VoteWins: whatever configs, whatever votes: the law of layer 17 answers true, and what came in reads as before. No condition. -/
import Derived.Test.YtehopfedgkmalaaWC
import Derived.Test.YtehopfedgkmalaaWP
import Derived.Test.YtehopfedgkmalaaQO
import Derived.Test.YtehopfedgkmalaaRows
import Derived.ProofKit
-- ALIAS Try
namespace Go.Proofs.Ytehopfedgkmalaa
open Go Go.Av Go.ChangeShapes Go.WideShapes Go.ChangeAt Go.RowKit
theorem voteWins_all (ps : List PV) (h : ShTs Try.T Try.f9.params.toList ps) : ACon Try.prog 9 (ps.map .p) (.p (B true)) := by
  have hp : Try.f9.params.toList = [22, 43, 45] := by kernel_rfl
  rw [hp] at h
  match ps, h with
  | [p0, p1, p2], ⟨h0, h1, h2, _⟩ =>
    obtain ⟨a, rfl⟩ := cfs_open h0
    obtain ⟨l, rfl⟩ := vts_open h1
    obtain ⟨v, rfl⟩ := Vt.open h2
    exact voteWins_con a l v
set_option maxRecDepth 100000 in
theorem voteWins_lifted (os : Os) (started : os.Started) (H : Type) (enc : TypeId × Value → H) :
    ReturnsInHanded {} Try.checked os 9 .any (Rows.voteWinsSpec.pre6 enc Try.prog Try.f9 Rows.voteWinsRow.domain false) (Rows.voteWinsSpec.post enc Try.prog Try.f9 false true false false) :=
  row_lifted (C := Try.checked) (tb := 4) Try.tab (by kernel_rfl) started (by kernel_rfl) Try.func9
    (ChangeSpec.witness6 (enc := enc) (C := Try.checked) false ⟨#[], #[.slice none 0 0, .slice none 0 0, .agg #[.int .i64 0, .int .i64 0, .int .i64 0, .int .i64 0, .int .i64 0, .int .i64 0, .int .i64 0]], []⟩ 8 (by kernel_rfl) (by kernel_rfl) (by kernel_rfl) (by kernel_rfl))
    rfl rfl Try.underlying4
    (fun ds h => by
      match ds, h with
      | [_, _, _], _ => exact ⟨rfl, rfl, rfl⟩)
    (by kernel_rfl) voteWins_all
theorem voteWins_holds : Rows.VoteWinsSaid :=
  OpenClaim.holds_of_wide 9 Try.f9 rfl rfl rfl rfl rfl rfl rfl ⟨rfl, rfl, rfl, rfl, rfl⟩ rfl rfl rfl rfl rfl (by kernel_rfl) Try.func9 (by kernel_rfl)
    (of_decide_eq_true (by kernel_rfl)) (by unfold Func.isWrapper; first | (rw [if_pos (by decide +kernel)]; kernel_rfl) | (rw [if_neg (by decide +kernel)]; exact ⟨rfl, rfl⟩))
    (fun os started H enc _ => voteWins_lifted os started H enc)
#print axioms voteWins_holds
end Go.Proofs.Ytehopfedgkmalaa
