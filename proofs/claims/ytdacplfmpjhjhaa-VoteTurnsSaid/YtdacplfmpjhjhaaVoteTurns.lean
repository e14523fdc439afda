/- VoteTurns: votes of unlike voters, laid in any order, make one list, and laid twice it is the same: the law of layer 17 answers true, and what came in reads as before. No condition. -/
import Derived.Test.YtdacplfmpjhjhaaVU
import Derived.Test.YtdacplfmpjhjhaaWP
import Derived.Test.YtdacplfmpjhjhaaRows
import Derived.ProofKit
-- ALIAS Try
namespace Go.Proofs.Ytdacplfmpjhjhaa
open Go Go.Av Go.ChangeShapes Go.WideShapes Go.ChangeAt Go.RowKit
theorem voteTurns_all (ps : List PV) (h : ShTs Try.T Try.f5.params.toList ps) : ACon Try.prog 5 (ps.map .p) (.p (B true)) := by
  have hp : Try.f5.params.toList = [22, 3] := by kernel_rfl
  rw [hp] at h
  match ps, h with
  | [p0, p1], ⟨h0, h1, _⟩ =>
    obtain ⟨l, rfl⟩ := vts_open h0
    obtain ⟨t, rfl, -⟩ := (h1.one (f := .int .i64) rfl rfl rfl).intI
    exact voteTurns_con l t
set_option maxRecDepth 100000 in
theorem voteTurns_lifted (os : Os) (started : os.Started) (H : Type) (enc : TypeId × Value → H) :
    ReturnsInHanded {} Try.checked os 5 .any (Rows.voteTurnsSpec.pre6 enc Try.prog Try.f5 Rows.voteTurnsRow.domain false) (Rows.voteTurnsSpec.post enc Try.prog Try.f5 false true false false) :=
  row_lifted (C := Try.checked) (tb := 4) Try.tab (by kernel_rfl) started (by kernel_rfl) Try.func5
    (ChangeSpec.witness6 (enc := enc) (C := Try.checked) false ⟨#[], #[.slice none 0 0, .int .i64 0], []⟩ 8 (by kernel_rfl) (by kernel_rfl) (by kernel_rfl) (by kernel_rfl))
    rfl rfl Try.underlying4
    (fun ds h => by
      match ds, h with
      | [_, _], _ => exact ⟨rfl, rfl, rfl⟩)
    (by kernel_rfl) voteTurns_all
theorem voteTurns_holds : Rows.VoteTurnsSaid :=
  OpenClaim.holds_of_wide 5 Try.f5 rfl rfl rfl rfl rfl rfl rfl ⟨rfl, rfl, rfl, rfl, rfl⟩ rfl rfl rfl rfl rfl (by kernel_rfl) Try.func5 (by kernel_rfl)
    (of_decide_eq_true (by kernel_rfl)) (by unfold Func.isWrapper; first | (rw [if_pos (by decide +kernel)]; kernel_rfl) | (rw [if_neg (by decide +kernel)]; exact ⟨rfl, rfl⟩))
    (fun os started H enc _ => voteTurns_lifted os started H enc)
#print axioms voteTurns_holds
end Go.Proofs.Ytdacplfmpjhjhaa
