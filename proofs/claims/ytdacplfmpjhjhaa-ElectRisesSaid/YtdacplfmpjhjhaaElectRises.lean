/- ElectRises: whatever vote, whatever is heard, whoever votes: the law of layer 18 answers true, and what came in reads as before. No condition. -/
import Derived.Test.YtdacplfmpjhjhaaEF
import Derived.Test.YtdacplfmpjhjhaaWP
import Derived.Test.YtdacplfmpjhjhaaQO
import Derived.Test.YtdacplfmpjhjhaaRows
import Derived.ProofKit
-- ALIAS Try
namespace Go.Proofs.Ytdacplfmpjhjhaa
open Go Go.Av Go.ChangeShapes Go.WideShapes Go.ChangeAt Go.RowKit
theorem electRises_all (ps : List PV) (h : ShTs Try.T Try.f7.params.toList ps) : ACon Try.prog 7 (ps.map .p) (.p (B true)) := by
  have hp : Try.f7.params.toList = [26, 22, 31] := by kernel_rfl
  rw [hp] at h
  match ps, h with
  | [p0, p1, p2], ⟨h0, h1, h2, _⟩ =>
    obtain ⟨v, rfl⟩ := Vt.open h0
    obtain ⟨l, rfl⟩ := vts_open h1
    obtain ⟨c, rfl⟩ := ints_open h2
    exact electRises_con v l c
set_option maxRecDepth 100000 in
theorem electRises_lifted (os : Os) (started : os.Started) (H : Type) (enc : TypeId × Value → H) :
    ReturnsInHanded {} Try.checked os 7 .any (Rows.electRisesSpec.pre6 enc Try.prog Try.f7 Rows.electRisesRow.domain false) (Rows.electRisesSpec.post enc Try.prog Try.f7 false true false false) :=
  row_lifted (C := Try.checked) (tb := 4) Try.tab (by kernel_rfl) started (by kernel_rfl) Try.func7
    (ChangeSpec.witness6 (enc := enc) (C := Try.checked) false ⟨#[], #[.agg #[.int .i64 0, .int .i64 0, .int .i64 0, .int .i64 0, .int .i64 0, .int .i64 0, .int .i64 0], .slice none 0 0, .slice none 0 0], []⟩ 8 (by kernel_rfl) (by kernel_rfl) (by kernel_rfl) (by kernel_rfl))
    rfl rfl Try.underlying4
    (fun ds h => by
      match ds, h with
      | [_, _, _], _ => exact ⟨rfl, rfl, rfl⟩)
    (by kernel_rfl) electRises_all
theorem electRises_holds : Rows.ElectRisesSaid :=
  OpenClaim.holds_of_wide 7 Try.f7 rfl rfl rfl rfl rfl rfl rfl ⟨rfl, rfl, rfl, rfl, rfl⟩ rfl rfl rfl rfl rfl (by kernel_rfl) Try.func7 (by kernel_rfl)
    (of_decide_eq_true (by kernel_rfl)) (by unfold Func.isWrapper; first | (rw [if_pos (by decide +kernel)]; kernel_rfl) | (rw [if_neg (by decide +kernel)]; exact ⟨rfl, rfl⟩))
    (fun os started H enc _ => electRises_lifted os started H enc)
#print axioms electRises_holds
end Go.Proofs.Ytdacplfmpjhjhaa
