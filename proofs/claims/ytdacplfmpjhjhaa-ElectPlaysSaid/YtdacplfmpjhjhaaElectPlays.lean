/- ElectPlays: whatever vote, whatever is heard, whatever config: the law of layer 18 answers true, and what came in reads as before. No condition. -/
import Derived.Test.YtdacplfmpjhjhaaEE
import Derived.Test.YtdacplfmpjhjhaaWP
import Derived.Test.YtdacplfmpjhjhaaQO
import Derived.Test.YtdacplfmpjhjhaaRows
import Derived.ProofKit
-- ALIAS Try
namespace Go.Proofs.Ytdacplfmpjhjhaa
open Go Go.Av Go.ChangeShapes Go.WideShapes Go.ChangeAt Go.RowKit
theorem electPlays_all (ps : List PV) (h : ShTs Try.T Try.f6.params.toList ps) : ACon Try.prog 6 (ps.map .p) (.p (B true)) := by
  have hp : Try.f6.params.toList = [26, 22, 36] := by kernel_rfl
  rw [hp] at h
  match ps, h with
  | [p0, p1, p2], ⟨h0, h1, h2, _⟩ =>
    obtain ⟨v, rfl⟩ := Vt.open h0
    obtain ⟨l, rfl⟩ := vts_open h1
    obtain ⟨c, rfl⟩ := cf_open h2
    exact electPlays_con v l c
set_option maxRecDepth 100000 in
theorem electPlays_lifted (os : Os) (started : os.Started) (H : Type) (enc : TypeId × Value → H) :
    ReturnsInHanded {} Try.checked os 6 .any (Rows.electPlaysSpec.pre6 enc Try.prog Try.f6 Rows.electPlaysRow.domain false) (Rows.electPlaysSpec.post enc Try.prog Try.f6 false true false false) :=
  row_lifted (C := Try.checked) (tb := 4) Try.tab (by kernel_rfl) started (by kernel_rfl) Try.func6
    (ChangeSpec.witness6 (enc := enc) (C := Try.checked) false ⟨#[], #[.agg #[.int .i64 0, .int .i64 0, .int .i64 0, .int .i64 0, .int .i64 0, .int .i64 0, .int .i64 0], .slice none 0 0, .agg #[.int .i64 0, .int .i64 0, .int .i64 0, .slice none 0 0]], []⟩ 8 (by kernel_rfl) (by kernel_rfl) (by kernel_rfl) (by kernel_rfl))
    rfl rfl Try.underlying4
    (fun ds h => by
      match ds, h with
      | [_, _, _], _ => exact ⟨rfl, rfl, rfl⟩)
    (by kernel_rfl) electPlays_all
theorem electPlays_holds : Rows.ElectPlaysSaid :=
  OpenClaim.holds_of_wide 6 Try.f6 rfl rfl rfl rfl rfl rfl rfl ⟨rfl, rfl, rfl, rfl, rfl⟩ rfl rfl rfl rfl rfl (by kernel_rfl) Try.func6 (by kernel_rfl)
    (of_decide_eq_true (by kernel_rfl)) (by unfold Func.isWrapper; first | (rw [if_pos (by decide +kernel)]; kernel_rfl) | (rw [if_neg (by decide +kernel)]; exact ⟨rfl, rfl⟩))
    (fun os started H enc _ => electPlays_lifted os started H enc)
#print axioms electPlays_holds
end Go.Proofs.Ytdacplfmpjhjhaa
