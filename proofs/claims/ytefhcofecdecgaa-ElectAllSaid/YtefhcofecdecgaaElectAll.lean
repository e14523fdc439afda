/- ElectAll: whatever config, whatever histories at the start: the law of layer 18 answers true, and what came in reads as before. No condition. -/
import Derived.Test.YtefhcofecdecgaaEJ
import Derived.Test.YtefhcofecdecgaaWP
import Derived.Test.YtefhcofecdecgaaQO
import Derived.Test.YtefhcofecdecgaaRows
import Derived.ProofKit
-- ALIAS Try
set_option linter.unusedVariables false
namespace Go.Proofs.Ytefhcofecdecgaa
open Go Go.Av Go.ChangeShapes Go.WideShapes Go.ChangeAt Go.RowKit
theorem electAll_all (ps : List PV) (h : ShTs Try.T Try.f10.params.toList ps) : ACon Try.prog 10 (ps.map .p) (.p (B true)) := by
  have hp : Try.f10.params.toList = [26, 35] := by kernel_rfl
  rw [hp] at h
  match ps, h with
  | [p0, p1], ⟨h0, h1, _⟩ =>
    obtain ⟨c, rfl⟩ := cf_open h0
    obtain ⟨l, rfl⟩ := vts_open h1
    exact electAll_con c l
set_option maxRecDepth 100000 in
theorem electAll_lifted (os : Os) (started : os.Started) (H : Type) (enc : TypeId × Value → H) :
    ReturnsInHanded {} Try.checked os 10 .any (Rows.electAllSpec.pre6 enc Try.prog Try.f10 Rows.electAllRow.domain false) (Rows.electAllSpec.post enc Try.prog Try.f10 false true false false) :=
  row_lifted (C := Try.checked) (tb := 4) Try.tab (by kernel_rfl) started (by kernel_rfl) Try.func10
    (ChangeSpec.witness6 (enc := enc) (C := Try.checked) false ⟨#[], #[.agg #[.int .i64 0, .int .i64 0, .int .i64 0, .slice none 0 0], .slice none 0 0], []⟩ 8 (by kernel_rfl) (by kernel_rfl) (by kernel_rfl) (by kernel_rfl))
    rfl rfl Try.underlying4
    (fun ds h => by
      match ds, h with
      | [_, _], _ => exact ⟨rfl, rfl, rfl⟩)
    (by kernel_rfl) electAll_all
theorem electAll_holds : Rows.ElectAllSaid :=
  OpenClaim.holds_of_wide 10 Try.f10 rfl rfl rfl rfl rfl rfl rfl ⟨rfl, rfl, rfl, rfl, rfl⟩ rfl rfl rfl rfl rfl (by kernel_rfl) Try.func10 (by kernel_rfl)
    (of_decide_eq_true (by kernel_rfl)) (by unfold Func.isWrapper; first | (rw [if_pos (by decide +kernel)]; kernel_rfl) | (rw [if_neg (by decide +kernel)]; exact ⟨rfl, rfl⟩))
    (fun os started H enc _ => electAll_lifted os started H enc)
#print axioms electAll_holds
end Go.Proofs.Ytefhcofecdecgaa
