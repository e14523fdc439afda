/- LinkTakes: the messages that may come, the one taken, and what is lost are what the document says: the law of layer 25 answers true, where what comes in is of bulk at most 1048576 (the second form). -/
import Derived.Test.YtechjohebkcjiaaP24LinkTakes
import Derived.Test.YtechjohebkcjiaaP36LinkTakes
import Derived.Test.YtechjohebkcjiaaRows
import Derived.ProofKit
import Derived.JoinedCond
-- ALIAS Try
set_option linter.unusedVariables false
namespace Go.Proofs.Ytechjohebkcjiaa
open Go Go.Av Go.ChangeShapes Go.WideShapes Go.ChangeAt Go.RowKit
theorem linkTakes_all (ps : List PV) (h : ShTs Try.T Try.f3.params.toList ps) (hz : ∀ p ∈ ps, SzI K1 1048576 p) : ACon Try.prog 3 (ps.map .p) (.p (B true)) := by
  have hp : Try.f3.params.toList = [22, 3, 23] := by kernel_rfl
  rw [hp] at h
  match ps, h, hz with
  | [p0, p1, p2], ⟨h0, h1, h2, _⟩, hz =>
    obtain ⟨l, rfl, hl1, hl2⟩ := mqs_open h0 (hz _ (by simp))
    obtain ⟨k, rfl⟩ := int_open h1
    obtain ⟨a, b, rfl⟩ := arr2_open h2
    exact linkTakes_con l k a b hl1 hl2
set_option maxRecDepth 100000 in
theorem linkTakes_lifted (os : Os) (started : os.Started) (H : Type) (enc : TypeId × Value → H) (F : Stop.Interp) :
    ReturnsInHanded {} Try.checked os 3 .any ((Rows.OpenSpec.upto Rows.linkTakesSpec).pre6 enc Try.prog Try.f3 Rows.linkTakesUptoRow.domain false) (((Rows.OpenSpec.upto Rows.linkTakesSpec).at F).post enc Try.prog Try.f3 false true false false) := by
  refine returnsInHanded_of_cond (C := Try.checked) (s := Rows.OpenSpec.upto Rows.linkTakesSpec) (k := Rows.uptoSmall) rfl (by kernel_rfl) started (by kernel_rfl) Try.func3
    (OpenSpec.witness (enc := enc) (C := Try.checked) (s := Rows.OpenSpec.upto Rows.linkTakesSpec) (k := Rows.uptoSmall) rfl false ⟨#[], #[.slice none 0 0, .int .i64 0, .agg #[.int .i64 0, .int .i64 0]], []⟩ 8 (by kernel_rfl) (by kernel_rfl) (by kernel_rfl)
      (x := ([.nil, .lit (.int .i64 0), .agg [.lit (.int .i64 0), .lit (.int .i64 0)]], [], [])) (by kernel_rfl) rfl (by kernel_rfl)) ?_
  intro W base args ds gs before hval hW _ hk _
  exact row_postD (s := Rows.linkTakesSpec) (tb := 4) Try.tab (bddU Try.T) rfl rfl Try.underlying4
    (fun ds h => by
      match ds, h with
      | [_, _, _], _ => exact ⟨rfl, rfl, rfl⟩)
    (by kernel_rfl) ⟨Try.f3, Try.func3, rfl, rfl⟩ hval hW (fun g e he => by cases he) (fun j t d _ hd => upto_arg hk hd) linkTakes_all
theorem linkTakes_holds : Rows.LinkTakesUptoSaid :=
  OpenClaim.holds_of_cond 3 Try.f3 rfl rfl rfl rfl rfl rfl rfl ⟨rfl, rfl, rfl, rfl, rfl⟩ rfl rfl rfl rfl rfl (by kernel_rfl) Try.func3 (by kernel_rfl)
    (of_decide_eq_true (by kernel_rfl)) (by unfold Func.isWrapper; first | (rw [if_pos (by decide +kernel)]; kernel_rfl) | (rw [if_neg (by decide +kernel)]; exact ⟨rfl, rfl⟩))
    (fun os started H enc _ F => linkTakes_lifted os started H enc F)
#print axioms linkTakes_holds
end Go.Proofs.Ytechjohebkcjiaa

