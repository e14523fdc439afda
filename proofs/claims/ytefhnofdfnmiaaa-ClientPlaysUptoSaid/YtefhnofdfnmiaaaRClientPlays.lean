/- ClientPlays: a client, whatever happens to it, is behind each event as the document says, says the words and ends the requests that the document says: the law of layer 26 answers true, where what comes in is of bulk at most 1048576 (the second form). -/
import Derived.Test.YtefhnofdfnmiaaaP27ClientPlays
import Derived.Test.YtefhnofdfnmiaaaRows
import Derived.ProofKit
import Derived.JoinedCond
-- ALIAS Try
set_option linter.unusedVariables false
namespace Go.Proofs.Ytefhnofdfnmiaaa
open Go Go.Av Go.ChangeShapes Go.WideShapes Go.ChangeAt Go.RowKit
theorem clientPlays_all (ps : List PV) (h : ShTs Try.T Try.f3.params.toList ps) (hz : ∀ p ∈ ps, SzI K1 1048576 p) : ACon Try.prog 3 (ps.map .p) (.p (B true)) := by
  have hp : Try.f3.params.toList = [3, 22] := by kernel_rfl
  rw [hp] at h
  match ps, h, hz with
  | [p0, p1], ⟨h0, h1, _⟩, hz =>
    obtain ⟨n, rfl⟩ := int_open h0
    obtain ⟨l, rfl, hl, hl2⟩ := evs_openU h1 (hz _ (by simp))
    exact clientPlays_con n l hl (by omega)
set_option maxRecDepth 100000 in
theorem clientPlays_lifted (os : Os) (started : os.Started) (H : Type) (enc : TypeId × Value → H) (F : Stop.Interp) :
    ReturnsInHanded {} Try.checked os 3 .any ((Rows.OpenSpec.upto Rows.clientPlaysSpec).pre6 enc Try.prog Try.f3 Rows.clientPlaysUptoRow.domain false) (((Rows.OpenSpec.upto Rows.clientPlaysSpec).at F).post enc Try.prog Try.f3 false true false false) := by
  refine returnsInHanded_of_cond (C := Try.checked) (s := Rows.OpenSpec.upto Rows.clientPlaysSpec) (k := Rows.uptoSmall) rfl (by kernel_rfl) started (by kernel_rfl) Try.func3
    (OpenSpec.witness (enc := enc) (C := Try.checked) (s := Rows.OpenSpec.upto Rows.clientPlaysSpec) (k := Rows.uptoSmall) rfl false ⟨#[], #[.int .i64 0, .slice none 0 0], []⟩ 8 (by kernel_rfl) (by kernel_rfl) (by kernel_rfl)
      (x := ([.lit (.int .i64 0), .nil], [], [])) (by kernel_rfl) rfl (by kernel_rfl)) ?_
  intro W base args ds gs before hval hW _ hk _
  exact row_postD (s := Rows.clientPlaysSpec) (tb := 4) Try.tab (bddU Try.T) rfl rfl Try.underlying4
    (fun ds h => by
      match ds, h with
      | [_, _], _ => exact ⟨rfl, rfl, rfl⟩)
    (by kernel_rfl) ⟨Try.f3, Try.func3, rfl, rfl⟩ hval hW (fun g e he => by cases he) (fun j t d _ hd => upto_arg hk hd) clientPlays_all
theorem clientPlays_holds : Rows.ClientPlaysUptoSaid :=
  OpenClaim.holds_of_cond 3 Try.f3 rfl rfl rfl rfl rfl rfl rfl ⟨rfl, rfl, rfl, rfl, rfl⟩ rfl rfl rfl rfl rfl (by kernel_rfl) Try.func3 (by kernel_rfl)
    (of_decide_eq_true (by kernel_rfl)) (by unfold Func.isWrapper; first | (rw [if_pos (by decide +kernel)]; kernel_rfl) | (rw [if_neg (by decide +kernel)]; exact ⟨rfl, rfl⟩))
    (fun os started H enc _ F => clientPlays_lifted os started H enc F)
#print axioms clientPlays_holds
end Go.Proofs.Ytefhnofdfnmiaaa

