/- ElectOne: whatever config, whatever histories, whatever order: the law of layer 18 answers true, and what came in reads as before. No condition. -/
import Derived.Test.YtdacplfmpjhjhaaEH
import Derived.Test.YtdacplfmpjhjhaaWP
import Derived.Test.YtdacplfmpjhjhaaQO
import Derived.Test.YtdacplfmpjhjhaaRows
import Derived.ProofKit
-- ALIAS Try
set_option linter.unusedVariables false
namespace Go.Proofs.Ytdacplfmpjhjhaa
open Go Go.Av Go.ChangeShapes Go.WideShapes Go.ChangeAt Go.RowKit
theorem Pr.ofL {ps : List PV} (h : ShL [.int .i64, .int .i64] ps) : ∃ a : Pr, ps = a.cells := by
  obtain ⟨_, _, rfl, h0, h⟩ := h.cons
  obtain ⟨_, _, rfl, h1, h⟩ := h.cons
  obtain rfl := h.nil
  obtain ⟨_, rfl, -⟩ := h0.intI
  obtain ⟨_, rfl, -⟩ := h1.intI
  exact ⟨⟨_, _⟩, rfl⟩
theorem ord_open {p : PV} (hp : ShT Try.T 56 p) : ∃ l : List Pr, p = .sl 2 (prs l) :=
  (hp.one (f := .sl [.int .i64, .int .i64]) rfl rfl rfl).slI (f := Pr.cells) fun ps h => Pr.ofL h
theorem electOne_all (ps : List PV) (h : ShTs Try.T Try.f8.params.toList ps) : ACon Try.prog 8 (ps.map .p) (.p (B true)) := by
  have hp : Try.f8.params.toList = [36, 22, 56] := by kernel_rfl
  rw [hp] at h
  match ps, h with
  | [p0, p1, p2], ⟨h0, h1, h2, _⟩ =>
    obtain ⟨c, rfl⟩ := cf_open h0
    obtain ⟨l, rfl⟩ := vts_open h1
    obtain ⟨o, rfl⟩ := ord_open h2
    exact electOne_con c l o
set_option maxRecDepth 100000 in
theorem electOne_lifted (os : Os) (started : os.Started) (H : Type) (enc : TypeId × Value → H) :
    ReturnsInHanded {} Try.checked os 8 .any (Rows.electOneSpec.pre6 enc Try.prog Try.f8 Rows.electOneRow.domain false) (Rows.electOneSpec.post enc Try.prog Try.f8 false true false false) :=
  row_lifted (C := Try.checked) (tb := 4) Try.tab (by kernel_rfl) started (by kernel_rfl) Try.func8
    (ChangeSpec.witness6 (enc := enc) (C := Try.checked) false ⟨#[], #[.agg #[.int .i64 0, .int .i64 0, .int .i64 0, .slice none 0 0], .slice none 0 0, .slice none 0 0], []⟩ 8 (by kernel_rfl) (by kernel_rfl) (by kernel_rfl) (by kernel_rfl))
    rfl rfl Try.underlying4
    (fun ds h => by
      match ds, h with
      | [_, _, _], _ => exact ⟨rfl, rfl, rfl⟩)
    (by kernel_rfl) electOne_all
theorem electOne_holds : Rows.ElectOneSaid :=
  OpenClaim.holds_of_wide 8 Try.f8 rfl rfl rfl rfl rfl rfl rfl ⟨rfl, rfl, rfl, rfl, rfl⟩ rfl rfl rfl rfl rfl (by kernel_rfl) Try.func8 (by kernel_rfl)
    (of_decide_eq_true (by kernel_rfl)) (by unfold Func.isWrapper; first | (rw [if_pos (by decide +kernel)]; kernel_rfl) | (rw [if_neg (by decide +kernel)]; exact ⟨rfl, rfl⟩))
    (fun os started H enc _ => electOne_lifted os started H enc)
#print axioms electOne_holds
end Go.Proofs.Ytdacplfmpjhjhaa
