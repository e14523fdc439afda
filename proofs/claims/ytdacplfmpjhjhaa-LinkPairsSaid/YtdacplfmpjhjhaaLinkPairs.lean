/- LinkPairs: any pairs: the law of layer 25 answers true, and what came in reads as before. No condition. -/
import Derived.Test.YtdacplfmpjhjhaaLQ
import Derived.Test.YtdacplfmpjhjhaaAvRow
import Derived.Test.YtdacplfmpjhjhaaRows
import Derived.ProofKit
-- ALIAS Try
set_option linter.unusedVariables false
namespace Go.Proofs.Ytdacplfmpjhjhaa
open Go Go.Av Go.ChangeShapes Go.WideShapes Go.ChangeAt Go.RowKit
theorem Pr.ofL {ps : List PV} (h : ShL [.int .i64, .int .i64] ps) : ∃ a : Pr, ps = a.cells := by
  obtain ⟨_, _, rfl, h0, h⟩ := h.cons
  obtain ⟨_, _, rfl, h1, h⟩ := h.cons
  obtain rfl := h.nil
  obtain ⟨_, rfl, -⟩ := h0.intI
  obtain ⟨_, rfl, -⟩ := h1.intI
  exact ⟨⟨_, _⟩, rfl⟩
theorem prs_open {p : PV} (hp : ShT Try.T 80 p) : ∃ l : List Pr, p = .sl 2 (prs l) :=
  (hp.one (f := .sl [.int .i64, .int .i64]) rfl rfl rfl).slI (f := Pr.cells) fun ps h => Pr.ofL h
theorem linkPairs_all (ps : List PV) (h : ShTs Try.T Try.f12.params.toList ps) : ACon Try.prog 12 (ps.map .p) (.p (B true)) := by
  have hp : Try.f12.params.toList = [80, 3, 3] := by kernel_rfl
  rw [hp] at h
  match ps, h with
  | [p0, p1, p2], ⟨h0, h1, h2, _⟩ =>
    obtain ⟨l, rfl⟩ := prs_open h0
    obtain ⟨a, rfl, -⟩ := (h1.one (f := .int .i64) rfl rfl rfl).intI
    obtain ⟨b, rfl, -⟩ := (h2.one (f := .int .i64) rfl rfl rfl).intI
    exact linkPairs_con l a b
set_option maxRecDepth 100000 in
theorem linkPairs_lifted (os : Os) (started : os.Started) (H : Type) (enc : TypeId × Value → H) :
    ReturnsInHanded {} Try.checked os 12 .any (Rows.linkPairsSpec.pre6 enc Try.prog Try.f12 Rows.linkPairsRow.domain false) (Rows.linkPairsSpec.post enc Try.prog Try.f12 false true false false) :=
  row_lifted (C := Try.checked) (tb := 4) Try.tab (by kernel_rfl) started (by kernel_rfl) Try.func12
    (ChangeSpec.witness6 (enc := enc) (C := Try.checked) false ⟨#[], #[.slice none 0 0, .int .i64 0, .int .i64 0], []⟩ 8 (by kernel_rfl) (by kernel_rfl) (by kernel_rfl) (by kernel_rfl))
    rfl rfl Try.underlying4
    (fun ds h => by
      match ds, h with
      | [_, _, _], _ => exact ⟨rfl, rfl, rfl⟩)
    (by kernel_rfl) linkPairs_all
theorem linkPairs_holds : Rows.LinkPairsSaid :=
  OpenClaim.holds_of_wide 12 Try.f12 rfl rfl rfl rfl rfl rfl rfl ⟨rfl, rfl, rfl, rfl, rfl⟩ rfl rfl rfl rfl rfl (by kernel_rfl) Try.func12 (by kernel_rfl)
    (of_decide_eq_true (by kernel_rfl)) (by unfold Func.isWrapper; first | (rw [if_pos (by decide +kernel)]; kernel_rfl) | (rw [if_neg (by decide +kernel)]; exact ⟨rfl, rfl⟩))
    (fun os started H enc _ => linkPairs_lifted os started H enc)
#print axioms linkPairs_holds
end Go.Proofs.Ytdacplfmpjhjhaa
