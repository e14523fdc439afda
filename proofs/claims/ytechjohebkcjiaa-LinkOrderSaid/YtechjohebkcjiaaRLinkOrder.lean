/- LinkOrder: messages of a few servers, sent and taken in any order, come to each from each other in the order in which they were sent, and in the end all: the law of layer 25 answers true. No condition. -/
import Derived.Test.YtechjohebkcjiaaP23LinkOrder
import Derived.Test.YtechjohebkcjiaaP20LinkOrder
import Derived.Test.YtechjohebkcjiaaRows
import Derived.ProofKit
-- ALIAS Try
set_option linter.unusedVariables false
namespace Go.Proofs.Ytechjohebkcjiaa
open Go Go.Av Go.ChangeShapes Go.WideShapes Go.ChangeAt Go.RowKit
theorem zis_openL {p : PV} (hp : ShT Try.T 32 p) : ∃ l : List Int, p = .sl 1 (zis l) :=
  (hp.one (f := .sl [.int .i64]) rfl rfl rfl).slI (f := fun x : Int => [I x]) fun ps h => by
    obtain ⟨_, _, rfl, h0, h⟩ := h.cons
    obtain rfl := h.nil
    obtain ⟨x, rfl, -⟩ := h0.intI
    exact ⟨x, rfl⟩
theorem two_openL {p : PV} (hp : ShT Try.T 61 p) : ∃ l : List Pr, p = .sl 2 (prs l) :=
  (hp.one (f := .sl [.int .i64, .int .i64]) rfl rfl rfl).slI (f := Pr.cells) fun ps h => by
    obtain ⟨_, _, rfl, h0, h⟩ := h.cons
    obtain ⟨_, _, rfl, h1, h⟩ := h.cons
    obtain rfl := h.nil
    obtain ⟨_, rfl, -⟩ := h0.intI
    obtain ⟨_, rfl, -⟩ := h1.intI
    exact ⟨⟨_, _⟩, rfl⟩
theorem linkOrder_all (ps : List PV) (h : ShTs Try.T Try.f4.params.toList ps) : ACon Try.prog 4 (ps.map .p) (.p (B true)) := by
  have hp : Try.f4.params.toList = [61, 32] := by kernel_rfl
  rw [hp] at h
  match ps, h with
  | [p0, p1], ⟨h0, h1, _⟩ =>
    obtain ⟨s, rfl⟩ := two_openL h0
    obtain ⟨l, rfl⟩ := zis_openL h1
    exact linkOrder_con s l
set_option maxRecDepth 100000 in
theorem linkOrder_lifted (os : Os) (started : os.Started) (H : Type) (enc : TypeId × Value → H) :
    ReturnsInHanded {} Try.checked os 4 .any (Rows.linkOrderSpec.pre6 enc Try.prog Try.f4 Rows.linkOrderRow.domain false) (Rows.linkOrderSpec.post enc Try.prog Try.f4 false true false false) :=
  row_lifted (C := Try.checked) (tb := 4) Try.tab (by kernel_rfl) started (by kernel_rfl) Try.func4
    (ChangeSpec.witness6 (enc := enc) (C := Try.checked) false ⟨#[], #[.slice none 0 0, .slice none 0 0], []⟩ 8 (by kernel_rfl) (by kernel_rfl) (by kernel_rfl) (by kernel_rfl))
    rfl rfl Try.underlying4
    (fun ds h => by
      match ds, h with
      | [_, _], _ => exact ⟨rfl, rfl, rfl⟩)
    (by kernel_rfl) linkOrder_all ⟨Try.f4, Try.func4, rfl, rfl⟩
theorem linkOrder_holds : Rows.LinkOrderSaid :=
  OpenClaim.holds_of_wide 4 Try.f4 rfl rfl rfl rfl rfl rfl rfl ⟨rfl, rfl, rfl, rfl, rfl⟩ rfl rfl rfl rfl rfl (by kernel_rfl) Try.func4 (by kernel_rfl)
    (of_decide_eq_true (by kernel_rfl)) (by unfold Func.isWrapper; first | (rw [if_pos (by decide +kernel)]; kernel_rfl) | (rw [if_neg (by decide +kernel)]; exact ⟨rfl, rfl⟩))
    (fun os started H enc _ => linkOrder_lifted os started H enc)
#print axioms linkOrder_holds
end Go.Proofs.Ytechjohebkcjiaa

