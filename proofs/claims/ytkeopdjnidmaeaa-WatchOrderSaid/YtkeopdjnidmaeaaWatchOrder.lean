/- WatchOrder: watches that are added one by one, in any order, make one list, each once. No condition. -/
import Derived.Test.YtkeopdjnidmaeaaWF
import Derived.Test.YtkeopdjnidmaeaaAvRow
import Derived.Test.YtkeopdjnidmaeaaRows
import Derived.ProofKit
-- ALIAS Try
set_option linter.unusedVariables false
namespace Go.Proofs.Ytkeopdjnidmaeaa
open Go Go.Av Go.ChangeShapes Go.WideShapes Go.ChangeAt Go.RowKit
theorem wtp_open {p : PV} (hp : ShT Try.T 22 p) : ∃ l : List Wt, (∀ w ∈ l, w.p.length ≤ 9223372036854775807) ∧ p = .sl 3 (wts l) := by
  obtain ⟨l, rfl⟩ := (hp.one (f := .sl [.int .i64, .int .i64, .str]) rfl rfl rfl).slI (f := fun w : {w : Wt // w.p.length ≤ 9223372036854775807} => w.1.c) fun ps h => by
    obtain ⟨_, _, rfl, h0, h⟩ := h.cons
    obtain ⟨_, _, rfl, h1, h⟩ := h.cons
    obtain ⟨_, _, rfl, h2, h⟩ := h.cons
    obtain rfl := h.nil
    obtain ⟨x, rfl, -⟩ := h0.intI
    obtain ⟨y, rfl, -⟩ := h1.intI
    obtain ⟨s, rfl, hs⟩ := h2.strI
    have h1 : s.data.toList.length = s.size := Array.length_toList
    have h2 : maxLen = 9223372036854775807 := rfl
    exact ⟨⟨⟨x, y, s.data.toList⟩, by show s.data.toList.length ≤ _; omega⟩, rfl⟩
  refine ⟨l.map (·.1), fun w hw => ?_, by simp [wts]⟩
  obtain ⟨⟨a, ha⟩, -, rfl⟩ := List.mem_map.1 hw
  exact ha
theorem watchOrder_all (ps : List PV) (h : ShTs Try.T Try.f4.params.toList ps) : ACon Try.prog 4 (ps.map .p) (.p (B true)) := by
  have hp : Try.f4.params.toList = [22, 3] := by kernel_rfl
  rw [hp] at h
  match ps, h with
  | [p0, p1], ⟨h0, h1, _⟩ =>
    obtain ⟨l, hl, rfl⟩ := wtp_open h0
    obtain ⟨t, rfl, -⟩ := (h1.one (f := .int .i64) rfl rfl rfl).intI
    exact watchOrder_con l t hl
set_option maxRecDepth 100000 in
theorem watchOrder_lifted (os : Os) (started : os.Started) (H : Type) (enc : TypeId × Value → H) :
    ReturnsInHanded {} Try.checked os 4 .any (Rows.watchOrderSpec.pre6 enc Try.prog Try.f4 Rows.watchOrderRow.domain false) (Rows.watchOrderSpec.post enc Try.prog Try.f4 false true false false) :=
  row_lifted (C := Try.checked) (tb := 4) Try.tab (by kernel_rfl) started (by kernel_rfl) Try.func4
    (ChangeSpec.witness6 (enc := enc) (C := Try.checked) false ⟨#[], #[.slice none 0 0, .int .i64 0], []⟩ 8 (by kernel_rfl) (by kernel_rfl) (by kernel_rfl) (by kernel_rfl))
    rfl rfl Try.underlying4
    (fun ds h => by
      match ds, h with
      | [_, _], _ => exact ⟨rfl, rfl, rfl⟩)
    (by kernel_rfl) watchOrder_all ⟨Try.f4, Try.func4, rfl, rfl⟩
theorem watchOrder_holds : Rows.WatchOrderSaid :=
  OpenClaim.holds_of_wide 4 Try.f4 rfl rfl rfl rfl rfl rfl rfl ⟨rfl, rfl, rfl, rfl, rfl⟩ rfl rfl rfl rfl rfl (by kernel_rfl) Try.func4 (by kernel_rfl)
    (of_decide_eq_true (by kernel_rfl)) (by unfold Func.isWrapper; first | (rw [if_pos (by decide +kernel)]; kernel_rfl) | (rw [if_neg (by decide +kernel)]; exact ⟨rfl, rfl⟩))
    (fun os started H enc _ => watchOrder_lifted os started H enc)
#print axioms watchOrder_holds
end Go.Proofs.Ytkeopdjnidmaeaa
