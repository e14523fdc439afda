/- DeltaOne: where a participant comes or goes one by one, by heads, each quorum ahead meets each quorum behind. No condition. -/
import Derived.Test.YtiemabhnhgablaaDO
import Derived.Test.YtiemabhnhgablaaDM
import Derived.Test.YtiemabhnhgablaaRows
import Derived.ProofKit
-- ALIAS Try
set_option linter.unusedVariables false
namespace Go.Proofs.Ytiemabhnhgablaa
open Go Go.Av Go.ChangeShapes Go.WideShapes Go.ChangeAt Go.RowKit
theorem two_open {p : PV} (hp : ShT Try.T 38 p) : ∃ a b : List Int, p = .agg [.sl 1 (ints a), .sl 1 (ints b)] := by
  obtain ⟨ps, rfl, h⟩ := hp.agg (E := [.sl [.int .i64], .sl [.int .i64]]) rfl rfl rfl
  obtain ⟨_, _, rfl, h0, h⟩ := h.cons
  obtain ⟨_, _, rfl, h1, h⟩ := h.cons
  obtain rfl := h.nil
  obtain ⟨a, rfl⟩ := h0.slI (f := fun n => [I n]) fun ps h => by
    obtain ⟨_, _, rfl, h0, h⟩ := h.cons
    obtain rfl := h.nil
    obtain ⟨n, rfl, -⟩ := h0.intI
    exact ⟨n, rfl⟩
  obtain ⟨b, rfl⟩ := h1.slI (f := fun n => [I n]) fun ps h => by
    obtain ⟨_, _, rfl, h0, h⟩ := h.cons
    obtain rfl := h.nil
    obtain ⟨n, rfl, -⟩ := h0.intI
    exact ⟨n, rfl⟩
  exact ⟨a, b, rfl⟩
theorem deltaOne_all (ps : List PV) (h : ShTs Try.T Try.f4.params.toList ps) : ACon Try.prog 4 (ps.map .p) (.p (B true)) := by
  have hp : Try.f4.params.toList = [26, 30, 38] := by kernel_rfl
  rw [hp] at h
  match ps, h with
  | [p0, p1, p2], ⟨h0, h1, h2, _⟩ =>
    obtain ⟨a, rfl⟩ := cf_open h0
    obtain ⟨b, rfl⟩ := dl_open h1
    obtain ⟨s0, s1, rfl⟩ := two_open h2
    exact deltaOne_con a b s0 s1
set_option maxRecDepth 100000 in
theorem deltaOne_lifted (os : Os) (started : os.Started) (H : Type) (enc : TypeId × Value → H) :
    ReturnsInHanded {} Try.checked os 4 .any (Rows.deltaOneSpec.pre6 enc Try.prog Try.f4 Rows.deltaOneRow.domain false) (Rows.deltaOneSpec.post enc Try.prog Try.f4 false true false false) :=
  row_lifted (C := Try.checked) (tb := 4) Try.tab (by kernel_rfl) started (by kernel_rfl) Try.func4
    (ChangeSpec.witness6 (enc := enc) (C := Try.checked) false ⟨#[], #[.agg #[.int .i64 0, .int .i64 0, .int .i64 0, .slice none 0 0], .agg #[.int .i64 0, .slice none 0 0, .slice none 0 0], .agg #[.slice none 0 0, .slice none 0 0]], []⟩ 8 (by kernel_rfl) (by kernel_rfl) (by kernel_rfl) (by kernel_rfl))
    rfl rfl Try.underlying4
    (fun ds h => by
      match ds, h with
      | [_, _, _], _ => exact ⟨rfl, rfl, rfl⟩)
    (by kernel_rfl) deltaOne_all ⟨Try.f4, Try.func4, rfl, rfl⟩
theorem deltaOne_holds : Rows.DeltaOneSaid :=
  OpenClaim.holds_of_wide 4 Try.f4 rfl rfl rfl rfl rfl rfl rfl ⟨rfl, rfl, rfl, rfl, rfl⟩ rfl rfl rfl rfl rfl (by kernel_rfl) Try.func4 (by kernel_rfl)
    (of_decide_eq_true (by kernel_rfl)) (by unfold Func.isWrapper; first | (rw [if_pos (by decide +kernel)]; kernel_rfl) | (rw [if_neg (by decide +kernel)]; exact ⟨rfl, rfl⟩))
    (fun os started H enc _ => deltaOne_lifted os started H enc)
#print axioms deltaOne_holds
end Go.Proofs.Ytiemabhnhgablaa
