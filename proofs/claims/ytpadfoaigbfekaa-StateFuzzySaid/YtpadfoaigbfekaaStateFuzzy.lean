/- StateFuzzy: whoever has a state behind some transactions, and does them again from an earlier one on, comes to the state behind all. No condition. -/
import Derived.Test.YtpadfoaigbfekaaM1
import Derived.Test.YtpadfoaigbfekaaRows
import Derived.ProofKit
-- ALIAS Try
set_option linter.unusedVariables false
namespace Go.Proofs.Ytpadfoaigbfekaa
open Go Go.Av Go.ChangeShapes Go.WideShapes Go.ChangeAt Go.RowKit
theorem stateFuzzy_all (ps : List PV) (h : ShTs Try.T Try.f11.params.toList ps) (hz : ∀ p ∈ ps, SzI KB reachBytes p) : ACon Try.prog 11 (ps.map .p) (.p (B true)) := by
  have hp : Try.f11.params.toList = [49, 52, 69] := by kernel_rfl
  rw [hp] at h
  match ps, h, hz with
  | [p0, p1, p2], ⟨h0, h1, h2, _⟩, hz =>
    obtain ⟨c, rfl⟩ := cf_open h0
    obtain ⟨l, rfl⟩ := txs_open h1
    obtain ⟨a, b, rfl⟩ := two_open h2
    have hc := szLe ((hz (.agg c.cells) (by simp)).part (p := .sl 4 (mbs c.ms)) (by simp [Cf.cells]))
    rw [mbs_len] at hc
    exact stateFuzzy_con c l a b hc (.ofS (hz _ (by simp)))
set_option maxRecDepth 100000 in
theorem stateFuzzy_lifted (os : Os) (started : os.Started) (H : Type) (enc : TypeId × Value → H) :
    ReturnsInHanded {} Try.checked os 11 .any (Rows.stateFuzzySpec.pre6 enc Try.prog Try.f11 Rows.stateFuzzyRow.domain false) (Rows.stateFuzzySpec.post enc Try.prog Try.f11 false true false false) :=
  row_liftedD (K := KB) (C := Try.checked) (tb := 4) Try.tab (by kernel_rfl) started (by kernel_rfl) Try.func11
    (ChangeSpec.witness6 (enc := enc) (C := Try.checked) false ⟨#[], #[.agg #[.int .i64 0, .int .i64 0, .int .i64 0, .slice none 0 0], .slice none 0 0, .agg #[.int .i64 0, .int .i64 0]], []⟩ 8 (by kernel_rfl) (by kernel_rfl) (by kernel_rfl) (by kernel_rfl))
    rfl rfl Try.underlying4
    (fun ds h => by
      match ds, h with
      | [_, _, _], _ => exact ⟨rfl, rfl, rfl⟩)
    (by kernel_rfl) hpos stateFuzzy_all ⟨Try.f11, Try.func11, rfl, rfl⟩
theorem stateFuzzy_holds : Rows.StateFuzzySaid :=
  OpenClaim.holds_of_wide 11 Try.f11 rfl rfl rfl rfl rfl rfl rfl ⟨rfl, rfl, rfl, rfl, rfl⟩ rfl rfl rfl rfl rfl (by kernel_rfl) Try.func11 (by kernel_rfl)
    (of_decide_eq_true (by kernel_rfl)) (by unfold Func.isWrapper; first | (rw [if_pos (by decide +kernel)]; kernel_rfl) | (rw [if_neg (by decide +kernel)]; exact ⟨rfl, rfl⟩))
    (fun os started H enc _ => stateFuzzy_lifted os started H enc)
#print axioms stateFuzzy_holds
end Go.Proofs.Ytpadfoaigbfekaa
