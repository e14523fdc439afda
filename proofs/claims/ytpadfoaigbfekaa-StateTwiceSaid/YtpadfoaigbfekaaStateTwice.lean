/- StateTwice: a transaction done twice is as once, and one without parts changes its place alone. No condition. -/
import Derived.Test.YtpadfoaigbfekaaM1
import Derived.Test.YtpadfoaigbfekaaRows
import Derived.ProofKit
-- ALIAS Try
set_option linter.unusedVariables false
namespace Go.Proofs.Ytpadfoaigbfekaa
open Go Go.Av Go.ChangeShapes Go.WideShapes Go.ChangeAt Go.RowKit
theorem stateTwice_all (ps : List PV) (h : ShTs Try.T Try.f12.params.toList ps) (hz : ∀ p ∈ ps, SzI KB reachBytes p) : ACon Try.prog 12 (ps.map .p) (.p (B true)) := by
  have hp : Try.f12.params.toList = [49, 52, 56] := by kernel_rfl
  rw [hp] at h
  match ps, h, hz with
  | [p0, p1, p2], ⟨h0, h1, h2, _⟩, hz =>
    obtain ⟨c, rfl⟩ := cf_open h0
    obtain ⟨l, rfl⟩ := txs_open h1
    obtain ⟨t, rfl⟩ := tx_open h2
    have hc := szLe ((hz (.agg c.cells) (by simp)).part (p := .sl 4 (mbs c.ms)) (by simp [Cf.cells]))
    rw [mbs_len] at hc
    have hl := (hz (.sl 8 (txns l)) (by simp)).len
    rw [txns_len] at hl
    exact stateTwice_con c l t hc (.ofS (hz _ (by simp))) (.ofA (hz _ (by simp))) hl
set_option maxRecDepth 100000 in
theorem stateTwice_lifted (os : Os) (started : os.Started) (H : Type) (enc : TypeId × Value → H) :
    ReturnsInHanded {} Try.checked os 12 .any (Rows.stateTwiceSpec.pre6 enc Try.prog Try.f12 Rows.stateTwiceRow.domain false) (Rows.stateTwiceSpec.post enc Try.prog Try.f12 false true false false) :=
  row_liftedD (K := KB) (C := Try.checked) (tb := 4) Try.tab (by kernel_rfl) started (by kernel_rfl) Try.func12
    (ChangeSpec.witness6 (enc := enc) (C := Try.checked) false ⟨#[], #[.agg #[.int .i64 0, .int .i64 0, .int .i64 0, .slice none 0 0], .slice none 0 0, .agg #[.int .i64 0, .int .i64 0, .int .i64 0, .int .i64 0, .int .i64 0, .int .i64 0, .string ByteArray.empty, .slice none 0 0]], []⟩ 8 (by kernel_rfl) (by kernel_rfl) (by kernel_rfl) (by kernel_rfl))
    rfl rfl Try.underlying4
    (fun ds h => by
      match ds, h with
      | [_, _, _], _ => exact ⟨rfl, rfl, rfl⟩)
    (by kernel_rfl) hpos stateTwice_all ⟨Try.f12, Try.func12, rfl, rfl⟩
theorem stateTwice_holds : Rows.StateTwiceSaid :=
  OpenClaim.holds_of_wide 12 Try.f12 rfl rfl rfl rfl rfl rfl rfl ⟨rfl, rfl, rfl, rfl, rfl⟩ rfl rfl rfl rfl rfl (by kernel_rfl) Try.func12 (by kernel_rfl)
    (of_decide_eq_true (by kernel_rfl)) (by unfold Func.isWrapper; first | (rw [if_pos (by decide +kernel)]; kernel_rfl) | (rw [if_neg (by decide +kernel)]; exact ⟨rfl, rfl⟩))
    (fun os started H enc _ => stateTwice_lifted os started H enc)
#print axioms stateTwice_holds
end Go.Proofs.Ytpadfoaigbfekaa
