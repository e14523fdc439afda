/- DiskRefuses: what is refused, but by the power, leaves the disk as it was, and there are never more bytes than may be. No condition. -/
import Derived.Test.YtijjfiebmdejaaaDKH
import Derived.Test.YtijjfiebmdejaaaRows
import Derived.ProofKit
-- ALIAS Try
set_option linter.unusedVariables false
namespace Go.Proofs.Ytijjfiebmdejaaa
open Go Go.Av Go.ChangeShapes Go.WideShapes Go.ChangeAt Go.RowKit
theorem diskRefuses_all (ps : List PV) (h : ShTs Try.T Try.f5.params.toList ps) (hz : ∀ p ∈ ps, SzI KB reachBytes p) : ACon Try.prog 5 (ps.map .p) (.p (B true)) := by
  have hp : Try.f5.params.toList = [3, 22] := by kernel_rfl
  rw [hp] at h
  match ps, h, hz with
  | [p0, p1], ⟨h0, h1, _⟩, hz =>
    obtain ⟨n, rfl, -⟩ := (h0.one (f := .int .i64) rfl rfl rfl).intI
    obtain ⟨l, nl, rfl⟩ := ops13_open h1
    have zl := hz (.sl 6 (ops13 l)) (by simp)
    exact diskRefuses_con n l (.ofL nl zl) (ops_len63 zl)
set_option maxRecDepth 100000 in
theorem diskRefuses_lifted (os : Os) (started : os.Started) (H : Type) (enc : TypeId × Value → H) :
    ReturnsInHanded {} Try.checked os 5 .any (Rows.diskRefusesSpec.pre6 enc Try.prog Try.f5 Rows.diskRefusesRow.domain false) (Rows.diskRefusesSpec.post enc Try.prog Try.f5 false true false false) :=
  row_liftedD (K := KB) (C := Try.checked) (tb := 4) Try.tab (by kernel_rfl) started (by kernel_rfl) Try.func5
    (ChangeSpec.witness6 (enc := enc) (C := Try.checked) false ⟨#[], #[.int .i64 0, .slice none 0 0], []⟩ 8 (by kernel_rfl) (by kernel_rfl) (by kernel_rfl) (by kernel_rfl))
    rfl rfl Try.underlying4
    (fun ds h => by
      match ds, h with
      | [_, _], _ => exact ⟨rfl, rfl, rfl⟩)
    (by kernel_rfl) hpos diskRefuses_all ⟨Try.f5, Try.func5, rfl, rfl⟩
theorem diskRefuses_holds : Rows.DiskRefusesSaid :=
  OpenClaim.holds_of_wide 5 Try.f5 rfl rfl rfl rfl rfl rfl rfl ⟨rfl, rfl, rfl, rfl, rfl⟩ rfl rfl rfl rfl rfl (by kernel_rfl) Try.func5 (by kernel_rfl)
    (of_decide_eq_true (by kernel_rfl)) (by unfold Func.isWrapper; first | (rw [if_pos (by decide +kernel)]; kernel_rfl) | (rw [if_neg (by decide +kernel)]; exact ⟨rfl, rfl⟩))
    (fun os started H enc _ => diskRefuses_lifted os started H enc)
#print axioms diskRefuses_holds
end Go.Proofs.Ytijjfiebmdejaaa
