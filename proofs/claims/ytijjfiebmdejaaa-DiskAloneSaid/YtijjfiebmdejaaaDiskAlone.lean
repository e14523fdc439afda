/- DiskAlone: an operation on some files leaves all others as they were. No condition. -/
import Derived.Test.YtijjfiebmdejaaaDKI
import Derived.Test.YtijjfiebmdejaaaRows
import Derived.ProofKit
-- ALIAS Try
set_option linter.unusedVariables false
namespace Go.Proofs.Ytijjfiebmdejaaa
open Go Go.Av Go.ChangeShapes Go.WideShapes Go.ChangeAt Go.RowKit
theorem diskAlone_all (ps : List PV) (h : ShTs Try.T Try.f7.params.toList ps) (hz : ∀ p ∈ ps, SzI KB reachBytes p) : ACon Try.prog 7 (ps.map .p) (.p (B true)) := by
  have hp : Try.f7.params.toList = [22, 32] := by kernel_rfl
  rw [hp] at h
  match ps, h, hz with
  | [p0, p1], ⟨h0, h1, _⟩, hz =>
    obtain ⟨l, nl, rfl⟩ := ops13_open h0
    obtain ⟨o, no, rfl⟩ := op13_open h1
    have zl := hz (.sl 6 (ops13 l)) (by simp)
    have zo : ∀ p ∈ o.cells, SzI KB reachBytes p := fun p hp => (hz (.agg o.cells) (by simp)).part hp
    have z6 := zl.len
    rw [ops13_len, KB6] at z6
    have hr : reachBytes = 140737488351232 := rfl
    exact diskAlone_con l o (.ofL nl zl) (.of no zo) (by omega)
set_option maxRecDepth 100000 in
theorem diskAlone_lifted (os : Os) (started : os.Started) (H : Type) (enc : TypeId × Value → H) :
    ReturnsInHanded {} Try.checked os 7 .any (Rows.diskAloneSpec.pre6 enc Try.prog Try.f7 Rows.diskAloneRow.domain false) (Rows.diskAloneSpec.post enc Try.prog Try.f7 false true false false) :=
  row_liftedD (K := KB) (C := Try.checked) (tb := 4) Try.tab (by kernel_rfl) started (by kernel_rfl) Try.func7
    (ChangeSpec.witness6 (enc := enc) (C := Try.checked) false ⟨#[], #[.slice none 0 0, .agg #[.int .i64 0, .string ⟨#[]⟩, .string ⟨#[]⟩, .slice none 0 0, .int .i64 0, .slice none 0 0]], []⟩ 8 (by kernel_rfl) (by kernel_rfl) (by kernel_rfl) (by kernel_rfl))
    rfl rfl Try.underlying4
    (fun ds h => by
      match ds, h with
      | [_, _], _ => exact ⟨rfl, rfl, rfl⟩)
    (by kernel_rfl) hpos diskAlone_all ⟨Try.f7, Try.func7, rfl, rfl⟩
theorem diskAlone_holds : Rows.DiskAloneSaid :=
  OpenClaim.holds_of_wide 7 Try.f7 rfl rfl rfl rfl rfl rfl rfl ⟨rfl, rfl, rfl, rfl, rfl⟩ rfl rfl rfl rfl rfl (by kernel_rfl) Try.func7 (by kernel_rfl)
    (of_decide_eq_true (by kernel_rfl)) (by unfold Func.isWrapper; first | (rw [if_pos (by decide +kernel)]; kernel_rfl) | (rw [if_neg (by decide +kernel)]; exact ⟨rfl, rfl⟩))
    (fun os started H enc _ => diskAlone_lifted os started H enc)
#print axioms diskAlone_holds
end Go.Proofs.Ytijjfiebmdejaaa
