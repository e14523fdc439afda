/- RecordOne: what is read of any bytes at any place, laid again, is the bytes that were read. No condition. -/
import Derived.Test.YtleejpddecjhcaaP23RecordOne
import Derived.Test.YtleejpddecjhcaaP27RecordOne
import Derived.Test.YtleejpddecjhcaaRows
import Derived.ProofKit
-- ALIAS Try
set_option linter.unusedVariables false
namespace Go.Proofs.Ytleejpddecjhcaa
open Go Go.Av Go.ChangeShapes Go.WideShapes Go.ChangeAt Go.RowKit
theorem recordOne_all (ps : List PV) (h : ShTs Try.T Try.f7.params.toList ps) (hz : ∀ p ∈ ps, SzI KB reachBytes p) : ACon Try.prog 7 (ps.map .p) (.p (B true)) := by
  have hp : Try.f7.params.toList = [22, 3] := by kernel_rfl
  rw [hp] at h
  match ps, h, hz with
  | [p0, p1], ⟨h0, h1, _⟩, hz =>
    obtain ⟨b, rfl⟩ := by8_open h0
    obtain ⟨a, rfl⟩ := int_open h1
    exact recordOne_con b a
set_option maxRecDepth 100000 in
theorem recordOne_lifted (os : Os) (started : os.Started) (H : Type) (enc : TypeId × Value → H) :
    ReturnsInHanded {} Try.checked os 7 .any (Rows.recordOneSpec.pre6 enc Try.prog Try.f7 Rows.recordOneRow.domain false) (Rows.recordOneSpec.post enc Try.prog Try.f7 false true false false) :=
  row_liftedD (K := KB) (C := Try.checked) (tb := 4) Try.tab (by kernel_rfl) started (by kernel_rfl) Try.func7
    (ChangeSpec.witness6 (enc := enc) (C := Try.checked) false ⟨#[], #[.slice none 0 0, .int .i64 0], []⟩ 8 (by kernel_rfl) (by kernel_rfl) (by kernel_rfl) (by kernel_rfl))
    rfl rfl Try.underlying4
    (fun ds h => by
      match ds, h with
      | [_, _], _ => exact ⟨rfl, rfl, rfl⟩)
    (by kernel_rfl) hpos recordOne_all ⟨Try.f7, Try.func7, rfl, rfl⟩
theorem recordOne_holds : Rows.RecordOneSaid :=
  OpenClaim.holds_of_wide 7 Try.f7 rfl rfl rfl rfl rfl rfl rfl ⟨rfl, rfl, rfl, rfl, rfl⟩ rfl rfl rfl rfl rfl (by kernel_rfl) Try.func7 (by kernel_rfl)
    (of_decide_eq_true (by kernel_rfl)) (by unfold Func.isWrapper; first | (rw [if_pos (by decide +kernel)]; kernel_rfl) | (rw [if_neg (by decide +kernel)]; exact ⟨rfl, rfl⟩))
    (fun os started H enc _ => recordOne_lifted os started H enc)
#print axioms recordOne_holds
end Go.Proofs.Ytleejpddecjhcaa

