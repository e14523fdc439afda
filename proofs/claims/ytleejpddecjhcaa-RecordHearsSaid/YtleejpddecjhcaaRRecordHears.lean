/- RecordHears: any bytes, read at any place as a request or a message, are read as the document says. No condition. -/
import Derived.Test.YtleejpddecjhcaaP23RecordHears
import Derived.Test.YtleejpddecjhcaaP29RecordHears
import Derived.Test.YtleejpddecjhcaaRows
import Derived.ProofKit
set_option linter.unusedVariables false
namespace Go.Proofs.Ytleejpddecjhcaa
open Go Go.Av Go.ChangeShapes Go.WideShapes Go.ChangeAt Go.RowKit
theorem recordHears_all (ps : List PV) (h : ShTs Try.T Try.f6.params.toList ps) (hz : ∀ p ∈ ps, SzI KB reachBytes p) : ACon Try.prog 6 (ps.map .p) (.p (B true)) := by
 have hp : Try.f6.params.toList = [22, 3] := by kernel_rfl
 rw [hp] at h
 match ps, h, hz with
 | [p0, p1], ⟨h0, h1, _⟩, hz =>
  obtain ⟨b, rfl⟩ := by8_open h0
  obtain ⟨a, rfl⟩ := int_open h1
  exact recordHears_con b a
set_option maxRecDepth 100000 in
theorem recordHears_lifted (os : Os) (started : os.Started) (H : Type) (enc : TypeId × Value -> H) :
 ReturnsInHanded {} Try.checked os 6 .any (Rows.recordHearsSpec.pre6 enc Try.prog Try.f6 Rows.recordHearsRow.domain false) (Rows.recordHearsSpec.post enc Try.prog Try.f6 false true false false) :=
 row_liftedD (K := KB) (C := Try.checked) (tb := 4) Try.tab (by kernel_rfl) started (by kernel_rfl) Try.func6
  (ChangeSpec.witness6 (enc := enc) (C := Try.checked) false ⟨#[], #[.slice none 0 0, .int .i64 0], []⟩ 8 (by kernel_rfl) (by kernel_rfl) (by kernel_rfl) (by kernel_rfl))
  rfl rfl Try.underlying4
  (fun ds h => by
   match ds, h with
   | [_, _], _ => exact ⟨rfl, rfl, rfl⟩)
  (by kernel_rfl) hpos recordHears_all ⟨Try.f6, Try.func6, rfl, rfl⟩
theorem recordHears_holds : Rows.RecordHearsSaid :=
 OpenClaim.holds_of_wide 6 Try.f6 rfl rfl rfl rfl rfl rfl rfl ⟨rfl, rfl, rfl, rfl, rfl⟩ rfl rfl rfl rfl rfl (by kernel_rfl) Try.func6 (by kernel_rfl)
  (of_decide_eq_true (by kernel_rfl)) (by unfold Func.isWrapper; first | (rw [if_pos (by decide +kernel)]; kernel_rfl) | (rw [if_neg (by decide +kernel)]; exact ⟨rfl, rfl⟩))
  (fun os started H enc _ => recordHears_lifted os started H enc)
#print axioms recordHears_holds
end Go.Proofs.Ytleejpddecjhcaa

