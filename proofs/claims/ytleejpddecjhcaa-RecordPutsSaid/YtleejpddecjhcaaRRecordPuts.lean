/- RecordPuts: the bytes of any config, transaction and state, behind any bytes, are what the document says. No condition. -/
import Derived.Test.YtleejpddecjhcaaP23RecW
import Derived.Test.YtleejpddecjhcaaP25RecW
import Derived.Test.YtleejpddecjhcaaRows
import Derived.ProofKit
-- ALIAS Try
set_option linter.unusedVariables false
namespace Go.Proofs.Ytleejpddecjhcaa
open Go Go.Av Go.ChangeShapes Go.WideShapes Go.ChangeAt Go.RowKit
theorem recordPuts_all (ps : List PV) (h : ShTs Try.T Try.f3.params.toList ps) (hz : ∀ p ∈ ps, SzI KB reachBytes p) : ACon Try.prog 3 (ps.map .p) (.p (B true)) := by
  have hp : Try.f3.params.toList = [22, 28, 35] := by kernel_rfl
  rw [hp] at h
  match ps, h, hz with
  | [p0, p1, p2], ⟨h0, h1, h2, _⟩, hz =>
    obtain ⟨b, rfl⟩ := by8_open h0
    obtain ⟨t, rfl, ht, zt⟩ := tx_open h1 (hz _ (by simp))
    obtain ⟨s, rfl, hs, zs⟩ := st_open h2 (hz _ (by simp))
    exact recordPuts_con b t s ht hs (bdTx_of zt) (len_of zs) (bdN_of zs)
set_option maxRecDepth 100000 in
theorem recordPuts_lifted (os : Os) (started : os.Started) (H : Type) (enc : TypeId × Value → H) :
    ReturnsInHanded {} Try.checked os 3 .any (Rows.recordPutsSpec.pre6 enc Try.prog Try.f3 Rows.recordPutsRow.domain false) (Rows.recordPutsSpec.post enc Try.prog Try.f3 false true false false) :=
  row_liftedD (K := KB) (C := Try.checked) (tb := 4) Try.tab (by kernel_rfl) started (by kernel_rfl) Try.func3
    (ChangeSpec.witness6 (enc := enc) (C := Try.checked) false ⟨#[], #[.slice none 0 0, .agg #[.int .i64 0, .int .i64 0, .int .i64 0, .int .i64 0, .int .i64 0, .int .i64 0, .string ⟨#[]⟩, .slice none 0 0], .agg #[.slice none 0 0, .slice none 0 0, .int .i64 0, .int .i64 0, .int .i64 0, .int .i64 0, .slice none 0 0, .int .i64 0, .int .i64 0]], []⟩ 8 (by kernel_rfl) (by kernel_rfl) (by kernel_rfl) (by kernel_rfl))
    rfl rfl Try.underlying4
    (fun ds h => by
      match ds, h with
      | [_, _, _], _ => exact ⟨rfl, rfl, rfl⟩)
    (by kernel_rfl) hpos recordPuts_all ⟨Try.f3, Try.func3, rfl, rfl⟩
theorem recordPuts_holds : Rows.RecordPutsSaid :=
  OpenClaim.holds_of_wide 3 Try.f3 rfl rfl rfl rfl rfl rfl rfl ⟨rfl, rfl, rfl, rfl, rfl⟩ rfl rfl rfl rfl rfl (by kernel_rfl) Try.func3 (by kernel_rfl)
    (of_decide_eq_true (by kernel_rfl)) (by unfold Func.isWrapper; first | (rw [if_pos (by decide +kernel)]; kernel_rfl) | (rw [if_neg (by decide +kernel)]; exact ⟨rfl, rfl⟩))
    (fun os started H enc _ => recordPuts_lifted os started H enc)
#print axioms recordPuts_holds
end Go.Proofs.Ytleejpddecjhcaa

