/- RecordMsgs: the bytes of any message and of any request, behind any bytes, are what the document says. No condition. -/
import Derived.Test.YtleejpddecjhcaaP23RecW
import Derived.Test.YtleejpddecjhcaaP26RecW
import Derived.Test.YtleejpddecjhcaaRows
import Derived.ProofKit
-- ALIAS Try
set_option linter.unusedVariables false
namespace Go.Proofs.Ytleejpddecjhcaa
open Go Go.Av Go.ChangeShapes Go.WideShapes Go.ChangeAt Go.RowKit
theorem recordMsgs_all (ps : List PV) (h : ShTs Try.T Try.f4.params.toList ps) (hz : ∀ p ∈ ps, SzI KB reachBytes p) : ACon Try.prog 4 (ps.map .p) (.p (B true)) := by
  have hp : Try.f4.params.toList = [22, 57] := by kernel_rfl
  rw [hp] at h
  match ps, h, hz with
  | [p0, p1], ⟨h0, h1, _⟩, hz =>
    obtain ⟨b, rfl⟩ := by8_open h0
    obtain ⟨cs, rfl, hk, zk⟩ := ms_open h1 (hz _ (by simp))
    have z1 : Zd ((cs.drop 18).take 9) := fun p hp => zk p (List.mem_of_mem_drop (List.mem_of_mem_take hp))
    have z2 : Zd ((cs.drop 28).take 8) := fun p hp => zk p (List.mem_of_mem_drop (List.mem_of_mem_take hp))
    have z3 : Zd (cs.drop 37) := fun p hp => zk p (List.mem_of_mem_drop hp)
    refine recordMsgs_con b cs hk ⟨len_of z1, bdN_of z1, fun r hr => ?_, bdTx_of z2, len_of z3, bdN_of z3⟩
    cases hc : cs[27]? with
    | none => rw [hc] at hr; simp [rowsP] at hr
    | some x =>
      rw [hc] at hr
      have hx := zk x (List.mem_of_getElem? hc)
      cases x with
      | sl c l => exact bdTx_of fun p hp => hx.at hr hp
      | v x => simp [rowsP] at hr
      | agg l => simp [rowsP] at hr
set_option maxRecDepth 100000 in
theorem recordMsgs_lifted (os : Os) (started : os.Started) (H : Type) (enc : TypeId × Value → H) :
    ReturnsInHanded {} Try.checked os 4 .any (Rows.recordMsgsSpec.pre6 enc Try.prog Try.f4 Rows.recordMsgsRow.domain false) (Rows.recordMsgsSpec.post enc Try.prog Try.f4 false true false false) :=
  row_liftedD (K := KB) (C := Try.checked) (tb := 4) Try.tab (by kernel_rfl) started (by kernel_rfl) Try.func4
    (ChangeSpec.witness6 (enc := enc) (C := Try.checked) false ⟨#[], #[.slice none 0 0, .agg #[.int .i64 0, .int .i64 0, .int .i64 0, .int .i64 0, .int .i64 0, .int .i64 0, .int .i64 0, .int .i64 0, .int .i64 0, .int .i64 0, .int .i64 0, .int .i64 0, .int .i64 0, .int .i64 0, .slice none 0 0, .int .i64 0, .int .i64 0, .int .i64 0, .slice none 0 0, .slice none 0 0, .int .i64 0, .int .i64 0, .int .i64 0, .int .i64 0, .slice none 0 0, .int .i64 0, .int .i64 0, .slice none 0 0, .int .i64 0, .int .i64 0, .int .i64 0, .int .i64 0, .int .i64 0, .int .i64 0, .string ⟨#[]⟩, .slice none 0 0, .slice none 0 0, .int .i64 0, .int .i64 0, .int .i64 0, .slice none 0 0, .int .i64 0, .slice none 0 0, .slice none 0 0, .int .i64 0, .int .i64 0]], []⟩ 8 (by kernel_rfl) (by kernel_rfl) (by kernel_rfl) (by kernel_rfl))
    rfl rfl Try.underlying4
    (fun ds h => by
      match ds, h with
      | [_, _], _ => exact ⟨rfl, rfl, rfl⟩)
    (by kernel_rfl) hpos recordMsgs_all ⟨Try.f4, Try.func4, rfl, rfl⟩
theorem recordMsgs_holds : Rows.RecordMsgsSaid :=
  OpenClaim.holds_of_wide 4 Try.f4 rfl rfl rfl rfl rfl rfl rfl ⟨rfl, rfl, rfl, rfl, rfl⟩ rfl rfl rfl rfl rfl (by kernel_rfl) Try.func4 (by kernel_rfl)
    (of_decide_eq_true (by kernel_rfl)) (by unfold Func.isWrapper; first | (rw [if_pos (by decide +kernel)]; kernel_rfl) | (rw [if_neg (by decide +kernel)]; exact ⟨rfl, rfl⟩))
    (fun os started H enc _ => recordMsgs_lifted os started H enc)
#print axioms recordMsgs_holds
end Go.Proofs.Ytleejpddecjhcaa

