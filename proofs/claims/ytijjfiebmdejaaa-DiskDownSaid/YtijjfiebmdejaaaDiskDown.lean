/- DiskDown: while a disk is down no operation changes anything; crashed twice is as crashed once. No condition. -/
import Derived.Test.YtijjfiebmdejaaaDKG
import Derived.Test.YtijjfiebmdejaaaRows
import Derived.ProofKit
-- ALIAS Try
set_option linter.unusedVariables false
namespace Go.Proofs.Ytijjfiebmdejaaa
open Go Go.Av Go.ChangeShapes Go.WideShapes Go.ChangeAt Go.RowKit
theorem two_open {p : PV} (hp : ShT Try.T 44 p) : ∃ a b : List Int, p = .agg [.sl 1 (ints a), .sl 1 (ints b)] := by
  obtain ⟨ps, rfl, h⟩ := hp.agg (E := [.sl [.int .i64], .sl [.int .i64]]) rfl rfl rfl
  obtain ⟨_, _, rfl, h0, h⟩ := h.cons
  obtain ⟨_, _, rfl, h1, h⟩ := h.cons
  obtain rfl := h.nil
  obtain ⟨a, rfl⟩ := h0.slI (f := fun n : Int => [I n]) fun ps h => int_of h
  obtain ⟨b, rfl⟩ := h1.slI (f := fun n : Int => [I n]) fun ps h => int_of h
  exact ⟨a, b, rfl⟩
theorem diskDown_all (ps : List PV) (h : ShTs Try.T Try.f6.params.toList ps) (hz : ∀ p ∈ ps, SzI KB reachBytes p) : ACon Try.prog 6 (ps.map .p) (.p (B true)) := by
  have hp : Try.f6.params.toList = [22, 22, 44] := by kernel_rfl
  rw [hp] at h
  match ps, h, hz with
  | [p0, p1, p2], ⟨h0, h1, h2, _⟩, hz =>
    obtain ⟨l, nl, rfl⟩ := ops13_open h0
    obtain ⟨m, nm, rfl⟩ := ops13_open h1
    obtain ⟨a, b, rfl⟩ := two_open h2
    have zl := hz _ (List.mem_cons_self ..)
    have zm := hz (.sl 6 (ops13 m)) (by simp)
    have za := ((hz (.agg [.sl 1 (ints a), .sl 1 (ints b)]) (by simp)).part (p := .sl 1 (ints a)) (by simp)).len
    have zb := ((hz (.agg [.sl 1 (ints a), .sl 1 (ints b)]) (by simp)).part (p := .sl 1 (ints b)) (by simp)).len
    rw [ints_len] at za zb
    have hr : reachBytes = 140737488351232 := rfl
    unfold KB at za zb
    exact diskDown_con l m a b (.ofL nl zl) (.ofL nm zm) (ops_len63 zl) (ops_len63 zm) (by omega) (by omega)
set_option maxRecDepth 100000 in
theorem diskDown_lifted (os : Os) (started : os.Started) (H : Type) (enc : TypeId × Value → H) :
    ReturnsInHanded {} Try.checked os 6 .any (Rows.diskDownSpec.pre6 enc Try.prog Try.f6 Rows.diskDownRow.domain false) (Rows.diskDownSpec.post enc Try.prog Try.f6 false true false false) :=
  row_liftedD (K := KB) (C := Try.checked) (tb := 4) Try.tab (by kernel_rfl) started (by kernel_rfl) Try.func6
    (ChangeSpec.witness6 (enc := enc) (C := Try.checked) false ⟨#[], #[.slice none 0 0, .slice none 0 0, .agg #[.slice none 0 0, .slice none 0 0]], []⟩ 8 (by kernel_rfl) (by kernel_rfl) (by kernel_rfl) (by kernel_rfl))
    rfl rfl Try.underlying4
    (fun ds h => by
      match ds, h with
      | [_, _, _], _ => exact ⟨rfl, rfl, rfl⟩)
    (by kernel_rfl) hpos diskDown_all ⟨Try.f6, Try.func6, rfl, rfl⟩
theorem diskDown_holds : Rows.DiskDownSaid :=
  OpenClaim.holds_of_wide 6 Try.f6 rfl rfl rfl rfl rfl rfl rfl ⟨rfl, rfl, rfl, rfl, rfl⟩ rfl rfl rfl rfl rfl (by kernel_rfl) Try.func6 (by kernel_rfl)
    (of_decide_eq_true (by kernel_rfl)) (by unfold Func.isWrapper; first | (rw [if_pos (by decide +kernel)]; kernel_rfl) | (rw [if_neg (by decide +kernel)]; exact ⟨rfl, rfl⟩))
    (fun os started H enc _ => diskDown_lifted os started H enc)
#print axioms diskDown_holds
end Go.Proofs.Ytijjfiebmdejaaa
