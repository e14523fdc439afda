/- LeadQuiet: whatever a leader has heard, messages of other epochs, from itself or from nobody change nothing, nor does a transaction for another place. No condition. -/
import Derived.Test.YtffflakmofbilaaGreatP32LeadQuiet
import Derived.Test.YtffflakmofbilaaGreatP46LeadQuiet
import Derived.Test.YtffflakmofbilaaGreatRows
import Derived.ProofKit
set_option linter.unusedVariables false
namespace Go.Proofs.YtffflakmofbilaaGreat
open Go Go.Av Go.ChangeShapes Go.WideShapes Go.ChangeAt Go.RowKit
theorem shl_parts {E E' : List Lf} {ps : List PV} (h : ShL (E ++ E') ps) : ShL E (ps.take E.length) /\ ShL E' (ps.drop E.length) := by
 obtain ⟨h1, h2⟩ := h
 rw [List.length_append] at h1
 refine ⟨⟨by rw [List.length_take]; omega, fun j f p hf hp => ?_⟩, ⟨by rw [List.length_drop]; omega, fun j f p hf hp => ?_⟩⟩
 ·have hj : j < E.length := by rw [List.getElem?_eq_some_iff] at hf; exact hf.1
  refine h2 j f p (by rw [List.getElem?_append_left hj]; exact hf) ?_
  rw [List.getElem?_take] at hp
  rw [if_pos hj] at hp; exact hp
 ·refine h2 (E.length + j) f p (by rw [List.getElem?_append_right (by omega)]; simpa using hf) ?_
  rw [List.getElem?_drop] at hp; exact hp
theorem odd_open {p : PV} (hp : ShT Tryz.T 88 p) : ∃ (m : Mg) (t : Tx), p = .agg (m.cells ++ t.cells) := by
 obtain ⟨ps, rfl, h⟩ := hp.agg (y := (Tryz.T 88).get rfl) rfl (E := LMg ++ LTx) (by kernel_rfl) rfl
 obtain ⟨h1, h2⟩ := shl_parts h
 obtain ⟨m, e1⟩ := Mg.ofL h1
 obtain ⟨t, e2⟩ := Tx.ofL h2
 exact ⟨m, t, by rw [<- e1, <- e2, List.take_append_drop]⟩
theorem leadQuiet_all (ps : List PV) (h : ShTs Tryz.T Tryz.f6.params.toList ps) (hz : ∀ p ∈ ps, SzI KB reachBytes p) : zG Tryz.prog 6 (ps.map .p) (.p (B true)) := by
 have hp : Tryz.f6.params.toList = [35, 36, 88] := by kernel_rfl
 rw [hp] at h
 match ps, h, hz with
 | [p0, p1, p2], ⟨h0, h1, h2, _⟩, hz =>
  obtain ⟨w, rfl⟩ := who_open h0
  obtain ⟨l, rfl⟩ := evs_open h1
  obtain ⟨m, t, rfl⟩ := odd_open h2
  have z0 := hz (.agg w.cells) (by simp)
  have z1 := hz (.sl 56 (evsC l)) (by simp)
  have z2 : ∀ q ∈ m.cells ++ t.cells, SzI KB reachBytes q := fun q hq => (hz (.agg (m.cells ++ t.cells)) (by simp)).part hq
  exact leadQuiet_con w l m t (.ofW z0) (SmallE.ofL z1) (.of (z2 _ (by simp [Mg.cells])) (z2 _ (by simp [Mg.cells])) (z2 _ (by simp [Mg.cells])) (z2 _ (by simp [Mg.cells])) (z2 _ (by simp [Mg.cells])) (z2 _ (by simp [Tx.cells])))
set_option maxRecDepth 100000 in
theorem leadQuiet_lifted (os : Os) (started : os.Started) (H : Type) (enc : TypeId × Value -> H) :
 ReturnsInHanded {} Tryz.checked os 6 .any (Rows.leadQuietSpec.pre6 enc Tryz.prog Tryz.f6 Rows.leadQuietRow.domain false) (Rows.leadQuietSpec.post enc Tryz.prog Tryz.f6 false true false false) :=
 row_liftedD (K := KB) (C := Tryz.checked) (tb := 4) Tryz.tab (by kernel_rfl) started (by kernel_rfl) Tryz.func6
  (ChangeSpec.witness6 (enc := enc) (C := Tryz.checked) false ⟨#[], #[.agg #[.int .i64 0, .int .i64 0, .int .i64 0, .slice none 0 0, .slice none 0 0, .int .i64 0, .int .i64 0, .int .i64 0, .int .i64 0, .slice none 0 0, .int .i64 0, .int .i64 0, .slice none 0 0], .slice none 0 0, .agg #[.int .i64 0, .int .i64 0, .int .i64 0, .int .i64 0, .int .i64 0, .int .i64 0, .int .i64 0, .int .i64 0, .int .i64 0, .int .i64 0, .int .i64 0, .int .i64 0, .int .i64 0, .int .i64 0, .slice none 0 0, .int .i64 0, .int .i64 0, .int .i64 0, .slice none 0 0, .slice none 0 0, .int .i64 0, .int .i64 0, .int .i64 0, .int .i64 0, .slice none 0 0, .int .i64 0, .int .i64 0, .slice none 0 0, .int .i64 0, .int .i64 0, .int .i64 0, .int .i64 0, .int .i64 0, .int .i64 0, .string ⟨#[]⟩, .slice none 0 0, .slice none 0 0, .int .i64 0, .int .i64 0, .int .i64 0, .slice none 0 0, .int .i64 0, .slice none 0 0, .slice none 0 0, .int .i64 0, .int .i64 0, .int .i64 0, .int .i64 0, .int .i64 0, .int .i64 0, .int .i64 0, .int .i64 0, .string ⟨#[]⟩, .slice none 0 0]], []⟩ 8 (by kernel_rfl) (by kernel_rfl) (by kernel_rfl) (by kernel_rfl))
  rfl rfl Tryz.underlying4
  (fun ds h => by
   match ds, h with
   | [_, _, _], _ => exact ⟨rfl, rfl, rfl⟩)
  (by kernel_rfl) hpos leadQuiet_all ⟨Tryz.f6, Tryz.func6, rfl, rfl⟩
theorem leadQuiet_holds : Rows.LeadQuietSaid :=
 OpenClaim.holds_of_wide 6 Tryz.f6 rfl rfl rfl rfl rfl rfl rfl ⟨rfl, rfl, rfl, rfl, rfl⟩ rfl rfl rfl rfl rfl (by kernel_rfl) Tryz.func6 (by kernel_rfl)
  (of_decide_eq_true (by kernel_rfl)) (by unfold Func.isWrapper; first | (rw [if_pos (by decide +kernel)]; kernel_rfl) | (rw [if_neg (by decide +kernel)]; exact ⟨rfl, rfl⟩))
  (fun os started H enc _ => leadQuiet_lifted os started H enc)
#print axioms leadQuiet_holds
end Go.Proofs.YtffflakmofbilaaGreat

