/- HistoryOne: of any two histories that grew out of one, and part with unlike places, the plan of the one (or of it squashed at a mark that both have) makes it of the other. No condition. -/
import Derived.Test.YtegoihognjpcjaaP30HistoryOne
import Derived.Test.YtegoihognjpcjaaRows
import Derived.ProofKit
-- ALIAS Try
set_option linter.unusedVariables false
namespace Go.Proofs.Ytegoihognjpcjaa
open Go Go.Av Go.ChangeShapes Go.WideShapes Go.ChangeAt Go.RowKit
theorem tails_open {p : PV} (hp : ShT Try.T 34 p) : ∃ l0 l1 : List Tx, p = .agg [.sl 8 (txns l0), .sl 8 (txns l1)] := by
  obtain ⟨ps, rfl, h⟩ := hp.agg (E := [.sl LTx, .sl LTx]) rfl rfl rfl
  obtain ⟨_, _, rfl, h0, h⟩ := h.cons
  obtain ⟨_, _, rfl, h1, h⟩ := h.cons
  obtain rfl := h.nil
  obtain ⟨l0, rfl⟩ := h0.slI (f := Tx.cells) fun ps h => Tx.ofL h
  obtain ⟨l1, rfl⟩ := h1.slI (f := Tx.cells) fun ps h => Tx.ofL h
  exact ⟨l0, l1, rfl⟩
theorem SmallH.ofTail {l : List Tx} (hz : SzI KB reachBytes (.sl 8 (txns l))) : SmallH (hyA l) := by
  have hr : reachBytes = 140737488351232 := rfl
  refine ⟨by simp [hyA], by simp [hyA], by simp [hyA], fun t ht => ?_⟩
  have h4 := hz.at (e := t.cells) (List.mem_map.2 ⟨t, ht, rfl⟩) (p := .sl 11 (pts t.ps)) (by simp [Tx.cells])
  have h5 := szLe h4
  rw [pts_len] at h5
  refine ⟨by omega, fun p hp => ?_⟩
  have h6 := szLe (h4.at (e := p.cells) (List.mem_map.2 ⟨p, hp, rfl⟩) (p := .sl 4 (mbs p.c.ms)) (by simp [Pt.cells]))
  rw [mbs_len] at h6
  omega
theorem historyOne_all (ps : List PV) (h : ShTs Try.T Try.f3.params.toList ps) (hz : ∀ p ∈ ps, SzI KB reachBytes p) : ACon Try.prog 3 (ps.map .p) (.p (B true)) := by
  have hp : Try.f3.params.toList = [33, 34, 3] := by kernel_rfl
  rw [hp] at h
  match ps, h, hz with
  | [p0, p1, p2], ⟨h0, h1, h2, _⟩, hz =>
    obtain ⟨h, rfl⟩ := hy_open h0
    obtain ⟨l0, l1, rfl⟩ := tails_open h1
    obtain ⟨c, rfl, -⟩ := (h2.one (f := .int .i64) rfl rfl rfl).intI
    have hzt := hz (.agg [.sl 8 (txns l0), .sl 8 (txns l1)]) (by simp)
    exact historyOne_con h l0 l1 c (.of (hz (.agg h.cells) (by simp))) (.ofTail (hzt.part (p := .sl 8 (txns l0)) (by simp))) (.ofTail (hzt.part (p := .sl 8 (txns l1)) (by simp)))
set_option maxRecDepth 100000 in
theorem historyOne_lifted (os : Os) (started : os.Started) (H : Type) (enc : TypeId × Value → H) :
    ReturnsInHanded {} Try.checked os 3 .any (Rows.historyOneSpec.pre6 enc Try.prog Try.f3 Rows.historyOneRow.domain false) (Rows.historyOneSpec.post enc Try.prog Try.f3 false true false false) :=
  row_liftedD (K := KB) (C := Try.checked) (tb := 4) Try.tab (by kernel_rfl) started (by kernel_rfl) Try.func3
    (ChangeSpec.witness6 (enc := enc) (C := Try.checked) false ⟨#[], #[.agg #[.slice none 0 0, .slice none 0 0, .int .i64 0, .int .i64 0, .int .i64 0, .int .i64 0, .slice none 0 0, .int .i64 0, .int .i64 0, .slice none 0 0], .agg #[.slice none 0 0, .slice none 0 0], .int .i64 0], []⟩ 8 (by kernel_rfl) (by kernel_rfl) (by kernel_rfl) (by kernel_rfl))
    rfl rfl Try.underlying4
    (fun ds h => by
      match ds, h with
      | [_, _, _], _ => exact ⟨rfl, rfl, rfl⟩)
    (by kernel_rfl) hpos historyOne_all ⟨Try.f3, Try.func3, rfl, rfl⟩
theorem historyOne_holds : Rows.HistoryOneSaid :=
  OpenClaim.holds_of_wide 3 Try.f3 rfl rfl rfl rfl rfl rfl rfl ⟨rfl, rfl, rfl, rfl, rfl⟩ rfl rfl rfl rfl rfl (by kernel_rfl) Try.func3 (by kernel_rfl)
    (of_decide_eq_true (by kernel_rfl)) (by unfold Func.isWrapper; first | (rw [if_pos (by decide +kernel)]; kernel_rfl) | (rw [if_neg (by decide +kernel)]; exact ⟨rfl, rfl⟩))
    (fun os started H enc _ => historyOne_lifted os started H enc)
#print axioms historyOne_holds
end Go.Proofs.Ytegoihognjpcjaa

