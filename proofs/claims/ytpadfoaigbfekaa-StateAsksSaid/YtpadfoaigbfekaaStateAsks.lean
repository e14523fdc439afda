/- StateAsks: what is asked of any state is what the document says. -/
import Derived.Test.YtpadfoaigbfekaaXF
import Derived.Test.YtpadfoaigbfekaaAvSize
import Derived.Test.YtpadfoaigbfekaaRows
import Derived.ProofKit
-- ALIAS Try
set_option linter.unusedVariables false
namespace Go.Proofs.Ytpadfoaigbfekaa
open Go Go.Av Go.ChangeShapes Go.WideShapes Go.ChangeAt Go.RowKit
theorem hpos : ∀ e y, Try.T e = some y → 0 < y.size → 1 ≤ y.bytes := by
  intro e y h hs
  unfold Try.T at h
  split at h
  all_goals first | (cases h; done) | (cases h; exact of_decide_eq_true (by kernel_rfl))
theorem state_open {p : PV} (hp : ShT Try.T 51 p) : ∃ (l : List Zn) (ss ms : List (List PV)) (nx e n k ae an : Int), (∀ z ∈ l, long z) ∧ p = .agg [.sl 5 (zns l), .sl 1 ss, I nx, I e, I n, I k, .sl 4 ms, I ae, I an] := by
  obtain ⟨ps, rfl, h⟩ := hp.agg (E := [.sl [.str, .str, .int .i64, .int .i64, .int .i64], .sl [.int .i64], .int .i64, .int .i64, .int .i64, .int .i64, .sl [.int .i64, .int .i64, .int .i64, .int .i64], .int .i64, .int .i64]) rfl rfl rfl
  obtain ⟨_, _, rfl, h0, h⟩ := h.cons
  obtain ⟨_, _, rfl, h1, h⟩ := h.cons
  obtain ⟨_, _, rfl, h2, h⟩ := h.cons
  obtain ⟨_, _, rfl, h3, h⟩ := h.cons
  obtain ⟨_, _, rfl, h4, h⟩ := h.cons
  obtain ⟨_, _, rfl, h5, h⟩ := h.cons
  obtain ⟨_, _, rfl, h6, h⟩ := h.cons
  obtain ⟨_, _, rfl, h7, h⟩ := h.cons
  obtain ⟨_, _, rfl, h8, h⟩ := h.cons
  obtain rfl := h.nil
  obtain ⟨l, rfl⟩ := h0.slI (f := fun a : {z : Zn // long z} => a.1.c) fun ps h => Zn.ofL h
  obtain ⟨ss, rfl⟩ := h1.slI (f := fun a : List PV => a) fun ps _ => ⟨ps, rfl⟩
  obtain ⟨nx, rfl, -⟩ := h2.intI
  obtain ⟨e, rfl, -⟩ := h3.intI
  obtain ⟨n, rfl, -⟩ := h4.intI
  obtain ⟨k, rfl, -⟩ := h5.intI
  obtain ⟨ms, rfl⟩ := h6.slI (f := fun a : List PV => a) fun ps _ => ⟨ps, rfl⟩
  obtain ⟨ae, rfl, -⟩ := h7.intI
  obtain ⟨an, rfl, -⟩ := h8.intI
  refine ⟨l.map (·.1), ss, ms, nx, e, n, k, ae, an, fun z hz => ?_, ?_⟩
  · obtain ⟨⟨a, ha⟩, -, rfl⟩ := List.mem_map.1 hz
    exact ha
  · simp [zns]
theorem stateAsks_all (ps : List PV) (h : ShTs Try.T Try.f9.params.toList ps) (hz : ∀ p ∈ ps, SzA reachBytes p) : ACon Try.prog 9 (ps.map .p) (.p (B true)) := by
  have hp : Try.f9.params.toList = [51, 9] := by kernel_rfl
  rw [hp] at h
  match ps, h, hz with
  | [p0, p1], ⟨h0, h1, _⟩, hz =>
    obtain ⟨l, ss, ms, nx, e, n, k, ae, an, hl, rfl⟩ := state_open h0
    obtain ⟨p, hp, rfl⟩ := strN_open h1
    have h := (hz _ (List.mem_cons_self ..)).2 _ rfl
    have ha := h (.sl 5 (zns l)) (by simp) _ _ rfl
    have hb := h (.sl 1 ss) (by simp) _ _ rfl
    have hc := h (.sl 4 ms) (by simp) _ _ rfl
    rw [zns_len] at ha
    exact stateAsks_con l ss ms nx e n k ae an p hp hl (farS_len ha hb hc)
set_option maxRecDepth 100000 in
theorem stateAsks_lifted (os : Os) (started : os.Started) (H : Type) (enc : TypeId × Value → H) :
    ReturnsInHanded {} Try.checked os 9 .any (Rows.stateAsksSpec.pre6 enc Try.prog Try.f9 Rows.stateAsksRow.domain false) (Rows.stateAsksSpec.post enc Try.prog Try.f9 false true false false) :=
  row_liftedZ (C := Try.checked) (tb := 4) Try.tab (by kernel_rfl) started (by kernel_rfl) Try.func9
    (ChangeSpec.witness6 (enc := enc) (C := Try.checked) false ⟨#[], #[.agg #[.slice none 0 0, .slice none 0 0, .int .i64 0, .int .i64 0, .int .i64 0, .int .i64 0, .slice none 0 0, .int .i64 0, .int .i64 0], .string ByteArray.empty], []⟩ 8 (by kernel_rfl) (by kernel_rfl) (by kernel_rfl) (by kernel_rfl))
    rfl rfl Try.underlying4
    (fun ds h => by
      match ds, h with
      | [_, _], _ => exact ⟨rfl, rfl, rfl⟩)
    (by kernel_rfl) hpos stateAsks_all ⟨Try.f9, Try.func9, rfl, rfl⟩
theorem stateAsks_holds : Rows.StateAsksSaid :=
  OpenClaim.holds_of_wide 9 Try.f9 rfl rfl rfl rfl rfl rfl rfl ⟨rfl, rfl, rfl, rfl, rfl⟩ rfl rfl rfl rfl rfl (by kernel_rfl) Try.func9 (by kernel_rfl)
    (of_decide_eq_true (by kernel_rfl)) (by unfold Func.isWrapper; first | (rw [if_pos (by decide +kernel)]; kernel_rfl) | (rw [if_neg (by decide +kernel)]; exact ⟨rfl, rfl⟩))
    (fun os started H enc _ => stateAsks_lifted os started H enc)
#print axioms stateAsks_holds
end Go.Proofs.Ytpadfoaigbfekaa
