/- StateSame: which states, and which transactions, are the same, of any. No condition. -/
import Derived.Test.YtpadfoaigbfekaaXV
import Derived.Test.YtpadfoaigbfekaaAvRow
import Derived.Test.YtpadfoaigbfekaaRows
import Derived.ProofKit
-- ALIAS Try
set_option linter.unusedVariables false
namespace Go.Proofs.Ytpadfoaigbfekaa
open Go Go.Av Go.ChangeShapes Go.WideShapes Go.ChangeAt Go.RowKit
theorem Mb.ofL {ps : List PV} (h : ShL [.int .i64, .int .i64, .int .i64, .int .i64] ps) : ∃ a : Mb, ps = a.cells := by
  obtain ⟨_, _, rfl, h0, h⟩ := h.cons
  obtain ⟨_, _, rfl, h1, h⟩ := h.cons
  obtain ⟨_, _, rfl, h2, h⟩ := h.cons
  obtain ⟨_, _, rfl, h3, h⟩ := h.cons
  obtain rfl := h.nil
  obtain ⟨_, rfl, -⟩ := h0.intI
  obtain ⟨_, rfl, -⟩ := h1.intI
  obtain ⟨_, rfl, -⟩ := h2.intI
  obtain ⟨_, rfl, -⟩ := h3.intI
  exact ⟨⟨_, _, _, _⟩, rfl⟩
abbrev LMb : Lf := .sl [.int .i64, .int .i64, .int .i64, .int .i64]
abbrev LZn : List Lf := [.str, .str, .int .i64, .int .i64, .int .i64]
abbrev LPt : List Lf := [.int .i64, .str, .str, .int .i64, .int .i64, .int .i64, .int .i64, .int .i64, .int .i64, .int .i64, LMb]
abbrev LTx : List Lf := [.int .i64, .int .i64, .int .i64, .int .i64, .int .i64, .int .i64, .str, .sl LPt]
theorem Cf.ofL {ps : List PV} (h : ShL [.int .i64, .int .i64, .int .i64, LMb] ps) : ∃ a : Cf, ps = a.cells := by
  obtain ⟨_, _, rfl, h0, h⟩ := h.cons
  obtain ⟨_, _, rfl, h1, h⟩ := h.cons
  obtain ⟨_, _, rfl, h2, h⟩ := h.cons
  obtain ⟨_, _, rfl, h3, h⟩ := h.cons
  obtain rfl := h.nil
  obtain ⟨_, rfl, -⟩ := h0.intI
  obtain ⟨_, rfl, -⟩ := h1.intI
  obtain ⟨_, rfl, -⟩ := h2.intI
  obtain ⟨l, rfl⟩ := h3.slI (f := Mb.cells) fun ps h => Mb.ofL h
  exact ⟨⟨_, _, _, l⟩, rfl⟩
theorem Pt.ofL {ps : List PV} (h : ShL LPt ps) : ∃ a : Pt, ps = a.cells := by
  obtain ⟨_, _, rfl, h0, h⟩ := h.cons
  obtain ⟨_, _, rfl, h1, h⟩ := h.cons
  obtain ⟨_, _, rfl, h2, h⟩ := h.cons
  obtain ⟨_, _, rfl, h3, h⟩ := h.cons
  obtain ⟨_, _, rfl, h4, h⟩ := h.cons
  obtain ⟨_, _, rfl, h5, h⟩ := h.cons
  obtain ⟨_, _, rfl, h6, h⟩ := h.cons
  obtain ⟨_, _, rfl, h7, h⟩ := h.cons
  obtain ⟨_, _, rfl, h8, h⟩ := h.cons
  obtain ⟨_, _, rfl, h9, h⟩ := h.cons
  obtain ⟨_, _, rfl, h10, h⟩ := h.cons
  obtain rfl := h.nil
  obtain ⟨_, rfl, -⟩ := h0.intI
  obtain ⟨s1, rfl, -⟩ := h1.strI
  obtain ⟨s2, rfl, -⟩ := h2.strI
  obtain ⟨_, rfl, -⟩ := h3.intI
  obtain ⟨_, rfl, -⟩ := h4.intI
  obtain ⟨_, rfl, -⟩ := h5.intI
  obtain ⟨_, rfl, -⟩ := h6.intI
  obtain ⟨_, rfl, -⟩ := h7.intI
  obtain ⟨_, rfl, -⟩ := h8.intI
  obtain ⟨_, rfl, -⟩ := h9.intI
  obtain ⟨l, rfl⟩ := h10.slI (f := Mb.cells) fun ps h => Mb.ofL h
  exact ⟨⟨_, ⟨s1.data.toList, s2.data.toList, _, _, _⟩, _, ⟨_, _, _, l⟩⟩, rfl⟩
theorem Tx.ofLr {ps : List PV} {r : List Lf} (h : ShL (LTx ++ r) ps) : ∃ (a : Tx) (qs : List PV), ps = a.cells ++ qs ∧ ShL r qs := by
  obtain ⟨_, _, rfl, h0, h⟩ := h.cons
  obtain ⟨_, _, rfl, h1, h⟩ := h.cons
  obtain ⟨_, _, rfl, h2, h⟩ := h.cons
  obtain ⟨_, _, rfl, h3, h⟩ := h.cons
  obtain ⟨_, _, rfl, h4, h⟩ := h.cons
  obtain ⟨_, _, rfl, h5, h⟩ := h.cons
  obtain ⟨_, _, rfl, h6, h⟩ := h.cons
  obtain ⟨_, qs, rfl, h7, hq⟩ := h.cons
  obtain ⟨i0, rfl, -⟩ := h0.intI
  obtain ⟨i1, rfl, -⟩ := h1.intI
  obtain ⟨i2, rfl, -⟩ := h2.intI
  obtain ⟨i3, rfl, -⟩ := h3.intI
  obtain ⟨i4, rfl, -⟩ := h4.intI
  obtain ⟨i5, rfl, -⟩ := h5.intI
  obtain ⟨s, rfl, -⟩ := h6.strI
  obtain ⟨l, rfl⟩ := h7.slI (f := Pt.cells) fun ps h => Pt.ofL h
  exact ⟨⟨i0, i1, i2, i3, i4, i5, s.data.toList, l⟩, qs, rfl, hq⟩
theorem Zn.ofL' {ps : List PV} (h : ShL LZn ps) : ∃ a : Zn, ps = a.c := by
  obtain ⟨a, h⟩ := Zn.ofL h
  exact ⟨a.1, h⟩
theorem Sv.ofL {ps : List PV} (h : ShL [.sl LZn, .sl [.int .i64], .int .i64, .int .i64, .int .i64, .int .i64, LMb, .int .i64, .int .i64] ps) : ∃ s : Sv, ps = s.cells := by
  obtain ⟨_, _, rfl, h0, h⟩ := h.cons
  obtain ⟨_, _, rfl, h1, h⟩ := h.cons
  obtain ⟨_, _, rfl, h2, h⟩ := h.cons
  obtain ⟨_, _, rfl, h3, h⟩ := h.cons
  obtain ⟨_, _, rfl, h4, h⟩ := h.cons
  obtain ⟨_, _, rfl, h5, h⟩ := h.cons
  obtain ⟨_, _, rfl, h6, h⟩ := h.cons
  obtain ⟨_, _, rfl, h7, h⟩ := h.cons
  obtain ⟨_, _, rfl, h8, h⟩ := h.cons
  obtain rfl := h.nil
  obtain ⟨ns, rfl⟩ := h0.slI (f := Zn.c) fun ps h => Zn.ofL' h
  obtain ⟨ss, rfl⟩ := h1.slI (f := fun n : Int => [I n]) fun ps h => by
    obtain ⟨_, _, rfl, h0, h⟩ := h.cons
    obtain rfl := h.nil
    obtain ⟨n, rfl, -⟩ := h0.intI
    exact ⟨n, rfl⟩
  obtain ⟨_, rfl, -⟩ := h2.intI
  obtain ⟨_, rfl, -⟩ := h3.intI
  obtain ⟨_, rfl, -⟩ := h4.intI
  obtain ⟨_, rfl, -⟩ := h5.intI
  obtain ⟨ms, rfl⟩ := h6.slI (f := Mb.cells) fun ps h => Mb.ofL h
  obtain ⟨_, rfl, -⟩ := h7.intI
  obtain ⟨_, rfl, -⟩ := h8.intI
  exact ⟨⟨ns, ss, _, ⟨_, _, _, ms⟩, _, _⟩, rfl⟩
theorem sv_open {p : PV} (hp : ShT Try.T 51 p) : ∃ s : Sv, p = .agg s.cells := by
  obtain ⟨ps, rfl, h⟩ := hp.agg (E := [.sl LZn, .sl [.int .i64], .int .i64, .int .i64, .int .i64, .int .i64, LMb, .int .i64, .int .i64]) rfl rfl rfl
  obtain ⟨s, rfl⟩ := Sv.ofL h
  exact ⟨s, rfl⟩
theorem twoT_open {p : PV} (hp : ShT Try.T 66 p) : ∃ t u : Tx, p = .agg (t.cells ++ u.cells) := by
  obtain ⟨ps, rfl, h⟩ := hp.agg (E := LTx ++ LTx) rfl rfl rfl
  obtain ⟨t, qs, rfl, h2⟩ := Tx.ofLr (r := LTx) h
  obtain ⟨u, qs', rfl, h4⟩ := Tx.ofLr (r := []) (by simpa using h2)
  obtain rfl := h4.nil
  exact ⟨t, u, by simp⟩
theorem stateSame_all (ps : List PV) (h : ShTs Try.T Try.f10.params.toList ps) : ACon Try.prog 10 (ps.map .p) (.p (B true)) := by
  have hp : Try.f10.params.toList = [51, 51, 66] := by kernel_rfl
  rw [hp] at h
  match ps, h with
  | [p0, p1, p2], ⟨h0, h1, h2, _⟩ =>
    obtain ⟨a, rfl⟩ := sv_open h0
    obtain ⟨b, rfl⟩ := sv_open h1
    obtain ⟨t, u, rfl⟩ := twoT_open h2
    exact stateSame_con a b t u
set_option maxRecDepth 100000 in
theorem stateSame_lifted (os : Os) (started : os.Started) (H : Type) (enc : TypeId × Value → H) :
    ReturnsInHanded {} Try.checked os 10 .any (Rows.stateSameSpec.pre6 enc Try.prog Try.f10 Rows.stateSameRow.domain false) (Rows.stateSameSpec.post enc Try.prog Try.f10 false true false false) :=
  row_lifted (C := Try.checked) (tb := 4) Try.tab (by kernel_rfl) started (by kernel_rfl) Try.func10
    (ChangeSpec.witness6 (enc := enc) (C := Try.checked) false ⟨#[], #[.agg #[.slice none 0 0, .slice none 0 0, .int .i64 0, .int .i64 0, .int .i64 0, .int .i64 0, .slice none 0 0, .int .i64 0, .int .i64 0], .agg #[.slice none 0 0, .slice none 0 0, .int .i64 0, .int .i64 0, .int .i64 0, .int .i64 0, .slice none 0 0, .int .i64 0, .int .i64 0], .agg #[.int .i64 0, .int .i64 0, .int .i64 0, .int .i64 0, .int .i64 0, .int .i64 0, .string ByteArray.empty, .slice none 0 0, .int .i64 0, .int .i64 0, .int .i64 0, .int .i64 0, .int .i64 0, .int .i64 0, .string ByteArray.empty, .slice none 0 0]], []⟩ 8 (by kernel_rfl) (by kernel_rfl) (by kernel_rfl) (by kernel_rfl))
    rfl rfl Try.underlying4
    (fun ds h => by
      match ds, h with
      | [_, _, _], _ => exact ⟨rfl, rfl, rfl⟩)
    (by kernel_rfl) stateSame_all ⟨Try.f10, Try.func10, rfl, rfl⟩
theorem stateSame_holds : Rows.StateSameSaid :=
  OpenClaim.holds_of_wide 10 Try.f10 rfl rfl rfl rfl rfl rfl rfl ⟨rfl, rfl, rfl, rfl, rfl⟩ rfl rfl rfl rfl rfl (by kernel_rfl) Try.func10 (by kernel_rfl)
    (of_decide_eq_true (by kernel_rfl)) (by unfold Func.isWrapper; first | (rw [if_pos (by decide +kernel)]; kernel_rfl) | (rw [if_neg (by decide +kernel)]; exact ⟨rfl, rfl⟩))
    (fun os started H enc _ => stateSame_lifted os started H enc)
#print axioms stateSame_holds
end Go.Proofs.Ytpadfoaigbfekaa
