/- WatchOnce: each watch is told or stays, not both; a second change tells none of those that were told. No condition. -/
import Derived.Test.YtkeopdjnidmaeaaWZ
import Derived.Test.YtkeopdjnidmaeaaAvRow
import Derived.Test.YtkeopdjnidmaeaaRows
import Derived.ProofKit
-- ALIAS Try
set_option linter.unusedVariables false
namespace Go.Proofs.Ytkeopdjnidmaeaa
open Go Go.Av Go.ChangeShapes Go.WideShapes Go.ChangeAt Go.RowKit
abbrev LMb : Lf := .sl [.int .i64, .int .i64, .int .i64, .int .i64]
abbrev LZn : List Lf := [.str, .str, .int .i64, .int .i64, .int .i64]
abbrev LSt : List Lf := [.sl LZn, .sl [.int .i64], .int .i64, .int .i64, .int .i64, .int .i64, LMb, .int .i64, .int .i64]
theorem Zn.ofL {ps : List PV} (h : ShL LZn ps) : ∃ a : {z : Zn // long z}, ps = a.1.c := by
  obtain ⟨_, _, rfl, h0, h⟩ := h.cons
  obtain ⟨_, _, rfl, h1, h⟩ := h.cons
  obtain ⟨_, _, rfl, h2, h⟩ := h.cons
  obtain ⟨_, _, rfl, h3, h⟩ := h.cons
  obtain ⟨_, _, rfl, h4, h⟩ := h.cons
  obtain rfl := h.nil
  obtain ⟨s, rfl, hs⟩ := h0.strI
  obtain ⟨d, rfl, hd⟩ := h1.strI
  obtain ⟨v, rfl, -⟩ := h2.intI
  obtain ⟨k, rfl, -⟩ := h3.intI
  obtain ⟨o, rfl, -⟩ := h4.intI
  have hl : ∀ s : ByteArray, s.size ≤ maxLen → s.data.toList.length ≤ 9223372036854775807 := fun s hs => by
    have h1 : s.data.toList.length = s.size := Array.length_toList
    have h2 : maxLen = 9223372036854775807 := rfl
    omega
  exact ⟨⟨⟨s.data.toList, d.data.toList, v, k, o⟩, hl s hs, hl d hd⟩, rfl⟩
theorem Ws.ofL {ps : List PV} {r : List Lf} (h : ShL (LSt ++ r) ps) : ∃ (s : Ws) (qs : List PV), (∀ z ∈ s.l, long z) ∧ ps = s.c ++ qs ∧ ShL r qs := by
  obtain ⟨_, _, rfl, h0, h⟩ := h.cons
  obtain ⟨_, _, rfl, h1, h⟩ := h.cons
  obtain ⟨_, _, rfl, h2, h⟩ := h.cons
  obtain ⟨_, _, rfl, h3, h⟩ := h.cons
  obtain ⟨_, _, rfl, h4, h⟩ := h.cons
  obtain ⟨_, _, rfl, h5, h⟩ := h.cons
  obtain ⟨_, _, rfl, h6, h⟩ := h.cons
  obtain ⟨_, _, rfl, h7, h⟩ := h.cons
  obtain ⟨_, qs, rfl, h8, hq⟩ := h.cons
  obtain ⟨l, rfl⟩ := h0.slI (f := fun a : {z : Zn // long z} => a.1.c) fun ps h => Zn.ofL h
  obtain ⟨ss, rfl⟩ := h1.slI (f := fun a : List PV => a) fun ps _ => ⟨ps, rfl⟩
  obtain ⟨i2, rfl, -⟩ := h2.intI
  obtain ⟨i3, rfl, -⟩ := h3.intI
  obtain ⟨i4, rfl, -⟩ := h4.intI
  obtain ⟨i5, rfl, -⟩ := h5.intI
  obtain ⟨ms, rfl⟩ := h6.slI (f := fun a : List PV => a) fun ps _ => ⟨ps, rfl⟩
  obtain ⟨i7, rfl, -⟩ := h7.intI
  obtain ⟨i8, rfl, -⟩ := h8.intI
  refine ⟨⟨l.map (·.1), ss, ms, i2, i3, i4, i5, i7, i8⟩, qs, fun z hz => ?_, ?_, hq⟩
  · obtain ⟨⟨a, ha⟩, -, rfl⟩ := List.mem_map.1 hz
    exact ha
  · simp [Ws.c, zns]
theorem ws_open {p : PV} (hp : ShT Try.T 31 p) : ∃ s : Ws, (∀ z ∈ s.l, long z) ∧ p = .agg s.c := by
  obtain ⟨ps, rfl, h⟩ := hp.agg (E := LSt) rfl rfl rfl
  obtain ⟨s, qs, h1, rfl, h2⟩ := Ws.ofL (r := []) (by simpa using h)
  obtain rfl := h2.nil
  exact ⟨s, h1, by simp⟩
theorem two_open {p : PV} (hp : ShT Try.T 32 p) : ∃ s u : Ws, (∀ z ∈ s.l, long z) ∧ (∀ z ∈ u.l, long z) ∧ p = .agg (s.c ++ u.c) := by
  obtain ⟨ps, rfl, h⟩ := hp.agg (E := LSt ++ LSt) rfl rfl rfl
  obtain ⟨s, qs, h1, rfl, h2⟩ := Ws.ofL (r := LSt) h
  obtain ⟨u, qs', h3, rfl, h4⟩ := Ws.ofL (r := []) (by simpa using h2)
  obtain rfl := h4.nil
  exact ⟨s, u, h1, h3, by simp⟩
theorem wt_open {p : PV} (hp : ShT Try.T 22 p) : ∃ l : List Wt, p = .sl 3 (wts l) :=
  (hp.one (f := .sl [.int .i64, .int .i64, .str]) rfl rfl rfl).slI (f := Wt.c) fun ps h => by
    obtain ⟨_, _, rfl, h0, h⟩ := h.cons
    obtain ⟨_, _, rfl, h1, h⟩ := h.cons
    obtain ⟨_, _, rfl, h2, h⟩ := h.cons
    obtain rfl := h.nil
    obtain ⟨_, rfl, -⟩ := h0.intI
    obtain ⟨_, rfl, -⟩ := h1.intI
    obtain ⟨s, rfl, -⟩ := h2.strI
    exact ⟨⟨_, _, s.data.toList⟩, rfl⟩
theorem watchOnce_all (ps : List PV) (h : ShTs Try.T Try.f3.params.toList ps) : ACon Try.prog 3 (ps.map .p) (.p (B true)) := by
  have hp : Try.f3.params.toList = [22, 31, 32] := by kernel_rfl
  rw [hp] at h
  match ps, h with
  | [p0, p1, p2], ⟨h0, h1, h2, _⟩ =>
    obtain ⟨l, rfl⟩ := wt_open h0
    obtain ⟨a, ha, rfl⟩ := ws_open h1
    obtain ⟨b, c, hb, hc, rfl⟩ := two_open h2
    exact watchOnce_con l a b c ha hb hc
set_option maxRecDepth 100000 in
theorem watchOnce_lifted (os : Os) (started : os.Started) (H : Type) (enc : TypeId × Value → H) :
    ReturnsInHanded {} Try.checked os 3 .any (Rows.watchOnceSpec.pre6 enc Try.prog Try.f3 Rows.watchOnceRow.domain false) (Rows.watchOnceSpec.post enc Try.prog Try.f3 false true false false) :=
  row_lifted (C := Try.checked) (tb := 4) Try.tab (by kernel_rfl) started (by kernel_rfl) Try.func3
    (ChangeSpec.witness6 (enc := enc) (C := Try.checked) false ⟨#[], #[.slice none 0 0, .agg #[.slice none 0 0, .slice none 0 0, .int .i64 0, .int .i64 0, .int .i64 0, .int .i64 0, .slice none 0 0, .int .i64 0, .int .i64 0], .agg #[.slice none 0 0, .slice none 0 0, .int .i64 0, .int .i64 0, .int .i64 0, .int .i64 0, .slice none 0 0, .int .i64 0, .int .i64 0, .slice none 0 0, .slice none 0 0, .int .i64 0, .int .i64 0, .int .i64 0, .int .i64 0, .slice none 0 0, .int .i64 0, .int .i64 0]], []⟩ 8 (by kernel_rfl) (by kernel_rfl) (by kernel_rfl) (by kernel_rfl))
    rfl rfl Try.underlying4
    (fun ds h => by
      match ds, h with
      | [_, _, _], _ => exact ⟨rfl, rfl, rfl⟩)
    (by kernel_rfl) watchOnce_all ⟨Try.f3, Try.func3, rfl, rfl⟩
theorem watchOnce_holds : Rows.WatchOnceSaid :=
  OpenClaim.holds_of_wide 3 Try.f3 rfl rfl rfl rfl rfl rfl rfl ⟨rfl, rfl, rfl, rfl, rfl⟩ rfl rfl rfl rfl rfl (by kernel_rfl) Try.func3 (by kernel_rfl)
    (of_decide_eq_true (by kernel_rfl)) (by unfold Func.isWrapper; first | (rw [if_pos (by decide +kernel)]; kernel_rfl) | (rw [if_neg (by decide +kernel)]; exact ⟨rfl, rfl⟩))
    (fun os started H enc _ => watchOnce_lifted os started H enc)
#print axioms watchOnce_holds
end Go.Proofs.Ytkeopdjnidmaeaa
