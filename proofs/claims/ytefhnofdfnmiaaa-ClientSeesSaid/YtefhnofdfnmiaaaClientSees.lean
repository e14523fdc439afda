/- ClientSees: what a client has seen, and its numbers, never fall; each of its requests ends at most once, and is the last one that it asked; it asks nothing while one waits. No condition. -/
import Derived.Test.YtefhnofdfnmiaaaCL9
import Derived.Test.YtefhnofdfnmiaaaAvDeep
import Derived.Test.YtefhnofdfnmiaaaAvRow
import Derived.Test.YtefhnofdfnmiaaaRows
import Derived.ProofKit
-- ALIAS Try
set_option linter.unusedVariables false
namespace Go.Proofs.Ytefhnofdfnmiaaa
open Go Go.Av Go.ChangeShapes Go.WideShapes Go.ChangeAt Go.RowKit
def KB (c : Nat) : Nat := if c = 4 then 32 else if c = 1 then 8 else 1
theorem KB4 : KB 4 = 32 := rfl
theorem KB1 : KB 1 = 8 := rfl
theorem KB6 : KB 6 = 1 := rfl
theorem KB44 : KB 44 = 1 := rfl
-- TAB2
/-- The table but for []uint8: it is not looked at, and it spoils the bound on lists of numbers. -/
def T2 (t : TypeId) : Option Ty := if t = 73 then none else Try.T t
theorem T2_le {t : TypeId} {y : Ty} (h : T2 t = some y) : Try.T t = some y := by
  unfold T2 at h
  split at h
  · simp at h
  · exact h
theorem tab2 : TabOK Try.prog T2 := fun t y h => Try.tab t y (T2_le h)
theorem hpos : PosK T2 KB := by
  intro t yt e y h hk hy hs
  have hne : ¬ t = 73 := fun h0 => by subst h0; unfold T2 at h; rw [if_pos rfl] at h; simp at h
  have h' := T2_le h
  have hy' := T2_le hy
  clear h hy
  unfold Try.T at h'
  split at h'
  all_goals first | (exact absurd rfl hne; done) | (cases h'; done) | (cases h'; cases hk; done) | (cases h'; cases hk; cases hy'; done) | (cases h'; cases hk; cases hy'; first | exact of_decide_eq_true (by kernel_rfl) | (simp at hs; done))
abbrev LOp : List Lf := [.int .i64, .str, .str, .int .i64, .bool, .bool]
abbrev LMb : List Lf := [.int .i64, .int .i64, .int .i64, .int .i64]
abbrev LRq : List Lf := [.int .i64, .int .i64, .int .i64, .sl LOp, .int .i64, .sl LMb, .sl [.int .i64], .int .i64, .int .i64]
abbrev LWd : List Lf := [.int .i64, .int .i64, .int .i64, .int .i64, .int .i64, .int .i64, .int .i64] ++ LRq ++ [.int .i64, .str, .bool, .int .i64, .str, .str, .str, .int .i64, .int .i64, .int .i64, .sl [.str], .int .i64, .int .i64, .str, .int .i64, .int .i64, .int .i64]
abbrev LEv : List Lf := [.int .i64, .int .i64] ++ LRq ++ LWd
theorem Sh.slAny {E : List Lf} {p : PV} (h : Sh (.sl E) p) : ∃ l, p = .sl E.length l := by cases h; exact ⟨_, rfl⟩
theorem Op6.ofL {ps : List PV} (h : ShL LOp ps) : ∃ o : Op6, ps = o.cells := by
  obtain ⟨_, _, rfl, h0, h⟩ := h.cons
  obtain ⟨_, _, rfl, h1, h⟩ := h.cons
  obtain ⟨_, _, rfl, h2, h⟩ := h.cons
  obtain ⟨_, _, rfl, h3, h⟩ := h.cons
  obtain ⟨_, _, rfl, h4, h⟩ := h.cons
  obtain ⟨_, _, rfl, h5, h⟩ := h.cons
  obtain rfl := h.nil
  obtain ⟨_, rfl, -⟩ := h0.intI
  obtain ⟨s1, rfl, -⟩ := h1.strI
  obtain ⟨s2, rfl, -⟩ := h2.strI
  obtain ⟨_, rfl, -⟩ := h3.intI
  obtain ⟨_, rfl⟩ := h4.boolI
  obtain ⟨_, rfl⟩ := h5.boolI
  exact ⟨⟨_, s1.data.toList, s2.data.toList, _, _, _⟩, rfl⟩
/-- An event whose ops are ops. -/
structure EvN where
  (e : Ev6)
  (os : List Op6)
  (h : e.r.ops = ops6 os)
theorem Ev6.ofL {ps : List PV} (h : ShL LEv ps) : ∃ e : EvN, ps = e.e.cells := by
  obtain ⟨_, _, rfl, h0, h⟩ := h.cons
  obtain ⟨_, _, rfl, h1, h⟩ := h.cons
  obtain ⟨_, _, rfl, h2, h⟩ := h.cons
  obtain ⟨_, _, rfl, h3, h⟩ := h.cons
  obtain ⟨_, _, rfl, h4, h⟩ := h.cons
  obtain ⟨_, _, rfl, h5, h⟩ := h.cons
  obtain ⟨_, _, rfl, h6, h⟩ := h.cons
  obtain ⟨_, _, rfl, h7, h⟩ := h.cons
  obtain ⟨_, _, rfl, h8, h⟩ := h.cons
  obtain ⟨_, _, rfl, h9, h⟩ := h.cons
  obtain ⟨_, _, rfl, h10, h⟩ := h.cons
  obtain ⟨_, _, rfl, h11, h⟩ := h.cons
  obtain ⟨_, _, rfl, h12, h⟩ := h.cons
  obtain ⟨_, _, rfl, h13, h⟩ := h.cons
  obtain ⟨_, _, rfl, h14, h⟩ := h.cons
  obtain ⟨_, _, rfl, h15, h⟩ := h.cons
  obtain ⟨_, _, rfl, h16, h⟩ := h.cons
  obtain ⟨_, _, rfl, h17, h⟩ := h.cons
  obtain ⟨_, _, rfl, h18, h⟩ := h.cons
  obtain ⟨_, _, rfl, h19, h⟩ := h.cons
  obtain ⟨_, _, rfl, h20, h⟩ := h.cons
  obtain ⟨_, _, rfl, h21, h⟩ := h.cons
  obtain ⟨_, _, rfl, h22, h⟩ := h.cons
  obtain ⟨_, _, rfl, h23, h⟩ := h.cons
  obtain ⟨_, _, rfl, h24, h⟩ := h.cons
  obtain ⟨_, _, rfl, h25, h⟩ := h.cons
  obtain ⟨_, _, rfl, h26, h⟩ := h.cons
  obtain ⟨_, _, rfl, h27, h⟩ := h.cons
  obtain ⟨_, _, rfl, h28, h⟩ := h.cons
  obtain ⟨_, _, rfl, h29, h⟩ := h.cons
  obtain ⟨_, _, rfl, h30, h⟩ := h.cons
  obtain ⟨_, _, rfl, h31, h⟩ := h.cons
  obtain ⟨_, _, rfl, h32, h⟩ := h.cons
  obtain ⟨_, _, rfl, h33, h⟩ := h.cons
  obtain ⟨_, _, rfl, h34, h⟩ := h.cons
  obtain ⟨_, _, rfl, h35, h⟩ := h.cons
  obtain ⟨_, _, rfl, h36, h⟩ := h.cons
  obtain ⟨_, _, rfl, h37, h⟩ := h.cons
  obtain ⟨_, _, rfl, h38, h⟩ := h.cons
  obtain ⟨_, _, rfl, h39, h⟩ := h.cons
  obtain ⟨_, _, rfl, h40, h⟩ := h.cons
  obtain ⟨_, _, rfl, h41, h⟩ := h.cons
  obtain ⟨_, _, rfl, h42, h⟩ := h.cons
  obtain ⟨_, _, rfl, h43, h⟩ := h.cons
  obtain rfl := h.nil
  obtain ⟨ek, rfl, -⟩ := h0.intI
  obtain ⟨en, rfl, -⟩ := h1.intI
  obtain ⟨rk, rfl, -⟩ := h2.intI
  obtain ⟨rs, rfl, -⟩ := h3.intI
  obtain ⟨rx, rfl, -⟩ := h4.intI
  obtain ⟨os, rfl⟩ := h5.slI (f := Op6.cells) fun ps h => Op6.ofL h
  obtain ⟨rdk, rfl, -⟩ := h6.intI
  obtain ⟨put, rfl⟩ := Sh.slAny h7
  obtain ⟨drop, rfl⟩ := Sh.slAny h8
  obtain ⟨rwe, rfl, -⟩ := h9.intI
  obtain ⟨rwn, rfl, -⟩ := h10.intI
  obtain ⟨w0, rfl, -⟩ := h11.intI
  obtain ⟨w1, rfl, -⟩ := h12.intI
  obtain ⟨w2, rfl, -⟩ := h13.intI
  obtain ⟨w3, rfl, -⟩ := h14.intI
  obtain ⟨w4, rfl, -⟩ := h15.intI
  obtain ⟨w5, rfl, -⟩ := h16.intI
  obtain ⟨w6, rfl, -⟩ := h17.intI
  obtain ⟨qk, rfl, -⟩ := h18.intI
  obtain ⟨qs, rfl, -⟩ := h19.intI
  obtain ⟨qx, rfl, -⟩ := h20.intI
  obtain ⟨qops, rfl⟩ := Sh.slAny h21
  obtain ⟨qdk, rfl, -⟩ := h22.intI
  obtain ⟨qput, rfl⟩ := Sh.slAny h23
  obtain ⟨qdrop, rfl⟩ := Sh.slAny h24
  obtain ⟨qwe, rfl, -⟩ := h25.intI
  obtain ⟨qwn, rfl, -⟩ := h26.intI
  obtain ⟨wrd, rfl, -⟩ := h27.intI
  obtain ⟨wpa, rfl, -⟩ := h28.strI
  obtain ⟨wwa, rfl⟩ := h29.boolI
  obtain ⟨wer, rfl, -⟩ := h30.intI
  obtain ⟨wma, rfl, -⟩ := h31.strI
  obtain ⟨wnp, rfl, -⟩ := h32.strI
  obtain ⟨wnd, rfl, -⟩ := h33.strI
  obtain ⟨wnv, rfl, -⟩ := h34.intI
  obtain ⟨wnk, rfl, -⟩ := h35.intI
  obtain ⟨wno, rfl, -⟩ := h36.intI
  obtain ⟨wnm, rfl⟩ := Sh.slAny h37
  obtain ⟨ns, rfl, -⟩ := h38.intI
  obtain ⟨nk, rfl, -⟩ := h39.intI
  obtain ⟨np, rfl, -⟩ := h40.strI
  obtain ⟨nw, rfl, -⟩ := h41.intI
  obtain ⟨ne, rfl, -⟩ := h42.intI
  obtain ⟨nn, rfl, -⟩ := h43.intI
  exact ⟨⟨⟨ek, en, ⟨rk, rs, rx, rdk, rwe, rwn, ops6 os, put, drop⟩, ⟨w0, w1, w2, w3, w4, w5, w6, ⟨qk, qs, qx, qdk, qwe, qwn, qops, qput, qdrop⟩, wrd, wpa.data.toList, wwa, wer, wma.data.toList, wnp.data.toList, wnd.data.toList, wnv, wnk, wno, wnm, ⟨ns, nk, np.data.toList, nw, ne, nn⟩⟩⟩, os, rfl⟩, rfl⟩
theorem evs_open {p : PV} (hp : ShT T2 22 p) : ∃ l : List EvN, p = .sl 44 (evs (l.map EvN.e)) := by
  obtain ⟨l, h⟩ := (hp.one (f := .sl LEv) rfl rfl rfl).slI (f := fun x : EvN => x.e.cells) fun ps h => Ev6.ofL h
  refine ⟨l, ?_⟩
  rw [h]
  unfold evs
  rw [List.map_map]
  rfl
theorem OkZ.of {x : EvN} (h : ∀ p ∈ x.e.cells, SzI KB reachBytes p) : OkZ x.e := by
  have hr : reachBytes = 140737488351232 := rfl
  obtain ⟨e, os, hos⟩ := x
  simp only at h ⊢
  have z1 := h (.sl 6 e.r.ops) (by simp [Ev6.cells])
  have h1 := z1.len
  have h2 := (h (.sl 4 e.r.put) (by simp [Ev6.cells])).len
  have h3 := (h (.sl 1 e.r.drop) (by simp [Ev6.cells])).len
  have h4 := (h (.sl 1 e.w.nm) (by simp [Ev6.cells])).len
  have h5 := (h (SB e.w.pa) (by simp [Ev6.cells])).str
  have h6 := (h (SB e.w.ma) (by simp [Ev6.cells])).str
  have h7 := (h (.sl 6 e.w.r.ops) (by simp [Ev6.cells])).len
  have h8 := (h (.sl 4 e.w.r.put) (by simp [Ev6.cells])).len
  have h9 := (h (.sl 1 e.w.r.drop) (by simp [Ev6.cells])).len
  rw [KB6] at h1 h7
  rw [KB4] at h2 h8
  rw [KB1] at h3 h4 h9
  have e5 : (bs e.w.pa).size = e.w.pa.length := by simp
  have e6 : (bs e.w.ma).size = e.w.ma.length := by simp
  refine ⟨⟨os, hos, fun o ho => ?_⟩, by omega, by omega, by omega, by omega, by omega, by omega, by omega, by omega, by omega⟩
  have hin : o.cells ∈ e.r.ops := by rw [hos]; exact List.mem_map.2 ⟨o, ho, rfl⟩
  have s1 := (z1.at hin (p := SB o.pa) (by simp [Op6.cells])).str
  have s2 := (z1.at hin (p := SB o.da) (by simp [Op6.cells])).str
  have e1 : (bs o.pa).size = o.pa.length := by simp
  have e2 : (bs o.da).size = o.da.length := by simp
  omega
theorem clientSees_all (ps : List PV) (h : ShTs T2 Try.f4.params.toList ps) (hz : ∀ p ∈ ps, SzI KB reachBytes p) : ACon Try.prog 4 (ps.map .p) (.p (B true)) := by
  have hp : Try.f4.params.toList = [3, 22] := by kernel_rfl
  rw [hp] at h
  match ps, h, hz with
  | [p0, p1], ⟨h0, h1, _⟩, hz =>
    obtain ⟨n, rfl, -⟩ := (h0.one (f := .int .i64) rfl rfl rfl).intI
    obtain ⟨l, rfl⟩ := evs_open h1
    have zl := hz (.sl 44 (evs (l.map EvN.e))) (by simp)
    have hl := zl.len
    rw [evs_len, KB44] at hl
    have hr : reachBytes = 140737488351232 := rfl
    refine clientSees_con n _ (fun e he => ?_) (by omega)
    obtain ⟨x, hx, rfl⟩ := List.mem_map.1 he
    exact OkZ.of fun p hp => zl.at (e := x.e.cells) (List.mem_map.2 ⟨x.e, he, rfl⟩) hp
set_option maxRecDepth 100000 in
theorem clientSees_lifted (os : Os) (started : os.Started) (H : Type) (enc : TypeId × Value → H) :
    ReturnsInHanded {} Try.checked os 4 .any (Rows.clientSeesSpec.pre6 enc Try.prog Try.f4 Rows.clientSeesRow.domain false) (Rows.clientSeesSpec.post enc Try.prog Try.f4 false true false false) :=
  row_liftedD (K := KB) (C := Try.checked) (tb := 4) tab2 (by kernel_rfl) started (by kernel_rfl) Try.func4
    (ChangeSpec.witness6 (enc := enc) (C := Try.checked) false ⟨#[], #[.int .i64 0, .slice none 0 0], []⟩ 8 (by kernel_rfl) (by kernel_rfl) (by kernel_rfl) (by kernel_rfl))
    rfl rfl Try.underlying4
    (fun ds h => by
      match ds, h with
      | [_, _], _ => exact ⟨rfl, rfl, rfl⟩)
    (by kernel_rfl) hpos clientSees_all ⟨Try.f4, Try.func4, rfl, rfl⟩
theorem clientSees_holds : Rows.ClientSeesSaid :=
  OpenClaim.holds_of_wide 4 Try.f4 rfl rfl rfl rfl rfl rfl rfl ⟨rfl, rfl, rfl, rfl, rfl⟩ rfl rfl rfl rfl rfl (by kernel_rfl) Try.func4 (by kernel_rfl)
    (of_decide_eq_true (by kernel_rfl)) (by unfold Func.isWrapper; first | (rw [if_pos (by decide +kernel)]; kernel_rfl) | (rw [if_neg (by decide +kernel)]; exact ⟨rfl, rfl⟩))
    (fun os started H enc _ => clientSees_lifted os started H enc)
#print axioms clientSees_holds
end Go.Proofs.Ytefhnofdfnmiaaa
