/- Texts that the proof needs: RGO Upto CPO. -/
import Derived.Test.YtefhnofdfnmiaaaP21ClientPlays
import Derived.Test.YtefhnofdfnmiaaaP26ClientPlays
import Derived.Test.YtefhnofdfnmiaaaRows
import Derived.Test.YtefhnofdfnmiaaaP24ClientPlays
/- Records: what comes in, opened. -/
namespace Go.Proofs.Ytefhnofdfnmiaaa
set_option linter.unusedSimpArgs false
set_option linter.unusedVariables false
set_option maxRecDepth 8000
open Go Go.Av Go.ChangeShapes Go.WideShapes Go.ChangeAt Go.RowKit
/-- How many bytes an element of so many cells has at least. -/
def KB (c : Nat) : Nat := 1
theorem hpos : PosK Try.T KB := by
  intro t yt e y h hk hy hs
  unfold Try.T at h
  split at h
  all_goals first | (cases h; done) | (cases h; cases hk; done) | (cases h; cases hk; cases hy; done) | (cases h; cases hk; cases hy; first | exact of_decide_eq_true (by kernel_rfl) | (simp at hs; done))
abbrev Zd (ps : List PV) : Prop := ∀ p ∈ ps, SzI KB reachBytes p
theorem reach47 : reachBytes ≤ 140737488355328 := by decide
theorem zd_len {p : PV} (h : SzI KB reachBytes p) : lenP p ≤ 140737488355328 := by
  have hr := reach47
  cases h with
  | v x h =>
    cases x
    case string s =>
      have := h s rfl
      have h1 : s.data.toList.length = s.size := Array.length_toList
      show s.data.toList.length ≤ _; omega
    all_goals exact Nat.zero_le _
  | sl c l hl h => have : l.length * 1 ≤ reachBytes := hl; show l.length ≤ _; omega
  | agg l h => exact Nat.zero_le _
abbrev FoS (f : Fo) (E : List Lf) : Prop := ∀ ps, ShL E ps → Zd ps → f.ok ps
theorem foI_S : FoS foI [.int .i64] := fun ps h hz => by
  obtain ⟨p, _, rfl, h0, h⟩ := h.cons
  obtain rfl := h.nil
  obtain ⟨n, rfl, hn⟩ := h0.intI
  refine ⟨n, rfl, ?_⟩
  simp only [Lit.wf, Bool.and_eq_true, decide_eq_true_eq] at hn
  have h1 : IntKind.i64.min = -9223372036854775808 := by decide
  have h2 : IntKind.i64.max = 9223372036854775807 := by decide
  unfold okI; omega
theorem foS_S : FoS foS [.str] := fun ps h hz => by
  obtain ⟨p, _, rfl, h0, h⟩ := h.cons
  obtain rfl := h.nil
  obtain ⟨s, rfl, hs⟩ := h0.strI
  have h1 : s.data.toList.length = s.size := Array.length_toList
  have h2 : maxLen = 9223372036854775807 := rfl
  exact ⟨s.data.toList, by show [PV.v (.string s)] = [PV.v (.string ⟨s.data.toList.toArray⟩)]; rw [Array.toArray_toList], by omega⟩
theorem foB_S : FoS foB [.bool] := fun ps h hz => by
  obtain ⟨p, _, rfl, h0, h⟩ := h.cons
  obtain rfl := h.nil
  obtain ⟨x, rfl⟩ := h0.boolI
  exact ⟨x, rfl⟩
theorem shl_parts {E E' : List Lf} {ps : List PV} (h : ShL (E ++ E') ps) : ShL E (ps.take E.length) ∧ ShL E' (ps.drop E.length) := by
  obtain ⟨h1, h2⟩ := h
  rw [List.length_append] at h1
  refine ⟨⟨by rw [List.length_take]; omega, fun j f p hf hp => ?_⟩, ⟨by rw [List.length_drop]; omega, fun j f p hf hp => ?_⟩⟩
  · have hj : j < E.length := by rw [List.getElem?_eq_some_iff] at hf; exact hf.1
    refine h2 j f p (by rw [List.getElem?_append_left hj]; exact hf) ?_
    rw [List.getElem?_take] at hp
    rw [if_pos hj] at hp; exact hp
  · refine h2 (E.length + j) f p (by rw [List.getElem?_append_right (by omega)]; simpa using hf) ?_
    rw [List.getElem?_drop] at hp; exact hp
theorem sq_S {f g : Fo} {E E' : List Lf} (hf : FoS f E) (hg : FoS g E') (hn : f.n = E.length := by rfl) : FoS (sq f g) (E ++ E') := fun ps h hz => by
  obtain ⟨h1, h2⟩ := shl_parts h
  refine ⟨?_, ?_⟩
  · show f.ok (ps.take f.n); rw [hn]; exact hf _ h1 fun p hp => hz p (List.mem_of_mem_take hp)
  · show g.ok (ps.drop f.n); rw [hn]; exact hg _ h2 fun p hp => hz p (List.mem_of_mem_drop hp)
theorem fl_S {f : Fo} {E : List Lf} (hf : FoS f E) : FoS (fl E.length f) [.sl E] := fun ps h hz => by
  obtain ⟨p, _, rfl, h0, h⟩ := h.cons
  obtain rfl := h.nil
  obtain ⟨l, rfl⟩ := h0.slI (α := {e : List PV // ShL E e}) (f := fun a => a.val) fun ps h => ⟨⟨ps, h⟩, rfl⟩
  have hs := hz _ List.mem_cons_self
  have hb := zd_len hs
  refine ⟨_, rfl, by rw [lenP_sl] at hb; omega, fun r hr => ?_⟩
  obtain ⟨⟨e, he⟩, h1, rfl⟩ := List.mem_map.1 hr
  exact hf _ he fun p hp => hs.at hr hp
abbrev EZx : List Lf := [.int .i64, .int .i64]
theorem fZx_S : FoS fZx EZx := sq_S foI_S foI_S
abbrev EMb : List Lf := [.int .i64, .int .i64, .int .i64, .int .i64]
theorem fMb_S : FoS fMb EMb := sq_S foI_S (sq_S foI_S (sq_S foI_S foI_S))
abbrev EOp : List Lf := [.int .i64, .str, .str, .int .i64, .bool, .bool]
theorem fOp_S : FoS fOp EOp := sq_S foI_S (sq_S foS_S (sq_S foS_S (sq_S foI_S (sq_S foB_S foB_S))))
abbrev ERq : List Lf := [.int .i64, .int .i64, .int .i64, .sl EOp, .int .i64, .sl EMb, .sl [.int .i64], .int .i64, .int .i64]
theorem fRq_S : FoS fRq ERq := sq_S foI_S (sq_S foI_S (sq_S foI_S (sq_S (fl_S fOp_S) (sq_S foI_S (sq_S (fl_S fMb_S) (sq_S (fl_S foI_S) fZx_S))))))
theorem int_open {p : PV} (hp : ShT Try.T 3 p) : ∃ n, p = I n := by
  obtain ⟨n, rfl, -⟩ := (hp.one (f := .int .i64) rfl rfl rfl).intI
  exact ⟨n, rfl⟩
end Go.Proofs.Ytefhnofdfnmiaaa
/- The second form of a row: what comes in is small, so each slice and each text in it is. -/
namespace Go.Proofs.Ytefhnofdfnmiaaa
set_option linter.unusedVariables false
open Go Go.Av
theorem up_one {H : Type} (d : DataW H) : 1 ≤ Rows.uptoBulk d := by
  cases d with
  | lit l => cases l <;> simp [Rows.uptoBulk]
  | _ => simp [Rows.uptoBulk]
theorem up_at {H : Type} : ∀ {l : List (DataW H)} {i : Nat} {d : DataW H}, l[i]? = some d → Rows.uptoBulk d ≤ Rows.uptoBulkAll l
  | x :: l, 0, d, h => by
    simp at h; subst h
    simp only [Rows.uptoBulkAll]; omega
  | x :: l, i + 1, d, h => by
    have := up_at (l := l) (i := i) (d := d) (by simpa using h)
    simp only [Rows.uptoBulkAll]; omega
theorem up_len {H : Type} : ∀ l : List (DataW H), l.length ≤ Rows.uptoBulkAll l
  | [] => by simp [Rows.uptoBulkAll]
  | x :: l => by
    have h1 := up_one x
    have h2 := up_len l
    simp only [Rows.uptoBulkAll, List.length_cons]; omega
theorem bddU {H : Type} {P : Program} (T : TypeId → Option Ty) : BddD (H := H) P T (fun _ d => Rows.uptoBulk d ≤ 1048576) (fun _ => 1) 1048576 where
  st := fun t fs parts i f d _ hb _ hd => by
    have h1 := up_at hd
    simp only [Rows.uptoBulk] at hb; omega
  ar := fun t k e parts i d _ hb hd => by
    have h1 := up_at hd
    simp only [Rows.uptoBulk] at hb; omega
  sl := fun t e elems spare _ _ y _ _ hb => by
    have h1 := up_len elems
    simp only [Rows.uptoBulk] at hb; omega
  sle := fun t e elems spare i d _ hb hd => by
    have h1 := up_at hd
    simp only [Rows.uptoBulk] at hb; omega
  str := fun t b hb => by simp only [Rows.uptoBulk] at hb; omega
theorem up_all {H : Type} : ∀ l m : List (DataW H), Rows.uptoBulkAll l ≤ Rows.uptoBulkAll (l ++ m)
  | [], m => by simp [Rows.uptoBulkAll]
  | x :: l, m => by
    have := up_all l m
    simp only [List.cons_append, Rows.uptoBulkAll]; omega
theorem upto_arg {H : Type} {ds gs : List (DataW H)} (hk : Rows.uptoSmall H (ds ++ gs) = true) {j : Nat} {d : DataW H} (hd : ds[j]? = some d) : Rows.uptoBulk d ≤ 1048576 := by
  have h1 : Rows.uptoBulkAll (ds ++ gs) ≤ 1048576 := of_decide_eq_true hk
  have h2 := up_all ds gs
  have h3 := up_at hd
  omega
end Go.Proofs.Ytefhnofdfnmiaaa
/- Clients: what comes in, opened (the second form). -/
namespace Go.Proofs.Ytefhnofdfnmiaaa
set_option linter.unusedSimpArgs false
set_option linter.unusedVariables false
set_option maxRecDepth 8000
open Go Go.Av Go.ChangeShapes Go.WideShapes Go.ChangeAt Go.RowKit
abbrev K1 : Nat → Nat := fun _ => 1
theorem z1_mono {p : PV} (h : SzI K1 1048576 p) : SzI KB reachBytes p := by
  have hr : 1048576 ≤ reachBytes := by decide
  induction h with
  | v x h => exact .v x fun s e => Nat.le_trans (h s e) hr
  | sl c l hl h ih => exact .sl c l (Nat.le_trans (show l.length * 1 ≤ 1048576 from hl) hr) ih
  | agg l h ih => exact .agg l ih
theorem z1_sl {c : Nat} {l : List (List PV)} (h : SzI K1 1048576 (.sl c l)) : l.length ≤ 1048576 := by have := h.len; simp only [K1, Nat.mul_one] at this; exact this
theorem z1_SB {l : List UInt8} (h : SzI K1 1048576 (SB l)) : l.length ≤ 1048576 := by have := h.str; simpa using this
theorem shl_cut {E E' : List Lf} {ps : List PV} (h : ShL (E ++ E') ps) : ∃ a b, ps = a ++ b ∧ ShL E a ∧ ShL E' b := ⟨ps.take E.length, ps.drop E.length, (List.take_append_drop _ _).symm, (shl_parts h).1, (shl_parts h).2⟩
theorem int_ofL {p : PV} (h : Sh (.int .i64) p) : ∃ n, p = I n ∧ okI n := by
  obtain ⟨n, rfl, hn⟩ := h.intI
  refine ⟨n, rfl, ?_⟩
  simp only [Lit.wf, Bool.and_eq_true, decide_eq_true_eq] at hn
  have h1 : IntKind.i64.min = -9223372036854775808 := by decide
  have h2 : IntKind.i64.max = 9223372036854775807 := by decide
  unfold okI; omega
theorem str_ofL {p : PV} (h : Sh .str p) : ∃ s, p = SB s := by
  obtain ⟨s, rfl, -⟩ := h.strI
  exact ⟨s.data.toList, rfl⟩
theorem rows_ops {rows : List (List PV)} (h : ∀ r ∈ rows, fOp.ok r) : ∃ os, rows = ops6 os := by
  induction rows with
  | nil => exact ⟨[], rfl⟩
  | cons r rows ih =>
    obtain ⟨os, rfl⟩ := ih fun x hx => h x (List.mem_cons_of_mem _ hx)
    obtain ⟨k, p, d, v, x, y, rfl, -⟩ := fOp_sh (h r List.mem_cons_self)
    exact ⟨⟨k, p, d, v, x, y⟩ :: os, rfl⟩
theorem rq_ofL {a : List PV} (h : ShL ERq a) (hz : ∀ p ∈ a, SzI K1 1048576 p) : ∃ r : Rq, a = r.cells ∧ (r.ops.length ≤ 500 → OkQ r) ∧ (∃ os : List Op6, r.ops = ops6 os ∧ ∀ o ∈ os, o.pa.length ≤ 1048576 ∧ o.da.length ≤ 1048576) ∧ r.ops.length ≤ 1048576 ∧ r.put.length ≤ 1048576 ∧ r.drop.length ≤ 1048576 := by
  have hk := fRq_S a h fun p hp => z1_mono (hz p hp)
  obtain ⟨x0, x1, x2, x3, x4, x5, x6, x7, x8, rfl, k0, k1, k2, k3, k4, k5, k6, k7⟩ := fRq_sh hk
  obtain ⟨hl, ho⟩ := fl_ok k3
  have z3 := hz (.sl 6 x3) (by simp)
  have z5 := z1_sl (hz (.sl 4 x5) (by simp))
  have z6 := z1_sl (hz (.sl 1 x6) (by simp))
  obtain ⟨os, rfl⟩ := rows_ops ho
  have hb : ∀ o ∈ os, o.pa.length ≤ 1048576 ∧ o.da.length ≤ 1048576 := fun o hm => by
    have hin : o.cells ∈ ops6 os := List.mem_map.2 ⟨o, hm, rfl⟩
    exact ⟨z1_SB (z3.at hin (p := SB o.pa) (by simp [Op6.cells])), z1_SB (z3.at hin (p := SB o.da) (by simp [Op6.cells]))⟩
  refine ⟨⟨x0, x1, x2, x4, x7, x8, ops6 os, x5, x6⟩, rfl, fun h5 => ⟨hk, h5, fun o hm => ?_, z5, z6⟩, ⟨os, rfl, hb⟩, z1_sl z3, z5, z6⟩
  obtain ⟨q, hq, rfl⟩ := List.mem_map.1 hm
  have := hb q hq
  show 10 + (foS.sz [SB q.pa] + (foS.sz [SB q.da] + (10 + (10 + 10)))) ≤ 2097300
  simp only [foS_sz]; omega
abbrev LW2 : List Lf := [.int .i64, .str, .bool, .int .i64, .str, .str, .str, .int .i64, .int .i64, .int .i64, .sl [.str], .int .i64, .int .i64, .str, .int .i64, .int .i64, .int .i64]
abbrev LEv : List Lf := .int .i64 :: .int .i64 :: (ERq ++ (.int .i64 :: .int .i64 :: .int .i64 :: .int .i64 :: .int .i64 :: .int .i64 :: .int .i64 :: (ERq ++ LW2)))
set_option maxHeartbeats 2000000 in
theorem ev_ofL {ps : List PV} (h : ShL LEv ps) (hz : ∀ p ∈ ps, SzI K1 1048576 p) : ∃ e : Ev6, ps = e.cells ∧ OkE e := by
  obtain ⟨_, _, rfl, h0, h⟩ := h.cons
  obtain ⟨_, _, rfl, h1, h⟩ := h.cons
  obtain ⟨a, b, rfl, hA, h⟩ := shl_cut h
  obtain ⟨_, _, rfl, g0, h⟩ := h.cons
  obtain ⟨_, _, rfl, g1, h⟩ := h.cons
  obtain ⟨_, _, rfl, g2, h⟩ := h.cons
  obtain ⟨_, _, rfl, g3, h⟩ := h.cons
  obtain ⟨_, _, rfl, g4, h⟩ := h.cons
  obtain ⟨_, _, rfl, g5, h⟩ := h.cons
  obtain ⟨_, _, rfl, g6, h⟩ := h.cons
  obtain ⟨a2, c, rfl, hB, h⟩ := shl_cut h
  obtain ⟨_, _, rfl, q0, h⟩ := h.cons
  obtain ⟨_, _, rfl, q1, h⟩ := h.cons
  obtain ⟨_, _, rfl, q2, h⟩ := h.cons
  obtain ⟨_, _, rfl, q3, h⟩ := h.cons
  obtain ⟨_, _, rfl, q4, h⟩ := h.cons
  obtain ⟨_, _, rfl, q5, h⟩ := h.cons
  obtain ⟨_, _, rfl, q6, h⟩ := h.cons
  obtain ⟨_, _, rfl, q7, h⟩ := h.cons
  obtain ⟨_, _, rfl, q8, h⟩ := h.cons
  obtain ⟨_, _, rfl, q9, h⟩ := h.cons
  obtain ⟨_, _, rfl, q10, h⟩ := h.cons
  obtain ⟨_, _, rfl, q11, h⟩ := h.cons
  obtain ⟨_, _, rfl, q12, h⟩ := h.cons
  obtain ⟨_, _, rfl, q13, h⟩ := h.cons
  obtain ⟨_, _, rfl, q14, h⟩ := h.cons
  obtain ⟨_, _, rfl, q15, h⟩ := h.cons
  obtain ⟨_, _, rfl, q16, h⟩ := h.cons
  obtain rfl := h.nil
  obtain ⟨ek, rfl, -⟩ := int_ofL h0
  obtain ⟨en, rfl, -⟩ := int_ofL h1
  obtain ⟨r, rfl, r1, r2, r3, r4, r5⟩ := rq_ofL hA fun p hp => hz p (by simp [hp])
  obtain ⟨w0, rfl, -⟩ := int_ofL g0
  obtain ⟨w1, rfl, -⟩ := int_ofL g1
  obtain ⟨w2, rfl, -⟩ := int_ofL g2
  obtain ⟨w3, rfl, -⟩ := int_ofL g3
  obtain ⟨w4, rfl, hs⟩ := int_ofL g4
  obtain ⟨w5, rfl, -⟩ := int_ofL g5
  obtain ⟨w6, rfl, -⟩ := int_ofL g6
  obtain ⟨v, rfl, v1, v2, v3, v4, v5⟩ := rq_ofL hB fun p hp => hz p (by simp [hp])
  obtain ⟨x0, rfl, -⟩ := int_ofL q0
  obtain ⟨x1, rfl⟩ := str_ofL q1
  obtain ⟨x2, rfl⟩ := q2.boolI
  obtain ⟨x3, rfl, -⟩ := int_ofL q3
  obtain ⟨x4, rfl⟩ := str_ofL q4
  obtain ⟨x5, rfl⟩ := str_ofL q5
  obtain ⟨x6, rfl⟩ := str_ofL q6
  obtain ⟨x7, rfl, -⟩ := int_ofL q7
  obtain ⟨x8, rfl, -⟩ := int_ofL q8
  obtain ⟨x9, rfl, -⟩ := int_ofL q9
  obtain ⟨ns, rfl⟩ := q10.slI (f := fun s => [SB s]) fun ps h => by
    obtain ⟨_, _, rfl, h0, h⟩ := h.cons
    obtain rfl := h.nil
    obtain ⟨s, rfl⟩ := str_ofL h0
    exact ⟨s, rfl⟩
  obtain ⟨y0, rfl, -⟩ := int_ofL q11
  obtain ⟨y1, rfl, -⟩ := int_ofL q12
  obtain ⟨y2, rfl⟩ := str_ofL q13
  obtain ⟨y3, rfl, -⟩ := int_ofL q14
  obtain ⟨y4, rfl, -⟩ := int_ofL q15
  obtain ⟨y5, rfl, -⟩ := int_ofL q16
  have zn := z1_sl (hz (.sl 1 (ns.map fun s => [SB s])) (by simp))
  have zp := z1_SB (hz (SB x1) (by simp))
  have zm := z1_SB (hz (SB x4) (by simp))
  obtain ⟨os, e1, e2⟩ := r2
  refine ⟨⟨ek, en, r, ⟨w0, w1, w2, w3, w4, w5, w6, v, x0, x1, x2, x3, x4, x5, x6, x7, x8, x9, txs ns, ⟨y0, y1, y2, y3, y4, y5⟩⟩⟩, rfl, ⟨⟨os, e1, fun o ho => by have := e2 o ho; omega⟩, by simp only; omega, by simp only; omega, by simp only; omega, by simp only [txs]; omega, by simp only; omega, by simp only; omega, by simp only; omega, by simp only; omega, by simp only; omega⟩, r1, fun h5 => ⟨v1 h5, ns, rfl, by simpa using zn⟩, hs⟩
theorem rows_evs {rows : List (List PV)} (h : ∀ r ∈ rows, ∃ e : Ev6, r = e.cells ∧ OkE e) : ∃ l, rows = evs l ∧ ∀ e ∈ l, OkE e := by
  induction rows with
  | nil => exact ⟨[], rfl, by simp⟩
  | cons r rows ih =>
    obtain ⟨l, rfl, hl⟩ := ih fun x hx => h x (List.mem_cons_of_mem _ hx)
    obtain ⟨e, rfl, he⟩ := h r List.mem_cons_self
    refine ⟨e :: l, rfl, fun m hm => ?_⟩
    rcases List.mem_cons.1 hm with rfl | hm
    · exact he
    · exact hl m hm
theorem evs_openU {p : PV} (hp : ShT Try.T 22 p) (hz : SzI K1 1048576 p) : ∃ l : List Ev6, p = .sl 44 (evs l) ∧ (∀ e ∈ l, OkE e) ∧ l.length ≤ 1048576 := by
  obtain ⟨l, rfl⟩ := (hp.one (f := .sl LEv) rfl rfl rfl).slI (α := {e : List PV // ShL LEv e}) (f := fun a => a.val) fun ps h => ⟨⟨ps, h⟩, rfl⟩
  have ho : ∀ r ∈ l.map (fun a => a.val), ∃ e : Ev6, r = e.cells ∧ OkE e := fun r hr => by
    obtain ⟨⟨e, he⟩, h1, rfl⟩ := List.mem_map.1 hr
    exact ev_ofL he fun q hq => hz.at hr hq
  have hlen := z1_sl hz
  obtain ⟨L, hL, hk⟩ := rows_evs ho
  refine ⟨L, by rw [← hL]; rfl, hk, ?_⟩
  have h2 : (l.map (fun a => a.val)).length = L.length := by rw [hL, evs_len]
  omega
end Go.Proofs.Ytefhnofdfnmiaaa
