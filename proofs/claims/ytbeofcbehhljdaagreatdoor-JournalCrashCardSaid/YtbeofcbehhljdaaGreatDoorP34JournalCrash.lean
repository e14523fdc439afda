/- Texts that the proof needs: JNO. -/
import Derived.Test.YtbeofcbehhljdaaGreatDoorP31JournalCrash
import Derived.Test.YtbeofcbehhljdaaGreatDoorP33JournalCrash
namespace Go.Proofs.YtbeofcbehhljdaaGreatDoor
set_option linter.unusedSimpArgs false
set_option linter.unusedVariables false
set_option maxRecDepth 8000
open Go Go.Av Go.ChangeShapes Go.WideShapes Go.ChangeAt Go.RowKit
def KB (c : Nat) : Nat := if c = 4 then 32 else 1
theorem kb_pos (c : Nat) : 1 <= KB c := by unfold KB; split <;> omega
theorem hpos : PosK Tryz.T KB := by
 intro t yt e y h hk hy hs
 unfold Tryz.T at h
 split at h
 all_goals first | (cases h; done) | (cases h; cases hk; done) | (cases h; cases hk; cases hy; done) | (cases h; cases hk; cases hy; first | exact of_decide_eq_true (by kernel_rfl) | (simp at hs; done))
abbrev Zd (ps : List PV) : Prop := ∀ p ∈ ps, SzI KB reachBytes p
theorem reach47 : reachBytes <= 140737488355328 := by decide
theorem zd_len {p : PV} (h : SzI KB reachBytes p) : lenP p <= 140737488355328 := by
 have hr := reach47
 cases h with
 | v x h =>
  cases x
  case string s =>
   have := h s rfl
   have h1 : s.data.toList.length = s.size := Array.length_toList
   show s.data.toList.length <= _; omega
  all_goals exact Nat.zero_le _
 | sl c l hl h =>
  have h1 : l.length * KB c <= reachBytes := hl
  have h2 := Nat.mul_le_mul (Nat.le_refl l.length) (kb_pos c)
  show l.length <= _; omega
 | agg l h => exact Nat.zero_le _
abbrev FoS (f : Fo) (E : List Lf) : Prop := ∀ ps, ShL E ps -> Zd ps -> f.ok ps
theorem foI_S : FoS foI [.int .i64] := fun ps h hz => by
 obtain ⟨p, _, rfl, h0, h⟩ := h.cons
 obtain rfl := h.nil
 obtain ⟨n, rfl, hn⟩ := h0.intI
 refine ⟨n, rfl, ?_⟩
 simp only [Lit.wf, Bool.and_eq_true, decide_eq_true_eq] at hn
 have h1 : IntKind.i64.min = -9223372036854775808 := by decide
 have h2 : IntKind.i64.max = 9223372036854775807 := by decide
 unfold okI; omega
theorem foS_S : FoS foS [.str] := fun ps h hz => by
 obtain ⟨p, _, rfl, h0, h⟩ := h.cons
 obtain rfl := h.nil
 obtain ⟨s, rfl, hs⟩ := h0.strI
 have h1 : s.data.toList.length = s.size := Array.length_toList
 have h2 : maxLen = 9223372036854775807 := rfl
 exact ⟨s.data.toList, by show [PV.v (.string s)] = [PV.v (.string ⟨s.data.toList.toArray⟩)]; rw [Array.toArray_toList], by omega⟩
theorem shl_parts {E E' : List Lf} {ps : List PV} (h : ShL (E ++ E') ps) : ShL E (ps.take E.length) /\ ShL E' (ps.drop E.length) := by
 obtain ⟨h1, h2⟩ := h
 rw [List.length_append] at h1
 refine ⟨⟨by rw [List.length_take]; omega, fun j f p hf hp => ?_⟩, ⟨by rw [List.length_drop]; omega, fun j f p hf hp => ?_⟩⟩
 ·have hj : j < E.length := by rw [List.getElem?_eq_some_iff] at hf; exact hf.1
  refine h2 j f p (by rw [List.getElem?_append_left hj]; exact hf) ?_
  rw [List.getElem?_take] at hp
  rw [if_pos hj] at hp; exact hp
 ·refine h2 (E.length + j) f p (by rw [List.getElem?_append_right (by omega)]; simpa using hf) ?_
  rw [List.getElem?_drop] at hp; exact hp
theorem sq_S {f g : Fo} {E E' : List Lf} (hf : FoS f E) (hg : FoS g E') (hn : f.n = E.length := by rfl) : FoS (sq f g) (E ++ E') := fun ps h hz => by
 obtain ⟨h1, h2⟩ := shl_parts h
 refine ⟨?_, ?_⟩
 ·show f.ok (ps.take f.n); rw [hn]; exact hf _ h1 fun p hp => hz p (List.mem_of_mem_take hp)
 ·show g.ok (ps.drop f.n); rw [hn]; exact hg _ h2 fun p hp => hz p (List.mem_of_mem_drop hp)
theorem fl_S {f : Fo} {E : List Lf} (hf : FoS f E) : FoS (fl E.length f) [.sl E] := fun ps h hz => by
 obtain ⟨p, _, rfl, h0, h⟩ := h.cons
 obtain rfl := h.nil
 obtain ⟨l, rfl⟩ := h0.slI (α := {e : List PV // ShL E e}) (f := fun a => a.val) fun ps h => ⟨⟨ps, h⟩, rfl⟩
 have hs := hz _ List.mem_cons_self
 have hb := zd_len hs
 refine ⟨_, rfl, by rw [lenP_sl] at hb; omega, fun r hr => ?_⟩
 obtain ⟨⟨e, he⟩, h1, rfl⟩ := List.mem_map.1 hr
 exact hf _ he fun p hp => hs.at hr hp
abbrev EZx : List Lf := [.int .i64, .int .i64]
theorem fZx_S : FoS fZx EZx := sq_S foI_S foI_S
abbrev EMb : List Lf := [.int .i64, .int .i64, .int .i64, .int .i64]
theorem fMb_S : FoS fMb EMb := sq_S foI_S (sq_S foI_S (sq_S foI_S foI_S))
abbrev ECf : List Lf := [.int .i64, .int .i64, .int .i64, .sl EMb]
theorem fCf_S : FoS fCf ECf := sq_S fZx_S (sq_S foI_S (fl_S fMb_S))
abbrev ENd : List Lf := [.str, .str, .int .i64, .int .i64, .int .i64]
theorem fNd_S : FoS fNd ENd := sq_S foS_S (sq_S foS_S (sq_S foI_S (sq_S foI_S foI_S)))
abbrev EPt : List Lf := [.int .i64, .str, .str, .int .i64, .int .i64, .int .i64, .int .i64, .int .i64, .int .i64, .int .i64, .sl EMb]
theorem fPt_S : FoS fPt EPt := sq_S foI_S (sq_S fNd_S (sq_S foI_S fCf_S))
abbrev ETx : List Lf := [.int .i64, .int .i64, .int .i64, .int .i64, .int .i64, .int .i64, .str, .sl EPt]
theorem fTx_S : FoS fTx ETx := sq_S fZx_S (sq_S foI_S (sq_S foI_S (sq_S foI_S (sq_S foI_S (sq_S foS_S (fl_S fPt_S))))))
theorem mb_len {m : List (List PV)} (h : SzI KB reachBytes (.sl 4 m)) : m.length <= 4398046511104 := by
 have hr := reach47
 cases h with
 | sl c l hl h => have h1 : m.length * 32 <= reachBytes := hl; omega
theorem int_open {p : PV} (hp : ShT Tryz.T 3 p) : ∃ n, p = I n /\ n <= 9223372036854775807 := by
 obtain ⟨n, rfl, hn⟩ := (hp.one (f := .int .i64) rfl rfl rfl).intI
 simp only [Lit.wf, Bool.and_eq_true, decide_eq_true_eq] at hn
 have h2 : IntKind.i64.max = 9223372036854775807 := by decide
 exact ⟨n, rfl, by omega⟩
theorem ints_open {p : PV} (hp : ShT Tryz.T 23 p) : ∃ l, p = .sl 1 (ints l) :=
 (hp.one (f := .sl [.int .i64]) rfl rfl rfl).slI (f := fun n => [I n]) fun ps h => by
  obtain ⟨_, _, rfl, h0, h⟩ := h.cons
  obtain rfl := h.nil
  obtain ⟨n, rfl, -⟩ := h0.intI
  exact ⟨n, rfl⟩
theorem bdTx_of {r : List PV} (ho : fTx.ok r) (hz : Zd r) : BdTx r := by
 obtain ⟨x0, x1, x2, x3, x4, x5, ma, ps, rfl, -, -, -, -, -, -, hp⟩ := fTx_sh ho
 obtain ⟨hl, hpo⟩ := fl_ok hp
 intro m ps' hm hps
 simp only [List.getElem?_cons_succ, List.getElem?_cons_zero, Option.some.injEq] at hm hps
 subst hm hps
 have h2 : SzI KB reachBytes (.sl 11 ps) := hz _ (by simp)
 refine ⟨zd_len (hz _ (by simp)), zd_len h2, fun q hq p d c hp hd hc => ?_⟩
 obtain ⟨z0, z1, z2, z3, z4, z5, z6, z7, z8, z9, z10, rfl, -⟩ := fPt_sh (hpo q hq)
 simp only [List.getElem?_cons_succ, List.getElem?_cons_zero, Option.some.injEq] at hp hd hc
 subst hp hd hc
 exact ⟨zd_len (h2.at hq (by simp)), zd_len (h2.at hq (by simp)), mb_len (h2.at hq (by simp))⟩
theorem lls_open {p : PV} (hp : ShT Tryz.T 22 p) (hz : SzI KB reachBytes p) : ∃ ll, p = .sl 1 (lls ll) /\ (∀ x ∈ ll, ∀ r ∈ x, fTx.ok r) /\ ∀ x ∈ ll, ∀ r ∈ x, BdTx r := by
 obtain ⟨l, rfl⟩ := (hp.one (f := .sl [.sl ETx]) rfl rfl rfl).slI (α := List {e : List PV // ShL ETx e}) (f := fun a => [.sl 8 (a.map fun e => e.val)]) fun ps h => by
  obtain ⟨p, _, rfl, h0, h⟩ := h.cons
  obtain rfl := h.nil
  obtain ⟨l, rfl⟩ := h0.slI (α := {e : List PV // ShL ETx e}) (f := fun a => a.val) fun ps h => ⟨⟨ps, h⟩, rfl⟩
  exact ⟨l, rfl⟩
 have hall : ∀ x ∈ l.map (fun a => a.map fun e => e.val), ∀ r ∈ x, fTx.ok r /\ Zd r := fun x hx r hr => by
  obtain ⟨a, ha, rfl⟩ := List.mem_map.1 hx
  obtain ⟨⟨e, he⟩, h1, rfl⟩ := List.mem_map.1 hr
  have h2 : SzI KB reachBytes (.sl 8 (a.map fun e => e.val)) := hz.at (List.mem_map_of_mem ha) (by simp)
  have h3 : Zd e := fun p hp => h2.at hr hp
  exact ⟨fTx_S _ he h3, h3⟩
 refine ⟨l.map (fun a => a.map fun e => e.val), ?_, fun x hx r hr => (hall x hx r hr).1, fun x hx r hr => bdTx_of (hall x hx r hr).1 (hall x hx r hr).2⟩
 simp only [lls, List.map_map]
 rfl
end Go.Proofs.YtbeofcbehhljdaaGreatDoor
