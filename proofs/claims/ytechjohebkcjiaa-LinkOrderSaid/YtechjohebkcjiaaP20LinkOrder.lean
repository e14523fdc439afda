/- Texts that the proof needs: AvRow. -/
import Derived.Test.YtechjohebkcjiaaP12LinkOrder
import Derived.ProofKit
import Derived.ChangeStays
import Derived.ChangeSame
import Derived.OpenShut
import Derived.Handed
import Derived.Below
/- Rows: what comes in, as abstract values; what a contract leaves, as the row wants it. -/
namespace Go.Av
open Go Go.WideShapes Go.ChangeShapes Go.RowKit
/-- A cell of a type, and what stands behind it. -/
inductive Lf where
  | int (k : IntKind)
  | bool
  | str
  | sl (E : List Lf)
def lfsS (go : TypeId → Option (List Lf)) : Nat → List (Nat × TypeId) → Option (List Lf)
  | _, [] => some []
  | off, (o, ft) :: r => if o = off then
      match go ft with
      | some L => match lfsS go (off + L.length) r with
        | some R => some (L ++ R)
        | none => none
      | none => none
    else none
def lfsK (go : TypeId → Option (List Lf)) : Kd → Option (List Lf)
  | .int k => some [.int k]
  | .bool => some [.bool]
  | .str => some [.str]
  | .slice e => match go e with
    | some (f :: E) => some [.sl (f :: E)]
    | _ => none
  | .struct fs => lfsS go 0 fs
  | .array m e => match go e with
    | some (f :: L) => some (List.replicate m (f :: L)).flatten
    | _ => none
  | .sc => none
def lfs (T : TypeId → Option Ty) : Nat → TypeId → Option (List Lf)
  | 0, _ => none
  | n + 1, t => match T t with
    | none => none
    | some y => match lfsK (lfs T n) y.kd with
      | some L => if L.length = y.size then some L else none
      | none => none
inductive Sh : Lf → PV → Prop
  | int (k : IntKind) (n : Int) (h : (Lit.int k n).wf = true) : Sh (.int k) (.v (.int k n))
  | bool (b : Bool) : Sh .bool (.v (.bool b))
  | str (s : ByteArray) (h : s.size ≤ maxLen) : Sh .str (.v (.string s))
  | sl (E : List Lf) (l : List (List PV)) (hc : ∀ (i : Nat) (el : List PV), l[i]? = some el → el.length = E.length)
      (h : ∀ (i : Nat) (el : List PV) (j : Nat) (f : Lf) (p : PV), l[i]? = some el → E[j]? = some f → el[j]? = some p → Sh f p) : Sh (.sl E) (.sl E.length l)
def ShL (E : List Lf) (ps : List PV) : Prop := ps.length = E.length ∧ ∀ (j : Nat) (f : Lf) (p : PV), E[j]? = some f → ps[j]? = some p → Sh f p
theorem lfs_step {T : TypeId → Option Ty} {m : Nat} {t : TypeId} {E : List Lf} (h : lfs T m t = some E) : ∃ n y, m = n + 1 ∧ T t = some y ∧ lfsK (lfs T n) y.kd = some E ∧ E.length = y.size := by
  cases m with
  | zero => simp [lfs] at h
  | succ n =>
    unfold lfs at h
    split at h
    · simp at h
    rename_i y hy
    split at h
    · rename_i L hL
      split at h
      · simp only [Option.some.injEq] at h; subst h; exact ⟨n, y, rfl, hy, hL, by assumption⟩
      · simp at h
    · simp at h
section
variable {P : Program} {T : TypeId → Option Ty} (hT : TabOK P T)
include hT
theorem cellsOf_ty {t : TypeId} {y : Ty} (hy : T t = some y) : P.cellsOf t = y.size := by
  obtain ⟨i, z, hi, hs, -⟩ := (hT t y hy).info
  simp [Program.cellsOf, hi, hs]
theorem cellsOf_lfs [Glob] {m : Nat} {t : TypeId} {E : List Lf} (h : lfs T m t = some E) : P.cellsOf t = E.length := by
  obtain ⟨n, y, rfl, hy, -, hl⟩ := lfs_step h
  rw [cellsOf_ty hT hy, hl]
end
theorem pick_list {α : Type} {p : Nat → α → Prop} : ∀ (n : Nat), (∀ i, i < n → ∃ a, p i a) → ∃ l : List α, l.length = n ∧ ∀ (i : Nat) (a : α), l[i]? = some a → p i a
  | 0, _ => ⟨[], rfl, fun i a h => by simp at h⟩
  | n + 1, h => by
    obtain ⟨l, h1, h2⟩ := pick_list n (fun i hi => h i (by omega))
    obtain ⟨a, ha⟩ := h n (by omega)
    refine ⟨l ++ [a], by simp [h1], fun i b hi => ?_⟩
    by_cases hlt : i < n
    · rw [List.getElem?_append_left (by omega)] at hi; exact h2 i b hi
    · have : i = n := by
        have := (List.getElem?_eq_some_iff.1 hi).1
        simp at this; omega
      subst this
      rw [List.getElem?_append_right (by omega), h1] at hi
      simp at hi; subst hi; exact ha
/-- Cells, read. -/
def OpenC (w : World) (E : List Lf) (cs : List Value) : Prop :=
  ∃ ps : List PV, ShL E ps ∧ ∀ (j : Nat) (p : PV), ps[j]? = some p → p.one = true ∧ ∃ u, cs[j]? = some u ∧ RP w (fun _ => False) p u
theorem OpenC.one {w : World} {f : Lf} {p : PV} {u : Value} (h : Sh f p) (ho : p.one = true) (hr : RP w (fun _ => False) p u) : OpenC w [f] [u] :=
  ⟨[p], ⟨rfl, fun j f' p' h1 h2 => by
    cases j with
    | zero => simp at h1 h2; subst h1 h2; exact h
    | succ j => simp at h1⟩, fun j p' h1 => by
    cases j with
    | zero => simp at h1; subst h1; exact ⟨ho, u, rfl, hr⟩
    | succ j => simp at h1⟩
theorem ShL.append {E E' : List Lf} {ps qs : List PV} (h : ShL E ps) (h' : ShL E' qs) : ShL (E ++ E') (ps ++ qs) := by
  refine ⟨by simp [h.1, h'.1], fun j f p h1 h2 => ?_⟩
  by_cases hj : j < E.length
  · rw [List.getElem?_append_left hj] at h1
    rw [List.getElem?_append_left (by rw [h.1]; exact hj)] at h2
    exact h.2 j f p h1 h2
  · rw [List.getElem?_append_right (by omega)] at h1
    rw [List.getElem?_append_right (by rw [h.1]; omega), h.1] at h2
    exact h'.2 _ f p h1 h2
section
variable {H : Type} {enc : TypeId × Value → H} {P : Program} {T : TypeId → Option Ty} {w : World}
theorem open_fields [Glob] {n : Nat} {go : TypeId → Option (List Lf)} {cs : List Value}
    (ih : ∀ (t : TypeId) (E : List Lf), go t = some E → P.cellsOf t = E.length ∧ ∀ (q : List Value) (x : DataW H × List MemPlace), DataW.trod enc P w 0 (fun _ => true) true n t q = some x → OpenC w E q) :
    ∀ (fs : List (Nat × TypeId)) (off : Nat) (E : List Lf), lfsS go off fs = some E → off + E.length ≤ cs.length →
      (∀ f ∈ fs, ∃ x, DataW.trod enc P w 0 (fun _ => true) true n f.2 ((cs.drop f.1).take (P.cellsOf f.2)) = some x) →
      ∃ ps : List PV, ShL E ps ∧ ∀ (j : Nat) (p : PV), ps[j]? = some p → p.one = true ∧ ∃ u, cs[off + j]? = some u ∧ RP w (fun _ => False) p u
  | [], off, E, h, _, _ => by
    simp only [lfsS, Option.some.injEq] at h
    subst h
    exact ⟨[], ⟨rfl, fun j f p h => by simp at h⟩, fun j p h => by simp at h⟩
  | (o, ft) :: r, off, E, h, hle, hx => by
    simp only [lfsS] at h
    split at h
    · rename_i ho
      subst ho
      split at h
      · rename_i L hL
        split at h
        · rename_i R hR
          simp only [Option.some.injEq] at h
          subst h
          obtain ⟨hsz, hi⟩ := ih ft L hL
          obtain ⟨x, hxx⟩ := hx (o, ft) (List.mem_cons_self ..)
          obtain ⟨ps, h1, h2⟩ := hi _ x hxx
          simp only [List.length_append] at hle
          obtain ⟨qs, h3, h4⟩ := open_fields ih r _ R hR (by omega) (fun f hf => hx f (List.mem_cons_of_mem _ hf))
          refine ⟨ps ++ qs, h1.append h3, fun j p hj => ?_⟩
          by_cases hlt : j < ps.length
          · rw [List.getElem?_append_left hlt] at hj
            obtain ⟨ho, u, h5, h6⟩ := h2 j p hj
            refine ⟨ho, u, ?_, h6⟩
            rw [List.getElem?_take, if_pos (by rw [hsz, ← h1.1]; exact hlt), List.getElem?_drop] at h5
            exact h5
          · rw [List.getElem?_append_right (by omega)] at hj
            obtain ⟨ho, u, h5, h6⟩ := h4 _ p hj
            refine ⟨ho, u, ?_, h6⟩
            rw [← h5, h1.1]
            congr 1
            have := h1.1
            omega
        · simp at h
      · simp at h
    · simp at h
theorem open_items [Glob] {n : Nat} {e : TypeId} {L : List Lf} {cs : List Value} (hsz : P.cellsOf e = L.length)
    (ih : ∀ (q : List Value) (x : DataW H × List MemPlace), DataW.trod enc P w 0 (fun _ => true) true n e q = some x → OpenC w L q) : ∀ (m i0 : Nat),
    (∀ i, i < i0 + m → ∃ x, DataW.trod enc P w 0 (fun _ => true) true n e ((cs.drop (i * P.cellsOf e)).take (P.cellsOf e)) = some x) →
      ∃ ps : List PV, ShL (List.replicate m L).flatten ps ∧ ∀ (j : Nat) (p : PV), ps[j]? = some p → p.one = true ∧ ∃ u, cs[i0 * L.length + j]? = some u ∧ RP w (fun _ => False) p u
  | 0, i0, _ => ⟨[], ⟨rfl, fun j f p h => by simp at h⟩, fun j p h => by simp at h⟩
  | m + 1, i0, hx => by
    obtain ⟨x, hxx⟩ := hx i0 (by omega)
    obtain ⟨ps, h1, h2⟩ := ih _ x hxx
    obtain ⟨qs, h3, h4⟩ := open_items hsz ih m (i0 + 1) (fun i hi => hx i (by omega))
    refine ⟨ps ++ qs, by rw [List.replicate_succ, List.flatten_cons]; exact h1.append h3, fun j p hj => ?_⟩
    by_cases hlt : j < ps.length
    · rw [List.getElem?_append_left hlt] at hj
      obtain ⟨ho, u, h5, h6⟩ := h2 j p hj
      refine ⟨ho, u, ?_, h6⟩
      rw [List.getElem?_take, if_pos (by rw [hsz, ← h1.1]; exact hlt), List.getElem?_drop, hsz] at h5
      exact h5
    · rw [List.getElem?_append_right (by omega)] at hj
      obtain ⟨ho, u, h5, h6⟩ := h4 _ p hj
      refine ⟨ho, u, ?_, h6⟩
      rw [← h5]
      congr 1
      have := h1.1
      rw [Nat.add_mul]
      omega
theorem open_cells [Glob] (hT : TabOK P T) : ∀ (m : Nat) (t : TypeId) (E : List Lf) (n : Nat) (cs : List Value) (x : DataW H × List MemPlace), lfs T m t = some E →
    DataW.trod enc P w 0 (fun _ => true) true n t cs = some x → OpenC w E cs
  | 0, t, E, n, cs, x, h, _ => by simp [lfs] at h
  | m + 1, t, E, n, cs, x, h, hx => by
    obtain ⟨m', y, hm, hy, hk, hl⟩ := lfs_step h
    simp only [Nat.add_right_cancel_iff] at hm
    subst hm
    have kind := (hT t y hy).kind
    cases hkd : y.kd with
    | sc => rw [hkd] at hk; simp [lfsK] at hk
    | int k =>
      rw [hkd] at hk kind
      simp only [lfsK, Option.some.injEq] at hk
      subst hk
      obtain ⟨v, rfl, -, hwf⟩ := DataW.trod_int kind hx
      exact OpenC.one (.int k v hwf) rfl (.v _ rfl)
    | bool =>
      rw [hkd] at hk kind
      simp only [lfsK, Option.some.injEq] at hk
      subst hk
      obtain ⟨v, rfl, -⟩ := DataW.trod_bool kind hx
      exact OpenC.one (.bool v) rfl (.v _ rfl)
    | str =>
      rw [hkd] at hk kind
      simp only [lfsK, Option.some.injEq] at hk
      subst hk
      obtain ⟨v, rfl, -, hs⟩ := DataW.trod_string kind hx
      exact OpenC.one (.str v hs) rfl (.v _ rfl)
    | struct fs =>
      rw [hkd] at hk kind
      simp only [lfsK] at hk
      obtain ⟨f, hu, hfs⟩ := kind
      obtain ⟨xs, n', rfl, -, hcl, hxl, hxi⟩ := DataW.trod_struct hu hx
      have hc : cs.length = E.length := by rw [hcl, cellsOf_ty hT hy, hl]
      obtain ⟨ps, h1, h2⟩ := open_fields (P := P) (w := w) (enc := enc) (n := n') (go := lfs T m) (cs := cs) (fun t' E' ht' => ⟨cellsOf_lfs hT ht', fun q x' hq => open_cells hT m t' E' n' q x' ht' hq⟩) fs 0 E hk (by omega) (fun g hg => by
        rw [← hfs] at hg
        obtain ⟨fd, hfd, rfl⟩ := List.mem_map.1 hg
        obtain ⟨i, hi, hfi⟩ := List.mem_iff_getElem.1 hfd
        have hget : f[i]? = some fd := by
          rw [Array.getElem?_eq_getElem (by simpa using hi)]
          simpa using hfi
        have := hxi i fd hget
        have hlt : i < xs.length := by rw [hxl]; simpa using hi
        rw [List.getElem?_eq_getElem hlt] at this
        exact ⟨_, this⟩)
      exact ⟨ps, h1, fun j p hj => by
        obtain ⟨h3, u, h4, h5⟩ := h2 j p hj
        rw [Nat.zero_add] at h4
        exact ⟨h3, u, h4, h5⟩⟩
    | array k e =>
      rw [hkd] at hk kind
      simp only [lfsK] at hk
      split at hk
      · rename_i f0 L hL
        simp only [Option.some.injEq] at hk
        subst hk
        obtain ⟨xs, n', rfl, -, hcl, hxl, hxi⟩ := DataW.trod_array kind hx
        obtain ⟨ps, h1, h2⟩ := open_items (P := P) (w := w) (enc := enc) (n := n') (cs := cs) (cellsOf_lfs hT hL) (fun q x' hq => open_cells hT m e _ n' q x' hL hq) k 0 (fun i hi => by
          have := hxi i (by omega)
          rw [List.getElem?_eq_getElem (by omega)] at this
          exact ⟨_, this⟩)
        exact ⟨ps, h1, fun j p hj => by
          obtain ⟨h3, u, h4, h5⟩ := h2 j p hj
          rw [Nat.zero_mul, Nat.zero_add] at h4
          exact ⟨h3, u, h4, h5⟩⟩
      · simp at hk
    | slice e =>
      rw [hkd] at hk kind
      simp only [lfsK] at hk
      split at hk
      · rename_i f0 L hL
        simp only [Option.some.injEq] at hk
        subst hk
        have hce := cellsOf_lfs hT hL
        have hc0 : 0 < P.cellsOf e := by rw [hce]; simp
        rcases DataW.trod_slice kind hx with ⟨rfl, -⟩ | ⟨a, len, cap, elems, rest, n', rfl, rfl, -, -, hlc, hcm, hel, hei, hri, -⟩
        · exact OpenC.one (.sl _ [] (fun i el h => by simp at h) (fun i el j f p h => by simp at h)) rfl (.nil _)
        · obtain ⟨hrl, hrj⟩ := hri rfl
          have hall : ∀ i, i < cap → ∃ cs' y, w.cells? 0 (a.add (i * P.cellsOf e)) (P.cellsOf e) = some cs' ∧ DataW.trod enc P w 0 (fun _ => true) true n' e cs' = some y := fun i hi => by
            by_cases hil : i < len
            · have := hei i hil
              rw [List.getElem?_eq_getElem (by omega)] at this
              obtain ⟨cs', h1, h2⟩ := Option.bind_eq_some_iff.1 this
              exact ⟨cs', _, h1, h2⟩
            · have := hrj (i - len) (by omega)
              rw [List.getElem?_eq_getElem (by omega), show len + (i - len) = i from by omega] at this
              obtain ⟨cs', h1, h2⟩ := Option.bind_eq_some_iff.1 this
              exact ⟨cs', _, h1, h2⟩
          by_cases hcap : cap = 0
          · have : len = 0 := by omega
            subst this hcap
            exact OpenC.one (.sl _ [] (fun i el h => by simp at h) (fun i el j f p h => by simp at h)) rfl (.emp _ a)
          · have hspot : a.spot = none := by
              obtain ⟨cs', y', h1, -⟩ := hall 0 (by omega)
              obtain ⟨-, -, h2⟩ := World.cells?_some h1
              have h3 := h2 0 hc0
              obtain ⟨-, h4, -⟩ := World.cells?_some h1
              rw [List.getElem?_eq_getElem (by omega)] at h3
              have := World.cell?_spot h3
              simpa [Addr.add] using this
            obtain ⟨k, off, sp⟩ := a
            simp only at hspot
            subst hspot
            have hel' : ∀ i, i < len → ∃ el : List PV, ShL (f0 :: L) el ∧ REc w (fun _ => False) el k (off + i * P.cellsOf e) := fun i hi => by
              obtain ⟨cs', y', h1, h2⟩ := hall i (by omega)
              obtain ⟨ps, h3, h4⟩ := open_cells hT m e _ n' cs' y' hL h2
              refine ⟨ps, h3, fun j p hj => ?_⟩
              obtain ⟨h5, u, h6, h7⟩ := h4 j p hj
              refine ⟨h5, u, ?_, h7⟩
              obtain ⟨-, h8, h9⟩ := World.cells?_some h1
              have hjl : j < P.cellsOf e := by rw [← h8]; exact (List.getElem?_eq_some_iff.1 h6).1
              have := h9 j hjl
              rw [h6, addr_add, addr_add] at this
              exact this
            obtain ⟨l, hll, hlp⟩ := pick_list len hel'
            refine OpenC.one (p := .sl (f0 :: L).length l) (.sl _ l (fun i el h => (hlp i el h).1.1) (fun i el j f p h h1 h2 => (hlp i el h).1.2 j f p h1 h2)) rfl ?_
            rw [← hll]
            refine RP.slM (by omega) hcm (fun hne => ⟨?_, fun h => h⟩) (fun i el hi => ⟨(hlp i el hi).1.1, by rw [← hce]; exact (hlp i el hi).2⟩)
            obtain ⟨cs', y', h1, -⟩ := hall 0 (by omega)
            obtain ⟨-, h4, h2⟩ := World.cells?_some h1
            have h3 := h2 0 hc0
            rw [List.getElem?_eq_getElem (by omega)] at h3
            simp only [Nat.zero_mul, Addr.add, if_true] at h3
            unfold World.cell? at h3
            split at h3
            · rename_i hb
              exact (Array.getElem?_eq_some_iff.1 hb).1
            · simp at h3
      · simp at hk
/-- An argument's shape. -/
def ShT (T : TypeId → Option Ty) (t : TypeId) (p : PV) : Prop :=
  ∃ y E, T t = some y ∧ lfs T 20 t = some E ∧ ((y.kd.isAgg = true ∧ ∃ ps, p = .agg ps ∧ ShL E ps) ∨ (y.kd.isAgg = false ∧ ShL E [p]))
theorem open_arg [Glob] (hT : TabOK P T) {t : TypeId} {v : Value} {base : Nat} (hok : Value.okWide P w .any base t v) {d : DataW H} {q : List MemPlace} (h : DataW.Trod enc P w 0 (fun _ => true) true t v d q) {E : List Lf} (hE : lfs T 20 t = some E) :
    ∃ p, ShT T t p ∧ RP w (fun _ => False) p v := by
  obtain ⟨n, hn⟩ := h
  obtain ⟨ps, h1, h2⟩ := open_cells hT 20 t E n _ _ hE hn
  obtain ⟨m', y, hm, hy, hk, hl⟩ := lfs_step hE
  have kind := (hT t y hy).kind
  cases ha : y.kd.isAgg with
  | true =>
    have : ∃ cs, v = .agg cs ∧ cs.size = P.cellsOf t := by
      unfold Value.okWide at hok
      cases hkd : y.kd <;> rw [hkd] at ha kind <;> simp only [Kd.isAgg, Bool.false_eq_true] at ha
      · obtain ⟨f, hu, -⟩ := kind
        rw [hu] at hok
        obtain ⟨cs, h3, h4, -⟩ := hok
        exact ⟨cs, h3, h4⟩
      · simp only at kind
        rw [kind] at hok
        obtain ⟨cs, h3, h4, -⟩ := hok
        exact ⟨cs, h3, h4⟩
    obtain ⟨cs, rfl, hcs⟩ := this
    refine ⟨.agg ps, ⟨y, E, hy, hE, .inl ⟨ha, ps, rfl, h1⟩⟩, AR.agg ⟨by rw [hcs, cellsOf_lfs hT hE, h1.1], fun j p hj => ?_⟩⟩
    obtain ⟨h3, u, h4, h5⟩ := h2 j p hj
    exact ⟨h3, u, by simpa [Value.cells] using h4, h5⟩
  | false =>
    have hv : v.cells = #[v] := by
      cases v <;> try rfl
      rename_i cs
      exfalso
      unfold Value.okWide at hok
      cases hkd : y.kd <;> rw [hkd] at ha kind <;> simp only [Kd.isAgg, Bool.true_eq_false] at ha <;> simp only at kind
      · rw [hkd] at hk; simp [lfsK] at hk
      all_goals (rw [kind] at hok; simp [Cell.okWide, Cell.ok, kind] at hok)
    have hE1 : E.length = 1 := by
      cases hkd : y.kd <;> rw [hkd] at ha hk <;> simp only [Kd.isAgg, Bool.true_eq_false] at ha <;> simp only [lfsK] at hk
      · simp at hk
      · simp at hk; subst hk; rfl
      · simp at hk; subst hk; rfl
      · simp at hk; subst hk; rfl
      · split at hk
        · simp at hk; subst hk; rfl
        · simp at hk
    obtain ⟨p, rfl⟩ : ∃ p, ps = [p] := by
      have := h1.1
      rw [hE1] at this
      match ps, this with
      | [p], _ => exact ⟨p, rfl⟩
    obtain ⟨-, u, h4, h5⟩ := h2 0 p rfl
    rw [hv] at h4
    simp at h4
    subst h4
    exact ⟨p, ⟨y, E, hy, hE, .inr ⟨ha, h1⟩⟩, h5⟩
/-! ### All arguments -/
def ShTs (T : TypeId → Option Ty) : List TypeId → List PV → Prop
  | [], [] => True
  | t :: ts, p :: ps => ShT T t p ∧ ShTs T ts ps
  | _, _ => False
theorem open_args [Glob] (hT : TabOK P T) {base : Nat} : ∀ {ts : List TypeId} {vs : List Value} {ds : List (DataW H)} {q : List MemPlace}, ts.all (fun t => (lfs T 20 t).isSome) = true →
    (∀ (j : Nat) t v, ts[j]? = some t → vs[j]? = some v → Value.okWide P w .any base t v) → DataW.TrodAll enc P w 0 (fun _ => true) true ts vs ds q →
    ∃ ps : List PV, ShTs T ts ps ∧ vs.length = ps.length ∧ ds.length = ts.length ∧ ∀ (i : Nat) (p : PV), ps[i]? = some p → ∃ v, vs[i]? = some v ∧ RP w (fun _ => False) p v
  | [], [], [], q, _, _, _ => ⟨[], trivial, rfl, rfl, fun i p h => by simp at h⟩
  | t :: ts, v :: vs, d :: ds, q, hall, hok, h => by
    obtain ⟨p0, q0, h1, h2, -⟩ := h
    simp only [List.all_cons, Bool.and_eq_true] at hall
    obtain ⟨E, hE⟩ := Option.isSome_iff_exists.1 hall.1
    obtain ⟨p, h3, h4⟩ := open_arg hT (hok 0 t v rfl rfl) h1 hE
    obtain ⟨ps, h5, h6, h7, h8⟩ := open_args hT hall.2 (fun j t' v' h h' => hok (j + 1) t' v' (by simpa using h) (by simpa using h')) h2
    refine ⟨p :: ps, ⟨h3, h5⟩, by simp [h6], by simp [h7], fun i p' hi => ?_⟩
    cases i with
    | zero => simp at hi; subst hi; exact ⟨v, rfl, h4⟩
    | succ i => simpa using h8 i p' (by simpa using hi)
  | [], _ :: _, _, _, _, _, h => h.elim
  | [], [], _ :: _, _, _, _, h => h.elim
  | _ :: _, [], _, _, _, _, h => h.elim
  | _ :: _, _ :: _, [], _, _, _, h => h.elim
/-- The types of these. -/
def LfT (T : TypeId → Option Ty) (t : TypeId) : Prop := ∃ m E, lfs T m t = some E
theorem lfsS_mem {go : TypeId → Option (List Lf)} : ∀ {fs : List (Nat × TypeId)} {off : Nat} {E : List Lf}, lfsS go off fs = some E → ∀ f ∈ fs, ∃ L, go f.2 = some L
  | [], _, _, _, f, hf => by simp at hf
  | (o, ft) :: r, off, E, h, f, hf => by
    simp only [lfsS] at h
    split at h
    · split at h
      · rename_i L hL
        split at h
        · rename_i R hR
          rcases List.mem_cons.1 hf with rfl | hf
          · exact ⟨L, hL⟩
          · exact lfsS_mem hR f hf
        · simp at h
      · simp at h
    · simp at h
theorem lfsS_sum {go : TypeId → Option (List Lf)} (hgo : ∀ t L, go t = some L → P.cellsOf t = L.length) : ∀ {fs : List (Nat × TypeId)} {off : Nat} {E : List Lf}, lfsS go off fs = some E →
    E.length = (fs.map fun f => P.cellsOf f.2).sum ∧ ∀ (j : Nat) f, fs[j]? = some f → f.1 = off + ((fs.take j).map fun f => P.cellsOf f.2).sum
  | [], off, E, h => by simp [lfsS] at h; subst h; simp
  | (o, ft) :: r, off, E, h => by
    simp only [lfsS] at h
    split at h
    · rename_i ho
      subst ho
      split at h
      · rename_i L hL
        split at h
        · rename_i R hR
          simp only [Option.some.injEq] at h
          subst h
          obtain ⟨h1, h2⟩ := lfsS_sum hgo hR
          have h3 := hgo ft L hL
          refine ⟨by simp [h1, h3], fun j f hj => ?_⟩
          cases j with
          | zero => simp at hj; subst hj; simp
          | succ j =>
            simp only [List.getElem?_cons_succ] at hj
            have := h2 j f hj
            simp only [List.take_succ_cons, List.map_cons, List.sum_cons]
            omega
        · simp at h
      · simp at h
    · simp at h
theorem kids_lfs [Glob] (hT : TabOK P T) : Kids P (LfT T) := by
  have key : ∀ {t : TypeId}, LfT T t → ∃ m y E, T t = some y ∧ lfsK (lfs T m) y.kd = some E ∧ E.length = y.size := fun ⟨m, E, h⟩ => by
    obtain ⟨n, y, -, hy, hk, hl⟩ := lfs_step h
    exact ⟨n, y, E, hy, hk, hl⟩
  refine ⟨fun ht hu => ?_, fun {t e} ht hu => ?_, fun {t e n} ht hu => ?_, fun {t fs} ht hu => ?_, fun ht hu => ?_⟩
  all_goals
    obtain ⟨m, y, E, hy, hk, hl⟩ := key ht
    have kind := (hT _ y hy).kind
    cases hkd : y.kd <;> rw [hkd] at kind hk <;> simp only [lfsK] at hk kind <;> try (rw [hu] at kind; simp at kind)
  all_goals try (simp at hk; done)
  · split at hk
    · rename_i f0 L hL
      exact ⟨m, _, kind ▸ hL⟩
    · simp at hk
  · split at hk
    · rename_i f0 L hL
      obtain ⟨rfl, rfl⟩ := kind
      refine ⟨⟨m, _, hL⟩, ?_⟩
      simp only [Option.some.injEq] at hk
      subst hk
      rw [cellsOf_ty hT hy, cellsOf_lfs hT hL, ← hl]
      simp
    · simp at hk
  · have hg2 := kind
    obtain ⟨h1, h2⟩ := lfsS_sum (P := P) (fun t L h => cellsOf_lfs hT h) hk
    refine ⟨fun f hf => ?_, ?_, fun j f hj => ?_⟩
    · obtain ⟨L, hL⟩ := lfsS_mem hk (f.offset, f.type) (by rw [← hg2]; exact List.mem_map.2 ⟨f, hf, rfl⟩)
      exact ⟨m, L, hL⟩
    · rw [cellsOf_ty hT hy, ← hl, h1, ← hg2, List.map_map]; rfl
    · have := h2 j (f.offset, f.type) (by rw [← hg2, List.getElem?_map, hj]; rfl)
      rw [← hg2, ← List.map_take, List.map_map, Nat.zero_add] at this
      exact this
theorem pos_lfs [Glob] (hT : TabOK P T) {t e : TypeId} (ht : LfT T t) (hu : P.underlying t = some (.slice e)) : 0 < P.cellsOf e := by
  obtain ⟨m, E, h⟩ := ht
  obtain ⟨n, y, -, hy, hk, hl⟩ := lfs_step h
  have kind := (hT _ y hy).kind
  cases hkd : y.kd <;> rw [hkd] at kind hk <;> simp only [lfsK] at hk kind <;> try (rw [hu] at kind; simp at kind)
  all_goals try (simp at hk; done)
  split at hk
  · rename_i f0 L hL
    rw [kind, cellsOf_lfs hT hL]; simp
  · simp at hk
theorem args_again [Glob] (hT : TabOK P T) {w' : World} {sp : Nat → Bool} : ∀ {ts : List TypeId} {vs : List Value} {ds : List (DataW H)} {q : List MemPlace}, ts.all (fun t => (lfs T 20 t).isSome) = true →
    DataW.TrodAll enc P w 0 (fun _ => true) true ts vs ds q → (∀ p ∈ q, w.sameAt w' p) → (∀ p ∈ q, sp p.block = true) → DataW.TrodAll enc P w' 0 sp true ts vs ds q
  | [], [], [], q, _, h, _, _ => h
  | t :: ts, v :: vs, d :: ds, q, hall, h, hs, hsp => by
    obtain ⟨p0, q0, ⟨n, h1⟩, h2, rfl⟩ := h
    simp only [List.all_cons, Bool.and_eq_true] at hall
    obtain ⟨E, hE⟩ := Option.isSome_iff_exists.1 hall.1
    refine ⟨p0, q0, ⟨n, ?_⟩, args_again hT hall.2 h2 (fun p hp => hs p (List.mem_append_right _ hp)) (fun p hp => hsp p (List.mem_append_right _ hp)), rfl⟩
    exact DataW.trod_stays (kids_lfs hT) (fun ht hu => pos_lfs hT ht hu) (fun h => by cases h) ⟨20, E, hE⟩ h1 (fun p hp => hs p (List.mem_append_left _ hp)) (fun p hp => hsp p (List.mem_append_left _ hp))
  | [], _ :: _, _, _, _, h, _, _ => h.elim
  | [], [], _ :: _, _, _, h, _, _ => h.elim
  | _ :: _, [], _, _, _, h, _, _ => h.elim
  | _ :: _, _ :: _, [], _, _, h, _, _ => h.elim
theorem Keeps.below {w w' : World} (h : Keeps (fun _ => False) w w') : Below w.heap.size w w' := ⟨h.os, h.tape, h.output, h.size, fun k hk => h.block k hk (fun h => h)⟩
theorem post_of_below {f : Func} {s : ChangeSpec} {apart fresh handsOn again : Bool} {W W' : World} {args : Array Value} {v : Value} {ds gs : List (DataW H)} {before pa pv : List MemPlace}
    (hW : DataW.Whole enc P f.params.toList s.vars apart W args.toList ds gs before)
    (hres : ∀ (b : Nat) (sp : Nat → Bool) (hd : Bool), DataW.TrodAll enc P W' b sp hd f.resultTypes.toList (v.resultList f.resultTypes.size) (s.fn H (ds ++ gs)).results [])
    (hargs : ∀ sp : Nat → Bool, (∀ p ∈ before, sp p.block = true) → DataW.TrodAll enc P W' 0 sp true f.params.toList args.toList (s.fn H (ds ++ gs)).args pa)
    (hvars : ∀ sp : Nat → Bool, (∀ p ∈ before, sp p.block = true) → DataW.TrodVars enc P W' sp s.vars (s.fn H (ds ++ gs)).vars pv)
    (hps : before = pa ++ pv) (hb : Below W.heap.size W W')
    (hok : ∀ (j : Nat) (t : TypeId) (r : Value), f.resultTypes[j]? = some t → (v.resultList f.resultTypes.size)[j]? = some r → Value.okWide P W' .any 0 t r) :
    s.post enc P f apart fresh handsOn again W args v W' := by
  have hlt : ∀ p ∈ before, p.block < W.heap.size := fun p hp => hW.lt p hp
  have hold : ∀ p ∈ before, (fun b => decide (b < W.heap.size)) p.block = true := fun p hp => by simpa using hlt p hp
  refine ⟨ds, gs, before, [], pa, pv, hW, hres _ _ _, hargs _ hold, hvars _ hold, World.keptBut_mono (fun p hp => ⟨hp, ?_⟩) (hb.frame (· ∈ before)), fun _ => ?_⟩
  · rw [hps, List.mem_append] at hp
    exact Or.inr hp
  · obtain ⟨_, _, _, _, _, hz, hn⟩ := hW
    refine ⟨hok, _, _, ([] ++ pa) ++ pv, ⟨[] ++ pa, pv, trodAll_append (hargs _ (fun _ _ => rfl)) (hres _ _ _), hvars _ (fun _ _ => rfl), rfl, ?_, ?_⟩, ?_⟩
    · intro b off hp
      have hin : MemPlace.cell b off ∈ before := by rw [hps]; simpa using hp
      rw [hb.frozen (hlt _ hin)]
      exact hz b off hin
    · intro ha
      have := hn ha
      rw [hps] at this
      simpa using this
    · intro p hp _
      rw [hps]
      simpa using hp
/-- What a contract leaves is what the row wants. -/
theorem row_post [Glob] (hT : TabOK P T) {f : FuncId} {fn : Func} {s : ChangeSpec} {apart fresh handsOn again : Bool} {tb : TypeId} (hsv : s.vars = []) (hres : fn.resultTypes = #[tb]) (hb : P.underlying tb = some .bool)
    (hspec : ∀ ds : List (DataW H), ds.length = fn.params.size → (s.fn H ds).results = [.lit (.bool true)] ∧ (s.fn H ds).args = ds ∧ (s.fn H ds).vars = [])
    (hts : fn.params.toList.all (fun t => (lfs T 20 t).isSome) = true)
    (hent : Enters P f) {W : World} {base : Nat} {args : Array Value} {ds gs : List (DataW H)} {before : List MemPlace}
    (hval : ∀ (j : Nat) t v, fn.params[j]? = some t → args[j]? = some v → Value.okWide P W .any base t v)
    (hW : DataW.Whole enc P fn.params.toList s.vars apart W args.toList ds gs before)
    (hgl : ∀ g e, Glob.g g = some e → GE W (fun _ => False) e g) (hcon : ∀ ps : List PV, ShTs T fn.params.toList ps → ACon P f (ps.map .p) (.p (B true))) :
    Calls P f args W fun e W' => ∃ v, e = .returned v ∧ s.post enc P fn apart fresh handsOn again W args v W' := by
  have hW' := hW
  obtain ⟨p, q, hA, hV, rfl, hfz, hnd⟩ := hW
  rw [hsv] at hV
  obtain ⟨rfl, rfl⟩ := trodVars_none hV
  obtain ⟨ps, h1, h2, h3, h4⟩ := open_args hT hts (fun j t v ht hv => hval j t v (by simpa using ht) (by simpa using hv)) hA
  have hc := CallX.calls hent <| hcon ps h1 (fun _ => False) W ⟨fun _ => 0, fun _ => undef⟩ args.toList (Hp.none (fun _ h => h.elim) nmF_nil hgl) (by simpa using h2) (fun i u hi => by
    rw [List.getElem?_map] at hi
    cases hp : ps[i]? with
    | none => rw [hp] at hi; simp at hi
    | some p =>
      rw [hp] at hi
      simp only [Option.map_some, Option.some.injEq] at hi
      subst hi
      obtain ⟨x, h5, h6⟩ := h4 i p hp
      exact ⟨x, h5, RP.mono (fun k hk => Gd_nil hk) h6⟩)
  rw [show args.toList.toArray = args from by simp] at hc
  refine hc.mono fun e W' ⟨hk, hr⟩ => ?_
  obtain ⟨hk', x, m2, he, hr⟩ := plain_out hk hr
  refine ⟨x, he, ?_⟩
  have hx : x = .bool true := RV.scal hr
  subst hx
  have hlen : (ds ++ []).length = fn.params.size := by simp [h3]
  obtain ⟨s1, s2, s3⟩ := hspec (ds ++ []) hlen
  have hlt : ∀ p' ∈ p ++ [], p'.block < W.heap.size := fun p' hp => hW'.lt p' hp
  refine post_of_below (pa := p) (pv := []) hW' (fun b sp hd => ?_) (fun sp hsp => ?_) (fun sp hsp => ?_) rfl hk'.below (fun j t r h5 h6 => ?_)
  · rw [s1, hres]
    exact ⟨[], [], ⟨1, by simp [DataW.trod, Value.cells, hb]⟩, rfl, rfl⟩
  · rw [s2, List.append_nil]
    refine args_again hT hts hA (fun p' hp' => ?_) (fun p' hp' => hsp p' (by simpa using hp'))
    have hb' := hk'.below.block _ (hlt p' (by simpa using hp'))
    cases p' with
    | cell b off => exact World.cell?_of_block hb'
    | map b => exact hb'
  · rw [s3, hsv]; rfl
  · rw [hres] at h5 h6
    cases j with
    | zero =>
      simp at h5
      subst h5
      simp [Value.resultList] at h6
      subst h6
      simp [Value.okWide, Cell.okWide, Cell.ok, hb]
    | succ j => simp at h5
theorem row_lifted [Glob] {C : Checked} (hT : TabOK C.prog T) {os : Os} {f : FuncId} {fn : Func} {s : ChangeSpec} {conds : List PathCond} {a : Assume} {apart fresh handsOn again : Bool} {tb : TypeId}
    (own : ownKnob C.prog.godebug = none) (started : os.Started) (noInit : C.prog.inits.idxOf? f = none) (hfn : C.prog.funcs[f]? = some fn)
    (witness : ∃ (w : World) (tape : Tape) (i : Input), w.os = os ∧ (w.forCall tape i).Shaped C.prog ∧ i.vars = [] ∧ Input.okWide C.prog (w.forCall tape i) .any w.heap.size f i ∧
      s.pre6 enc C.prog fn conds apart (w.forCall tape i).memory i.args ∧ a.holds C.prog (lone (Frame.enter C.prog f i.args .normal) [] (w.forCall tape i)))
    (hsv : s.vars = []) (hres : fn.resultTypes = #[tb]) (hb : C.prog.underlying tb = some .bool)
    (hspec : ∀ ds : List (DataW H), ds.length = fn.params.size → (s.fn H ds).results = [.lit (.bool true)] ∧ (s.fn H ds).args = ds ∧ (s.fn H ds).vars = [])
    (hts : fn.params.toList.all (fun t => (lfs T 20 t).isSome) = true)
    (hcon : ∀ ps : List PV, ShTs T fn.params.toList ps → ACon C.prog f (ps.map .p) (.p (B true))) (hent : Enters C.prog f) (hgl : ∀ g, Glob.g g = none := by intro g; rfl) :
    ReturnsInHanded a C os f .any (s.pre6 enc C.prog fn conds apart) (s.post enc C.prog fn apart fresh handsOn again) :=
  returnsInHanded_of_change own started noInit hfn witness fun _ _ _ _ _ _ hval hW _ _ => row_post hT hsv hres hb hspec hts hent hval hW (fun g e he => by rw [hgl g] at he; simp at he) hcon
end
end Go.Av
namespace Go.Av
open Go
/-! ### Shapes, opened -/
theorem ShL.cons {f : Lf} {E : List Lf} {ps : List PV} (h : ShL (f :: E) ps) : ∃ p qs, ps = p :: qs ∧ Sh f p ∧ ShL E qs := by
  obtain ⟨h1, h2⟩ := h
  match ps, h1 with
  | p :: qs, h1 => exact ⟨p, qs, rfl, h2 0 f p rfl rfl, by simpa using h1, fun j f' p' h3 h4 => h2 (j + 1) f' p' (by simpa using h3) (by simpa using h4)⟩
theorem ShL.nil {ps : List PV} (h : ShL [] ps) : ps = [] := List.length_eq_zero_iff.1 h.1
theorem Sh.intI {k : IntKind} {p : PV} (h : Sh (.int k) p) : ∃ n, p = .v (.int k n) ∧ (Lit.int k n).wf = true := by cases h; exact ⟨_, rfl, by assumption⟩
/-- A slice whose elements can be opened. -/
theorem Sh.slI {E : List Lf} {p : PV} (h : Sh (.sl E) p) {α : Type} {f : α → List PV} (hf : ∀ ps, ShL E ps → ∃ a, ps = f a) : ∃ l : List α, p = .sl E.length (l.map f) := by
  cases h with
  | sl _ l hc hs =>
    have : ∀ (n : Nat) (l : List (List PV)), l.length = n → (∀ el ∈ l, ShL E el) → ∃ l' : List α, l = l'.map f := by
      intro n
      induction n with
      | zero => intro l hl _; exact ⟨[], by simp [List.length_eq_zero_iff.1 hl]⟩
      | succ n ih =>
        intro l hl hall
        match l, hl with
        | el :: r, hl =>
          obtain ⟨a, ha⟩ := hf el (hall el (List.mem_cons_self ..))
          obtain ⟨r', hr⟩ := ih r (by simpa using hl) (fun e he => hall e (List.mem_cons_of_mem _ he))
          exact ⟨a :: r', by simp [ha, hr]⟩
    obtain ⟨l', rfl⟩ := this l.length l rfl (fun el hel => by
      obtain ⟨i, hi, hli⟩ := List.mem_iff_getElem.1 hel
      have hg : l[i]? = some el := by rw [List.getElem?_eq_getElem hi, hli]
      exact ⟨hc i el hg, fun j f p h1 h2 => hs i el j f p hg h1 h2⟩)
    exact ⟨l', rfl⟩
/-- An argument, its leaves known. -/
theorem ShT.agg {T : TypeId → Option Ty} {t : TypeId} {p : PV} (h : ShT T t p) {y : Ty} (hy : T t = some y) {E : List Lf} (hE : lfs T 20 t = some E) (ha : y.kd.isAgg = true) : ∃ ps, p = .agg ps ∧ ShL E ps := by
  obtain ⟨y', E', h1, h2, h3⟩ := h
  rw [hy] at h1; rw [hE] at h2
  simp only [Option.some.injEq] at h1 h2
  subst h1 h2
  rcases h3 with ⟨-, h3⟩ | ⟨h3, -⟩
  · exact h3
  · rw [ha] at h3; simp at h3
theorem ShT.one {T : TypeId → Option Ty} {t : TypeId} {p : PV} (h : ShT T t p) {y : Ty} (hy : T t = some y) {f : Lf} (hE : lfs T 20 t = some [f]) (ha : y.kd.isAgg = false) : Sh f p := by
  obtain ⟨y', E', h1, h2, h3⟩ := h
  rw [hy] at h1; rw [hE] at h2
  simp only [Option.some.injEq] at h1 h2
  subst h1 h2
  rcases h3 with ⟨h3, -⟩ | ⟨-, h3⟩
  · rw [ha] at h3; simp at h3
  · exact h3.2 0 f p rfl rfl
end Go.Av
