/- Texts that the proof needs: AvDeep. -/
import Derived.Test.YthiccfadhllajaaP22JudgePrimary
import Derived.SizedLaws
import Derived.Deep.CondSized
namespace Go.Av
set_option linter.unusedSimpArgs false
set_option linter.unusedVariables false
open Go Go.WideShapes Go.ChangeShapes Go.RowKit
inductive SzI (K : Nat -> Nat) (N : Nat) : PV -> Prop
 | v (x : Value) (h : ∀ s, x = .string s -> s.size <= N) : SzI K N (.v x)
 | sl (c : Nat) (l : List (List PV)) (hl : l.length * K c <= N) (h : ∀ (i : Nat) (e : List PV) (j : Nat) (p : PV), l[i]? = some e -> e[j]? = some p -> SzI K N p) : SzI K N (.sl c l)
 | agg (l : List PV) (h : ∀ (j : Nat) (p : PV), l[j]? = some p -> SzI K N p) : SzI K N (.agg l)
theorem SzI.len {K : Nat -> Nat} {N c : Nat} {l : List (List PV)} (h : SzI K N (.sl c l)) : l.length * K c <= N := by cases h; assumption
theorem SzI.str {K : Nat -> Nat} {N : Nat} {s : ByteArray} (h : SzI K N (.v (.string s))) : s.size <= N := by cases h with | v _ h => exact h s rfl
theorem SzI.at {K : Nat -> Nat} {N c : Nat} {l : List (List PV)} (h : SzI K N (.sl c l)) {e : List PV} (he : e ∈ l) {p : PV} (hp : p ∈ e) : SzI K N p := by
 obtain ⟨i, hi⟩ := List.mem_iff_getElem?.1 he
 obtain ⟨j, hj⟩ := List.mem_iff_getElem?.1 hp
 cases h with | sl _ _ _ h => exact h i e j p hi hj
theorem SzI.part {K : Nat -> Nat} {N : Nat} {l : List PV} (h : SzI K N (.agg l)) {p : PV} (hp : p ∈ l) : SzI K N p := by
 obtain ⟨j, hj⟩ := List.mem_iff_getElem?.1 hp
 cases h with | agg _ h => exact h j p hj
theorem SzI.plain {K : Nat -> Nat} {N : Nat} (x : Value) (h : ∀ s, x ≠ .string s) : SzI K N (.v x) := .v x fun s e => absurd e (h s)
structure BddD {H : Type} (P : Program) (T : TypeId -> Option Ty) (Bd : TypeId -> DataW H -> Prop) (K : Nat -> Nat) (N : Nat) : Prop where
 st : ∀ (t : TypeId) (fs : Array Field) (parts : List (DataW H)) (i : Nat) (f : Field) (d : DataW H), P.underlying t = some (.struct fs) -> Bd t (.agg parts) -> fs[i]? = some f -> parts[i]? = some d -> Bd f.type d
 ar : ∀ (t : TypeId) (k : Nat) (e : TypeId) (parts : List (DataW H)) (i : Nat) (d : DataW H), P.underlying t = some (.array k e) -> Bd t (.agg parts) -> parts[i]? = some d -> Bd e d
 sl : ∀ (t e : TypeId) (elems spare : List (DataW H)), P.underlying t = some (.slice e) -> (∃ yt, T t = some yt /\ yt.kd = .slice e) -> ∀ y, T e = some y -> 0 < y.size -> Bd t (.slice elems spare) -> elems.length * K y.size <= N
 sle : ∀ (t e : TypeId) (elems spare : List (DataW H)) (i : Nat) (d : DataW H), P.underlying t = some (.slice e) -> Bd t (.slice elems spare) -> elems[i]? = some d -> Bd e d
 str : ∀ (t : TypeId) (b : List UInt8), Bd t (.lit (.string b)) -> b.length <= N
def OpenD (w : World) (K : Nat -> Nat) (N : Nat) (E : List Lf) (cs : List Value) : Prop :=
 ∃ ps : List PV, ShL E ps /\ ∀ (j : Nat) (p : PV), ps[j]? = some p -> (p.one = true /\ SzI K N p) /\ ∃ u, cs[j]? = some u /\ RP w (fun _ => False) p u
theorem OpenD.one {w : World} {K : Nat -> Nat} {N : Nat} {f : Lf} {p : PV} {u : Value} (h : Sh f p) (ho : p.one = true) (hz : SzI K N p) (hr : RP w (fun _ => False) p u) : OpenD w K N [f] [u] :=
 ⟨[p], ⟨rfl, fun j f' p' h1 h2 => by
  cases j with
  | zero => simp at h1 h2; subst h1 h2; exact h
  | succ j => simp at h1⟩, fun j p' h1 => by
  cases j with
  | zero => simp at h1; subst h1; exact ⟨⟨ho, hz⟩, u, rfl, hr⟩
  | succ j => simp at h1⟩
section
variable {H : Type} {enc : TypeId × Value -> H} {P : Program} {T : TypeId -> Option Ty} {w : World} {K : Nat -> Nat} {N : Nat} {Bd : TypeId -> DataW H -> Prop}
theorem openD_fields [Glob] {n : Nat} {go : TypeId -> Option (List Lf)} {cs : List Value}
 (ih : ∀ (t : TypeId) (E : List Lf), go t = some E -> P.cellsOf t = E.length /\ ∀ (q : List Value) (x : DataW H × List MemPlace), DataW.trod enc P w 0 (fun _ => true) true n t q = some x -> Bd t x.1 -> OpenD w K N E q) :
 ∀ (fs : List (Nat × TypeId)) (off : Nat) (E : List Lf), lfsS go off fs = some E -> off + E.length <= cs.length →
  (∀ f ∈ fs, ∃ x : DataW H × List MemPlace, DataW.trod enc P w 0 (fun _ => true) true n f.2 ((cs.drop f.1).take (P.cellsOf f.2)) = some x /\ Bd f.2 x.1) →
  ∃ ps : List PV, ShL E ps /\ ∀ (j : Nat) (p : PV), ps[j]? = some p -> (p.one = true /\ SzI K N p) /\ ∃ u, cs[off + j]? = some u /\ RP w (fun _ => False) p u
 | [], off, E, h, _, _ => by
  simp only [lfsS, Option.some.injEq] at h
  subst h
  exact ⟨[], ⟨rfl, fun j f p h => by simp at h⟩, fun j p h => by simp at h⟩
 | (o, ft) :: r, off, E, h, hle, hx => by
  simp only [lfsS] at h
  split at h
  ·rename_i ho
   subst ho
   split at h
   ·rename_i L hL
    split at h
    ·rename_i R hR
     simp only [Option.some.injEq] at h
     subst h
     obtain ⟨hsz, hi⟩ := ih ft L hL
     obtain ⟨x, hxx, hbx⟩ := hx (o, ft) (List.mem_cons_self ..)
     obtain ⟨ps, h1, h2⟩ := hi _ x hxx hbx
     simp only [List.length_append] at hle
     obtain ⟨qs, h3, h4⟩ := openD_fields ih r _ R hR (by omega) (fun f hf => hx f (List.mem_cons_of_mem _ hf))
     refine ⟨ps ++ qs, h1.append h3, fun j p hj => ?_⟩
     by_cases hlt : j < ps.length
     ·rw [List.getElem?_append_left hlt] at hj
      obtain ⟨ho, u, h5, h6⟩ := h2 j p hj
      refine ⟨ho, u, ?_, h6⟩
      rw [List.getElem?_take, if_pos (by rw [hsz, <- h1.1]; exact hlt), List.getElem?_drop] at h5
      exact h5
     ·rw [List.getElem?_append_right (by omega)] at hj
      obtain ⟨ho, u, h5, h6⟩ := h4 _ p hj
      refine ⟨ho, u, ?_, h6⟩
      rw [<- h5, h1.1]
      congr 1
      have := h1.1
      omega
    ·simp at h
   ·simp at h
  ·simp at h
theorem openD_items [Glob] {n : Nat} {e : TypeId} {L : List Lf} {cs : List Value} (hsz : P.cellsOf e = L.length)
 (ih : ∀ (q : List Value) (x : DataW H × List MemPlace), DataW.trod enc P w 0 (fun _ => true) true n e q = some x -> Bd e x.1 -> OpenD w K N L q) : ∀ (m i0 : Nat),
 (∀ i, i < i0 + m -> ∃ x : DataW H × List MemPlace, DataW.trod enc P w 0 (fun _ => true) true n e ((cs.drop (i * P.cellsOf e)).take (P.cellsOf e)) = some x /\ Bd e x.1) →
  ∃ ps : List PV, ShL (List.replicate m L).flatten ps /\ ∀ (j : Nat) (p : PV), ps[j]? = some p -> (p.one = true /\ SzI K N p) /\ ∃ u, cs[i0 * L.length + j]? = some u /\ RP w (fun _ => False) p u
 | 0, i0, _ => ⟨[], ⟨rfl, fun j f p h => by simp at h⟩, fun j p h => by simp at h⟩
 | m + 1, i0, hx => by
  obtain ⟨x, hxx, hbx⟩ := hx i0 (by omega)
  obtain ⟨ps, h1, h2⟩ := ih _ x hxx hbx
  obtain ⟨qs, h3, h4⟩ := openD_items hsz ih m (i0 + 1) (fun i hi => hx i (by omega))
  refine ⟨ps ++ qs, by rw [List.replicate_succ, List.flatten_cons]; exact h1.append h3, fun j p hj => ?_⟩
  by_cases hlt : j < ps.length
  ·rw [List.getElem?_append_left hlt] at hj
   obtain ⟨ho, u, h5, h6⟩ := h2 j p hj
   refine ⟨ho, u, ?_, h6⟩
   rw [List.getElem?_take, if_pos (by rw [hsz, <- h1.1]; exact hlt), List.getElem?_drop, hsz] at h5
   exact h5
  ·rw [List.getElem?_append_right (by omega)] at hj
   obtain ⟨ho, u, h5, h6⟩ := h4 _ p hj
   refine ⟨ho, u, ?_, h6⟩
   rw [<- h5]
   congr 1
   have := h1.1
   rw [Nat.add_mul]
   omega
theorem openD_cells [Glob] (hT : TabOK P T) (hB : BddD P T Bd K N) : ∀ (m : Nat) (t : TypeId) (E : List Lf) (n : Nat) (cs : List Value) (x : DataW H × List MemPlace), lfs T m t = some E →
 DataW.trod enc P w 0 (fun _ => true) true n t cs = some x -> Bd t x.1 -> OpenD w K N E cs
 | 0, t, E, n, cs, x, h, _, _ => by simp [lfs] at h
 | m + 1, t, E, n, cs, x, h, hx, hb => by
  obtain ⟨m', y, hm, hy, hk, hl⟩ := lfs_step h
  simp only [Nat.add_right_cancel_iff] at hm
  subst hm
  have kind := (hT t y hy).kind
  cases hkd : y.kd with
  | sc => rw [hkd] at hk; simp [lfsK] at hk
  | map k e ks => rw [hkd] at hk; simp [lfsK] at hk
  | int k =>
   rw [hkd] at hk kind
   simp only [lfsK, Option.some.injEq] at hk
   subst hk
   obtain ⟨v, rfl, -, hwf⟩ := DataW.trod_int kind hx
   exact OpenD.one (.int k v hwf) rfl (.plain _ (fun s h => by cases h)) (.v _ rfl)
  | bool =>
   rw [hkd] at hk kind
   simp only [lfsK, Option.some.injEq] at hk
   subst hk
   obtain ⟨v, rfl, -⟩ := DataW.trod_bool kind hx
   exact OpenD.one (.bool v) rfl (.plain _ (fun s h => by cases h)) (.v _ rfl)
  | str =>
   rw [hkd] at hk kind
   simp only [lfsK, Option.some.injEq] at hk
   subst hk
   obtain ⟨v, rfl, rfl, hs⟩ := DataW.trod_string kind hx
   have hsl := hB.str _ _ hb
   exact OpenD.one (.str v hs) rfl (.v _ fun s he => by cases he; simpa using hsl) (.v _ rfl)
  | struct fs =>
   rw [hkd] at hk kind
   simp only [lfsK] at hk
   obtain ⟨f, hu, hfs⟩ := kind
   obtain ⟨xs, n', rfl, rfl, hcl, hxl, hxi⟩ := DataW.trod_struct hu hx
   have hc : cs.length = E.length := by rw [hcl, cellsOf_ty hT hy, hl]
   obtain ⟨ps, h1, h2⟩ := openD_fields (P := P) (w := w) (enc := enc) (N := N) (Bd := Bd) (n := n') (go := lfs T m) (cs := cs) (fun t' E' ht' => ⟨cellsOf_lfs hT ht', fun q x' hq hb' => openD_cells hT hB m t' E' n' q x' ht' hq hb'⟩) fs 0 E hk (by omega) (fun g hg => by
    rw [<- hfs] at hg
    obtain ⟨fd, hfd, rfl⟩ := List.mem_map.1 hg
    obtain ⟨i, hi, hfi⟩ := List.mem_iff_getElem.1 hfd
    have hget : f[i]? = some fd := by
     rw [Array.getElem?_eq_getElem (by simpa using hi)]
     simpa using hfi
    have := hxi i fd hget
    have hlt : i < xs.length := by rw [hxl]; simpa using hi
    rw [List.getElem?_eq_getElem hlt] at this
    exact ⟨_, this, hB.st _ _ _ i fd _ hu hb hget (by rw [List.getElem?_map, List.getElem?_eq_getElem hlt]; rfl)⟩)
   exact ⟨ps, h1, fun j p hj => by
    obtain ⟨h3, u, h4, h5⟩ := h2 j p hj
    rw [Nat.zero_add] at h4
    exact ⟨h3, u, h4, h5⟩⟩
  | array k e =>
   rw [hkd] at hk kind
   simp only [lfsK] at hk
   split at hk
   ·rename_i f0 L hL
    simp only [Option.some.injEq] at hk
    subst hk
    obtain ⟨xs, n', rfl, rfl, hcl, hxl, hxi⟩ := DataW.trod_array kind hx
    obtain ⟨ps, h1, h2⟩ := openD_items (P := P) (w := w) (enc := enc) (N := N) (Bd := Bd) (n := n') (cs := cs) (cellsOf_lfs hT hL) (fun q x' hq hb' => openD_cells hT hB m e _ n' q x' hL hq hb') k 0 (fun i hi => by
     have := hxi i (by omega)
     rw [List.getElem?_eq_getElem (by omega)] at this
     exact ⟨_, this, hB.ar _ _ _ _ i _ kind hb (by rw [List.getElem?_map, List.getElem?_eq_getElem (by omega)]; rfl)⟩)
    exact ⟨ps, h1, fun j p hj => by
     obtain ⟨h3, u, h4, h5⟩ := h2 j p hj
     rw [Nat.zero_mul, Nat.zero_add] at h4
     exact ⟨h3, u, h4, h5⟩⟩
   ·simp at hk
  | slice e =>
   rw [hkd] at hk kind
   simp only [lfsK] at hk
   split at hk
   ·rename_i f0 L hL
    simp only [Option.some.injEq] at hk
    subst hk
    have hce := cellsOf_lfs hT hL
    have hc0 : 0 < P.cellsOf e := by rw [hce]; simp
    rcases DataW.trod_slice kind hx with ⟨rfl, -⟩ | ⟨a, len, cap, elems, rest, n', rfl, rfl, rfl, -, hlc, hcm, hel, hei, hri, -⟩
    ·exact OpenD.one (.sl _ [] (fun i el h => by simp at h) (fun i el j f p h => by simp at h)) rfl (.sl _ [] (by simp) (fun i e j p h => by simp at h)) (.nil _)
    ·obtain ⟨hrl, hrj⟩ := hri rfl
     have hall : ∀ i, i < cap -> ∃ cs' y, w.cells? 0 (a.add (i * P.cellsOf e)) (P.cellsOf e) = some cs' /\ DataW.trod enc P w 0 (fun _ => true) true n' e cs' = some y := fun i hi => by
      by_cases hil : i < len
      ·have := hei i hil
       rw [List.getElem?_eq_getElem (by omega)] at this
       obtain ⟨cs', h1, h2⟩ := Option.bind_eq_some_iff.1 this
       exact ⟨cs', _, h1, h2⟩
      ·have := hrj (i - len) (by omega)
       rw [List.getElem?_eq_getElem (by omega), show len + (i - len) = i from by omega] at this
       obtain ⟨cs', h1, h2⟩ := Option.bind_eq_some_iff.1 this
       exact ⟨cs', _, h1, h2⟩
     by_cases hcap : cap = 0
     ·have : len = 0 := by omega
      subst this hcap
      exact OpenD.one (.sl _ [] (fun i el h => by simp at h) (fun i el j f p h => by simp at h)) rfl (.sl _ [] (by simp) (fun i e j p h => by simp at h)) (.emp _ a)
     ·have hspot : a.spot = none := by
       obtain ⟨cs', y', h1, -⟩ := hall 0 (by omega)
       obtain ⟨-, -, h2⟩ := World.cells?_some h1
       have h3 := h2 0 hc0
       obtain ⟨-, h4, -⟩ := World.cells?_some h1
       rw [List.getElem?_eq_getElem (by omega)] at h3
       have := World.cell?_spot h3
       simpa [Addr.add] using this
      obtain ⟨k, off, sp⟩ := a
      simp only at hspot
      subst hspot
      have hel' : ∀ i, i < len -> ∃ el : List PV, (ShL (f0 :: L) el /\ ∀ p ∈ el, SzI K N p) /\ REc w (fun _ => False) el k (off + i * P.cellsOf e) := fun i hi => by
       have hei' := hei i hi
       have hlt : i < elems.length := by omega
       rw [List.getElem?_eq_getElem hlt] at hei'
       obtain ⟨cs', h1, h2⟩ := Option.bind_eq_some_iff.1 hei'
       obtain ⟨ps, h3, h4⟩ := openD_cells hT hB m e _ n' cs' _ hL h2 (hB.sle _ _ _ _ i _ kind hb (by rw [List.getElem?_map, List.getElem?_eq_getElem hlt]; rfl))
       refine ⟨ps, ⟨h3, fun p hp => ?_⟩, fun j p hj => ?_⟩
       ·obtain ⟨j, hj⟩ := List.mem_iff_getElem?.1 hp
        exact (h4 j p hj).1.2
       obtain ⟨⟨h5, -⟩, u, h6, h7⟩ := h4 j p hj
       refine ⟨h5, u, ?_, h7⟩
       obtain ⟨-, h8, h9⟩ := World.cells?_some h1
       have hjl : j < P.cellsOf e := by rw [<- h8]; exact (List.getElem?_eq_some_iff.1 h6).1
       have := h9 j hjl
       rw [h6, addr_add, addr_add] at this
       exact this
      obtain ⟨l, hll, hlp⟩ := pick_list len hel'
      have hbyte : l.length * K (f0 :: L).length <= N := by
       obtain ⟨_, y2, -, hy2, -, hl2⟩ := lfs_step hL
       have := hB.sl _ _ _ _ kind ⟨y, hy, hkd⟩ y2 hy2 (by rw [<- hl2]; simp) hb
       rw [List.length_map, <- hl2] at this
       rw [hll]
       rw [show elems.length = len from by assumption] at this
       exact this
      refine OpenD.one (p := .sl (f0 :: L).length l) (.sl _ l (fun i el h => (hlp i el h).1.1.1) (fun i el j f p h h1 h2 => (hlp i el h).1.1.2 j f p h1 h2)) rfl (.sl _ l hbyte fun i el j p h h1 => (hlp i el h).1.2 p (List.mem_of_getElem? h1)) ?_
      rw [<- hll]
      refine RP.slM (by omega) hcm (fun hne => ⟨?_, fun h => h⟩) (fun i el hi => ⟨(hlp i el hi).1.1.1, by rw [<- hce]; exact (hlp i el hi).2⟩)
      obtain ⟨cs', y', h1, -⟩ := hall 0 (by omega)
      obtain ⟨-, h4, h2⟩ := World.cells?_some h1
      have h3 := h2 0 hc0
      rw [List.getElem?_eq_getElem (by omega)] at h3
      simp only [Nat.zero_mul, Addr.add, if_true] at h3
      unfold World.cell? at h3
      split at h3
      ·rename_i hb
       exact (Array.getElem?_eq_some_iff.1 hb).1
      ·simp at h3
   ·simp at hk
theorem openD_arg [Glob] (hT : TabOK P T) (hB : BddD P T Bd K N) {t : TypeId} {v : Value} {base : Nat} (hok : Value.okWide P w .any base t v) {d : DataW H} {q : List MemPlace} (h : DataW.Trod enc P w 0 (fun _ => true) true t v d q) {E : List Lf} (hE : lfs T 20 t = some E) (hb : Bd t d) :
 ∃ p, ShT T t p /\ SzI K N p /\ RP w (fun _ => False) p v := by
 obtain ⟨n, hn⟩ := h
 obtain ⟨ps, h1, h2⟩ := openD_cells hT hB 20 t E n _ _ hE hn hb
 obtain ⟨m', y, hm, hy, hk, hl⟩ := lfs_step hE
 have kind := (hT t y hy).kind
 cases ha : y.kd.isAgg with
 | true =>
  have : ∃ cs, v = .agg cs /\ cs.size = P.cellsOf t := by
   unfold Value.okWide at hok
   cases hkd : y.kd <;> rw [hkd] at ha kind <;> simp only [Kd.isAgg, Bool.false_eq_true] at ha
   ·obtain ⟨f, hu, -⟩ := kind
    rw [hu] at hok
    obtain ⟨cs, h3, h4, -⟩ := hok
    exact ⟨cs, h3, h4⟩
   ·simp only at kind
    rw [kind] at hok
    obtain ⟨cs, h3, h4, -⟩ := hok
    exact ⟨cs, h3, h4⟩
  obtain ⟨cs, rfl, hcs⟩ := this
  refine ⟨.agg ps, ⟨y, E, hy, hE, .inl ⟨ha, ps, rfl, h1⟩⟩, (.agg _ fun j q hj => (h2 j q hj).1.2), AR.agg ⟨by rw [hcs, cellsOf_lfs hT hE, h1.1], fun j p hj => ?_⟩⟩
  obtain ⟨h3, u, h4, h5⟩ := h2 j p hj
  exact ⟨h3.1, u, by simpa [Value.cells] using h4, h5⟩
 | false =>
  have hv : v.cells = #[v] := by
   cases v <;> try rfl
   rename_i cs
   exfalso
   unfold Value.okWide at hok
   cases hkd : y.kd <;> rw [hkd] at ha kind <;> simp only [Kd.isAgg, Bool.true_eq_false] at ha <;> simp only at kind
   ·rw [hkd] at hk; simp [lfsK] at hk
   all_goals first | (rw [hkd] at hk; simp [lfsK] at hk; done) | (rw [kind] at hok; simp [Cell.okWide, Cell.ok, kind] at hok)
  have hE1 : E.length = 1 := by
   cases hkd : y.kd <;> rw [hkd] at ha hk <;> simp only [Kd.isAgg, Bool.true_eq_false] at ha <;> simp only [lfsK] at hk
   ·simp at hk
   ·simp at hk; subst hk; rfl
   ·simp at hk; subst hk; rfl
   ·simp at hk; subst hk; rfl
   ·split at hk
    ·simp at hk; subst hk; rfl
    ·simp at hk
   all_goals simp at hk
  obtain ⟨p, rfl⟩ : ∃ p, ps = [p] := by
   have := h1.1
   rw [hE1] at this
   match ps, this with
   | [p], _ => exact ⟨p, rfl⟩
  obtain ⟨h6, u, h4, h5⟩ := h2 0 p rfl
  rw [hv] at h4
  simp at h4
  subst h4
  exact ⟨p, ⟨y, E, hy, hE, .inr ⟨ha, h1⟩⟩, h6.2, h5⟩
theorem openD_args [Glob] (hT : TabOK P T) (hB : BddD P T Bd K N) {base : Nat} : ∀ {ts : List TypeId} {vs : List Value} {ds : List (DataW H)} {q : List MemPlace}, ts.all (fun t => (lfs T 20 t).isSome) = true →
 (∀ (j : Nat) t v, ts[j]? = some t -> vs[j]? = some v -> Value.okWide P w .any base t v) -> DataW.TrodAll enc P w 0 (fun _ => true) true ts vs ds q -> (∀ (j : Nat) t d, ts[j]? = some t -> ds[j]? = some d -> Bd t d) →
 ∃ ps : List PV, ShTs T ts ps /\ (∀ p ∈ ps, SzI K N p) /\ vs.length = ps.length /\ ds.length = ts.length /\ ∀ (i : Nat) (p : PV), ps[i]? = some p -> ∃ v, vs[i]? = some v /\ RP w (fun _ => False) p v
 | [], [], [], q, _, _, _, _ => ⟨[], trivial, fun p h => by simp at h, rfl, rfl, fun i p h => by simp at h⟩
 | t :: ts, v :: vs, d :: ds, q, hall, hok, h, hb => by
  obtain ⟨p0, q0, h1, h2, -⟩ := h
  simp only [List.all_cons, Bool.and_eq_true] at hall
  obtain ⟨E, hE⟩ := Option.isSome_iff_exists.1 hall.1
  obtain ⟨p, h3, hz, h4⟩ := openD_arg hT hB (hok 0 t v rfl rfl) h1 hE (hb 0 t d rfl rfl)
  obtain ⟨ps, h5, hzs, h6, h7, h8⟩ := openD_args hT hB hall.2 (fun j t' v' h h' => hok (j + 1) t' v' (by simpa using h) (by simpa using h')) h2 (fun j t' d' h h' => hb (j + 1) t' d' (by simpa using h) (by simpa using h'))
  refine ⟨p :: ps, ⟨h3, h5⟩, fun q hq => by
   rcases List.mem_cons.1 hq with rfl | hq
   ·exact hz
   ·exact hzs q hq, by simp [h6], by simp [h7], fun i p' hi => ?_⟩
  cases i with
  | zero => simp at hi; subst hi; exact ⟨v, rfl, h4⟩
  | succ i => simpa using h8 i p' (by simpa using hi)
 | [], _ :: _, _, _, _, _, h, _ => h.elim
 | [], [], _ :: _, _, _, _, h, _ => h.elim
 | _ :: _, [], _, _, _, _, h, _ => h.elim
 | _ :: _, _ :: _, [], _, _, _, h, _ => h.elim
end
theorem weightsAll_of {H : Type} {P : Program} {e : TypeId} : ∀ {l : List (DataW H)} {i : Nat} {d : DataW H}, l[i]? = some d -> ∀ n ∈ d.weights P e, n ∈ DataW.weightsAll P e l
 | d' :: r, 0, d, hd, n, hn => by
  simp at hd; subst hd
  simp only [DataW.weightsAll, List.mem_append]
  exact .inl hn
 | d' :: r, i + 1, d, hd, n, hn => by
  simp only [DataW.weightsAll, List.mem_append]
  exact .inr (weightsAll_of (i := i) (by simpa using hd) n hn)
def PosK (T : TypeId -> Option Ty) (K : Nat -> Nat) : Prop := ∀ t yt e y, T t = some yt -> yt.kd = .slice e -> T e = some y -> 0 < y.size -> K y.size <= y.bytes
theorem bddD {H : Type} {P : Program} {T : TypeId -> Option Ty} {K : Nat -> Nat} (hT : TabOK P T) (hpos : PosK T K) : BddD (H := H) P T (fun t d => ∀ n ∈ d.weights P t, n <= reachBytes) K reachBytes where
 st := fun t fs parts i f d hu hb hf hd n hn => hb n (by
  simp only [DataW.weights, hu]
  exact DataW.weights_mem_each (j := i) (by simp [hf]) hd n hn)
 ar := fun t k e parts i d hu hb hd n hn => hb n (by
  simp only [DataW.weights, hu]
  exact weightsAll_of hd n hn)
 sl := fun t e elems spare hu ⟨yt, ht, hkd⟩ y hy hs hb => by
  have h := hb ((elems.length + spare.length) * P.bytesOf e) (by simp [DataW.weights, hu])
  obtain ⟨i, z, hi, -, hby, -⟩ := (hT e y hy).info
  have hp := hpos t yt e y ht hkd hy hs
  have he : P.bytesOf e = y.bytes := by simp [Program.bytesOf, hi, hby]
  rw [<- he] at hp
  refine Nat.le_trans ?_ h
  exact Nat.mul_le_mul (Nat.le_add_right _ _) hp
 sle := fun t e elems spare i d hu hb hd n hn => hb n (by
  simp only [DataW.weights, hu, List.mem_cons, List.mem_append]
  exact .inr (.inl (weightsAll_of hd n hn)))
 str := fun t b hb => hb b.length (by simp [DataW.weights])
theorem bddD_args {H : Type} {P : Program} {ts ts' : List TypeId} {ds gs : List (DataW H)} (h : (DataW.weightsEach P (ts ++ ts') (ds ++ gs)).all (· <= reachBytes) = true) (j : Nat) (t : TypeId) (d : DataW H) (ht : ts[j]? = some t) (hd : ds[j]? = some d) : ∀ n ∈ d.weights P t, n <= reachBytes := fun n hn => by
 have := List.all_eq_true.1 h n (DataW.weights_mem_each (j := j) (by rw [List.getElem?_append_left (List.getElem?_eq_some_iff.1 ht).1]; exact ht) (by rw [List.getElem?_append_left (List.getElem?_eq_some_iff.1 hd).1]; exact hd) n hn)
 simpa using this
section
variable {H : Type} {enc : TypeId × Value -> H} {P : Program} {T : TypeId -> Option Ty} {w : World} {K : Nat -> Nat} {N : Nat} {Bd : TypeId -> DataW H -> Prop}
theorem row_postD [Glob] (hT : TabOK P T) (hB : BddD P T Bd K N) {f : FuncId} {fn : Func} {s : ChangeSpec} {apart fresh handsOn again : Bool} {tb : TypeId} (hsv : s.vars = []) (hres : fn.resultTypes = #[tb]) (hb : P.underlying tb = some .bool)
 (hspec : ∀ ds : List (DataW H), ds.length = fn.params.size -> (s.fn H ds).results = [.lit (.bool true)] /\ (s.fn H ds).args = ds /\ (s.fn H ds).vars = [])
 (hts : fn.params.toList.all (fun t => (lfs T 20 t).isSome) = true)
 (hent : Enters P f) {W : World} {base : Nat} {args : Array Value} {ds gs : List (DataW H)} {before : List MemPlace}
 (hval : ∀ (j : Nat) t v, fn.params[j]? = some t -> args[j]? = some v -> Value.okWide P W .any base t v)
 (hW : DataW.Whole enc P fn.params.toList s.vars apart W args.toList ds gs before)
 (hgl : ∀ g e, Glob.g g = some e -> GE W (fun _ => False) e g) (hbd : ∀ (j : Nat) t d, fn.params.toList[j]? = some t -> ds[j]? = some d -> Bd t d) (hcon : ∀ ps : List PV, ShTs T fn.params.toList ps -> (∀ p ∈ ps, SzI K N p) -> ACon P f (ps.map .p) (.p (B true))) :
 Calls P f args W fun e W' => ∃ v, e = .returned v /\ s.post enc P fn apart fresh handsOn again W args v W' := by
 have hW' := hW
 obtain ⟨p, q, hA, hV, rfl, hfz, hnd⟩ := hW
 rw [hsv] at hV
 obtain ⟨rfl, rfl⟩ := trodVars_none hV
 obtain ⟨ps, h1, hz, h2, h3, h4⟩ := openD_args hT hB hts (fun j t v ht hv => hval j t v (by simpa using ht) (by simpa using hv)) hA hbd
 have hc := CallX.calls hent <| hcon ps h1 hz (fun _ => False) W ⟨fun _ => 0, fun _ => undef⟩ args.toList (Hp.none (fun _ h => h.elim) nmF_nil hgl) (by simpa using h2) (fun i u hi => by
  rw [List.getElem?_map] at hi
  cases hp : ps[i]? with
  | none => rw [hp] at hi; simp at hi
  | some p =>
   rw [hp] at hi
   simp only [Option.map_some, Option.some.injEq] at hi
   subst hi
   obtain ⟨x, h5, h6⟩ := h4 i p hp
   exact ⟨x, h5, RP.mono (fun k hk => Gd_nil hk) h6⟩)
 rw [show args.toList.toArray = args from by simp] at hc
 refine hc.mono fun e W' ⟨hk, hr⟩ => ?_
 obtain ⟨hk', x, m2, he, hr⟩ := plain_out hk hr
 refine ⟨x, he, ?_⟩
 have hx : x = .bool true := RV.scal hr
 subst hx
 have hlen : (ds ++ []).length = fn.params.size := by simp [h3]
 obtain ⟨s1, s2, s3⟩ := hspec (ds ++ []) hlen
 have hlt : ∀ p' ∈ p ++ [], p'.block < W.heap.size := fun p' hp => hW'.lt p' hp
 refine post_of_below (pa := p) (pv := []) hW' (fun b sp hd => ?_) (fun sp hsp => ?_) (fun sp hsp => ?_) rfl hk'.below (fun j t r h5 h6 => ?_)
 ·rw [s1, hres]
  exact ⟨[], [], ⟨1, by simp [DataW.trod, Value.cells, hb]⟩, rfl, rfl⟩
 ·rw [s2, List.append_nil]
  refine args_again hT hts hA (fun p' hp' => ?_) (fun p' hp' => hsp p' (by simpa using hp'))
  have hb' := hk'.below.block _ (hlt p' (by simpa using hp'))
  cases p' with
  | cell b off => exact World.cell?_of_block hb'
  | map b => exact hb'
 ·rw [s3, hsv]; rfl
 ·rw [hres] at h5 h6
  cases j with
  | zero =>
   simp at h5
   subst h5
   simp [Value.resultList] at h6
   subst h6
   simp [Value.okWide, Cell.okWide, Cell.ok, hb]
  | succ j => simp at h5
theorem row_liftedD [Glob] {C : Checked} (hT : TabOK C.prog T) {os : Os} {f : FuncId} {fn : Func} {s : ChangeSpec} {conds : List PathCond} {a : Assume} {apart fresh handsOn again : Bool} {tb : TypeId}
 (own : ownKnob C.prog.godebug = none) (started : os.Started) (noInit : C.prog.inits.idxOf? f = none) (hfn : C.prog.funcs[f]? = some fn)
 (witness : ∃ (w : World) (tape : Tape) (i : Input), w.os = os /\ (w.forCall tape i).Shaped C.prog /\ i.vars = [] /\ Input.okWide C.prog (w.forCall tape i) .any w.heap.size f i ∧
  s.pre6 enc C.prog fn conds apart (w.forCall tape i).memory i.args /\ a.holds C.prog (lone (Frame.enter C.prog f i.args .normal) [] (w.forCall tape i)))
 (hsv : s.vars = []) (hres : fn.resultTypes = #[tb]) (hb : C.prog.underlying tb = some .bool)
 (hspec : ∀ ds : List (DataW H), ds.length = fn.params.size -> (s.fn H ds).results = [.lit (.bool true)] /\ (s.fn H ds).args = ds /\ (s.fn H ds).vars = [])
 (hts : fn.params.toList.all (fun t => (lfs T 20 t).isSome) = true)
 (hpos : PosK T K) (hcon : ∀ ps : List PV, ShTs T fn.params.toList ps -> (∀ p ∈ ps, SzI K reachBytes p) -> ACon C.prog f (ps.map .p) (.p (B true))) (hent : Enters C.prog f) (hgl : ∀ g, Glob.g g = none := by intro g; rfl) :
 ReturnsInHanded a C os f .any (s.pre6 enc C.prog fn conds apart) (s.post enc C.prog fn apart fresh handsOn again) :=
 returnsInHanded_of_change_sized own started noInit hfn witness fun _ _ _ ds gs _ hval hW _ hz _ => row_postD hT (bddD hT hpos) hsv hres hb hspec hts hent hval hW (fun g e he => by rw [hgl g] at he; simp at he) (bddD_args hz) hcon
end
end Go.Av
