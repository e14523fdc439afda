/- Texts that the proof needs: AvEff. -/
import Derived.Test.YthiccfadhllajaaP5JudgePrimary
namespace Go.Av
set_option linter.unusedSimpArgs false
set_option linter.unusedVariables false
open Go
theorem EL.move {w w' : World} {G G' : Nat -> Prop} (ht : Turn w w' G G') {c : Nat} {l : List (List PV)} {get : Nat -> Option Value} (h : EL w G c l get) : EL w' G' c l get :=
 fun i el hi => ⟨(h i el hi).1, fun j p hj => let ⟨h1, u, h2, h3⟩ := (h i el hi).2 j p hj; ⟨h1, u, h2, h3.move ht.size ht.block ht.less⟩⟩
theorem EL.congr {w : World} {G : Nat -> Prop} {c : Nat} {l : List (List PV)} {g g' : Nat -> Option Value} (h : EL w G c l g) (hg : ∀ n, n < l.length * c -> g' n = g n) : EL w G c l g' :=
 fun i el hi => ⟨(h i el hi).1, fun j p hj => by
  obtain ⟨h1, u, h2, h3⟩ := (h i el hi).2 j p hj
  refine ⟨h1, u, ?_, h3⟩
  rw [hg _ ?_]; exact h2
  have hi' := (List.getElem?_eq_some_iff.1 hi).1
  have hj' := (List.getElem?_eq_some_iff.1 hj).1
  rw [(h i el hi).1] at hj'
  calc i * c + j < i * c + c := by omega
   _ = (i + 1) * c := by rw [Nat.add_mul, Nat.one_mul]
   _ <= l.length * c := Nat.mul_le_mul_right _ hi'⟩
theorem EL.append {w : World} {G : Nat -> Prop} {c : Nat} {l l' : List (List PV)} {xs ys : List Value} (hx : xs.length = l.length * c) (h : EL w G c l (fun n => xs[n]?)) (h' : EL w G c l' (fun n => ys[n]?)) :
 EL w G c (l ++ l') (fun n => (xs ++ ys)[n]?) := by
 intro i el hi
 by_cases hlt : i < l.length
 ·rw [List.getElem?_append_left hlt] at hi
  refine ⟨(h i el hi).1, fun j p hj => ?_⟩
  obtain ⟨h1, u, h2, h3⟩ := (h i el hi).2 j p hj
  exact ⟨h1, u, by show (xs ++ ys)[i * c + j]? = some u; rw [List.getElem?_append_left (List.getElem?_eq_some_iff.1 h2).1]; exact h2, h3⟩
 ·rw [List.getElem?_append_right (by omega)] at hi
  refine ⟨(h' _ el hi).1, fun j p hj => ?_⟩
  obtain ⟨h1, u, h2, h3⟩ := (h' _ el hi).2 j p hj
  refine ⟨h1, u, ?_, h3⟩
  have e : i * c + j - xs.length = (i - l.length) * c + j := by
   rw [hx, Nat.sub_mul]
   have : l.length * c <= i * c := Nat.mul_le_mul_right _ (by omega)
   omega
  show (xs ++ ys)[i * c + j]? = some u
  rw [List.getElem?_append_right (by rw [hx]; have : l.length * c <= i * c := Nat.mul_le_mul_right _ (by omega)
                                     omega), e]
  exact h2
def RBr (wc we : World) (G : Nat -> Prop) (e c : Nat) (l : List (List PV)) (x : Value) : Prop :=
 (RP we G (.sl c []) x /\ (∃ a, x = .slice a 0 0) /\ l = []) ∨
  ∃ k cap cur, x = .slice (some ⟨k, 0, none⟩) l.length cap /\ 0 < cap /\ l.length <= cap /\ cap <= maxLen /\ wc.heap[k]? = some (.cells cur e (0, 0)) /\ cur.size = cap * c /\ EL we G c l (fun n => cur[n]?)
theorem RBr.RB [Glob] {w we : World} {G G' : Nat -> Prop} (ht : Turn we w G G') {e c : Nat} {l : List (List PV)} {x : Value} (h : RBr w we G e c l x) {m : Nm} {b : Nat} (hm : m.r b = x) : Av.RB w G' m b (.row e c l) := by
 rcases h with ⟨h0, ha, hl⟩ | ⟨k, cap, cur, hr, hc0, hlc, hcm, hh, hs, hl⟩
 ·exact .inl ⟨by rw [hm]; exact h0.move ht.size ht.block ht.less, by rw [hm]; exact ha, hl⟩
 ·exact .inr ⟨k, cap, cur, by rw [hm]; exact hr, hc0, hlc, hcm, hh, hs, hl.move ht⟩
theorem RB.RBr {w : World} {G : Nat -> Prop} {m : Nm} {b e c : Nat} {l : List (List PV)} (h : Av.RB w G m b (.row e c l)) : Av.RBr w w G e c l (m.r b) := h
def crt (st : St) (nm d : Nat) (blk : Blk) (v : V) : St := ⟨putS (fun t => scr nm (st.s t)) (some d) v, fun b => if b = nm then some blk else (st.b b).map (scrB nm)⟩
section
variable {P : Program} {T : TypeId -> Option Ty} {w0 : World} {m0 : Nm} {F X : Nat -> Prop} {N : Nat} {st : St} {a : Act} {w : World} {m : Nm}
theorem Rel.box [Glob] (h : Rel w0 m0 F X N st a w m) {d : Nat} (hd : dOK N d) (e : TypeId) (cs : Array Value) (cells : List V) (hs : cs.size = cells.length)
 (hc : ∀ (j : Nat) (v : V), cells[j]? = some v -> ∃ x, cs[j]? = some x /\ x.oneCell' = true /\ RV0 w (Gd F m st.b) m v x) :
 ∃ m', Rel w0 m0 F X N (crt st d d (.box e (cells.map (scr0 d))) (.ptr d 0)) (a.put (some d) (.pointer (some ⟨w.heap.size, 0, none⟩))) (w.alloc (.cells cs e)) m' := by
 let m' : Nm := ⟨fun b => if b = d then w.heap.size else m.i b, m.r⟩
 have hm : ∀ b, b ≠ d -> m'.i b = m.i b /\ m'.r b = m.r b := fun b hb => ⟨by simp [m', hb], rfl⟩
 have hk : Keeps (fun k => owns m st.b d k) w (w.alloc (.cells cs e)) := ⟨rfl, rfl, rfl, by simp, fun k hk _ => Go.RowKit.Below.heap_alloc w _ k hk⟩
 have hown : ∀ k, owns m' (fun b => if b = d then some (.box e (cells.map (scr0 d))) else (st.b b).map (scrB d)) d k -> (owns m st.b d k \/ w.heap.size <= k) /\ k < (w.alloc (.cells cs e)).heap.size := fun k ho => by
  simp only [owns, if_true, m'] at ho
  subst ho
  exact ⟨.inr (Nat.le_refl _), by simp⟩
 have ht := h.turnT d (some (.box e (cells.map (scr0 d)))) m' _ hm hk hown
 have h1 := h.turn d (some (.box e (cells.map (scr0 d)))) m' _ hm hk hown (fun blk hb => by
  simp only [Option.some.injEq] at hb
  subst hb
  refine ⟨cs, by simp only [m', if_true]; exact heap_alloc_new w _, by simpa using hs, fun j v hv => ?_⟩
  rw [List.getElem?_map] at hv
  cases hli : cells[j]? with
  | none => rw [hli] at hv; simp at hv
  | some v0 =>
   rw [hli] at hv
   simp only [Option.map_some, Option.some.injEq] at hv
   obtain ⟨y, hy, ho, hr⟩ := hc j v0 hli
   exact ⟨y, hy, ho, hv ▸ hr.turn ht d hm⟩)
 exact ⟨m', (h1 (fun h2 _ => by have := h.small.1; have := hd.1; omega)).put (some d) (.ptr d 0) _ (fun k hk => by simp only [Option.some.injEq] at hk; subst hk; exact hd) (.of0 (v := .ptr _ _) (by simp [RV0, m']))⟩
theorem Rel.row [Glob] (h : Rel w0 m0 F X N st a w m) {nm d : Nat} (hd : dOK N d) {e c : Nat} {l : List (List PV)} {x : Value} {w' : World} (hk : Keeps (fun k => owns m st.b nm k) w w')
 (hx : RBr w' w (Gd F m st.b) e c l x) (hown : ∀ k, ownB x = some k -> (owns m st.b nm k \/ w.heap.size <= k) /\ k < w'.heap.size) :
 ∃ m', Rel w0 m0 F X N (crt st nm d (.row e c l) (.row nm)) (a.put (some d) x) w' m' := by
 let m' : Nm := ⟨m.i, fun b => if b = nm then x else m.r b⟩
 have hm : ∀ b, b ≠ nm -> m'.i b = m.i b /\ m'.r b = m.r b := fun b hb => ⟨rfl, by simp [m', hb]⟩
 have hown' : ∀ k, owns m' (fun b => if b = nm then some (.row e c l) else (st.b b).map (scrB nm)) nm k -> (owns m st.b nm k \/ w.heap.size <= k) /\ k < w'.heap.size := fun k ho => by
  simp only [owns, if_true, m'] at ho
  exact hown k ho
 have ht := h.turnT nm (some (.row e c l)) m' _ hm hk hown'
 have h1 := h.turn nm (some (.row e c l)) m' _ hm hk hown' (fun blk hb => by
  simp only [Option.some.injEq] at hb
  subst hb
  exact hx.RB ht (by simp [m']))
 exact ⟨m', (h1 (fun _ _ => rfl)).put (some d) (.row nm) _ (fun k hk => by simp only [Option.some.injEq] at hk; subst hk; exact hd) (.of0 (v := .row _) (by simp [RV0, m']))⟩
theorem Rel.mkmap [Glob] (h : Rel w0 m0 F X N st a w m) {d : Nat} (hd : dOK N d) (ks : KS) :
 ∃ m', Rel w0 m0 F X N (crt st d d (.mp ks []) (.row d)) (a.put (some d) (.map (some w.heap.size))) (w.alloc (.map #[] 0)) m' := by
 let x : Value := .map (some w.heap.size)
 have hk : Keeps (fun k => owns m st.b d k) w (w.alloc (.map #[] 0)) := ⟨rfl, rfl, rfl, by simp, fun k hk _ => Go.RowKit.Below.heap_alloc w _ k hk⟩
 let m' : Nm := ⟨m.i, fun b => if b = d then x else m.r b⟩
 have hm : ∀ b, b ≠ d -> m'.i b = m.i b /\ m'.r b = m.r b := fun b hb => ⟨rfl, by simp [m', hb]⟩
 have hown' : ∀ k, owns m' (fun b => if b = d then some (.mp ks []) else (st.b b).map (scrB d)) d k -> (owns m st.b d k \/ w.heap.size <= k) /\ k < (w.alloc (.map #[] 0)).heap.size := fun k ho => by
  simp only [owns, if_true, m', x, ownB, Option.some.injEq] at ho
  subst ho
  exact ⟨.inr (Nat.le_refl _), by simp⟩
 have h1 := h.turn d (some (.mp ks [])) m' _ hm hk hown' (fun blk hb => by
  simp only [Option.some.injEq] at hb
  subst hb
  exact ⟨w.heap.size, #[], 0, by simp [m', x], heap_alloc_new w _, trivial⟩)
 exact ⟨m', (h1 (fun _ _ => rfl)).put (some d) (.row d) _ (fun k hk => by simp only [Option.some.injEq] at hk; subst hk; exact hd) (.of0 (v := .row _) (by simp [RV0, m', x]))⟩
theorem Keeps.mono {X Y : Nat -> Prop} {w w' : World} (h : Keeps X w w') (hxy : ∀ k, X k -> Y k) : Keeps Y w w' := ⟨h.os, h.tape, h.output, h.size, fun k hk hy => h.block k hk (fun hx => hy (hxy k hx))⟩
def Fc.v : Fc -> V
 | .p x => .p x
 | .row b => .row b
 | .nil c => .nil c
def flatV : V -> Option (List V)
 | .p (.agg l) => some (l.map .p)
 | .ag l => some (l.map Fc.v)
 | v => if v.one then some [v] else none
theorem RV0.cells_row [Glob] (h : Rel w0 m0 F X N st a w m) {b : Nat} {x : Value} (hx : x = m.r b) (hrow : ∃ e c l, st.b b = some (.row e c l)) : x.oneCell' = true := by
 obtain ⟨e, c, l, hr⟩ := hrow
 subst hx
 rcases h.blks b _ hr with ⟨-, ⟨a', ha⟩, -⟩ | ⟨k, cap, cur, hv, -⟩
 ·rw [ha]; rfl
 ·rw [hv]; rfl
def V.live (st : St) : V -> Bool
 | .row b => match st.b b with
  | some (.row _ _ _) => true
  | some (.mp _ _) => true
  | _ => false
 | _ => true
theorem flatV_run [Glob] (h : Rel w0 m0 F X N st a w m) {v : V} {vs : List V} (hv : flatV v = some vs) (hlv : v.live st = true) {x : Value} (hx : RV w (Gd F m st.b) m v x) :
 x.cells.size = vs.length /\ ∀ (j : Nat) (u : V), vs[j]? = some u -> ∃ y, x.cells[j]? = some y /\ y.oneCell' = true /\ RV0 w (Gd F m st.b) m u y := by
 unfold flatV at hv
 split at hv
 ·rename_i l
  simp only [Option.some.injEq] at hv
  subst hv
  have har := (show RP w _ (.agg l) x from hx).flat
  refine ⟨by simpa [flatP] using har.1, fun j u hj => ?_⟩
  rw [List.getElem?_map] at hj
  cases hl : l[j]? with
  | none => rw [hl] at hj; simp at hj
  | some p =>
   rw [hl] at hj
   simp only [Option.map_some, Option.some.injEq] at hj
   subst hj
   obtain ⟨h1, y, h2, h3⟩ := har.2 j p hl
   exact ⟨y, h2, h3.oneCell h1, h3⟩
 ·rename_i l
  simp only [Option.some.injEq] at hv
  subst hv
  obtain ⟨cs, rfl, hl, hc⟩ := (show RV0 w _ m (.ag l) x from hx)
  refine ⟨by simpa [Value.cells] using hl, fun j u hj => ?_⟩
  rw [List.getElem?_map] at hj
  cases hlj : l[j]? with
  | none => rw [hlj] at hj; simp at hj
  | some c =>
   rw [hlj] at hj
   simp only [Option.map_some, Option.some.injEq] at hj
   subst hj
   obtain ⟨y, h1, h2, h3⟩ := hc j c hlj
   exact ⟨y, h1, h2, by cases c <;> exact h3⟩
 ·rename_i hno hno2
  split at hv
  ·rename_i hone
   simp only [Option.some.injEq] at hv
   subst hv
   have h0 := hx.to0 hone
   have h1 : x.oneCell' = true := h0.one hone (fun b hb => by
    subst hb
    simp only [V.live] at hlv
    split at hlv
    ·rename_i e c l hr
     exact RV0.cells_row h h0 ⟨e, c, l, hr⟩
    ·rename_i ks l hr
     obtain ⟨blk, es, clock, hr2, -⟩ := h.blks b _ hr
     have h9 : x = m.r b := h0
     rw [h9, hr2]; rfl
    ·simp at hlv)
   have h2 : x.cells = #[x] := by cases x <;> simp_all [Value.oneCell', Value.cells]
   rw [h2]
   refine ⟨rfl, fun j u hj => ?_⟩
   cases j with
   | zero => simp at hj; subst hj; exact ⟨x, rfl, h1, h0⟩
   | succ j => simp at hj
  ·simp at hv
def evBox (T : TypeId -> Option Ty) (st : St) (t : TypeId) (d : Nat) (v : V) : Option St :=
 match T t with
 | none => none
 | some y => if (fix T t v).live st then match flatV (fix T t v) with
  | some vs => if vs.length = y.size then some (crt st d d (.box t (vs.map (scr0 d))) (.ptr d 0)) else none
  | none => none
  else none
def evAlloc (T : TypeId -> Option Ty) (st : St) (t : TypeId) (d : Nat) : Option St :=
 match T t with
 | none => none
 | some y => some (crt st d d (.box t (y.zero.map (scr0 d))) (.ptr d 0))
theorem evAlloc_run [Glob] (hT : TabOK P T) (h : Rel w0 m0 F X N st a w m) {t : TypeId} {d : Nat} (hd : dOK N d) {st' : St} (hv : evAlloc T st t d = some st') :
 ∃ x w' m', (Instr.alloc t true (.tuple #[])).run P w = .ok x w' /\ Rel w0 m0 F X N st' (a.put (some d) x) w' m' := by
 unfold evAlloc at hv
 split at hv
 ·simp at hv
 rename_i y hy
 simp only [Option.some.injEq] at hv
 subst hv
 obtain ⟨z, hz, hzc⟩ := (hT t y hy).run_zero w
 have hlen : z.cells.size = y.zero.length := by have := congrArg List.length hzc; simpa using this
 obtain ⟨m', hm'⟩ := h.box hd t z.cells y.zero hlen (fun j v hj => by
  have hj' := congrArg (fun l : List (Option Value) => l[j]?) hzc
  simp only [List.getElem?_map, hj, Option.map_some] at hj'
  cases hx : z.cells.toList[j]? with
  | none => rw [hx] at hj'; simp at hj'
  | some x =>
   rw [hx] at hj'
   simp only [Option.map_some, Option.some.injEq] at hj'
   obtain ⟨h1, h2⟩ := zval_RV0 (w := w) (Gd F m st.b) m hj'
   exact ⟨x, by simpa using hx, h2, h1⟩)
 refine ⟨_, _, m', ?_, hm'⟩
 simp [Instr.alloc, hz, newVar, newRow]
theorem evBox_run [Glob] (h : Rel w0 m0 F X N st a w m) {t : TypeId} {d : Nat} (hd : dOK N d) {v : V} {q : Value} (hq : RV w (Gd F m st.b) m v q) {st' : St} (hv : evBox T st t d v = some st') :
 ∃ x w' m', (Instr.box t q).run P w = .ok x w' /\ Rel w0 m0 F X N st' (a.put (some d) x) w' m' := by
 unfold evBox at hv
 split at hv
 ·simp at hv
 rename_i y hy
 split at hv
 ·rename_i hlv
  split at hv
  ·rename_i vs hvs
   split at hv
   ·rename_i hlen
    simp only [Option.some.injEq] at hv
    subst hv
    obtain ⟨h1, h2⟩ := flatV_run h hvs hlv (hq.fix T t)
    obtain ⟨m', hm'⟩ := h.box hd t q.cells vs h1 h2
    exact ⟨_, _, m', by simp [Instr.box, newVar, newRow], hm'⟩
   ·simp at hv
  ·simp at hv
 ·simp at hv
def stB (cells vs : List V) (off : Nat) : Option (List V) :=
 if off + vs.length <= cells.length then some (cells.take off ++ vs ++ cells.drop (off + vs.length)) else none
def evStore (T : TypeId -> Option Ty) (st : St) (t : TypeId) (p v : V) : Option St :=
 match T t with
 | none => none
 | some y => if (fix T t v).live st then match flatV (fix T t v) with
  | none => none
  | some vs => if vs.length = y.size then match p with
   | .ptr b off => match st.b b with
    | some (.box e cells) => match stB cells vs off with
     | some cells' => some ⟨st.s, fun b' => if b' = b then some (.box e cells') else st.b b'⟩
     | none => none
    | _ => none
   | .eptr b c i j => match st.b b with
    | some (.row e c' l) => if c = c' then match l[i]?, toPs vs with
     | some el, some ps => if j + ps.length <= el.length then some ⟨st.s, fun b' => if b' = b then some (.row e c' (l.set i (el.take j ++ ps ++ el.drop (j + ps.length)))) else st.b b'⟩ else none
     | _, _ => none
     else none
    | _ => none
   | _ => none
   else none
  else none
theorem Keeps.setRow (w : World) (g : Nat) (cs : Array Value) : Keeps (fun k => k = g) w (w.setRow g cs) :=
 ⟨rfl, rfl, rfl, by simp, fun k _ hk => setRow_other w g k cs hk⟩
theorem run_storeVar [Glob] {t : TypeId} {y : Ty} (h : TyOK P t y) {g o : Nat} {e : TypeId} {cur : Array Value} {x : Value} (hg : w.heap[g]? = some (.cells cur e (0, 0))) (hs : x.cells.size = y.size) (hb : o + x.cells.size <= cur.size)
 (h1 : ∀ v ∈ x.cells.toList, v.oneCell' = true) : (Instr.storeAt t (.pointer (some ⟨g, o, none⟩)) x).run P w = .ok () (w.setRow g (cur.toList.take o ++ x.cells.toList ++ cur.toList.drop (o + x.cells.size)).toArray) := by
 have := run_storeCells_at P g o e x.cells.toList 0 cur w hg (by simpa using hb) h1
 simp only [Nat.add_zero, Array.length_toList] at this
 simp only [Instr.storeAt, Instr.sureAddr, storeVar]
 simp only [Sem.run_bind, Sem.run_pure, Result.andThen_ok, h.run_info, hs, ne_eq, not_true_eq_false, if_false]
 rw [hs] at this
 exact this
theorem evStore_run [Glob] (hT : TabOK P T) (h : Rel w0 m0 F X N st a w m) {t : TypeId} {p v : V} {q x : Value} (hp : RV w (Gd F m st.b) m p q) (hx : RV w (Gd F m st.b) m v x) {st' : St} (hv : evStore T st t p v = some st') :
 ∃ w', (Instr.storeAt t q x).run P w = .ok () w' /\ Rel w0 m0 F X N st' a w' m := by
 unfold evStore at hv
 split at hv
 ·simp at hv
 rename_i y hy
 split at hv
 ·rename_i hlv
  split at hv
  ·simp at hv
  rename_i vs hvs
  split at hv
  ·rename_i hlen
   obtain ⟨hc1, hc2⟩ := flatV_run h hvs hlv (hx.fix T t)
   have hone : ∀ v ∈ x.cells.toList, v.oneCell' = true := fun v hv => by
    obtain ⟨j, hj, rfl⟩ := List.getElem_of_mem hv
    have hj' : j < vs.length := by rw [<- hc1]; simpa using hj
    obtain ⟨y, h1, h2, -⟩ := hc2 j vs[j] (List.getElem?_eq_getElem hj')
    have : x.cells[j]'(by simpa using hj) = y := by
     have := (Array.getElem?_eq_some_iff.1 h1).2; exact this
    simpa [this] using h2
   split at hv
   ·rename_i b off
    split at hv
    ·rename_i e cells hb
     split at hv
     ·rename_i cells' hst
      simp only [Option.some.injEq] at hv
      subst hv
      unfold stB at hst
      split at hst
      ·rename_i hle
       simp only [Option.some.injEq] at hst
       subst hst
       obtain ⟨cs, hh, hsz, hl⟩ := h.blks b _ hb
       rw [show q = .pointer (some ⟨m.i b, off, none⟩) from hp]
       refine ⟨_, run_storeVar (hT t y hy) hh (by rw [hc1, hlen]) (by rw [hc1, hsz]; exact hle) hone, ?_⟩
       have hown : ∀ k, k = m.i b -> owns m st.b b k := fun k hk => by unfold owns; rw [hb]; exact hk.symm
       have hk := (Keeps.setRow w (m.i b) (cs.toList.take off ++ x.cells.toList ++ cs.toList.drop (off + x.cells.size)).toArray).mono hown
       refine h.store hb (blk' := .box e _) trivial hk ⟨_, setRow_heap w _ _ _ _ _ hh, ?_, fun j u hj => ?_⟩
       ·simp; omega
       ·have ht : Turn w (w.setRow (m.i b) (cs.toList.take off ++ x.cells.toList ++ cs.toList.drop (off + x.cells.size)).toArray) (Gd F m st.b) (Gd F m st.b) :=
         ⟨hk.size, fun k hlt hg => hk.block k hlt (fun ho => hg (.inr ⟨b, ho⟩)), fun k _ hg => hg⟩
        rw [splice_get cells vs off j hle] at hj
        have e1 : (cs.toList.take off ++ x.cells.toList ++ cs.toList.drop (off + x.cells.size)).toArray[j]? = if off <= j /\ j < off + x.cells.size then x.cells[j - off]? else cs[j]? := by
         have := splice_get cs.toList x.cells.toList off j (by simp; omega)
         simp only [Array.length_toList] at this
         rw [List.getElem?_toArray, this]
         simp
        rw [e1]
        split at hj
        ·rename_i hcond
         rw [if_pos (by omega)]
         obtain ⟨y', h1, h2, h3⟩ := hc2 _ u hj
         exact ⟨y', h1, h2, h3.keep ht⟩
        ·rename_i hcond
         rw [if_neg (by omega)]
         obtain ⟨y', h1, h2, h3⟩ := hl j u hj
         exact ⟨y', h1, h2, h3.keep ht⟩
      ·simp at hst
     ·simp at hv
    ·simp at hv
   ·rename_i b c i j
    split at hv
    ·rename_i e c' l hb
     split at hv
     ·rename_i hcc
      subst hcc
      split at hv
      ·rename_i el ps hel hps
       split at hv
       ·rename_i hle
        simp only [Option.some.injEq] at hv
        subst hv
        obtain ⟨hpl, hpg⟩ := toPs_get hps
        obtain ⟨kk, hkk, rfl⟩ := hp
        have hil := (List.getElem?_eq_some_iff.1 hel).1
        rcases h.blks b _ hb with ⟨-, -, hl0⟩ | ⟨g, cap, cur, hr, hc0, hlc, hcm, hh, hs, hl⟩
        ·subst hl0; simp at hel
        have hgk : g = kk := by
         rw [hr] at hkk
         unfold ownB at hkk
         simp only [if_neg (show ¬ cap = 0 by omega), Option.some.injEq] at hkk
         exact hkk
        subst hgk
        have hecl := (hl i el hel).1
        have hbound : (i + 1) * c <= cap * c := Nat.mul_le_mul_right _ (by omega)
        have hfit : i * c + j + x.cells.size <= cur.size := by
         rw [hc1, <- hpl, hs]
         rw [Nat.add_mul, Nat.one_mul] at hbound
         omega
        refine ⟨_, run_storeVar (hT t y hy) hh (by rw [hc1, hlen]) hfit hone, ?_⟩
        have hown : ∀ k, k = g -> owns m st.b b k := fun k hk => by unfold owns; rw [hb, hk]; exact hkk
        have hk := (Keeps.setRow w g (cur.toList.take (i * c + j) ++ x.cells.toList ++ cur.toList.drop (i * c + j + x.cells.size)).toArray).mono hown
        have ht : Turn w (w.setRow g (cur.toList.take (i * c + j) ++ x.cells.toList ++ cur.toList.drop (i * c + j + x.cells.size)).toArray) (Gd F m st.b) (Gd F m st.b) :=
         ⟨hk.size, fun k hlt hg => hk.block k hlt (fun ho => hg (.inr ⟨b, ho⟩)), fun k _ hg => hg⟩
        have e1 : ∀ n, (cur.toList.take (i * c + j) ++ x.cells.toList ++ cur.toList.drop (i * c + j + x.cells.size)).toArray[n]? = if i * c + j <= n /\ n < i * c + j + x.cells.size then x.cells[n - (i * c + j)]? else cur[n]? := fun n => by
         have := splice_get cur.toList x.cells.toList (i * c + j) n (by simpa using hfit)
         simp only [Array.length_toList] at this
         rw [List.getElem?_toArray, this]
         simp
        refine h.store hb (blk' := .row e c _) trivial hk (.inr ⟨g, cap, _, by rw [List.length_set]; exact hr, hc0, by rw [List.length_set]; exact hlc, hcm, setRow_heap w _ _ _ _ _ hh, ?_, fun i' el' hi' => ?_⟩)
        ·simp; omega
        ·rw [List.getElem?_set] at hi'
         by_cases hii : i = i'
         ·subst hii
          rw [if_pos rfl, if_pos hil] at hi'
          simp only [Option.some.injEq] at hi'
          subst hi'
          refine ⟨by simp; omega, fun jj p hj => ?_⟩
          rw [splice_get el ps j jj hle] at hj
          rw [e1]
          split at hj
          ·rename_i hcond
           rw [if_pos (by omega), show i * c + jj - (i * c + j) = jj - j from by omega]
           obtain ⟨u, hu, hup⟩ := hpg _ p hj
           obtain ⟨y', h1, h2, h3⟩ := hc2 _ u hu
           have h4 := h3.toP hup
           exact ⟨one_of_oneCell h4 h2, y', h1, h4.move ht.size ht.block ht.less⟩
          ·rename_i hcond
           rw [if_neg (by omega)]
           obtain ⟨h1, u, h2, h3⟩ := (hl i el hel).2 jj p hj
           exact ⟨h1, u, h2, h3.move ht.size ht.block ht.less⟩
         ·rw [if_neg hii] at hi'
          refine ⟨(hl i' el' hi').1, fun jj p hj => ?_⟩
          obtain ⟨h1, u, h2, h3⟩ := (hl i' el' hi').2 jj p hj
          refine ⟨h1, u, ?_, h3.move ht.size ht.block ht.less⟩
          rw [e1, if_neg]
          ·exact h2
          ·have hjj := (List.getElem?_eq_some_iff.1 hj).1
           rw [(hl i' el' hi').1] at hjj
           rw [hc1, <- hpl]
           intro hcond
           rcases Nat.lt_or_gt_of_ne hii with hlt | hgt
           ·have : (i + 1) * c <= i' * c := Nat.mul_le_mul_right _ hlt
            rw [Nat.add_mul, Nat.one_mul] at this
            omega
           ·have : (i' + 1) * c <= i * c := Nat.mul_le_mul_right _ hgt
            rw [Nat.add_mul, Nat.one_mul] at this
            omega
       ·simp at hv
      ·simp at hv
     ·simp at hv
    ·simp at hv
   ·simp at hv
  ·simp at hv
 ·simp at hv
end
end Go.Av
