/- Texts that the proof needs: AvRow. -/
import Derived.Test.YthiccfadhllajaaP13JudgePrimary
import Derived.ProofKit
import Derived.ChangeStays
import Derived.ChangeSame
import Derived.OpenShut
import Derived.Handed
import Derived.Below
namespace Go.Av
set_option linter.unusedSimpArgs false
set_option linter.unusedVariables false
open Go Go.WideShapes Go.ChangeShapes Go.RowKit
inductive Lf where
 | int (k : IntKind)
 | bool
 | str
 | sl (E : List Lf)
def lfsS (go : TypeId -> Option (List Lf)) : Nat -> List (Nat × TypeId) -> Option (List Lf)
 | _, [] => some []
 | off, (o, ft) :: r => if o = off then
  match go ft with
  | some L => match lfsS go (off + L.length) r with
   | some R => some (L ++ R)
   | none => none
  | none => none
  else none
def lfsK (go : TypeId -> Option (List Lf)) : Kd -> Option (List Lf)
 | .int k => some [.int k]
 | .bool => some [.bool]
 | .str => some [.str]
 | .slice e => match go e with
  | some (f :: E) => some [.sl (f :: E)]
  | _ => none
 | .struct fs => lfsS go 0 fs
 | .array m e => match go e with
  | some (f :: L) => some (List.replicate m (f :: L)).flatten
  | _ => none
 | .sc => none
 | .map _ _ _ => none
def lfs (T : TypeId -> Option Ty) : Nat -> TypeId -> Option (List Lf)
 | 0, _ => none
 | n + 1, t => match T t with
  | none => none
  | some y => match lfsK (lfs T n) y.kd with
   | some L => if L.length = y.size then some L else none
   | none => none
inductive Sh : Lf -> PV -> Prop
 | int (k : IntKind) (n : Int) (h : (Lit.int k n).wf = true) : Sh (.int k) (.v (.int k n))
 | bool (b : Bool) : Sh .bool (.v (.bool b))
 | str (s : ByteArray) (h : s.size <= maxLen) : Sh .str (.v (.string s))
 | sl (E : List Lf) (l : List (List PV)) (hc : ∀ (i : Nat) (el : List PV), l[i]? = some el -> el.length = E.length)
  (h : ∀ (i : Nat) (el : List PV) (j : Nat) (f : Lf) (p : PV), l[i]? = some el -> E[j]? = some f -> el[j]? = some p -> Sh f p) : Sh (.sl E) (.sl E.length l)
def ShL (E : List Lf) (ps : List PV) : Prop := ps.length = E.length /\ ∀ (j : Nat) (f : Lf) (p : PV), E[j]? = some f -> ps[j]? = some p -> Sh f p
theorem lfs_step {T : TypeId -> Option Ty} {m : Nat} {t : TypeId} {E : List Lf} (h : lfs T m t = some E) : ∃ n y, m = n + 1 /\ T t = some y /\ lfsK (lfs T n) y.kd = some E /\ E.length = y.size := by
 cases m with
 | zero => simp [lfs] at h
 | succ n =>
  unfold lfs at h
  split at h
  ·simp at h
  rename_i y hy
  split at h
  ·rename_i L hL
   split at h
   ·simp only [Option.some.injEq] at h; subst h; exact ⟨n, y, rfl, hy, hL, by assumption⟩
   ·simp at h
  ·simp at h
section
variable {P : Program} {T : TypeId -> Option Ty} (hT : TabOK P T)
include hT
theorem cellsOf_ty {t : TypeId} {y : Ty} (hy : T t = some y) : P.cellsOf t = y.size := by
 obtain ⟨i, z, hi, hs, -⟩ := (hT t y hy).info
 simp [Program.cellsOf, hi, hs]
theorem cellsOf_lfs [Glob] {m : Nat} {t : TypeId} {E : List Lf} (h : lfs T m t = some E) : P.cellsOf t = E.length := by
 obtain ⟨n, y, rfl, hy, -, hl⟩ := lfs_step h
 rw [cellsOf_ty hT hy, hl]
end
theorem pick_list {α : Type} {p : Nat -> α -> Prop} : ∀ (n : Nat), (∀ i, i < n -> ∃ a, p i a) -> ∃ l : List α, l.length = n /\ ∀ (i : Nat) (a : α), l[i]? = some a -> p i a
 | 0, _ => ⟨[], rfl, fun i a h => by simp at h⟩
 | n + 1, h => by
  obtain ⟨l, h1, h2⟩ := pick_list n (fun i hi => h i (by omega))
  obtain ⟨a, ha⟩ := h n (by omega)
  refine ⟨l ++ [a], by simp [h1], fun i b hi => ?_⟩
  by_cases hlt : i < n
  ·rw [List.getElem?_append_left (by omega)] at hi; exact h2 i b hi
  ·have : i = n := by
    have := (List.getElem?_eq_some_iff.1 hi).1
    simp at this; omega
   subst this
   rw [List.getElem?_append_right (by omega), h1] at hi
   simp at hi; subst hi; exact ha
def OpenC (w : World) (E : List Lf) (cs : List Value) : Prop :=
 ∃ ps : List PV, ShL E ps /\ ∀ (j : Nat) (p : PV), ps[j]? = some p -> p.one = true /\ ∃ u, cs[j]? = some u /\ RP w (fun _ => False) p u
theorem OpenC.one {w : World} {f : Lf} {p : PV} {u : Value} (h : Sh f p) (ho : p.one = true) (hr : RP w (fun _ => False) p u) : OpenC w [f] [u] :=
 ⟨[p], ⟨rfl, fun j f' p' h1 h2 => by
  cases j with
  | zero => simp at h1 h2; subst h1 h2; exact h
  | succ j => simp at h1⟩, fun j p' h1 => by
  cases j with
  | zero => simp at h1; subst h1; exact ⟨ho, u, rfl, hr⟩
  | succ j => simp at h1⟩
theorem ShL.append {E E' : List Lf} {ps qs : List PV} (h : ShL E ps) (h' : ShL E' qs) : ShL (E ++ E') (ps ++ qs) := by
 refine ⟨by simp [h.1, h'.1], fun j f p h1 h2 => ?_⟩
 by_cases hj : j < E.length
 ·rw [List.getElem?_append_left hj] at h1
  rw [List.getElem?_append_left (by rw [h.1]; exact hj)] at h2
  exact h.2 j f p h1 h2
 ·rw [List.getElem?_append_right (by omega)] at h1
  rw [List.getElem?_append_right (by rw [h.1]; omega), h.1] at h2
  exact h'.2 _ f p h1 h2
section
variable {H : Type} {enc : TypeId × Value -> H} {P : Program} {T : TypeId -> Option Ty} {w : World}
def ShT (T : TypeId -> Option Ty) (t : TypeId) (p : PV) : Prop :=
 ∃ y E, T t = some y /\ lfs T 20 t = some E /\ ((y.kd.isAgg = true /\ ∃ ps, p = .agg ps /\ ShL E ps) \/ (y.kd.isAgg = false /\ ShL E [p]))
def ShTs (T : TypeId -> Option Ty) : List TypeId -> List PV -> Prop
 | [], [] => True
 | t :: ts, p :: ps => ShT T t p /\ ShTs T ts ps
 | _, _ => False
def LfT (T : TypeId -> Option Ty) (t : TypeId) : Prop := ∃ m E, lfs T m t = some E
theorem lfsS_mem {go : TypeId -> Option (List Lf)} : ∀ {fs : List (Nat × TypeId)} {off : Nat} {E : List Lf}, lfsS go off fs = some E -> ∀ f ∈ fs, ∃ L, go f.2 = some L
 | [], _, _, _, f, hf => by simp at hf
 | (o, ft) :: r, off, E, h, f, hf => by
  simp only [lfsS] at h
  split at h
  ·split at h
   ·rename_i L hL
    split at h
    ·rename_i R hR
     rcases List.mem_cons.1 hf with rfl | hf
     ·exact ⟨L, hL⟩
     ·exact lfsS_mem hR f hf
    ·simp at h
   ·simp at h
  ·simp at h
theorem lfsS_sum {go : TypeId -> Option (List Lf)} (hgo : ∀ t L, go t = some L -> P.cellsOf t = L.length) : ∀ {fs : List (Nat × TypeId)} {off : Nat} {E : List Lf}, lfsS go off fs = some E →
 E.length = (fs.map fun f => P.cellsOf f.2).sum /\ ∀ (j : Nat) f, fs[j]? = some f -> f.1 = off + ((fs.take j).map fun f => P.cellsOf f.2).sum
 | [], off, E, h => by simp [lfsS] at h; subst h; simp
 | (o, ft) :: r, off, E, h => by
  simp only [lfsS] at h
  split at h
  ·rename_i ho
   subst ho
   split at h
   ·rename_i L hL
    split at h
    ·rename_i R hR
     simp only [Option.some.injEq] at h
     subst h
     obtain ⟨h1, h2⟩ := lfsS_sum hgo hR
     have h3 := hgo ft L hL
     refine ⟨by simp [h1, h3], fun j f hj => ?_⟩
     cases j with
     | zero => simp at hj; subst hj; simp
     | succ j =>
      simp only [List.getElem?_cons_succ] at hj
      have := h2 j f hj
      simp only [List.take_succ_cons, List.map_cons, List.sum_cons]
      omega
    ·simp at h
   ·simp at h
  ·simp at h
theorem kids_lfs [Glob] (hT : TabOK P T) : Kids P (LfT T) := by
 have key : ∀ {t : TypeId}, LfT T t -> ∃ m y E, T t = some y /\ lfsK (lfs T m) y.kd = some E /\ E.length = y.size := fun ⟨m, E, h⟩ => by
  obtain ⟨n, y, -, hy, hk, hl⟩ := lfs_step h
  exact ⟨n, y, E, hy, hk, hl⟩
 refine ⟨fun ht hu => ?_, fun {t e} ht hu => ?_, fun {t e n} ht hu => ?_, fun {t fs} ht hu => ?_, fun ht hu => ?_⟩
 all_goals
  obtain ⟨m, y, E, hy, hk, hl⟩ := key ht
  have kind := (hT _ y hy).kind
  cases hkd : y.kd <;> rw [hkd] at kind hk <;> simp only [lfsK] at hk kind <;> try (rw [hu] at kind; simp at kind)
 all_goals try (simp at hk; done)
 ·split at hk
  ·rename_i f0 L hL
   exact ⟨m, _, kind ▸ hL⟩
  ·simp at hk
 ·split at hk
  ·rename_i f0 L hL
   obtain ⟨rfl, rfl⟩ := kind
   refine ⟨⟨m, _, hL⟩, ?_⟩
   simp only [Option.some.injEq] at hk
   subst hk
   rw [cellsOf_ty hT hy, cellsOf_lfs hT hL, <- hl]
   simp
  ·simp at hk
 ·have hg2 := kind
  obtain ⟨h1, h2⟩ := lfsS_sum (P := P) (fun t L h => cellsOf_lfs hT h) hk
  refine ⟨fun f hf => ?_, ?_, fun j f hj => ?_⟩
  ·obtain ⟨L, hL⟩ := lfsS_mem hk (f.offset, f.type) (by rw [<- hg2]; exact List.mem_map.2 ⟨f, hf, rfl⟩)
   exact ⟨m, L, hL⟩
  ·rw [cellsOf_ty hT hy, <- hl, h1, <- hg2, List.map_map]; rfl
  ·have := h2 j (f.offset, f.type) (by rw [<- hg2, List.getElem?_map, hj]; rfl)
   rw [<- hg2, <- List.map_take, List.map_map, Nat.zero_add] at this
   exact this
theorem pos_lfs [Glob] (hT : TabOK P T) {t e : TypeId} (ht : LfT T t) (hu : P.underlying t = some (.slice e)) : 0 < P.cellsOf e := by
 obtain ⟨m, E, h⟩ := ht
 obtain ⟨n, y, -, hy, hk, hl⟩ := lfs_step h
 have kind := (hT _ y hy).kind
 cases hkd : y.kd <;> rw [hkd] at kind hk <;> simp only [lfsK] at hk kind <;> try (rw [hu] at kind; simp at kind)
 all_goals try (simp at hk; done)
 split at hk
 ·rename_i f0 L hL
  rw [kind, cellsOf_lfs hT hL]; simp
 ·simp at hk
theorem args_again [Glob] (hT : TabOK P T) {w' : World} {sp : Nat -> Bool} : ∀ {ts : List TypeId} {vs : List Value} {ds : List (DataW H)} {q : List MemPlace}, ts.all (fun t => (lfs T 20 t).isSome) = true →
 DataW.TrodAll enc P w 0 (fun _ => true) true ts vs ds q -> (∀ p ∈ q, w.sameAt w' p) -> (∀ p ∈ q, sp p.block = true) -> DataW.TrodAll enc P w' 0 sp true ts vs ds q
 | [], [], [], q, _, h, _, _ => h
 | t :: ts, v :: vs, d :: ds, q, hall, h, hs, hsp => by
  obtain ⟨p0, q0, ⟨n, h1⟩, h2, rfl⟩ := h
  simp only [List.all_cons, Bool.and_eq_true] at hall
  obtain ⟨E, hE⟩ := Option.isSome_iff_exists.1 hall.1
  refine ⟨p0, q0, ⟨n, ?_⟩, args_again hT hall.2 h2 (fun p hp => hs p (List.mem_append_right _ hp)) (fun p hp => hsp p (List.mem_append_right _ hp)), rfl⟩
  exact DataW.trod_stays (kids_lfs hT) (fun ht hu => pos_lfs hT ht hu) (fun h => by cases h) ⟨20, E, hE⟩ h1 (fun p hp => hs p (List.mem_append_left _ hp)) (fun p hp => hsp p (List.mem_append_left _ hp))
 | [], _ :: _, _, _, _, h, _, _ => h.elim
 | [], [], _ :: _, _, _, h, _, _ => h.elim
 | _ :: _, [], _, _, _, h, _, _ => h.elim
 | _ :: _, _ :: _, [], _, _, h, _, _ => h.elim
theorem Keeps.below {w w' : World} (h : Keeps (fun _ => False) w w') : Below w.heap.size w w' := ⟨h.os, h.tape, h.output, h.size, fun k hk => h.block k hk (fun h => h)⟩
theorem post_of_below {f : Func} {s : ChangeSpec} {apart fresh handsOn again : Bool} {W W' : World} {args : Array Value} {v : Value} {ds gs : List (DataW H)} {before pa pv : List MemPlace}
 (hW : DataW.Whole enc P f.params.toList s.vars apart W args.toList ds gs before)
 (hres : ∀ (b : Nat) (sp : Nat -> Bool) (hd : Bool), DataW.TrodAll enc P W' b sp hd f.resultTypes.toList (v.resultList f.resultTypes.size) (s.fn H (ds ++ gs)).results [])
 (hargs : ∀ sp : Nat -> Bool, (∀ p ∈ before, sp p.block = true) -> DataW.TrodAll enc P W' 0 sp true f.params.toList args.toList (s.fn H (ds ++ gs)).args pa)
 (hvars : ∀ sp : Nat -> Bool, (∀ p ∈ before, sp p.block = true) -> DataW.TrodVars enc P W' sp s.vars (s.fn H (ds ++ gs)).vars pv)
 (hps : before = pa ++ pv) (hb : Below W.heap.size W W')
 (hok : ∀ (j : Nat) (t : TypeId) (r : Value), f.resultTypes[j]? = some t -> (v.resultList f.resultTypes.size)[j]? = some r -> Value.okWide P W' .any 0 t r) :
 s.post enc P f apart fresh handsOn again W args v W' := by
 have hlt : ∀ p ∈ before, p.block < W.heap.size := fun p hp => hW.lt p hp
 have hold : ∀ p ∈ before, (fun b => decide (b < W.heap.size)) p.block = true := fun p hp => by simpa using hlt p hp
 refine ⟨ds, gs, before, [], pa, pv, hW, hres _ _ _, hargs _ hold, hvars _ hold, World.keptBut_mono (fun p hp => ⟨hp, ?_⟩) (hb.frame (· ∈ before)), fun _ => ?_⟩
 ·rw [hps, List.mem_append] at hp
  exact Or.inr hp
 ·obtain ⟨_, _, _, _, _, hz, hn⟩ := hW
  refine ⟨hok, _, _, ([] ++ pa) ++ pv, ⟨[] ++ pa, pv, trodAll_append (hargs _ (fun _ _ => rfl)) (hres _ _ _), hvars _ (fun _ _ => rfl), rfl, ?_, ?_⟩, ?_⟩
  ·intro b off hp
   have hin : MemPlace.cell b off ∈ before := by rw [hps]; simpa using hp
   rw [hb.frozen (hlt _ hin)]
   exact hz b off hin
  ·intro ha
   have := hn ha
   rw [hps] at this
   simpa using this
  ·intro p hp _
   rw [hps]
   simpa using hp
end
end Go.Av
namespace Go.Av
open Go
theorem ShL.cons {f : Lf} {E : List Lf} {ps : List PV} (h : ShL (f :: E) ps) : ∃ p qs, ps = p :: qs /\ Sh f p /\ ShL E qs := by
 obtain ⟨h1, h2⟩ := h
 match ps, h1 with
 | p :: qs, h1 => exact ⟨p, qs, rfl, h2 0 f p rfl rfl, by simpa using h1, fun j f' p' h3 h4 => h2 (j + 1) f' p' (by simpa using h3) (by simpa using h4)⟩
theorem ShL.nil {ps : List PV} (h : ShL [] ps) : ps = [] := List.length_eq_zero_iff.1 h.1
theorem Sh.intI {k : IntKind} {p : PV} (h : Sh (.int k) p) : ∃ n, p = .v (.int k n) /\ (Lit.int k n).wf = true := by cases h; exact ⟨_, rfl, by assumption⟩
theorem Sh.strI {p : PV} (h : Sh .str p) : ∃ s, p = .v (.string s) /\ s.size <= maxLen := by cases h; exact ⟨_, rfl, by assumption⟩
theorem Sh.slI {E : List Lf} {p : PV} (h : Sh (.sl E) p) {α : Type} {f : α -> List PV} (hf : ∀ ps, ShL E ps -> ∃ a, ps = f a) : ∃ l : List α, p = .sl E.length (l.map f) := by
 cases h with
 | sl _ l hc hs =>
  have : ∀ (n : Nat) (l : List (List PV)), l.length = n -> (∀ el ∈ l, ShL E el) -> ∃ l' : List α, l = l'.map f := by
   intro n
   induction n with
   | zero => intro l hl _; exact ⟨[], by simp [List.length_eq_zero_iff.1 hl]⟩
   | succ n ih =>
    intro l hl hall
    match l, hl with
    | el :: r, hl =>
     obtain ⟨a, ha⟩ := hf el (hall el (List.mem_cons_self ..))
     obtain ⟨r', hr⟩ := ih r (by simpa using hl) (fun e he => hall e (List.mem_cons_of_mem _ he))
     exact ⟨a :: r', by simp [ha, hr]⟩
  obtain ⟨l', rfl⟩ := this l.length l rfl (fun el hel => by
   obtain ⟨i, hi, hli⟩ := List.mem_iff_getElem.1 hel
   have hg : l[i]? = some el := by rw [List.getElem?_eq_getElem hi, hli]
   exact ⟨hc i el hg, fun j f p h1 h2 => hs i el j f p hg h1 h2⟩)
  exact ⟨l', rfl⟩
theorem ShT.agg {T : TypeId -> Option Ty} {t : TypeId} {p : PV} (h : ShT T t p) {y : Ty} (hy : T t = some y) {E : List Lf} (hE : lfs T 20 t = some E) (ha : y.kd.isAgg = true) : ∃ ps, p = .agg ps /\ ShL E ps := by
 obtain ⟨y', E', h1, h2, h3⟩ := h
 rw [hy] at h1; rw [hE] at h2
 simp only [Option.some.injEq] at h1 h2
 subst h1 h2
 rcases h3 with ⟨-, h3⟩ | ⟨h3, -⟩
 ·exact h3
 ·rw [ha] at h3; simp at h3
theorem ShT.one {T : TypeId -> Option Ty} {t : TypeId} {p : PV} (h : ShT T t p) {y : Ty} (hy : T t = some y) {f : Lf} (hE : lfs T 20 t = some [f]) (ha : y.kd.isAgg = false) : Sh f p := by
 obtain ⟨y', E', h1, h2, h3⟩ := h
 rw [hy] at h1; rw [hE] at h2
 simp only [Option.some.injEq] at h1 h2
 subst h1 h2
 rcases h3 with ⟨h3, -⟩ | ⟨-, h3⟩
 ·rw [ha] at h3; simp at h3
 ·exact h3.2 0 f p rfl rfl
end Go.Av
