/- Texts that the proof needs: AvRng. -/
import Derived.Test.YthiccfadhllajaaP10JudgePrimary
import Derived.RangeFuncLeaves
import Derived.RangeFuncMany
import Derived.OrdersIn
import Derived.TacticsIn
namespace Go.Av
set_option linter.unusedSimpArgs false
set_option linter.unusedVariables false
open Go
def calmO (o : Oper) : Bool := match o.op with
 | .defer _ => false
 | _ => true
def calmC : Code -> Bool
 | .skip | .exit _ | .ret => true
 | .region _ ops _ => ops.toList.all calmO
 | .seq a b => calmC a && calmC b
 | .cond _ a b => calmC a && calmC b
 | .block _ x => calmC x
 | _ => false
abbrev rF (l : Nat) : Fence := Fence.wide.inRound l
theorem rowsIn_round {l n : Nat} {P : Program} {row : String} {args : Array Value} {w : World} {R : Value -> World -> Prop} (h : Rows P row args w R) : RowsIn (rF l) n P row args w R := fun c cs _ => by
 obtain ⟨v, w', h1, h2⟩ := h c cs
 exact ⟨v, w', h1, stepsIn_wide.2 h2⟩
theorem callsIn_round {l n : Nat} {P : Program} {f : FuncId} {args : Array Value} {w : World} {R : Ending -> World -> Prop} (h : Calls P f args w R) : CallsIn (rF l) n P f args w R := (callsIn_wide (n := n).2 h : CallsIn Fence.wide n P f args w R)
theorem Oper.wpIn_of_wp {P : Program} {o : Oper} {a : Act} {w : World} {K : Act -> World -> Prop} {Q : Exit -> Act -> World -> Prop} (l n : Nat) (hd : calmO o = true) (h : o.wp P a w K Q) : o.wpIn (rF l) n P a w K Q := by
 refine ⟨fun _ _ => trivial, ?_⟩
 rw [Oper.semAt_eq _ _ _ (fun c hc => by simp [calmO, hc] at hd)]
 unfold Oper.wp at h
 generalize (execOp a.eval o).run P w = r at *
 cases r with
 | ok x w' =>
  cases x <;> simp only [Oper.upon, Oper.uponIn] at h ⊢ <;>
   first
    | exact h
    | exact ⟨fun hh => by simp [Fence.wide, Fence.inRound] at hh, (callsIn_round h).mono fun e w'' he => by cases e <;> exact he⟩
    | exact ⟨fun hh => by simp [Fence.wide, Fence.inRound] at hh, rowsIn_round h⟩
 | halt x w' => cases x <;> simp only [Oper.upon, Oper.uponIn] at h ⊢ <;> exact h
theorem wpList_round {P : Program} {ops : Array Oper} {Q : Exit -> Act -> World -> Prop} (l n : Nat) (hQ : ¬ LetsOut Q) : ∀ (L : List Oper) (a : Act) (w : World), L.all calmO = true -> wpList P ops Q L a w -> wpListIn (rF l) n P ops Q L a w
 | [], a, w, _, h => h
 | o :: L, a, w, hc, h => by
  simp only [List.all_cons, Bool.and_eq_true] at hc
  simp only [wpList] at h
  simp only [wpListIn]
  split
  ·rename_i hw
   rw [if_pos hw] at h
   rcases h with h | h
   ·exact Oper.wpIn_of_wp l n hc.1 (Oper.wp_mono (fun a w h => wpList_round l n hQ L a w hc.2 h) h)
   ·exact (hQ h.2).elim
  ·rename_i hw
   rw [if_neg hw] at h
   exact ⟨fun _ _ => trivial, wpList_round l n hQ L _ w hc.2 h⟩
theorem wpAny_round {P : Program} {ops : Array Oper} {Q : Exit -> Act -> World -> Prop} {md : Region.Mode} (l n : Nat) (hQ : ¬ LetsOut Q) (hc : ops.toList.all calmO = true) : ∀ (fuel : Nat) (listed : Array Bool) (a : Act) (w : World), wpAny P md ops Q fuel listed a w -> wpAnyIn (rF l) n P md ops Q fuel listed a w
 | 0, listed, a, w, h => h
 | fuel + 1, listed, a, w, h => by
  refine ⟨h.1, fun i hi => ?_⟩
  have h2 := h.2 i hi
  unfold wpOp at h2
  unfold wpOpIn
  cases ho : ops[i]? with
  | none => rw [ho] at h2; exact wpAny_round l n hQ hc fuel _ a w h2
  | some o =>
   rw [ho] at h2
   simp only at h2 ⊢
   have hco : calmO o = true := by
    refine List.all_eq_true.1 hc o ?_
    obtain ⟨hlt, rfl⟩ := Array.getElem?_eq_some_iff.1 ho
    simp
   split
   ·rename_i hw
    rw [if_pos hw] at h2
    rcases h2 with h2 | h2
    ·exact Oper.wpIn_of_wp l n hco (Oper.wp_mono (fun a w h => wpAny_round l n hQ hc fuel _ a w h) h2)
    ·exact (hQ h2.2).elim
   ·rename_i hw
    rw [if_neg hw] at h2
    exact ⟨fun _ _ => trivial, wpAny_round l n hQ hc fuel _ _ w h2⟩
def IterB (P : Program) (g : FuncId) (c : Nat) : Prop :=
 ∀ (l : List (List PV)) (lid : Nat) (q : Value) (J : Nat -> World -> Prop) (Jx : World -> Prop) (W0 : World),
  (∀ k W, J k W -> ∃ (G : Nat -> Prop) (bk off : Nat), q = .pointer (some ⟨bk, off, none⟩) /\ RE W G [.sl c l] bk off ∧
   (∀ (h : k < l.length) (x : Value), RP W G (.agg (l[l.length - 1 - k]'(by omega))) x -> YieldAt Fence.wide 1 P lid #[.int .i64 ((l.length - 1 - k : Nat) : Int), x] W fun e W' =>
    (e = .returned (.bool true) /\ J (k + 1) W') \/ (e = .returned (.bool false) /\ Jx W'))) →
  J 0 W0 -> CallsIn Fence.wide 2 P g #[.func (.yield lid) #[] #[], q] W0 fun e W' => (∃ v, e = .returned v) /\ (J l.length W' \/ Jx W')
theorem Hp.turnF [Glob] {w w' : World} {F : Nat -> Prop} {m : Nm} {β : Nat -> Option Blk} (h : Hp w F m β) (hk : ∀ k, ¬ F k -> w'.heap[k]? = w.heap[k]?) (hs : w.heap.size <= w'.heap.size) : Hp w' F m β := by
 have ht : Turn w w' (Gd F m β) (Gd F m β) := ⟨hs, fun k _ hg => hk k fun hf => hg (.inl hf), fun _ _ hg => hg⟩
 refine ⟨fun k hf => Nat.lt_of_lt_of_le (h.fold k hf) hs, fun b k ho => ⟨Nat.lt_of_lt_of_le (h.own b k ho).1 hs, (h.own b k ho).2⟩, h.uniq, fun b blk hb => (h.blks b blk hb).keep ht fun k hk' => hk k ?_, fun g e he => (h.glob g e he).move ht.size ht.block ht.less⟩
 have ho : owns m β b k := by unfold owns; rw [hb]; cases blk <;> exact hk'
 exact (h.own b k ho).2
structure LS [Glob] (W1 : World) (me : Nm) (be : Nat -> Option Blk) (F : Nat -> Prop) (D : Nat) (pins : List Nat) (s : Nat -> V) (ts : Array Value) (β : Nat -> Option Blk) (W : World) (m : Nm) : Prop where
 hp : Hp W (fun k => F k \/ k = D \/ k = D + 1) m β
 tm : ∀ t ∈ pins, RV W (Gd (fun k => F k \/ k = D \/ k = D + 1) m β) m (s t) (ts.getD t undef)
 own : ∀ b k, owns m β b k -> W1.heap.size <= k \/ ∃ b', owns me be b' k
 keeps : Keeps (fun k => (∃ b, owns me be b k) \/ k = D \/ k = D + 1) W1 W
 nam : ∀ n, 1024 <= n -> n < 2048 -> m.i n = me.i n
section
variable [Glob] {W1 : World} {me : Nm} {be : Nat -> Option Blk} {F : Nat -> Prop} {D : Nat} {pins : List Nat} {s : Nat -> V} {ts : Array Value} {β : Nat -> Option Blk} {W : World} {m : Nm}
theorem LS.put (h : LS W1 me be F D pins s ts β W m) (o : Obj) : LS W1 me be F D pins s ts β (W.putObj (D + 1) o) m := by
 have hk : ∀ k, ¬ (F k \/ k = D \/ k = D + 1) -> (W.putObj (D + 1) o).heap[k]? = W.heap[k]? := fun k hk => World.putObj_heap_other fun hh => hk (.inr (.inr hh))
 have hs : W.heap.size <= (W.putObj (D + 1) o).heap.size := by simp
 have ht : Turn W (W.putObj (D + 1) o) (Gd (fun k => F k \/ k = D \/ k = D + 1) m β) (Gd (fun k => F k \/ k = D \/ k = D + 1) m β) := ⟨hs, fun k _ hg => hk k fun hf => hg (.inl hf), fun _ _ hg => hg⟩
 exact ⟨h.hp.turnF hk hs, fun t htp => (h.tm t htp).keep ht, h.own, h.keeps.trans (Y := fun k => k = D + 1) ⟨rfl, rfl, rfl, hs, fun k _ hk' => World.putObj_heap_other hk'⟩ fun i hi _ => .inr (.inr hi), h.nam⟩
theorem LS.rel (h : LS W1 me be F D pins s ts β W m) {n M p1 p2 : Nat} {x1 x2 : Value} {v1 v2 : V} (hn : ts.size = n) (hn2 : n <= 1024) (h12 : p1 ≠ p2) (hp1 : p1 < n) (hp2 : p2 < n) (hM : ∀ t, M / 2 ^ t % 2 = 1 -> t ∈ pins) (h1 : p1 ∉ pins) (h2 : p2 ∉ pins)
 (hx1 : RV W (Gd (fun k => F k \/ k = D \/ k = D + 1) m β) m v1 x1) (hx2 : RV W (Gd (fun k => F k \/ k = D \/ k = D + 1) m β) m v2 x2) :
 Rel W ⟨m.i, fun t => ts.getD t undef⟩ (fun k => F k \/ k = D \/ k = D + 1) (fun k => ∃ b, owns m β b k) (n + 4096 * M) ⟨fun t => if t = p2 then v2 else if t = p1 then v1 else if t ∈ pins then s t else .junk, β⟩ { tmps := (ts.setIfInBounds p1 x1).setIfInBounds p2 x2, defers := [] } W m := by
 have hg : ∀ t, ((ts.setIfInBounds p1 x1).setIfInBounds p2 x2).getD t undef = if t = p2 then x2 else if t = p1 then x1 else ts.getD t undef := fun t => by
  simp only [Array.getD_eq_getD_getElem?, Array.getElem?_setIfInBounds, Array.size_setIfInBounds]
  by_cases e2 : t = p2
  ·subst e2; simp [hn, hp2]
  ·have e2' : ¬ p2 = t := fun hh => e2 hh.symm
   by_cases e1 : t = p1
   ·subst e1; simp [hn, hp1, e2, e2']
   ·have e1' : ¬ p1 = t := fun hh => e1 hh.symm
    simp [e1, e2, e1', e2']
 refine ⟨Keeps.refl _ _, h.hp.fold, fun b k ho => ⟨.inr ⟨b, ho⟩, h.hp.own b k ho⟩, h.hp.uniq, by simp; omega, fun t => ?_, h.hp.blks, .nil, fun _ _ _ => rfl, ⟨by omega, fun t ht => ?_⟩, h.hp.glob⟩
 ·rw [hg t]
  simp only
  by_cases e2 : t = p2
  ·rw [if_pos e2, if_pos e2]; exact hx2
  ·rw [if_neg e2, if_neg e2]
   by_cases e1 : t = p1
   ·rw [if_pos e1, if_pos e1]; exact hx1
   ·rw [if_neg e1, if_neg e1]
    by_cases hp : t ∈ pins
    ·rw [if_pos hp]; exact h.tm t hp
    ·rw [if_neg hp]; exact trivial
 ·rw [show (n + 4096 * M) / 4096 = M by omega] at ht
  have htp := hM t ht
  rw [hg t, if_neg fun hh => h2 (by rw [<- hh]; exact htp), if_neg fun hh => h1 (by rw [<- hh]; exact htp)]
end
section
variable [Glob] {w0 : World} {m0 : Nm} {F X : Nat -> Prop} {N : Nat} {st : St} {a : Act} {w : World} {m : Nm}
theorem Rel.rebase (h : Rel w0 m0 F X N st a w m) {w' : World} (hk : ∀ k, ¬ F k -> w'.heap[k]? = w.heap[k]?) (hs : w.heap.size = w'.heap.size) (hd : a.defers = []) :
 Rel w' m0 F (fun k => ∃ b, owns m st.b b k) N st a w' m := by
 have ht : Turn w w' (Gd F m st.b) (Gd F m st.b) := ⟨by omega, fun k _ hg => hk k fun hf => hg (.inl hf), fun _ _ hg => hg⟩
 have hp := h.hp.turnF hk (by omega)
 exact ⟨Keeps.refl _ _, hp.fold, fun b k ho => ⟨.inr ⟨b, ho⟩, hp.own b k ho⟩, hp.uniq, h.size, fun t => (h.tmps t).keep ht, hp.blks, by rw [hd]; exact .nil, h.nam, h.small, hp.glob⟩
theorem Rel.ls (h : Rel w0 m0 F X N st a w m) (pins : List Nat) {o1 o2 : Obj} :
 LS ((w.alloc o1).alloc o2) m st.b F w.heap.size pins st.s a.tmps st.b ((w.alloc o1).alloc o2) m := by
 have hsz : ((w.alloc o1).alloc o2).heap.size = w.heap.size + 2 := by show ((w.heap.push o1).push o2).size = _; simp
 have hk : ∀ k, k < w.heap.size -> ((w.alloc o1).alloc o2).heap[k]? = w.heap[k]? := fun k hk => by
  show ((w.heap.push o1).push o2)[k]? = _
  rw [Array.getElem?_push, if_neg (by simp; omega), Array.getElem?_push, if_neg (by omega)]
 have hl : ∀ k, k < w.heap.size -> Gd (fun k => F k \/ k = w.heap.size \/ k = w.heap.size + 1) m st.b k -> Gd F m st.b k := fun k hlt hg => by
  rcases hg with (hf | hd | hd) | ho
  ·exact .inl hf
  ·omega
  ·omega
  ·exact .inr ho
 have ht : Turn w ((w.alloc o1).alloc o2) (Gd F m st.b) (Gd (fun k => F k \/ k = w.heap.size \/ k = w.heap.size + 1) m st.b) := ⟨by omega, fun k hlt _ => hk k hlt, hl⟩
 have hown : ∀ b k, owns m st.b b k -> k < w.heap.size /\ ¬ F k := fun b k ho => (h.own b k ho).2
 refine ⟨⟨fun k hf => ?_, fun b k ho => ⟨by have := (hown b k ho).1; omega, fun hf => ?_⟩, h.uniq, fun b blk hb => (h.blks b blk hb).keep ht fun k hk' => ?_, fun g e he => (h.glob g e he).move ht.size ht.block ht.less⟩, fun t _ => (h.tmps t).keep ht, fun b k ho => .inr ⟨b, ho⟩, Keeps.refl _ _, fun _ _ _ => rfl⟩
 ·rcases hf with hf | hf | hf
  ·have := h.hp.fold k hf; omega
  ·omega
  ·omega
 ·have := hown b k ho
  rcases hf with hf | hf | hf
  ·exact this.2 hf
  ·omega
  ·omega
 ·have ho : owns m st.b b k := by unfold owns; rw [hb]; cases blk <;> exact hk'
  exact hk k (hown b k ho).1
theorem Rel.left (h : Rel w0 m0 F X N st a w m) (hN : N / 2048 % 2 = 1) {o1 o2 : Obj} {pins : List Nat} {β : Nat -> Option Blk} {W : World} {m' : Nm} (hl : LS ((w.alloc o1).alloc o2) m st.b F w.heap.size pins st.s a.tmps β W m')
 (hD : W.heap[w.heap.size]? = some (.deferred (some []))) :
 Rel w0 m0 F X N ⟨fun t => if t ∈ pins then st.s t else .junk, β⟩ { a with defers := { target := .collected w.heap.size, args := #[] } :: a.defers } W m' := by
 have hsz : ((w.alloc o1).alloc o2).heap.size = w.heap.size + 2 := by show ((w.heap.push o1).push o2).size = _; simp
 have hk1 : ∀ k, k < w.heap.size -> ((w.alloc o1).alloc o2).heap[k]? = w.heap[k]? := fun k hk => by
  show ((w.heap.push o1).push o2)[k]? = _
  rw [Array.getElem?_push, if_neg (by simp; omega), Array.getElem?_push, if_neg (by omega)]
 have hws := hl.keeps.size
 have hle : ∀ k, Gd F m' β k -> Gd (fun k => F k \/ k = w.heap.size \/ k = w.heap.size + 1) m' β k := fun k hg => hg.imp .inl id
 have ht : Turn W W (Gd (fun k => F k \/ k = w.heap.size \/ k = w.heap.size + 1) m' β) (Gd F m' β) := ⟨Nat.le_refl _, fun _ _ _ => rfl, fun k _ hg => hle k hg⟩
 have hw0 := h.keeps.size
 have hownF : ∀ b k, owns m' β b k -> ¬ F k := fun b k ho hf => (hl.hp.own b k ho).2 (.inl hf)
 refine ⟨?_, h.fold, fun b k ho => ⟨?_, (hl.hp.own b k ho).1, hownF b k ho⟩, hl.hp.uniq, h.size, fun t => ?_, fun b blk hb => (hl.hp.blks b blk hb).keep ht fun _ _ => rfl, ⟨fun h0 => by omega, List.nodup_cons.2 ⟨fun hd => ?_, h.defers.2.1⟩, fun d hd => ?_⟩, fun n h1 h2 => (hl.nam n h1 h2).trans (h.nam n h1 h2), h.small, fun g e he => (hl.hp.glob g e he).less hle⟩
 ·refine (h.keeps.trans (Y := fun _ => False) (c := (w.alloc o1).alloc o2) ⟨rfl, rfl, rfl, by omega, fun k hlt _ => hk1 k hlt⟩ fun i hi _ => hi.elim).trans hl.keeps fun i hi hlt => ?_
  rcases hi with ⟨b, ho⟩ | hi | hi
  ·rcases (h.own b i ho).1 with h1 | h1
   ·omega
   ·exact h1
  ·omega
  ·omega
 ·rcases hl.own b k ho with h1 | ⟨b', h1⟩
  ·exact .inl (by omega)
  ·exact (h.own b' k h1).1
 ·simp only
  by_cases hp : t ∈ pins
  ·rw [if_pos hp]; exact (hl.tm t hp).keep ht
  ·rw [if_neg hp]; exact trivial
 ·obtain ⟨D', e1, ⟨e2, -⟩, -⟩ := h.defers.2.2 _ hd
  simp only [Deferred.mk.injEq, Target.collected.injEq] at e1
  have := e1.1
  omega
 ·rcases List.mem_cons.1 hd with rfl | hd
  ·refine ⟨w.heap.size, rfl, ⟨by omega, ?_⟩, hD, hw0⟩
   rintro (hf | ⟨b, ho⟩)
   ·have := h.fold _ hf; omega
   ·exact (hl.hp.own b _ ho).2 (.inr (.inl rfl))
  ·obtain ⟨D', e1, ⟨e2, e3⟩, e4, e5⟩ := h.defers.2.2 d hd
   refine ⟨D', e1, ⟨by omega, ?_⟩, ?_, e5⟩
   ·rintro (hf | ⟨b, ho⟩)
    ·exact e3 (.inl hf)
    ·rcases hl.own b D' ho with h1 | ⟨b', h1⟩
     ·omega
     ·exact e3 (.inr ⟨b', h1⟩)
   ·rw [hl.keeps.block D' (by omega) ?_, hk1 D' e2]
    ·exact e4
    ·rintro (⟨b, ho⟩ | hh | hh)
     ·exact e3 (.inr ⟨b, ho⟩)
     ·omega
     ·omega
end
structure Oth (D : Nat) (w w' : World) : Prop where
 no : ∀ cs e o, w.heap[D]? ≠ some (.cells cs e o)
 nom : ∀ es c, w.heap[D]? ≠ some (.map es c)
 same : ∀ k, k ≠ D -> w'.heap[k]? = w.heap[k]?
 size : w.heap.size <= w'.heap.size
section
variable {w w' : World} {G : Nat -> Prop} {D : Nat}
theorem Oth.blk (ho : Oth D w w') {k : Nat} {cs : Array Value} {e : TypeId} {o : Nat × Nat} (h : w.heap[k]? = some (.cells cs e o)) : w'.heap[k]? = some (.cells cs e o) := by
 rw [ho.same k fun hk => ho.no cs e o (hk ▸ h)]; exact h
theorem Oth.cell (ho : Oth D w w') {a : Addr} {v : Value} (hv : w.cell? a = some v) : w'.cell? a = some v := by
 by_cases e : a.block = D
 ·exfalso
  unfold World.cell? at hv
  rw [e] at hv
  split at hv
  ·rename_i c e' o' hh; exact ho.no _ _ _ hh
  ·simp at hv
 ·rw [<- hv]; exact World.cell?_of_block (ho.same _ e)
theorem RP.other (ho : Oth D w w') {p : PV} {x : Value} (h : RP w G p x) : RP w' G p x := by
 induction h with
 | v x h => exact .v x h
 | nil c => exact .nil c
 | emp c a => exact .emp c a
 | sl c l k off cap u hlen hm hk' hcc hone hcell hr ih =>
  exact .sl c l k off cap u hlen hm (fun hl => ⟨Nat.lt_of_lt_of_le (hk' hl).1 ho.size, (hk' hl).2⟩) hcc hone (fun i e j p hi hj => ho.cell (hcell i e j p hi hj)) ih
 | agg l cs u hs' hone hcell hr ih => exact .agg l cs u hs' hone hcell ih
theorem RE.other (ho : Oth D w w') {e : List PV} {k off : Nat} (h : RE w G e k off) : RE w' G e k off :=
 ⟨fun he => ⟨Nat.lt_of_lt_of_le (h.1 he).1 ho.size, (h.1 he).2⟩, fun j p hj => by
  obtain ⟨h1, u, h2, h3⟩ := h.2 j p hj
  exact ⟨h1, u, ho.cell h2, h3.other ho⟩⟩
theorem GE.other (ho : Oth D w w') {e : List PV} {g : Nat} (h : GE w G e g) : GE w' G e g := by
 obtain ⟨⟨h1, h2⟩, ⟨cs, t, fr, h3, h4⟩, h5⟩ := h
 exact ⟨⟨Nat.lt_of_lt_of_le h1 ho.size, h2⟩, ⟨cs, t, fr, ho.blk h3, h4⟩, h5.other ho⟩
theorem RV0.other (ho : Oth D w w') {m : Nm} {v : V} {x : Value} (h : RV0 w G m v x) : RV0 w' G m v x := by
 cases v with
 | p p => exact RP.other ho h
 | full c l => exact ⟨RP.other ho h.1, h.2⟩
 | rptr e j => obtain ⟨k, off, h1, h2⟩ := h; exact ⟨k, off, h1, h2.other ho⟩
 | clo f caps =>
  obtain ⟨cs, h1, h2, h3⟩ := h
  refine ⟨cs, h1, h2, fun i c hi => ?_⟩
  obtain ⟨y, h4, h5⟩ := h3 i c hi
  refine ⟨y, h4, ?_⟩
  cases c with
  | box b => exact h5
  | val x => exact RP.other ho h5
  | rp e j => obtain ⟨k, off, h6, h7⟩ := h5; exact ⟨k, off, h6, h7.other ho⟩
 | ag l =>
  obtain ⟨cs, h1, h2, h3⟩ := h
  refine ⟨cs, h1, h2, fun i c hi => ?_⟩
  obtain ⟨y, h4, h5, h6⟩ := h3 i c hi
  refine ⟨y, h4, h5, ?_⟩
  cases c with
  | p x => exact RP.other ho h6
  | row b => exact h6
  | nil c => exact h6
 | _ => exact h
theorem RV.other (ho : Oth D w w') {m : Nm} {v : V} {x : Value} (h : RV w G m v x) : RV w' G m v x := by
 cases v with
 | tup l =>
  obtain ⟨xs, h1, h2, h3⟩ := h
  refine ⟨xs, h1, h2, fun i v hi => ?_⟩
  obtain ⟨y, h4, h5⟩ := h3 i v hi
  exact ⟨y, h4, h5.other ho⟩
 | p p => exact RV.of0 (RV0.other ho (v := .p _) h)
 | nil c => exact RV.of0 (RV0.other ho (v := .nil _) h)
 | full c l => exact RV.of0 (RV0.other ho (v := .full _ _) h)
 | ptr b off => exact RV.of0 (RV0.other ho (v := .ptr _ _) h)
 | eptr b c i j => exact RV.of0 (RV0.other ho (v := .eptr _ _ _ _) h)
 | rptr e j => exact RV.of0 (RV0.other ho (v := .rptr _ _) h)
 | row b => exact RV.of0 (RV0.other ho (v := .row _) h)
 | clo f c => exact RV.of0 (RV0.other ho (v := .clo _ _) h)
 | ag l => exact RV.of0 (RV0.other ho (v := .ag _) h)
 | suf b c i => exact RV.of0 (RV0.other ho (v := .suf _ _ _) h)
 | junk => trivial
theorem RB.other (ho : Oth D w w') {m : Nm} {b : Nat} {blk : Blk} (h : RB w G m b blk) : RB w' G m b blk := by
 cases blk with
 | box e cells =>
  obtain ⟨cs, h1, h2, h3⟩ := h
  refine ⟨cs, ho.blk h1, h2, fun j v hj => ?_⟩
  obtain ⟨x, h4, h5, h6⟩ := h3 j v hj
  exact ⟨x, h4, h5, h6.other ho⟩
 | row e c l =>
  rcases h with ⟨h0, ha, hl⟩ | ⟨k, cap, cur, hr, hc0, hlc, hcm, hh, hs, hl⟩
  ·exact .inl ⟨h0.other ho, ha, hl⟩
  ·refine .inr ⟨k, cap, cur, hr, hc0, hlc, hcm, ho.blk hh, hs, fun i el hi => ⟨(hl i el hi).1, fun j p hj => ?_⟩⟩
   obtain ⟨h1, u, h2, h3⟩ := (hl i el hi).2 j p hj
   exact ⟨h1, u, h2, h3.other ho⟩
 | mp ks l =>
  obtain ⟨k, es, clock, hr, hh, hl⟩ := h
  exact ⟨k, es, clock, hr, by rw [ho.same k fun hk => ho.nom es clock (hk ▸ hh)]; exact hh, hl.mono fun _ _ h => h.other ho⟩
end
theorem Rel.taken [Glob] {P : Program} {w0 : World} {m0 : Nm} {F X : Nat -> Prop} {N : Nat} {st : St} {a : Act} {w : World} {m : Nm} (h : Rel w0 m0 F X N st a w m) {d : Deferred} {ds : List Deferred} (hd : a.defers = d :: ds) :
 ∃ r w', d.target = .collected r /\ (Instr.takeDeferred r).run P w = .ok [] w' /\ Rel w0 m0 F X N st { a with defers := ds } w' m := by
 have hdf := h.defers
 rw [hd] at hdf
 obtain ⟨D, rfl, ⟨h1, h2⟩, h3, h4⟩ := hdf.2.2 d (by simp)
 have hnd := List.nodup_cons.1 hdf.2.1
 have ho : Oth D w (w.putObj D (.deferred none)) := ⟨fun cs e o hh => by rw [h3] at hh; simp at hh, fun es c hh => by rw [h3] at hh; simp at hh, fun k hk => World.putObj_heap_other hk, by simp⟩
 refine ⟨D, _, rfl, run_takeDeferred h3, h.keeps.trans (Y := fun k => k = D) ⟨rfl, rfl, rfl, ho.size, fun k _ hk => ho.same k hk⟩ fun i hi hlt => by omega, h.fold, fun b k hb => ?_, h.uniq, h.size, fun t => (h.tmps t).other ho, fun b blk hb => (h.blks b blk hb).other ho, ⟨fun h0 => by have := hdf.1 h0; simp at this, hnd.2, fun d' hd' => ?_⟩, h.nam, h.small, fun g e he => (h.glob g e he).other ho⟩
 ·have h5 := h.own b k hb
  exact ⟨h5.1, Nat.lt_of_lt_of_le h5.2.1 ho.size, h5.2.2⟩
 ·obtain ⟨D', e1, ⟨e2, e3⟩, e4, e5⟩ := hdf.2.2 d' (List.mem_cons_of_mem _ hd')
  refine ⟨D', e1, ⟨Nat.lt_of_lt_of_le e2 ho.size, e3⟩, ?_, e5⟩
  rw [ho.same D' fun hh => hnd.1 (by subst hh; rw [<- e1]; exact hd')]
  exact e4
end Go.Av
