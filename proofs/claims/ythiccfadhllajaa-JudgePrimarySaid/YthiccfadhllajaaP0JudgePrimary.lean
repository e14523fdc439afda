/- Texts that the proof needs: AvBase. -/
import Derived.Calls
import Derived.Orders
import Derived.Still
import Derived.StillTail
import Derived.Tactics
import Derived.Tactics2
import Derived.Laws.AppendOwn
import Derived.Laws.OwnMore
import Derived.Laws.MakeOwn
import Derived.Laws.Pointers
import Derived.Laws.Entries
import Derived.WalkMore
import Derived.WalkKit
import Derived.Below
import Derived.KernelRfl
namespace Go.Av
set_option linter.unusedSimpArgs false
set_option linter.unusedVariables false
open Go
def scal : Value -> Bool
 | .bool _ | .int _ _ | .string _ | .nilFunc | .nilIface | .iface _ (.int _ _) | .pointer none | .map none | .slice _ _ _ => true
 | .func _ f c => f.size == 0 && c.size == 0
 | _ => false
inductive PV where
 | v (x : Value)
 | sl (c : Nat) (l : List (List PV))
 | agg (l : List PV)
class Glob where
 g : Nat -> Option (List PV)
def PV.one : PV -> Bool
 | .agg _ => false
 | _ => true
inductive RP (w : World) (G : Nat -> Prop) : PV -> Value -> Prop
 | v (x : Value) (h : scal x = true) : RP w G (.v x) x
 | nil (c : Nat) : RP w G (.sl c []) (.slice none 0 0)
 | emp (c : Nat) (a : Addr) : RP w G (.sl c []) (.slice (some a) 0 0)
 | sl (c : Nat) (l : List (List PV)) (k off cap : Nat) (u : Nat -> Nat -> Value) (hlen : l.length <= cap) (hm : cap <= maxLen)
  (hk : l ≠ [] -> k < w.heap.size /\ ¬ G k) (hc : ∀ (i : Nat) (e : List PV), l[i]? = some e -> e.length = c)
  (hone : ∀ (i : Nat) (e : List PV) (j : Nat) (p : PV), l[i]? = some e -> e[j]? = some p -> p.one = true)
  (hcell : ∀ (i : Nat) (e : List PV) (j : Nat) (p : PV), l[i]? = some e -> e[j]? = some p -> w.cell? ⟨k, off + (i * c + j), none⟩ = some (u i j))
  (hr : ∀ (i : Nat) (e : List PV) (j : Nat) (p : PV), l[i]? = some e -> e[j]? = some p -> RP w G p (u i j)) : RP w G (.sl c l) (.slice (some ⟨k, off, none⟩) l.length cap)
 | agg (l : List PV) (cs : Array Value) (u : Nat -> Value) (hs : cs.size = l.length) (hone : ∀ (j : Nat) (p : PV), l[j]? = some p -> p.one = true)
  (hcell : ∀ (j : Nat) (p : PV), l[j]? = some p -> cs[j]? = some (u j)) (hr : ∀ (j : Nat) (p : PV), l[j]? = some p -> RP w G p (u j)) : RP w G (.agg l) (.agg cs)
theorem RP.oneCell {w : World} {G : Nat -> Prop} {p : PV} {x : Value} (h : RP w G p x) (hp : p.one = true) : x.oneCell' = true := by
 cases h with
 | v x h => cases x <;> simp_all [scal, Value.oneCell']
 | nil => rfl
 | emp => rfl
 | sl => rfl
 | agg => simp [PV.one] at hp
theorem RP.move {w w' : World} {G G' : Nat -> Prop} (hsz : w.heap.size <= w'.heap.size) (hb : ∀ k, k < w.heap.size -> ¬ G k -> w'.heap[k]? = w.heap[k]?)
 (hG : ∀ k, k < w.heap.size -> G' k -> G k) {p : PV} {x : Value} (h : RP w G p x) : RP w' G' p x := by
 induction h with
 | v x h => exact .v x h
 | nil c => exact .nil c
 | emp c a => exact .emp c a
 | sl c l k off cap u hlen hm hk hc hone hcell hr ih =>
  refine .sl c l k off cap u hlen hm (fun hl => ?_) hc hone (fun i e j p hi hj => ?_) ih
  ·exact ⟨Nat.lt_of_lt_of_le (hk hl).1 hsz, fun hg => (hk hl).2 (hG k (hk hl).1 hg)⟩
  ·have hl : l ≠ [] := by intro h0; subst h0; simp at hi
   rw [<- hcell i e j p hi hj]
   exact World.cell?_of_block (hb k (hk hl).1 (hk hl).2)
 | agg l cs u hs hone hcell hr ih => exact .agg l cs u hs hone hcell ih
theorem RP.emp' {w : World} {G : Nat -> Prop} (c : Nat) (b : Option Addr) : RP w G (.sl c []) (.slice b 0 0) := by
 cases b with
 | none => exact .nil c
 | some a => exact .emp c a
def RE (w : World) (G : Nat -> Prop) (e : List PV) (k off : Nat) : Prop :=
 (e ≠ [] -> k < w.heap.size /\ ¬ G k) /\ ∀ (j : Nat) (p : PV), e[j]? = some p -> p.one = true /\ ∃ u, w.cell? ⟨k, off + j, none⟩ = some u /\ RP w G p u
theorem RE.move {w w' : World} {G G' : Nat -> Prop} (hsz : w.heap.size <= w'.heap.size) (hb : ∀ k, k < w.heap.size -> ¬ G k -> w'.heap[k]? = w.heap[k]?)
 (hG : ∀ k, k < w.heap.size -> G' k -> G k) {e : List PV} {k off : Nat} (h : RE w G e k off) : RE w' G' e k off := by
 refine ⟨fun he => ⟨Nat.lt_of_lt_of_le (h.1 he).1 hsz, fun hg => (h.1 he).2 (hG k (h.1 he).1 hg)⟩, fun j p hj => ?_⟩
 obtain ⟨ho, u, hc, hr⟩ := h.2 j p hj
 have he : e ≠ [] := by intro h0; subst h0; simp at hj
 exact ⟨ho, u, by rw [<- hc]; exact World.cell?_of_block (hb k (h.1 he).1 (h.1 he).2), hr.move hsz hb hG⟩
def GE (w : World) (G : Nat -> Prop) (e : List PV) (g : Nat) : Prop :=
 (g < w.heap.size /\ ¬ G g) /\ (∃ cs t fr, w.heap[g]? = some (.cells cs t fr) /\ cs.size = e.length) /\ RE w G e g 0
theorem GE.move {w w' : World} {G G' : Nat -> Prop} (hsz : w.heap.size <= w'.heap.size) (hb : ∀ k, k < w.heap.size -> ¬ G k -> w'.heap[k]? = w.heap[k]?)
 (hG : ∀ k, k < w.heap.size -> G' k -> G k) {e : List PV} {g : Nat} (h : GE w G e g) : GE w' G' e g := by
 obtain ⟨⟨h1, h2⟩, ⟨cs, t, fr, h3, h4⟩, h5⟩ := h
 exact ⟨⟨Nat.lt_of_lt_of_le h1 hsz, fun hg => h2 (hG g h1 hg)⟩, ⟨cs, t, fr, by rw [hb g h1 h2]; exact h3, h4⟩, h5.move hsz hb hG⟩
inductive Cap where
 | box (b : Nat)
 | val (x : PV)
 | rp (e : List PV) (j : Nat)
inductive Fc where
 | p (x : PV)
 | row (b : Nat)
 | nil (c : Nat)
structure Fk where
 f : FuncId
 mv : Bool
instance (n : Nat) : OfNat Fk n := ⟨⟨n, false⟩⟩
def fnv (k : Fk) (cs : List Value) : Value := match k.mv with
 | true => .func (.func k.f) cs.toArray #[]
 | false => .func (.func k.f) #[] cs.toArray
inductive V where
 | p (x : PV)
 | nil (c : Nat)
 | full (c : Nat) (l : List (List PV))
 | ptr (b off : Nat)
 | eptr (b c i j : Nat)
 | rptr (e : List PV) (j : Nat)
 | row (b : Nat)
 | clo (f : Fk) (caps : List Cap)
 | ag (l : List Fc)
 | suf (b c i : Nat)
 | tup (l : List V)
 | junk
inductive KS where
 | i (k : IntKind)
 | s (ks : List IntKind)
def fitK : List IntKind -> List PV -> Bool
 | [], [] => true
 | k :: ks, .v (.int k' _) :: l => k == k' && fitK ks l
 | _, _ => false
def kfit : KS -> PV -> Bool
 | .i k, .v (.int k' _) => k == k'
 | .s ks, .agg l => fitK ks l
 | _, _ => false
def pvv : PV -> Value
 | .v x => x
 | _ => .tuple #[]
def kval : PV -> Value
 | .v x => x
 | .agg l => .agg (l.map pvv).toArray
 | _ => .tuple #[]
def EntR (R : PV -> Value -> Prop) (ks : KS) : List MapEntry -> List (PV × PV) -> Prop
 | [], [] => True
 | e :: es, q :: l => (kfit ks q.1 = true /\ e.key = kval q.1 /\ R q.2 e.val) /\ EntR R ks es l
 | _, _ => False
theorem EntR.mono {R R' : PV -> Value -> Prop} {ks : KS} (hR : ∀ p x, R p x -> R' p x) : ∀ {es : List MapEntry} {l : List (PV × PV)}, EntR R ks es l -> EntR R' ks es l
 | [], [], _ => trivial
 | e :: es, q :: l, h => ⟨⟨h.1.1, h.1.2.1, hR _ _ h.1.2.2⟩, EntR.mono hR h.2⟩
 | [], _ :: _, h => h.elim
 | _ :: _, [], h => h.elim
inductive Blk where
 | box (e : TypeId) (cells : List V)
 | row (e : TypeId) (c : Nat) (l : List (List PV))
 | mp (ks : KS) (l : List (PV × PV))
structure St where
 s : Nat -> V
 b : Nat -> Option Blk
structure Nm where
 i : Nat -> Nat
 r : Nat -> Value
def ownB : Value -> Option Nat
 | .slice (some a) _ cap => if cap = 0 then none else some a.block
 | .map k => k
 | _ => none
def RC (w : World) (G : Nat -> Prop) (m : Nm) : Cap -> Value -> Prop
 | .box b, x => x = .pointer (some ⟨m.i b, 0, none⟩)
 | .val p, x => RP w G p x
 | .rp e j, x => ∃ k off, x = .pointer (some ⟨k, off + j, none⟩) /\ RE w G e k off
def RF (w : World) (G : Nat -> Prop) (m : Nm) : Fc -> Value -> Prop
 | .p p, x => RP w G p x
 | .row b, x => x = m.r b
 | .nil _, x => x = .slice none 0 0
def RV0 (w : World) (G : Nat -> Prop) (m : Nm) : V -> Value -> Prop
 | .p p, x => RP w G p x
 | .nil _, x => x = .slice none 0 0
 | .full c l, x => RP w G (.sl c l) x /\ ∃ a, x = .slice a l.length l.length
 | .ptr b off, x => x = .pointer (some ⟨m.i b, off, none⟩)
 | .eptr b c i j, x => ∃ k, ownB (m.r b) = some k /\ x = .pointer (some ⟨k, i * c + j, none⟩)
 | .rptr e j, x => ∃ k off, x = .pointer (some ⟨k, off + j, none⟩) /\ RE w G e k off
 | .row b, x => x = m.r b
 | .clo f caps, x => ∃ cs : List Value, x = fnv f cs /\ cs.length = caps.length /\ ∀ (i : Nat) (c : Cap), caps[i]? = some c -> ∃ y, cs[i]? = some y /\ RC w G m c y
 | .ag l, x => ∃ cs : Array Value, x = .agg cs /\ cs.size = l.length /\ ∀ (i : Nat) (c : Fc), l[i]? = some c -> ∃ y, cs[i]? = some y /\ y.oneCell' = true /\ RF w G m c y
 | .suf b c i, x => ∃ a0 a1 len cap, m.r b = .slice a0 len cap /\ i <= len /\ x = .slice a1 (len - i) (cap - i) /\ (i < len -> ∃ k, a0 = some ⟨k, 0, none⟩ /\ a1 = some ⟨k, i * c, none⟩)
 | .tup _, _ => False
 | .junk, _ => True
def RV (w : World) (G : Nat -> Prop) (m : Nm) : V -> Value -> Prop
 | .tup l, x => ∃ xs : Array Value, x = .tuple xs /\ xs.size = l.length /\ ∀ (i : Nat) (v : V), l[i]? = some v -> ∃ y, xs[i]? = some y /\ RV0 w G m v y
 | v, x => RV0 w G m v x
theorem RV.of0 {w : World} {G : Nat -> Prop} {m : Nm} {v : V} {x : Value} (h : RV0 w G m v x) : RV w G m v x := by
 cases v <;> first | exact h | exact h.elim
def owns (m : Nm) (β : Nat -> Option Blk) (b k : Nat) : Prop :=
 match β b with
 | some (.box _ _) => m.i b = k
 | some (.row _ _ _) => ownB (m.r b) = some k
 | some (.mp _ _) => ownB (m.r b) = some k
 | none => False
def RB (w : World) (G : Nat -> Prop) (m : Nm) (b : Nat) : Blk -> Prop
 | .box e cells => ∃ cs : Array Value, w.heap[m.i b]? = some (.cells cs e (0, 0)) /\ cs.size = cells.length ∧
  ∀ (j : Nat) (v : V), cells[j]? = some v -> ∃ x, cs[j]? = some x /\ x.oneCell' = true /\ RV0 w G m v x
 | .row e c l => (RP w G (.sl c []) (m.r b) /\ (∃ a, m.r b = .slice a 0 0) /\ l = []) ∨
  ∃ k cap cur, m.r b = .slice (some ⟨k, 0, none⟩) l.length cap /\ 0 < cap /\ l.length <= cap /\ cap <= maxLen /\ w.heap[k]? = some (.cells cur e (0, 0)) /\ cur.size = cap * c ∧
   ∀ (i : Nat) (el : List PV), l[i]? = some el -> el.length = c /\ ∀ (j : Nat) (p : PV), el[j]? = some p -> p.one = true /\ ∃ u, cur[i * c + j]? = some u /\ RP w G p u
 | .mp ks l => ∃ k es clock, m.r b = .map (some k) /\ w.heap[k]? = some (.map es clock) /\ EntR (RP w G) ks es.toList l
structure Keeps (X : Nat -> Prop) (w w' : World) : Prop where
 os : w'.os = w.os
 tape : w'.tape = w.tape
 output : w'.output = w.output
 size : w.heap.size <= w'.heap.size
 block : ∀ k, k < w.heap.size -> ¬ X k -> w'.heap[k]? = w.heap[k]?
theorem Keeps.refl (X : Nat -> Prop) (w : World) : Keeps X w w := ⟨rfl, rfl, rfl, Nat.le_refl _, fun _ _ _ => rfl⟩
theorem Keeps.trans {X Y : Nat -> Prop} {a b c : World} (h : Keeps X a b) (k : Keeps Y b c) (hY : ∀ i, Y i -> i < a.heap.size -> X i) : Keeps X a c :=
 ⟨k.os.trans h.os, k.tape.trans h.tape, k.output.trans h.output, Nat.le_trans h.size k.size,
  fun i hi hx => (k.block i (Nat.lt_of_lt_of_le hi h.size) (fun hy => hx (hY i hy hi))).trans (h.block i hi hx)⟩
def Gd (F : Nat -> Prop) (m : Nm) (β : Nat -> Option Blk) (k : Nat) : Prop := F k \/ ∃ b, owns m β b k
def DfE (z : Nat) (w : World) (G : Nat -> Prop) (d : Deferred) : Prop := ∃ D : Nat, d = { target := .collected D, args := #[] } /\ (D < w.heap.size /\ ¬ G D) /\ w.heap[D]? = some (.deferred (some [])) /\ z <= D
def DfOK (N z : Nat) (w : World) (G : Nat -> Prop) (ds : List Deferred) : Prop := (N / 2048 % 2 = 0 -> ds = []) /\ ds.Nodup /\ ∀ d ∈ ds, DfE z w G d
theorem DfOK.move {N z : Nat} {w w' : World} {G G' : Nat -> Prop} {ds : List Deferred} (h : DfOK N z w G ds) (hsz : w.heap.size <= w'.heap.size) (hb : ∀ k, k < w.heap.size -> ¬ G k -> w'.heap[k]? = w.heap[k]?)
 (hG : ∀ k, k < w.heap.size -> G' k -> G k) : DfOK N z w' G' ds := by
 refine ⟨h.1, h.2.1, fun d hd => ?_⟩
 obtain ⟨D, h1, ⟨h2, h3⟩, h4, h5⟩ := h.2.2 d hd
 exact ⟨D, h1, ⟨Nat.lt_of_lt_of_le h2 hsz, fun hg => h3 (hG D h2 hg)⟩, by rw [hb D h2 h3]; exact h4, h5⟩
theorem DfOK.nil {N z : Nat} {w : World} {G : Nat -> Prop} : DfOK N z w G [] := ⟨fun _ => rfl, List.nodup_nil, fun d hd => by simp at hd⟩
def dOK (N d : Nat) : Prop := d < N % 2048 /\ N / 4096 / 2 ^ d % 2 = 0
instance (N d : Nat) : Decidable (dOK N d) := by unfold dOK; infer_instance
def Pins (N : Nat) (r : Nat -> Value) (a : Act) : Prop := ∀ t, N / 4096 / 2 ^ t % 2 = 1 -> a.tmps.getD t undef = r t
structure Rel [Glob] (w0 : World) (m0 : Nm) (F X : Nat -> Prop) (N : Nat) (st : St) (a : Act) (w : World) (m : Nm) : Prop where
 keeps : Keeps X w0 w
 fold : ∀ k, F k -> k < w0.heap.size
 own : ∀ b k, owns m st.b b k -> (w0.heap.size <= k \/ X k) /\ k < w.heap.size /\ ¬ F k
 uniq : ∀ b b' k, owns m st.b b k -> owns m st.b b' k -> b = b'
 size : a.tmps.size = N % 2048
 tmps : ∀ t, RV w (Gd F m st.b) m (st.s t) (a.tmps.getD t undef)
 blks : ∀ b blk, st.b b = some blk -> RB w (Gd F m st.b) m b blk
 defers : DfOK N w0.heap.size w (Gd F m st.b) a.defers
 nam : ∀ n, 1024 <= n -> n < 2048 -> m.i n = m0.i n
 small : N % 2048 <= 1024 /\ Pins N m0.r a
 glob : ∀ g e, Glob.g g = some e -> GE w (Gd F m st.b) e g
def Cap.isB (b : Nat) : Cap -> Bool
 | .box b' => b' == b
 | .val _ => false
 | .rp _ _ => false
def Fc.isR (b : Nat) : Fc -> Bool
 | .row b' => b' == b
 | .p _ => false
 | .nil _ => false
def scr0 (b : Nat) : V -> V
 | .ptr b' o => if b' = b then .junk else .ptr b' o
 | .eptr b' c i j => if b' = b then .junk else .eptr b' c i j
 | .row b' => if b' = b then .junk else .row b'
 | .clo f caps => if caps.any (·.isB b) then .junk else .clo f caps
 | .ag l => if l.any (·.isR b) then .junk else .ag l
 | .suf b' c i => if b' = b then .junk else .suf b' c i
 | v => v
def scr (b : Nat) : V -> V
 | .tup l => .tup (l.map (scr0 b))
 | v => scr0 b v
def scrB (b : Nat) : Blk -> Blk
 | .box e cells => .box e (cells.map (scr0 b))
 | .row e c l => .row e c l
 | .mp ks l => .mp ks l
structure Turn (w w' : World) (G G' : Nat -> Prop) : Prop where
 size : w.heap.size <= w'.heap.size
 block : ∀ k, k < w.heap.size -> ¬ G k -> w'.heap[k]? = w.heap[k]?
 less : ∀ k, k < w.heap.size -> G' k -> G k
theorem RV0.turn {w w' : World} {G G' : Nat -> Prop} {m m' : Nm} (ht : Turn w w' G G') {v : V} {x : Value} (h : RV0 w G m v x) (b0 : Nat)
 (hm : ∀ b, b ≠ b0 -> m'.i b = m.i b /\ m'.r b = m.r b) : RV0 w' G' m' (scr0 b0 v) x := by
 cases v with
 | p p => exact RP.move ht.size ht.block ht.less h
 | nil c => exact h
 | full c l => exact ⟨RP.move ht.size ht.block ht.less h.1, h.2⟩
 | ptr b off =>
  by_cases hb : b = b0
  ·simp [scr0, hb, RV0]
  ·simp only [scr0, if_neg hb, RV0] at h ⊢; rw [(hm b hb).1]; exact h
 | eptr b c i j =>
  by_cases hb : b = b0
  ·simp [scr0, hb, RV0]
  ·simp only [scr0, if_neg hb, RV0] at h ⊢; rw [(hm b hb).2]; exact h
 | row b =>
  by_cases hb : b = b0
  ·simp [scr0, hb, RV0]
  ·simp only [scr0, if_neg hb, RV0] at h ⊢; rw [(hm b hb).2]; exact h
 | rptr e j =>
  obtain ⟨k, off, hx, hr⟩ := h
  exact ⟨k, off, hx, hr.move ht.size ht.block ht.less⟩
 | clo f caps =>
  by_cases hb : caps.any (·.isB b0) = true
  ·simp [scr0, hb, RV0]
  ·simp only [scr0, if_neg hb]
   obtain ⟨cs, hx, hl, hc⟩ := h
   refine ⟨cs, hx, hl, fun i c hi => ?_⟩
   obtain ⟨y, h1, h2⟩ := hc i c hi
   refine ⟨y, h1, ?_⟩
   cases c with
   | box b =>
    have hne : b ≠ b0 := fun he => hb (List.any_eq_true.2 ⟨_, List.mem_of_getElem? hi, by simp [Cap.isB, he]⟩)
    simp only [RC] at h2 ⊢; rw [(hm b hne).1]; exact h2
   | val p => exact RP.move ht.size ht.block ht.less h2
   | rp e j => obtain ⟨k, off, h3, h4⟩ := h2; exact ⟨k, off, h3, h4.move ht.size ht.block ht.less⟩
 | ag l =>
  by_cases hb : l.any (·.isR b0) = true
  ·simp [scr0, hb, RV0]
  ·simp only [scr0, if_neg hb]
   obtain ⟨cs, hx, hl, hc⟩ := h
   refine ⟨cs, hx, hl, fun i c hi => ?_⟩
   obtain ⟨y, h1, h2, h3⟩ := hc i c hi
   refine ⟨y, h1, h2, ?_⟩
   cases c with
   | row b =>
    have hne : b ≠ b0 := fun he => hb (List.any_eq_true.2 ⟨_, List.mem_of_getElem? hi, by simp [Fc.isR, he]⟩)
    simp only [RF] at h3 ⊢; rw [(hm b hne).2]; exact h3
   | p p => exact RP.move ht.size ht.block ht.less h3
   | nil c => exact h3
 | suf b c i =>
  by_cases hb : b = b0
  ·simp [scr0, hb, RV0]
  ·simp only [scr0, if_neg hb, RV0] at h ⊢; rw [(hm b hb).2]; exact h
 | tup l => exact h.elim
 | junk => trivial
theorem RV.turn {w w' : World} {G G' : Nat -> Prop} {m m' : Nm} (ht : Turn w w' G G') {v : V} {x : Value} (h : RV w G m v x) (b0 : Nat)
 (hm : ∀ b, b ≠ b0 -> m'.i b = m.i b /\ m'.r b = m.r b) : RV w' G' m' (scr b0 v) x := by
 cases v with
 | tup l =>
  obtain ⟨xs, hx, hs, hl⟩ := h
  refine ⟨xs, hx, by simpa using hs, fun i v hv => ?_⟩
  rw [List.getElem?_map] at hv
  cases hli : l[i]? with
  | none => rw [hli] at hv; simp at hv
  | some v0 =>
   rw [hli] at hv
   simp only [Option.map_some, Option.some.injEq] at hv
   obtain ⟨y, hy, hr⟩ := hl i v0 hli
   exact ⟨y, hy, hv ▸ hr.turn ht b0 hm⟩
 | p => exact RV.of0 (RV0.turn ht (v := .p _) h b0 hm)
 | nil => exact RV.of0 (RV0.turn ht (v := .nil _) h b0 hm)
 | full => exact RV.of0 (RV0.turn ht (v := .full _ _) h b0 hm)
 | ptr => exact RV.of0 (RV0.turn ht (v := .ptr _ _) h b0 hm)
 | eptr => exact RV.of0 (RV0.turn ht (v := .eptr _ _ _ _) h b0 hm)
 | rptr => exact RV.of0 (RV0.turn ht (v := .rptr _ _) h b0 hm)
 | row => exact RV.of0 (RV0.turn ht (v := .row _) h b0 hm)
 | clo => exact RV.of0 (RV0.turn ht (v := .clo _ _) h b0 hm)
 | ag => exact RV.of0 (RV0.turn ht (v := .ag _) h b0 hm)
 | suf => exact RV.of0 (RV0.turn ht (v := .suf _ _ _) h b0 hm)
 | junk => trivial
theorem RB.turn {w w' : World} {G G' : Nat -> Prop} {m m' : Nm} (ht : Turn w w' G G') {b : Nat} {blk : Blk} (h : RB w G m b blk) (b0 : Nat) (hne : b ≠ b0)
 (hm : ∀ b, b ≠ b0 -> m'.i b = m.i b /\ m'.r b = m.r b)
 (hb : ∀ k, (match blk with | .box _ _ => m.i b = k | .row _ _ _ => ownB (m.r b) = some k | .mp _ _ => ownB (m.r b) = some k) -> w'.heap[k]? = w.heap[k]?) : RB w' G' m' b (scrB b0 blk) := by
 cases blk with
 | box e cells =>
  obtain ⟨cs, hc, hs, hl⟩ := h
  refine ⟨cs, by rw [(hm b hne).1, hb _ rfl]; exact hc, by simpa using hs, fun j v hv => ?_⟩
  rw [List.getElem?_map] at hv
  cases hli : cells[j]? with
  | none => rw [hli] at hv; simp at hv
  | some v0 =>
   rw [hli] at hv
   simp only [Option.map_some, Option.some.injEq] at hv
   obtain ⟨y, hy, ho, hr⟩ := hl j v0 hli
   exact ⟨y, hy, ho, hv ▸ hr.turn ht b0 hm⟩
 | row e c l =>
  rcases h with ⟨h0, ha, hl⟩ | ⟨k, cap, cur, hr, hc0, hlc, hcm, hh, hs, hl⟩
  ·exact .inl ⟨by rw [(hm b hne).2]; exact h0.move ht.size ht.block ht.less, by rw [(hm b hne).2]; exact ha, hl⟩
  ·refine .inr ⟨k, cap, cur, by rw [(hm b hne).2]; exact hr, hc0, hlc, hcm, by rw [hb k (by simp [hr, ownB]; omega)]; exact hh, hs, fun i el hi => ⟨(hl i el hi).1, fun j p hj => ?_⟩⟩
   obtain ⟨h1, u, h2, h3⟩ := (hl i el hi).2 j p hj
   exact ⟨h1, u, h2, h3.move ht.size ht.block ht.less⟩
 | mp ks l =>
  obtain ⟨k, es, clock, hr, hh, hl⟩ := h
  exact ⟨k, es, clock, by rw [(hm b hne).2]; exact hr, by rw [hb k (by simp [hr, ownB])]; exact hh, hl.mono fun _ _ h => h.move ht.size ht.block ht.less⟩
theorem owns_scr (m m' : Nm) (β : Nat -> Option Blk) (b0 : Nat) (blk' : Option Blk) (b k : Nat) (hne : b ≠ b0) (hm : m'.i b = m.i b /\ m'.r b = m.r b) :
 owns m' (fun b => if b = b0 then blk' else (β b).map (scrB b0)) b k ↔ owns m β b k := by
 unfold owns
 simp only [if_neg hne]
 cases hb : β b with
 | none => simp
 | some blk => cases blk <;> simp [scrB, hm.1, hm.2]
theorem Rel.turnT [Glob] {w0 : World} {m0 : Nm} {F X : Nat -> Prop} {N : Nat} {st : St} {a : Act} {w : World} {m : Nm} (_h : Rel w0 m0 F X N st a w m) (b0 : Nat) (blk' : Option Blk) (m' : Nm) (w' : World)
 (hm : ∀ b, b ≠ b0 -> m'.i b = m.i b /\ m'.r b = m.r b) (hk : Keeps (fun k => owns m st.b b0 k) w w')
 (hown : ∀ k, owns m' (fun b => if b = b0 then blk' else (st.b b).map (scrB b0)) b0 k -> (owns m st.b b0 k \/ w.heap.size <= k) /\ k < w'.heap.size) :
 Turn w w' (Gd F m st.b) (Gd F m' (fun b => if b = b0 then blk' else (st.b b).map (scrB b0))) := by
 refine ⟨hk.size, fun k hlt hg => hk.block k hlt (fun ho => hg (.inr ⟨b0, ho⟩)), fun k hlt hg => ?_⟩
 rcases hg with hf | ⟨b, hb⟩
 ·exact .inl hf
 ·by_cases hne : b = b0
  ·subst hne
   rcases (hown k hb).1 with h1 | h1
   ·exact .inr ⟨b, h1⟩
   ·omega
  ·exact .inr ⟨b, (owns_scr m m' st.b b0 blk' b k hne (hm b hne)).1 hb⟩
theorem Rel.turn [Glob] {w0 : World} {m0 : Nm} {F X : Nat -> Prop} {N : Nat} {st : St} {a : Act} {w : World} {m : Nm} (h : Rel w0 m0 F X N st a w m) (b0 : Nat) (blk' : Option Blk) (m' : Nm) (w' : World)
 (hm : ∀ b, b ≠ b0 -> m'.i b = m.i b /\ m'.r b = m.r b) (hk : Keeps (fun k => owns m st.b b0 k) w w')
 (hown : ∀ k, owns m' (fun b => if b = b0 then blk' else (st.b b).map (scrB b0)) b0 k -> (owns m st.b b0 k \/ w.heap.size <= k) /\ k < w'.heap.size)
 (hblk : ∀ blk, blk' = some blk -> RB w' (Gd F m' (fun b => if b = b0 then blk' else (st.b b).map (scrB b0))) m' b0 blk)
 (hnm : 1024 <= b0 -> b0 < 2048 -> m'.i b0 = m.i b0) :
 Rel w0 m0 F X N ⟨fun t => scr b0 (st.s t), fun b => if b = b0 then blk' else (st.b b).map (scrB b0)⟩ a w' m' := by
 have hiff : ∀ b, b ≠ b0 -> ∀ k, owns m' (fun b => if b = b0 then blk' else (st.b b).map (scrB b0)) b k ↔ owns m st.b b k := fun b hb k => owns_scr m m' st.b b0 blk' b k hb (hm b hb)
 have ht := h.turnT b0 blk' m' w' hm hk hown
 have hfresh : ∀ k, owns m' (fun b => if b = b0 then blk' else (st.b b).map (scrB b0)) b0 k -> (w0.heap.size <= k \/ X k) /\ k < w'.heap.size /\ ¬ F k := fun k hb => by
  have h1 := hown k hb
  rcases h1.1 with h2 | h2
  ·exact ⟨(h.own b0 k h2).1, h1.2, (h.own b0 k h2).2.2⟩
  ·exact ⟨.inl (Nat.le_trans h.keeps.size h2), h1.2, fun hf => by have := h.fold k hf; have := h.keeps.size; omega⟩
 refine ⟨h.keeps.trans hk fun i hy hi => ?_, h.fold, fun b k hb => ?_, fun b b' k hb hb' => ?_, h.size, fun t => (h.tmps t).turn ht b0 hm, fun b blk hb => ?_, (h.defers.move ht.size ht.block ht.less), fun n h1 h2 => (by
  by_cases hne : n = b0
  ·subst hne; exact (hnm h1 h2).trans (h.nam n h1 h2)
  ·exact (hm n hne).1.trans (h.nam n h1 h2)), h.small, fun g e he => (h.glob g e he).move ht.size ht.block ht.less⟩
 ·rcases (h.own b0 i hy).1 with h1 | h1
  ·omega
  ·exact h1
 ·by_cases hne : b = b0
  ·subst hne; exact hfresh k hb
  ·have h1 := h.own b k ((hiff b hne k).1 hb)
   exact ⟨h1.1, Nat.lt_of_lt_of_le h1.2.1 hk.size, h1.2.2⟩
 ·by_cases hne : b = b0
  ·by_cases hne' : b' = b0
   ·rw [hne, hne']
   ·subst hne
    have h1 := (hiff b' hne' k).1 hb'
    rcases (hown k hb).1 with h2 | h2
    ·exact absurd (h.uniq _ _ _ h1 h2) hne'
    ·have := (h.own b' k h1).2.1; omega
  ·have h1 := (hiff b hne k).1 hb
   by_cases hne' : b' = b0
   ·subst hne'
    rcases (hown k hb').1 with h2 | h2
    ·exact absurd (h.uniq _ _ _ h1 h2) hne
    ·have := (h.own b k h1).2.1; omega
   ·exact h.uniq b b' k h1 ((hiff b' hne' k).1 hb')
 ·by_cases hne : b = b0
  ·subst hne
   simp only [if_true] at hb
   exact hblk blk hb
  ·simp only [if_neg hne] at hb
   cases hsb : st.b b with
   | none => rw [hsb] at hb; simp at hb
   | some blk0 =>
    rw [hsb] at hb
    simp only [Option.map_some, Option.some.injEq] at hb
    rw [<- hb]
    refine RB.turn ht (h.blks b blk0 hsb) b0 hne hm (fun k hk' => ?_)
    have ho : owns m st.b b k := by unfold owns; rw [hsb]; cases blk0 <;> exact hk'
    exact hk.block k (h.own b k ho).2.1 (fun ho' => hne (h.uniq _ _ _ ho ho'))
theorem RC.keep {w w' : World} {G G' : Nat -> Prop} {m : Nm} (ht : Turn w w' G G') {c : Cap} {y : Value} (h : RC w G m c y) : RC w' G' m c y := by
 cases c with
 | box b => exact h
 | val p => exact RP.move ht.size ht.block ht.less h
 | rp e j => obtain ⟨k, off, h3, h4⟩ := h; exact ⟨k, off, h3, h4.move ht.size ht.block ht.less⟩
theorem RF.keep {w w' : World} {G G' : Nat -> Prop} {m : Nm} (ht : Turn w w' G G') {c : Fc} {y : Value} (h : RF w G m c y) : RF w' G' m c y := by
 cases c with
 | row b => exact h
 | p p => exact RP.move ht.size ht.block ht.less h
 | nil c => exact h
theorem RV0.keep {w w' : World} {G G' : Nat -> Prop} {m : Nm} (ht : Turn w w' G G') {v : V} {x : Value} (h : RV0 w G m v x) : RV0 w' G' m v x := by
 cases v with
 | p p => exact RP.move ht.size ht.block ht.less h
 | full c l => exact ⟨RP.move ht.size ht.block ht.less h.1, h.2⟩
 | rptr e j =>
  obtain ⟨k, off, hx, hr⟩ := h
  exact ⟨k, off, hx, hr.move ht.size ht.block ht.less⟩
 | clo f caps =>
  obtain ⟨cs, hx, hl, hc⟩ := h
  exact ⟨cs, hx, hl, fun i c hi => let ⟨y, h1, h2⟩ := hc i c hi; ⟨y, h1, h2.keep ht⟩⟩
 | ag l =>
  obtain ⟨cs, hx, hl, hc⟩ := h
  exact ⟨cs, hx, hl, fun i c hi => let ⟨y, h1, h2, h3⟩ := hc i c hi; ⟨y, h1, h2, h3.keep ht⟩⟩
 | _ => exact h
theorem RV.keep {w w' : World} {G G' : Nat -> Prop} {m : Nm} (ht : Turn w w' G G') {v : V} {x : Value} (h : RV w G m v x) : RV w' G' m v x := by
 cases v with
 | tup l =>
  obtain ⟨xs, hx, hs, hl⟩ := h
  exact ⟨xs, hx, hs, fun i v hv => let ⟨y, hy, hr⟩ := hl i v hv; ⟨y, hy, hr.keep ht⟩⟩
 | p => exact RV.of0 (RV0.keep (v := .p _) ht h)
 | full => exact RV.of0 (RV0.keep (v := .full _ _) ht h)
 | rptr => exact RV.of0 (RV0.keep (v := .rptr _ _) ht h)
 | clo => exact RV.of0 (RV0.keep (v := .clo _ _) ht h)
 | ag => exact RV.of0 (RV0.keep (v := .ag _) ht h)
 | _ => exact h
theorem RB.keep {w w' : World} {G G' : Nat -> Prop} {m : Nm} (ht : Turn w w' G G') {b : Nat} {blk : Blk} (h : RB w G m b blk)
 (hb : ∀ k, (match blk with | .box _ _ => m.i b = k | .row _ _ _ => ownB (m.r b) = some k | .mp _ _ => ownB (m.r b) = some k) -> w'.heap[k]? = w.heap[k]?) : RB w' G' m b blk := by
 cases blk with
 | box e cells =>
  obtain ⟨cs, hc, hs, hl⟩ := h
  exact ⟨cs, by rw [hb _ rfl]; exact hc, hs, fun j v hv => let ⟨y, hy, ho, hr⟩ := hl j v hv; ⟨y, hy, ho, hr.keep ht⟩⟩
 | row e c l =>
  rcases h with h | ⟨k, cap, cur, hr, hc0, hlc, hcm, hh, hs, hl⟩
  ·exact .inl ⟨h.1.move ht.size ht.block ht.less, h.2⟩
  ·refine .inr ⟨k, cap, cur, hr, hc0, hlc, hcm, by rw [hb k (by simp [hr, ownB]; omega)]; exact hh, hs, fun i el hi => ⟨(hl i el hi).1, fun j p hj => ?_⟩⟩
   obtain ⟨h1, u, h2, h3⟩ := (hl i el hi).2 j p hj
   exact ⟨h1, u, h2, h3.move ht.size ht.block ht.less⟩
 | mp ks l =>
  obtain ⟨k, es, clock, hr, hh, hl⟩ := h
  exact ⟨k, es, clock, hr, by rw [hb k (by simp [hr, ownB])]; exact hh, hl.mono fun _ _ h => h.move ht.size ht.block ht.less⟩
theorem Rel.world [Glob] {w0 : World} {m0 : Nm} {F X : Nat -> Prop} {N : Nat} {st : St} {a : Act} {w : World} {m : Nm} (h : Rel w0 m0 F X N st a w m) {w' : World} (hk : Keeps (fun _ => False) w w') :
 Rel w0 m0 F X N st a w' m := by
 have ht : Turn w w' (Gd F m st.b) (Gd F m st.b) := ⟨hk.size, fun k hlt _ => hk.block k hlt id, fun k _ hg => hg⟩
 refine ⟨h.keeps.trans hk fun i hy _ => hy.elim, h.fold, fun b k hb => ?_, h.uniq, h.size, fun t => (h.tmps t).keep ht, fun b blk hb => ?_, (h.defers.move ht.size ht.block ht.less), h.nam, h.small, fun g e he => (h.glob g e he).move ht.size ht.block ht.less⟩
 ·have h1 := h.own b k hb
  exact ⟨h1.1, Nat.lt_of_lt_of_le h1.2.1 hk.size, h1.2.2⟩
 ·refine (h.blks b blk hb).keep ht fun k hk' => hk.block k ?_ id
  have ho : owns m st.b b k := by unfold owns; rw [hb]; cases blk <;> exact hk'
  exact (h.own b k ho).2.1
def Blk.like : Blk -> Blk -> Prop
 | .box _ _, .box _ _ => True
 | .row _ _ _, .row _ _ _ => True
 | .mp _ _, .mp _ _ => True
 | _, _ => False
theorem owns_set {m : Nm} {β : Nat -> Option Blk} {b0 : Nat} {blk0 blk' : Blk} (hb : β b0 = some blk0) (hl : blk0.like blk') (b k : Nat) :
 owns m (fun b => if b = b0 then some blk' else β b) b k ↔ owns m β b k := by
 unfold owns
 by_cases h : b = b0
 ·subst h
  simp only [if_true, hb]
  cases blk0 <;> cases blk' <;> simp_all [Blk.like]
 ·simp only [if_neg h]
theorem Gd_set {F : Nat -> Prop} {m : Nm} {β : Nat -> Option Blk} {b0 : Nat} {blk0 blk' : Blk} (hb : β b0 = some blk0) (hl : blk0.like blk') (k : Nat) :
 Gd F m (fun b => if b = b0 then some blk' else β b) k ↔ Gd F m β k := by
 unfold Gd
 constructor <;> rintro (h | ⟨b, h⟩)
 ·exact .inl h
 ·exact .inr ⟨b, (owns_set hb hl b k).1 h⟩
 ·exact .inl h
 ·exact .inr ⟨b, (owns_set hb hl b k).2 h⟩
theorem Rel.store [Glob] {w0 : World} {m0 : Nm} {F X : Nat -> Prop} {N : Nat} {st : St} {a : Act} {w : World} {m : Nm} (h : Rel w0 m0 F X N st a w m) {b0 : Nat} {blk0 blk' : Blk}
 (hb : st.b b0 = some blk0) (hl : blk0.like blk') {w' : World} (hk : Keeps (fun k => owns m st.b b0 k) w w')
 (hblk : RB w' (Gd F m st.b) m b0 blk') :
 Rel w0 m0 F X N ⟨st.s, fun b => if b = b0 then some blk' else st.b b⟩ a w' m := by
 have ht : Turn w w' (Gd F m st.b) (Gd F m (fun b => if b = b0 then some blk' else st.b b)) :=
  ⟨hk.size, fun k hlt hg => hk.block k hlt (fun ho => hg (.inr ⟨b0, ho⟩)), fun k _ hg => (Gd_set hb hl k).1 hg⟩
 have hG : Gd F m (fun b => if b = b0 then some blk' else st.b b) = Gd F m st.b := funext fun k => propext (Gd_set hb hl k)
 refine ⟨h.keeps.trans hk fun i hy hi => ?_, h.fold, fun b k hb' => ?_, fun b b' k hb1 hb2 => h.uniq b b' k ((owns_set hb hl b k).1 hb1) ((owns_set hb hl b' k).1 hb2), h.size, fun t => (h.tmps t).keep ht, fun b blk hb' => ?_, (h.defers.move ht.size ht.block ht.less), h.nam, h.small, fun g e he => (h.glob g e he).move ht.size ht.block ht.less⟩
 ·rcases (h.own b0 i hy).1 with h1 | h1
  ·omega
  ·exact h1
 ·have h1 := h.own b k ((owns_set hb hl b k).1 hb')
  exact ⟨h1.1, Nat.lt_of_lt_of_le h1.2.1 hk.size, h1.2.2⟩
 ·by_cases hne : b = b0
  ·subst hne
   simp only [if_true, Option.some.injEq] at hb'
   subst hb'
   rw [hG]; exact hblk
  ·simp only [if_neg hne] at hb'
   refine (h.blks b blk hb').keep ht fun k hk' => ?_
   have ho : owns m st.b b k := by unfold owns; rw [hb']; cases blk <;> exact hk'
   exact hk.block k (h.own b k ho).2.1 (fun ho' => hne (h.uniq _ _ _ ho ho'))
def subF (b : Nat) (q : PV) : Fc -> Fc
 | .row b' => if b' = b then .p q else .row b'
 | .p x => .p x
 | .nil c => .nil c
def sub0 (b : Nat) (q : PV) : V -> V
 | .row b' => if b' = b then .p q else .row b'
 | .eptr b' c i j => if b' = b then .junk else .eptr b' c i j
 | .ag l => .ag (l.map (subF b q))
 | .suf b' c i => if b' = b then .junk else .suf b' c i
 | v => v
def sub (b : Nat) (q : PV) : V -> V
 | .tup l => .tup (l.map (sub0 b q))
 | v => sub0 b q v
def subB (b : Nat) (q : PV) : Blk -> Blk
 | .box e cells => .box e (cells.map (sub0 b q))
 | .row e c l => .row e c l
 | .mp ks l => .mp ks l
theorem RV0.sub {w : World} {G G' : Nat -> Prop} {m : Nm} (ht : Turn w w G G') {v : V} {x : Value} (h : RV0 w G m v x) (b0 : Nat) (q : PV)
 (hq : RP w G' q (m.r b0)) : RV0 w G' m (sub0 b0 q v) x := by
 cases v with
 | row b =>
  by_cases hb : b = b0
  ·simp only [sub0, if_pos hb, RV0] at h ⊢; rw [h, hb]; exact hq
  ·simp only [sub0, if_neg hb, RV0] at h ⊢; exact h
 | eptr b c i j =>
  by_cases hb : b = b0
  ·simp [sub0, hb, RV0]
  ·simp only [sub0, if_neg hb, RV0] at h ⊢; exact h
 | p => exact RV0.keep (v := .p _) ht h
 | full => exact RV0.keep (v := .full _ _) ht h
 | rptr => exact RV0.keep (v := .rptr _ _) ht h
 | clo => exact RV0.keep (v := .clo _ _) ht h
 | ag l =>
  obtain ⟨cs, hx, hl, hc⟩ := h
  refine ⟨cs, hx, by simpa using hl, fun i c hi => ?_⟩
  rw [List.getElem?_map] at hi
  cases hli : l[i]? with
  | none => rw [hli] at hi; simp at hi
  | some c0 =>
   rw [hli] at hi
   simp only [Option.map_some, Option.some.injEq] at hi
   obtain ⟨y, h1, h2, h3⟩ := hc i c0 hli
   refine ⟨y, h1, h2, ?_⟩
   subst hi
   cases c0 with
   | p p => exact RP.move ht.size ht.block ht.less h3
   | row b =>
    by_cases hb : b = b0
    ·simp only [subF, if_pos hb, RF] at h3 ⊢; rw [h3, hb]; exact hq
    ·simp only [subF, if_neg hb]; exact h3
   | nil c => exact h3
 | suf b c i =>
  by_cases hb : b = b0
  ·simp [sub0, hb, RV0]
  ·simp only [sub0, if_neg hb, RV0] at h ⊢; exact h
 | _ => exact h
theorem RV.sub {w : World} {G G' : Nat -> Prop} {m : Nm} (ht : Turn w w G G') {v : V} {x : Value} (h : RV w G m v x) (b0 : Nat) (q : PV)
 (hq : RP w G' q (m.r b0)) : RV w G' m (Av.sub b0 q v) x := by
 cases v with
 | tup l =>
  obtain ⟨xs, hx, hs, hl⟩ := h
  refine ⟨xs, hx, by simpa using hs, fun i v hv => ?_⟩
  rw [List.getElem?_map] at hv
  cases hli : l[i]? with
  | none => rw [hli] at hv; simp at hv
  | some v0 =>
   rw [hli] at hv
   simp only [Option.map_some, Option.some.injEq] at hv
   obtain ⟨y, hy, hr⟩ := hl i v0 hli
   exact ⟨y, hy, hv ▸ hr.sub ht b0 q hq⟩
 | p => exact RV.of0 (RV0.sub (v := .p _) ht h b0 q hq)
 | nil => exact RV.of0 (RV0.sub (v := .nil _) ht h b0 q hq)
 | full => exact RV.of0 (RV0.sub (v := .full _ _) ht h b0 q hq)
 | ptr => exact RV.of0 (RV0.sub (v := .ptr _ _) ht h b0 q hq)
 | eptr => exact RV.of0 (RV0.sub (v := .eptr _ _ _ _) ht h b0 q hq)
 | rptr => exact RV.of0 (RV0.sub (v := .rptr _ _) ht h b0 q hq)
 | row => exact RV.of0 (RV0.sub (v := .row _) ht h b0 q hq)
 | clo => exact RV.of0 (RV0.sub (v := .clo _ _) ht h b0 q hq)
 | ag => exact RV.of0 (RV0.sub (v := .ag _) ht h b0 q hq)
 | suf => exact RV.of0 (RV0.sub (v := .suf _ _ _) ht h b0 q hq)
 | junk => trivial
theorem lt_of_heap {w : World} {k : Nat} {o : Obj} (h : w.heap[k]? = some o) : k < w.heap.size := (Array.getElem?_eq_some_iff.1 h).1
theorem RP.of_row {w : World} {G G' : Nat -> Prop} {m : Nm} {b e c : Nat} {l : List (List PV)} (h : RB w G m b (.row e c l)) (ht : Turn w w G G')
 (hG : ∀ k, ownB (m.r b) = some k -> ¬ G' k) : RP w G' (.sl c l) (m.r b) := by
 rcases h with ⟨h0, ha, hl⟩ | ⟨k, cap, cur, hr, hc0, hlc, hcm, hh, hs, hl⟩
 ·subst hl
  exact h0.move ht.size ht.block ht.less
 ·have hgk : ¬ G' k := hG k (by simp [hr, ownB]; omega)
  rw [hr]
  have hu : ∀ (i : Nat) (el : List PV) (j : Nat) (p : PV), l[i]? = some el -> el[j]? = some p -> cur[i * c + j]? = some (cur.getD (i * c + j) undef) /\ RP w G' p (cur.getD (i * c + j) undef) /\ p.one = true := fun i el j p hi hj => by
   obtain ⟨ho, u, hx, hr⟩ := (hl i el hi).2 j p hj
   have : cur.getD (i * c + j) undef = u := by simp [Array.getD_eq_getD_getElem?, hx]
   rw [this]
   exact ⟨hx, hr.move ht.size ht.block ht.less, ho⟩
  exact .sl c l k 0 cap (fun i j => cur.getD (i * c + j) undef) hlc hcm (fun _ => ⟨lt_of_heap hh, hgk⟩) (fun i el hi => (hl i el hi).1) (fun i el j p hi hj => (hu i el j p hi hj).2.2)
   (fun i el j p hi hj => by have := (hu i el j p hi hj).1; simpa [World.cell?, hh] using this) (fun i el j p hi hj => (hu i el j p hi hj).2.1)
theorem Rel.freeze [Glob] {w0 : World} {m0 : Nm} {F X : Nat -> Prop} {N : Nat} {st : St} {a : Act} {w : World} {m : Nm} (h : Rel w0 m0 F X N st a w m) {b0 e c : Nat} {l : List (List PV)}
 (hb : st.b b0 = some (.row e c l)) :
 Rel w0 m0 F X N ⟨fun t => Av.sub b0 (.sl c l) (st.s t), fun b => if b = b0 then none else (st.b b).map (subB b0 (.sl c l))⟩ a w m := by
 have hiff : ∀ b k, owns m (fun b => if b = b0 then none else (st.b b).map (subB b0 (.sl c l))) b k ↔ b ≠ b0 /\ owns m st.b b k := fun b k => by
  unfold owns
  by_cases hne : b = b0
  ·simp [hne]
  ·simp only [ne_eq, hne, not_false_eq_true, true_and, if_false]
   cases hsb : st.b b with
   | none => simp
   | some blk => cases blk <;> simp [subB]
 have ht : Turn w w (Gd F m st.b) (Gd F m (fun b => if b = b0 then none else (st.b b).map (subB b0 (.sl c l)))) := by
  refine ⟨Nat.le_refl _, fun _ _ _ => rfl, fun k _ hg => ?_⟩
  rcases hg with hf | ⟨b, hb'⟩
  ·exact .inl hf
  ·exact .inr ⟨b, ((hiff b k).1 hb').2⟩
 have hq : RP w (Gd F m (fun b => if b = b0 then none else (st.b b).map (subB b0 (.sl c l)))) (.sl c l) (m.r b0) := by
  refine RP.of_row (h.blks b0 _ hb) ht fun k hk hg => ?_
  have ho : owns m st.b b0 k := by unfold owns; rw [hb]; exact hk
  rcases hg with hf | ⟨b, hb'⟩
  ·exact (h.own b0 k ho).2.2 hf
  ·exact ((hiff b k).1 hb').1 (h.uniq _ _ _ ((hiff b k).1 hb').2 ho)
 refine ⟨h.keeps, h.fold, fun b k hb' => h.own b k ((hiff b k).1 hb').2, fun b b' k hb1 hb2 => h.uniq b b' k ((hiff b k).1 hb1).2 ((hiff b' k).1 hb2).2, h.size,
  fun t => (h.tmps t).sub ht b0 _ hq, fun b blk hb' => ?_, (h.defers.move ht.size ht.block ht.less), h.nam, h.small, fun g e he => (h.glob g e he).move ht.size ht.block ht.less⟩
 by_cases hne : b = b0
 ·simp [hne] at hb'
 ·simp only [if_neg hne] at hb'
  cases hsb : st.b b with
  | none => rw [hsb] at hb'; simp at hb'
  | some blk0 =>
   rw [hsb] at hb'
   simp only [Option.map_some, Option.some.injEq] at hb'
   subst hb'
   have h0 := h.blks b blk0 hsb
   cases blk0 with
   | row e' c' l' => exact h0.keep ht (fun _ _ => rfl)
   | mp ks' l' => exact h0.keep ht (fun _ _ => rfl)
   | box e' cells =>
    obtain ⟨cs, hc, hs, hl⟩ := h0
    refine ⟨cs, hc, by simpa using hs, fun j v hv => ?_⟩
    rw [List.getElem?_map] at hv
    cases hli : cells[j]? with
    | none => rw [hli] at hv; simp at hv
    | some v0 =>
     rw [hli] at hv
     simp only [Option.map_some, Option.some.injEq] at hv
     obtain ⟨y, hy, ho, hr⟩ := hl j v0 hli
     exact ⟨y, hy, ho, hv ▸ hr.sub ht b0 _ hq⟩
def putS (s : Nat -> V) (d : Option Nat) (v : V) : Nat -> V :=
 match d with
 | none => s
 | some d => fun t => if t = d then v else s t
theorem Rel.put [Glob] {w0 : World} {m0 : Nm} {F X : Nat -> Prop} {N : Nat} {st : St} {a : Act} {w : World} {m : Nm} (h : Rel w0 m0 F X N st a w m) (d : Option Nat) (v : V) (x : Value)
 (hd : ∀ k, d = some k -> dOK N k) (hv : RV w (Gd F m st.b) m v x) : Rel w0 m0 F X N ⟨putS st.s d v, st.b⟩ (a.put d x) w m := by
 cases d with
 | none => exact h
 | some d =>
  refine ⟨h.keeps, h.fold, h.own, h.uniq, by simp [Act.put, h.size], fun t => ?_, h.blks, h.defers, h.nam, ⟨h.small.1, fun t ht => ?_⟩, h.glob⟩
  rotate_left
  ·have hne : t ≠ d := fun he => by subst he; have := (hd t rfl).2; omega
   have := h.small.2 t ht
   rw [<- this]
   simp only [Act.put]
   rw [Array.getD_eq_getD_getElem?, Array.getD_eq_getD_getElem?, Array.getElem?_setIfInBounds_ne (Ne.symm hne)]
  have hdn : d < a.tmps.size := by rw [h.size]; exact (hd d rfl).1
  by_cases ht : t = d
  ·subst ht
   simp only [putS, if_true, Act.put]
   simpa [Array.getD, hdn] using hv
  ·have := h.tmps t
   have he : (a.tmps.setIfInBounds d x).getD t undef = a.tmps.getD t undef := by
    rw [Array.getD_eq_getD_getElem?, Array.getD_eq_getD_getElem?, Array.getElem?_setIfInBounds_ne (Ne.symm ht)]
   simp only [putS, if_neg ht, Act.put]
   rw [he]; exact this
end Go.Av
