/- Texts that the proof needs: AvBase. -/
import Derived.Calls
import Derived.Orders
import Derived.Still
import Derived.StillTail
import Derived.Tactics
import Derived.Tactics2
import Derived.Laws.AppendOwn
import Derived.Laws.OwnMore
import Derived.Laws.MakeOwn
import Derived.Laws.Pointers
import Derived.Laws.Entries
import Derived.WalkMore
import Derived.WalkKit
import Derived.Below
import Derived.KernelRfl
namespace Go.Av
open Go
theorem xW {α : Type _} {β : Type _} {f : α → β} {a : α} {l : List α} : List.map f (a :: l) = f a :: List.map f l := rfl
theorem xV {α : Type _} {β : Type _} {f : α → β} : List.map f [] = [] := rfl
theorem xU {α : Type _} (a b : α) : (some a = some b) = (a = b) := Option.some.injEq a b
def scal : Value -> Bool
 | .bool _ | .int _ _ | .string _ | .nilFunc | .nilIface | .iface _ (.int _ _) | .pointer none | .slice _ _ _=>true
 | .func _ f c=>f.size == 0 && c.size == 0
 | _=>false
inductive PV where
 | v (x : Value)
 | sl (c : Nat) (l : List (List PV))
 | agg (l : List PV)
class Glob where
 g : Nat -> Option (List PV)
def PV.one : PV -> Bool
 | .agg _=>false
 | _=>true
inductive RP (w : World) (G : Nat -> Prop) : PV -> Value -> Prop
 | v (x : Value) (h : scal x = true) : RP w G (.v x) x
 | nil (c : Nat) : RP w G (.sl c []) (.slice none 0 0)
 | emp (c : Nat) (a : Addr) : RP w G (.sl c []) (.slice (some a) 0 0)
 | sl (c : Nat) (l : List (List PV)) (k off cap : Nat) (u : Nat -> Nat -> Value) (hlen : l.length <= cap) (hm : cap <= maxLen)
  (hk : l ≠ [] -> k < w.heap.size /\ ¬ G k) (hc : ∀ (i : Nat) (e : List PV),l[i]? = some e -> e.length = c)
  (hone : ∀ (i : Nat) (e : List PV) (j : Nat) (p : PV),l[i]? = some e -> e[j]? = some p -> p.one = true)
  (hcell : ∀ (i : Nat) (e : List PV) (j : Nat) (p : PV),l[i]? = some e -> e[j]? = some p -> w.cell? ⟨k,off + (i * c + j),none⟩ = some (u i j))
  (hr : ∀ (i : Nat) (e : List PV) (j : Nat) (p : PV),l[i]? = some e -> e[j]? = some p -> RP w G p (u i j)) : RP w G (.sl c l) (.slice (some ⟨k,off,none⟩) l.length cap)
 | agg (l : List PV) (cs : Array Value) (u : Nat -> Value) (hs : cs.size = l.length) (hone : ∀ (j : Nat) (p : PV), l[j]? = some p -> p.one = true)
  (hcell : ∀ (j : Nat) (p : PV),l[j]? = some p -> cs[j]? = some (u j)) (hr : ∀ (j : Nat) (p : PV),l[j]? = some p -> RP w G p (u j)) : RP w G (.agg l) (.agg cs)
theorem RP.oneCell {w : World} {G : Nat -> Prop} {p : PV} {x : Value} (h : RP w G p x) (hp : p.one = true) : x.oneCell' = true := by
 cases h with
 | v x h=>cases x <;> simp_all [scal,Value.oneCell']
 | nil=>rfl
 | emp=>rfl
 | sl=>rfl
 | agg=>simp [PV.one] at hp
theorem RP.move {w w' : World} {G G' : Nat -> Prop} (hsz : w.heap.size <= w'.heap.size) (hb : ∀ k, k < w.heap.size -> ¬ G k -> w'.heap[k]? = w.heap[k]?)
 (hG : ∀ k,k < w.heap.size -> G' k -> G k) {p : PV} {x : Value} (h : RP w G p x) : RP w' G' p x:=by
 induction h with
 | v x h=>exact .v x h
 | nil c=>exact .nil c
 | emp c a=>exact .emp c a
 | sl c l k off cap u hlen hm hk hc hone hcell hr ih =>
  refine .sl c l k off cap u hlen hm (fun hl=>?_) hc hone (fun i e j p hi hj=>?_) ih
  ·exact ⟨Nat.lt_of_lt_of_le (hk hl).1 hsz,fun hg=>(hk hl).2 (hG k (hk hl).1 hg)⟩
  ·have hl : l ≠ [] := by intro h0; subst h0; simp at hi
   rw [<- hcell i e j p hi hj]
   exact World.cell?_of_block (hb k (hk hl).1 (hk hl).2)
 | agg l cs u hs hone hcell hr ih=>exact .agg l cs u hs hone hcell ih
theorem RP.emp' {w : World} {G : Nat -> Prop} (c : Nat) (b : Option Addr) : RP w G (.sl c []) (.slice b 0 0) := by
 cases b with
 | none=>exact .nil c
 | some a=>exact .emp c a
def RE (w : World) (G : Nat -> Prop) (e : List PV) (k off : Nat) : Prop :=
 (e ≠ [] -> k < w.heap.size /\ ¬ G k) /\ ∀ (j : Nat) (p : PV),e[j]? = some p -> p.one = true /\ ∃ u,w.cell? ⟨k,off + j,none⟩ = some u /\ RP w G p u
def GE (w : World) (G : Nat -> Prop) (e : List PV) (g : Nat) : Prop :=
 (g < w.heap.size /\ ¬ G g) /\ (∃ cs t fr,w.heap[g]? = some (.cells cs t fr) /\ cs.size = e.length) /\ RE w G e g 0
inductive Cap where
 | box (b : Nat)
 | val (x : PV)
 | rp (e : List PV) (j : Nat)
inductive Fc where
 | p (x : PV)
 | row (b : Nat)
 | nil (c : Nat)
structure Fk where
 f : FuncId
 mv : Bool
instance (n : Nat) : OfNat Fk n := ⟨⟨n, false⟩⟩
def fnv (k : Fk) (cs : List Value) : Value := match k.mv with
 | true=>.func (.func k.f) cs.toArray #[]
 | false=>.func (.func k.f) #[] cs.toArray
inductive V where
 | p (x : PV)
 | nil (c : Nat)
 | full (c : Nat) (l : List (List PV))
 | ptr (b off : Nat)
 | eptr (b c i j : Nat)
 | rptr (e : List PV) (j : Nat)
 | row (b : Nat)
 | clo (f : Fk) (caps : List Cap)
 | ag (l : List Fc)
 | suf (b c i : Nat)
 | tup (l : List V)
 | junk
inductive Blk where
 | box (e : TypeId) (cells : List V)
 | row (e : TypeId) (c : Nat) (l : List (List PV))
structure St where
 s : Nat -> V
 b : Nat -> Option Blk
structure Nm where
 i : Nat -> Nat
 r : Nat -> Value
def ownB : Value -> Option Nat
 | .slice (some a) _ cap=>if cap = 0 then none else some a.block
 | _=>none
def RC (w : World) (G : Nat -> Prop) (m : Nm) : Cap -> Value -> Prop
 | .box b,x=>x = .pointer (some ⟨m.i b,0,none⟩)
 | .val p,x=>RP w G p x
 | .rp e j,x=>∃ k off,x = .pointer (some ⟨k,off + j,none⟩) /\ RE w G e k off
def RF (w : World) (G : Nat -> Prop) (m : Nm) : Fc -> Value -> Prop
 | .p p,x=>RP w G p x
 | .row b,x=>x = m.r b
 | .nil _,x=>x = .slice none 0 0
def RV0 (w : World) (G : Nat -> Prop) (m : Nm) : V -> Value -> Prop
 | .p p,x=>RP w G p x
 | .nil _,x=>x = .slice none 0 0
 | .full c l,x=>RP w G (.sl c l) x /\ ∃ a,x = .slice a l.length l.length
 | .ptr b off,x=>x = .pointer (some ⟨m.i b,off,none⟩)
 | .eptr b c i j,x=>∃ k,ownB (m.r b) = some k /\ x = .pointer (some ⟨k,i * c + j,none⟩)
 | .rptr e j,x=>∃ k off,x = .pointer (some ⟨k,off + j,none⟩) /\ RE w G e k off
 | .row b,x=>x = m.r b
 | .clo f caps,x=>∃ cs : List Value,x = fnv f cs /\ cs.length = caps.length /\ ∀ (i : Nat) (c : Cap),caps[i]? = some c -> ∃ y,cs[i]? = some y /\ RC w G m c y
 | .ag l,x=>∃ cs : Array Value,x = .agg cs /\ cs.size = l.length /\ ∀ (i : Nat) (c : Fc),l[i]? = some c -> ∃ y,cs[i]? = some y /\ y.oneCell' = true /\ RF w G m c y
 | .suf b c i,x=>∃ a0 a1 len cap,m.r b = .slice a0 len cap /\ i <= len /\ x = .slice a1 (len - i) (cap - i) /\ (i < len -> ∃ k,a0 = some ⟨k,0,none⟩ /\ a1 = some ⟨k,i * c,none⟩)
 | .tup _,_=>False
 | .junk,_=>True
def RV (w : World) (G : Nat -> Prop) (m : Nm) : V -> Value -> Prop
 | .tup l,x=>∃ xs : Array Value,x = .tuple xs /\ xs.size = l.length /\ ∀ (i : Nat) (v : V),l[i]? = some v -> ∃ y,xs[i]? = some y /\ RV0 w G m v y
 | v,x=>RV0 w G m v x
theorem RV.of0 {w : World} {G : Nat -> Prop} {m : Nm} {v : V} {x : Value} (h : RV0 w G m v x) : RV w G m v x := by
 cases v <;> first | exact h | exact h.elim
def owns (m : Nm) (β : Nat -> Option Blk) (b k : Nat) : Prop :=
 match β b with
 | some (.box _ _)=>m.i b = k
 | some (.row _ _ _)=>ownB (m.r b) = some k
 | none=>False
def RB (w : World) (G : Nat -> Prop) (m : Nm) (b : Nat) : Blk -> Prop
 | .box e cells => ∃ cs : Array Value, w.heap[m.i b]? = some (.cells cs e (0, 0)) /\ cs.size = cells.length ∧
  ∀ (j : Nat) (v : V),cells[j]? = some v -> ∃ x,cs[j]? = some x /\ x.oneCell' = true /\ RV0 w G m v x
 | .row e c l => (RP w G (.sl c []) (m.r b) /\ (∃ a, m.r b = .slice a 0 0) /\ l = []) ∨
  ∃ k cap cur, m.r b = .slice (some ⟨k, 0, none⟩) l.length cap /\ 0 < cap /\ l.length <= cap /\ cap <= maxLen /\ w.heap[k]? = some (.cells cur e (0, 0)) /\ cur.size = cap * c ∧
   ∀ (i : Nat) (el : List PV),l[i]? = some el -> el.length = c /\ ∀ (j : Nat) (p : PV),el[j]? = some p -> p.one = true /\ ∃ u,cur[i * c + j]? = some u /\ RP w G p u
structure Keeps (X : Nat -> Prop) (w w' : World) : Prop where
 os : w'.os = w.os
 tape : w'.tape = w.tape
 output : w'.output = w.output
 size : w.heap.size <= w'.heap.size
 block : ∀ k,k < w.heap.size -> ¬ X k -> w'.heap[k]? = w.heap[k]?
theorem Keeps.refl (X : Nat -> Prop) (w : World) : Keeps X w w := ⟨rfl, rfl, rfl, Nat.le_refl _, fun _ _ _ => rfl⟩
def Gd (F : Nat -> Prop) (m : Nm) (β : Nat -> Option Blk) (k : Nat) : Prop := F k \/ ∃ b, owns m β b k
def DfE (z : Nat) (w : World) (G : Nat -> Prop) (d : Deferred) : Prop := ∃ D : Nat, d = { target := .collected D, args := #[] } /\ (D < w.heap.size /\ ¬ G D) /\ w.heap[D]? = some (.deferred (some [])) /\ z <= D
def DfOK (N z : Nat) (w : World) (G : Nat -> Prop) (ds : List Deferred) : Prop := (N / 2048 % 2 = 0 -> ds = []) /\ ds.Nodup /\ ∀ d ∈ ds, DfE z w G d
def dOK (N d : Nat) : Prop := d < N % 2048 /\ N / 4096 / 2 ^ d % 2 = 0
instance (N d : Nat) : Decidable (dOK N d) := by unfold dOK; infer_instance
def Pins (N : Nat) (r : Nat -> Value) (a : Act) : Prop := ∀ t, N / 4096 / 2 ^ t % 2 = 1 -> a.tmps.getD t undef = r t
structure Rel [Glob] (w0 : World) (m0 : Nm) (F X : Nat -> Prop) (N : Nat) (st : St) (a : Act) (w : World) (m : Nm) : Prop where
 keeps : Keeps X w0 w
 fold : ∀ k,F k -> k < w0.heap.size
 own : ∀ b k,owns m st.b b k -> (w0.heap.size <= k \/ X k) /\ k < w.heap.size /\ ¬ F k
 uniq : ∀ b b' k,owns m st.b b k -> owns m st.b b' k -> b = b'
 size : a.tmps.size = N % 2048
 tmps : ∀ t,RV w (Gd F m st.b) m (st.s t) (a.tmps.getD t undef)
 blks : ∀ b blk,st.b b = some blk -> RB w (Gd F m st.b) m b blk
 defers : DfOK N w0.heap.size w (Gd F m st.b) a.defers
 nam : ∀ n,1024 <= n -> n < 2048 -> m.i n = m0.i n
 small : N % 2048 <= 1024 /\ Pins N m0.r a
 glob : ∀ g e,Glob.g g = some e -> GE w (Gd F m st.b) e g
def Cap.isB (b : Nat) : Cap -> Bool
 | .box b'=>b' == b
 | .val _=>false
 | .rp _ _=>false
def Fc.isR (b : Nat) : Fc -> Bool
 | .row b'=>b' == b
 | .p _=>false
 | .nil _=>false
def scr0 (b : Nat) : V -> V
 | .ptr b' o=>if b' = b then .junk else .ptr b' o
 | .eptr b' c i j=>if b' = b then .junk else .eptr b' c i j
 | .row b'=>if b' = b then .junk else .row b'
 | .clo f caps=>if caps.any (·.isB b) then .junk else .clo f caps
 | .ag l=>if l.any (·.isR b) then .junk else .ag l
 | .suf b' c i=>if b' = b then .junk else .suf b' c i
 | v=>v
def scr (b : Nat) : V -> V
 | .tup l=>.tup (l.map (scr0 b))
 | v=>scr0 b v
def scrB (b : Nat) : Blk -> Blk
 | .box e cells=>.box e (cells.map (scr0 b))
 | .row e c l=>.row e c l
structure Turn (w w' : World) (G G' : Nat -> Prop) : Prop where
 size : w.heap.size <= w'.heap.size
 block : ∀ k,k < w.heap.size -> ¬ G k -> w'.heap[k]? = w.heap[k]?
 less : ∀ k,k < w.heap.size -> G' k -> G k
theorem RC.keep {w w' : World} {G G' : Nat -> Prop} {m : Nm} (ht : Turn w w' G G') {c : Cap} {y : Value} (h : RC w G m c y) : RC w' G' m c y := by
 cases c with
 | box b=>exact h
 | val p=>exact RP.move ht.size ht.block ht.less h
 | rp e j=>obtain ⟨k,off,h3,h4⟩:=h;exact ⟨k,off,h3,h4.move ht.size ht.block ht.less⟩
theorem RF.keep {w w' : World} {G G' : Nat -> Prop} {m : Nm} (ht : Turn w w' G G') {c : Fc} {y : Value} (h : RF w G m c y) : RF w' G' m c y := by
 cases c with
 | row b=>exact h
 | p p=>exact RP.move ht.size ht.block ht.less h
 | nil c=>exact h
theorem RV0.keep {w w' : World} {G G' : Nat -> Prop} {m : Nm} (ht : Turn w w' G G') {v : V} {x : Value} (h : RV0 w G m v x) : RV0 w' G' m v x := by
 cases v with
 | p p=>exact RP.move ht.size ht.block ht.less h
 | full c l=>exact ⟨RP.move ht.size ht.block ht.less h.1,h.2⟩
 | rptr e j =>
  obtain ⟨k,off,hx,hr⟩:=h
  exact ⟨k,off,hx,hr.move ht.size ht.block ht.less⟩
 | clo f caps =>
  obtain ⟨cs,hx,hl,hc⟩:=h
  exact ⟨cs,hx,hl,fun i c hi=>let ⟨y,h1,h2⟩:=hc i c hi;⟨y,h1,h2.keep ht⟩⟩
 | ag l =>
  obtain ⟨cs,hx,hl,hc⟩:=h
  exact ⟨cs,hx,hl,fun i c hi=>let ⟨y,h1,h2,h3⟩:=hc i c hi;⟨y,h1,h2,h3.keep ht⟩⟩
 | _=>exact h
def Blk.like : Blk -> Blk -> Prop
 | .box _ _,.box _ _=>True
 | .row _ _ _,.row _ _ _=>True
 | _,_=>False
def subF (b : Nat) (q : PV) : Fc -> Fc
 | .row b'=>if b' = b then .p q else .row b'
 | .p x=>.p x
 | .nil c=>.nil c
def sub0 (b : Nat) (q : PV) : V -> V
 | .row b'=>if b' = b then .p q else .row b'
 | .eptr b' c i j=>if b' = b then .junk else .eptr b' c i j
 | .ag l=>.ag (l.map (subF b q))
 | .suf b' c i=>if b' = b then .junk else .suf b' c i
 | v=>v
def sub (b : Nat) (q : PV) : V -> V
 | .tup l=>.tup (l.map (sub0 b q))
 | v=>sub0 b q v
def subB (b : Nat) (q : PV) : Blk -> Blk
 | .box e cells=>.box e (cells.map (sub0 b q))
 | .row e c l=>.row e c l
theorem lt_of_heap {w : World} {k : Nat} {o : Obj} (h : w.heap[k]? = some o) : k < w.heap.size := (Array.getElem?_eq_some_iff.1 h).1
theorem RP.of_row {w : World} {G G' : Nat -> Prop} {m : Nm} {b e c : Nat} {l : List (List PV)} (h : RB w G m b (.row e c l)) (ht : Turn w w G G')
 (hG : ∀ k,ownB (m.r b) = some k -> ¬ G' k) : RP w G' (.sl c l) (m.r b):=by
 rcases h with ⟨h0,ha,hl⟩ | ⟨k,cap,cur,hr,hc0,hlc,hcm,hh,hs,hl⟩
 ·subst hl
  exact h0.move ht.size ht.block ht.less
 ·have hgk : ¬ G' k := hG k (by simp [hr, ownB]; omega)
  rw [hr]
  have hu : ∀ (i : Nat) (el : List PV) (j : Nat) (p : PV), l[i]? = some el -> el[j]? = some p -> cur[i * c + j]? = some (cur.getD (i * c + j) undef) /\ RP w G' p (cur.getD (i * c + j) undef) /\ p.one = true := fun i el j p hi hj => by
   obtain ⟨ho,u,hx,hr⟩:=(hl i el hi).2 j p hj
   have : cur.getD (i * c + j) undef = u:=by simp [Array.getD_eq_getD_getElem?,hx]
   rw [this]
   exact ⟨hx,hr.move ht.size ht.block ht.less,ho⟩
  exact .sl c l k 0 cap (fun i j => cur.getD (i * c + j) undef) hlc hcm (fun _ => ⟨lt_of_heap hh, hgk⟩) (fun i el hi => (hl i el hi).1) (fun i el j p hi hj => (hu i el j p hi hj).2.2)
   (fun i el j p hi hj=>by have:=(hu i el j p hi hj).1;simpa [World.cell?,hh] using this) (fun i el j p hi hj=>(hu i el j p hi hj).2.1)
def yY (s : Nat -> V) (d : Option Nat) (v : V) : Nat -> V :=
 match d with
 | none=>s
 | some d=>fun t=>if t = d then v else s t
end Go.Av
