/- Texts that the proof needs: AvRng. -/
import Derived.Test.YtjekjpgccnhobaaDoorP9ConfigBack
import Derived.RangeFuncLeaves
import Derived.RangeFuncMany
import Derived.OrdersIn
import Derived.TacticsIn
namespace Go.Av
open Go
def calmO (o : Oper) : Bool := match o.op with
 | .defer _=>false
 | _=>true
def calmC : Code -> Bool
 | .skip | .exit _ | .ret=>true
 | .region _ ops _=>ops.toList.all calmO
 | .seq a b=>calmC a && calmC b
 | .cond _ a b=>calmC a && calmC b
 | .block _ x=>calmC x
 | _=>false
abbrev rF (l : Nat) : Fence := Fence.wide.inRound l
theorem rowsIn_round {l n : Nat} {P : Program} {row : String} {args : Array Value} {w : World} {R : Value -> World -> Prop} (h : Rows P row args w R) : RowsIn (rF l) n P row args w R := fun c cs _ => by
 obtain ⟨v,w',h1,h2⟩:=h c cs
 exact ⟨v,w',h1,stepsIn_wide.2 h2⟩
theorem callsIn_round {l n : Nat} {P : Program} {f : FuncId} {args : Array Value} {w : World} {R : Ending -> World -> Prop} (h : Calls P f args w R) : CallsIn (rF l) n P f args w R := (callsIn_wide (n := n).2 h : CallsIn Fence.wide n P f args w R)
theorem Oper.wpIn_of_wp {P : Program} {o : Oper} {a : Act} {w : World} {K : Act -> World -> Prop} {Q : Exit -> Act -> World -> Prop} (l n : Nat) (hd : calmO o = true) (h : o.wp P a w K Q) : o.wpIn (rF l) n P a w K Q := by
 refine ⟨fun _ _=>trivial,?_⟩
 rw [Oper.semAt_eq _ _ _ (fun c hc=>by simp [calmO,hc] at hd)]
 unfold Oper.wp at h
 generalize (execOp a.eval o).run P w = r at *
 cases r with
 | ok x w' =>
  cases x <;> simp only [Oper.upon, Oper.uponIn] at h ⊢ <;>
   first
    | exact h
    | exact ⟨fun hh=>by simp [Fence.wide,Fence.inRound] at hh,(callsIn_round h).mono fun e w'' he=>by cases e <;> exact he⟩
    | exact ⟨fun hh=>by simp [Fence.wide,Fence.inRound] at hh,rowsIn_round h⟩
 | halt x w'=>cases x <;> simp only [Oper.upon,Oper.uponIn] at h ⊢ <;> exact h
theorem wpList_round {P : Program} {ops : Array Oper} {Q : Exit -> Act -> World -> Prop} (l n : Nat) (hQ : ¬ LetsOut Q) : ∀ (L : List Oper) (a : Act) (w : World), L.all calmO = true -> wpList P ops Q L a w -> wpListIn (rF l) n P ops Q L a w
 | [],a,w,_,h=>h
 | o :: L, a, w, hc, h => by
  simp only [List.all_cons,Bool.and_eq_true] at hc
  simp only [wpList] at h
  simp only [wpListIn]
  split
  ·rename_i hw
   rw [if_pos hw] at h
   rcases h with h | h
   ·exact Oper.wpIn_of_wp l n hc.1 (Oper.wp_mono (fun a w h=>wpList_round l n hQ L a w hc.2 h) h)
   ·exact (hQ h.2).elim
  ·rename_i hw
   rw [if_neg hw] at h
   exact ⟨fun _ _=>trivial,wpList_round l n hQ L _ w hc.2 h⟩
theorem wpAny_round {P : Program} {ops : Array Oper} {Q : Exit -> Act -> World -> Prop} {md : Region.Mode} (l n : Nat) (hQ : ¬ LetsOut Q) (hc : ops.toList.all calmO = true) : ∀ (fuel : Nat) (listed : Array Bool) (a : Act) (w : World), wpAny P md ops Q fuel listed a w -> wpAnyIn (rF l) n P md ops Q fuel listed a w
 | 0,listed,a,w,h=>h
 | fuel + 1, listed, a, w, h => by
  refine ⟨h.1,fun i hi=>?_⟩
  have h2:=h.2 i hi
  unfold wpOp at h2
  unfold wpOpIn
  cases ho : ops[i]? with
  | none=>rw [ho] at h2;exact wpAny_round l n hQ hc fuel _ a w h2
  | some o =>
   rw [ho] at h2
   simp only at h2 ⊢
   have hco : calmO o = true := by
    refine List.all_eq_true.1 hc o ?_
    obtain ⟨hlt,rfl⟩:=Array.getElem?_eq_some_iff.1 ho
    simp
   split
   ·rename_i hw
    rw [if_pos hw] at h2
    rcases h2 with h2 | h2
    ·exact Oper.wpIn_of_wp l n hco (Oper.wp_mono (fun a w h=>wpAny_round l n hQ hc fuel _ a w h) h2)
    ·exact (hQ h2.2).elim
   ·rename_i hw
    rw [if_neg hw] at h2
    exact ⟨fun _ _=>trivial,wpAny_round l n hQ hc fuel _ _ w h2⟩
def IterB (P : Program) (g : FuncId) (c : Nat) : Prop :=
 ∀ (l : List (List PV)) (lid : Nat) (q : Value) (J : Nat -> World -> Prop) (Jx : World -> Prop) (W0 : World),
  (∀ k W, J k W -> ∃ (G : Nat -> Prop) (bk off : Nat), q = .pointer (some ⟨bk, off, none⟩) /\ RE W G [.sl c l] bk off ∧
   (∀ (h : k < l.length) (x : Value), RP W G (.agg (l[l.length - 1 - k]'(by omega))) x -> YieldAt Fence.wide 1 P lid #[.int .i64 ((l.length - 1 - k : Nat) : Int), x] W fun e W' =>
    (e = .returned (.bool true) /\ J (k + 1) W') \/ (e = .returned (.bool false) /\ Jx W'))) →
  J 0 W0 -> CallsIn Fence.wide 2 P g #[.func (.yield lid) #[] #[],q] W0 fun e W'=>(∃ v,e = .returned v) /\ (J l.length W' \/ Jx W')
structure LS [Glob] (W1 : World) (me : Nm) (be : Nat -> Option Blk) (F : Nat -> Prop) (D : Nat) (pins : List Nat) (s : Nat -> V) (ts : Array Value) (β : Nat -> Option Blk) (W : World) (m : Nm) : Prop where
 hp : Hp W (fun k=>F k \/ k = D \/ k = D + 1) m β
 tm : ∀ t ∈ pins,RV W (Gd (fun k=>F k \/ k = D \/ k = D + 1) m β) m (s t) (ts.getD t undef)
 own : ∀ b k,owns m β b k -> W1.heap.size <= k \/ ∃ b',owns me be b' k
 keeps : Keeps (fun k=>(∃ b,owns me be b k) \/ k = D \/ k = D + 1) W1 W
 nam : ∀ n,1024 <= n -> n < 2048 -> m.i n = me.i n
section
variable [Glob] {W1 : World} {me : Nm} {be : Nat -> Option Blk} {F : Nat -> Prop} {D : Nat} {pins : List Nat} {s : Nat -> V} {ts : Array Value} {β : Nat -> Option Blk} {W : World} {m : Nm}
end
section
variable [Glob] {w0 : World} {m0 : Nm} {F X : Nat -> Prop} {N : Nat} {st : St} {a : Act} {w : World} {m : Nm}
end
structure Oth (D : Nat) (w w' : World) : Prop where
 no : ∀ cs e o,w.heap[D]? ≠ some (.cells cs e o)
 same : ∀ k,k ≠ D -> w'.heap[k]? = w.heap[k]?
 size : w.heap.size <= w'.heap.size
section
variable {w w' : World} {G : Nat -> Prop} {D : Nat}
end
end Go.Av
