/- Texts that the proof needs: AvIns. -/
import Derived.Test.YtpilcadofjcdoaaP11WatchSees
import Derived.Laws.Externs
import Derived.Laws.IdiomCopy
import Derived.Lib.Walk
import Derived.Lib.SliceRun
import Derived.Lib.JoinLaws
import Derived.Lib.AppendZerosOnto
import Derived.Laws.NewBlocks
import Derived.Shelf.RegionOpenPlain
namespace Go.Av
open Go
set_option linter.unusedSimpArgs false
set_option linter.unusedVariables false
def spl (cur : Array Value) (o : Nat) (cs : List Value) : Array Value := (cur.toList.take o ++ cs ++ cur.toList.drop (o + cs.length)).toArray
theorem xB {cur : Array Value} {o : Nat} {cs : List Value} (h : o + cs.length <= cur.size) : (spl cur o cs).size = cur.size := by
 simp [spl];omega
theorem spl_get [Glob] {cur : Array Value} {o : Nat} {cs : List Value} (h : o + cs.length <= cur.size) (n : Nat) : (spl cur o cs)[n]? = if o <= n /\ n < o + cs.length then cs[n - o]? else cur[n]? := by
 have:=xI cur.toList cs o n (by simpa using h)
 unfold spl
 rw [List.getElem?_toArray,this]
 simp
section
variable {P : Program} {w : World}
theorem run_copyRow {dT sT ty elem : TypeId} {i : TypeInfo} (hu : P.underlying dT = some (.slice elem)) (hi : P.info? elem = some i) {g o dLen dCap n : Nat} {cur : Array Value} {e : TypeId} (hg : w.heap[g]? = some (.cells cur e (0, 0)))
 {b : Option Addr} {sLen sCap : Nat} (hn : Nat.min sLen dLen = n) {cs : List Value} (hf : (Builtin.firstCells i.size n (.slice b sLen sCap)).run P w = .ok cs.toArray w) (hfit : o + cs.length <= cur.size) (h1 : ∀ v ∈ cs,v.oneCell' = true) :
 (Builtin.copy_ #[dT,sT] ty #[.slice (some ⟨g,o,none⟩) dLen dCap,.slice b sLen sCap]).run P w = .ok (goInt n) (w.setRow g (spl cur o cs)):=by
 have hst:=run_storeCells_at P g o e cs 0 cur w hg (by simpa using hfit) h1
 simp only [Nat.add_zero] at hst
 simp [Builtin.copy_,run_underlying hu,Builtin.lenOf,hn,sizeOf,typeInfo,hi,hf,hst,spl]
theorem run_first_row [Glob] {g o len cap n size : Nat} {cur : Array Value} {e : TypeId} (hg : w.heap[g]? = some (.cells cur e (0, 0))) {cs : List Value} (hl : cs.length = n * size) (h : ∀ (j : Nat) (v : Value), cs[j]? = some v -> cur[o + j]? = some v) :
 (Builtin.firstCells size n (.slice (some ⟨g,o,none⟩) len cap)).run P w = .ok cs.toArray w:=by
 refine run_firstCells_some w size n _ len cap cs hl fun j v hj=>?_
 rw [addr_add]
 simpa [World.cell?,hg] using h j v hj
theorem run_overlaps (tS tR e : TypeId) (ht : P.underlying tS = some (.slice e)) (size : Nat) (hz : (Go.sizeOf e).run P w = .ok size w)
 {a b : Addr} {la ca lb cb : Nat} (hne : a.block ≠ b.block) {cA : Array Value} {tA : TypeId} {fA : Nat × Nat} (ha : w.heap[a.block]? = some (.cells cA tA fA)) {cB : Array Value} {tB : TypeId} (hb : w.heap[b.block]? = some (.cells cB tB (0,0))) (hB : cB.size ≠ 0) (hA : cA.size ≠ 0) :
 (Extern.SlicesOverlaps.overlaps #[tS,tS] #[tR] #[.slice (some a) la ca,.slice (some b) lb cb]).run P w = .ok (.bool false) w:=by
 have hnb : (a.block != b.block) = true:=by simpa using hne
 have hnb' : (a.block == b.block) = false:=by simpa using hne
 have hsa : w.shape? a.block = some (tA,cA.size):=by simp [World.shape?,ha]
 have hsb : w.shape? b.block = some (tB,cB.size):=by simp [World.shape?,hb]
 have hfb : w.frozen? b = false:=by simp [World.frozen?,hb]
 have hfe : ∀ n,w.frozen? { block:=b.block,off:=n } = false:=fun n=>by simp [World.frozen?,hb]
 obtain ⟨kB,hkB⟩ : ∃ kB,cB.size = kB + 1:=⟨cB.size - 1,by omega⟩
 rw [hkB] at hsb
 change Sem.run P (α := Value) (do
  let some t := (#[tS, tS] : Array TypeId)[0]? | stuck "slices.overlaps: no parameter types"
  let .slice elem ← underlying t | stuck "slices.overlaps: slice type expected"
  let size ← sizeOf elem
  match (some a : Option Addr),(some b : Option Addr) with
  | some a, some b =>
   if la = 0 \/ lb = 0 \/ size = 0 then pure (Value.bool false)
   else if a.block != b.block && (← frozen a) && (← frozen b) then unsupported .addressObserved
   else do
    if a.block != b.block then do
     noView a;noView b
     if ← mayBeOne a b then return Value.bool ((← choose (.extern "sameAddr.stringBytes" 2)) == 1)
    pure (Value.bool (a.block == b.block && a.off < b.off + lb * size && b.off < a.off + la * size))
  | _,_=>pure (Value.bool false)) w = _
 by_cases h0 : la = 0 \/ lb = 0 \/ size = 0
 ·simp [run_underlying ht,hz,h0]
 ·have hl : lb ≠ 0 := fun h => h0 (.inr (.inl h))
  cases hA0 : cA.size with
  | zero=>exact absurd hA0 hA
  | succ kA =>
   rw [hA0] at hsa
   have hfa2 : ∃ f2,w.frozen? { block:=a.block,off:=kA + 1 } = f2:=⟨_,rfl⟩
   obtain ⟨f2,hfa2⟩:=hfa2
   obtain ⟨fa,hfa⟩ : ∃ f,w.frozen? a = f:=⟨_,rfl⟩
   cases fa <;> cases f2 <;> simp [run_underlying ht,hz,h0,hnb,hnb',frozen,noView,viewAt,mayBeOne,stringish,shape,Sem.run,hsa,hsb,hfa,hfa2,hfb,hfe]
end
def insL (c : Nat) (cur : Array Value) (i n : Nat) (vs : List Value) : List Value := cur.toList.take (i * c) ++ vs ++ (cur.toList.drop (i * c)).take ((n - i) * c)
theorem insL_get {c : Nat} {cur : Array Value} {i n : Nat} {vs : List Value} (hv : vs.length = c) (hi : i <= n) (hn : n * c <= cur.size) (k : Nat) (hk : k < (n + 1) * c) :
 (insL c cur i n vs)[k]? = if k < i * c then cur[k]? else if k < (i + 1) * c then vs[k - i * c]? else cur[k - c]?:=by
 have e1 : (n - i) * c = n * c - i * c:=Nat.sub_mul _ _ _
 have e2 : (i + 1) * c = i * c + c:=by rw [Nat.add_mul,Nat.one_mul]
 have e3 : (n + 1) * c = n * c + c:=by rw [Nat.add_mul,Nat.one_mul]
 have e4 : i * c <= n * c:=Nat.mul_le_mul_right _ hi
 have l1 : (cur.toList.take (i * c)).length = i * c:=by simp;omega
 unfold insL
 rw [e1,e2]
 split
 ·rename_i h1
  rw [List.append_assoc,List.getElem?_append_left (by omega),List.getElem?_take,if_pos h1];simp
 ·split
  ·rename_i h1 h2
   rw [List.getElem?_append_left (by simp only [List.length_append];omega),List.getElem?_append_right (by omega),l1]
  ·rename_i h1 h2
   have l2 : (cur.toList.take (i * c) ++ vs).length = i * c + c:=by rw [List.length_append,l1,hv]
   rw [List.getElem?_append_right (by omega),l2,List.getElem?_take,if_pos (by omega),List.getElem?_drop]
   rw [show i * c + (k - (i * c + c)) = k - c by omega];simp
theorem mid_get {c : Nat} {cur : Array Value} {i n : Nat} (k : Nat) (hk : k < (n - i) * c) : ((cur.toList.drop (i * c)).take ((n - i) * c))[k]? = cur[i * c + k]? := by
 rw [List.getElem?_take,if_pos hk,List.getElem?_drop];simp
theorem mid_len {c : Nat} {cur : Array Value} {i n : Nat} (hn : n * c <= cur.size) : ((cur.toList.drop (i * c)).take ((n - i) * c)).length = (n - i) * c := by
 have e1 : (n - i) * c = n * c - i * c:=Nat.sub_mul _ _ _
 simp;omega
theorem ins_get_shift [Glob] {c : Nat} {cur : Array Value} {i n : Nat} {vs : List Value} (hv : vs.length = c) (hi : i <= n) (hn : (n + 1) * c <= cur.size) (k : Nat) (hk : k < (n + 1) * c) :
 (spl (spl cur ((i + 1) * c) ((cur.toList.drop (i * c)).take ((n - i) * c))) (i * c) vs)[k]? = (insL c cur i n vs)[k]?:=by
 have e1 : (n - i) * c = n * c - i * c:=Nat.sub_mul _ _ _
 have e2 : (i + 1) * c = i * c + c:=by rw [Nat.add_mul,Nat.one_mul]
 have e3 : (n + 1) * c = n * c + c:=by rw [Nat.add_mul,Nat.one_mul]
 have e4 : i * c <= n * c:=Nat.mul_le_mul_right _ hi
 have hm:=mid_len (c:=c) (i:=i) (cur:=cur) (n:=n) (by omega)
 have hs : (spl cur ((i + 1) * c) ((cur.toList.drop (i * c)).take ((n - i) * c))).size = cur.size:=xB (by omega)
 rw [insL_get hv hi (by omega) k hk,spl_get (by omega),hv]
 by_cases h1 : k < i * c
 ·rw [if_neg (by omega),spl_get (by omega),if_neg (by omega),if_pos h1]
 ·by_cases h2 : k < (i + 1) * c
  ·rw [if_pos (by omega),if_neg h1,if_pos h2]
  ·rw [if_neg (by omega), spl_get (by omega), hm, if_pos (by omega), if_neg h1, if_neg h2, mid_get _ (by omega)]
   rw [show i * c + (k - (i + 1) * c) = k - c by omega]
theorem ins_get_grow [Glob] {c : Nat} {cur R : Array Value} {i n : Nat} {vs : List Value} (hv : vs.length = c) (hi : i <= n) (hn : n * c <= cur.size) (hR : (n + 1) * c <= R.size) (hRc : ∀ k, k < i * c -> R[k]? = cur[k]?) (k : Nat) (hk : k < (n + 1) * c) :
 (spl (spl R (i * c) vs) ((i + 1) * c) ((cur.toList.drop (i * c)).take ((n - i) * c)))[k]? = (insL c cur i n vs)[k]?:=by
 have e1 : (n - i) * c = n * c - i * c:=Nat.sub_mul _ _ _
 have e2 : (i + 1) * c = i * c + c:=by rw [Nat.add_mul,Nat.one_mul]
 have e3 : (n + 1) * c = n * c + c:=by rw [Nat.add_mul,Nat.one_mul]
 have e4 : i * c <= n * c:=Nat.mul_le_mul_right _ hi
 have hm:=mid_len (c:=c) (i:=i) (cur:=cur) (n:=n) hn
 have hs : (spl R (i * c) vs).size = R.size:=xB (by omega)
 rw [insL_get hv hi hn k hk,spl_get (by omega),hm]
 by_cases h1 : k < i * c
 ·rw [if_neg (by omega),spl_get (by omega),if_neg (by omega),if_pos h1,hRc k h1]
 ·by_cases h2 : k < (i + 1) * c
  ·rw [if_neg (by omega),spl_get (by omega),if_pos (by omega),if_neg h1,if_pos h2]
  ·rw [if_pos (by omega), if_neg h1, if_neg h2, mid_get _ (by omega)]
   rw [show i * c + (k - (i + 1) * c) = k - c by omega]
theorem EL.ins [Glob] {w : World} {G : Nat -> Prop} {c : Nat} {l : List (List PV)} {cur : Array Value} (h : EL w G c l (fun n => cur[n]?)) {el : List PV} {vs : List Value} (hv : vs.length = c) (hel : el.length = c)
 (he : ∀ (j : Nat) (p : PV),el[j]? = some p -> p.one = true /\ ∃ u,vs[j]? = some u /\ RP w G p u) {i : Nat} (hi : i <= l.length) (hn : l.length * c <= cur.size) {R : Array Value} (hR : ∀ k,k < (l.length + 1) * c -> R[k]? = (insL c cur i l.length vs)[k]?) :
 EL w G c (l.take i ++ el :: l.drop i) (fun n=>R[n]?):=by
 intro k e hk
 have hkl : k < l.length + 1 := by
  have:=(List.getElem?_eq_some_iff.1 hk).1
  simp at this;omega
 have key : ∀ j, j < c -> R[k * c + j]? = (insL c cur i l.length vs)[k * c + j]? := fun j hj => hR _ (by
  have : (k + 1) * c <= (l.length + 1) * c:=Nat.mul_le_mul_right _ hkl
  rw [Nat.add_mul k,Nat.one_mul] at this;omega)
 have bnd : ∀ j, j < c -> k * c + j < (l.length + 1) * c := fun j hj => by
  have : (k + 1) * c <= (l.length + 1) * c:=Nat.mul_le_mul_right _ hkl
  rw [Nat.add_mul k,Nat.one_mul] at this;omega
 rcases Nat.lt_trichotomy k i with hlt | rfl | hgt
 ·rw [List.getElem?_append_left (by simp; omega), List.getElem?_take, if_pos hlt] at hk
  obtain ⟨h1,h2⟩:=h k e hk
  refine ⟨h1,fun j p hj=>?_⟩
  obtain ⟨h3,u,h4,h5⟩:=h2 j p hj
  have hjc : j < c:=by rw [<- h1];exact (List.getElem?_eq_some_iff.1 hj).1
  refine ⟨h3,u,?_,h5⟩
  have : (k + 1) * c <= i * c:=Nat.mul_le_mul_right _ hlt
  rw [Nat.add_mul,Nat.one_mul] at this
  show R[k * c + j]? = some u
  rw [key j hjc,insL_get hv hi hn _ (bnd j hjc),if_pos (by omega)]
  exact h4
 ·rw [List.getElem?_append_right (by simp; omega)] at hk
  have : k - (l.take k).length = 0:=by simp;omega
  rw [this] at hk
  simp only [List.getElem?_cons_zero,wH] at hk
  subst hk
  refine ⟨hel,fun j p hj=>?_⟩
  obtain ⟨h3,u,h4,h5⟩:=he j p hj
  have hjc : j < c:=by rw [<- hel];exact (List.getElem?_eq_some_iff.1 hj).1
  refine ⟨h3,u,?_,h5⟩
  show R[k * c + j]? = some u
  have e2 : (k + 1) * c = k * c + c:=by rw [Nat.add_mul,Nat.one_mul]
  rw [key j hjc,insL_get hv hi hn _ (bnd j hjc),if_neg (by omega),if_pos (by omega),show k * c + j - k * c = j by omega]
  exact h4
 ·rw [List.getElem?_append_right (by simp; omega)] at hk
  obtain ⟨k',rfl⟩ : ∃ k',k = k' + 1:=⟨k - 1,by omega⟩
  have : k' + 1 - (l.take i).length = (k' - i) + 1:=by simp;omega
  rw [this,List.getElem?_cons_succ,List.getElem?_drop,show i + (k' - i) = k' by omega] at hk
  obtain ⟨h1,h2⟩:=h k' e hk
  refine ⟨h1,fun j p hj=>?_⟩
  obtain ⟨h3,u,h4,h5⟩:=h2 j p hj
  have hjc : j < c:=by rw [<- h1];exact (List.getElem?_eq_some_iff.1 hj).1
  refine ⟨h3,u,?_,h5⟩
  show R[(k' + 1) * c + j]? = some u
  have e1 : (i + 1) * c <= (k' + 1) * c:=Nat.mul_le_mul_right _ (by omega)
  have e2 : (i + 1) * c = i * c + c:=by rw [Nat.add_mul,Nat.one_mul]
  have e3 : (k' + 1) * c = k' * c + c:=by rw [Nat.add_mul,Nat.one_mul]
  rw [key j hjc,insL_get hv hi hn _ (bnd j hjc),if_neg (by omega),if_neg (by omega),show (k' + 1) * c + j - c = k' * c + j by omega]
  exact h4
theorem grow2 (w : World) (R X1 X2 : Array Value) (e : TypeId) : Keeps (fun _ => False) w (((w.alloc (.cells R e)).drew.setRow w.heap.size X1).drew.setRow w.heap.size X2) ∧
 (((w.alloc (.cells R e)).drew.setRow w.heap.size X1).drew.setRow w.heap.size X2).heap[w.heap.size]? = some (.cells X2 e (0,0)) /\ w.heap.size < (((w.alloc (.cells R e)).drew.setRow w.heap.size X1).drew.setRow w.heap.size X2).heap.size:=by
 have h1 : (w.alloc (.cells R e)).drew.heap[w.heap.size]? = some (.cells R e (0,0)):=heap_alloc_new w _
 have h2:=setRow_heap (w.alloc (.cells R e)).drew w.heap.size R X1 e (0,0) h1
 have h3:=setRow_heap (((w.alloc (.cells R e)).drew.setRow w.heap.size X1).drew) w.heap.size X1 X2 e (0,0) h2
 refine ⟨⟨rfl,rfl,rfl,Nat.le_of_lt (lt_of_heap h3),fun k hk _=>?_⟩,h3,lt_of_heap h3⟩
 rw [setRow_other (((w.alloc (.cells R e)).drew.setRow w.heap.size X1).drew) w.heap.size k X2 (by omega)]
 exact (setRow_other (w.alloc (.cells R e)).drew w.heap.size k X1 (by omega)).trans (Go.RowKit.Below.heap_alloc w _ k hk)
theorem shift2 (w : World) (b : Nat) (R X1 X2 : Array Value) (e : TypeId) (hg : w.heap[b]? = some (.cells R e (0, 0))) : Keeps (fun k => k = b) w ((w.drew.setRow b X1).setRow b X2) /\ ((w.drew.setRow b X1).setRow b X2).heap[b]? = some (.cells X2 e (0, 0)) := by
 have h2:=setRow_heap w.drew b R X1 e (0,0) hg
 have h3:=setRow_heap (w.drew.setRow b X1) b X1 X2 e (0,0) h2
 refine ⟨⟨rfl,rfl,rfl,?_,fun k hk hne=>?_⟩,h3⟩
 ·have e1 : (w.drew.setRow b X1).heap.size = w.heap.size := by simp
  have e2 : ((w.drew.setRow b X1).setRow b X2).heap.size = (w.drew.setRow b X1).heap.size:=by simp
  omega
 ·rw [setRow_other (w.drew.setRow b X1) b k X2 hne]
  exact setRow_other w.drew b k X1 hne
theorem nmF1 (blk : Blk) (n : Nat) : nmF [blk] [] n = if n = 1024 then some blk else none := by
 unfold nmF
 by_cases h : n < 1024
 ·rw [if_pos h,if_neg (by omega)]
 ·rw [if_neg h]
  by_cases h2 : n < 2048
  ·rw [if_pos h2]
   by_cases h3 : n = 1024
   ·subst h3;simp
   ·rw [if_neg h3]
    exact List.getElem?_eq_none (by simp;omega)
  ·rw [if_neg h2,if_neg (by omega)];simp
theorem row_out [Glob] {w w' : World} {F : Nat -> Prop} {m : Nm} {e c e' c' : Nat} {l l' : List (List PV)} (hp : Hp w F m (nmF [.row e c l] [])) {v : Value} (hk : Keeps (fun k => owns m (nmF [.row e c l] []) 1024 k) w w')
 (hr : RBr w' w (Gd F m (nmF [.row e c l] [])) e' c' l' v) (ho : ∀ k,ownB v = some k -> (owns m (nmF [.row e c l] []) 1024 k \/ w.heap.size <= k) /\ k < w'.heap.size) :
 Keeps (fun k=>∃ n,owns m (nmF [.row e c l] []) n k) w w' /\ OutR w F (fun k=>∃ n,owns m (nmF [.row e c l] []) n k) m (.returned v) w' (.ret (.row 1024) [] [.row e' c' l']):=by
 let m' : Nm:=⟨m.i,fun n=>if n = 1024 then v else m.r n⟩
 have how : ∀ n k, owns m' (nmF [.row e' c' l'] []) n k ↔ n = 1024 /\ ownB v = some k := fun n k => by
  unfold owns
  rw [nmF1]
  by_cases h : n = 1024
  ·subst h;simp [m']
  ·simp [h]
 have ht : Turn w w' (Gd F m (nmF [.row e c l] [])) (Gd F m' (nmF [.row e' c' l'] [])) := by
  refine ⟨hk.size,fun k hlt hg=>hk.block k hlt fun h=>hg (.inr ⟨_,h⟩),fun k hlt hg=>?_⟩
  rcases hg with hf | ⟨n,hn⟩
  ·exact .inl hf
  ·obtain ⟨-, h2⟩ := (how n k).1 hn
   rcases (ho k h2).1 with h3 | h3
   ·exact .inr ⟨_,h3⟩
   ·omega
 refine ⟨hk.mono fun k h=>⟨_,h⟩,v,m',rfl,⟨fun k hf=>Nat.lt_of_lt_of_le (hp.fold k hf) hk.size,fun n k hn=>?_,fun n n' k hn hn'=>?_,fun n blk hn=>?_,fun g e he=>(hp.glob g e he).move ht.size ht.block ht.less⟩,fun n k hn=>?_,fun n _ _=>rfl,?_⟩
 ·obtain ⟨-, h2⟩ := (how n k).1 hn
  refine ⟨(ho k h2).2,fun hf=>?_⟩
  rcases (ho k h2).1 with h3 | h3
  ·exact (hp.own _ _ h3).2 hf
  ·have:=hp.fold k hf;omega
 ·rw [((how n k).1 hn).1,((how n' k).1 hn').1]
 ·rw [nmF1] at hn
  split at hn
  ·rename_i h
   simp only [wH] at hn
   subst hn h
   exact hr.RB ht (by simp [m'])
  ·simp at hn
 ·obtain ⟨-, h2⟩ := (how n k).1 hn
  rcases (ho k h2).1 with h3 | h3
  ·exact .inr ⟨_,h3⟩
  ·exact .inl h3
 ·exact RV.of0 (v:=.row _) (by simp [RV0,m'])
end Go.Av
