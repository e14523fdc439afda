/- Texts that the proof needs: IW WAw WZ WM6. -/
import Derived.Test.YtpilcadofjcdoaaP12WatchSees
import Derived.Test.YtpilcadofjcdoaaP20WatchSees
import Derived.Test.YtpilcadofjcdoaaP13WatchSees
import Derived.WalkKit
import Derived.Deep.RegionLaw
import Derived.Test.YtpilcadofjcdoaaP21WatchSees
import Derived.Test.YtpilcadofjcdoaaP18WatchSees
import Derived.Test.YtpilcadofjcdoaaP15WatchSees
import Derived.Test.YtpilcadofjcdoaaP29WatchSees
import Derived.Test.YtpilcadofjcdoaaP24WatchSees
import Derived.Test.YtpilcadofjcdoaaP34WatchSees
import Derived.Test.YtpilcadofjcdoaaP30WatchSees
import Derived.Test.YtpilcadofjcdoaaP33WatchSees
namespace Go.Proofs.Ytpilcadofjcdoaa
set_option linter.unusedSimpArgs false
set_option linter.unusedVariables false
open Go Go.Av Go.Lib Go.RowKit
set_option maxHeartbeats 4000000 in
set_option maxRecDepth 100000 in
theorem ins_shift (b n c i vb voff vc : Nat) (cur cA : Array Value) (vs : List Value) (w : World) (tA : TypeId) (fA : Nat × Nat) (hg : w.heap[b]? = some (.cells cur 37 (0, 0))) (hsz : cur.size = c * 3)
 (hi : i < n) (hroom : n + 1 <= c) (hc63 : c <= 9223372036854775807) (hvb : vb ≠ b) (hv : w.heap[vb]? = some (.cells cA tA fA)) (hvl : vs.length = 3) (hvs : ∀ (j : Nat) (v : Value),vs[j]? = some v -> cA[voff + j]? = some v)
 (h1 : ∀ v ∈ vs,v.oneCell' = true) (h1c : ∀ (j : Nat) (v : Value),j < n * 3 -> cur[j]? = some v -> v.oneCell' = true) :
 Calls Try.prog 38 #[.slice (some ⟨b, 0, none⟩) n c, .int .i64 i, .slice (some ⟨vb, voff, none⟩) 1 vc] w fun e w' =>
  e = .returned (.slice (some ⟨b,0,none⟩) (n + 1) c) ∧
  w' = (w.drew.setRow b (spl cur ((i + 1) * 3) ((cur.toList.drop (i * 3)).take ((n - i) * 3)))).setRow b (spl (spl cur ((i + 1) * 3) ((cur.toList.drop (i * 3)).take ((n - i) * 3))) (i * 3) vs):=by
 have hu : Try.prog.underlying 58 = some (.slice 37):=(Try.tab 58 _ rfl).kind
 obtain ⟨ti,tz,hti,htz0,-⟩:=(Try.tab 37 _ rfl).info
 have htz : ti.size = 3:=htz0
 have hz2 : ¬ ((i : Int) = (n : Int)):=by omega
 have hov : ∀ lb cb, (callFunc 58 #[.slice (some ⟨vb, voff, none⟩) 1 vc, .slice (some ⟨b, (i + 1) * 3, none⟩) lb cb]).run Try.prog w = .ok (.value (.bool false)) w := fun lb cb => by
  rw [run_callFunc_extern Try.func58 (by kernel_rfl) (by kernel_rfl) (by kernel_rfl) (e := Extern.SlicesOverlaps.overlaps #[58, 58] #[4]) (by kernel_rfl),
   run_overlaps 58 4 37 hu 3 ((Try.tab 37 _ rfl).run_info w) (a := ⟨vb, voff, none⟩) (b := ⟨b, (i + 1) * 3, none⟩) hvb hv hg (by omega) (fun h0 => by
    have:=hvs 0 _ (List.getElem?_eq_getElem (by omega))
    rw [Array.getElem?_eq_none (by omega)] at this;simp at this)]
  rfl
 obtain ⟨c1,hc1⟩ : ∃ c1,c1 = (cur.toList.drop (i * 3)).take ((n - i) * 3):=⟨_,rfl⟩
 have hc1l : c1.length = (n - i) * 3:=by rw [hc1];simp;omega
 obtain ⟨X1,hX1⟩ : ∃ X1,X1 = spl cur ((i + 1) * 3) c1:=⟨_,rfl⟩
 have hX1s : X1.size = cur.size:=by rw [hX1];exact xB (by omega)
 have hcp1 : ∀ ty dc sc, (Builtin.copy_ #[58, 58] ty #[.slice (some ⟨b, (i + 1) * 3, none⟩) (n - i) dc, .slice (some ⟨b, i * 3, none⟩) (n + 1 - i) sc]).run Try.prog w.drew = .ok (goInt (n - i : Nat)) (w.drew.setRow b X1) := fun ty dc sc => by
  rw [hX1]
  refine run_copyRow (w:=w.drew) (n:=n - i) (o:=(i + 1) * 3) (dLen:=n - i) (sLen:=n + 1 - i) (g:=b) (b:=some ⟨b,i * 3,none⟩) hu hti hg (by simp only [Nat.min_def];split <;> omega) (run_first_row (w:=w.drew) (n:=n - i) (size:=ti.size) hg (by rw [hc1l,htz]) fun j v hj=>?_) (by omega) (fun v hv=>?_)
  ·rw [hc1, List.getElem?_take] at hj
   split at hj
   ·rw [List.getElem?_drop] at hj;simpa using hj
   ·simp at hj
  ·obtain ⟨j, hj2⟩ := List.mem_iff_getElem?.1 hv
   rw [hc1,List.getElem?_take] at hj2
   split at hj2
   ·rw [List.getElem?_drop] at hj2
    exact h1c (i * 3 + j) _ (by omega) (by simpa using hj2)
   ·simp at hj2
 have hcp2 : ∀ (W : World), W.heap = (w.drew.setRow b X1).heap -> ∀ ty dc, (Builtin.copy_ #[58, 58] ty #[.slice (some ⟨b, i * 3, none⟩) (n + 1 - i) dc, .slice (some ⟨vb, voff, none⟩) 1 vc]).run Try.prog W = .ok (goInt (1 : Nat)) (W.setRow b (spl X1 (i * 3) vs)) := fun W hW ty dc => by
  have hgW : W.heap[b]? = some (.cells X1 37 (0,0)):=by rw [hW];exact setRow_heap w.drew _ _ _ _ _ hg
  have hvW : W.heap[vb]? = some (.cells cA tA fA):=by rw [hW];exact (setRow_other w.drew b vb X1 hvb).trans hv
  refine run_copyRow (n:=1) (o:=i * 3) (dLen:=n + 1 - i) (sLen:=1) (g:=b) (b:=some ⟨vb,voff,none⟩) hu hti hgW (by simp only [Nat.min_def];split <;> omega) (run_firstCells_some W _ 1 _ 1 vc vs (by rw [hvl,htz]) fun j v hj=>?_) (by omega) h1
  rw [addr_add]
  simpa [World.cell?,hvW] using hvs j v hj
 rw [<- hc1,<- hX1]
 have hw1 : IntKind.i64.wrap ((i : Int) + 1) = (i : Int) + 1:=by rw [IntKind.wrap_i64];omega
 have hb1 : (0 : Int) <= (i : Int) + 1:=by omega
 have htn : ((i : Int) + 1).toNat = i + 1:=by omega
 have hb2 : ¬ (c = i + 1):=by omega
 have hb3 : (i : Int) <= (n : Int) + 1:=by omega
 have hb4 : ¬ (c = i):=by omega
 have hin : i <= n:=by omega
 have hin1 : i <= n + 1:=by omega
 go_enter Try.func38,Try.ntmps38
 go_wp2_with (simp only [hov])
 go_region_law (refine step_copy_eq rfl _ _ 58 58 rfl _ _ (by simp [Act.eval,Act.put]) (by simp [Act.eval,Act.put]) (hcp1 _ _ _) ?_)
 go_wp2_with (at_builtin;refine wpList_copy_eq _ rfl _ _ 58 58 rfl rfl rfl (hcp2 _ rfl _ _) ?_)
 go_ret
 exact ⟨rfl,by rw [hX1,hc1]⟩
set_option maxHeartbeats 4000000 in
set_option maxRecDepth 100000 in
theorem ins_end (sb : Option Addr) (n c : Nat) (vb voff vc : Nat) (w : World) (hnc : n <= c) (hc63 : c <= 9223372036854775807) {r : Value} {w1 : World}
 (hr : (Builtin.append_ #[58,58] 58 #[.slice sb n c,.slice (some ⟨vb,voff,none⟩) 1 vc]).run Try.prog w = .ok r w1) :
 Calls Try.prog 38 #[.slice sb n c,.int .i64 n,.slice (some ⟨vb,voff,none⟩) 1 vc] w fun e w'=>e = .returned r /\ w' = w1:=by
 have hu : Try.prog.underlying 58 = some (.slice 37):=(Try.tab 58 _ rfl).kind
 cases sb with
 | none =>
  go_enter Try.func38,Try.ntmps38
  go_wp2_with (at_builtin;refine Lib.wpList_append_run _ rfl _ _ _ _ rfl _ _ rfl rfl _ _ hr ?_)
  go_ret
  exact ⟨rfl,rfl⟩
 | some a =>
  by_cases hcn : c = n
  ·go_enter Try.func38, Try.ntmps38
   go_wp2_with (at_builtin;refine Lib.wpList_append_run _ rfl _ _ _ _ rfl _ _ rfl rfl _ _ hr ?_)
   go_ret
   exact ⟨rfl,rfl⟩
  ·go_enter Try.func38, Try.ntmps38
   go_wp2_with (at_builtin;refine Lib.wpList_append_run _ rfl _ _ _ _ rfl _ _ rfl rfl _ _ hr ?_)
   go_ret
   exact ⟨rfl,rfl⟩
set_option maxHeartbeats 4000000 in
set_option maxRecDepth 100000 in
theorem ins_grow (b n c i vb voff vc : Nat) (cur cA : Array Value) (vs : List Value) (w : World) (tA : TypeId) (fA : Nat × Nat) (hg : w.heap[b]? = some (.cells cur 37 (0, 0))) (hsz : n * 3 <= cur.size)
 (hi : i < n) (hnc : n <= c) (hcn : c < n + 1) (hbig : (n + 1) * 32 <= 140737488355328) (hv : w.heap[vb]? = some (.cells cA tA fA)) (hvl : vs.length = 3) (hvs : ∀ (j : Nat) (v : Value),vs[j]? = some v -> cA[voff + j]? = some v)
 (h1 : ∀ v ∈ vs,v.oneCell' = true) (h1c : ∀ (j : Nat) (v : Value),j < n * 3 -> cur[j]? = some v -> v.oneCell' = true) :
 Calls Try.prog 38 #[.slice (some ⟨b, 0, none⟩) n c, .int .i64 i, .slice (some ⟨vb, voff, none⟩) 1 vc] w fun e w' =>
  ∃ (C : Nat) (R : Array Value), e = .returned (.slice (some ⟨w.heap.size, 0, none⟩) (n + 1) C) /\ n + 1 <= C /\ C <= maxLen /\ R.size = C * 3 /\ Keeps (fun _ => False) w w' /\ w'.heap[w.heap.size]? = some (.cells R 37 (0, 0)) /\ w.heap.size < w'.heap.size ∧
   ∀ k,k < (n + 1) * 3 -> R[k]? = (insL 3 cur i n vs)[k]?:=by
 have hu : Try.prog.underlying 58 = some (.slice 37):=(Try.tab 58 _ rfl).kind
 have hu2 : Try.prog.underlying 3 = some (.int .i64):=(Try.tab 3 _ rfl).kind
 obtain ⟨ti,tz,hti,htz0,htb0,htz1,htz2,-⟩:=(Try.tab 37 _ rfl).info
 have htz : ti.size = 3:=htz0
 have htb : ti.bytes = 32:=htb0
 have htzc : tz.cells.size = 3:=by have:=congrArg List.length htz2;simpa using this
 have hz2 : ¬ ((i : Int) = (n : Int)):=by omega
 have hbw : b < w.heap.size:=lt_of_heap hg
 have hvw : vb < w.heap.size:=lt_of_heap hv
 have hkk : (n : Int) + 1 - (i : Int) = ((n + 1 - i : Nat) : Int):=by omega
 have hold : (Builtin.firstCells ti.size i (.slice (some ⟨b, 0, none⟩) i c)).run Try.prog w.drew = .ok (cur.toList.take (i * 3)).toArray w.drew :=
  run_first_row (w := w.drew) hg (by rw [htz]; simp; omega) fun j v hj => by
   rw [List.getElem?_take] at hj
   split at hj
   ·simpa using hj
   ·simp at hj
 obtain ⟨C,hC⟩ : ∃ C,C = grownCap w (n + 1) c 37:=⟨_,rfl⟩
 obtain ⟨hC1,hC2⟩:=grownCap_bounds w (n + 1) c 37 (by omega)
 rw [<- hC] at hC1 hC2
 have hC3 : C <= 9223372036854775807:=hC2
 obtain ⟨R0,hR0⟩ : ∃ R0 : Array Value,R0 = (cur.toList.take (i * 3)).toArray ++ Builtin.zeroCells tz.cells (n + 1 - i) ++ Builtin.zeroCells tz.cells (C - (n + 1)):=⟨_,rfl⟩
 have hR0s : R0.size = C * 3:=by rw [hR0];simp [zeroCells_size,htzc];omega
 have hR0c : ∀ k, k < i * 3 -> R0[k]? = cur[k]? := fun k hk => by
  have h1 : k < (cur.toList.take (i * 3)).toArray.size:=by simp;omega
  rw [hR0,Array.append_assoc,Array.getElem?_append_left h1]
  rw [List.getElem?_toArray,List.getElem?_take,if_pos hk];simp
 have hrz : ∀ ty, (Builtin.append_ #[58, 3] ty #[.slice (some ⟨b, 0, none⟩) i c, .int .i64 ((n : Int) + 1 - (i : Int))]).run Try.prog w =
  .ok (.slice (some ⟨w.heap.size,0,none⟩) (n + 1) C) (w.drew.alloc (.cells R0 37)):=fun ty=>by
  have h := Lib.run_append_grow_zeros w 58 3 ty 37 ti tz .i64 .i64 hu hu2 hti htz1 (some ⟨b, 0, none⟩) i c (cur.toList.take (i * 3)) hold (n + 1 - i) (by omega) (by omega) (by omega) (by omega) (by rw [htb]; omega) (by
   rw [htb,show i + (n + 1 - i) = n + 1 by omega]
   exact growslice_fits (by omega) hbig)
  rw [show i + (n + 1 - i) = n + 1 by omega,<- hC,<- hR0] at h
  rw [hkk]
  exact h
 obtain ⟨c1,hc1⟩ : ∃ c1,c1 = (cur.toList.drop (i * 3)).take ((n - i) * 3):=⟨_,rfl⟩
 have hc1l : c1.length = (n - i) * 3:=by rw [hc1];exact mid_len hsz
 obtain ⟨W1,hW1⟩ : ∃ W1,W1 = w.drew.alloc (.cells R0 37):=⟨_,rfl⟩
 have hW1h : W1.heap[w.heap.size]? = some (.cells R0 37 (0,0)):=by rw [hW1];exact heap_alloc_new w.drew _
 have hW1b : ∀ k,k < w.heap.size -> W1.heap[k]? = w.heap[k]?:=fun k hk=>by rw [hW1];exact Go.RowKit.Below.heap_alloc w.drew _ k hk
 have hW1s : W1.heap.size = w.heap.size + 1:=by rw [hW1];show (w.heap.push _).size = _;simp
 rw [<- hW1] at hrz
 have hcpA : ∀ (W : World), W.heap = W1.heap -> ∀ ty dc, (Builtin.copy_ #[58, 58] ty #[.slice (some ⟨w.heap.size, i * 3, none⟩) (n + 1 - i) dc, .slice (some ⟨vb, voff, none⟩) 1 vc]).run Try.prog W = .ok (goInt (1 : Nat)) (W.setRow w.heap.size (spl R0 (i * 3) vs)) := fun W hW ty dc => by
  refine run_copyRow (w:=W) (n:=1) (o:=i * 3) (dLen:=n + 1 - i) (sLen:=1) (g:=w.heap.size) (b:=some ⟨vb,voff,none⟩) hu hti (by rw [hW];exact hW1h) (by simp only [Nat.min_def];split <;> omega) (run_firstCells_some W _ 1 _ 1 vc vs (by rw [hvl,htz]) fun j v hj=>?_) (by omega) h1
  rw [addr_add]
  simpa [World.cell?,hW,hW1b vb hvw,hv] using hvs j v hj
 obtain ⟨R1,hR1⟩ : ∃ R1,R1 = spl R0 (i * 3) vs:=⟨_,rfl⟩
 have hR1s : R1.size = R0.size:=by rw [hR1];exact xB (by omega)
 obtain ⟨W2,hW2⟩ : ∃ W2,W2 = W1.setRow w.heap.size (spl R0 (i * 3) vs):=⟨_,rfl⟩
 have hcpB : ∀ (W : World), W.heap = W2.heap -> ∀ ty dc sc, (Builtin.copy_ #[58, 58] ty #[.slice (some ⟨w.heap.size, (i + 1) * 3, none⟩) (n - i) dc, .slice (some ⟨b, i * 3, none⟩) (n - i) sc]).run Try.prog W = .ok (goInt (n - i : Nat)) (W.setRow w.heap.size (spl R1 ((i + 1) * 3) c1)) := fun W hW ty dc sc => by
  have hg2 : W.heap[w.heap.size]? = some (.cells R1 37 (0,0)):=by rw [hW,hW2,hR1];exact setRow_heap W1 _ _ _ _ _ hW1h
  have hgb : W.heap[b]? = some (.cells cur 37 (0,0)):=by rw [hW,hW2];exact (setRow_other W1 _ b _ (by omega)).trans ((hW1b b hbw).trans hg)
  refine run_copyRow (w:=W) (n:=n - i) (o:=(i + 1) * 3) (dLen:=n - i) (sLen:=n - i) (g:=w.heap.size) (b:=some ⟨b,i * 3,none⟩) hu hti hg2 (by simp only [Nat.min_def];split <;> omega) (run_first_row (w:=W) (n:=n - i) (size:=ti.size) hgb (by rw [hc1l,htz]) fun j v hj=>?_) (by omega) (fun v hv=>?_)
  ·rw [hc1, List.getElem?_take] at hj
   split at hj
   ·rw [List.getElem?_drop] at hj;simpa using hj
   ·simp at hj
  ·obtain ⟨j, hj2⟩ := List.mem_iff_getElem?.1 hv
   rw [hc1,List.getElem?_take] at hj2
   split at hj2
   ·rw [List.getElem?_drop] at hj2
    exact h1c (i * 3 + j) _ (by omega) (by simpa using hj2)
   ·simp at hj2
 clear hC hR0 hold hkk htz2
 have hw1 : IntKind.i64.wrap ((i : Int) + 1) = (i : Int) + 1:=by rw [IntKind.wrap_i64];omega
 have hb1 : (0 : Int) <= (i : Int) + 1:=by omega
 have htn : ((i : Int) + 1).toNat = i + 1:=by omega
 have hb2 : ¬ (C = i + 1):=by omega
 have hb3 : (i : Int) <= (n : Int) + 1:=by omega
 have hb4 : ¬ (C = i):=by omega
 have hb5 : ¬ (c = i):=by omega
 have hin : i <= n:=by omega
 have hin1 : i <= n + 1:=by omega
 have hz3 : (c : Int) < (n : Int) + 1:=by omega
 subst hW2 hW1
 go_enter Try.func38,Try.ntmps38
 go_wp2_with (at_builtin;refine Lib.wpList_append_run _ rfl _ _ _ _ rfl _ _ rfl rfl _ _ (hrz _) ?_)
 rw [hcpA (w.alloc (.cells R0 37)).drew rfl]
 go_wp2
 go_region_law (refine step_copy_eq rfl _ _ 58 58 rfl (.slice (some ⟨w.heap.size,(i + 1) * 3,none⟩) (n - i) (C - (i + 1))) (.slice (some ⟨b,i * 3,none⟩) (n - i) (c - i)) (by simp [Act.eval,Act.put]) (by simp [Act.eval,Act.put]) (hcpB _ (by rfl) _ _ _) ?_)
 go_wp2
 go_ret
 obtain ⟨k1,k2,k3⟩:=grow2 w R0 (spl R0 (i * 3) vs) (spl (spl R0 (i * 3) vs) ((i + 1) * 3) ((cur.toList.drop (i * 3)).take ((n - i) * 3))) 37
 exact ⟨C,_,rfl,hC1,hC2,by rw [xB (by rw [xB (by omega)];rw [mid_len hsz];omega),xB (by omega),hR0s],k1,k2,k3,fun k hk=>ins_get_grow hvl hin hsz (by omega) hR0c k hk⟩
theorem insert_con (l : List (List PV)) (i : Nat) (el : List PV) (hi : i <= l.length) (hl : l.length <= 1000000) (hel : el.length = 3) :
 Con Try.prog 38 [.row 1024,.p (I i),.p (.sl 3 [el])] [.row 37 3 l] (.ret (.row 1024) [] [.row 37 3 (l.take i ++ el :: l.drop i)]):=by
 refine fun F w m xs hp hlen har=>.inl ⟨⟨_,Try.func38,rfl,rfl⟩,?_⟩
 obtain ⟨x0,hx0,hr0⟩:=har 0 _ rfl
 obtain ⟨x1,hx1,hr1⟩:=har 1 _ rfl
 obtain ⟨x2,hx2,hr2⟩:=har 2 _ rfl
 have hxs : xs.toArray = #[x0, x1, x2] := by
  match xs,hlen with
  | [y0,y1,y2],_=>simp at hx0 hx1 hx2;subst hx0 hx1 hx2;rfl
 rw [hxs]
 have h0 : x0 = m.r 1024:=hr0
 have h1 : x1 = .int .i64 i := by
  have hr1' : RP w _ (.v (.int .i64 i)) x1:=hr1
  cases hr1';rfl
 subst h1
 have hr2' : RP w (Gd F m (nmF [.row 37 3 l] [])) (.sl 3 [el]) x2:=hr2
 obtain ⟨news,hsrc⟩:=src_RP (P:=Try.prog) (by omega : 0 < 3) hr2'
 have hu : Try.prog.underlying 58 = some (.slice 37):=(Try.tab 58 _ rfl).kind
 obtain ⟨ti,tz,hti,htz0,htb0,htz1,htz2,-⟩:=(Try.tab 37 _ rfl).info
 have htz : ti.size = 3:=htz0
 have htb : ti.bytes = 32:=htb0
 have htzc : tz.cells.size = 3:=by have:=congrArg List.length htz2;simpa using this
 have hrb : RBr w w (Gd F m (nmF [.row 37 3 l] [])) 37 3 l (m.r 1024):=(hp.blks 1024 _ (by rw [nmF1];simp)).RBr
 have hY : ∀ k,ownB (m.r 1024) = some k -> owns m (nmF [.row 37 3 l] []) 1024 k:=fun k hk=>by unfold owns;rw [nmF1];simpa using hk
 rcases hr2'.slI with ⟨b0,-,h0⟩ | ⟨vb,voff,vc,hx2e,-,-,hvk,hve⟩
 ·simp at h0
 have hx2e : x2 = .slice (some ⟨vb,voff,none⟩) 1 vc:=hx2e
 subst hx2e
 obtain ⟨hvb,hvg⟩:=hvk (by simp)
 obtain ⟨-,hvc⟩:=hve 0 el rfl
 by_cases hend : i = l.length
 ·subst hend
  obtain ⟨v,w',hrun,hkp,hrb',hown⟩:=app_row (F:=F) (m:=m) (st:=⟨fun _=>.junk,nmF [.row 37 3 l] []⟩) hu hti htz1 (by rw [htzc,htz]) (.inl ⟨_,hu⟩) #[58,58] ⟨rfl,rfl⟩ 58 htz hsrc (by rw [htb];simp;omega) (by simp;omega) (by omega) (by omega) (.inl ⟨hrb,hY⟩)
  have hcall : ∃ sb c, m.r 1024 = .slice sb l.length c /\ l.length <= c /\ c <= 9223372036854775807 := by
   rcases hrb with ⟨-,⟨a,ha⟩,hl0⟩ | ⟨k,cap,cur,hr,-,h2,h3,-⟩
   ·exact ⟨a,0,by rw [ha,hl0];rfl,by rw [hl0];simp,by omega⟩
   ·exact ⟨_,cap,hr,h2,h3⟩
  obtain ⟨sb,c,hs,hc1,hc2⟩:=hcall
  rw [h0,hs]
  rw [hs] at hrun
  refine (ins_end sb l.length c vb voff vc w hc1 hc2 hrun).mono ?_
  rintro e w2 ⟨rfl,rfl⟩
  have e1 : l.take l.length ++ el :: l.drop l.length = l ++ [el]:=by simp
  rw [e1]
  exact row_out hp hkp hrb' hown
 ·have hlt : i < l.length := by omega
  rcases hrb with ⟨-,-,hl0⟩ | ⟨k,cap,cur,hr,hc0,hlc,hcm,hh,hsz,hels⟩
  ·rw [hl0] at hlt;simp at hlt
  have hk : owns m (nmF [.row 37 3 l] []) 1024 k:=hY k (by simp [hr,ownB];omega)
  have hvbk : vb ≠ k:=fun h=>hvg (.inr ⟨_,h ▸ hk⟩)
  have hcm' : cap <= 9223372036854775807:=hcm
  have hlsz : l.length * 3 <= cur.size:=by rw [hsz];omega
  have hcell : ∀ (j : Nat) (p : PV),el[j]? = some p -> p.one = true /\ ∃ u,w.cell? ⟨vb,voff + j,none⟩ = some u /\ RP w (Gd F m (nmF [.row 37 3 l] [])) p u:=fun j p hj=>by simpa using hvc j p hj
  have hcA : ∃ cA tA fA, w.heap[vb]? = some (.cells cA tA fA) := by
   obtain ⟨-,u,hu,-⟩:=hcell 0 _ (List.getElem?_eq_getElem (by omega))
   unfold World.cell? at hu
   split at hu
   ·exact ⟨_,_,_,by assumption⟩
   ·simp at hu
  obtain ⟨cA,tA,fA,hcA⟩:=hcA
  obtain ⟨vs, hvl, hvs, hvr⟩ : ∃ vs : List Value, vs.length = 3 /\ (∀ (j : Nat) (v : Value), vs[j]? = some v -> cA[voff + j]? = some v) /\ (∀ (j : Nat) (p : PV), el[j]? = some p -> p.one = true /\ ∃ u, vs[j]? = some u /\ RP w (Gd F m (nmF [.row 37 3 l] [])) p u) := by
   have hex : ∀ j, j < 3 -> ∃ u, cA[voff + j]? = some u /\ ∃ p, el[j]? = some p /\ p.one = true /\ RP w (Gd F m (nmF [.row 37 3 l] [])) p u := fun j hj => by
    obtain ⟨ho,u,hu,hpr⟩:=hcell j _ (List.getElem?_eq_getElem (by omega))
    exact ⟨u,by simpa [World.cell?,hcA] using hu,_,List.getElem?_eq_getElem (by omega),ho,hpr⟩
   refine ⟨(List.range 3).map fun j=>(cA[voff + j]?).getD undef,by simp,fun j v hj=>?_,fun j p hj=>?_⟩
   ·rw [List.getElem?_map] at hj
    by_cases hj7 : j < 3
    ·rw [List.getElem?_range hj7] at hj
     obtain ⟨u,h2,-⟩:=hex j hj7
     simp only [Option.map_some,h2,Option.getD_some,wH] at hj
     rw [h2,hj]
    ·rw [List.getElem?_eq_none (by simp;omega)] at hj;simp at hj
   ·have hj7 : j < 3 := by have := (List.getElem?_eq_some_iff.1 hj).1; omega
    obtain ⟨u,h2,p',h3,h4,h5⟩:=hex j hj7
    rw [hj] at h3
    simp only [wH] at h3
    subst h3
    exact ⟨h4,u,by rw [List.getElem?_map,List.getElem?_range hj7];simp [h2],h5⟩
  have hone : ∀ v ∈ vs, v.oneCell' = true := fun v hv => by
   obtain ⟨j,hj⟩:=List.mem_iff_getElem?.1 hv
   have hjl:=(List.getElem?_eq_some_iff.1 hj).1
   obtain ⟨h2,u,h3,h4⟩:=hvr j _ (List.getElem?_eq_getElem (by omega))
   rw [hj] at h3
   simp only [wH] at h3
   rw [h3];exact h4.oneCell h2
  have honec : ∀ (j : Nat) (v : Value), j < l.length * 3 -> cur[j]? = some v -> v.oneCell' = true := fun j v hj hv => by
   have hjl : j / 3 < l.length:=by omega
   obtain ⟨h2,h3⟩:=hels (j / 3) _ (List.getElem?_eq_getElem hjl)
   obtain ⟨h4,u,h5,h6⟩:=h3 (j % 3) _ (List.getElem?_eq_getElem (by rw [h2];omega))
   have h5' : cur[j / 3 * 3 + j % 3]? = some u:=h5
   rw [show j / 3 * 3 + j % 3 = j by omega,hv] at h5'
   simp only [wH] at h5'
   rw [h5'];exact h6.oneCell h4
  rw [h0,hr]
  by_cases hroom : l.length + 1 <= cap
  ·refine (ins_shift k l.length cap i vb voff vc cur cA vs w tA fA hh hsz hlt hroom hcm' hvbk hcA hvl hvs hone honec).mono ?_
   rintro e w2 ⟨rfl,rfl⟩
   obtain ⟨k1,k2⟩:=shift2 w k cur (spl cur ((i + 1) * 3) ((cur.toList.drop (i * 3)).take ((l.length - i) * 3))) (spl (spl cur ((i + 1) * 3) ((cur.toList.drop (i * 3)).take ((l.length - i) * 3))) (i * 3) vs) 37 hh
   have e1 : (l.take i ++ el :: l.drop i).length = l.length + 1:=by simp;omega
   have hfit : (l.length + 1) * 3 <= cur.size:=by rw [hsz];omega
   refine row_out hp (k1.mono fun k' h=>h ▸ hk) (.inr ⟨k,cap,_,by rw [e1],hc0,by rw [e1];exact hroom,hcm,k2,?_,EL.ins hels hvl hel hvr hi hlsz fun j hj=>ins_get_shift hvl hi hfit j hj⟩) fun k' hk'=>?_
   ·rw [xB (by rw [xB (by rw [mid_len hlsz];omega)];omega),xB (by rw [mid_len hlsz];omega),hsz]
   ·simp only [ownB, if_neg (show ¬ cap = 0 by omega), wH] at hk'
    subst hk'
    exact ⟨.inl hk,lt_of_heap k2⟩
  ·refine (ins_grow k l.length cap i vb voff vc cur cA vs w tA fA hh hlsz hlt hlc (by omega) (by omega) hcA hvl hvs hone honec).mono ?_
   rintro e w2 ⟨C,R,rfl,hC1,hC2,hRs,hkp,hR,hsz2,hRg⟩
   have e1 : (l.take i ++ el :: l.drop i).length = l.length + 1:=by simp;omega
   refine row_out hp (hkp.mono fun _ h=>h.elim) (.inr ⟨w.heap.size,C,R,by rw [e1],by omega,by rw [e1];exact hC1,hC2,hR,hRs,EL.ins hels hvl hel hvr hi hlsz hRg⟩) fun k' hk'=>?_
   simp only [ownB,if_neg (show ¬ C = 0 by omega),wH] at hk'
   subst hk'
   exact ⟨.inr (Nat.le_refl _),hsz2⟩
end Go.Proofs.Ytpilcadofjcdoaa
namespace Go.Proofs.Ytpilcadofjcdoaa
set_option linter.unusedSimpArgs false
set_option linter.unusedVariables false
open Go Go.Av
attribute [local irreducible] Go.Av.yQ Go.Av.zZ Go.Av.yG Go.Av.zT Go.Av.yH Go.Av.zY Go.Av.Con
def baseW : yN := fun g args β => match args, β with
 | [.p (.sl c' l)], [] => match cloneT g with
  | some (e,c)=>if c' = c /\ l.length <= 1000000 then some (.ret (.row 2048) [.row e c l] []) else none
  | none=>none
 | [.row 1024, .p (.v (.int .i64 i)), .p (.sl 3 [el])], [.row e c l] =>
  if g = 38 /\ e = 37 /\ c = 3 /\ 0 <= i /\ i.toNat <= l.length /\ l.length <= 1000000 /\ el.length = 3 then some (.ret (.row 1024) [] [.row e c (l.take i.toNat ++ el :: l.drop i.toNat)]) else none
 | _,_=>none
theorem baseW_ok : ∀ g args β out, baseW g args β = some out -> Con Try.prog g args β out := fun g args β out h => by
 unfold baseW at h
 split at h
 ·split at h
  ·rename_i hc
   split at h
   ·rename_i hl
    obtain ⟨rfl,hl⟩:=hl
    simp only [wH] at h;subst h
    exact clone_ok hc _ hl
   ·simp at h
  ·simp at h
 ·rename_i i el e c l
  split at h
  ·rename_i hc
   obtain ⟨rfl,rfl,rfl,h0,h1,h2,h3⟩:=hc
   simp only [wH] at h;subst h
   have:=insert_con l i.toNat el h1 h2 h3
   rw [Int.toNat_of_nonneg h0] at this
   exact this
  ·simp at h
 ·simp at h
def wa0 : Wt := ⟨1, 2, [47]⟩
def was0 : Ws := ⟨[⟨[47], [], 0, 0, 0⟩], [], [], 0, 0, 0, 0, 0, 0⟩
def now0 : Ws := ⟨[⟨[47], [], 0, 1, 0⟩], [], [], 0, 0, 0, 0, 1, 1⟩
theorem told0 : told wa0 was0 now0 = 4 := by decide +kernel
theorem add0 : zF Try.prog 14 [.p (.sl 3 []), .p (.agg [I 1, I 2, .v (.string ⟨#[47]⟩)])] (.tup [.p (.sl 3 [[I 1, I 2, .v (.string ⟨#[47]⟩)]]), .p (I 0)]) := Con.toPureT (t := 37) <| xCall_sound Try.tab Try.mixed baseW_ok 40 _ _ _ _ (by kernel_rfl)
theorem stay0 : stay was0 now0 [wa0] = [] := by unfold stay; rw [List.filter_cons_of_neg (by rw [told0]; decide)]; rfl
theorem tolds0 : wS was0 now0 [wa0] = [⟨1, 2, [47], 4, 1, 1⟩] := by
 unfold wS
 rw [List.filter_cons_of_pos (by rw [told0];decide)]
 simp only [List.filter_nil,wJ,wI,note,told0]
 rfl
theorem fit0 : Fit was0 := ⟨by simp [was0], fun z hz => by simp [was0] at hz; subst hz; simp [long]⟩
theorem fit1 : Fit now0 := ⟨by simp [now0], fun z hz => by simp [now0] at hz; subst hz; simp [long]⟩
set_option maxHeartbeats 2000000 in
theorem awake10 : zF Try.prog 5 [] (.p (B true)) := by
 have c1:=add0
 have c2:=fire_con [wa0] was0 now0 fit0 fit1 (by simp)
 rw [stay0,tolds0] at c2
 simp only [wts,nts,zns,Ws.c,Wt.c,Nt.c,Zn.c,was0,now0,wa0,wJ,wI] at c2
 refine zG Try.tab Try.mixed Try.func5 rfl rfl Try.ntmps5 (by simp) (by simp) fun Q hr hn=>?_
 repeat' first|(refine hK _ ?_;clear hK)|(refine hK _ _ ?_;clear hK)|(clear hK;refine hK _ ?_;clear hK)|(clear hK;clear hK;refine hK _ ?_;clear hK)|(clear hK;clear hK;clear hK;refine hK _ ?_;clear hK)|(clear hK;clear hK;clear hK;clear hK;refine hK _ ?_;clear hK)|(refine zJ fun K hK=>?_)|((first | refine zH ?_ | refine zN rfl (by kernel_rfl) ?_ | refine zM ?_ | refine zK (by kernel_rfl) ?_);simp only [wJ,wI,strip])|((first | refine wIs fun K hK=>?_ | refine wOs fun K hK=>?_ | refine wQs fun K hK=>?_ | refine zU ?_ | refine zV ?_ | refine zW ?_ | refine zL ?_);simp)|(refine wIn ?_;refine And.intro (by kernel_rfl) ?_;try simp only [zX])|(first | refine zQ ?_ | refine zS ?_)|((first | refine zI ?_ | refine zO ?_ | refine zP ?_);try simp)|((first | refine zR ?_ | refine wOn ?_ | refine wQn ?_);try simp only [zX])|(refine zZ.pure (c1) rfl ?_)|(refine zZ.lent (c1) rfl ?_)|(refine zT.pure (c1) rfl ?_)|(refine zT.lent (c1) rfl ?_)|(refine zZ.own (c1) ?_)|(refine zY.pure (c1) rfl ?_)|(refine zY.lent (c1) rfl ?_)|(refine zY.own (c1) ?_)|(refine zZ.pure (c2) rfl ?_)|(refine zZ.lent (c2) rfl ?_)|(refine zT.pure (c2) rfl ?_)|(refine zT.lent (c2) rfl ?_)|(refine zZ.own (c2) ?_)|(refine zY.pure (c2) rfl ?_)|(refine zY.lent (c2) rfl ?_)|(refine zY.own (c2) ?_)
 all_goals apply hr
 all_goals simp [Try.f5]
end Go.Proofs.Ytpilcadofjcdoaa
namespace Go.Proofs.Ytpilcadofjcdoaa
set_option linter.unusedSimpArgs false
set_option linter.unusedVariables false
set_option maxRecDepth 8000
open Go Go.Av
attribute [local irreducible] Go.Av.yQ Go.Av.zZ Go.Av.yG Go.Av.zT Go.Av.yH Go.Av.zY Go.Av.Con
theorem toldV_zero {k : Int} {x y : Zn} {b1 b2 eq : Bool} (h : yV k x y b1 b2 eq = 0) : b1 = b2 /\ (k = 2 -> eq = true) /\ (k = 1 -> x.d = y.d /\ x.v = y.v /\ x.o = y.o) := by
 unfold yV at h
 split at h
 ·exact absurd h (by decide)
 rename_i h1
 split at h
 ·exact absurd h (by decide)
 rename_i h2
 split at h
 ·exact absurd h (by decide)
 rename_i h3
 split at h
 ·exact absurd h (by decide)
 rename_i h4
 refine ⟨?_,fun hk=>?_,fun hk=>?_⟩
 ·cases b1 <;> cases b2 <;> simp_all
 ·cases eq with
  | true=>rfl
  | false=>exact absurd ⟨hk,.inr rfl⟩ h3
 ·by_cases g1 : x.d = y.d
  ·by_cases g2 : x.v = y.v
   ·by_cases g3 : x.o = y.o
    ·exact ⟨g1,g2,g3⟩
    ·exact absurd ⟨hk,.inr (.inr g3)⟩ h4
   ·exact absurd ⟨hk,.inr (.inl g2)⟩ h4
  ·exact absurd ⟨hk,.inl g1⟩ h4
theorem sees {a b : List Zn} {p : List UInt8} {k : Int} (h : yV k (fnd a p).1 (fnd b p).1 (fnd a p).2 (fnd b p).2 (decide (kds a p = kds b p)) = 0) :
 (wZ a p).2 = (wZ b p).2 /\ (k = 1 -> (wZ a p).1.d = (wZ b p).1.d /\ (wZ a p).1.v = (wZ b p).1.v /\ (wZ a p).1.o = (wZ b p).1.o) /\ (k = 2 -> kidZ a p = kidZ b p):=by
 obtain ⟨h1,h2,h3⟩:=toldV_zero h
 unfold kidZ wZ
 by_cases hc : chk p = 0
 ·simp only [if_pos hc]
  rw [<- h1]
  cases hb : (fnd a p).2 with
  | true =>
   simp only [if_true]
   exact ⟨trivial,h3,fun hk=>of_decide_eq_true (h2 hk)⟩
  | false=>simp
 ·simp [if_neg hc]
theorem rgt_facts {s : Sv} (h : rgtS s = true) : check s.c = 0 /\ s.ss.length <= 20 := by
 unfold rgtS at h
 simp only [Bool.and_eq_true,decide_eq_true_eq] at h
 exact ⟨h.2.1.1,h.2.1.2.2.2⟩
def wsv (s : Sv) : Ws := ⟨s.ns, ints s.ss, mbs s.c.ms, s.nx, s.c.ep, s.c.n, s.c.kind, s.ae, s.an⟩
theorem wsv_c (s : Sv) : (wsv s).c = s.cells := rfl
set_option maxHeartbeats 16000000 in
theorem watchSees_con (s : Sv) (r : Rp) (w : Wt) (hz : ∀ z ∈ s.ns, long z) (hm : s.c.ms.length <= 9223372036854775807) (ho : ∀ o ∈ r.ops, OqOk o) (hp : r.d.put.length <= 4398046510976) (hd : r.d.drop.length <= 4611686018427387904) (hw : w.p.length <= 9223372036854775807) (hnl : s.ns.length <= 9223372036854775807) (hrl : r.ops.length <= 9223372036854775807) :
 zF Try.prog 3 [.p (.agg s.cells),.p (.agg r.cells),.p (.agg w.c)] (.p (B true)):=by
 have ca:=awake10
 by_cases h1 : 100 < s.ns.length
 ·have h1' : (100 : Int) < s.ns.length := by omega
  unfold Sv.cells Rp.cells Wt.c
  clear hz hm ho
  refine zG Try.tab Try.mixed Try.func3 rfl rfl Try.ntmps3 (by simp) (by simp) fun Q hr hn=>?_
  repeat' first|(refine hK _ ?_;clear hK)|(refine hK _ _ ?_;clear hK)|(clear hK;refine hK _ ?_;clear hK)|(clear hK;clear hK;refine hK _ ?_;clear hK)|(clear hK;clear hK;clear hK;refine hK _ ?_;clear hK)|(clear hK;clear hK;clear hK;clear hK;refine hK _ ?_;clear hK)|(refine zJ fun K hK=>?_)|((first | refine zH ?_ | refine zN rfl (by kernel_rfl) ?_ | refine zM ?_ | refine zK (by kernel_rfl) ?_);simp only [wJ,wI,strip])|((first | refine wIs fun K hK=>?_ | refine wOs fun K hK=>?_ | refine wQs fun K hK=>?_ | refine zU ?_ | refine zV ?_ | refine zW ?_ | refine zL ?_);simp [h1,h1'])|(refine wIn ?_;refine And.intro (by kernel_rfl) ?_;try simp only [zX])|(first | refine zQ ?_ | refine zS ?_)|((first | refine zI ?_ | refine zO ?_ | refine zP ?_);try simp)|((first | refine zR ?_ | refine wOn ?_ | refine wQn ?_);try simp only [zX])|(refine zZ.pure (ca) rfl ?_)|(refine zZ.lent (ca) rfl ?_)|(refine zT.pure (ca) rfl ?_)|(refine zT.lent (ca) rfl ?_)|(refine zZ.own (ca) ?_)|(refine zY.pure (ca) rfl ?_)|(refine zY.lent (ca) rfl ?_)|(refine zY.own (ca) ?_)
  all_goals apply hr
  all_goals simp [Try.f3]
 have h1' : ¬ (100 : Int) < s.ns.length:=by omega
 by_cases h2 : 20 < r.ops.length
 ·have h2' : (20 : Int) < r.ops.length := by omega
  unfold Sv.cells Rp.cells Wt.c
  clear hz hm ho
  refine zG Try.tab Try.mixed Try.func3 rfl rfl Try.ntmps3 (by simp) (by simp) fun Q hr hn=>?_
  repeat' first|(refine hK _ ?_;clear hK)|(refine hK _ _ ?_;clear hK)|(clear hK;refine hK _ ?_;clear hK)|(clear hK;clear hK;refine hK _ ?_;clear hK)|(clear hK;clear hK;clear hK;refine hK _ ?_;clear hK)|(clear hK;clear hK;clear hK;clear hK;refine hK _ ?_;clear hK)|(refine zJ fun K hK=>?_)|((first | refine zH ?_ | refine zN rfl (by kernel_rfl) ?_ | refine zM ?_ | refine zK (by kernel_rfl) ?_);simp only [wJ,wI,strip])|((first | refine wIs fun K hK=>?_ | refine wOs fun K hK=>?_ | refine wQs fun K hK=>?_ | refine zU ?_ | refine zV ?_ | refine zW ?_ | refine zL ?_);simp [h1,h1',h2,h2'])|(refine wIn ?_;refine And.intro (by kernel_rfl) ?_;try simp only [zX])|(first | refine zQ ?_ | refine zS ?_)|((first | refine zI ?_ | refine zO ?_ | refine zP ?_);try simp)|((first | refine zR ?_ | refine wOn ?_ | refine wQn ?_);try simp only [zX])|(refine zZ.pure (ca) rfl ?_)|(refine zZ.lent (ca) rfl ?_)|(refine zT.pure (ca) rfl ?_)|(refine zT.lent (ca) rfl ?_)|(refine zZ.own (ca) ?_)|(refine zY.pure (ca) rfl ?_)|(refine zY.lent (ca) rfl ?_)|(refine zY.own (ca) ?_)
  all_goals apply hr
  all_goals simp [Try.f3]
 have h2' : ¬ (20 : Int) < r.ops.length:=by omega
 have c1:=rightP09_con s hz hm
 cases hg : rgtS s with
 | false =>
  rw [hg] at c1
  unfold Sv.cells Rp.cells Wt.c at *
  clear hz hm ho hg
  refine zG Try.tab Try.mixed Try.func3 rfl rfl Try.ntmps3 (by simp) (by simp) fun Q hr hn=>?_
  repeat' first|(refine hK _ ?_;clear hK)|(refine hK _ _ ?_;clear hK)|(clear hK;refine hK _ ?_;clear hK)|(clear hK;clear hK;refine hK _ ?_;clear hK)|(clear hK;clear hK;clear hK;refine hK _ ?_;clear hK)|(clear hK;clear hK;clear hK;clear hK;refine hK _ ?_;clear hK)|(refine zJ fun K hK=>?_)|((first | refine zH ?_ | refine zN rfl (by kernel_rfl) ?_ | refine zM ?_ | refine zK (by kernel_rfl) ?_);simp only [wJ,wI,strip])|((first | refine wIs fun K hK=>?_ | refine wOs fun K hK=>?_ | refine wQs fun K hK=>?_ | refine zU ?_ | refine zV ?_ | refine zW ?_ | refine zL ?_);simp [h1,h1',h2,h2'])|(refine wIn ?_;refine And.intro (by kernel_rfl) ?_;try simp only [zX])|(first | refine zQ ?_ | refine zS ?_)|((first | refine zI ?_ | refine zO ?_ | refine zP ?_);try simp)|((first | refine zR ?_ | refine wOn ?_ | refine wQn ?_);try simp only [zX])|(refine zZ.pure (c1) rfl ?_)|(refine zZ.lent (c1) rfl ?_)|(refine zT.pure (c1) rfl ?_)|(refine zT.lent (c1) rfl ?_)|(refine zZ.own (c1) ?_)|(refine zY.pure (c1) rfl ?_)|(refine zY.lent (c1) rfl ?_)|(refine zY.own (c1) ?_)|(refine zZ.pure (ca) rfl ?_)|(refine zZ.lent (ca) rfl ?_)|(refine zT.pure (ca) rfl ?_)|(refine zT.lent (ca) rfl ?_)|(refine zZ.own (ca) ?_)|(refine zY.pure (ca) rfl ?_)|(refine zY.lent (ca) rfl ?_)|(refine zY.own (ca) ?_)
  all_goals apply hr
  all_goals simp [Try.f3]
 | true =>
 rw [hg] at c1
 obtain ⟨g1,g2⟩:=rgt_facts hg
 have hml:=check_len g1
 have hs : SvOk s 1000:=⟨⟨by omega,by omega,by unfold okC;omega⟩,hz⟩
 obtain ⟨t,t1,t2,c2⟩:=make_ex s r s.ae s.an hs (by omega) hml ho (by omega) hp hd
 have c3:=apply08_con s t (hs.F.le (by omega)) (okT_ps t1)
 have hx : SvOk (doS s t) 100:=doS_ok hs t1 (by omega)
 generalize doS s t = x at *
 have hxl : x.ns.length <= 1000000:=by have:=hx.F.ns;omega
 have c4:=told_con w (wsv s) (wsv x) (by show s.ns.length <= _;omega) hxl hz hx.l
 rw [wsv_c,wsv_c] at c4
 have c5:=get08s_con s w.p hw
 have c6:=get08s_con x w.p hw
 have c7:=skids08_con s.ns (ints s.ss) (mbs s.c.ms) s.nx s.c.ep s.c.n s.c.kind s.ae s.an w.p hw (by omega) hz
 have c8:=skids08_con x.ns (ints x.ss) (mbs x.c.ms) x.nx x.c.ep x.c.n x.c.kind x.ae x.an w.p hw hxl hx.l
 have c9:=texts_con (kidZ s.ns w.p) (kidZ x.ns w.p)
 have hsee:=@sees s.ns x.ns w.p w.k
 change told w (wsv s) (wsv x) = 0 -> _ at hsee
 generalize told w (wsv s) (wsv x) = tv at *
 clear hz hm ho hp hd hnl hrl hg g1 g2 hml hs t1 t2 hx hxl
 generalize kidZ s.ns w.p = K1 at *
 generalize kidZ x.ns w.p = K2 at *
 generalize wZ s.ns w.p = ga at *
 generalize wZ x.ns w.p = gb at *
 obtain ⟨⟨ap,ad,av,ak,ao⟩,aer⟩:=ga
 obtain ⟨⟨bp,bd,bv,bk,bo⟩,ber⟩:=gb
 obtain ⟨ns,ss,nx,⟨ep,n,kd,ms⟩,ae,an⟩:=s
 obtain ⟨xns,xss,xnx,⟨xep,xn,xkd,xms⟩,xae,xan⟩:=x
 obtain ⟨rk,rs,rx,ops,⟨dk,put,drop⟩,we,wn⟩:=r
 obtain ⟨wses,wk,wp⟩:=w
 obtain ⟨te,tn,tses,tx,ter,tb,tm,tps⟩:=t
 dsimp only at *
 unfold Sv.cells Rp.cells Wt.c Zn.c Tx.cells at *
 dsimp only at *
 by_cases h3 : tv = 0
 case neg =>
  have h3':=eq_false h3
  clear hsee
  refine zG Try.tab Try.mixed Try.func3 rfl rfl Try.ntmps3 (by simp) (by simp) fun Q hr hn=>?_
  repeat' first|(refine hK _ ?_;clear hK)|(refine hK _ _ ?_;clear hK)|(clear hK;refine hK _ ?_;clear hK)|(clear hK;clear hK;refine hK _ ?_;clear hK)|(clear hK;clear hK;clear hK;refine hK _ ?_;clear hK)|(clear hK;clear hK;clear hK;clear hK;refine hK _ ?_;clear hK)|(refine zJ fun K hK=>?_)|((first | refine zH ?_ | refine zN rfl (by kernel_rfl) ?_ | refine zM ?_ | refine zK (by kernel_rfl) ?_);simp only [wJ,wI,strip])|((first | refine wIs fun K hK=>?_ | refine wOs fun K hK=>?_ | refine wQs fun K hK=>?_ | refine zU ?_ | refine zV ?_ | refine zW ?_ | refine zL ?_);simp [h1,h1',h2,h2',h3'])|(refine wIn ?_;refine And.intro (by kernel_rfl) ?_;try simp only [zX])|(first | refine zQ ?_ | refine zS ?_)|((first | refine zI ?_ | refine zO ?_ | refine zP ?_);try simp)|((first | refine zR ?_ | refine wOn ?_ | refine wQn ?_);try simp only [zX])|(refine zZ.pure (c1) rfl ?_)|(refine zZ.lent (c1) rfl ?_)|(refine zT.pure (c1) rfl ?_)|(refine zT.lent (c1) rfl ?_)|(refine zZ.own (c1) ?_)|(refine zY.pure (c1) rfl ?_)|(refine zY.lent (c1) rfl ?_)|(refine zY.own (c1) ?_)|(refine zZ.pure (c2) rfl ?_)|(refine zZ.lent (c2) rfl ?_)|(refine zT.pure (c2) rfl ?_)|(refine zT.lent (c2) rfl ?_)|(refine zZ.own (c2) ?_)|(refine zY.pure (c2) rfl ?_)|(refine zY.lent (c2) rfl ?_)|(refine zY.own (c2) ?_)|(refine zZ.pure (c3) rfl ?_)|(refine zZ.lent (c3) rfl ?_)|(refine zT.pure (c3) rfl ?_)|(refine zT.lent (c3) rfl ?_)|(refine zZ.own (c3) ?_)|(refine zY.pure (c3) rfl ?_)|(refine zY.lent (c3) rfl ?_)|(refine zY.own (c3) ?_)|(refine zZ.pure (c4) rfl ?_)|(refine zZ.lent (c4) rfl ?_)|(refine zT.pure (c4) rfl ?_)|(refine zT.lent (c4) rfl ?_)|(refine zZ.own (c4) ?_)|(refine zY.pure (c4) rfl ?_)|(refine zY.lent (c4) rfl ?_)|(refine zY.own (c4) ?_)|(refine zZ.pure (ca) rfl ?_)|(refine zZ.lent (ca) rfl ?_)|(refine zT.pure (ca) rfl ?_)|(refine zT.lent (ca) rfl ?_)|(refine zZ.own (ca) ?_)|(refine zY.pure (ca) rfl ?_)|(refine zY.lent (ca) rfl ?_)|(refine zY.own (ca) ?_)
  all_goals apply hr
  all_goals simp [Try.f3]
 obtain ⟨e1,e2,e3⟩:=hsee h3
 subst h3 e1
 by_cases k1 : wk = 1
 ·subst k1
  obtain ⟨rfl,rfl,rfl⟩:=e2 rfl
  clear e2 e3
  generalize decide (K1 = K2) = db at c9
  refine zG Try.tab Try.mixed Try.func3 rfl rfl Try.ntmps3 (by simp) (by simp) fun Q hr hn=>?_
  repeat' first|(refine hK _ ?_;clear hK)|(refine hK _ _ ?_;clear hK)|(clear hK;refine hK _ ?_;clear hK)|(clear hK;clear hK;refine hK _ ?_;clear hK)|(clear hK;clear hK;clear hK;refine hK _ ?_;clear hK)|(clear hK;clear hK;clear hK;clear hK;refine hK _ ?_;clear hK)|(refine zJ fun K hK=>?_)|((first | refine zH ?_ | refine zN rfl (by kernel_rfl) ?_ | refine zM ?_ | refine zK (by kernel_rfl) ?_);simp only [wJ,wI,strip])|((first | refine wIs fun K hK=>?_ | refine wOs fun K hK=>?_ | refine wQs fun K hK=>?_ | refine zU ?_ | refine zV ?_ | refine zW ?_ | refine zL ?_);simp [h1,h1',h2,h2'])|(refine wIn ?_;refine And.intro (by kernel_rfl) ?_;try simp only [zX])|(first | refine zQ ?_ | refine zS ?_)|((first | refine zI ?_ | refine zO ?_ | refine zP ?_);try simp)|((first | refine zR ?_ | refine wOn ?_ | refine wQn ?_);try simp only [zX])|(refine zZ.pure (c1) rfl ?_)|(refine zZ.lent (c1) rfl ?_)|(refine zT.pure (c1) rfl ?_)|(refine zT.lent (c1) rfl ?_)|(refine zZ.own (c1) ?_)|(refine zY.pure (c1) rfl ?_)|(refine zY.lent (c1) rfl ?_)|(refine zY.own (c1) ?_)|(refine zZ.pure (c2) rfl ?_)|(refine zZ.lent (c2) rfl ?_)|(refine zT.pure (c2) rfl ?_)|(refine zT.lent (c2) rfl ?_)|(refine zZ.own (c2) ?_)|(refine zY.pure (c2) rfl ?_)|(refine zY.lent (c2) rfl ?_)|(refine zY.own (c2) ?_)|(refine zZ.pure (c3) rfl ?_)|(refine zZ.lent (c3) rfl ?_)|(refine zT.pure (c3) rfl ?_)|(refine zT.lent (c3) rfl ?_)|(refine zZ.own (c3) ?_)|(refine zY.pure (c3) rfl ?_)|(refine zY.lent (c3) rfl ?_)|(refine zY.own (c3) ?_)|(refine zZ.pure (c4) rfl ?_)|(refine zZ.lent (c4) rfl ?_)|(refine zT.pure (c4) rfl ?_)|(refine zT.lent (c4) rfl ?_)|(refine zZ.own (c4) ?_)|(refine zY.pure (c4) rfl ?_)|(refine zY.lent (c4) rfl ?_)|(refine zY.own (c4) ?_)|(refine zZ.pure (c5) rfl ?_)|(refine zZ.lent (c5) rfl ?_)|(refine zT.pure (c5) rfl ?_)|(refine zT.lent (c5) rfl ?_)|(refine zZ.own (c5) ?_)|(refine zY.pure (c5) rfl ?_)|(refine zY.lent (c5) rfl ?_)|(refine zY.own (c5) ?_)|(refine zZ.pure (c6) rfl ?_)|(refine zZ.lent (c6) rfl ?_)|(refine zT.pure (c6) rfl ?_)|(refine zT.lent (c6) rfl ?_)|(refine zZ.own (c6) ?_)|(refine zY.pure (c6) rfl ?_)|(refine zY.lent (c6) rfl ?_)|(refine zY.own (c6) ?_)|(refine zZ.pure (c7) rfl ?_)|(refine zZ.lent (c7) rfl ?_)|(refine zT.pure (c7) rfl ?_)|(refine zT.lent (c7) rfl ?_)|(refine zZ.own (c7) ?_)|(refine zY.pure (c7) rfl ?_)|(refine zY.lent (c7) rfl ?_)|(refine zY.own (c7) ?_)|(refine zZ.pure (c8) rfl ?_)|(refine zZ.lent (c8) rfl ?_)|(refine zT.pure (c8) rfl ?_)|(refine zT.lent (c8) rfl ?_)|(refine zZ.own (c8) ?_)|(refine zY.pure (c8) rfl ?_)|(refine zY.lent (c8) rfl ?_)|(refine zY.own (c8) ?_)|(refine zZ.pure (ca) rfl ?_)|(refine zZ.lent (ca) rfl ?_)|(refine zT.pure (ca) rfl ?_)|(refine zT.lent (ca) rfl ?_)|(refine zZ.own (ca) ?_)|(refine zY.pure (ca) rfl ?_)|(refine zY.lent (ca) rfl ?_)|(refine zY.own (ca) ?_)
  all_goals apply hr
  all_goals simp [Try.f3]
 have k1':=eq_false k1
 by_cases k2 : wk = 2
 ·subst k2
  obtain rfl:=e3 rfl
  clear e2 e3
  rw [decide_eq_true rfl] at c9
  refine zG Try.tab Try.mixed Try.func3 rfl rfl Try.ntmps3 (by simp) (by simp) fun Q hr hn=>?_
  repeat' first|(refine hK _ ?_;clear hK)|(refine hK _ _ ?_;clear hK)|(clear hK;refine hK _ ?_;clear hK)|(clear hK;clear hK;refine hK _ ?_;clear hK)|(clear hK;clear hK;clear hK;refine hK _ ?_;clear hK)|(clear hK;clear hK;clear hK;clear hK;refine hK _ ?_;clear hK)|(refine zJ fun K hK=>?_)|((first | refine zH ?_ | refine zN rfl (by kernel_rfl) ?_ | refine zM ?_ | refine zK (by kernel_rfl) ?_);simp only [wJ,wI,strip])|((first | refine wIs fun K hK=>?_ | refine wOs fun K hK=>?_ | refine wQs fun K hK=>?_ | refine zU ?_ | refine zV ?_ | refine zW ?_ | refine zL ?_);simp [h1,h1',h2,h2',k1'])|(refine wIn ?_;refine And.intro (by kernel_rfl) ?_;try simp only [zX])|(first | refine zQ ?_ | refine zS ?_)|((first | refine zI ?_ | refine zO ?_ | refine zP ?_);try simp)|((first | refine zR ?_ | refine wOn ?_ | refine wQn ?_);try simp only [zX])|(refine zZ.pure (c1) rfl ?_)|(refine zZ.lent (c1) rfl ?_)|(refine zT.pure (c1) rfl ?_)|(refine zT.lent (c1) rfl ?_)|(refine zZ.own (c1) ?_)|(refine zY.pure (c1) rfl ?_)|(refine zY.lent (c1) rfl ?_)|(refine zY.own (c1) ?_)|(refine zZ.pure (c2) rfl ?_)|(refine zZ.lent (c2) rfl ?_)|(refine zT.pure (c2) rfl ?_)|(refine zT.lent (c2) rfl ?_)|(refine zZ.own (c2) ?_)|(refine zY.pure (c2) rfl ?_)|(refine zY.lent (c2) rfl ?_)|(refine zY.own (c2) ?_)|(refine zZ.pure (c3) rfl ?_)|(refine zZ.lent (c3) rfl ?_)|(refine zT.pure (c3) rfl ?_)|(refine zT.lent (c3) rfl ?_)|(refine zZ.own (c3) ?_)|(refine zY.pure (c3) rfl ?_)|(refine zY.lent (c3) rfl ?_)|(refine zY.own (c3) ?_)|(refine zZ.pure (c4) rfl ?_)|(refine zZ.lent (c4) rfl ?_)|(refine zT.pure (c4) rfl ?_)|(refine zT.lent (c4) rfl ?_)|(refine zZ.own (c4) ?_)|(refine zY.pure (c4) rfl ?_)|(refine zY.lent (c4) rfl ?_)|(refine zY.own (c4) ?_)|(refine zZ.pure (c5) rfl ?_)|(refine zZ.lent (c5) rfl ?_)|(refine zT.pure (c5) rfl ?_)|(refine zT.lent (c5) rfl ?_)|(refine zZ.own (c5) ?_)|(refine zY.pure (c5) rfl ?_)|(refine zY.lent (c5) rfl ?_)|(refine zY.own (c5) ?_)|(refine zZ.pure (c6) rfl ?_)|(refine zZ.lent (c6) rfl ?_)|(refine zT.pure (c6) rfl ?_)|(refine zT.lent (c6) rfl ?_)|(refine zZ.own (c6) ?_)|(refine zY.pure (c6) rfl ?_)|(refine zY.lent (c6) rfl ?_)|(refine zY.own (c6) ?_)|(refine zZ.pure (c7) rfl ?_)|(refine zZ.lent (c7) rfl ?_)|(refine zT.pure (c7) rfl ?_)|(refine zT.lent (c7) rfl ?_)|(refine zZ.own (c7) ?_)|(refine zY.pure (c7) rfl ?_)|(refine zY.lent (c7) rfl ?_)|(refine zY.own (c7) ?_)|(refine zZ.pure (c8) rfl ?_)|(refine zZ.lent (c8) rfl ?_)|(refine zT.pure (c8) rfl ?_)|(refine zT.lent (c8) rfl ?_)|(refine zZ.own (c8) ?_)|(refine zY.pure (c8) rfl ?_)|(refine zY.lent (c8) rfl ?_)|(refine zY.own (c8) ?_)|(refine zZ.pure (c9) rfl ?_)|(refine zZ.lent (c9) rfl ?_)|(refine zT.pure (c9) rfl ?_)|(refine zT.lent (c9) rfl ?_)|(refine zZ.own (c9) ?_)|(refine zY.pure (c9) rfl ?_)|(refine zY.lent (c9) rfl ?_)|(refine zY.own (c9) ?_)|(refine zZ.pure (ca) rfl ?_)|(refine zZ.lent (ca) rfl ?_)|(refine zT.pure (ca) rfl ?_)|(refine zT.lent (ca) rfl ?_)|(refine zZ.own (ca) ?_)|(refine zY.pure (ca) rfl ?_)|(refine zY.lent (ca) rfl ?_)|(refine zY.own (ca) ?_)
  all_goals apply hr
  all_goals simp [Try.f3]
 ·have k2' := eq_false k2
  clear e2 e3 c9
  refine zG Try.tab Try.mixed Try.func3 rfl rfl Try.ntmps3 (by simp) (by simp) fun Q hr hn=>?_
  repeat' first|(refine hK _ ?_;clear hK)|(refine hK _ _ ?_;clear hK)|(clear hK;refine hK _ ?_;clear hK)|(clear hK;clear hK;refine hK _ ?_;clear hK)|(clear hK;clear hK;clear hK;refine hK _ ?_;clear hK)|(clear hK;clear hK;clear hK;clear hK;refine hK _ ?_;clear hK)|(refine zJ fun K hK=>?_)|((first | refine zH ?_ | refine zN rfl (by kernel_rfl) ?_ | refine zM ?_ | refine zK (by kernel_rfl) ?_);simp only [wJ,wI,strip])|((first | refine wIs fun K hK=>?_ | refine wOs fun K hK=>?_ | refine wQs fun K hK=>?_ | refine zU ?_ | refine zV ?_ | refine zW ?_ | refine zL ?_);simp [h1,h1',h2,h2',k1',k2'])|(refine wIn ?_;refine And.intro (by kernel_rfl) ?_;try simp only [zX])|(first | refine zQ ?_ | refine zS ?_)|((first | refine zI ?_ | refine zO ?_ | refine zP ?_);try simp)|((first | refine zR ?_ | refine wOn ?_ | refine wQn ?_);try simp only [zX])|(refine zZ.pure (c1) rfl ?_)|(refine zZ.lent (c1) rfl ?_)|(refine zT.pure (c1) rfl ?_)|(refine zT.lent (c1) rfl ?_)|(refine zZ.own (c1) ?_)|(refine zY.pure (c1) rfl ?_)|(refine zY.lent (c1) rfl ?_)|(refine zY.own (c1) ?_)|(refine zZ.pure (c2) rfl ?_)|(refine zZ.lent (c2) rfl ?_)|(refine zT.pure (c2) rfl ?_)|(refine zT.lent (c2) rfl ?_)|(refine zZ.own (c2) ?_)|(refine zY.pure (c2) rfl ?_)|(refine zY.lent (c2) rfl ?_)|(refine zY.own (c2) ?_)|(refine zZ.pure (c3) rfl ?_)|(refine zZ.lent (c3) rfl ?_)|(refine zT.pure (c3) rfl ?_)|(refine zT.lent (c3) rfl ?_)|(refine zZ.own (c3) ?_)|(refine zY.pure (c3) rfl ?_)|(refine zY.lent (c3) rfl ?_)|(refine zY.own (c3) ?_)|(refine zZ.pure (c4) rfl ?_)|(refine zZ.lent (c4) rfl ?_)|(refine zT.pure (c4) rfl ?_)|(refine zT.lent (c4) rfl ?_)|(refine zZ.own (c4) ?_)|(refine zY.pure (c4) rfl ?_)|(refine zY.lent (c4) rfl ?_)|(refine zY.own (c4) ?_)|(refine zZ.pure (c5) rfl ?_)|(refine zZ.lent (c5) rfl ?_)|(refine zT.pure (c5) rfl ?_)|(refine zT.lent (c5) rfl ?_)|(refine zZ.own (c5) ?_)|(refine zY.pure (c5) rfl ?_)|(refine zY.lent (c5) rfl ?_)|(refine zY.own (c5) ?_)|(refine zZ.pure (c6) rfl ?_)|(refine zZ.lent (c6) rfl ?_)|(refine zT.pure (c6) rfl ?_)|(refine zT.lent (c6) rfl ?_)|(refine zZ.own (c6) ?_)|(refine zY.pure (c6) rfl ?_)|(refine zY.lent (c6) rfl ?_)|(refine zY.own (c6) ?_)|(refine zZ.pure (c7) rfl ?_)|(refine zZ.lent (c7) rfl ?_)|(refine zT.pure (c7) rfl ?_)|(refine zT.lent (c7) rfl ?_)|(refine zZ.own (c7) ?_)|(refine zY.pure (c7) rfl ?_)|(refine zY.lent (c7) rfl ?_)|(refine zY.own (c7) ?_)|(refine zZ.pure (c8) rfl ?_)|(refine zZ.lent (c8) rfl ?_)|(refine zT.pure (c8) rfl ?_)|(refine zT.lent (c8) rfl ?_)|(refine zZ.own (c8) ?_)|(refine zY.pure (c8) rfl ?_)|(refine zY.lent (c8) rfl ?_)|(refine zY.own (c8) ?_)|(refine zZ.pure (ca) rfl ?_)|(refine zZ.lent (ca) rfl ?_)|(refine zT.pure (ca) rfl ?_)|(refine zT.lent (ca) rfl ?_)|(refine zZ.own (ca) ?_)|(refine zY.pure (ca) rfl ?_)|(refine zY.lent (ca) rfl ?_)|(refine zY.own (ca) ?_)
  all_goals apply hr
  all_goals simp [Try.f3]
end Go.Proofs.Ytpilcadofjcdoaa
