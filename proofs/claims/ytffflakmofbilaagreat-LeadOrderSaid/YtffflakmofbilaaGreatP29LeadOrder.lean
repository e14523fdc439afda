/- Texts that the proof needs: IL AwA KA KB KC KE LD1. -/
import Derived.Test.YtffflakmofbilaaGreatP18LeadOrder
import Derived.Test.YtffflakmofbilaaGreatP28LeadOrder
import Derived.Test.YtffflakmofbilaaGreatP12LeadOrder
import Derived.WalkKit
import Derived.Deep.RegionLaw
import Derived.Test.YtffflakmofbilaaGreatP19LeadOrder
import Derived.Test.YtffflakmofbilaaGreatP14LeadOrder
import Derived.Test.YtffflakmofbilaaGreatP22LeadOrder
import Derived.Test.YtffflakmofbilaaGreatP24LeadOrder
import Derived.Test.YtffflakmofbilaaGreatP27LeadOrder
namespace Go.Proofs.YtffflakmofbilaaGreat
set_option linter.unusedSimpArgs false
set_option linter.unusedVariables false
open Go Go.Av Go.Lib Go.RowKit
theorem wp_copy_eq (w : World) {o : Oper} {a : Act} {K : Act -> World -> Prop} {Q : Exit -> Act -> World -> Prop} (d s : Operand) (t t' : TypeId) {P : Program}
 (ho : o.op = .call { callee:=.builtin .copy,args:=#[d,s],argTypes:=#[t,t'] }) {v u : Value} (hd : a.eval d = v) (hs : a.eval s = u) {v' : Value} {w' : World}
 (hr : (Builtin.copy_ #[t,t'] o.type #[v,u]).run P w = .ok v' w') (h : K (a.put o.dst v') w') : o.wp P a w K Q:=by
 unfold Oper.wp execOp
 simp only [ho,resolve,invoke,builtin,Sem.run_bind,Sem.run_pure,Result.andThen_ok,List.map_toArray,tZ,tY,hd,hs,hr]
 exact h
theorem wpList_copy_eq {P : Program} (w : World) {ops : Array Oper} {rest : List Oper} {o : Oper} {a : Act} {Q : Exit -> Act -> World -> Prop} (hgd : o.guard = none) (d s : Operand) (t t' : TypeId)
 (ho : o.op = .call { callee:=.builtin .copy,args:=#[d,s],argTypes:=#[t,t'] }) {v u : Value} (hd : a.eval d = v) (hs : a.eval s = u) {v' : Value} {w' : World}
 (hr : (Builtin.copy_ #[t,t'] o.type #[v,u]).run P w = .ok v' w') (h : wpList P ops Q rest (a.put o.dst v') w') : wpList P ops Q (o :: rest) a w :=
 wpList_plain hgd fun _ hK=>wp_copy_eq w d s t t' ho hd hs hr (hK _ _ h)
theorem step_copy_eq {P : Program} {ops : Array Oper} {o : Oper} {a : Act} {w : World} {K : Act -> World -> Prop} {Q : Exit -> Act -> World -> Prop} {E : Prop}
 (hg : o.guard = none) (d x : Operand) (dT sT : TypeId) (hop : o.op = Op.call { callee:=Callee.builtin Builtin.copy,args:=#[d,x],argTypes:=#[dT,sT] })
 (v u : Value) (hd : a.eval d = v) (hx : a.eval x = u) {v' : Value} {w' : World} (hr : (Builtin.copy_ #[dT,sT] o.type #[v,u]).run P w = .ok v' w') (hK : K (a.put o.dst v') w') :
 if Region.wanted o (yielded ops a.tmps) = true then Oper.wp P o a w K Q else E:=by
 have hw : Region.wanted o (yielded ops a.tmps) = true:=by simp [Region.wanted,hg]
 rw [if_pos hw]
 exact wp_copy_eq w d x dT sT hop hd hx hr hK
set_option maxHeartbeats 4000000 in
set_option maxRecDepth 100000 in
theorem ins_shift (b n c i vb voff vc : Nat) (cur cA : Array Value) (vs : List Value) (w : World) (tA : TypeId) (fA : Nat × Nat) (hg : w.heap[b]? = some (.cells cur 70 (0, 0))) (hsz : cur.size = c * 8)
 (hi : i < n) (hroom : n + 1 <= c) (hc63 : c <= 9223372036854775807) (hvb : vb ≠ b) (hv : w.heap[vb]? = some (.cells cA tA fA)) (hvl : vs.length = 8) (hvs : ∀ (j : Nat) (v : Value),vs[j]? = some v -> cA[voff + j]? = some v)
 (h1 : ∀ v ∈ vs,v.oneCell' = true) (h1c : ∀ (j : Nat) (v : Value),j < n * 8 -> cur[j]? = some v -> v.oneCell' = true) :
 Calls Tryz.prog 128 #[.slice (some ⟨b, 0, none⟩) n c, .int .i64 i, .slice (some ⟨vb, voff, none⟩) 1 vc] w fun e w' =>
  e = .returned (.slice (some ⟨b,0,none⟩) (n + 1) c) ∧
  w' = (w.drew.setRow b (spl cur ((i + 1) * 8) ((cur.toList.drop (i * 8)).take ((n - i) * 8)))).setRow b (spl (spl cur ((i + 1) * 8) ((cur.toList.drop (i * 8)).take ((n - i) * 8))) (i * 8) vs):=by
 have hu : Tryz.prog.underlying 45 = some (.slice 70):=(Tryz.tab 45 _ rfl).kind
 obtain ⟨ti,tz,hti,htz0,-⟩:=(Tryz.tab 70 _ rfl).info
 have htz : ti.size = 8:=htz0
 have hz2 : ¬ ((i : Int) = (n : Int)):=by omega
 have hov : ∀ lb cb, (callFunc 143 #[.slice (some ⟨vb, voff, none⟩) 1 vc, .slice (some ⟨b, (i + 1) * 8, none⟩) lb cb]).run Tryz.prog w = .ok (.value (.bool false)) w := fun lb cb => by
  rw [run_callFunc_extern Tryz.func143 (by kernel_rfl) (by kernel_rfl) (by kernel_rfl) (e := Extern.SlicesOverlaps.overlaps #[45, 45] #[4]) (by kernel_rfl),
   run_overlaps 45 4 70 hu 8 ((Tryz.tab 70 _ rfl).run_info w) (a := ⟨vb, voff, none⟩) (b := ⟨b, (i + 1) * 8, none⟩) hvb hv hg (by omega) (fun h0 => by
    have:=hvs 0 _ (List.getElem?_eq_getElem (by omega))
    rw [Array.getElem?_eq_none (by omega)] at this;simp at this)]
  rfl
 obtain ⟨c1,hc1⟩ : ∃ c1,c1 = (cur.toList.drop (i * 8)).take ((n - i) * 8):=⟨_,rfl⟩
 have hc1l : c1.length = (n - i) * 8:=by rw [hc1];simp;omega
 obtain ⟨X1,hX1⟩ : ∃ X1,X1 = spl cur ((i + 1) * 8) c1:=⟨_,rfl⟩
 have hX1s : X1.size = cur.size:=by rw [hX1];exact uZ (by omega)
 have hcp1 : ∀ ty dc sc, (Builtin.copy_ #[45, 45] ty #[.slice (some ⟨b, (i + 1) * 8, none⟩) (n - i) dc, .slice (some ⟨b, i * 8, none⟩) (n + 1 - i) sc]).run Tryz.prog w.drew = .ok (goInt (n - i : Nat)) (w.drew.setRow b X1) := fun ty dc sc => by
  rw [hX1]
  refine run_copyRow (w:=w.drew) (n:=n - i) (o:=(i + 1) * 8) (dLen:=n - i) (sLen:=n + 1 - i) (g:=b) (b:=some ⟨b,i * 8,none⟩) hu hti hg (by simp only [Nat.min_def];split <;> omega) (run_first_row (w:=w.drew) (n:=n - i) (size:=ti.size) hg (by rw [hc1l,htz]) fun j v hj=>?_) (by omega) (fun v hv=>?_)
  ·rw [hc1, List.getElem?_take] at hj
   split at hj
   ·rw [List.getElem?_drop] at hj;simpa using hj
   ·simp at hj
  ·obtain ⟨j, hj2⟩ := List.mem_iff_getElem?.1 hv
   rw [hc1,List.getElem?_take] at hj2
   split at hj2
   ·rw [List.getElem?_drop] at hj2
    exact h1c (i * 8 + j) _ (by omega) (by simpa using hj2)
   ·simp at hj2
 have hcp2 : ∀ (W : World), W.heap = (w.drew.setRow b X1).heap -> ∀ ty dc, (Builtin.copy_ #[45, 45] ty #[.slice (some ⟨b, i * 8, none⟩) (n + 1 - i) dc, .slice (some ⟨vb, voff, none⟩) 1 vc]).run Tryz.prog W = .ok (goInt (1 : Nat)) (W.setRow b (spl X1 (i * 8) vs)) := fun W hW ty dc => by
  have hgW : W.heap[b]? = some (.cells X1 70 (0,0)):=by rw [hW];exact setRow_heap w.drew _ _ _ _ _ hg
  have hvW : W.heap[vb]? = some (.cells cA tA fA):=by rw [hW];exact (setRow_other w.drew b vb X1 hvb).trans hv
  refine run_copyRow (n:=1) (o:=i * 8) (dLen:=n + 1 - i) (sLen:=1) (g:=b) (b:=some ⟨vb,voff,none⟩) hu hti hgW (by simp only [Nat.min_def];split <;> omega) (run_firstCells_some W _ 1 _ 1 vc vs (by rw [hvl,htz]) fun j v hj=>?_) (by omega) h1
  rw [addr_add]
  simpa [World.cell?,hvW] using hvs j v hj
 rw [<- hc1,<- hX1]
 have hw1 : IntKind.i64.wrap ((i : Int) + 1) = (i : Int) + 1:=by rw [IntKind.wrap_i64];omega
 have hb1 : (0 : Int) <= (i : Int) + 1:=by omega
 have htn : ((i : Int) + 1).toNat = i + 1:=by omega
 have hb2 : ¬ (c = i + 1):=by omega
 have hb3 : (i : Int) <= (n : Int) + 1:=by omega
 have hb4 : ¬ (c = i):=by omega
 have hin : i <= n:=by omega
 have hin1 : i <= n + 1:=by omega
 go_enter Tryz.func128,Tryz.ntmps128
 go_wp2_with (simp only [hov])
 go_region_law (refine step_copy_eq rfl _ _ 45 45 rfl _ _ (by simp [Act.eval,Act.put]) (by simp [Act.eval,Act.put]) (hcp1 _ _ _) ?_)
 go_wp2_with (at_builtin;refine wpList_copy_eq _ rfl _ _ 45 45 rfl rfl rfl (hcp2 _ rfl _ _) ?_)
 go_ret
 exact ⟨rfl,by rw [hX1,hc1]⟩
set_option maxHeartbeats 4000000 in
set_option maxRecDepth 100000 in
theorem ins_end (sb : Option Addr) (n c : Nat) (vb voff vc : Nat) (w : World) (hnc : n <= c) (hc63 : c <= 9223372036854775807) {r : Value} {w1 : World}
 (hr : (Builtin.append_ #[45,45] 45 #[.slice sb n c,.slice (some ⟨vb,voff,none⟩) 1 vc]).run Tryz.prog w = .ok r w1) :
 Calls Tryz.prog 128 #[.slice sb n c,.int .i64 n,.slice (some ⟨vb,voff,none⟩) 1 vc] w fun e w'=>e = .returned r /\ w' = w1:=by
 have hu : Tryz.prog.underlying 45 = some (.slice 70):=(Tryz.tab 45 _ rfl).kind
 cases sb with
 | none =>
  go_enter Tryz.func128,Tryz.ntmps128
  go_wp2_with (at_builtin;refine Lib.wpList_append_run _ rfl _ _ _ _ rfl _ _ rfl rfl _ _ hr ?_)
  go_ret
  exact ⟨rfl,rfl⟩
 | some a =>
  by_cases hcn : c = n
  ·go_enter Tryz.func128, Tryz.ntmps128
   go_wp2_with (at_builtin;refine Lib.wpList_append_run _ rfl _ _ _ _ rfl _ _ rfl rfl _ _ hr ?_)
   go_ret
   exact ⟨rfl,rfl⟩
  ·go_enter Tryz.func128, Tryz.ntmps128
   go_wp2_with (at_builtin;refine Lib.wpList_append_run _ rfl _ _ _ _ rfl _ _ rfl rfl _ _ hr ?_)
   go_ret
   exact ⟨rfl,rfl⟩
set_option maxHeartbeats 4000000 in
set_option maxRecDepth 100000 in
theorem ins_grow (b n c i vb voff vc : Nat) (cur cA : Array Value) (vs : List Value) (w : World) (tA : TypeId) (fA : Nat × Nat) (hg : w.heap[b]? = some (.cells cur 70 (0, 0))) (hsz : n * 8 <= cur.size)
 (hi : i < n) (hnc : n <= c) (hcn : c < n + 1) (hbig : (n + 1) * 80 <= 140737488355328) (hv : w.heap[vb]? = some (.cells cA tA fA)) (hvl : vs.length = 8) (hvs : ∀ (j : Nat) (v : Value),vs[j]? = some v -> cA[voff + j]? = some v)
 (h1 : ∀ v ∈ vs,v.oneCell' = true) (h1c : ∀ (j : Nat) (v : Value),j < n * 8 -> cur[j]? = some v -> v.oneCell' = true) :
 Calls Tryz.prog 128 #[.slice (some ⟨b, 0, none⟩) n c, .int .i64 i, .slice (some ⟨vb, voff, none⟩) 1 vc] w fun e w' =>
  ∃ (C : Nat) (R : Array Value), e = .returned (.slice (some ⟨w.heap.size, 0, none⟩) (n + 1) C) /\ n + 1 <= C /\ C <= maxLen /\ R.size = C * 8 /\ Keeps (fun _ => False) w w' /\ w'.heap[w.heap.size]? = some (.cells R 70 (0, 0)) /\ w.heap.size < w'.heap.size ∧
   ∀ k,k < (n + 1) * 8 -> R[k]? = (insL 8 cur i n vs)[k]?:=by
 have hu : Tryz.prog.underlying 45 = some (.slice 70):=(Tryz.tab 45 _ rfl).kind
 have hu2 : Tryz.prog.underlying 3 = some (.int .i64):=(Tryz.tab 3 _ rfl).kind
 obtain ⟨ti,tz,hti,htz0,htb0,htz1,htz2,-⟩:=(Tryz.tab 70 _ rfl).info
 have htz : ti.size = 8:=htz0
 have htb : ti.bytes = 80:=htb0
 have htzc : tz.cells.size = 8:=by have:=congrArg List.length htz2;simpa using this
 have hz2 : ¬ ((i : Int) = (n : Int)):=by omega
 have hbw : b < w.heap.size:=lt_of_heap hg
 have hvw : vb < w.heap.size:=lt_of_heap hv
 have hkk : (n : Int) + 1 - (i : Int) = ((n + 1 - i : Nat) : Int):=by omega
 have hold : (Builtin.firstCells ti.size i (.slice (some ⟨b, 0, none⟩) i c)).run Tryz.prog w.drew = .ok (cur.toList.take (i * 8)).toArray w.drew :=
  run_first_row (w := w.drew) hg (by rw [htz]; simp; omega) fun j v hj => by
   rw [List.getElem?_take] at hj
   split at hj
   ·simpa using hj
   ·simp at hj
 obtain ⟨C,hC⟩ : ∃ C,C = grownCap w (n + 1) c 70:=⟨_,rfl⟩
 obtain ⟨hC1,hC2⟩:=grownCap_bounds w (n + 1) c 70 (by omega)
 rw [<- hC] at hC1 hC2
 have hC3 : C <= 9223372036854775807:=hC2
 obtain ⟨R0,hR0⟩ : ∃ R0 : Array Value,R0 = (cur.toList.take (i * 8)).toArray ++ Builtin.zeroCells tz.cells (n + 1 - i) ++ Builtin.zeroCells tz.cells (C - (n + 1)):=⟨_,rfl⟩
 have hR0s : R0.size = C * 8:=by rw [hR0];simp [zeroCells_size,htzc];omega
 have hR0c : ∀ k, k < i * 8 -> R0[k]? = cur[k]? := fun k hk => by
  have h1 : k < (cur.toList.take (i * 8)).toArray.size:=by simp;omega
  rw [hR0,Array.append_assoc,Array.getElem?_append_left h1]
  rw [List.getElem?_toArray,List.getElem?_take,if_pos hk];simp
 have hrz : ∀ ty, (Builtin.append_ #[45, 3] ty #[.slice (some ⟨b, 0, none⟩) i c, .int .i64 ((n : Int) + 1 - (i : Int))]).run Tryz.prog w =
  .ok (.slice (some ⟨w.heap.size,0,none⟩) (n + 1) C) (w.drew.alloc (.cells R0 70)):=fun ty=>by
  have h := Lib.run_append_grow_zeros w 45 3 ty 70 ti tz .i64 .i64 hu hu2 hti htz1 (some ⟨b, 0, none⟩) i c (cur.toList.take (i * 8)) hold (n + 1 - i) (by omega) (by omega) (by omega) (by omega) (by rw [htb]; omega) (by
   rw [htb,show i + (n + 1 - i) = n + 1 by omega]
   exact growslice_fits (by omega) hbig)
  rw [show i + (n + 1 - i) = n + 1 by omega,<- hC,<- hR0] at h
  rw [hkk]
  exact h
 obtain ⟨c1,hc1⟩ : ∃ c1,c1 = (cur.toList.drop (i * 8)).take ((n - i) * 8):=⟨_,rfl⟩
 have hc1l : c1.length = (n - i) * 8:=by rw [hc1];exact mid_len hsz
 obtain ⟨W1,hW1⟩ : ∃ W1,W1 = w.drew.alloc (.cells R0 70):=⟨_,rfl⟩
 have hW1h : W1.heap[w.heap.size]? = some (.cells R0 70 (0,0)):=by rw [hW1];exact heap_alloc_new w.drew _
 have hW1b : ∀ k,k < w.heap.size -> W1.heap[k]? = w.heap[k]?:=fun k hk=>by rw [hW1];exact Go.RowKit.Below.heap_alloc w.drew _ k hk
 have hW1s : W1.heap.size = w.heap.size + 1:=by rw [hW1];show (w.heap.push _).size = _;simp
 rw [<- hW1] at hrz
 have hcpA : ∀ (W : World), W.heap = W1.heap -> ∀ ty dc, (Builtin.copy_ #[45, 45] ty #[.slice (some ⟨w.heap.size, i * 8, none⟩) (n + 1 - i) dc, .slice (some ⟨vb, voff, none⟩) 1 vc]).run Tryz.prog W = .ok (goInt (1 : Nat)) (W.setRow w.heap.size (spl R0 (i * 8) vs)) := fun W hW ty dc => by
  refine run_copyRow (w:=W) (n:=1) (o:=i * 8) (dLen:=n + 1 - i) (sLen:=1) (g:=w.heap.size) (b:=some ⟨vb,voff,none⟩) hu hti (by rw [hW];exact hW1h) (by simp only [Nat.min_def];split <;> omega) (run_firstCells_some W _ 1 _ 1 vc vs (by rw [hvl,htz]) fun j v hj=>?_) (by omega) h1
  rw [addr_add]
  simpa [World.cell?,hW,hW1b vb hvw,hv] using hvs j v hj
 obtain ⟨R1,hR1⟩ : ∃ R1,R1 = spl R0 (i * 8) vs:=⟨_,rfl⟩
 have hR1s : R1.size = R0.size:=by rw [hR1];exact uZ (by omega)
 obtain ⟨W2,hW2⟩ : ∃ W2,W2 = W1.setRow w.heap.size (spl R0 (i * 8) vs):=⟨_,rfl⟩
 have hcpB : ∀ (W : World), W.heap = W2.heap -> ∀ ty dc sc, (Builtin.copy_ #[45, 45] ty #[.slice (some ⟨w.heap.size, (i + 1) * 8, none⟩) (n - i) dc, .slice (some ⟨b, i * 8, none⟩) (n - i) sc]).run Tryz.prog W = .ok (goInt (n - i : Nat)) (W.setRow w.heap.size (spl R1 ((i + 1) * 8) c1)) := fun W hW ty dc sc => by
  have hg2 : W.heap[w.heap.size]? = some (.cells R1 70 (0,0)):=by rw [hW,hW2,hR1];exact setRow_heap W1 _ _ _ _ _ hW1h
  have hgb : W.heap[b]? = some (.cells cur 70 (0,0)):=by rw [hW,hW2];exact (setRow_other W1 _ b _ (by omega)).trans ((hW1b b hbw).trans hg)
  refine run_copyRow (w:=W) (n:=n - i) (o:=(i + 1) * 8) (dLen:=n - i) (sLen:=n - i) (g:=w.heap.size) (b:=some ⟨b,i * 8,none⟩) hu hti hg2 (by simp only [Nat.min_def];split <;> omega) (run_first_row (w:=W) (n:=n - i) (size:=ti.size) hgb (by rw [hc1l,htz]) fun j v hj=>?_) (by omega) (fun v hv=>?_)
  ·rw [hc1, List.getElem?_take] at hj
   split at hj
   ·rw [List.getElem?_drop] at hj;simpa using hj
   ·simp at hj
  ·obtain ⟨j, hj2⟩ := List.mem_iff_getElem?.1 hv
   rw [hc1,List.getElem?_take] at hj2
   split at hj2
   ·rw [List.getElem?_drop] at hj2
    exact h1c (i * 8 + j) _ (by omega) (by simpa using hj2)
   ·simp at hj2
 clear hC hR0 hold hkk htz2
 have hw1 : IntKind.i64.wrap ((i : Int) + 1) = (i : Int) + 1:=by rw [IntKind.wrap_i64];omega
 have hb1 : (0 : Int) <= (i : Int) + 1:=by omega
 have htn : ((i : Int) + 1).toNat = i + 1:=by omega
 have hb2 : ¬ (C = i + 1):=by omega
 have hb3 : (i : Int) <= (n : Int) + 1:=by omega
 have hb4 : ¬ (C = i):=by omega
 have hb5 : ¬ (c = i):=by omega
 have hin : i <= n:=by omega
 have hin1 : i <= n + 1:=by omega
 have hz3 : (c : Int) < (n : Int) + 1:=by omega
 subst hW2 hW1
 go_enter Tryz.func128,Tryz.ntmps128
 go_wp2_with (at_builtin;refine Lib.wpList_append_run _ rfl _ _ _ _ rfl _ _ rfl rfl _ _ (hrz _) ?_)
 rw [hcpA (w.alloc (.cells R0 70)).drew rfl]
 go_wp2
 go_region_law (refine step_copy_eq rfl _ _ 45 45 rfl (.slice (some ⟨w.heap.size,(i + 1) * 8,none⟩) (n - i) (C - (i + 1))) (.slice (some ⟨b,i * 8,none⟩) (n - i) (c - i)) (by simp [Act.eval,Act.put]) (by simp [Act.eval,Act.put]) (hcpB _ (by rfl) _ _ _) ?_)
 go_wp2
 go_ret
 obtain ⟨k1,k2,k3⟩:=grow2 w R0 (spl R0 (i * 8) vs) (spl (spl R0 (i * 8) vs) ((i + 1) * 8) ((cur.toList.drop (i * 8)).take ((n - i) * 8))) 70
 exact ⟨C,_,rfl,hC1,hC2,by rw [uZ (by rw [uZ (by omega)];rw [mid_len hsz];omega),uZ (by omega),hR0s],k1,k2,k3,fun k hk=>ins_get_grow hvl hin hsz (by omega) hR0c k hk⟩
theorem insert_con (l : List (List PV)) (i : Nat) (el : List PV) (hi : i <= l.length) (hl : l.length <= 1000000) (hel : el.length = 8) :
 Con Tryz.prog 128 [.row 1024,.p (I i),.p (.sl 8 [el])] [.row 70 8 l] (.ret (.row 1024) [] [.row 70 8 (l.take i ++ el :: l.drop i)]):=by
 refine fun F w m xs hp hlen har=>.inl ⟨⟨_,Tryz.func128,rfl,rfl⟩,?_⟩
 obtain ⟨x0,hx0,hr0⟩:=har 0 _ rfl
 obtain ⟨x1,hx1,hr1⟩:=har 1 _ rfl
 obtain ⟨x2,hx2,hr2⟩:=har 2 _ rfl
 have hxs : xs.toArray = #[x0, x1, x2] := by
  match xs,hlen with
  | [y0,y1,y2],_=>simp at hx0 hx1 hx2;subst hx0 hx1 hx2;rfl
 rw [hxs]
 have h0 : x0 = m.r 1024:=hr0
 have h1 : x1 = .int .i64 i := by
  have hr1' : RP w _ (.v (.int .i64 i)) x1:=hr1
  cases hr1';rfl
 subst h1
 have hr2' : RP w (Gd F m (nmF [.row 70 8 l] [])) (.sl 8 [el]) x2:=hr2
 obtain ⟨news,hsrc⟩:=src_RP (P:=Tryz.prog) (by omega : 0 < 8) hr2'
 have hu : Tryz.prog.underlying 45 = some (.slice 70):=(Tryz.tab 45 _ rfl).kind
 obtain ⟨ti,tz,hti,htz0,htb0,htz1,htz2,-⟩:=(Tryz.tab 70 _ rfl).info
 have htz : ti.size = 8:=htz0
 have htb : ti.bytes = 80:=htb0
 have htzc : tz.cells.size = 8:=by have:=congrArg List.length htz2;simpa using this
 have hrb : RBr w w (Gd F m (nmF [.row 70 8 l] [])) 70 8 l (m.r 1024):=(hp.blks 1024 _ (by rw [nmF1];simp)).RBr
 have hY : ∀ k,ownB (m.r 1024) = some k -> owns m (nmF [.row 70 8 l] []) 1024 k:=fun k hk=>by unfold owns;rw [nmF1];simpa using hk
 rcases hr2'.slI with ⟨b0,-,h0⟩ | ⟨vb,voff,vc,hx2e,-,-,hvk,hve⟩
 ·simp at h0
 have hx2e : x2 = .slice (some ⟨vb,voff,none⟩) 1 vc:=hx2e
 subst hx2e
 obtain ⟨hvb,hvg⟩:=hvk (by simp)
 obtain ⟨-,hvc⟩:=hve 0 el rfl
 by_cases hend : i = l.length
 ·subst hend
  obtain ⟨v,w',hrun,hkp,hrb',hown⟩:=app_row (F:=F) (m:=m) (st:=⟨fun _=>.junk,nmF [.row 70 8 l] []⟩) hu hti htz1 (by rw [htzc,htz]) (.inl ⟨_,hu⟩) #[45,45] ⟨rfl,rfl⟩ 45 htz hsrc (by rw [htb];simp;omega) (by simp;omega) (by omega) (by omega) (.inl ⟨hrb,hY⟩)
  have hcall : ∃ sb c, m.r 1024 = .slice sb l.length c /\ l.length <= c /\ c <= 9223372036854775807 := by
   rcases hrb with ⟨-,⟨a,ha⟩,hl0⟩ | ⟨k,cap,cur,hr,-,h2,h3,-⟩
   ·exact ⟨a,0,by rw [ha,hl0];rfl,by rw [hl0];simp,by omega⟩
   ·exact ⟨_,cap,hr,h2,h3⟩
  obtain ⟨sb,c,hs,hc1,hc2⟩:=hcall
  rw [h0,hs]
  rw [hs] at hrun
  refine (ins_end sb l.length c vb voff vc w hc1 hc2 hrun).mono ?_
  rintro e w2 ⟨rfl,rfl⟩
  have e1 : l.take l.length ++ el :: l.drop l.length = l ++ [el]:=by simp
  rw [e1]
  exact row_out hp hkp hrb' hown
 ·have hlt : i < l.length := by omega
  rcases hrb with ⟨-,-,hl0⟩ | ⟨k,cap,cur,hr,hc0,hlc,hcm,hh,hsz,hels⟩
  ·rw [hl0] at hlt;simp at hlt
  have hk : owns m (nmF [.row 70 8 l] []) 1024 k:=hY k (by simp [hr,ownB];omega)
  have hvbk : vb ≠ k:=fun h=>hvg (.inr ⟨_,h ▸ hk⟩)
  have hcm' : cap <= 9223372036854775807:=hcm
  have hlsz : l.length * 8 <= cur.size:=by rw [hsz];omega
  have hcell : ∀ (j : Nat) (p : PV),el[j]? = some p -> p.one = true /\ ∃ u,w.cell? ⟨vb,voff + j,none⟩ = some u /\ RP w (Gd F m (nmF [.row 70 8 l] [])) p u:=fun j p hj=>by simpa using hvc j p hj
  have hcA : ∃ cA tA fA, w.heap[vb]? = some (.cells cA tA fA) := by
   obtain ⟨-,u,hu,-⟩:=hcell 0 _ (List.getElem?_eq_getElem (by omega))
   unfold World.cell? at hu
   split at hu
   ·exact ⟨_,_,_,by assumption⟩
   ·simp at hu
  obtain ⟨cA,tA,fA,hcA⟩:=hcA
  obtain ⟨vs, hvl, hvs, hvr⟩ : ∃ vs : List Value, vs.length = 8 /\ (∀ (j : Nat) (v : Value), vs[j]? = some v -> cA[voff + j]? = some v) /\ (∀ (j : Nat) (p : PV), el[j]? = some p -> p.one = true /\ ∃ u, vs[j]? = some u /\ RP w (Gd F m (nmF [.row 70 8 l] [])) p u) := by
   have hex : ∀ j, j < 8 -> ∃ u, cA[voff + j]? = some u /\ ∃ p, el[j]? = some p /\ p.one = true /\ RP w (Gd F m (nmF [.row 70 8 l] [])) p u := fun j hj => by
    obtain ⟨ho,u,hu,hpr⟩:=hcell j _ (List.getElem?_eq_getElem (by omega))
    exact ⟨u,by simpa [World.cell?,hcA] using hu,_,List.getElem?_eq_getElem (by omega),ho,hpr⟩
   refine ⟨(List.range 8).map fun j=>(cA[voff + j]?).getD undef,by simp,fun j v hj=>?_,fun j p hj=>?_⟩
   ·rw [List.getElem?_map] at hj
    by_cases hj7 : j < 8
    ·rw [List.getElem?_range hj7] at hj
     obtain ⟨u,h2,-⟩:=hex j hj7
     simp only [Option.map_some,h2,Option.getD_some,tX] at hj
     rw [h2,hj]
    ·rw [List.getElem?_eq_none (by simp;omega)] at hj;simp at hj
   ·have hj7 : j < 8 := by have := (List.getElem?_eq_some_iff.1 hj).1; omega
    obtain ⟨u,h2,p',h3,h4,h5⟩:=hex j hj7
    rw [hj] at h3
    simp only [tX] at h3
    subst h3
    exact ⟨h4,u,by rw [List.getElem?_map,List.getElem?_range hj7];simp [h2],h5⟩
  have hone : ∀ v ∈ vs, v.oneCell' = true := fun v hv => by
   obtain ⟨j,hj⟩:=List.mem_iff_getElem?.1 hv
   have hjl:=(List.getElem?_eq_some_iff.1 hj).1
   obtain ⟨h2,u,h3,h4⟩:=hvr j _ (List.getElem?_eq_getElem (by omega))
   rw [hj] at h3
   simp only [tX] at h3
   rw [h3];exact h4.oneCell h2
  have honec : ∀ (j : Nat) (v : Value), j < l.length * 8 -> cur[j]? = some v -> v.oneCell' = true := fun j v hj hv => by
   have hjl : j / 8 < l.length:=by omega
   obtain ⟨h2,h3⟩:=hels (j / 8) _ (List.getElem?_eq_getElem hjl)
   obtain ⟨h4,u,h5,h6⟩:=h3 (j % 8) _ (List.getElem?_eq_getElem (by rw [h2];omega))
   have h5' : cur[j / 8 * 8 + j % 8]? = some u:=h5
   rw [show j / 8 * 8 + j % 8 = j by omega,hv] at h5'
   simp only [tX] at h5'
   rw [h5'];exact h6.oneCell h4
  rw [h0,hr]
  by_cases hroom : l.length + 1 <= cap
  ·refine (ins_shift k l.length cap i vb voff vc cur cA vs w tA fA hh hsz hlt hroom hcm' hvbk hcA hvl hvs hone honec).mono ?_
   rintro e w2 ⟨rfl,rfl⟩
   obtain ⟨k1,k2⟩:=shift2 w k cur (spl cur ((i + 1) * 8) ((cur.toList.drop (i * 8)).take ((l.length - i) * 8))) (spl (spl cur ((i + 1) * 8) ((cur.toList.drop (i * 8)).take ((l.length - i) * 8))) (i * 8) vs) 70 hh
   have e1 : (l.take i ++ el :: l.drop i).length = l.length + 1:=by simp;omega
   have hfit : (l.length + 1) * 8 <= cur.size:=by rw [hsz];omega
   refine row_out hp (k1.mono fun k' h=>h ▸ hk) (.inr ⟨k,cap,_,by rw [e1],hc0,by rw [e1];exact hroom,hcm,k2,?_,EL.ins hels hvl hel hvr hi hlsz fun j hj=>ins_get_shift hvl hi hfit j hj⟩) fun k' hk'=>?_
   ·rw [uZ (by rw [uZ (by rw [mid_len hlsz];omega)];omega),uZ (by rw [mid_len hlsz];omega),hsz]
   ·simp only [ownB, if_neg (show ¬ cap = 0 by omega), tX] at hk'
    subst hk'
    exact ⟨.inl hk,lt_of_heap k2⟩
  ·refine (ins_grow k l.length cap i vb voff vc cur cA vs w tA fA hh hlsz hlt hlc (by omega) (by omega) hcA hvl hvs hone honec).mono ?_
   rintro e w2 ⟨C,R,rfl,hC1,hC2,hRs,hkp,hR,hsz2,hRg⟩
   have e1 : (l.take i ++ el :: l.drop i).length = l.length + 1:=by simp;omega
   refine row_out hp (hkp.mono fun _ h=>h.elim) (.inr ⟨w.heap.size,C,R,by rw [e1],by omega,by rw [e1];exact hC1,hC2,hR,hRs,EL.ins hels hvl hel hvr hi hlsz hRg⟩) fun k' hk'=>?_
   simp only [ownB,if_neg (show ¬ C = 0 by omega),tX] at hk'
   subst hk'
   exact ⟨.inr (Nat.le_refl _),hsz2⟩
end Go.Proofs.YtffflakmofbilaaGreat
namespace Go.Proofs.YtffflakmofbilaaGreat
set_option linter.unusedSimpArgs false
set_option linter.unusedVariables false
open Go Go.Av
attribute [local irreducible] Go.Av.yA Go.Av.zR Go.Av.xZ Go.Av.zJ Go.Av.xV Go.Av.zG Go.Av.Con
theorem clone142 (l : List (List PV)) (hl : l.length <= 1000000) : RCon 142 [.p (.sl 2 l)] 25 2 l := by
 refine wBodyR Tryz.tab Tryz.mixed Tryz.func142 rfl rfl Tryz.ntmps142 rfl (by simp) (by simp) fun Q hr hn=>?_
 repeat' first|(refine wRetG [.row 2 25 2] ?_)|(refine And.intro (by omega) (Or.inl ?_))|(refine And.intro ?_ (fun hnil=>?_))|(refine hK _ ?_;clear hK)|(refine zT fun K hK=>?_)|(refine zS ?_;simp only [tZ,tY,strip])|((first | refine wOs fun K hK=>?_ | refine zW ?_);simp)|(refine zP ?_;try simp)|(refine wOn ?_;try simp only [zZ])
 ·refine hr _ 7 (by simp) (by simp) (by omega)
 ·subst hnil
  simp only [thenA_r]
  refine hr _ 2 (by simp) (by simp) (by omega)
def cloneT : Nat -> Option (Nat × Nat)
 | 124=>some (41,7)
 | 140=>some (133,4)
 | 142=>some (25,2)
 | 153=>some (129,5)
 | 154=>some (3,1)
 | _=>none
def base : CallF' := fun g args β => match args, β with
 | [.p (.sl c' l)], [] => match cloneT g with
  | some (e,c)=>if c' = c /\ l.length <= 1000000 then some (.ret (.row 2048) [.row e c l] []) else none
  | none=>none
 | [.row 1024, .p (.v (.int .i64 i)), .p (.sl 8 [el])], [.row e c l] =>
  if g = 128 /\ e = 70 /\ c = 8 /\ 0 <= i /\ i.toNat <= l.length /\ l.length <= 1000000 /\ el.length = 8 then some (.ret (.row 1024) [] [.row e c (l.take i.toNat ++ el :: l.drop i.toNat)]) else none
 | _,_=>none
structure Lr where
 (id ph ac cu : Int)
 (ms : List Zx)
 (ae an q : Int)
 deriving DecidableEq
def Lr.cells (x : Lr) : List PV := [I x.id, I x.ph, I x.ac, I x.cu, .sl 2 (zxs x.ms), I x.ae, I x.an, I x.q]
def lrs (l : List Lr) : List (List PV) := l.map Lr.cells
@[simp] theorem lrs_len (l : List Lr) : (lrs l).length = l.length := by simp [lrs]
@[simp] theorem lrs_getElem (l : List Lr) (k : Nat) (h : k < (lrs l).length) : (lrs l)[k] = [I (l[k]'(by simpa using h)).id, I (l[k]'(by simpa using h)).ph, I (l[k]'(by simpa using h)).ac, I (l[k]'(by simpa using h)).cu, .sl 2 (zxs (l[k]'(by simpa using h)).ms), I (l[k]'(by simpa using h)).ae, I (l[k]'(by simpa using h)).an, I (l[k]'(by simpa using h)).q] := by simp [lrs, Lr.cells]
theorem xQ {l : List Lr} {k : Nat} (h : k < l.length) : (lrs l)[k]? = some [I l[k].id, I l[k].ph, I l[k].ac, I l[k].cu, .sl 2 (zxs l[k].ms), I l[k].ae, I l[k].an, I l[k].q] := by simp [lrs, h, Lr.cells]
theorem lrs_set (l : List Lr) (k : Nat) (x : Lr) : (lrs l).set k [I x.id, I x.ph, I x.ac, I x.cu, .sl 2 (zxs x.ms), I x.ae, I x.an, I x.q] = lrs (l.set k x) := by simp [lrs, Lr.cells, List.map_set]
theorem lrs_take (l : List Lr) (k : Nat) : (lrs l).take k = lrs (l.take k) := by simp [lrs, List.map_take]
theorem lrs_drop (l : List Lr) (k : Nat) : (lrs l).drop k = lrs (l.drop k) := by simp [lrs, List.map_drop]
def lr0 : Lr := ⟨0, 0, 0, 0, [], 0, 0, 0⟩
theorem lrs_rep (n : Nat) : List.replicate n [I 0, I 0, I 0, I 0, .sl 2 [], I 0, I 0, I 0] = lrs (List.replicate n lr0) := by simp [lrs, lr0, Lr.cells, zxs]
theorem ownLr_con (x : Lr) (hm : x.ms.length <= 1000000) : zB Tryz.prog 126 [.p (.agg x.cells)] (.p (.agg x.cells)) := by
 have c:=clone142 (zxs x.ms) (by simpa using hm)
 unfold Lr.cells
 refine zK Tryz.tab Tryz.mixed Tryz.func126 rfl rfl Tryz.ntmps126 (by simp) (by simp) fun Q hr hn=>?_
 repeat' first|(refine hK _ ?_;clear hK)|(refine zT fun K hK=>?_)|(refine zS ?_;simp only [tZ,tY,strip])|((first | refine wOs fun K hK=>?_ | refine zY ?_);simp)|(refine zL ?_;try simp)|(refine wOn ?_;try simp only [zZ])|(refine zR.own (c) ?_)
 all_goals apply hr
 all_goals simp [Tryz.f126]
set_option maxHeartbeats 1000000 in
theorem listLr_con (l : List Lr) (hl : l.length <= 1000000) (hm : ∀ x ∈ l, x.ms.length <= 1000000) : RCon 125 [.p (.sl 8 (lrs l)), .p (.v (.func (.func 126) #[] #[]))] 70 8 (lrs l) := by
 by_cases h0 : l.length = 0
 ·obtain rfl := List.length_eq_zero_iff.1 h0
  refine wBodyR Tryz.tab Tryz.mixed Tryz.func125 rfl rfl Tryz.ntmps125 rfl (by simp) (by simp) fun Q hr hn=>?_
  repeat' first|(refine wRetG [.row 4 70 8] ?_)|(refine hK _ ?_;clear hK)|(refine zT fun K hK=>?_)|(refine zS ?_;simp only [tZ,tY,strip])|((first | refine wOs fun K hK=>?_ | refine zW ?_);simp [lrs])|(refine wOn ?_;try simp only [zZ])
  all_goals refine hr _ 4 (by simp) (by simp [lrs]) (by omega)
 have h0' : ¬ (l.length : Int) = 0:=by omega
 refine wBodyR Tryz.tab Tryz.mixed Tryz.func125 rfl rfl Tryz.ntmps125 rfl (by simp) (by simp) fun Q hr hn=>?_
 repeat' first|(rw [if_pos ⟨by omega,by omega⟩])|(refine hK _ ?_;clear hK)|(refine zT fun K hK=>?_)|(refine zS ?_;simp only [tZ,tY,strip])|((first | refine wOs fun K hK=>?_ | refine zW ?_);simp [h0,lrs_rep])|(first | refine zU ?_)|(refine zP ?_;try simp)|(refine wOn ?_;try simp only [zZ])
 refine yJ (fun N st=>∃ k zs,k + N = l.length /\ zs.length = l.length /\ zs.take k = l.take k /\ st.s 1 = .p (.v (.func (.func 126) #[] #[])) /\ st.s 5 = .row 13 /\ st.s 14 = .p (.sl 8 (lrs l)) /\ st.s 15 = .p (I l.length) /\ st.s 16 = .p (I k) /\ st.b 13 = some (.row 70 8 (lrs zs))) l.length ⟨0,List.replicate l.length lr0,by simp⟩ fun K N st hL ⟨k,zs,hk,hz,hi,g1,g5,g14,g15,g16,b13⟩=>?_
 by_cases hlt : k < l.length
 ·have hlt' : (k : Int) < l.length := by omega
  have hltz : k < zs.length:=by omega
  have hw:=yF k _ hlt (by omega)
  have he:=xQ hlt
  have c:=ownLr_con l[k] (hm _ (List.getElem_mem hlt))
  unfold Lr.cells at c
  have hs:=lrs_set zs k l[k]
  have hst:=set_takeK zs k l[k] hltz
  rw [hi,<- List.take_succ_eq_append_getElem hlt] at hst
  repeat' first|(refine hK _ ?_;clear hK)|(refine zT fun K hK=>?_)|(refine zS ?_;simp only [tZ,tY,strip])|((first | refine wOs fun K hK=>?_ | refine zY ?_ | refine zW ?_);simp [g1,g5,g14,g15,g16,b13,hlt,hlt',hltz,hw,hs])|(first | refine zU ?_)|(refine zP ?_;try simp)|(refine wOn ?_;try simp only [zZ])|(refine zR.pure (c) rfl ?_)
  refine hL _ (N - 1) (by omega) ⟨k + 1,zs.set k l[k],by omega,by simpa using hz,hst,?_⟩
  simp [g1,g5,g14,g15]
 ·have hlt' : ¬ (k : Int) < l.length := by omega
  rw [List.take_of_length_le (by omega),List.take_of_length_le (by omega)] at hi
  subst hi
  repeat' first|(refine hK _ ?_;clear hK)|(clear hK;refine hK _ ?_;clear hK)|(refine zT fun K hK=>?_)|(refine zS ?_;simp only [tZ,tY,strip])|((first | refine wOs fun K hK=>?_ | refine zW ?_);simp [g5,g15,g16,hlt'])|((first | refine zL ?_ | refine zC ?_);try simp)|(refine wOn ?_;try simp only [zZ])
  all_goals refine hr _ 13 (by simp) (by simp [b13]) (by omega)
theorem mine_con (y x : Lr) : zB Tryz.prog 127 [.p (.agg y.cells), .rptr x.cells 0] (.p (B (decide (y.id = x.id)))) := by
 unfold Lr.cells
 by_cases h : y.id = x.id
 all_goals refine zK Tryz.tab Tryz.mixed Tryz.func127 rfl rfl Tryz.ntmps127 (by simp) (by simp) fun Q hr hn=>?_
 all_goals repeat' first|(refine hK _ ?_;clear hK)|(refine zT fun K hK=>?_)|(refine zS ?_;simp only [tZ,tY,strip])|(refine wOs fun K hK=>?_;simp [h])|(refine zL ?_;try simp)|(refine wOn ?_;try simp only [zZ])
 all_goals apply hr
 all_goals simp [Tryz.f127,h]
def fiL (l : List Lr) (n : Int) : Nat := l.findIdx (fun y => decide (y.id = n))
theorem fiL_le (l : List Lr) (n : Int) : fiL l n <= l.length := List.findIdx_le_length
theorem fiL_of {l : List Lr} {n : Int} {k : Nat} (hk : k < l.length) (h : l[k].id = n) (hb : ∀ j (hj : j < k), ¬ (l[j]'(by omega)).id = n) : fiL l n = k := by
 unfold fiL
 rw [List.findIdx_eq hk]
 exact ⟨by simpa using h,fun j hj=>by simpa using hb j hj⟩
theorem fiL_none {l : List Lr} {n : Int} (hb : ∀ j (hj : j < l.length), ¬ l[j].id = n) : fiL l n = l.length := by
 unfold fiL
 rw [List.findIdx_eq_length]
 intro x hx
 obtain ⟨j,hj,rfl⟩:=List.getElem_of_mem hx
 simpa using hb j hj
def fiLV (l : List Lr) (n : Int) : Int := if fiL l n = l.length then -1 else fiL l n
set_option maxHeartbeats 1000000 in
theorem indexL_con (l : List Lr) (x : Lr) (hl : l.length <= 1000000) :
 zB Tryz.prog 103 [.p (.sl 8 (lrs l)),.clo ⟨127,false⟩ [.rp x.cells 0]] (.p (I (fiLV l x.id))):=by
 refine zK Tryz.tab Tryz.mixed Tryz.func103 rfl rfl Tryz.ntmps103 (by simp) (by simp) fun Q hr hn=>?_
 repeat' first|(refine hK _ ?_;clear hK)|(refine zT fun K hK=>?_)|(refine zS ?_;simp only [tZ,tY,strip])|(refine wOs fun K hK=>?_;simp)|(first | refine zU ?_)|(refine wOn ?_;try simp only [zZ])
 refine yJ (fun N st=>∃ k,k + N = l.length /\ st.s 0 = .p (.sl 8 (lrs l)) /\ st.s 1 = .clo ⟨127,false⟩ [.rp x.cells 0] /\ st.s 7 = .p (I l.length) /\ st.s 8 = .p (I k) /\ ∀ j (hj : j < k) (hjl : j < l.length),¬ l[j].id = x.id) l.length ⟨0,by simp⟩ fun K N st hL ⟨k,hk,g0,g1,g7,g8,hi⟩=>?_
 by_cases hlt : k < l.length
 ·have hlt' : (k : Int) < l.length := by omega
  have hw:=yF k _ hlt (by omega)
  have he:=xQ hlt
  have hx:=mine_con l[k] x
  unfold Lr.cells at hx g1
  by_cases o : l[k].id = x.id
  ·have hf : fiLV l x.id = k := by
    have:=fiL_of hlt o fun j hj=>hi j hj (by omega)
    unfold fiLV;rw [this,if_neg (by omega)]
   rw [hf] at hr
   rw [decide_eq_true o] at hx
   repeat' first|(refine hK _ ?_;clear hK)|(refine zT fun K hK=>?_)|(refine zS ?_;simp only [tZ,tY,strip])|((first | refine wOs fun K hK=>?_ | refine zY ?_ | refine zW ?_);simp [g0,g1,g7,g8,hlt,hlt'])|(first | refine zU ?_)|((first | refine zL ?_ | refine zP ?_);try simp)|(refine wOn ?_;try simp only [zZ])|(refine zR.pure (hx) rfl ?_)
   all_goals apply hr
   all_goals simp [Tryz.f103]
  ·rw [decide_eq_false o] at hx
   repeat' first|(refine hK _ ?_;clear hK)|(refine zT fun K hK=>?_)|(refine zS ?_;simp only [tZ,tY,strip])|((first | refine wOs fun K hK=>?_ | refine zY ?_ | refine zW ?_);simp [g0,g1,g7,g8,hlt,hlt',hw])|(first | refine zU ?_)|(refine zP ?_;try simp)|(refine wOn ?_;try simp only [zZ])|(refine zR.pure (hx) rfl ?_)
   refine hL _ (N - 1) (by omega) ⟨k + 1,by omega,?_⟩
   simp [g0,g1,g7,Lr.cells]
   intro j hj hjl
   by_cases hjk : j = k
   ·subst hjk;exact o
   ·exact hi j (by omega) hjl
 ·have hlt' : ¬ (k : Int) < l.length := by omega
  have hf : fiLV l x.id = -1 := by
   have:=fiL_none (l:=l) (n:=x.id) fun j hj=>hi j (by omega) hj
   unfold fiLV;rw [if_pos this]
  rw [hf] at hr
  repeat' first|(refine hK _ ?_;clear hK)|(clear hK;refine hK _ ?_;clear hK)|(refine zT fun K hK=>?_)|(refine zS ?_;simp only [tZ,tY,strip])|((first | refine wOs fun K hK=>?_ | refine zW ?_);simp [g7,g8,hlt'])|((first | refine zL ?_ | refine zC ?_);try simp)|(refine wOn ?_;try simp only [zZ])
  all_goals apply hr
  all_goals simp [Tryz.f103]
def wQ (l : List Lr) (n : Int) : List Lr := l.filter fun x => !decide (x.id = n)
theorem butL_snoc {l : List Lr} {k : Nat} (h : k < l.length) (n : Int) : wQ (l.take (k + 1)) n = if l[k].id = n then wQ (l.take k) n else wQ (l.take k) n ++ [l[k]] := by
 rw [List.take_succ_eq_append_getElem h]
 unfold wQ
 rw [List.filter_append]
 by_cases g : l[k].id = n <;> simp [g]
theorem butL_len (l : List Lr) (n : Int) : (wQ l n).length <= l.length := List.length_filter_le _ _
theorem butL_id {l : List Lr} {n : Int} (h : fiL l n = l.length) : wQ l n = l := by
 unfold fiL at h
 rw [List.findIdx_eq_length] at h
 unfold wQ
 rw [List.filter_eq_self]
 intro x hx
 have:=h x hx
 simpa using this
theorem butL_fi {l : List Lr} {n : Int} (h : fiL l n < l.length) : wQ (l.take (fiL l n + 1)) n = l.take (fiL l n) := by
 have h1 : l[fiL l n].id = n := by
  have:=List.findIdx_getElem (p:=(fun y : Lr=>decide (y.id = n))) (xs:=l) (w:=h)
  exact of_decide_eq_true this
 rw [butL_snoc h,if_pos h1]
 unfold wQ
 rw [List.filter_eq_self]
 intro x hx
 obtain ⟨j,hj,rfl⟩:=List.getElem_of_mem hx
 rw [List.getElem_take]
 have hj' : j < fiL l n:=by simp at hj;omega
 have:=List.not_of_lt_findIdx (p:=(fun y : Lr=>decide (y.id = n))) (xs:=l) hj'
 simpa using this
set_option maxHeartbeats 4000000 in
theorem deleteL_con (l : List Lr) (x : Lr) (hl : l.length <= 1000000) :
 Con Tryz.prog 69 [.row 1024,.clo ⟨127,false⟩ [.rp x.cells 0]] [.row 70 8 (lrs l)] (.ret (.row 1024) [] [.row 70 8 (lrs (wQ l x.id))]):=by
 have hc:=indexL_con l x hl
 unfold Lr.cells at hc
 by_cases hf : fiL l x.id = l.length
 ·have hv : fiLV l x.id = -1 := by unfold fiLV; rw [if_pos hf]
  rw [hv] at hc
  rw [butL_id hf]
  unfold Lr.cells
  refine zE Tryz.tab Tryz.mixed Tryz.func69 rfl rfl Tryz.ntmps69 (by simp) (by simp) fun Q hr hn hp=>?_
  repeat' first|(refine hK _ ?_;clear hK)|(refine zT fun K hK=>?_)|(refine zS ?_;simp only [tZ,tY,strip])|((first | refine wOs fun K hK=>?_ | refine zY ?_ | refine zW ?_);simp [Cap.free])|(refine zL ?_;try simp)|(refine wOn ?_;try simp only [zZ])|(refine zR.lent (hc) rfl ?_)
  all_goals apply hr
  all_goals refine ⟨[],by simp,by simp,?_⟩
  all_goals simp [Tryz.f69,yL,yM,zO,gaN]
 ·have hlt0 : fiL l x.id < l.length := Nat.lt_of_le_of_ne (fiL_le l x.id) hf
  have hv : fiLV l x.id = fiL l x.id:=by unfold fiLV;rw [if_neg hf]
  have hne : ¬ ((fiL l x.id : Nat) : Int) = -1:=by omega
  have hw0:=yF (fiL l x.id) _ hlt0 (by omega)
  rw [hv] at hc
  have hst:=butL_fi hlt0
  generalize fiL l x.id = i0 at *
  have hcx : x.cells = [I x.id,I x.ph,I x.ac,I x.cu,.sl 2 (zxs x.ms),I x.ae,I x.an,I x.q]:=rfl
  rw [hcx]
  refine zE Tryz.tab Tryz.mixed Tryz.func69 rfl rfl Tryz.ntmps69 (by simp) (by simp) fun Q hr hn hp=>?_
  repeat' first|(refine hK _ ?_;clear hK)|(refine zT fun K hK=>?_)|(refine zS ?_;simp only [tZ,tY,strip])|((first | refine wOs fun K hK=>?_ | refine zY ?_ | refine zW ?_);simp [hne,hw0,Cap.free])|(first | refine zU ?_)|(refine zP ?_;try simp)|(refine wOn ?_;try simp only [zZ])|(refine zR.lent (hc) rfl ?_)
  refine yJ (fun N st=>∃ (i j : Nat) (L : List Lr),j + N = l.length /\ i < j /\ L.length = l.length /\ wQ (l.take j) x.id = L.take i /\ (∀ q,j <= q -> L[q]? = l[q]?) /\ st.s 0 = .row 1024 /\ st.s 1 = .clo ⟨127,false⟩ [.rp x.cells 0] /\ st.s 5 = .p (I i) /\ st.s 6 = .p (I j) /\ st.b 1024 = some (.row 70 8 (lrs L))) (l.length - (i0 + 1)) ⟨i0,i0 + 1,l,by omega,by omega,rfl,hst,fun _ _=>rfl,by simp [hcx]⟩ fun K N st hL ⟨i,j,L,hk,hij,hLl,hB,hT,g0,g1,g5,g6,b0⟩=>?_
  by_cases hlt : j < l.length
  ·have hlt' : (j : Int) < l.length := by omega
   have hw:=yF j _ hlt (by omega)
   have hwi:=yF i l.length (by omega) (by omega)
   have hjL : j < L.length:=by omega
   have hiL : i < L.length:=by omega
   have he:=xQ hjL
   have hej : L[j] = l[j] := by
    have:=hT j (Nat.le_refl _)
    rw [List.getElem?_eq_getElem hjL,List.getElem?_eq_getElem hlt] at this
    simpa using this
   have hei:=xQ hiL
   have hil : i < l.length:=by omega
   have hx:=mine_con L[j] x
   have hs:=butL_snoc hlt x.id
   rw [<- hej] at hs
   have hset:=lrs_set L i L[j]
   unfold Lr.cells at hx g1
   by_cases o : L[j].id = x.id
   ·rw [if_pos o] at hs
    rw [decide_eq_true o] at hx
    repeat' first|(refine hK _ ?_;clear hK)|(refine zT fun K hK=>?_)|(refine zS ?_;simp only [tZ,tY,strip])|((first | refine wOs fun K hK=>?_ | refine zY ?_ | refine zW ?_);simp [g0,g1,g6,b0,hlt,hlt',hw,hLl])|(first | refine zU ?_)|(refine zP ?_;try simp)|(refine wOn ?_;try simp only [zZ])|(refine zR.pure (hx) rfl ?_)
    refine hL _ (N - 1) (by omega) ⟨i,j + 1,L,by omega,by omega,hLl,by rw [hs];exact hB,fun q hq=>hT q (by omega),?_⟩
    simp [g0,g1,g5,b0,hcx]
   ·rw [if_neg o, hB] at hs
    rw [decide_eq_false o] at hx
    repeat' first|(refine hK _ ?_;clear hK)|(refine zT fun K hK=>?_)|(refine zS ?_;simp only [tZ,tY,strip])|((first | refine wOs fun K hK=>?_ | refine zY ?_ | refine zW ?_);simp [g0,g1,g5,g6,b0,hlt,hlt',hw,hwi,hLl,hil,hset])|(first | refine zU ?_)|(refine zP ?_;try simp)|(refine wOn ?_;try simp only [zZ])|(refine zR.pure (hx) rfl ?_)
    refine hL _ (N - 1) (by omega) ⟨i + 1,j + 1,L.set i L[j],by omega,by omega,by simpa using hLl,?_,fun q hq=>?_,?_⟩
    ·rw [hs,set_takeK _ _ _ hiL]
    ·rw [List.getElem?_set_ne (by omega)];exact hT q (by omega)
    ·simp [g0,g1,hcx]
  ·obtain rfl : j = l.length := by omega
   rw [List.take_of_length_le (Nat.le_refl _)] at hB
   have hiL : i < L.length:=by omega
   have hiL' : i <= L.length:=by omega
   have hil2 : i <= l.length:=by omega
   have ht:=lrs_take L i
   have hfin : ∀ z : List (List PV), (List.take i (lrs L) ++ z).take i = lrs (wQ l x.id) := fun z => by
    have h1 : (lrs L).take i = lrs (L.take i):=lrs_take L i
    rw [h1,hB,List.take_append_of_le_length (by simp;omega),List.take_of_length_le (by simp;omega)]
   repeat' first|(refine hK _ ?_;clear hK)|(clear hK;refine hK _ ?_;clear hK)|(refine zT fun K hK=>?_)|(refine zS ?_;simp only [tZ,tY,strip])|((first | refine wOs fun K hK=>?_ | refine zW ?_);simp [g0,g5,g6,b0,hLl,hil2,hij])|((first | refine zL ?_ | refine zC ?_);try simp)|(refine wOn ?_;try simp only [zZ])
   all_goals (try rw [hfin])
   repeat' first|(refine hK _ ?_;clear hK)
   all_goals apply hr
   all_goals refine ⟨[],by simp,by simp,?_⟩
   all_goals simp [Tryz.f69,yL,yM,zO,gaN,hB,ht]
def xK (l : List Lr) (x : Lr) : List Lr := (wQ l x.id).take (l.takeWhile fun y => decide (y.id < x.id)).length ++ x :: (wQ l x.id).drop (l.takeWhile fun y => decide (y.id < x.id)).length
theorem tw_len {α : Type} (p : α -> Bool) : ∀ (l : List α) (k : Nat) (hk : k <= l.length), (∀ j (hj : j < k), p (l[j]'(by omega)) = true) -> (∀ h : k < l.length, p l[k] = false) -> (l.takeWhile p).length = k
 | [],k,hk,_,_=>by simp at hk;simp [hk]
 | y :: l,0,hk,_,h2=>by have:=h2 (by simp);simp at this;simp [this]
 | y :: l, k + 1, hk, h1, h2 => by
  have e:=h1 0 (by omega)
  simp only [List.getElem_cons_zero] at e
  rw [List.takeWhile_cons,e]
  simp only [if_true,List.length_cons]
  rw [tw_len p l k (by simpa using hk) (fun j hj=>by have:=h1 (j + 1) (by omega);simpa using this) (fun h=>by have:=h2 (by simpa using h);simpa using this)]
theorem tw_le (l : List Lr) (x : Lr) : (l.takeWhile fun y => decide (y.id < x.id)).length <= (wQ l x.id).length := by
 induction l with
 | nil=>simp
 | cons y l ih =>
  rw [List.takeWhile_cons]
  by_cases h : y.id < x.id
  ·have h' : ¬ y.id = x.id := by omega
   simp only [h,decide_true,if_true,List.length_cons,wQ,List.filter_cons,h',decide_false,Bool.not_false]
   unfold wQ at ih;omega
  ·simp [h]
theorem layL_at {l : List Lr} {x : Lr} {k : Nat} (hk : k <= l.length) (h1 : ∀ j (hj : j < k), (l[j]'(by omega)).id < x.id) (h2 : ∀ h : k < l.length, ¬ l[k].id < x.id) :
 k <= (wQ l x.id).length /\ (lrs (wQ l x.id)).take k ++ [I x.id,I x.ph,I x.ac,I x.cu,.sl 2 (zxs x.ms),I x.ae,I x.an,I x.q] :: (lrs (wQ l x.id)).drop k = lrs (xK l x):=by
 have e:=tw_len (fun y : Lr=>decide (y.id < x.id)) l k hk (fun j hj=>decide_eq_true (h1 j hj)) (fun h=>decide_eq_false (h2 h))
 have e2:=tw_le l x
 rw [e] at e2
 refine ⟨e2,?_⟩
 unfold xK
 rw [e,lrs_take,lrs_drop]
 simp [lrs,Lr.cells]
set_option maxHeartbeats 4000000 in
theorem learners_con (l : List Lr) (x : Lr) (hl : l.length <= 100000) (hm : ∀ y ∈ l, y.ms.length <= 1000000) (hx : x.ms.length <= 1000000) :
 zB Tryz.prog 99 [.p (.sl 8 (lrs l)),.p (.agg x.cells)] (.p (.sl 8 (lrs (xK l x)))):=by
 have c1:=listLr_con l (by omega) hm
 have c2:=deleteL_con l x (by omega)
 have c3:=ownLr_con x hx
 have hbl:=butL_len l x.id
 have hcx : x.cells = [I x.id,I x.ph,I x.ac,I x.cu,.sl 2 (zxs x.ms),I x.ae,I x.an,I x.q]:=rfl
 rw [hcx] at c2 c3 ⊢
 refine zK Tryz.tab Tryz.mixed Tryz.func99 rfl rfl Tryz.ntmps99 (by simp) (by simp) fun Q hr hn=>?_
 repeat' first|(refine hK _ ?_;clear hK)|(refine zT fun K hK=>?_)|(refine zS ?_;simp only [tZ,tY,strip])|(refine wOs fun K hK=>?_;simp)|(first | refine zU ?_)|(refine wOn ?_;try simp only [zZ])
 refine wLoopG [.bx 3] (fun N st=>∃ k,k + N = l.length /\ (∀ j (hj : j < k) (hjl : j < l.length),l[j].id < x.id) /\ st.s 0 = .p (.sl 8 (lrs l)) /\ st.s 3 = .rptr x.cells 0 /\ st.s 5 = .p (I k)) l.length ⟨0,by simp [uY,gh1,plC,frzx,subx,subx0,hcx]⟩ fun K N st hL ⟨k,hk,hi,g0,g3,g5⟩=>?_
 rw [hcx] at g3
 by_cases hlt : k < l.length
 ·have hlt' : (k : Int) < l.length := by omega
  have hw:=yF k _ hlt (by omega)
  have he:=xQ hlt
  by_cases o : l[k].id < x.id
  ·repeat' first | (refine hK _ ?_; clear hK) | (refine zT fun K hK => ?_) | ((first | refine zS ?_ | refine yZ rfl (by kernel_rfl) ?_); simp only [tZ, tY, strip]) | ((first | refine wOs fun K hK => ?_ | refine wQs fun K hK => ?_ | refine zW ?_); simp [g0, g3, g5, hlt, hlt', hw, o]) | (first | refine zU ?_) | (refine zP ?_; try simp) | ((first | refine wOn ?_ | refine wQn ?_); try simp only [zZ])
   refine hL _ (N - 1) (by omega) ⟨k + 1,by omega,fun j hj hjl=>?_,?_⟩
   ·by_cases hjk : j = k
    ·subst hjk;exact o
    ·exact hi j (by omega) hjl
   ·simp [g0,g3,hcx]
  ·have ⟨hb, hfin⟩ := layL_at (l := l) (x := x) (k := k) (by omega) (fun j hj => hi j hj (by omega)) (fun h => o)
   have c4:=insert_con (lrs (wQ l x.id)) k [I x.id,I x.ph,I x.ac,I x.cu,.sl 2 (zxs x.ms),I x.ae,I x.an,I x.q] (by simpa using hb) (by simp;omega) rfl
   rw [hfin] at c4
   repeat' first|(refine zV [24] c2 (by decide) (by decide) (by simp [zQ,zO]) (by simp [zN,zH,zX,inN,pos,xY,wS];try rfl) ⟨[],by simp,by simp,?_⟩;simp [lv,ouN,kpI,kpR,pos,ren,zX])|(refine zV [24] c4 (by decide) (by decide) (by simp [zQ,zO]) (by simp [zN,zH,zX,inN,pos]) ⟨[],by simp,by simp,?_⟩;simp [lv,ouN,kpI,kpR,pos,ren,zX])|(refine hK _ ?_;clear hK)|(clear hK;refine hK _ ?_;clear hK)|(refine zT fun K hK=>?_)|((first | refine zS ?_ | refine yZ rfl (by kernel_rfl) ?_);simp only [tZ,tY,strip])|((first | refine wOs fun K hK=>?_ | refine wQs fun K hK=>?_ | refine zY ?_ | refine zW ?_);simp [g0,g3,g5,hlt,hlt',o])|((first | refine zL ?_ | refine zC ?_);try simp)|((first | refine wOn ?_ | refine wQn ?_);try simp only [zZ])|(refine zR.own (c1) ?_)|(refine zR.pure (c3) rfl ?_)
   all_goals apply hr
   all_goals simp [Tryz.f99]
 ·have hlt' : ¬ (k : Int) < l.length := by omega
  have ⟨hb,hfin⟩:=layL_at (l:=l) (x:=x) (k:=k) (by omega) (fun j hj=>hi j hj (by omega)) (fun h=>absurd h hlt)
  have c4:=insert_con (lrs (wQ l x.id)) k [I x.id,I x.ph,I x.ac,I x.cu,.sl 2 (zxs x.ms),I x.ae,I x.an,I x.q] (by simpa using hb) (by simp;omega) rfl
  rw [hfin] at c4
  repeat' first|(refine zV [24] c2 (by decide) (by decide) (by simp [zQ,zO]) (by simp [zN,zH,zX,inN,pos,xY,wS];try rfl) ⟨[],by simp,by simp,?_⟩;simp [lv,ouN,kpI,kpR,pos,ren,zX])|(refine zV [24] c4 (by decide) (by decide) (by simp [zQ,zO]) (by simp [zN,zH,zX,inN,pos]) ⟨[],by simp,by simp,?_⟩;simp [lv,ouN,kpI,kpR,pos,ren,zX])|(refine hK _ ?_;clear hK)|(clear hK;refine hK _ ?_;clear hK)|(refine zT fun K hK=>?_)|((first | refine zS ?_ | refine yZ rfl (by kernel_rfl) ?_);simp only [tZ,tY,strip])|((first | refine wOs fun K hK=>?_ | refine wQs fun K hK=>?_ | refine zY ?_ | refine zW ?_);simp [g0,g3,g5,hlt'])|((first | refine zL ?_ | refine zC ?_);try simp)|((first | refine wOn ?_ | refine wQn ?_);try simp only [zZ])|(refine zR.own (c1) ?_)|(refine zR.pure (c3) rfl ?_)
  all_goals apply hr
  all_goals simp [Tryz.f99]
def inW (self ph e n : Int) (x : Lr) : Prop := ¬ x.id = self /\ ph <= x.ph /\ 0 <= xN x.ae x.an e n
instance (self ph e n : Int) (x : Lr) : Decidable (inW self ph e n x) := by unfold inW; infer_instance
def xC (self ph e n : Int) (l : List Lr) : List Int := self :: ((l.filter fun x => decide (inW self ph e n x)).map Lr.id)
theorem setS_snoc (self ph e n : Int) {l : List Lr} {k : Nat} (h : k < l.length) : xC self ph e n (l.take (k + 1)) = if ¬ l[k].id = self /\ ph <= l[k].ph /\ 0 <= xN l[k].ae l[k].an e n then xC self ph e n (l.take k) ++ [l[k].id] else xC self ph e n (l.take k) := by
 rw [List.take_succ_eq_append_getElem h]
 unfold xC
 rw [List.filter_append]
 by_cases g : inW self ph e n l[k]
 ·have g' := g
  unfold inW at g'
  rw [if_pos g']
  simp [g]
 ·have g' := g
  unfold inW at g'
  rw [if_neg g']
  simp [g]
theorem setS_len (self ph e n : Int) (l : List Lr) : (xC self ph e n l).length <= l.length + 1 := by
 unfold xC
 rw [List.length_cons,List.length_map]
 have:=List.length_filter_le (fun x=>decide (inW self ph e n x)) l
 omega
theorem ints_sn (l : List Int) (n : Int) : ints l ++ [[I n]] = ints (l ++ [n]) := by simp [ints]
set_option maxHeartbeats 4000000 in
theorem set_con (self ph e n : Int) (l : List Lr) (hl : l.length <= 100000) : zB Tryz.prog 66 [.p (I self), .p (.sl 8 (lrs l)), .p (I ph), .p (.agg [I e, I n])] (.p (.sl 1 (ints (xC self ph e n l)))) := by
 refine zK Tryz.tab Tryz.mixed Tryz.func66 rfl rfl Tryz.ntmps66 (by simp) (by simp) fun Q hr hn=>?_
 repeat' first|(refine hK _ ?_;clear hK)|(refine zT fun K hK=>?_)|(refine zS ?_;simp only [tZ,tY,strip])|(refine wOs fun K hK=>?_;simp)|(first | refine zU ?_)|(refine wOn ?_;try simp only [zZ])
 refine yJ (fun N st=>∃ (k : Nat),k + N = l.length /\ st.s 0 = .p (I self) /\ st.s 2 = .p (I ph) /\ st.s 7 = .ptr 7 0 /\ st.b 7 = some (.box 25 [.p (I e),.p (I n)]) /\ st.s 14 = .p (.sl 8 (lrs l)) /\ st.s 15 = .p (I l.length) /\ st.s 16 = .p (I k) /\ ((st.s 9 = .full 1 [[I self]] /\ xC self ph e n (l.take k) = [self]) \/ (st.s 9 = .row 41 /\ st.b 41 = some (.row 3 1 (ints (xC self ph e n (l.take k))))))) l.length ⟨0,by simp [xC]⟩ fun K N st hL ⟨k,hk,g0,g2,g7,b7,g14,g15,g16,h9⟩=>?_
 by_cases hlt : k < l.length
 ·have hlt' : (k : Int) < l.length := by omega
  have hw:=yF k _ hlt (by omega)
  have he:=xQ hlt
  have c:=uD l[k].ae l[k].an e n
  have hs:=setS_snoc self ph e n hlt
  have hsl:=setS_len self ph e n (l.take k)
  rw [List.length_take] at hsl
  by_cases p1 : l[k].id = self
  ·rw [if_neg (fun h => h.1 p1)] at hs
   rcases h9 with ⟨g9,h9⟩ | ⟨g9,b41⟩
   ·repeat' first | (refine hK _ ?_; clear hK) | (refine zT fun K hK => ?_) | (refine zS ?_; simp only [tZ, tY, strip]) | ((first | refine wOs fun K hK => ?_ | refine zW ?_); simp [g0, g2, g7, b7, g14, g15, g16, hlt, hlt', hw, p1]) | (first | refine zU ?_) | (refine zP ?_; try simp) | (refine wOn ?_; try simp only [zZ])
    refine hL _ (N - 1) (by omega) ⟨k + 1,by omega,?_⟩
    simp [g0,g2,g7,b7,g14,g15,hs,g9,h9]
   ·repeat' first | (refine hK _ ?_; clear hK) | (refine zT fun K hK => ?_) | (refine zS ?_; simp only [tZ, tY, strip]) | ((first | refine wOs fun K hK => ?_ | refine zW ?_); simp [g0, g2, g7, b7, g14, g15, g16, hlt, hlt', hw, p1]) | (first | refine zU ?_) | (refine zP ?_; try simp) | (refine wOn ?_; try simp only [zZ])
    refine hL _ (N - 1) (by omega) ⟨k + 1,by omega,?_⟩
    simp [g0,g2,g7,b7,g14,g15,hs,g9,b41]
  by_cases p2 : ph <= l[k].ph
  ·by_cases p3 : 0 <= xN l[k].ae l[k].an e n
   ·rw [if_pos ⟨p1, p2, p3⟩] at hs
    rcases h9 with ⟨g9,h9⟩ | ⟨g9,b41⟩
    ·rw [h9] at hs
     repeat' first|(refine Or.inl ?_)|(refine hK _ ?_;clear hK)|(refine zT fun K hK=>?_)|(refine zS ?_;simp only [tZ,tY,strip])|((first | refine wOs fun K hK=>?_ | refine zY ?_ | refine zW ?_);simp [g0,g2,g7,b7,g14,g15,g16,g9,hlt,hlt',hw,p1,p2,p3])|(first | refine zU ?_)|(refine zP ?_;try simp)|(refine wOn ?_;try simp only [zZ])|(refine zR.pure (c) rfl ?_)
     refine hL _ (N - 1) (by omega) ⟨k + 1,by omega,?_⟩
     simp [g0,g2,g7,b7,g14,g15,hs,ints]
    ·have hx := ints_sn (xC self ph e n (l.take k)) l[k].id
     rw [<- hs] at hx
     generalize xC self ph e n (l.take k) = q at hsl b41 hx
     have hqi : (ints q).length = q.length:=by simp [ints]
     repeat' first|(refine And.intro (by (try simp only [hqi,List.length_append,List.length_cons,List.length_nil]);omega) ?_)|(refine hK _ ?_;clear hK)|(refine zT fun K hK=>?_)|(refine zS ?_;simp only [tZ,tY,strip])|((first | refine wOs fun K hK=>?_ | refine zY ?_ | refine zW ?_);simp [g0,g2,g7,b7,g14,g15,g16,g9,b41,hlt,hlt',hw,p1,p2,p3])|(first | refine zU ?_)|(refine zP ?_;try simp)|(refine wOn ?_;try simp only [zZ])|(refine zR.pure (c) rfl ?_)
     refine hL _ (N - 1) (by omega) ⟨k + 1,by omega,?_⟩
     simp [g0,g2,g7,b7,g14,g15,hx]
   ·rw [if_neg (fun h => p3 h.2.2)] at hs
    rcases h9 with ⟨g9,h9⟩ | ⟨g9,b41⟩
    ·repeat' first | (refine hK _ ?_; clear hK) | (refine zT fun K hK => ?_) | (refine zS ?_; simp only [tZ, tY, strip]) | ((first | refine wOs fun K hK => ?_ | refine zY ?_ | refine zW ?_); simp [g0, g2, g7, b7, g14, g15, g16, hlt, hlt', hw, p1, p2, p3]) | (first | refine zU ?_) | (refine zP ?_; try simp) | (refine wOn ?_; try simp only [zZ]) | (refine zR.pure (c) rfl ?_)
     refine hL _ (N - 1) (by omega) ⟨k + 1,by omega,?_⟩
     simp [g0,g2,g7,b7,g14,g15,hs,g9,h9]
    ·repeat' first | (refine hK _ ?_; clear hK) | (refine zT fun K hK => ?_) | (refine zS ?_; simp only [tZ, tY, strip]) | ((first | refine wOs fun K hK => ?_ | refine zY ?_ | refine zW ?_); simp [g0, g2, g7, b7, g14, g15, g16, hlt, hlt', hw, p1, p2, p3]) | (first | refine zU ?_) | (refine zP ?_; try simp) | (refine wOn ?_; try simp only [zZ]) | (refine zR.pure (c) rfl ?_)
     refine hL _ (N - 1) (by omega) ⟨k + 1,by omega,?_⟩
     simp [g0,g2,g7,b7,g14,g15,hs,g9,b41]
  ·rw [if_neg (fun h => p2 h.2.1)] at hs
   rcases h9 with ⟨g9,h9⟩ | ⟨g9,b41⟩
   ·repeat' first | (refine hK _ ?_; clear hK) | (refine zT fun K hK => ?_) | (refine zS ?_; simp only [tZ, tY, strip]) | ((first | refine wOs fun K hK => ?_ | refine zW ?_); simp [g0, g2, g7, b7, g14, g15, g16, hlt, hlt', hw, p1, p2]) | (first | refine zU ?_) | (refine zP ?_; try simp) | (refine wOn ?_; try simp only [zZ])
    refine hL _ (N - 1) (by omega) ⟨k + 1,by omega,?_⟩
    simp [g0,g2,g7,b7,g14,g15,hs,g9,h9]
   ·repeat' first | (refine hK _ ?_; clear hK) | (refine zT fun K hK => ?_) | (refine zS ?_; simp only [tZ, tY, strip]) | ((first | refine wOs fun K hK => ?_ | refine zW ?_); simp [g0, g2, g7, b7, g14, g15, g16, hlt, hlt', hw, p1, p2]) | (first | refine zU ?_) | (refine zP ?_; try simp) | (refine wOn ?_; try simp only [zZ])
    refine hL _ (N - 1) (by omega) ⟨k + 1,by omega,?_⟩
    simp [g0,g2,g7,b7,g14,g15,hs,g9,b41]
 ·have hlt' : ¬ (k : Int) < l.length := by omega
  rw [List.take_of_length_le (by omega)] at h9
  rcases h9 with ⟨g9,h9⟩ | ⟨g9,b41⟩
  ·rw [h9] at hr
   repeat' first|(refine hK _ ?_;clear hK)|(clear hK;refine hK _ ?_;clear hK)|(refine zT fun K hK=>?_)|(refine zS ?_;simp only [tZ,tY,strip])|((first | refine wOs fun K hK=>?_ | refine zW ?_);simp [g15,g16,g9,hlt'])|((first | refine zL ?_ | refine zC ?_);try simp)|(refine wOn ?_;try simp only [zZ])
   all_goals apply hr
   all_goals simp [Tryz.f66,ints]
  ·repeat' first | (refine hK _ ?_; clear hK) | (clear hK; refine hK _ ?_; clear hK) | (refine zT fun K hK => ?_) | (refine zS ?_; simp only [tZ, tY, strip]) | ((first | refine wOs fun K hK => ?_ | refine zW ?_); simp [g15, g16, g9, hlt']) | ((first | refine zL ?_ | refine zC ?_); try simp) | (refine wOn ?_; try simp only [zZ])
   all_goals apply hr
   all_goals simp [Tryz.f66,b41]
end Go.Proofs.YtffflakmofbilaaGreat
namespace Go.Proofs.YtffflakmofbilaaGreat
set_option linter.unusedSimpArgs false
set_option linter.unusedVariables false
set_option maxRecDepth 8000
open Go Go.Av
attribute [local irreducible] Go.Av.yA Go.Av.zR Go.Av.xZ Go.Av.zJ Go.Av.xV Go.Av.zG Go.Av.Con
structure Lq where
 (id ac cu : Int)
 (h : Hy)
 (d : Zx)
 (mo ld ph wt ep : Int)
 (ls : List Lr)
def Lq.cells (p : Lq) : List PV := [I p.id, I p.ac, I p.cu, .sl 5 (zns p.h.im.ns), .sl 1 (ints p.h.im.ss), I p.h.im.nx, I p.h.im.c.ep, I p.h.im.c.n, I p.h.im.c.kind, .sl 4 (mbs p.h.im.c.ms), I p.h.im.ae, I p.h.im.an, .sl 8 (yW p.h.lg), I p.d.e, I p.d.n, I p.mo, I 0, I 0, I 0, I 0, I 0, I 0, I 0, I 0, I 0, I 0, I 0, I 0, I 0, I 0, I 0, I 0, .sl 7 [], I p.ld, I p.ph, I p.wt, I p.ep, .sl 8 (lrs p.ls)]
structure Mg where
 (fr to kd v0 v1 v2 v3 v4 v5 v6 ep cu : Int)
 (z : Zx)
 (ms : List Zx)
 (pk : Int)
 (pz : Zx)
 (pim : Sv)
 (pl : List Tx)
 (tx : Tx)
 (tc : List (List PV))
 (aK aS aX : Int)
 (ao : List (List PV))
 (adk : Int)
 (ap ad : List (List PV))
 (awe awn : Int)
def Mg.cells (m : Mg) : List PV := [I m.fr, I m.to, I m.kd, I m.v0, I m.v1, I m.v2, I m.v3, I m.v4, I m.v5, I m.v6, I m.ep, I m.cu, I m.z.e, I m.z.n, .sl 2 (zxs m.ms), I m.pk, I m.pz.e, I m.pz.n, .sl 5 (zns m.pim.ns), .sl 1 (ints m.pim.ss), I m.pim.nx, I m.pim.c.ep, I m.pim.c.n, I m.pim.c.kind, .sl 4 (mbs m.pim.c.ms), I m.pim.ae, I m.pim.an, .sl 8 (yW m.pl), I m.tx.e, I m.tx.n, I m.tx.s, I m.tx.x, I m.tx.r, I m.tx.b, SB m.tx.m, .sl 11 (pts m.tx.ps), .sl 1 m.tc, I m.aK, I m.aS, I m.aX, .sl 6 m.ao, I m.adk, .sl 4 m.ap, .sl 1 m.ad, I m.awe, I m.awn]
abbrev sv0 : Sv := ⟨[], [], 0, ⟨0, 0, 0, []⟩, 0, 0⟩
def mgZ (fr to kd ep cu : Int) (z : Zx) (mk : List Zx) : Mg := ⟨fr, to, kd, 0, 0, 0, 0, 0, 0, 0, ep, cu, z, mk, 0, ⟨0, 0⟩, sv0, [], ⟨0, 0, 0, 0, 0, 0, [], []⟩, [], 0, 0, 0, [], 0, [], [], 0, 0⟩
def zD (l : List Mg) : List (List PV) := l.map Mg.cells
@[simp] theorem mgsC_len (l : List Mg) : (zD l).length = l.length := by simp [zD]
theorem mgsC_get {l : List Mg} {k : Nat} (h : k < l.length) : (zD l)[k]? = some l[k].cells := by simp [zD, h]
theorem mgsC_snoc (l : List Mg) (m : Mg) : zD l ++ [m.cells] = zD (l ++ [m]) := by simp [zD]
def lBx (p : Lq) (X : V) (g : Bool) : List V := [.p (I p.id), .p (I p.ac), .p (I p.cu), .p (.sl 5 (zns p.h.im.ns)), .p (.sl 1 (ints p.h.im.ss)), .p (I p.h.im.nx), .p (I p.h.im.c.ep), .p (I p.h.im.c.n), .p (I p.h.im.c.kind), .p (.sl 4 (mbs p.h.im.c.ms)), .p (I p.h.im.ae), .p (I p.h.im.an), .p (.sl 8 (yW p.h.lg)), .p (I p.d.e), .p (I p.d.n), .p (I p.mo), .p (I 0), .p (I 0), .p (I 0), .p (I 0), .p (I 0), .p (I 0), .p (I 0), .p (I 0), .p (I 0), .p (I 0), .p (I 0), .p (I 0), .p (I 0), .p (I 0), .p (I 0), .p (I 0), .p (.sl 7 []), .p (I p.ld), .p (I p.ph), .p (I p.wt), .p (I p.ep), .p (.sl 8 (lrs p.ls)), X, .p (B g)]
abbrev lW (p : Lq) (g : Bool) (o : List Mg) : List Blk := [.box 101 (lBx p (.row 1025) g), .row 65 46 (zD o)]
def yH (p : Lq) (to : Int) (m : Mg) : Mg := { m with fr := p.id, to := to, ep := p.ep }
theorem send_con (p : Lq) (g : Bool) (o : List Mg) (to : Int) (m : Mg) (hl : o.length <= 100000) : Con Tryz.prog 52 [.ptr 1024 0, .p (I to), .p (.agg m.cells)] (lW p g o) (.ret (.tup []) [] (lW p g (o ++ [yH p to m]))) := by
 have hs:=mgsC_snoc o (yH p to m)
 have hlen:=mgsC_len o
 unfold lW lBx
 generalize zD (o ++ [yH p to m]) = O2 at *
 generalize zD o = O at *
 unfold yH Mg.cells at hs
 unfold Mg.cells
 dsimp only at hs
 refine zE Tryz.tab Tryz.mixed Tryz.func52 rfl rfl Tryz.ntmps52 (by simp) (by simp) fun Q hr hn hp=>?_
 repeat' first|(refine And.intro (by (try simp);omega) ?_)|(refine hK _ ?_;clear hK)|(refine hK _ _ ?_;clear hK)|(refine zT fun K hK=>?_)|((first | refine zS ?_ | refine yI ?_);simp only [tZ,tY,strip])|((first | refine wIs fun K hK=>?_ | refine wOs fun K hK=>?_);simp [hs,hlen])|(refine wIn ?_;refine And.intro (by kernel_rfl) ?_;try simp only [zZ])|(refine wOn ?_;try simp only [zZ])
 all_goals first | apply hn
 all_goals refine ⟨[],by simp,by simp,?_⟩
 all_goals simp [Tryz.f52,yL,yM,zO,gaN]
theorem nothing_con (p : Lq) (g : Bool) (o : List Mg) (m : Mg) : Con Tryz.prog 97 [.ptr 1024 0, .p (.agg m.cells)] (lW p g o) (.ret (.tup []) [] (lW p g o)) := by
 unfold lW lBx Mg.cells
 refine zE Tryz.tab Tryz.mixed Tryz.func97 rfl rfl Tryz.ntmps97 (by simp) (by simp) fun Q hr hn hp=>?_
 repeat' first|(refine hK _ ?_;clear hK)|(refine zS ?_;simp only [tZ,tY,strip])|(refine wOs fun K hK=>?_;simp)|(refine wOn ?_;try simp only [zZ])
 all_goals first | apply hn
 all_goals refine ⟨[],by simp,by simp,?_⟩
 all_goals simp [Tryz.f97,yL,yM,zO,gaN]
theorem chosen_con (p : Lq) (g : Bool) (o : List Mg) : Con Tryz.prog 91 [.ptr 1024 0] (lW p g o) (.ret (.p (B (decide (¬ p.ep = 0)))) [] (lW p g o)) := by
 unfold lW lBx
 by_cases h : p.ep = 0
 ·rw [decide_eq_false (not_not_intro h)]
  replace h : (p.ep = 0) = True:=eq_true h
  refine zE Tryz.tab Tryz.mixed Tryz.func91 rfl rfl Tryz.ntmps91 (by simp) (by simp) fun Q hr hn hp=>?_
  repeat' first|(refine hK _ ?_;clear hK)|(refine zT fun K hK=>?_)|(refine zS ?_;simp only [tZ,tY,strip])|(refine wOs fun K hK=>?_;simp)|(refine zL ?_;try simp)|(refine wOn ?_;try simp only [zZ])
  all_goals first | apply hr
  all_goals refine ⟨[],by simp,by simp,?_⟩
  all_goals simp [Tryz.f91,yL,yM,zO,gaN,h]
 ·rw [decide_eq_true h]
  replace h : (p.ep = 0) = False:=eq_false h
  refine zE Tryz.tab Tryz.mixed Tryz.func91 rfl rfl Tryz.ntmps91 (by simp) (by simp) fun Q hr hn hp=>?_
  repeat' first|(refine hK _ ?_;clear hK)|(refine zT fun K hK=>?_)|(refine zS ?_;simp only [tZ,tY,strip])|(refine wOs fun K hK=>?_;simp)|(refine zL ?_;try simp)|(refine wOn ?_;try simp only [zZ])
  all_goals first | apply hr
  all_goals refine ⟨[],by simp,by simp,?_⟩
  all_goals simp [Tryz.f91,yL,yM,zO,gaN,h]
theorem end_con (p : Lq) (g : Bool) (o : List Mg) : Con Tryz.prog 36 [.ptr 1024 0] (lW p g o) (.ret (.tup [.p (.agg p.cells), .row 1025, .p (B (!g))]) [] (lW p g o)) := by
 unfold lW lBx Lq.cells
 refine zE Tryz.tab Tryz.mixed Tryz.func36 rfl rfl Tryz.ntmps36 (by simp) (by simp) fun Q hr hn hp=>?_
 repeat' first|(refine hK _ ?_;clear hK)|(refine hK _ _ ?_;clear hK)|(refine zT fun K hK=>?_)|((first | refine zS ?_ | refine yI ?_);simp only [tZ,tY,strip])|((first | refine wIs fun K hK=>?_ | refine wOs fun K hK=>?_);simp)|(refine wIn ?_;refine And.intro (by kernel_rfl) ?_;try simp only [zZ])|(refine zL ?_;try simp)|(refine wOn ?_;try simp only [zZ])
 all_goals first | apply hr
 all_goals refine ⟨[],by simp,by simp,?_⟩
 all_goals simp [Tryz.f36,yL,yM,zO,gaN]
theorem uT (p : Lq) (g : Bool) (o : List Mg) (x : Lr) (hl : p.ls.length <= 100000) (hm : ∀ y ∈ p.ls, y.ms.length <= 1000000) (hx : x.ms.length <= 1000000) : Con Tryz.prog 120 [.ptr 1024 0, .p (.agg x.cells)] (lW p g o) (.ret (.tup []) [] (lW { p with ls := xK p.ls x } g o)) := by
 have c1:=learners_con p.ls x hl hm hx
 generalize xK p.ls x = L2 at *
 unfold lW lBx
 unfold Lr.cells at *
 dsimp only
 refine zE Tryz.tab Tryz.mixed Tryz.func120 rfl rfl Tryz.ntmps120 (by simp) (by simp) fun Q hr hn hp=>?_
 repeat' first|(refine zG.pure (c1) rfl ?_)|(refine hK _ ?_;clear hK)|(refine hK _ _ ?_;clear hK)|(refine zT fun K hK=>?_)|((first | refine zS ?_ | refine yI ?_);simp only [tZ,tY,strip])|((first | refine wIs fun K hK=>?_ | refine wOs fun K hK=>?_ | refine zF ?_);simp)|(refine wIn ?_;refine And.intro (by kernel_rfl) ?_;try simp only [zZ])|(refine wOn ?_;try simp only [zZ])
 all_goals first | apply hn
 all_goals refine ⟨[],by simp,by simp,?_⟩
 all_goals simp [Tryz.f120,yL,yM,zO,gaN]
theorem needs_con' (p : Lq) (g : Bool) (o : List Mg) (hk : OkH p.h) : Con Tryz.prog 81 [.ptr 1024 0] (lW p g o) (.ret (.p (.sl 4 (cfs (yX p.h p.d.e p.d.n)))) [] (lW p g o)) := by
 have c1:=needs_con p.h p.d.e p.d.n hk
 generalize cfs (yX p.h p.d.e p.d.n) = C at *
 unfold Hy.cells at c1
 unfold lW lBx
 refine zE Tryz.tab Tryz.mixed Tryz.func81 rfl rfl Tryz.ntmps81 (by simp) (by simp) fun Q hr hn hp=>?_
 repeat' first|(refine zJ.pure (c1) rfl ?_)|(refine hK _ ?_;clear hK)|(refine zT fun K hK=>?_)|((first | refine zS ?_ | refine yZ rfl (by kernel_rfl) ?_);simp only [tZ,tY,strip])|((first | refine wOs fun K hK=>?_ | refine wQs fun K hK=>?_ | refine zM ?_);simp)|(refine zL ?_;try simp)|((first | refine wOn ?_ | refine wQn ?_);try simp only [zZ])
 all_goals first | apply hr
 all_goals refine ⟨[],by simp,by simp,?_⟩
 all_goals simp [Tryz.f81,yL,yM,zO,gaN]
def yS (p : Lq) (set : List Int) : Bool := allQ (yX p.h p.d.e p.d.n) set
end Go.Proofs.YtffflakmofbilaaGreat
