/- Texts that the proof needs: IX XC XL XM NG NH XN XO XP HI HM IB. -/
import Derived.Test.YtegoihognjpcjaaP18HistorySquashes
import Derived.Test.YtegoihognjpcjaaP24HistorySquashes
import Derived.Test.YtegoihognjpcjaaP12HistorySquashes
import Derived.WalkKit
import Derived.Deep.RegionLaw
import Derived.Test.YtegoihognjpcjaaP23HistorySquashes
import Derived.Test.YtegoihognjpcjaaP16HistorySquashes
import Derived.Test.YtegoihognjpcjaaP22HistorySquashes
import Derived.TacticsInMore
import Derived.LoopNIn
import Derived.LoopIn
import Derived.OwnWalkIn
/- slices.Insert of one number. -/
namespace Go.Proofs.Ytegoihognjpcjaa
set_option linter.unusedSimpArgs false
set_option linter.unusedVariables false
open Go Go.Av Go.Lib Go.RowKit
theorem wp_copy_eq (w : World) {o : Oper} {a : Act} {K : Act → World → Prop} {Q : Exit → Act → World → Prop} (d s : Operand) (t t' : TypeId) {P : Program}
    (ho : o.op = .call { callee := .builtin .copy, args := #[d, s], argTypes := #[t, t'] }) {v u : Value} (hd : a.eval d = v) (hs : a.eval s = u) {v' : Value} {w' : World}
    (hr : (Builtin.copy_ #[t, t'] o.type #[v, u]).run P w = .ok v' w') (h : K (a.put o.dst v') w') : o.wp P a w K Q := by
  unfold Oper.wp execOp
  simp only [ho, resolve, invoke, builtin, Sem.run_bind, Sem.run_pure, Result.andThen_ok, List.map_toArray, List.map_cons, List.map_nil, hd, hs, hr]
  exact h
theorem wpList_copy_eq {P : Program} (w : World) {ops : Array Oper} {rest : List Oper} {o : Oper} {a : Act} {Q : Exit → Act → World → Prop} (hgd : o.guard = none) (d s : Operand) (t t' : TypeId)
    (ho : o.op = .call { callee := .builtin .copy, args := #[d, s], argTypes := #[t, t'] }) {v u : Value} (hd : a.eval d = v) (hs : a.eval s = u) {v' : Value} {w' : World}
    (hr : (Builtin.copy_ #[t, t'] o.type #[v, u]).run P w = .ok v' w') (h : wpList P ops Q rest (a.put o.dst v') w') : wpList P ops Q (o :: rest) a w :=
  wpList_plain hgd fun _ hK => wp_copy_eq w d s t t' ho hd hs hr (hK _ _ h)
theorem step_copy_eq {P : Program} {ops : Array Oper} {o : Oper} {a : Act} {w : World} {K : Act → World → Prop} {Q : Exit → Act → World → Prop} {E : Prop}
    (hg : o.guard = none) (d x : Operand) (dT sT : TypeId) (hop : o.op = Op.call { callee := Callee.builtin Builtin.copy, args := #[d, x], argTypes := #[dT, sT] })
    (v u : Value) (hd : a.eval d = v) (hx : a.eval x = u) {v' : Value} {w' : World} (hr : (Builtin.copy_ #[dT, sT] o.type #[v, u]).run P w = .ok v' w') (hK : K (a.put o.dst v') w') :
    if Region.wanted o (yielded ops a.tmps) = true then Oper.wp P o a w K Q else E := by
  have hw : Region.wanted o (yielded ops a.tmps) = true := by simp [Region.wanted, hg]
  rw [if_pos hw]
  exact wp_copy_eq w d x dT sT hop hd hx hr hK
set_option maxHeartbeats 4000000 in
set_option maxRecDepth 100000 in
theorem ins_shift (b n c i vb voff vc : Nat) (cur cA : Array Value) (vs : List Value) (w : World) (tA : TypeId) (fA : Nat × Nat) (hg : w.heap[b]? = some (.cells cur 3 (0, 0))) (hsz : cur.size = c * 1)
    (hi : i < n) (hroom : n + 1 ≤ c) (hc63 : c ≤ 9223372036854775807) (hvb : vb ≠ b) (hv : w.heap[vb]? = some (.cells cA tA fA)) (hvl : vs.length = 1) (hvs : ∀ (j : Nat) (v : Value), vs[j]? = some v → cA[voff + j]? = some v)
    (h1 : ∀ v ∈ vs, v.oneCell' = true) (h1c : ∀ (j : Nat) (v : Value), j < n * 1 → cur[j]? = some v → v.oneCell' = true) :
    Calls Try.prog 75 #[.slice (some ⟨b, 0, none⟩) n c, .int .i64 i, .slice (some ⟨vb, voff, none⟩) 1 vc] w fun e w' =>
      e = .returned (.slice (some ⟨b, 0, none⟩) (n + 1) c) ∧
      w' = (w.drew.setRow b (spl cur ((i + 1) * 1) ((cur.toList.drop (i * 1)).take ((n - i) * 1)))).setRow b (spl (spl cur ((i + 1) * 1) ((cur.toList.drop (i * 1)).take ((n - i) * 1))) (i * 1) vs) := by
  have hu : Try.prog.underlying 23 = some (.slice 3) := (Try.tab 23 _ rfl).kind
  obtain ⟨ti, tz, hti, htz0, -⟩ := (Try.tab 3 _ rfl).info
  have htz : ti.size = 1 := htz0
  have hz2 : ¬ ((i : Int) = (n : Int)) := by omega
  have hov : ∀ lb cb, (callFunc 78 #[.slice (some ⟨vb, voff, none⟩) 1 vc, .slice (some ⟨b, (i + 1) * 1, none⟩) lb cb]).run Try.prog w = .ok (.value (.bool false)) w := fun lb cb => by
    rw [run_callFunc_extern Try.func78 (by kernel_rfl) (by kernel_rfl) (by kernel_rfl) (e := Extern.SlicesOverlaps.overlaps #[23, 23] #[4]) (by kernel_rfl),
      run_overlaps 23 4 3 hu 1 ((Try.tab 3 _ rfl).run_info w) (a := ⟨vb, voff, none⟩) (b := ⟨b, (i + 1) * 1, none⟩) hvb hv hg (by omega) (fun h0 => by
        have := hvs 0 _ (List.getElem?_eq_getElem (by omega))
        rw [Array.getElem?_eq_none (by omega)] at this; simp at this)]
    rfl
  obtain ⟨c1, hc1⟩ : ∃ c1, c1 = (cur.toList.drop (i * 1)).take ((n - i) * 1) := ⟨_, rfl⟩
  have hc1l : c1.length = (n - i) * 1 := by rw [hc1]; simp; omega
  obtain ⟨X1, hX1⟩ : ∃ X1, X1 = spl cur ((i + 1) * 1) c1 := ⟨_, rfl⟩
  have hX1s : X1.size = cur.size := by rw [hX1]; exact spl_size (by omega)
  have hcp1 : ∀ ty dc sc, (Builtin.copy_ #[23, 23] ty #[.slice (some ⟨b, (i + 1) * 1, none⟩) (n - i) dc, .slice (some ⟨b, i * 1, none⟩) (n + 1 - i) sc]).run Try.prog w.drew = .ok (goInt (n - i : Nat)) (w.drew.setRow b X1) := fun ty dc sc => by
    rw [hX1]
    refine run_copyRow (w := w.drew) (n := n - i) (o := (i + 1) * 1) (dLen := n - i) (sLen := n + 1 - i) (g := b) (b := some ⟨b, i * 1, none⟩) hu hti hg (by simp only [Nat.min_def]; split <;> omega) (run_first_row (w := w.drew) (n := n - i) (size := ti.size) hg (by rw [hc1l, htz]) fun j v hj => ?_) (by omega) (fun v hv => ?_)
    · rw [hc1, List.getElem?_take] at hj
      split at hj
      · rw [List.getElem?_drop] at hj; simpa using hj
      · simp at hj
    · obtain ⟨j, hj2⟩ := List.mem_iff_getElem?.1 hv
      rw [hc1, List.getElem?_take] at hj2
      split at hj2
      · rw [List.getElem?_drop] at hj2
        exact h1c (i * 1 + j) _ (by omega) (by simpa using hj2)
      · simp at hj2
  have hcp2 : ∀ (W : World), W.heap = (w.drew.setRow b X1).heap → ∀ ty dc, (Builtin.copy_ #[23, 23] ty #[.slice (some ⟨b, i * 1, none⟩) (n + 1 - i) dc, .slice (some ⟨vb, voff, none⟩) 1 vc]).run Try.prog W = .ok (goInt (1 : Nat)) (W.setRow b (spl X1 (i * 1) vs)) := fun W hW ty dc => by
    have hgW : W.heap[b]? = some (.cells X1 3 (0, 0)) := by rw [hW]; exact setRow_heap w.drew _ _ _ _ _ hg
    have hvW : W.heap[vb]? = some (.cells cA tA fA) := by rw [hW]; exact (setRow_other w.drew b vb X1 hvb).trans hv
    refine run_copyRow (n := 1) (o := i * 1) (dLen := n + 1 - i) (sLen := 1) (g := b) (b := some ⟨vb, voff, none⟩) hu hti hgW (by simp only [Nat.min_def]; split <;> omega) (run_firstCells_some W _ 1 _ 1 vc vs (by rw [hvl, htz]) fun j v hj => ?_) (by omega) h1
    rw [addr_add]
    simpa [World.cell?, hvW] using hvs j v hj
  rw [← hc1, ← hX1]
  have hw1 : IntKind.i64.wrap ((i : Int) + 1) = (i : Int) + 1 := by rw [IntKind.wrap_i64]; omega
  have hb1 : (0 : Int) ≤ (i : Int) + 1 := by omega
  have htn : ((i : Int) + 1).toNat = i + 1 := by omega
  have hb2 : ¬ (c = i + 1) := by omega
  have hb3 : (i : Int) ≤ (n : Int) + 1 := by omega
  have hb4 : ¬ (c = i) := by omega
  have hin : i ≤ n := by omega
  have hin1 : i ≤ n + 1 := by omega
  simp only [Nat.mul_one] at hcp1 hcp2 hX1 hc1 hov ⊢
  go_enter Try.func75, Try.ntmps75
  go_wp2_with (simp only [hov])
  go_region_law (refine step_copy_eq rfl _ _ 23 23 rfl _ _ (by simp [Act.eval, Act.put]) (by simp [Act.eval, Act.put]) (hcp1 _ _ _) ?_)
  go_wp2_with (at_builtin; refine wpList_copy_eq _ rfl _ _ 23 23 rfl rfl rfl (hcp2 _ rfl _ _) ?_)
  go_ret
  first
    | exact ⟨rfl, by rw [hX1, hc1]⟩
    | exact ⟨rfl, rfl⟩ | (refine ⟨rfl, ?_⟩; simp [hX1, hc1])
set_option maxHeartbeats 4000000 in
set_option maxRecDepth 100000 in
theorem ins_end (sb : Option Addr) (n c : Nat) (vb voff vc : Nat) (w : World) (hnc : n ≤ c) (hc63 : c ≤ 9223372036854775807) {r : Value} {w1 : World}
    (hr : (Builtin.append_ #[23, 23] 23 #[.slice sb n c, .slice (some ⟨vb, voff, none⟩) 1 vc]).run Try.prog w = .ok r w1) :
    Calls Try.prog 75 #[.slice sb n c, .int .i64 n, .slice (some ⟨vb, voff, none⟩) 1 vc] w fun e w' => e = .returned r ∧ w' = w1 := by
  have hu : Try.prog.underlying 23 = some (.slice 3) := (Try.tab 23 _ rfl).kind
  cases sb with
  | none =>
    go_enter Try.func75, Try.ntmps75
    go_wp2_with (at_builtin; refine Lib.wpList_append_run _ rfl _ _ _ _ rfl _ _ rfl rfl _ _ hr ?_)
    go_ret
    exact ⟨rfl, rfl⟩
  | some a =>
    by_cases hcn : c = n
    · go_enter Try.func75, Try.ntmps75
      go_wp2_with (at_builtin; refine Lib.wpList_append_run _ rfl _ _ _ _ rfl _ _ rfl rfl _ _ hr ?_)
      go_ret
      exact ⟨rfl, rfl⟩
    · go_enter Try.func75, Try.ntmps75
      go_wp2_with (at_builtin; refine Lib.wpList_append_run _ rfl _ _ _ _ rfl _ _ rfl rfl _ _ hr ?_)
      go_ret
      exact ⟨rfl, rfl⟩
set_option maxHeartbeats 4000000 in
set_option maxRecDepth 100000 in
theorem ins_grow (b n c i vb voff vc : Nat) (cur cA : Array Value) (vs : List Value) (w : World) (tA : TypeId) (fA : Nat × Nat) (hg : w.heap[b]? = some (.cells cur 3 (0, 0))) (hsz : n * 1 ≤ cur.size)
    (hi : i < n) (hnc : n ≤ c) (hcn : c < n + 1) (hbig : (n + 1) * 8 ≤ 140737488355328) (hv : w.heap[vb]? = some (.cells cA tA fA)) (hvl : vs.length = 1) (hvs : ∀ (j : Nat) (v : Value), vs[j]? = some v → cA[voff + j]? = some v)
    (h1 : ∀ v ∈ vs, v.oneCell' = true) (h1c : ∀ (j : Nat) (v : Value), j < n * 1 → cur[j]? = some v → v.oneCell' = true) :
    Calls Try.prog 75 #[.slice (some ⟨b, 0, none⟩) n c, .int .i64 i, .slice (some ⟨vb, voff, none⟩) 1 vc] w fun e w' =>
      ∃ (C : Nat) (R : Array Value), e = .returned (.slice (some ⟨w.heap.size, 0, none⟩) (n + 1) C) ∧ n + 1 ≤ C ∧ C ≤ maxLen ∧ R.size = C * 1 ∧ Keeps (fun _ => False) w w' ∧ w'.heap[w.heap.size]? = some (.cells R 3 (0, 0)) ∧ w.heap.size < w'.heap.size ∧
        ∀ k, k < (n + 1) * 1 → R[k]? = (insL 1 cur i n vs)[k]? := by
  have hu : Try.prog.underlying 23 = some (.slice 3) := (Try.tab 23 _ rfl).kind
  have hu2 : Try.prog.underlying 3 = some (.int .i64) := (Try.tab 3 _ rfl).kind
  obtain ⟨ti, tz, hti, htz0, htb0, htz1, htz2, -⟩ := (Try.tab 3 _ rfl).info
  have htz : ti.size = 1 := htz0
  have htb : ti.bytes = 8 := htb0
  have htzc : tz.cells.size = 1 := by have := congrArg List.length htz2; simpa using this
  have hz2 : ¬ ((i : Int) = (n : Int)) := by omega
  have hbw : b < w.heap.size := lt_of_heap hg
  have hvw : vb < w.heap.size := lt_of_heap hv
  have hkk : (n : Int) + 1 - (i : Int) = ((n + 1 - i : Nat) : Int) := by omega
  have hold : (Builtin.firstCells ti.size i (.slice (some ⟨b, 0, none⟩) i c)).run Try.prog w.drew = .ok (cur.toList.take (i * 1)).toArray w.drew :=
    run_first_row (w := w.drew) hg (by rw [htz]; simp; omega) fun j v hj => by
      rw [List.getElem?_take] at hj
      split at hj
      · simpa using hj
      · simp at hj
  obtain ⟨C, hC⟩ : ∃ C, C = grownCap w (n + 1) c 3 := ⟨_, rfl⟩
  obtain ⟨hC1, hC2⟩ := grownCap_bounds w (n + 1) c 3 (by omega)
  rw [← hC] at hC1 hC2
  have hC3 : C ≤ 9223372036854775807 := hC2
  obtain ⟨R0, hR0⟩ : ∃ R0 : Array Value, R0 = (cur.toList.take (i * 1)).toArray ++ Builtin.zeroCells tz.cells (n + 1 - i) ++ Builtin.zeroCells tz.cells (C - (n + 1)) := ⟨_, rfl⟩
  have hR0s : R0.size = C * 1 := by rw [hR0]; simp [zeroCells_size, htzc]; omega
  have hR0c : ∀ k, k < i * 1 → R0[k]? = cur[k]? := fun k hk => by
    have h1 : k < (cur.toList.take (i * 1)).toArray.size := by simp; omega
    rw [hR0, Array.append_assoc, Array.getElem?_append_left h1]
    rw [List.getElem?_toArray, List.getElem?_take, if_pos hk]; simp
  have hrz : ∀ ty, (Builtin.append_ #[23, 3] ty #[.slice (some ⟨b, 0, none⟩) i c, .int .i64 ((n : Int) + 1 - (i : Int))]).run Try.prog w =
      .ok (.slice (some ⟨w.heap.size, 0, none⟩) (n + 1) C) (w.drew.alloc (.cells R0 3)) := fun ty => by
    have h := Lib.run_append_grow_zeros w 23 3 ty 3 ti tz .i64 .i64 hu hu2 hti htz1 (some ⟨b, 0, none⟩) i c (cur.toList.take (i * 1)) hold (n + 1 - i) (by omega) (by omega) (by omega) (by omega) (by rw [htb]; omega) (by
      rw [htb, show i + (n + 1 - i) = n + 1 by omega]
      exact growslice_fits (by omega) hbig)
    rw [show i + (n + 1 - i) = n + 1 by omega, ← hC, ← hR0] at h
    rw [hkk]
    exact h
  obtain ⟨c1, hc1⟩ : ∃ c1, c1 = (cur.toList.drop (i * 1)).take ((n - i) * 1) := ⟨_, rfl⟩
  have hc1l : c1.length = (n - i) * 1 := by rw [hc1]; exact mid_len hsz
  obtain ⟨W1, hW1⟩ : ∃ W1, W1 = w.drew.alloc (.cells R0 3) := ⟨_, rfl⟩
  have hW1h : W1.heap[w.heap.size]? = some (.cells R0 3 (0, 0)) := by rw [hW1]; exact heap_alloc_new w.drew _
  have hW1b : ∀ k, k < w.heap.size → W1.heap[k]? = w.heap[k]? := fun k hk => by rw [hW1]; exact Go.RowKit.Below.heap_alloc w.drew _ k hk
  have hW1s : W1.heap.size = w.heap.size + 1 := by rw [hW1]; show (w.heap.push _).size = _; simp
  rw [← hW1] at hrz
  have hcpA : ∀ (W : World), W.heap = W1.heap → ∀ ty dc, (Builtin.copy_ #[23, 23] ty #[.slice (some ⟨w.heap.size, i * 1, none⟩) (n + 1 - i) dc, .slice (some ⟨vb, voff, none⟩) 1 vc]).run Try.prog W = .ok (goInt (1 : Nat)) (W.setRow w.heap.size (spl R0 (i * 1) vs)) := fun W hW ty dc => by
    refine run_copyRow (w := W) (n := 1) (o := i * 1) (dLen := n + 1 - i) (sLen := 1) (g := w.heap.size) (b := some ⟨vb, voff, none⟩) hu hti (by rw [hW]; exact hW1h) (by simp only [Nat.min_def]; split <;> omega) (run_firstCells_some W _ 1 _ 1 vc vs (by rw [hvl, htz]) fun j v hj => ?_) (by omega) h1
    rw [addr_add]
    simpa [World.cell?, hW, hW1b vb hvw, hv] using hvs j v hj
  obtain ⟨R1, hR1⟩ : ∃ R1, R1 = spl R0 (i * 1) vs := ⟨_, rfl⟩
  have hR1s : R1.size = R0.size := by rw [hR1]; exact spl_size (by omega)
  obtain ⟨W2, hW2⟩ : ∃ W2, W2 = W1.setRow w.heap.size (spl R0 (i * 1) vs) := ⟨_, rfl⟩
  have hcpB : ∀ (W : World), W.heap = W2.heap → ∀ ty dc sc, (Builtin.copy_ #[23, 23] ty #[.slice (some ⟨w.heap.size, (i + 1) * 1, none⟩) (n - i) dc, .slice (some ⟨b, i * 1, none⟩) (n - i) sc]).run Try.prog W = .ok (goInt (n - i : Nat)) (W.setRow w.heap.size (spl R1 ((i + 1) * 1) c1)) := fun W hW ty dc sc => by
    have hg2 : W.heap[w.heap.size]? = some (.cells R1 3 (0, 0)) := by rw [hW, hW2, hR1]; exact setRow_heap W1 _ _ _ _ _ hW1h
    have hgb : W.heap[b]? = some (.cells cur 3 (0, 0)) := by rw [hW, hW2]; exact (setRow_other W1 _ b _ (by omega)).trans ((hW1b b hbw).trans hg)
    refine run_copyRow (w := W) (n := n - i) (o := (i + 1) * 1) (dLen := n - i) (sLen := n - i) (g := w.heap.size) (b := some ⟨b, i * 1, none⟩) hu hti hg2 (by simp only [Nat.min_def]; split <;> omega) (run_first_row (w := W) (n := n - i) (size := ti.size) hgb (by rw [hc1l, htz]) fun j v hj => ?_) (by omega) (fun v hv => ?_)
    · rw [hc1, List.getElem?_take] at hj
      split at hj
      · rw [List.getElem?_drop] at hj; simpa using hj
      · simp at hj
    · obtain ⟨j, hj2⟩ := List.mem_iff_getElem?.1 hv
      rw [hc1, List.getElem?_take] at hj2
      split at hj2
      · rw [List.getElem?_drop] at hj2
        exact h1c (i * 1 + j) _ (by omega) (by simpa using hj2)
      · simp at hj2
  clear hC hR0 hold hkk htz2
  have hw1 : IntKind.i64.wrap ((i : Int) + 1) = (i : Int) + 1 := by rw [IntKind.wrap_i64]; omega
  have hb1 : (0 : Int) ≤ (i : Int) + 1 := by omega
  have htn : ((i : Int) + 1).toNat = i + 1 := by omega
  have hb2 : ¬ (C = i + 1) := by omega
  have hb3 : (i : Int) ≤ (n : Int) + 1 := by omega
  have hb4 : ¬ (C = i) := by omega
  have hb5 : ¬ (c = i) := by omega
  have hin : i ≤ n := by omega
  have hin1 : i ≤ n + 1 := by omega
  have hz3 : (c : Int) < (n : Int) + 1 := by omega
  subst hW2 hW1
  simp only [Nat.mul_one] at hcpA hcpB hR1 ⊢
  go_enter Try.func75, Try.ntmps75
  go_wp2_with (at_builtin; refine Lib.wpList_append_run _ rfl _ _ _ _ rfl _ _ rfl rfl _ _ (hrz _) ?_)
  rw [hcpA (w.alloc (.cells R0 3)).drew rfl]
  go_wp2
  go_region_law (refine step_copy_eq rfl _ _ 23 23 rfl (.slice (some ⟨w.heap.size, i + 1, none⟩) (n - i) (C - (i + 1))) (.slice (some ⟨b, i, none⟩) (n - i) (c - i)) (by simp [Act.eval, Act.put]) (by simp [Act.eval, Act.put]) (hcpB _ (by rfl) _ _ _) ?_)
  go_wp2
  go_ret
  obtain ⟨k1, k2, k3⟩ := grow2 w R0 (spl R0 (i * 1) vs) (spl (spl R0 (i * 1) vs) ((i + 1) * 1) ((cur.toList.drop (i * 1)).take ((n - i) * 1))) 3
  have hsz1 : (spl (spl R0 (i * 1) vs) ((i + 1) * 1) ((cur.toList.drop (i * 1)).take ((n - i) * 1))).size = C * 1 := by rw [spl_size (by rw [spl_size (by omega)]; rw [mid_len hsz]; omega), spl_size (by omega), hR0s]
  have hget1 : ∀ k, k < (n + 1) * 1 → (spl (spl R0 (i * 1) vs) ((i + 1) * 1) ((cur.toList.drop (i * 1)).take ((n - i) * 1)))[k]? = (insL 1 cur i n vs)[k]? := fun k hk => ins_get_grow hvl hin hsz (by omega) hR0c k hk
  simp only [Nat.mul_one] at k1 k2 k3 hsz1 hget1
  exact ⟨C, _, rfl, hC1, hC2, hsz1, k1, k2, k3, hget1⟩
theorem insert_con (l : List (List PV)) (i : Nat) (el : List PV) (hi : i ≤ l.length) (hl : l.length ≤ 1000000) (hel : el.length = 1) :
    Con Try.prog 75 [.row 1024, .p (I i), .p (.sl 1 [el])] [.row 3 1 l] (.ret (.row 1024) [] [.row 3 1 (l.take i ++ el :: l.drop i)]) := by
  refine fun F w m xs hp hlen har => .inl ⟨⟨_, Try.func75, rfl, rfl⟩, ?_⟩
  obtain ⟨x0, hx0, hr0⟩ := har 0 _ rfl
  obtain ⟨x1, hx1, hr1⟩ := har 1 _ rfl
  obtain ⟨x2, hx2, hr2⟩ := har 2 _ rfl
  have hxs : xs.toArray = #[x0, x1, x2] := by
    match xs, hlen with
    | [y0, y1, y2], _ => simp at hx0 hx1 hx2; subst hx0 hx1 hx2; rfl
  rw [hxs]
  have h0 : x0 = m.r 1024 := hr0
  have h1 : x1 = .int .i64 i := by
    have hr1' : RP w _ (.v (.int .i64 i)) x1 := hr1
    cases hr1'; rfl
  subst h1
  have hr2' : RP w (Gd F m (nmF [.row 3 1 l] [])) (.sl 1 [el]) x2 := hr2
  obtain ⟨news, hsrc⟩ := src_RP (P := Try.prog) (by omega : 0 < 1) hr2'
  have hu : Try.prog.underlying 23 = some (.slice 3) := (Try.tab 23 _ rfl).kind
  obtain ⟨ti, tz, hti, htz0, htb0, htz1, htz2, -⟩ := (Try.tab 3 _ rfl).info
  have htz : ti.size = 1 := htz0
  have htb : ti.bytes = 8 := htb0
  have htzc : tz.cells.size = 1 := by have := congrArg List.length htz2; simpa using this
  have hrb : RBr w w (Gd F m (nmF [.row 3 1 l] [])) 3 1 l (m.r 1024) := (hp.blks 1024 _ (by rw [nmF1]; simp)).RBr
  have hY : ∀ k, ownB (m.r 1024) = some k → owns m (nmF [.row 3 1 l] []) 1024 k := fun k hk => by unfold owns; rw [nmF1]; simpa using hk
  rcases hr2'.slI with ⟨b0, -, h0⟩ | ⟨vb, voff, vc, hx2e, -, -, hvk, hve⟩
  · simp at h0
  have hx2e : x2 = .slice (some ⟨vb, voff, none⟩) 1 vc := hx2e
  subst hx2e
  obtain ⟨hvb, hvg⟩ := hvk (by simp)
  obtain ⟨-, hvc⟩ := hve 0 el rfl
  by_cases hend : i = l.length
  · subst hend
    obtain ⟨v, w', hrun, hkp, hrb', hown⟩ := app_row (F := F) (m := m) (st := ⟨fun _ => .junk, nmF [.row 3 1 l] []⟩) hu hti htz1 (by rw [htzc, htz]) (.inl ⟨_, hu⟩) #[23, 23] ⟨rfl, rfl⟩ 23 htz hsrc (by rw [htb]; simp; omega) (by simp; omega) (by omega) (by omega) (.inl ⟨hrb, hY⟩)
    have hcall : ∃ sb c, m.r 1024 = .slice sb l.length c ∧ l.length ≤ c ∧ c ≤ 9223372036854775807 := by
      rcases hrb with ⟨-, ⟨a, ha⟩, hl0⟩ | ⟨k, cap, cur, hr, -, h2, h3, -⟩
      · exact ⟨a, 0, by rw [ha, hl0]; rfl, by rw [hl0]; simp, by omega⟩
      · exact ⟨_, cap, hr, h2, h3⟩
    obtain ⟨sb, c, hs, hc1, hc2⟩ := hcall
    rw [h0, hs]
    rw [hs] at hrun
    refine (ins_end sb l.length c vb voff vc w hc1 hc2 hrun).mono ?_
    rintro e w2 ⟨rfl, rfl⟩
    have e1 : l.take l.length ++ el :: l.drop l.length = l ++ [el] := by simp
    rw [e1]
    exact row_out hp hkp hrb' hown
  · have hlt : i < l.length := by omega
    rcases hrb with ⟨-, -, hl0⟩ | ⟨k, cap, cur, hr, hc0, hlc, hcm, hh, hsz, hels⟩
    · rw [hl0] at hlt; simp at hlt
    have hk : owns m (nmF [.row 3 1 l] []) 1024 k := hY k (by simp [hr, ownB]; omega)
    have hvbk : vb ≠ k := fun h => hvg (.inr ⟨_, h ▸ hk⟩)
    have hcm' : cap ≤ 9223372036854775807 := hcm
    have hlsz : l.length * 1 ≤ cur.size := by rw [hsz]; omega
    have hcell : ∀ (j : Nat) (p : PV), el[j]? = some p → p.one = true ∧ ∃ u, w.cell? ⟨vb, voff + j, none⟩ = some u ∧ RP w (Gd F m (nmF [.row 3 1 l] [])) p u := fun j p hj => by simpa using hvc j p hj
    have hcA : ∃ cA tA fA, w.heap[vb]? = some (.cells cA tA fA) := by
      obtain ⟨-, u, hu, -⟩ := hcell 0 _ (List.getElem?_eq_getElem (by omega))
      unfold World.cell? at hu
      split at hu
      · exact ⟨_, _, _, by assumption⟩
      · simp at hu
    obtain ⟨cA, tA, fA, hcA⟩ := hcA
    obtain ⟨vs, hvl, hvs, hvr⟩ : ∃ vs : List Value, vs.length = 1 ∧ (∀ (j : Nat) (v : Value), vs[j]? = some v → cA[voff + j]? = some v) ∧ (∀ (j : Nat) (p : PV), el[j]? = some p → p.one = true ∧ ∃ u, vs[j]? = some u ∧ RP w (Gd F m (nmF [.row 3 1 l] [])) p u) := by
      have hex : ∀ j, j < 1 → ∃ u, cA[voff + j]? = some u ∧ ∃ p, el[j]? = some p ∧ p.one = true ∧ RP w (Gd F m (nmF [.row 3 1 l] [])) p u := fun j hj => by
        obtain ⟨ho, u, hu, hpr⟩ := hcell j _ (List.getElem?_eq_getElem (by omega))
        exact ⟨u, by simpa [World.cell?, hcA] using hu, _, List.getElem?_eq_getElem (by omega), ho, hpr⟩
      refine ⟨(List.range 1).map fun j => (cA[voff + j]?).getD undef, by simp, fun j v hj => ?_, fun j p hj => ?_⟩
      · rw [List.getElem?_map] at hj
        by_cases hj7 : j < 1
        · rw [List.getElem?_range hj7] at hj
          obtain ⟨u, h2, -⟩ := hex j hj7
          simp only [Option.map_some, h2, Option.getD_some, Option.some.injEq] at hj
          rw [h2, hj]
        · rw [List.getElem?_eq_none (by simp; omega)] at hj; simp at hj
      · have hj7 : j < 1 := by have := (List.getElem?_eq_some_iff.1 hj).1; omega
        obtain ⟨u, h2, p', h3, h4, h5⟩ := hex j hj7
        rw [hj] at h3
        simp only [Option.some.injEq] at h3
        subst h3
        exact ⟨h4, u, by rw [List.getElem?_map, List.getElem?_range hj7]; simp [h2], h5⟩
    have hone : ∀ v ∈ vs, v.oneCell' = true := fun v hv => by
      obtain ⟨j, hj⟩ := List.mem_iff_getElem?.1 hv
      have hjl := (List.getElem?_eq_some_iff.1 hj).1
      obtain ⟨h2, u, h3, h4⟩ := hvr j _ (List.getElem?_eq_getElem (by omega))
      rw [hj] at h3
      simp only [Option.some.injEq] at h3
      rw [h3]; exact h4.oneCell h2
    have honec : ∀ (j : Nat) (v : Value), j < l.length * 1 → cur[j]? = some v → v.oneCell' = true := fun j v hj hv => by
      have hjl : j / 1 < l.length := by omega
      obtain ⟨h2, h3⟩ := hels (j / 1) _ (List.getElem?_eq_getElem hjl)
      obtain ⟨h4, u, h5, h6⟩ := h3 (j % 1) _ (List.getElem?_eq_getElem (by rw [h2]; omega))
      have h5' : cur[j / 1 * 1 + j % 1]? = some u := h5
      rw [show j / 1 * 1 + j % 1 = j by omega, hv] at h5'
      simp only [Option.some.injEq] at h5'
      rw [h5']; exact h6.oneCell h4
    rw [h0, hr]
    by_cases hroom : l.length + 1 ≤ cap
    · refine (ins_shift k l.length cap i vb voff vc cur cA vs w tA fA hh hsz hlt hroom hcm' hvbk hcA hvl hvs hone honec).mono ?_
      rintro e w2 ⟨rfl, rfl⟩
      obtain ⟨k1, k2⟩ := shift2 w k cur (spl cur ((i + 1) * 1) ((cur.toList.drop (i * 1)).take ((l.length - i) * 1))) (spl (spl cur ((i + 1) * 1) ((cur.toList.drop (i * 1)).take ((l.length - i) * 1))) (i * 1) vs) 3 hh
      have e1 : (l.take i ++ el :: l.drop i).length = l.length + 1 := by simp; omega
      have hfit : (l.length + 1) * 1 ≤ cur.size := by rw [hsz]; omega
      refine row_out hp (k1.mono fun k' h => h ▸ hk) (.inr ⟨k, cap, _, by rw [e1], hc0, by rw [e1]; exact hroom, hcm, k2, ?_, EL.ins hels hvl hel hvr hi hlsz fun j hj => ins_get_shift hvl hi hfit j hj⟩) fun k' hk' => ?_
      · rw [spl_size (by rw [spl_size (by rw [mid_len hlsz]; omega)]; omega), spl_size (by rw [mid_len hlsz]; omega), hsz]
      · simp only [ownB, if_neg (show ¬ cap = 0 by omega), Option.some.injEq] at hk'
        subst hk'
        exact ⟨.inl hk, lt_of_heap k2⟩
    · refine (ins_grow k l.length cap i vb voff vc cur cA vs w tA fA hh hlsz hlt hlc (by omega) (by omega) hcA hvl hvs hone honec).mono ?_
      rintro e w2 ⟨C, R, rfl, hC1, hC2, hRs, hkp, hR, hsz2, hRg⟩
      have e1 : (l.take i ++ el :: l.drop i).length = l.length + 1 := by simp; omega
      refine row_out hp (hkp.mono fun _ h => h.elim) (.inr ⟨w.heap.size, C, R, by rw [e1], by omega, by rw [e1]; exact hC1, hC2, hR, hRs, EL.ins hels hvl hel hvr hi hlsz hRg⟩) fun k' hk' => ?_
      simp only [ownB, if_neg (show ¬ C = 0 by omega), Option.some.injEq] at hk'
      subst hk'
      exact ⟨.inr (Nat.le_refl _), hsz2⟩
end Go.Proofs.Ytegoihognjpcjaa


/- States: a session opened, a session closed. -/
namespace Go.Proofs.Ytegoihognjpcjaa
set_option linter.unusedSimpArgs false
set_option linter.unusedVariables false
open Go Go.Av
attribute [local simp] Try.T1 Try.T2 Try.T3 Try.T4 Try.T5 Try.T9 Try.T12 Try.T15 Try.T16 Try.T17 Try.T21 Try.T22 Try.T23 Try.T25 Try.T26 Try.T28 Try.T30 Try.T31 Try.T33 Try.T34 Try.T35 Try.T36 Try.T37 Try.T38 Try.T40 Try.T42 Try.T43 Try.T44 Try.T45 Try.T46 Try.T48 Try.T49 Try.T50 Try.T51 Try.T52 Try.T53 Try.T54 Try.T55 Try.T56 Try.T57 Try.T58 Try.T59 Try.T60 Try.T61 Try.T62 Try.T64 Try.T66 Try.T67 Try.T68 Try.T69 Try.T70 Try.T71 Try.T72 Try.T73 Try.T74 Try.T75 Try.T76 Try.T77 Try.T78 Try.T80 Try.T81 Try.T82 Try.T83 Try.T84 Try.T85 Try.T86 Try.T88 Try.T89 Try.T90 Try.T91 Try.T92 Try.T93 Try.T94 Try.T95 Try.T96 Try.T97 Try.T98 Try.T99 Try.T100 Try.T101 Try.T102 Try.T103 Try.T104 Try.T105 Try.T106 Try.T107 Try.T108 Try.T109 Try.T110 Try.T111 Try.T112 Try.T113 Try.T116 Try.T119 Try.T120 Try.T123 Try.T124
attribute [local irreducible] Go.Av.CallK Go.Av.CallE Go.Av.CallQ Go.Av.CallF Go.Av.CallR Go.Av.CallH Go.Av.Con
theorem without_con (l : List Int) (n : Int) (hl : l.length ≤ 1000000) : Con Try.prog 73 [.row 1024, .p (I n)] [.row 3 1 (zis l)] (.ret (.row 1024) [] [.row 3 1 (zis (but l n))]) := by
  have hc := deleteF_con l n hl
  refine wBodyG Try.tab Try.mixed Try.func73 rfl rfl Try.ntmps73 (by simp) (by simp) fun Q hr hn hp => ?_
  repeat' first | (refine CallK_gen [1024, 3] hc (by decide) (by decide) (by simp [blksOf, inN, pos, renB, ren0]) (by simp [argsG, argG, ren0, inN, pos, renCs, renC]) ⟨[], by simp, by simp, ?_⟩; simp [lv, ouN, kpI, kpR, pos, ren, ren0, renB, renC, renCs]) | (refine hK _ ?_; clear hK) | (refine hK _ _ ?_; clear hK) | (clear hK; refine hK _ ?_; clear hK) | (clear hK; clear hK; refine hK _ ?_; clear hK) | (clear hK; clear hK; clear hK; refine hK _ ?_; clear hK) | (clear hK; clear hK; clear hK; clear hK; refine hK _ ?_; clear hK) | (refine wSeq fun K hK => ?_) | ((first | refine wReg ?_ | refine wDrwQ rfl (by kernel_rfl) ?_ | refine wDrwI ?_ | refine wDrw (by kernel_rfl) ?_); simp only [List.map_cons, List.map_nil, strip]) | ((first | refine wIs fun K hK => ?_ | refine wOs fun K hK => ?_ | refine wQs fun K hK => ?_ | refine CallK_plain ?_ | refine CallQ_plain ?_ | refine CallR_plain ?_ | refine wCond ?_); simp) | (refine wIn ?_; refine And.intro (by kernel_rfl) ?_; try simp only [thenA_n]) | (first | refine wBlock ?_ | refine wScope ?_) | ((first | refine wRet ?_ | refine wExit ?_ | refine wSkip ?_); try simp) | ((first | refine wLabel ?_ | refine wOn ?_ | refine wQn ?_); try simp only [thenA_n])
  all_goals apply hr
  all_goals refine ⟨[], by simp, by simp, ?_⟩
  all_goals simp [Try.f73, outR, outB, renB, gaN]
/-! ### Where a session stands -/
def atI : List Int → Int → Nat
  | [], _ => 0
  | x :: r, s => if x < s then atI r s + 1 else 0
theorem atI_step {l : List Int} {k : Nat} (h : k < l.length) (s : Int) : atI (l.drop k) s = if l[k] < s then atI (l.drop (k + 1)) s + 1 else 0 := by
  rw [List.drop_eq_getElem_cons h]; rfl
theorem atI_but : ∀ (l : List Int) (s : Int), atI l s ≤ (but l s).length
  | [], s => by simp [atI]
  | x :: r, s => by
    have ih := atI_but r s
    rw [atI]
    by_cases h : x < s
    · rw [if_pos h]
      have : but (x :: r) s = x :: but r s := by
        unfold but; rw [List.filter_cons_of_pos (by simp; omega)]
      rw [this]; simp; exact ih
    · rw [if_neg h]; omega
def insI (l : List Int) (s : Int) : List Int := (but l s).take (atI l s) ++ s :: (but l s).drop (atI l s)
def okS (s : Int) : Bool := decide (1 ≤ s ∧ s ≤ 1099511627776)
def opnL (l : List Int) (s : Int) : List Int := if okS s = true then insI l s else l
def opnN (nx s : Int) : Int := if okS s = true then max nx (s + 1) else nx
theorem zis_ins (l : List Int) (s : Int) : (zis (but l s)).take (atI l s) ++ [I s] :: (zis (but l s)).drop (atI l s) = zis (insI l s) := by
  simp [zis, insI, List.map_take, List.map_drop]
set_option maxHeartbeats 1000000 in
theorem open_con (ns ms : List (List PV)) (l : List Int) (nx e n k ae an s : Int) (hl : l.length ≤ 1000000) :
    Con Try.prog 72 [.ptr 1024 0, .p (I s)] [.box 30 [.p (.sl 5 ns), .row 1025, .p (I nx), .p (I e), .p (I n), .p (I k), .p (.sl 4 ms), .p (I ae), .p (I an)], .row 3 1 (zis l)]
      (.ret (.tup []) [] [.box 30 [.p (.sl 5 ns), .row 1025, .p (I (opnN nx s)), .p (I e), .p (I n), .p (I k), .p (.sl 4 ms), .p (I ae), .p (I an)], .row 3 1 (zis (opnL l s))]) := by
  unfold opnN opnL okS
  by_cases h1 : s < 1
  · rw [show decide (1 ≤ s ∧ s ≤ 1099511627776) = false from decide_eq_false (by omega)]
    simp only [Bool.false_eq_true, if_false]
    refine wBodyG Try.tab Try.mixed Try.func72 rfl rfl Try.ntmps72 (by simp) (by simp) fun Q hr hn hp => ?_
    repeat' first | (refine hK _ ?_; clear hK) | (refine hK _ _ ?_; clear hK) | (clear hK; refine hK _ ?_; clear hK) | (clear hK; clear hK; refine hK _ ?_; clear hK) | (clear hK; clear hK; clear hK; refine hK _ ?_; clear hK) | (clear hK; clear hK; clear hK; clear hK; refine hK _ ?_; clear hK) | (refine wSeq fun K hK => ?_) | ((first | refine wReg ?_ | refine wDrwQ rfl (by kernel_rfl) ?_ | refine wDrwI ?_ | refine wDrw (by kernel_rfl) ?_); simp only [List.map_cons, List.map_nil, strip]) | ((first | refine wIs fun K hK => ?_ | refine wOs fun K hK => ?_ | refine wQs fun K hK => ?_ | refine CallK_plain ?_ | refine CallQ_plain ?_ | refine CallR_plain ?_ | refine wCond ?_); simp [h1]) | (refine wIn ?_; refine And.intro (by kernel_rfl) ?_; try simp only [thenA_n]) | (first | refine wBlock ?_ | refine wScope ?_) | ((first | refine wRet ?_ | refine wExit ?_ | refine wSkip ?_); try simp) | ((first | refine wLabel ?_ | refine wOn ?_ | refine wQn ?_); try simp only [thenA_n])
    all_goals apply hr
    all_goals refine ⟨[], by simp, by simp, ?_⟩
    all_goals simp [Try.f72, outR, outB, renB, gaN]
  by_cases h2 : 1099511627776 < s
  · rw [show decide (1 ≤ s ∧ s ≤ 1099511627776) = false from decide_eq_false (by omega)]
    simp only [Bool.false_eq_true, if_false]
    refine wBodyG Try.tab Try.mixed Try.func72 rfl rfl Try.ntmps72 (by simp) (by simp) fun Q hr hn hp => ?_
    repeat' first | (refine hK _ ?_; clear hK) | (refine hK _ _ ?_; clear hK) | (clear hK; refine hK _ ?_; clear hK) | (clear hK; clear hK; refine hK _ ?_; clear hK) | (clear hK; clear hK; clear hK; refine hK _ ?_; clear hK) | (clear hK; clear hK; clear hK; clear hK; refine hK _ ?_; clear hK) | (refine wSeq fun K hK => ?_) | ((first | refine wReg ?_ | refine wDrwQ rfl (by kernel_rfl) ?_ | refine wDrwI ?_ | refine wDrw (by kernel_rfl) ?_); simp only [List.map_cons, List.map_nil, strip]) | ((first | refine wIs fun K hK => ?_ | refine wOs fun K hK => ?_ | refine wQs fun K hK => ?_ | refine CallK_plain ?_ | refine CallQ_plain ?_ | refine CallR_plain ?_ | refine wCond ?_); simp [h1, h2]) | (refine wIn ?_; refine And.intro (by kernel_rfl) ?_; try simp only [thenA_n]) | (first | refine wBlock ?_ | refine wScope ?_) | ((first | refine wRet ?_ | refine wExit ?_ | refine wSkip ?_); try simp) | ((first | refine wLabel ?_ | refine wOn ?_ | refine wQn ?_); try simp only [thenA_n])
    all_goals apply hr
    all_goals refine ⟨[], by simp, by simp, ?_⟩
    all_goals simp [Try.f72, outR, outB, renB, gaN]
  rw [show decide (1 ≤ s ∧ s ≤ 1099511627776) = true from decide_eq_true (by omega)]
  simp only [if_true]
  have hc := without_con l s hl
  have hbl := but_len l s
  have hi := insert_con (zis (but l s)) (atI l s) [I s] (by rw [zis_len]; exact atI_but l s) (by rw [zis_len]; omega) rfl
  rw [zis_ins] at hi
  have hw1 : IntKind.i64.wrap (s + 1) = s + 1 := by rw [wrap_id] <;> omega
  refine wBodyG Try.tab Try.mixed Try.func72 rfl rfl Try.ntmps72 (by simp) (by simp) fun Q hr hn hp => ?_
  repeat' first | (refine hK _ ?_; clear hK) | (refine hK _ _ ?_; clear hK) | (clear hK; refine hK _ ?_; clear hK) | (clear hK; clear hK; refine hK _ ?_; clear hK) | (clear hK; clear hK; clear hK; refine hK _ ?_; clear hK) | (clear hK; clear hK; clear hK; clear hK; refine hK _ ?_; clear hK) | (refine wSeq fun K hK => ?_) | ((first | refine wReg ?_ | refine wDrwQ rfl (by kernel_rfl) ?_ | refine wDrwI ?_ | refine wDrw (by kernel_rfl) ?_); simp only [List.map_cons, List.map_nil, strip]) | ((first | refine wIs fun K hK => ?_ | refine wOs fun K hK => ?_ | refine wQs fun K hK => ?_ | refine CallK_plain ?_ | refine CallQ_plain ?_ | refine CallR_plain ?_ | refine wCond ?_); simp [h1, h2]) | (refine wIn ?_; refine And.intro (by kernel_rfl) ?_; try simp only [thenA_n]) | (first | refine wBlock ?_ | refine wScope ?_) | ((first | refine wRet ?_ | refine wExit ?_ | refine wSkip ?_); try simp) | ((first | refine wLabel ?_ | refine wOn ?_ | refine wQn ?_); try simp only [thenA_n])
  refine wLoop (fun N st => ∃ q, q + N = l.length ∧ atI l s = q + atI (l.drop q) s ∧ st.s 0 = .ptr 1024 0 ∧ st.s 1 = .p (I s) ∧ st.s 4 = .p (I q) ∧ st.b 1025 = some (.row 3 1 (zis l)) ∧ st.b 1024 = some (.box 30 [.p (.sl 5 ns), .row 1025, .p (I nx), .p (I e), .p (I n), .p (I k), .p (.sl 4 ms), .p (I ae), .p (I an)])) l.length ⟨0, by simp⟩ fun K N st hL ⟨q, hq, hat, g0, g1, g4, b1, b0⟩ => ?_
  have hend : atI (l.drop q) s = 0 → atI l s = q := fun h => by omega
  by_cases hlt : q < l.length
  · have hw := wrapX q _ hlt (by omega)
    have he := zis_get hlt
    have hs := atI_step hlt s
    by_cases o : l[q] < s
    · rw [if_pos o] at hs
      repeat' first | (refine hK _ ?_; clear hK) | (refine hK _ _ ?_; clear hK) | (clear hK; refine hK _ ?_; clear hK) | (clear hK; clear hK; refine hK _ ?_; clear hK) | (clear hK; clear hK; clear hK; refine hK _ ?_; clear hK) | (clear hK; clear hK; clear hK; clear hK; refine hK _ ?_; clear hK) | (refine wSeq fun K hK => ?_) | ((first | refine wReg ?_ | refine wDrwQ rfl (by kernel_rfl) ?_ | refine wDrwI ?_ | refine wDrw (by kernel_rfl) ?_); simp only [List.map_cons, List.map_nil, strip]) | ((first | refine wIs fun K hK => ?_ | refine wOs fun K hK => ?_ | refine wQs fun K hK => ?_ | refine CallK_plain ?_ | refine CallQ_plain ?_ | refine CallR_plain ?_ | refine wCond ?_); simp [g0, g1, g4, b0, b1, hlt, hw, he, o]) | (refine wIn ?_; refine And.intro (by kernel_rfl) ?_; try simp only [thenA_n]) | (first | refine wBlock ?_ | refine wScope ?_) | ((first | refine wRet ?_ | refine wExit ?_ | refine wSkip ?_); try simp) | ((first | refine wLabel ?_ | refine wOn ?_ | refine wQn ?_); try simp only [thenA_n])
      refine hL _ (N - 1) (by omega) ⟨q + 1, by omega, by omega, ?_⟩
      simp [g0, g1, g4, b0, b1, hw]
    · rw [if_neg o] at hs
      rw [hend hs] at hi
      repeat' first | (refine CallK_gen [1025] hc (by decide) (by decide) (by simp [blksOf, inN, pos, renB, ren0, b1]) (by simp [argsG, argG, ren0, inN, pos, renCs, renC]) ⟨[], by simp, by simp, ?_⟩; simp [lv, ouN, kpI, kpR, pos, ren, ren0, renB, renC, renCs, g0, g1, g4, b0, b1]) | (refine CallK_gen [1025] hi (by decide) (by decide) (by simp [blksOf, inN, pos, renB, ren0, lv, ouN, kpI, kpR, b1]) (by simp [argsG, argG, ren0, inN, pos, renCs, renC]) ⟨[], by simp, by simp, ?_⟩; simp [lv, ouN, kpI, kpR, pos, ren, ren0, renB, renC, renCs, g0, g1, g4, b0, b1]) | (refine hK _ ?_; clear hK) | (refine hK _ _ ?_; clear hK) | (clear hK; refine hK _ ?_; clear hK) | (clear hK; clear hK; refine hK _ ?_; clear hK) | (clear hK; clear hK; clear hK; refine hK _ ?_; clear hK) | (clear hK; clear hK; clear hK; clear hK; refine hK _ ?_; clear hK) | (refine wSeq fun K hK => ?_) | ((first | refine wReg ?_ | refine wDrwQ rfl (by kernel_rfl) ?_ | refine wDrwI ?_ | refine wDrw (by kernel_rfl) ?_); simp only [List.map_cons, List.map_nil, strip]) | ((first | refine wIs fun K hK => ?_ | refine wOs fun K hK => ?_ | refine wQs fun K hK => ?_ | refine CallK_plain ?_ | refine CallQ_plain ?_ | refine CallR_plain ?_ | refine wCond ?_); simp [g0, g1, g4, b0, b1, hlt, hw, he, o, hw1, lv, ouN, kpI, kpR, pos, ren, ren0, renB, renC, renCs]) | (refine wIn ?_; refine And.intro (by kernel_rfl) ?_; try simp only [thenA_n]) | (first | refine wBlock ?_ | refine wScope ?_) | ((first | refine wRet ?_ | refine wExit ?_ | refine wSkip ?_); try simp) | ((first | refine wLabel ?_ | refine wOn ?_ | refine wQn ?_); try simp only [thenA_n])
      all_goals first | apply hr | apply hn
      all_goals refine ⟨[], by simp, by simp, ?_⟩
      all_goals simp [Try.f72, outR, outB, renB, gaN, lv, ouN, kpI, kpR, pos, ren, ren0, renC, renCs, b0, b1]
      all_goals (split <;> omega)
  · have hql : q = l.length := by omega
    have hs : atI (l.drop q) s = 0 := by rw [List.drop_eq_nil_of_le (by omega)]; rfl
    rw [hend hs] at hi
    repeat' first | (refine CallK_gen [1025] hc (by decide) (by decide) (by simp [blksOf, inN, pos, renB, ren0, b1]) (by simp [argsG, argG, ren0, inN, pos, renCs, renC]) ⟨[], by simp, by simp, ?_⟩; simp [lv, ouN, kpI, kpR, pos, ren, ren0, renB, renC, renCs, g0, g1, g4, b0, b1]) | (refine CallK_gen [1025] hi (by decide) (by decide) (by simp [blksOf, inN, pos, renB, ren0, lv, ouN, kpI, kpR, b1]) (by simp [argsG, argG, ren0, inN, pos, renCs, renC]) ⟨[], by simp, by simp, ?_⟩; simp [lv, ouN, kpI, kpR, pos, ren, ren0, renB, renC, renCs, g0, g1, g4, b0, b1]) | (refine hK _ ?_; clear hK) | (refine hK _ _ ?_; clear hK) | (clear hK; refine hK _ ?_; clear hK) | (clear hK; clear hK; refine hK _ ?_; clear hK) | (clear hK; clear hK; clear hK; refine hK _ ?_; clear hK) | (clear hK; clear hK; clear hK; clear hK; refine hK _ ?_; clear hK) | (refine wSeq fun K hK => ?_) | ((first | refine wReg ?_ | refine wDrwQ rfl (by kernel_rfl) ?_ | refine wDrwI ?_ | refine wDrw (by kernel_rfl) ?_); simp only [List.map_cons, List.map_nil, strip]) | ((first | refine wIs fun K hK => ?_ | refine wOs fun K hK => ?_ | refine wQs fun K hK => ?_ | refine CallK_plain ?_ | refine CallQ_plain ?_ | refine CallR_plain ?_ | refine wCond ?_); simp [g0, g1, g4, b0, b1, hlt, hw1, lv, ouN, kpI, kpR, pos, ren, ren0, renB, renC, renCs]) | (refine wIn ?_; refine And.intro (by kernel_rfl) ?_; try simp only [thenA_n]) | (first | refine wBlock ?_ | refine wScope ?_) | ((first | refine wRet ?_ | refine wExit ?_ | refine wSkip ?_); try simp) | ((first | refine wLabel ?_ | refine wOn ?_ | refine wQn ?_); try simp only [thenA_n])
    all_goals first | apply hr | apply hn
    all_goals refine ⟨[], by simp, by simp, ?_⟩
    all_goals simp [Try.f72, outR, outB, renB, gaN, lv, ouN, kpI, kpR, pos, ren, ren0, renC, renCs, b0, b1]
    all_goals (split <;> omega)
end Go.Proofs.Ytegoihognjpcjaa


/- States: the document's copies and lists without a number. -/
namespace Go.Proofs.Ytegoihognjpcjaa
set_option linter.unusedSimpArgs false
set_option linter.unusedVariables false
open Go Go.Av
attribute [local simp] Try.T1 Try.T2 Try.T3 Try.T4 Try.T5 Try.T9 Try.T12 Try.T15 Try.T16 Try.T17 Try.T21 Try.T22 Try.T23 Try.T25 Try.T26 Try.T28 Try.T30 Try.T31 Try.T33 Try.T34 Try.T35 Try.T36 Try.T37 Try.T38 Try.T40 Try.T42 Try.T43 Try.T44 Try.T45 Try.T46 Try.T48 Try.T49 Try.T50 Try.T51 Try.T52 Try.T53 Try.T54 Try.T55 Try.T56 Try.T57 Try.T58 Try.T59 Try.T60 Try.T61 Try.T62 Try.T64 Try.T66 Try.T67 Try.T68 Try.T69 Try.T70 Try.T71 Try.T72 Try.T73 Try.T74 Try.T75 Try.T76 Try.T77 Try.T78 Try.T80 Try.T81 Try.T82 Try.T83 Try.T84 Try.T85 Try.T86 Try.T88 Try.T89 Try.T90 Try.T91 Try.T92 Try.T93 Try.T94 Try.T95 Try.T96 Try.T97 Try.T98 Try.T99 Try.T100 Try.T101 Try.T102 Try.T103 Try.T104 Try.T105 Try.T106 Try.T107 Try.T108 Try.T109 Try.T110 Try.T111 Try.T112 Try.T113 Try.T116 Try.T119 Try.T120 Try.T123 Try.T124
attribute [local irreducible] Go.Av.CallK Go.Av.CallE Go.Av.CallQ Go.Av.CallF Go.Av.CallR Go.Av.CallH Go.Av.Con
end Go.Proofs.Ytegoihognjpcjaa


/- States: the document's list with a number. -/
namespace Go.Proofs.Ytegoihognjpcjaa
set_option linter.unusedSimpArgs false
set_option linter.unusedVariables false
open Go Go.Av
attribute [local simp] Try.T1 Try.T2 Try.T3 Try.T4 Try.T5 Try.T9 Try.T12 Try.T15 Try.T16 Try.T17 Try.T21 Try.T22 Try.T23 Try.T25 Try.T26 Try.T28 Try.T30 Try.T31 Try.T33 Try.T34 Try.T35 Try.T36 Try.T37 Try.T38 Try.T40 Try.T42 Try.T43 Try.T44 Try.T45 Try.T46 Try.T48 Try.T49 Try.T50 Try.T51 Try.T52 Try.T53 Try.T54 Try.T55 Try.T56 Try.T57 Try.T58 Try.T59 Try.T60 Try.T61 Try.T62 Try.T64 Try.T66 Try.T67 Try.T68 Try.T69 Try.T70 Try.T71 Try.T72 Try.T73 Try.T74 Try.T75 Try.T76 Try.T77 Try.T78 Try.T80 Try.T81 Try.T82 Try.T83 Try.T84 Try.T85 Try.T86 Try.T88 Try.T89 Try.T90 Try.T91 Try.T92 Try.T93 Try.T94 Try.T95 Try.T96 Try.T97 Try.T98 Try.T99 Try.T100 Try.T101 Try.T102 Try.T103 Try.T104 Try.T105 Try.T106 Try.T107 Try.T108 Try.T109 Try.T110 Try.T111 Try.T112 Try.T113 Try.T116 Try.T119 Try.T120 Try.T123 Try.T124
attribute [local irreducible] Go.Av.CallK Go.Av.CallE Go.Av.CallQ Go.Av.CallF Go.Av.CallR Go.Av.CallH Go.Av.Con
end Go.Proofs.Ytegoihognjpcjaa


/- Nodes of the tree: what Put and Gone come to. -/
namespace Go.Proofs.Ytegoihognjpcjaa
set_option linter.unusedSimpArgs false
set_option linter.unusedVariables false
open Go Go.Av
theorem rst_sub (l : List Zn) (q : List UInt8) : (rst l q).Sublist l := by
  cases l with
  | nil => exact .slnil
  | cons x r =>
    rw [rst]; split
    · exact List.sublist_cons_self x r
    · exact List.Sublist.refl _
end Go.Proofs.Ytegoihognjpcjaa


/- Nodes of the tree: the law ZnodeStays. -/
namespace Go.Proofs.Ytegoihognjpcjaa
set_option linter.unusedSimpArgs false
set_option linter.unusedVariables false
open Go Go.Av
attribute [local simp] Try.T1 Try.T2 Try.T3 Try.T4 Try.T5 Try.T9 Try.T12 Try.T15 Try.T16 Try.T17 Try.T21 Try.T22 Try.T23 Try.T25 Try.T26 Try.T28 Try.T30 Try.T31 Try.T33 Try.T34 Try.T35 Try.T36 Try.T37 Try.T38 Try.T40 Try.T42 Try.T43 Try.T44 Try.T45 Try.T46 Try.T48 Try.T49 Try.T50 Try.T51 Try.T52 Try.T53 Try.T54 Try.T55 Try.T56 Try.T57 Try.T58 Try.T59 Try.T60 Try.T61 Try.T62 Try.T64 Try.T66 Try.T67 Try.T68 Try.T69 Try.T70 Try.T71 Try.T72 Try.T73 Try.T74 Try.T75 Try.T76 Try.T77 Try.T78 Try.T80 Try.T81 Try.T82 Try.T83 Try.T84 Try.T85 Try.T86 Try.T88 Try.T89 Try.T90 Try.T91 Try.T92 Try.T93 Try.T94 Try.T95 Try.T96 Try.T97 Try.T98 Try.T99 Try.T100 Try.T101 Try.T102 Try.T103 Try.T104 Try.T105 Try.T106 Try.T107 Try.T108 Try.T109 Try.T110 Try.T111 Try.T112 Try.T113 Try.T116 Try.T119 Try.T120 Try.T123 Try.T124
attribute [local irreducible] Go.Av.CallK Go.Av.CallE Go.Av.CallQ Go.Av.CallF Go.Av.CallR Go.Av.CallH Go.Av.Con
theorem rst_len (l : List Zn) (q : List UInt8) : (rst l q).length ≤ l.length := (rst_sub l q).length_le
theorem putZ_len (l : List Zn) (z : Zn) : (putZ l z).length ≤ l.length + 1 := by
  have := rst_len (l.drop (att l z.p)) z.p
  have h2 := att_le l z.p
  unfold putZ
  simp at this ⊢
  omega
theorem goneZ_len (l : List Zn) (p : List UInt8) : (gone l p).length ≤ l.length := List.length_filter_le _ _
end Go.Proofs.Ytegoihognjpcjaa


/- States: what a transaction does. -/
namespace Go.Proofs.Ytegoihognjpcjaa
set_option linter.unusedSimpArgs false
set_option linter.unusedVariables false
open Go Go.Av
attribute [local simp] Try.T1 Try.T2 Try.T3 Try.T4 Try.T5 Try.T9 Try.T12 Try.T15 Try.T16 Try.T17 Try.T21 Try.T22 Try.T23 Try.T25 Try.T26 Try.T28 Try.T30 Try.T31 Try.T33 Try.T34 Try.T35 Try.T36 Try.T37 Try.T38 Try.T40 Try.T42 Try.T43 Try.T44 Try.T45 Try.T46 Try.T48 Try.T49 Try.T50 Try.T51 Try.T52 Try.T53 Try.T54 Try.T55 Try.T56 Try.T57 Try.T58 Try.T59 Try.T60 Try.T61 Try.T62 Try.T64 Try.T66 Try.T67 Try.T68 Try.T69 Try.T70 Try.T71 Try.T72 Try.T73 Try.T74 Try.T75 Try.T76 Try.T77 Try.T78 Try.T80 Try.T81 Try.T82 Try.T83 Try.T84 Try.T85 Try.T86 Try.T88 Try.T89 Try.T90 Try.T91 Try.T92 Try.T93 Try.T94 Try.T95 Try.T96 Try.T97 Try.T98 Try.T99 Try.T100 Try.T101 Try.T102 Try.T103 Try.T104 Try.T105 Try.T106 Try.T107 Try.T108 Try.T109 Try.T110 Try.T111 Try.T112 Try.T113 Try.T116 Try.T119 Try.T120 Try.T123 Try.T124
attribute [local irreducible] Go.Av.CallK Go.Av.CallE Go.Av.CallQ Go.Av.CallF Go.Av.CallR Go.Av.CallH Go.Av.Con
theorem ints_zis (l : List Int) : ints l = zis l := rfl
def stepP (s : Sv) (p : Pt) : Sv :=
  if p.k = 1 then { s with ns := putZ s.ns p.z } else if p.k = 2 then { s with ns := gone s.ns p.z.p }
  else if p.k = 3 then { s with ss := opnL s.ss p.s, nx := opnN s.nx p.s } else if p.k = 4 then { s with ss := but s.ss p.s }
  else if p.k = 5 then { s with c := p.c } else s
def runP (s : Sv) (l : List Pt) : Sv := l.foldl stepP s
theorem runP_snoc (s : Sv) {l : List Pt} {k : Nat} (h : k < l.length) : runP s (l.take (k + 1)) = stepP (runP s (l.take k)) l[k] := by
  rw [List.take_succ_eq_append_getElem h, runP, List.foldl_append]; rfl
def lateS (s : Sv) (e n : Int) : Sv := { s with ae := (lastZ [⟨s.ae, s.an⟩, ⟨e, n⟩]).e, an := (lastZ [⟨s.ae, s.an⟩, ⟨e, n⟩]).n }
def doS (s : Sv) (t : Tx) : Sv := lateS (runP s t.ps) t.e t.n
theorem insI_len (l : List Int) (s : Int) : (insI l s).length ≤ l.length + 1 := by
  have h := but_len l s
  unfold insI
  simp
  omega
theorem opnL_len (l : List Int) (s : Int) : (opnL l s).length ≤ l.length + 1 := by
  unfold opnL
  split
  · exact insI_len l s
  · omega
theorem stepP_len (s : Sv) (p : Pt) : (stepP s p).ns.length ≤ s.ns.length + 1 ∧ (stepP s p).ss.length ≤ s.ss.length + 1 := by
  have h1 := putZ_len s.ns p.z
  have h2 := goneZ_len s.ns p.z.p
  have h3 := opnL_len s.ss p.s
  have h4 := but_len s.ss p.s
  unfold stepP
  split
  · exact ⟨h1, by simp⟩
  split
  · exact ⟨by show (gone s.ns p.z.p).length ≤ _; omega, by simp⟩
  split
  · exact ⟨by simp, h3⟩
  split
  · exact ⟨by simp, by show (but s.ss p.s).length ≤ _; omega⟩
  split <;> exact ⟨by simp, by simp⟩
theorem runP_len : ∀ (l : List Pt) (s : Sv), (runP s l).ns.length ≤ s.ns.length + l.length ∧ (runP s l).ss.length ≤ s.ss.length + l.length
  | [], s => ⟨by simp [runP], by simp [runP]⟩
  | p :: l, s => by
    have h := stepP_len s p
    have ih := runP_len l (stepP s p)
    have e : runP s (p :: l) = runP (stepP s p) l := rfl
    rw [e]
    simp only [List.length_cons]
    omega
theorem runP_take (s : Sv) (l : List Pt) (k : Nat) : (runP s (l.take k)).ns.length ≤ s.ns.length + l.length ∧ (runP s (l.take k)).ss.length ≤ s.ss.length + l.length := by
  have h := runP_len (l.take k) s
  have : (l.take k).length ≤ l.length := by simp; omega
  omega
def okC (c : Cf) : Prop := c.ms.length ≤ 4398046510976
theorem stepP_c (s : Sv) (p : Pt) (hs : okC s.c) (hp : okC p.c) : okC (stepP s p).c := by
  unfold stepP
  split
  · exact hs
  split
  · exact hs
  split
  · exact hs
  split
  · exact hs
  split
  · exact hp
  · exact hs
theorem runP_c : ∀ (l : List Pt) (s : Sv), okC s.c → (∀ p ∈ l, okC p.c) → okC (runP s l).c
  | [], s, hs, _ => hs
  | p :: l, s, hs, hp => runP_c l (stepP s p) (stepP_c s p hs (hp p (by simp))) fun q hq => hp q (by simp [hq])
def sbox (s : Sv) : Blk := .box 30 [.p (.sl 5 (zns s.ns)), .row 1025, .p (I s.nx), .p (I s.c.ep), .p (I s.c.n), .p (I s.c.kind), .p (.sl 4 (mbs s.c.ms)), .p (I s.ae), .p (I s.an)]
set_option maxHeartbeats 4000000 in
theorem do_con (s : Sv) (t : Tx) (h1 : s.ns.length + t.ps.length ≤ 1000000) (h2 : s.ss.length + t.ps.length ≤ 1000000) (hc : ∀ p ∈ t.ps, okC p.c) :
    Con Try.prog 58 [.ptr 1024 0, .p (.agg t.cells)] [sbox s, .row 3 1 (zis s.ss)] (.ret (.tup []) [] [sbox (doS s t), .row 3 1 (zis (doS s t).ss)]) := by
  unfold Tx.cells sbox
  refine wBodyG Try.tab Try.mixed Try.func58 rfl rfl Try.ntmps58 (by simp) (by simp) fun Q hr hn hp => ?_
  repeat' first | (refine hK _ ?_; clear hK) | (refine hK _ _ ?_; clear hK) | (clear hK; refine hK _ ?_; clear hK) | (clear hK; clear hK; refine hK _ ?_; clear hK) | (clear hK; clear hK; clear hK; refine hK _ ?_; clear hK) | (clear hK; clear hK; clear hK; clear hK; refine hK _ ?_; clear hK) | (refine wSeq fun K hK => ?_) | ((first | refine wReg ?_ | refine wDrwQ rfl (by kernel_rfl) ?_ | refine wDrwI ?_ | refine wDrw (by kernel_rfl) ?_); simp only [List.map_cons, List.map_nil, strip]) | ((first | refine wIs fun K hK => ?_ | refine wOs fun K hK => ?_ | refine wQs fun K hK => ?_ | refine CallK_plain ?_ | refine CallQ_plain ?_ | refine CallR_plain ?_ | refine wCond ?_); simp) | (refine wIn ?_; refine And.intro (by kernel_rfl) ?_; try simp only [thenA_n]) | (first | refine wBlock ?_ | refine wScope ?_) | ((first | refine wRet ?_ | refine wExit ?_ | refine wSkip ?_); try simp) | ((first | refine wLabel ?_ | refine wOn ?_ | refine wQn ?_); try simp only [thenA_n])
  refine wLoop (fun N st => ∃ k, k + N = t.ps.length ∧ st.s 0 = .ptr 1024 0 ∧ st.s 7 = .p (.sl 11 (pts t.ps)) ∧ st.s 8 = .p (I t.ps.length) ∧ st.s 9 = .p (I k) ∧ st.s 3 = .ptr 3 0 ∧ st.b 3 = some (.box 40 [.p (I t.e), .p (I t.n), .p (I t.s), .p (I t.x), .p (I t.r), .p (I t.b), .p (SB t.m), .p (.sl 11 (pts t.ps))]) ∧ st.b 1024 = some (sbox (runP s (t.ps.take k))) ∧ st.b 1025 = some (.row 3 1 (zis (runP s (t.ps.take k)).ss))) t.ps.length ⟨0, by simp [runP, sbox]⟩ fun K N st hL ⟨k, hk, g0, g7, g8, g9, g3, b3, b0, b1⟩ => ?_
  have hlen := runP_take s t.ps k
  by_cases hlt : k < t.ps.length
  · have hw := wrapX k _ hlt (by omega)
    have he := pts_get hlt
    have hs := runP_snoc s hlt
    have hpc := hc t.ps[k] (List.getElem_mem hlt)
    generalize runP s (t.ps.take k) = q at hs hlen b0 b1
    unfold sbox at b0
    unfold okC at hpc
    by_cases k1 : t.ps[k].k = 1
    · have c := put_con q.ns t.ps[k].z (by omega)
      unfold Zn.c at c
      have hs' : stepP q t.ps[k] = { q with ns := putZ q.ns t.ps[k].z } := by unfold stepP; rw [if_pos k1]
      generalize putZ q.ns t.ps[k].z = n1 at c hs'
      repeat' first | (refine hK _ ?_; clear hK) | (refine hK _ _ ?_; clear hK) | (clear hK; refine hK _ ?_; clear hK) | (clear hK; clear hK; refine hK _ ?_; clear hK) | (clear hK; clear hK; clear hK; refine hK _ ?_; clear hK) | (clear hK; clear hK; clear hK; clear hK; refine hK _ ?_; clear hK) | (refine wSeq fun K hK => ?_) | ((first | refine wReg ?_ | refine wDrwQ rfl (by kernel_rfl) ?_ | refine wDrwI ?_ | refine wDrw (by kernel_rfl) ?_); simp only [List.map_cons, List.map_nil, strip]) | ((first | refine wIs fun K hK => ?_ | refine wOs fun K hK => ?_ | refine wQs fun K hK => ?_ | refine CallK_plain ?_ | refine CallQ_plain ?_ | refine CallR_plain ?_ | refine wCond ?_); simp [g0, g7, g8, g9, g3, b3, b0, b1, hlt, hw, he, k1]) | (refine wIn ?_; refine And.intro (by kernel_rfl) ?_; try simp only [thenA_n]) | (first | refine wBlock ?_ | refine wScope ?_) | ((first | refine wRet ?_ | refine wExit ?_ | refine wSkip ?_); try simp) | ((first | refine wLabel ?_ | refine wOn ?_ | refine wQn ?_); try simp only [thenA_n]) | (refine CallE.pure (c) rfl ?_) | (refine CallE.lent (c) rfl ?_) | (refine CallF.pure (c) rfl ?_) | (refine CallF.lent (c) rfl ?_) | (refine CallE.own (c) ?_) | (refine CallH.pure (c) rfl ?_) | (refine CallH.lent (c) rfl ?_) | (refine CallH.own (c) ?_)
      refine hL _ (N - 1) (by omega) ⟨k + 1, by omega, ?_⟩
      simp [g0, g7, g8, g9, g3, b3, b0, b1, hw, hs, hs', sbox]
    by_cases k2 : t.ps[k].k = 2
    · have c := gone_con q.ns t.ps[k].z.p (by omega)
      have hs' : stepP q t.ps[k] = { q with ns := gone q.ns t.ps[k].z.p } := by unfold stepP; rw [if_neg k1, if_pos k2]
      generalize gone q.ns t.ps[k].z.p = n1 at c hs'
      repeat' first | (refine hK _ ?_; clear hK) | (refine hK _ _ ?_; clear hK) | (clear hK; refine hK _ ?_; clear hK) | (clear hK; clear hK; refine hK _ ?_; clear hK) | (clear hK; clear hK; clear hK; refine hK _ ?_; clear hK) | (clear hK; clear hK; clear hK; clear hK; refine hK _ ?_; clear hK) | (refine wSeq fun K hK => ?_) | ((first | refine wReg ?_ | refine wDrwQ rfl (by kernel_rfl) ?_ | refine wDrwI ?_ | refine wDrw (by kernel_rfl) ?_); simp only [List.map_cons, List.map_nil, strip]) | ((first | refine wIs fun K hK => ?_ | refine wOs fun K hK => ?_ | refine wQs fun K hK => ?_ | refine CallK_plain ?_ | refine CallQ_plain ?_ | refine CallR_plain ?_ | refine wCond ?_); simp [g0, g7, g8, g9, g3, b3, b0, b1, hlt, hw, he, k1, k2]) | (refine wIn ?_; refine And.intro (by kernel_rfl) ?_; try simp only [thenA_n]) | (first | refine wBlock ?_ | refine wScope ?_) | ((first | refine wRet ?_ | refine wExit ?_ | refine wSkip ?_); try simp) | ((first | refine wLabel ?_ | refine wOn ?_ | refine wQn ?_); try simp only [thenA_n]) | (refine CallE.pure (c) rfl ?_) | (refine CallE.lent (c) rfl ?_) | (refine CallF.pure (c) rfl ?_) | (refine CallF.lent (c) rfl ?_) | (refine CallE.own (c) ?_) | (refine CallH.pure (c) rfl ?_) | (refine CallH.lent (c) rfl ?_) | (refine CallH.own (c) ?_)
      refine hL _ (N - 1) (by omega) ⟨k + 1, by omega, ?_⟩
      simp [g0, g7, g8, g9, g3, b3, b0, b1, hw, hs, hs', sbox]
    by_cases k3 : t.ps[k].k = 3
    · have c := open_con (zns q.ns) (mbs q.c.ms) q.ss q.nx q.c.ep q.c.n q.c.kind q.ae q.an t.ps[k].s (by omega)
      have hs' : stepP q t.ps[k] = { q with ss := opnL q.ss t.ps[k].s, nx := opnN q.nx t.ps[k].s } := by unfold stepP; rw [if_neg k1, if_neg k2, if_pos k3]
      generalize opnL q.ss t.ps[k].s = n1 at c hs'
      generalize opnN q.nx t.ps[k].s = n2 at c hs'
      repeat' first | (refine CallK_gen [1024, 1025] c (by decide) (by decide) (by simp [blksOf, inN, pos, renB, ren0, b0, b1]) (by simp [argsG, argG, ren0, inN, pos, renCs, renC]) ⟨[], by simp, by simp, ?_⟩; simp [lv, ouN, kpI, kpR, pos, ren, ren0, renB, renC, renCs, g0, g7, g8, g3, b3, g9]) | (refine hK _ ?_; clear hK) | (refine hK _ _ ?_; clear hK) | (clear hK; refine hK _ ?_; clear hK) | (clear hK; clear hK; refine hK _ ?_; clear hK) | (clear hK; clear hK; clear hK; refine hK _ ?_; clear hK) | (clear hK; clear hK; clear hK; clear hK; refine hK _ ?_; clear hK) | (refine wSeq fun K hK => ?_) | ((first | refine wReg ?_ | refine wDrwQ rfl (by kernel_rfl) ?_ | refine wDrwI ?_ | refine wDrw (by kernel_rfl) ?_); simp only [List.map_cons, List.map_nil, strip]) | ((first | refine wIs fun K hK => ?_ | refine wOs fun K hK => ?_ | refine wQs fun K hK => ?_ | refine CallK_plain ?_ | refine CallQ_plain ?_ | refine CallR_plain ?_ | refine wCond ?_); simp [g0, g7, g8, g9, g3, b3, b0, b1, hlt, hw, he, k1, k2, k3, lv, ouN, kpI, kpR, pos, ren, ren0, renB, renC, renCs]) | (refine wIn ?_; refine And.intro (by kernel_rfl) ?_; try simp only [thenA_n]) | (first | refine wBlock ?_ | refine wScope ?_) | ((first | refine wRet ?_ | refine wExit ?_ | refine wSkip ?_); try simp) | ((first | refine wLabel ?_ | refine wOn ?_ | refine wQn ?_); try simp only [thenA_n])
      refine hL _ (N - 1) (by omega) ⟨k + 1, by omega, ?_⟩
      simp [g0, g7, g8, g9, g3, b3, b0, b1, hw, hs, hs', sbox, lv, ouN, kpI, kpR, pos, ren, ren0]
    by_cases k4 : t.ps[k].k = 4
    · have c := without_con q.ss t.ps[k].s (by omega)
      have hs' : stepP q t.ps[k] = { q with ss := but q.ss t.ps[k].s } := by unfold stepP; rw [if_neg k1, if_neg k2, if_neg k3, if_pos k4]
      generalize but q.ss t.ps[k].s = n1 at c hs'
      repeat' first | (refine CallR_row 1025 c (by simp [b1]) (by simp) (by simp [argsG, argG, ren0, inN, pos, renCs, renC]) ?_; simp [g0, g7, g8, g3, b3, g9, b0, b1]) | (refine hK _ ?_; clear hK) | (refine hK _ _ ?_; clear hK) | (clear hK; refine hK _ ?_; clear hK) | (clear hK; clear hK; refine hK _ ?_; clear hK) | (clear hK; clear hK; clear hK; refine hK _ ?_; clear hK) | (clear hK; clear hK; clear hK; clear hK; refine hK _ ?_; clear hK) | (refine wSeq fun K hK => ?_) | ((first | refine wReg ?_ | refine wDrwQ rfl (by kernel_rfl) ?_ | refine wDrwI ?_ | refine wDrw (by kernel_rfl) ?_); simp only [List.map_cons, List.map_nil, strip]) | ((first | refine wIs fun K hK => ?_ | refine wOs fun K hK => ?_ | refine wQs fun K hK => ?_ | refine CallK_plain ?_ | refine CallQ_plain ?_ | refine CallR_plain ?_ | refine wCond ?_); simp [g0, g7, g8, g9, g3, b3, b0, b1, hlt, hw, he, k1, k2, k3, k4]) | (refine wIn ?_; refine And.intro (by kernel_rfl) ?_; try simp only [thenA_n]) | (first | refine wBlock ?_ | refine wScope ?_) | ((first | refine wRet ?_ | refine wExit ?_ | refine wSkip ?_); try simp) | ((first | refine wLabel ?_ | refine wOn ?_ | refine wQn ?_); try simp only [thenA_n])
      refine hL _ (N - 1) (by omega) ⟨k + 1, by omega, ?_⟩
      simp [g0, g7, g8, g9, g3, b3, b0, b1, hw, hs, hs', sbox]
    by_cases k5 : t.ps[k].k = 5
    · have c := ownConfig_con t.ps[k].c.ep t.ps[k].c.n t.ps[k].c.kind (mbs t.ps[k].c.ms) (by rw [mbs_len]; exact hpc)
      have hs' : stepP q t.ps[k] = { q with c := t.ps[k].c } := by unfold stepP; rw [if_neg k1, if_neg k2, if_neg k3, if_neg k4, if_pos k5]
      repeat' first | (refine hK _ ?_; clear hK) | (refine hK _ _ ?_; clear hK) | (clear hK; refine hK _ ?_; clear hK) | (clear hK; clear hK; refine hK _ ?_; clear hK) | (clear hK; clear hK; clear hK; refine hK _ ?_; clear hK) | (clear hK; clear hK; clear hK; clear hK; refine hK _ ?_; clear hK) | (refine wSeq fun K hK => ?_) | ((first | refine wReg ?_ | refine wDrwQ rfl (by kernel_rfl) ?_ | refine wDrwI ?_ | refine wDrw (by kernel_rfl) ?_); simp only [List.map_cons, List.map_nil, strip]) | ((first | refine wIs fun K hK => ?_ | refine wOs fun K hK => ?_ | refine wQs fun K hK => ?_ | refine CallK_plain ?_ | refine CallQ_plain ?_ | refine CallR_plain ?_ | refine wCond ?_); simp [g0, g7, g8, g9, g3, b3, b0, b1, hlt, hw, he, k1, k2, k3, k4, k5]) | (refine wIn ?_; refine And.intro (by kernel_rfl) ?_; try simp only [thenA_n]) | (first | refine wBlock ?_ | refine wScope ?_) | ((first | refine wRet ?_ | refine wExit ?_ | refine wSkip ?_); try simp) | ((first | refine wLabel ?_ | refine wOn ?_ | refine wQn ?_); try simp only [thenA_n]) | (refine CallE.pure (c) rfl ?_) | (refine CallE.lent (c) rfl ?_) | (refine CallF.pure (c) rfl ?_) | (refine CallF.lent (c) rfl ?_) | (refine CallE.own (c) ?_) | (refine CallH.pure (c) rfl ?_) | (refine CallH.lent (c) rfl ?_) | (refine CallH.own (c) ?_)
      refine hL _ (N - 1) (by omega) ⟨k + 1, by omega, ?_⟩
      simp [g0, g7, g8, g9, g3, b3, b0, b1, hw, hs, hs', sbox]
    · have hs' : stepP q t.ps[k] = q := by unfold stepP; rw [if_neg k1, if_neg k2, if_neg k3, if_neg k4, if_neg k5]
      repeat' first | (refine hK _ ?_; clear hK) | (refine hK _ _ ?_; clear hK) | (clear hK; refine hK _ ?_; clear hK) | (clear hK; clear hK; refine hK _ ?_; clear hK) | (clear hK; clear hK; clear hK; refine hK _ ?_; clear hK) | (clear hK; clear hK; clear hK; clear hK; refine hK _ ?_; clear hK) | (refine wSeq fun K hK => ?_) | ((first | refine wReg ?_ | refine wDrwQ rfl (by kernel_rfl) ?_ | refine wDrwI ?_ | refine wDrw (by kernel_rfl) ?_); simp only [List.map_cons, List.map_nil, strip]) | ((first | refine wIs fun K hK => ?_ | refine wOs fun K hK => ?_ | refine wQs fun K hK => ?_ | refine CallK_plain ?_ | refine CallQ_plain ?_ | refine CallR_plain ?_ | refine wCond ?_); simp [g0, g7, g8, g9, g3, b3, b0, b1, hlt, hw, he, k1, k2, k3, k4, k5]) | (refine wIn ?_; refine And.intro (by kernel_rfl) ?_; try simp only [thenA_n]) | (first | refine wBlock ?_ | refine wScope ?_) | ((first | refine wRet ?_ | refine wExit ?_ | refine wSkip ?_); try simp) | ((first | refine wLabel ?_ | refine wOn ?_ | refine wQn ?_); try simp only [thenA_n])
      refine hL _ (N - 1) (by omega) ⟨k + 1, by omega, ?_⟩
      simp [g0, g7, g8, g9, g3, b3, b0, b1, hw, hs, hs', sbox]
  · rw [List.take_of_length_le (by omega)] at b0 b1
    unfold sbox doS lateS at hr
    unfold sbox doS lateS at hn
    generalize runP s t.ps = q at hr hn b0 b1
    unfold sbox at b0
    have c := last_con [⟨q.ae, q.an⟩, ⟨t.e, t.n⟩]
    simp only [zxs, List.map_cons, List.map_nil] at c
    generalize lastZ [⟨q.ae, q.an⟩, ⟨t.e, t.n⟩] = z at c hr hn
    repeat' first | (refine hK _ ?_; clear hK) | (refine hK _ _ ?_; clear hK) | (clear hK; refine hK _ ?_; clear hK) | (clear hK; clear hK; refine hK _ ?_; clear hK) | (clear hK; clear hK; clear hK; refine hK _ ?_; clear hK) | (clear hK; clear hK; clear hK; clear hK; refine hK _ ?_; clear hK) | (refine wSeq fun K hK => ?_) | ((first | refine wReg ?_ | refine wDrwQ rfl (by kernel_rfl) ?_ | refine wDrwI ?_ | refine wDrw (by kernel_rfl) ?_); simp only [List.map_cons, List.map_nil, strip]) | ((first | refine wIs fun K hK => ?_ | refine wOs fun K hK => ?_ | refine wQs fun K hK => ?_ | refine CallK_plain ?_ | refine CallQ_plain ?_ | refine CallR_plain ?_ | refine wCond ?_); simp [g0, g7, g8, g9, g3, b3, b0, b1, hlt]) | (refine wIn ?_; refine And.intro (by kernel_rfl) ?_; try simp only [thenA_n]) | (first | refine wBlock ?_ | refine wScope ?_) | ((first | refine wRet ?_ | refine wExit ?_ | refine wSkip ?_); try simp) | ((first | refine wLabel ?_ | refine wOn ?_ | refine wQn ?_); try simp only [thenA_n]) | (refine CallE.pure (c) rfl ?_) | (refine CallE.lent (c) rfl ?_) | (refine CallF.pure (c) rfl ?_) | (refine CallF.lent (c) rfl ?_) | (refine CallE.own (c) ?_) | (refine CallH.pure (c) rfl ?_) | (refine CallH.lent (c) rfl ?_) | (refine CallH.own (c) ?_)
    all_goals first | apply hr | apply hn
    all_goals refine ⟨[], by simp, by simp, ?_⟩
    all_goals simp [Try.f58, outR, outB, renB, gaN, b0, b1]
end Go.Proofs.Ytegoihognjpcjaa


/- States: transactions, one by one and at once. -/
namespace Go.Proofs.Ytegoihognjpcjaa
set_option linter.unusedSimpArgs false
set_option linter.unusedVariables false
open Go Go.Av
attribute [local simp] Try.T1 Try.T2 Try.T3 Try.T4 Try.T5 Try.T9 Try.T12 Try.T15 Try.T16 Try.T17 Try.T21 Try.T22 Try.T23 Try.T25 Try.T26 Try.T28 Try.T30 Try.T31 Try.T33 Try.T34 Try.T35 Try.T36 Try.T37 Try.T38 Try.T40 Try.T42 Try.T43 Try.T44 Try.T45 Try.T46 Try.T48 Try.T49 Try.T50 Try.T51 Try.T52 Try.T53 Try.T54 Try.T55 Try.T56 Try.T57 Try.T58 Try.T59 Try.T60 Try.T61 Try.T62 Try.T64 Try.T66 Try.T67 Try.T68 Try.T69 Try.T70 Try.T71 Try.T72 Try.T73 Try.T74 Try.T75 Try.T76 Try.T77 Try.T78 Try.T80 Try.T81 Try.T82 Try.T83 Try.T84 Try.T85 Try.T86 Try.T88 Try.T89 Try.T90 Try.T91 Try.T92 Try.T93 Try.T94 Try.T95 Try.T96 Try.T97 Try.T98 Try.T99 Try.T100 Try.T101 Try.T102 Try.T103 Try.T104 Try.T105 Try.T106 Try.T107 Try.T108 Try.T109 Try.T110 Try.T111 Try.T112 Try.T113 Try.T116 Try.T119 Try.T120 Try.T123 Try.T124
attribute [local irreducible] Go.Av.CallK Go.Av.CallE Go.Av.CallQ Go.Av.CallF Go.Av.CallR Go.Av.CallH Go.Av.Con
/-- What a call to do must be handed. -/
structure Fits (s : Sv) (n : Nat) : Prop where
  ns : s.ns.length + n ≤ 1000000
  ss : s.ss.length + n ≤ 1000000
  c : okC s.c
def okT (t : Tx) : Prop := ∀ p ∈ t.ps, okC p.c
theorem doS_fits {s : Sv} {t : Tx} {n : Nat} (h : Fits s (t.ps.length + n)) (ht : okT t) : Fits (doS s t) n := by
  have h1 := runP_len t.ps s
  have h2 := runP_c t.ps s h.c ht
  refine ⟨?_, ?_, h2⟩
  · have := h.ns
    show (runP s t.ps).ns.length + n ≤ _
    omega
  · have := h.ss
    show (runP s t.ps).ss.length + n ≤ _
    omega
def allS (s : Sv) (l : List Tx) : Sv := l.foldl doS s
theorem allS_snoc (s : Sv) {l : List Tx} {k : Nat} (h : k < l.length) : allS s (l.take (k + 1)) = doS (allS s (l.take k)) l[k] := by
  rw [List.take_succ_eq_append_getElem h, allS, List.foldl_append]; rfl
def psum (l : List Tx) : Nat := (l.map fun t => t.ps.length).sum
theorem psum_cons (t : Tx) (l : List Tx) : psum (t :: l) = t.ps.length + psum l := by simp [psum]
theorem psum_drop {l : List Tx} {k : Nat} (h : k < l.length) : psum (l.drop k) = l[k].ps.length + psum (l.drop (k + 1)) := by
  rw [List.drop_eq_getElem_cons h, psum_cons]
theorem allS_fits : ∀ (l : List Tx) {s : Sv} {n : Nat}, Fits s (psum l + n) → (∀ t ∈ l, okT t) → Fits (allS s l) n
  | [], s, n, h, _ => by simpa [psum, allS] using h
  | t :: l, s, n, h, ht => by
    have h' : Fits s (t.ps.length + (psum l + n)) := by
      rw [psum_cons, Nat.add_assoc] at h; exact h
    exact allS_fits l (doS_fits h' (ht t (by simp))) fun t' h' => ht t' (by simp [h'])
theorem Fits.le {s : Sv} {n m : Nat} (h : Fits s n) (hm : m ≤ n) : Fits s m := ⟨by have := h.ns; omega, by have := h.ss; omega, h.c⟩
set_option maxHeartbeats 4000000 in
theorem all_con (s : Sv) (l : List Tx) (hs : Fits s (psum l)) (ht : ∀ t ∈ l, okT t) : ACon Try.prog 44 [.p (.agg s.cells), .p (.sl 8 (txns l))] (.p (.agg (allS s l).cells)) := by
  refine ACon.len ⟨Try.f44, Try.func44, rfl, rfl⟩ 1 _ _ rfl fun hlen => ?_
  simp only [txns_len] at hlen
  have c1 := ownState_con (zns s.ns) (zis s.ss) (mbs s.c.ms) s.nx s.c.ep s.c.n s.c.kind s.ae s.an (by have := hs.ns; simp; omega) (by have := hs.ss; simp; omega) (by rw [mbs_len]; exact hs.c)
  unfold Sv.cells
  simp only [ints_zis]
  refine wBody Try.tab Try.mixed Try.func44 rfl rfl Try.ntmps44 (by simp) (by simp) fun Q hr hn => ?_
  repeat' first | (refine CallK_gen [] c1 (by decide) (by decide) (by simp [blksOf]) (by simp [argsG, argG, ren0, inN, pos, renCs, renC, toP, toPF]) ⟨[500], by simp, by simp, ?_⟩; simp [lv, ouN, kpI, kpR, pos, ren, ren0, renB, renC, renCs, renF, renFs]) | (refine hK _ ?_; clear hK) | (refine hK _ _ ?_; clear hK) | (clear hK; refine hK _ ?_; clear hK) | (clear hK; clear hK; refine hK _ ?_; clear hK) | (clear hK; clear hK; clear hK; refine hK _ ?_; clear hK) | (clear hK; clear hK; clear hK; clear hK; refine hK _ ?_; clear hK) | (refine wSeq fun K hK => ?_) | ((first | refine wReg ?_ | refine wDrwQ rfl (by kernel_rfl) ?_ | refine wDrwI ?_ | refine wDrw (by kernel_rfl) ?_); simp only [List.map_cons, List.map_nil, strip]) | ((first | refine wIs fun K hK => ?_ | refine wOs fun K hK => ?_ | refine wQs fun K hK => ?_ | refine CallK_plain ?_ | refine CallQ_plain ?_ | refine CallR_plain ?_ | refine wCond ?_); simp [lv, ouN, kpI, kpR, pos, ren, ren0, renB, renC, renCs, renF, renFs]) | (refine wIn ?_; refine And.intro (by kernel_rfl) ?_; try simp only [thenA_n]) | (first | refine wBlock ?_ | refine wScope ?_) | ((first | refine wRet ?_ | refine wExit ?_ | refine wSkip ?_); try simp) | ((first | refine wLabel ?_ | refine wOn ?_ | refine wQn ?_); try simp only [thenA_n])
  refine wLoop (fun N st => ∃ k, k + N = l.length ∧ Fits (allS s (l.take k)) (psum (l.drop k)) ∧ st.s 2 = .ptr 2 0 ∧ st.s 4 = .ptr 4 0 ∧ st.s 9 = .p (.sl 8 (txns l)) ∧ st.s 10 = .p (I l.length) ∧ st.s 11 = .p (I k) ∧ st.b 4 = some (.box 30 [.nil 5, .nil 1, .p (I 0), .p (I 0), .p (I 0), .p (I 0), .nil 4, .p (I 0), .p (I 0)]) ∧ st.b 2 = some (.box 30 [.p (.sl 5 (zns (allS s (l.take k)).ns)), .row 500, .p (I (allS s (l.take k)).nx), .p (I (allS s (l.take k)).c.ep), .p (I (allS s (l.take k)).c.n), .p (I (allS s (l.take k)).c.kind), .p (.sl 4 (mbs (allS s (l.take k)).c.ms)), .p (I (allS s (l.take k)).ae), .p (I (allS s (l.take k)).an)]) ∧ st.b 500 = some (.row 3 1 (zis (allS s (l.take k)).ss))) l.length ⟨0, by simp [allS, lv, ouN, kpI, kpR, pos, ren, ren0, renB, renC, renCs, renF, renFs]; exact hs⟩ fun K N st hL ⟨k, hk, hf, g2, g4, g9, g10, g11, b4, b2, b500⟩ => ?_
  by_cases hlt : k < l.length
  · have hw := wrapX k _ hlt (by omega)
    have he := txns_get hlt
    have hsn := allS_snoc s hlt
    have hps := psum_drop hlt
    have htk := ht l[k] (List.getElem_mem hlt)
    rw [hps] at hf
    have hf2 := doS_fits hf htk
    rw [← hsn] at hf2
    generalize allS s (l.take k) = q at hsn hf b2 b500
    have c2 := do_con q l[k] (by have := hf.ns; omega) (by have := hf.ss; omega) htk
    rw [← hsn] at c2
    unfold sbox Tx.cells at c2
    generalize hr' : allS s (l.take (k + 1)) = r at c2 hf2
    repeat' first | (refine CallK_gen [2, 500] c2 (by decide) (by decide) (by simp [blksOf, inN, pos, renB, renC, renCs, ren0, lv, ouN, kpI, kpR, b2, b500]) (by simp [argsG, argG, ren0, inN, pos, renCs, renC]) ⟨[], by simp, by simp, ?_⟩; simp [lv, ouN, kpI, kpR, pos, ren, ren0, renB, renC, renCs, renF, renFs, g2, g4, g9, g10, g11, b4, b2, b500]) | (refine hK _ ?_; clear hK) | (refine hK _ _ ?_; clear hK) | (clear hK; refine hK _ ?_; clear hK) | (clear hK; clear hK; refine hK _ ?_; clear hK) | (clear hK; clear hK; clear hK; refine hK _ ?_; clear hK) | (clear hK; clear hK; clear hK; clear hK; refine hK _ ?_; clear hK) | (refine wSeq fun K hK => ?_) | ((first | refine wReg ?_ | refine wDrwQ rfl (by kernel_rfl) ?_ | refine wDrwI ?_ | refine wDrw (by kernel_rfl) ?_); simp only [List.map_cons, List.map_nil, strip]) | ((first | refine wIs fun K hK => ?_ | refine wOs fun K hK => ?_ | refine wQs fun K hK => ?_ | refine CallK_plain ?_ | refine CallQ_plain ?_ | refine CallR_plain ?_ | refine wCond ?_); simp [lv, ouN, kpI, kpR, pos, ren, ren0, renB, renC, renCs, renF, renFs, g2, g4, g9, g10, g11, b4, b2, b500, hlt, hw, he]) | (refine wIn ?_; refine And.intro (by kernel_rfl) ?_; try simp only [thenA_n]) | (first | refine wBlock ?_ | refine wScope ?_) | ((first | refine wRet ?_ | refine wExit ?_ | refine wSkip ?_); try simp) | ((first | refine wLabel ?_ | refine wOn ?_ | refine wQn ?_); try simp only [thenA_n])
    refine hL _ (N - 1) (by omega) ⟨k + 1, by omega, ?_⟩
    simp [lv, ouN, kpI, kpR, pos, ren, ren0, renB, renC, renCs, renF, renFs, g2, g4, g9, g10, g11, b4, b2, b500, hw, hr']
    exact hf2
  · rw [List.take_of_length_le (by omega)] at b2 b500
    generalize allS s l = q at b2 b500 hr
    repeat' first | (refine hK _ ?_; clear hK) | (refine hK _ _ ?_; clear hK) | (clear hK; refine hK _ ?_; clear hK) | (clear hK; clear hK; refine hK _ ?_; clear hK) | (clear hK; clear hK; clear hK; refine hK _ ?_; clear hK) | (clear hK; clear hK; clear hK; clear hK; refine hK _ ?_; clear hK) | (refine wSeq fun K hK => ?_) | ((first | refine wReg ?_ | refine wDrwQ rfl (by kernel_rfl) ?_ | refine wDrwI ?_ | refine wDrw (by kernel_rfl) ?_); simp only [List.map_cons, List.map_nil, strip]) | ((first | refine wIs fun K hK => ?_ | refine wOs fun K hK => ?_ | refine wQs fun K hK => ?_ | refine CallK_plain ?_ | refine CallQ_plain ?_ | refine CallR_plain ?_ | refine wCond ?_); simp [g2, g4, g9, g10, g11, b4, b2, b500, hlt]) | (refine wIn ?_; refine And.intro (by kernel_rfl) ?_; try simp only [thenA_n]) | (first | refine wBlock ?_ | refine wScope ?_) | ((first | refine wRet ?_ | refine wExit ?_ | refine wSkip ?_); try simp) | ((first | refine wLabel ?_ | refine wOn ?_ | refine wQn ?_); try simp only [thenA_n])
    all_goals apply hr
    all_goals simp [Try.f44, g2, g4, b2, b4, b500]
end Go.Proofs.Ytegoihognjpcjaa


/- States: what the document does. -/
namespace Go.Proofs.Ytegoihognjpcjaa
set_option linter.unusedSimpArgs false
set_option linter.unusedVariables false
open Go Go.Av
attribute [local simp] Try.T1 Try.T2 Try.T3 Try.T4 Try.T5 Try.T9 Try.T12 Try.T15 Try.T16 Try.T17 Try.T21 Try.T22 Try.T23 Try.T25 Try.T26 Try.T28 Try.T30 Try.T31 Try.T33 Try.T34 Try.T35 Try.T36 Try.T37 Try.T38 Try.T40 Try.T42 Try.T43 Try.T44 Try.T45 Try.T46 Try.T48 Try.T49 Try.T50 Try.T51 Try.T52 Try.T53 Try.T54 Try.T55 Try.T56 Try.T57 Try.T58 Try.T59 Try.T60 Try.T61 Try.T62 Try.T64 Try.T66 Try.T67 Try.T68 Try.T69 Try.T70 Try.T71 Try.T72 Try.T73 Try.T74 Try.T75 Try.T76 Try.T77 Try.T78 Try.T80 Try.T81 Try.T82 Try.T83 Try.T84 Try.T85 Try.T86 Try.T88 Try.T89 Try.T90 Try.T91 Try.T92 Try.T93 Try.T94 Try.T95 Try.T96 Try.T97 Try.T98 Try.T99 Try.T100 Try.T101 Try.T102 Try.T103 Try.T104 Try.T105 Try.T106 Try.T107 Try.T108 Try.T109 Try.T110 Try.T111 Try.T112 Try.T113 Try.T116 Try.T119 Try.T120 Try.T123 Try.T124
attribute [local irreducible] Go.Av.CallK Go.Av.CallE Go.Av.CallQ Go.Av.CallF Go.Av.CallR Go.Av.CallH Go.Av.Con
theorem last2 (a b : Zx) : lastZ [a, b] = if 0 < zcmp b.e b.n a.e a.n then b else a := rfl
end Go.Proofs.Ytegoihognjpcjaa


/- Histories: what the document makes of them: copies, configs, those that are needed. -/
namespace Go.Proofs.Ytegoihognjpcjaa
set_option linter.unusedSimpArgs false
set_option linter.unusedVariables false
open Go Go.Av
attribute [local simp] Try.T1 Try.T2 Try.T3 Try.T4 Try.T5 Try.T9 Try.T12 Try.T15 Try.T16 Try.T17 Try.T21 Try.T22 Try.T23 Try.T25 Try.T26 Try.T28 Try.T30 Try.T31 Try.T33 Try.T34 Try.T35 Try.T36 Try.T37 Try.T38 Try.T40 Try.T42 Try.T43 Try.T44 Try.T45 Try.T46 Try.T48 Try.T49 Try.T50 Try.T51 Try.T52 Try.T53 Try.T54 Try.T55 Try.T56 Try.T57 Try.T58 Try.T59 Try.T60 Try.T61 Try.T62 Try.T64 Try.T66 Try.T67 Try.T68 Try.T69 Try.T70 Try.T71 Try.T72 Try.T73 Try.T74 Try.T75 Try.T76 Try.T77 Try.T78 Try.T80 Try.T81 Try.T82 Try.T83 Try.T84 Try.T85 Try.T86 Try.T88 Try.T89 Try.T90 Try.T91 Try.T92 Try.T93 Try.T94 Try.T95 Try.T96 Try.T97 Try.T98 Try.T99 Try.T100 Try.T101 Try.T102 Try.T103 Try.T104 Try.T105 Try.T106 Try.T107 Try.T108 Try.T109 Try.T110 Try.T111 Try.T112 Try.T113 Try.T116 Try.T119 Try.T120 Try.T123 Try.T124
attribute [local irreducible] Go.Av.CallK Go.Av.CallE Go.Av.CallQ Go.Av.CallF Go.Av.CallR Go.Av.CallH Go.Av.Con
theorem txns_snoc (l : List Tx) (t : Tx) : txns l ++ [[I t.e, I t.n, I t.s, I t.x, I t.r, I t.b, SB t.m, .sl 11 (pts t.ps)]] = txns (l ++ [t]) := by simp [txns, Tx.cells]
end Go.Proofs.Ytegoihognjpcjaa


/- Histories: copies, marks, the plan that makes one of another. -/
namespace Go.Proofs.Ytegoihognjpcjaa
set_option linter.unusedSimpArgs false
set_option linter.unusedVariables false
open Go Go.Av
attribute [local simp] Try.T1 Try.T2 Try.T3 Try.T4 Try.T5 Try.T9 Try.T12 Try.T15 Try.T16 Try.T17 Try.T21 Try.T22 Try.T23 Try.T25 Try.T26 Try.T28 Try.T30 Try.T31 Try.T33 Try.T34 Try.T35 Try.T36 Try.T37 Try.T38 Try.T40 Try.T42 Try.T43 Try.T44 Try.T45 Try.T46 Try.T48 Try.T49 Try.T50 Try.T51 Try.T52 Try.T53 Try.T54 Try.T55 Try.T56 Try.T57 Try.T58 Try.T59 Try.T60 Try.T61 Try.T62 Try.T64 Try.T66 Try.T67 Try.T68 Try.T69 Try.T70 Try.T71 Try.T72 Try.T73 Try.T74 Try.T75 Try.T76 Try.T77 Try.T78 Try.T80 Try.T81 Try.T82 Try.T83 Try.T84 Try.T85 Try.T86 Try.T88 Try.T89 Try.T90 Try.T91 Try.T92 Try.T93 Try.T94 Try.T95 Try.T96 Try.T97 Try.T98 Try.T99 Try.T100 Try.T101 Try.T102 Try.T103 Try.T104 Try.T105 Try.T106 Try.T107 Try.T108 Try.T109 Try.T110 Try.T111 Try.T112 Try.T113 Try.T116 Try.T119 Try.T120 Try.T123 Try.T124
attribute [local irreducible] Go.Av.CallK Go.Av.CallE Go.Av.CallQ Go.Av.CallF Go.Av.CallR Go.Av.CallH Go.Av.Con
theorem set_takeK {α : Type} (l : List α) (k : Nat) (x : α) (h : k < l.length) : (l.set k x).take (k + 1) = l.take k ++ [x] := by
  rw [List.take_succ_eq_append_getElem (by simpa using h), List.getElem_set_self, List.take_set_of_le (Nat.le_refl _)]
set_option maxHeartbeats 1000000 in
theorem ownPart_con (x : Pt) (hm : x.c.ms.length ≤ 1000) : ACon Try.prog 66 [.p (.agg x.cells)] (.p (.agg x.cells)) := by
  have c := ownConfig_con x.c.ep x.c.n x.c.kind (mbs x.c.ms) (by rw [mbs_len]; omega)
  unfold Pt.cells
  refine wBody Try.tab Try.mixed Try.func66 rfl rfl Try.ntmps66 (by simp) (by simp) fun Q hr hn => ?_
  repeat' first | (refine hK _ ?_; clear hK) | (refine hK _ _ ?_; clear hK) | (clear hK; refine hK _ ?_; clear hK) | (clear hK; clear hK; refine hK _ ?_; clear hK) | (clear hK; clear hK; clear hK; refine hK _ ?_; clear hK) | (clear hK; clear hK; clear hK; clear hK; refine hK _ ?_; clear hK) | (refine wSeq fun K hK => ?_) | ((first | refine wReg ?_ | refine wDrwQ rfl (by kernel_rfl) ?_ | refine wDrwI ?_ | refine wDrw (by kernel_rfl) ?_); simp only [List.map_cons, List.map_nil, strip]) | ((first | refine wIs fun K hK => ?_ | refine wOs fun K hK => ?_ | refine wQs fun K hK => ?_ | refine CallK_plain ?_ | refine CallQ_plain ?_ | refine CallR_plain ?_ | refine wCond ?_); simp) | (refine wIn ?_; refine And.intro (by kernel_rfl) ?_; try simp only [thenA_n]) | (first | refine wBlock ?_ | refine wScope ?_) | ((first | refine wRet ?_ | refine wExit ?_ | refine wSkip ?_); try simp) | ((first | refine wLabel ?_ | refine wOn ?_ | refine wQn ?_); try simp only [thenA_n]) | (refine CallE.pure (c) rfl ?_) | (refine CallE.lent (c) rfl ?_) | (refine CallF.pure (c) rfl ?_) | (refine CallF.lent (c) rfl ?_) | (refine CallE.own (c) ?_) | (refine CallH.pure (c) rfl ?_) | (refine CallH.lent (c) rfl ?_) | (refine CallH.own (c) ?_)
  all_goals apply hr
  all_goals simp [Try.f66]
theorem pts_set (l : List Pt) (k : Nat) (x : Pt) : (pts l).set k [I x.k, SB x.z.p, SB x.z.d, I x.z.v, I x.z.k, I x.z.o, I x.s, I x.c.ep, I x.c.n, I x.c.kind, .sl 4 (mbs x.c.ms)] = pts (l.set k x) := by simp [pts, Pt.cells, List.map_set]
def pt0 : Pt := ⟨0, ⟨[], [], 0, 0, 0⟩, 0, ⟨0, 0, 0, []⟩⟩
theorem pts_rep (n : Nat) : List.replicate n [I 0, SB [], SB [], I 0, I 0, I 0, I 0, I 0, I 0, I 0, .sl 4 []] = pts (List.replicate n pt0) := by simp [pts, pt0, Pt.cells, mbs]
set_option maxHeartbeats 1000000 in
theorem listPt_con (l : List Pt) (hl : l.length ≤ 1000) (hm : ∀ x ∈ l, x.c.ms.length ≤ 1000) : RCon 65 [.p (.sl 11 (pts l)), .p (.v (.func (.func 66) #[] #[]))] 66 11 (pts l) := by
  by_cases h0 : l.length = 0
  · obtain rfl := List.length_eq_zero_iff.1 h0
    refine wBodyR Try.tab Try.mixed Try.func65 rfl rfl Try.ntmps65 rfl (by simp) (by simp) fun Q hr hn => ?_
    repeat' first | (refine wRetG [.row 4 66 11] ?_) | (refine hK _ ?_; clear hK) | (refine hK _ _ ?_; clear hK) | (clear hK; refine hK _ ?_; clear hK) | (clear hK; clear hK; refine hK _ ?_; clear hK) | (clear hK; clear hK; clear hK; refine hK _ ?_; clear hK) | (clear hK; clear hK; clear hK; clear hK; refine hK _ ?_; clear hK) | (refine wSeq fun K hK => ?_) | ((first | refine wReg ?_ | refine wDrwQ rfl (by kernel_rfl) ?_ | refine wDrwI ?_ | refine wDrw (by kernel_rfl) ?_); simp only [List.map_cons, List.map_nil, strip]) | ((first | refine wIs fun K hK => ?_ | refine wOs fun K hK => ?_ | refine wQs fun K hK => ?_ | refine CallK_plain ?_ | refine CallQ_plain ?_ | refine CallR_plain ?_ | refine wCond ?_); simp [pts]) | (refine wIn ?_; refine And.intro (by kernel_rfl) ?_; try simp only [thenA_n]) | (first | refine wBlock ?_ | refine wScope ?_) | ((first | refine wRet ?_ | refine wExit ?_ | refine wSkip ?_); try simp) | ((first | refine wLabel ?_ | refine wOn ?_ | refine wQn ?_); try simp only [thenA_n])
    all_goals refine hr _ 4 (by simp) (by simp [pts]) (by omega)
  have h0' : ¬ (l.length : Int) = 0 := by omega
  refine wBodyR Try.tab Try.mixed Try.func65 rfl rfl Try.ntmps65 rfl (by simp) (by simp) fun Q hr hn => ?_
  repeat' first | (rw [if_pos ⟨by omega, by omega⟩]) | (refine hK _ ?_; clear hK) | (refine hK _ _ ?_; clear hK) | (clear hK; refine hK _ ?_; clear hK) | (clear hK; clear hK; refine hK _ ?_; clear hK) | (clear hK; clear hK; clear hK; refine hK _ ?_; clear hK) | (clear hK; clear hK; clear hK; clear hK; refine hK _ ?_; clear hK) | (refine wSeq fun K hK => ?_) | ((first | refine wReg ?_ | refine wDrwQ rfl (by kernel_rfl) ?_ | refine wDrwI ?_ | refine wDrw (by kernel_rfl) ?_); simp only [List.map_cons, List.map_nil, strip]) | ((first | refine wIs fun K hK => ?_ | refine wOs fun K hK => ?_ | refine wQs fun K hK => ?_ | refine CallK_plain ?_ | refine CallQ_plain ?_ | refine CallR_plain ?_ | refine wCond ?_); simp [h0, h0', pts_rep]) | (refine wIn ?_; refine And.intro (by kernel_rfl) ?_; try simp only [thenA_n]) | (first | refine wBlock ?_ | refine wScope ?_) | ((first | refine wRet ?_ | refine wExit ?_ | refine wSkip ?_); try simp) | ((first | refine wLabel ?_ | refine wOn ?_ | refine wQn ?_); try simp only [thenA_n])
  refine wLoop (fun N st => ∃ k zs, k + N = l.length ∧ zs.length = l.length ∧ zs.take k = l.take k ∧ st.s 1 = .p (.v (.func (.func 66) #[] #[])) ∧ st.s 5 = .row 13 ∧ st.s 14 = .p (.sl 11 (pts l)) ∧ st.s 15 = .p (I l.length) ∧ st.s 16 = .p (I k) ∧ st.b 13 = some (.row 66 11 (pts zs))) l.length ⟨0, List.replicate l.length pt0, by simp [pts_rep]⟩ fun K N st hL ⟨k, zs, hk, hz, hi, g1, g5, g14, g15, g16, b13⟩ => ?_
  by_cases hlt : k < l.length
  · have hlt' : (k : Int) < l.length := by omega
    have hltz : k < zs.length := by omega
    have hw := wrapS k _ hlt (by omega)
    have he := pts_get hlt
    have c := ownPart_con l[k] (hm _ (List.getElem_mem hlt))
    unfold Pt.cells at c
    have hs := pts_set zs k l[k]
    have hst := set_takeK zs k l[k] hltz
    rw [hi, ← List.take_succ_eq_append_getElem hlt] at hst
    repeat' first | (refine hK _ ?_; clear hK) | (refine hK _ _ ?_; clear hK) | (clear hK; refine hK _ ?_; clear hK) | (clear hK; clear hK; refine hK _ ?_; clear hK) | (clear hK; clear hK; clear hK; refine hK _ ?_; clear hK) | (clear hK; clear hK; clear hK; clear hK; refine hK _ ?_; clear hK) | (refine wSeq fun K hK => ?_) | ((first | refine wReg ?_ | refine wDrwQ rfl (by kernel_rfl) ?_ | refine wDrwI ?_ | refine wDrw (by kernel_rfl) ?_); simp only [List.map_cons, List.map_nil, strip]) | ((first | refine wIs fun K hK => ?_ | refine wOs fun K hK => ?_ | refine wQs fun K hK => ?_ | refine CallK_plain ?_ | refine CallQ_plain ?_ | refine CallR_plain ?_ | refine wCond ?_); simp [g1, g5, g14, g15, g16, b13, hlt, hlt', hltz, hw, he, hs, Pt.cells]) | (refine wIn ?_; refine And.intro (by kernel_rfl) ?_; try simp only [thenA_n]) | (first | refine wBlock ?_ | refine wScope ?_) | ((first | refine wRet ?_ | refine wExit ?_ | refine wSkip ?_); try simp) | ((first | refine wLabel ?_ | refine wOn ?_ | refine wQn ?_); try simp only [thenA_n]) | (refine CallE.pure (c) rfl ?_) | (refine CallE.lent (c) rfl ?_) | (refine CallF.pure (c) rfl ?_) | (refine CallF.lent (c) rfl ?_) | (refine CallE.own (c) ?_) | (refine CallH.pure (c) rfl ?_) | (refine CallH.lent (c) rfl ?_) | (refine CallH.own (c) ?_)
    refine hL _ (N - 1) (by omega) ⟨k + 1, zs.set k l[k], by omega, by simpa using hz, hst, ?_⟩
    simp [g1, g5, g14, g15, g16, b13, hw, hs]
  · have hlt' : ¬ (k : Int) < l.length := by omega
    rw [List.take_of_length_le (by omega), List.take_of_length_le (by omega)] at hi
    subst hi
    repeat' first | (refine hK _ ?_; clear hK) | (refine hK _ _ ?_; clear hK) | (clear hK; refine hK _ ?_; clear hK) | (clear hK; clear hK; refine hK _ ?_; clear hK) | (clear hK; clear hK; clear hK; refine hK _ ?_; clear hK) | (clear hK; clear hK; clear hK; clear hK; refine hK _ ?_; clear hK) | (refine wSeq fun K hK => ?_) | ((first | refine wReg ?_ | refine wDrwQ rfl (by kernel_rfl) ?_ | refine wDrwI ?_ | refine wDrw (by kernel_rfl) ?_); simp only [List.map_cons, List.map_nil, strip]) | ((first | refine wIs fun K hK => ?_ | refine wOs fun K hK => ?_ | refine wQs fun K hK => ?_ | refine CallK_plain ?_ | refine CallQ_plain ?_ | refine CallR_plain ?_ | refine wCond ?_); simp [g1, g5, g14, g15, g16, b13, hlt, hlt']) | (refine wIn ?_; refine And.intro (by kernel_rfl) ?_; try simp only [thenA_n]) | (first | refine wBlock ?_ | refine wScope ?_) | ((first | refine wRet ?_ | refine wExit ?_ | refine wSkip ?_); try simp) | ((first | refine wLabel ?_ | refine wOn ?_ | refine wQn ?_); try simp only [thenA_n])
    all_goals refine hr _ 13 (by simp [g5]) (by simp [b13]) (by omega)
theorem ownTxn_con (t : Tx) (hl : t.ps.length ≤ 1000) (hm : ∀ x ∈ t.ps, x.c.ms.length ≤ 1000) : ACon Try.prog 51 [.p (.agg t.cells)] (.p (.agg t.cells)) := by
  have c := listPt_con t.ps hl hm
  unfold Tx.cells
  refine wBody Try.tab Try.mixed Try.func51 rfl rfl Try.ntmps51 (by simp) (by simp) fun Q hr hn => ?_
  repeat' first | (refine hK _ ?_; clear hK) | (refine hK _ _ ?_; clear hK) | (clear hK; refine hK _ ?_; clear hK) | (clear hK; clear hK; refine hK _ ?_; clear hK) | (clear hK; clear hK; clear hK; refine hK _ ?_; clear hK) | (clear hK; clear hK; clear hK; clear hK; refine hK _ ?_; clear hK) | (refine wSeq fun K hK => ?_) | ((first | refine wReg ?_ | refine wDrwQ rfl (by kernel_rfl) ?_ | refine wDrwI ?_ | refine wDrw (by kernel_rfl) ?_); simp only [List.map_cons, List.map_nil, strip]) | ((first | refine wIs fun K hK => ?_ | refine wOs fun K hK => ?_ | refine wQs fun K hK => ?_ | refine CallK_plain ?_ | refine CallQ_plain ?_ | refine CallR_plain ?_ | refine wCond ?_); simp) | (refine wIn ?_; refine And.intro (by kernel_rfl) ?_; try simp only [thenA_n]) | (first | refine wBlock ?_ | refine wScope ?_) | ((first | refine wRet ?_ | refine wExit ?_ | refine wSkip ?_); try simp) | ((first | refine wLabel ?_ | refine wOn ?_ | refine wQn ?_); try simp only [thenA_n]) | (refine CallE.pure (c) rfl ?_) | (refine CallE.lent (c) rfl ?_) | (refine CallF.pure (c) rfl ?_) | (refine CallF.lent (c) rfl ?_) | (refine CallE.own (c) ?_) | (refine CallH.pure (c) rfl ?_) | (refine CallH.lent (c) rfl ?_) | (refine CallH.own (c) ?_)
  all_goals apply hr
  all_goals simp [Try.f51]
theorem txns_set (l : List Tx) (k : Nat) (t : Tx) : (txns l).set k [I t.e, I t.n, I t.s, I t.x, I t.r, I t.b, SB t.m, .sl 11 (pts t.ps)] = txns (l.set k t) := by simp [txns, Tx.cells, List.map_set]
def tx0 : Tx := ⟨0, 0, 0, 0, 0, 0, [], []⟩
theorem txns_rep (n : Nat) : List.replicate n [I 0, I 0, I 0, I 0, I 0, I 0, SB [], .sl 11 []] = txns (List.replicate n tx0) := by simp [txns, tx0, Tx.cells, pts]
set_option maxHeartbeats 1000000 in
theorem listTx_con (l : List Tx) (hl : l.length ≤ 1000) (hm : ∀ x ∈ l, x.ps.length ≤ 1000 ∧ ∀ p ∈ x.ps, p.c.ms.length ≤ 1000) : RCon 50 [.p (.sl 8 (txns l)), .p (.v (.func (.func 51) #[] #[]))] 40 8 (txns l) := by
  by_cases h0 : l.length = 0
  · obtain rfl := List.length_eq_zero_iff.1 h0
    refine wBodyR Try.tab Try.mixed Try.func50 rfl rfl Try.ntmps50 rfl (by simp) (by simp) fun Q hr hn => ?_
    repeat' first | (refine wRetG [.row 4 40 8] ?_) | (refine hK _ ?_; clear hK) | (refine hK _ _ ?_; clear hK) | (clear hK; refine hK _ ?_; clear hK) | (clear hK; clear hK; refine hK _ ?_; clear hK) | (clear hK; clear hK; clear hK; refine hK _ ?_; clear hK) | (clear hK; clear hK; clear hK; clear hK; refine hK _ ?_; clear hK) | (refine wSeq fun K hK => ?_) | ((first | refine wReg ?_ | refine wDrwQ rfl (by kernel_rfl) ?_ | refine wDrwI ?_ | refine wDrw (by kernel_rfl) ?_); simp only [List.map_cons, List.map_nil, strip]) | ((first | refine wIs fun K hK => ?_ | refine wOs fun K hK => ?_ | refine wQs fun K hK => ?_ | refine CallK_plain ?_ | refine CallQ_plain ?_ | refine CallR_plain ?_ | refine wCond ?_); simp [txns]) | (refine wIn ?_; refine And.intro (by kernel_rfl) ?_; try simp only [thenA_n]) | (first | refine wBlock ?_ | refine wScope ?_) | ((first | refine wRet ?_ | refine wExit ?_ | refine wSkip ?_); try simp) | ((first | refine wLabel ?_ | refine wOn ?_ | refine wQn ?_); try simp only [thenA_n])
    all_goals refine hr _ 4 (by simp) (by simp [txns]) (by omega)
  have h0' : ¬ (l.length : Int) = 0 := by omega
  refine wBodyR Try.tab Try.mixed Try.func50 rfl rfl Try.ntmps50 rfl (by simp) (by simp) fun Q hr hn => ?_
  repeat' first | (rw [if_pos ⟨by omega, by omega⟩]) | (refine hK _ ?_; clear hK) | (refine hK _ _ ?_; clear hK) | (clear hK; refine hK _ ?_; clear hK) | (clear hK; clear hK; refine hK _ ?_; clear hK) | (clear hK; clear hK; clear hK; refine hK _ ?_; clear hK) | (clear hK; clear hK; clear hK; clear hK; refine hK _ ?_; clear hK) | (refine wSeq fun K hK => ?_) | ((first | refine wReg ?_ | refine wDrwQ rfl (by kernel_rfl) ?_ | refine wDrwI ?_ | refine wDrw (by kernel_rfl) ?_); simp only [List.map_cons, List.map_nil, strip]) | ((first | refine wIs fun K hK => ?_ | refine wOs fun K hK => ?_ | refine wQs fun K hK => ?_ | refine CallK_plain ?_ | refine CallQ_plain ?_ | refine CallR_plain ?_ | refine wCond ?_); simp [h0, h0', txns_rep]) | (refine wIn ?_; refine And.intro (by kernel_rfl) ?_; try simp only [thenA_n]) | (first | refine wBlock ?_ | refine wScope ?_) | ((first | refine wRet ?_ | refine wExit ?_ | refine wSkip ?_); try simp) | ((first | refine wLabel ?_ | refine wOn ?_ | refine wQn ?_); try simp only [thenA_n])
  refine wLoop (fun N st => ∃ k zs, k + N = l.length ∧ zs.length = l.length ∧ zs.take k = l.take k ∧ st.s 1 = .p (.v (.func (.func 51) #[] #[])) ∧ st.s 5 = .row 13 ∧ st.s 14 = .p (.sl 8 (txns l)) ∧ st.s 15 = .p (I l.length) ∧ st.s 16 = .p (I k) ∧ st.b 13 = some (.row 40 8 (txns zs))) l.length ⟨0, List.replicate l.length tx0, by simp [txns_rep]⟩ fun K N st hL ⟨k, zs, hk, hz, hi, g1, g5, g14, g15, g16, b13⟩ => ?_
  by_cases hlt : k < l.length
  · have hlt' : (k : Int) < l.length := by omega
    have hltz : k < zs.length := by omega
    have hw := wrapS k _ hlt (by omega)
    have he := txns_get hlt
    have c := ownTxn_con l[k] (hm _ (List.getElem_mem hlt)).1 (hm _ (List.getElem_mem hlt)).2
    unfold Tx.cells at c
    have hs := txns_set zs k l[k]
    have hst := set_takeK zs k l[k] hltz
    rw [hi, ← List.take_succ_eq_append_getElem hlt] at hst
    repeat' first | (refine hK _ ?_; clear hK) | (refine hK _ _ ?_; clear hK) | (clear hK; refine hK _ ?_; clear hK) | (clear hK; clear hK; refine hK _ ?_; clear hK) | (clear hK; clear hK; clear hK; refine hK _ ?_; clear hK) | (clear hK; clear hK; clear hK; clear hK; refine hK _ ?_; clear hK) | (refine wSeq fun K hK => ?_) | ((first | refine wReg ?_ | refine wDrwQ rfl (by kernel_rfl) ?_ | refine wDrwI ?_ | refine wDrw (by kernel_rfl) ?_); simp only [List.map_cons, List.map_nil, strip]) | ((first | refine wIs fun K hK => ?_ | refine wOs fun K hK => ?_ | refine wQs fun K hK => ?_ | refine CallK_plain ?_ | refine CallQ_plain ?_ | refine CallR_plain ?_ | refine wCond ?_); simp [g1, g5, g14, g15, g16, b13, hlt, hlt', hltz, hw, he, hs, Tx.cells]) | (refine wIn ?_; refine And.intro (by kernel_rfl) ?_; try simp only [thenA_n]) | (first | refine wBlock ?_ | refine wScope ?_) | ((first | refine wRet ?_ | refine wExit ?_ | refine wSkip ?_); try simp) | ((first | refine wLabel ?_ | refine wOn ?_ | refine wQn ?_); try simp only [thenA_n]) | (refine CallE.pure (c) rfl ?_) | (refine CallE.lent (c) rfl ?_) | (refine CallF.pure (c) rfl ?_) | (refine CallF.lent (c) rfl ?_) | (refine CallE.own (c) ?_) | (refine CallH.pure (c) rfl ?_) | (refine CallH.lent (c) rfl ?_) | (refine CallH.own (c) ?_)
    refine hL _ (N - 1) (by omega) ⟨k + 1, zs.set k l[k], by omega, by simpa using hz, hst, ?_⟩
    simp [g1, g5, g14, g15, g16, b13, hw, hs]
  · have hlt' : ¬ (k : Int) < l.length := by omega
    rw [List.take_of_length_le (by omega), List.take_of_length_le (by omega)] at hi
    subst hi
    repeat' first | (refine hK _ ?_; clear hK) | (refine hK _ _ ?_; clear hK) | (clear hK; refine hK _ ?_; clear hK) | (clear hK; clear hK; refine hK _ ?_; clear hK) | (clear hK; clear hK; clear hK; refine hK _ ?_; clear hK) | (clear hK; clear hK; clear hK; clear hK; refine hK _ ?_; clear hK) | (refine wSeq fun K hK => ?_) | ((first | refine wReg ?_ | refine wDrwQ rfl (by kernel_rfl) ?_ | refine wDrwI ?_ | refine wDrw (by kernel_rfl) ?_); simp only [List.map_cons, List.map_nil, strip]) | ((first | refine wIs fun K hK => ?_ | refine wOs fun K hK => ?_ | refine wQs fun K hK => ?_ | refine CallK_plain ?_ | refine CallQ_plain ?_ | refine CallR_plain ?_ | refine wCond ?_); simp [g1, g5, g14, g15, g16, b13, hlt, hlt']) | (refine wIn ?_; refine And.intro (by kernel_rfl) ?_; try simp only [thenA_n]) | (first | refine wBlock ?_ | refine wScope ?_) | ((first | refine wRet ?_ | refine wExit ?_ | refine wSkip ?_); try simp) | ((first | refine wLabel ?_ | refine wOn ?_ | refine wQn ?_); try simp only [thenA_n])
    all_goals refine hr _ 13 (by simp [g5]) (by simp [b13]) (by omega)
theorem ownTxns_con (l : List Tx) (hl : l.length ≤ 1000) (hm : ∀ x ∈ l, x.ps.length ≤ 1000 ∧ ∀ p ∈ x.ps, p.c.ms.length ≤ 1000) : RCon 33 [.p (.sl 8 (txns l))] 40 8 (txns l) := by
  have c := listTx_con l hl hm
  refine wBodyR Try.tab Try.mixed Try.func33 rfl rfl Try.ntmps33 rfl (by simp) (by simp) fun Q hr hn => ?_
  repeat' first | (refine CallE.pure (c) rfl ?_) | (refine CallE.lent (c) rfl ?_) | (refine CallF.pure (c) rfl ?_) | (refine CallF.lent (c) rfl ?_) | (refine CallE.own (c) ?_) | (refine CallH.pure (c) rfl ?_) | (refine CallH.lent (c) rfl ?_) | (refine CallH.own (c) ?_) | (refine hK _ ?_; clear hK) | (refine hK _ _ ?_; clear hK) | (clear hK; refine hK _ ?_; clear hK) | (clear hK; clear hK; refine hK _ ?_; clear hK) | (clear hK; clear hK; clear hK; refine hK _ ?_; clear hK) | (clear hK; clear hK; clear hK; clear hK; refine hK _ ?_; clear hK) | (refine wSeq fun K hK => ?_) | ((first | refine wReg ?_ | refine wDrwQ rfl (by kernel_rfl) ?_ | refine wDrwI ?_ | refine wDrw (by kernel_rfl) ?_); simp only [List.map_cons, List.map_nil, strip]) | ((first | refine wIs fun K hK => ?_ | refine wOs fun K hK => ?_ | refine wQs fun K hK => ?_ | refine CallK_plain ?_ | refine CallQ_plain ?_ | refine CallR_plain ?_ | refine wCond ?_); simp) | (refine wIn ?_; refine And.intro (by kernel_rfl) ?_; try simp only [thenA_n]) | (first | refine wBlock ?_ | refine wScope ?_) | ((first | refine wRet ?_ | refine wExit ?_ | refine wSkip ?_); try simp) | ((first | refine wLabel ?_ | refine wOn ?_ | refine wQn ?_); try simp only [thenA_n])
  all_goals refine hr _ 4 (by simp) (by simp) (by omega)
end Go.Proofs.Ytegoihognjpcjaa


/- slices.Backward of places: what it hands back, and what that does. -/
namespace Go.Proofs.Ytegoihognjpcjaa
set_option linter.unusedSimpArgs false
set_option linter.unusedVariables false
open Go Go.Av Go.RowKit
attribute [local go_sem] Oper.semAt_some
set_option maxRecDepth 100000 in
set_option maxHeartbeats 4000000 in
theorem backward_iter : IterB Try.prog 49 2 := by
  intro l lid q J Jx W0 hJ h0
  refine callsIn_of_wp Try.func49 rfl trivial ?_ rfl
  simp only [Try.ntmps49, List.size_toArray, List.length_cons, List.length_nil, Nat.reduceAdd, Nat.reduceSub, Array.replicate_succ, Array.replicate_zero, List.push_toArray, List.append_toArray, List.nil_append, List.cons_append]
  -- what is read in a world
  have key : ∀ k W, J k W → ∃ bk off b cap, q = .pointer (some ⟨bk, off, none⟩) ∧ W.cell? ⟨bk, off, none⟩ = some (.slice b l.length cap) ∧ (l.length ≤ maxLen) ∧ (∀ (h : k < l.length), ∃ (bb o : Nat) (c0 c1 : Value), b = some ⟨bb, o, none⟩ ∧ W.cell? ⟨bb, o + (l.length - 1 - k) * 2, none⟩ = some c0 ∧ W.cell? ⟨bb, o + (l.length - 1 - k) * 2 + 1, none⟩ = some c1 ∧
      YieldAt Fence.wide 1 Try.prog lid #[.int .i64 ((l.length - 1 - k : Nat) : Int), .agg #[c0, c1]] W fun e W' => (e = .returned (.bool true) ∧ J (k + 1) W') ∨ (e = .returned (.bool false) ∧ Jx W')) := fun k W hj => by
    obtain ⟨G, bk, off, hq, hre, hy⟩ := hJ k W hj
    obtain ⟨-, hre⟩ := hre
    obtain ⟨-, u, hu, hrp⟩ := hre 0 _ rfl
    cases hrp with
    | nil => exact ⟨bk, off, none, 0, hq, hu, Nat.zero_le _, fun h => by simp at h⟩
    | emp c a => exact ⟨bk, off, some a, 0, hq, hu, Nat.zero_le _, fun h => by simp at h⟩
    | sl c l bb o cap uu hlen hm hk hc hone hcell hr =>
      refine ⟨bk, off, _, cap, hq, hu, Nat.le_trans hlen hm, fun h => ?_⟩
      have hlt : l.length - 1 - k < l.length := by omega
      have h2 := hc _ _ (List.getElem?_eq_getElem hlt)
      have hget : ∀ j, j < 2 → ∃ p, l[l.length - 1 - k][j]? = some p := fun j hj => ⟨_, List.getElem?_eq_getElem (by omega)⟩
      obtain ⟨p0, hp0⟩ := hget 0 (by omega)
      obtain ⟨p1, hp1⟩ := hget 1 (by omega)
      have a0 := hcell _ _ 0 p0 (List.getElem?_eq_getElem hlt) hp0
      have a1 := hcell _ _ 1 p1 (List.getElem?_eq_getElem hlt) hp1
      refine ⟨bb, o, uu (l.length - 1 - k) 0, uu (l.length - 1 - k) 1, rfl, by simpa using a0, by rw [← a1, Nat.add_assoc], hy h _ (.agg _ _ (uu (l.length - 1 - k)) (by simp [h2]) (fun j p hj => hone _ _ j p (List.getElem?_eq_getElem hlt) hj) (fun j p hj => ?_) fun j p hj => hr _ _ j p (List.getElem?_eq_getElem hlt) hj)⟩
      have hj2 : j < 2 := by have := (List.getElem?_eq_some_iff.1 hj).1; omega
      match j, hj2 with
      | 0, _ => rfl
      | 1, _ => rfl
  clear hJ
  obtain ⟨bk, off, b, cap, rfl, hu, hlen, -⟩ := key 0 W0 h0
  have hlen : l.length ≤ 9223372036854775807 := by unfold maxLen at hlen; omega
  have hw0 : IntKind.i64.wrap ((l.length : Int) - 1) = (l.length : Int) - 1 := by rw [wrap_id] <;> omega
  gi_wp2
  gi_loopw [3] (fun i wr => ∃ k : Nat, k ≤ l.length ∧ i = .int .i64 ((l.length : Int) - 1 - k) ∧ J k wr) (fun i _ => (intOf i + 1).toNat)
  case atStart => exact ⟨0, Nat.zero_le _, by simp, h0⟩
  case round =>
    obtain ⟨k, hk, rfl, hJs⟩ := hrel
    obtain ⟨bk', off', b', cap', hq', hu', -, hy⟩ := key k wr hJs
    simp only [Value.pointer.injEq, Option.some.injEq, Addr.mk.injEq, and_true] at hq'
    obtain ⟨rfl, rfl⟩ := hq'
    by_cases hlt : k < l.length
    · obtain ⟨bb, o, c0, c1, rfl, hc0, hc1, fn, tmps, assign, body, hyr, hR⟩ := hy hlt
      obtain ⟨i, hi⟩ : ∃ i : Nat, i = l.length - 1 - k := ⟨_, rfl⟩
      have hiI : (l.length : Int) - 1 - k = (i : Int) := by omega
      rw [← hi] at hc0 hc1 hyr
      have hin : i < l.length := by omega
      have hw1 : IntKind.i64.wrap ((i : Int) - 1) = (i : Int) - 1 := by rw [wrap_id] <;> omega
      have hik : i + k + 1 = l.length := by omega
      rw [hiI]
      clear hi hiI hy
      gi_wp2
      refine hR.mono ?_
      rintro e W3 (⟨rfl, hJ3⟩ | ⟨rfl, hJx3⟩)
      · gi_wp2
        go_roundw
        case rel => exact ⟨k + 1, by omega, by (simp <;> omega), hJ3⟩
        case measure => (simp [intOf] <;> omega)
      · gi_wp2
        refine bodyPost_ret (results_none rfl _ _ _) rfl ?_
        exact ⟨⟨_, rfl⟩, .inr hJx3⟩
    · obtain rfl : k = l.length := by omega
      have hneg : (l.length : Int) - 1 - l.length = -1 := by omega
      rw [hneg]
      gi_wp2
      go_end0
      exact ⟨⟨_, rfl⟩, .inl hJs⟩
end Go.Proofs.Ytegoihognjpcjaa

