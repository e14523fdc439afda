/- fault.Try: what gives up deep in a call comes back as an error. -/
import Derived.Test.YtfilinonmngefaaDoorTryA
namespace Go.Proofs.YtfilinonmngefaaDoor
set_option linter.unusedSimpArgs false
set_option linter.unusedVariables false
open Go Go.Av Go.RowKit

def errOf : Out → Option (Int × List Blk)
  | .ret _ [] β => some (0, β)
  | .pan (.iface t (.int .i64 n)) β => if t = 70 then some (n, β) else none
  | _ => none
theorem try_con {g : FuncId} {caps : List Cap} {β β' : List Blk} {out : Out} {n : Int} (hc : Con Tryd.prog g (caps.map capV) β out) (ho : errOf out = some (n, β')) :
    Con Tryd.prog 37 [.clo ⟨g, false⟩ caps] β (.ret (.p (I n)) [] β') := by
  intro F w m xs hp hl har
  obtain ⟨x, hx, hr⟩ := har 0 _ rfl
  obtain ⟨cs, rfl, hcl, hcs⟩ := hr
  have hxs : xs = [fnv ⟨g, false⟩ cs] := by
    match xs, hl with
    | [y], _ => simpa using hx
  subst hxs
  refine .inl ⟨⟨Tryd.f37, Tryd.func37, rfl, rfl⟩, ?_⟩
  show Calls Tryd.prog 37 #[.func (.func g) #[] cs.toArray] w _
  let w1 := w.alloc (Obj.cells #[Value.int IntKind.i64 0] 25)
  let k0 := w.heap.size
  have s1 : w1.heap.size = w.heap.size + 1 := by simp [w1]
  have o1 : ∀ k, k < w.heap.size → w1.heap[k]? = w.heap[k]? := fun k hk => Below.heap_alloc w _ k hk
  have n1 : w1.heap[k0]? = some (.cells #[.int .i64 0] 25 (0, 0)) := by show (w.heap.push _)[w.heap.size]? = _; simp
  let F' : Nat → Prop := fun k => F k ∨ k = k0
  have hp1 : Hp w1 F' m (nmF β []) := hp_move hp (by omega) (fun k hk => by
    rcases hk with hk | hk
    · have := hp.fold k hk; omega
    · show k < _; rw [s1, hk]; exact Nat.lt_succ_self _) (fun k hk hf => by
    rcases hf with hf | hf
    · exact hf
    · exact absurd hk (by rw [hf]; exact Nat.lt_irrefl _)) (fun k hk _ => o1 k hk)
  have ht1 : Turn w w1 (Gd F m (nmF β [])) (Gd F' m (nmF β [])) := ⟨by omega, fun k hk _ => o1 k hk, fun k hk hg => hg.imp (fun hf => by
    rcases hf with hf | hf
    · exact hf
    · exact absurd hk (by rw [hf]; exact Nat.lt_irrefl _)) id⟩
  have hcall := hc F' w1 m cs hp1 (by simp [hcl]) (fun i v hi => by
    rw [List.getElem?_map] at hi
    cases hci : caps[i]? with
    | none => rw [hci] at hi; simp at hi
    | some c =>
      rw [hci] at hi
      simp only [Option.map_some, Option.some.injEq] at hi
      obtain ⟨y, h4, h5⟩ := hcs i c hci
      refine ⟨y, h4, ?_⟩
      subst hi
      cases c with
      | box b => exact h5
      | val p => exact RV0.keep (v := .p p) ht1 h5)
  have hlt2 : ∀ {w2 : World}, Keeps (fun k => ∃ n, owns m (nmF β []) n k) w1 w2 → w2.heap[k0]? = some (.cells #[.int .i64 0] 25 (0, 0)) ∧ w.heap.size ≤ w2.heap.size ∧ Keeps (fun k => ∃ n, owns m (nmF β []) n k) w w2 := fun {w2} hk => by
    have hno : ¬ ∃ n, owns m (nmF β []) n k0 := fun ⟨n, hn⟩ => (hp1.own n k0 hn).2 (.inr rfl)
    refine ⟨by rw [hk.block k0 (by rw [s1]; exact Nat.lt_succ_self _) hno]; exact n1, by have := hk.size; omega, ⟨hk.os, hk.tape, hk.output, by have := hk.size; omega, fun k hlt hX => ?_⟩⟩
    rw [hk.block k (by omega) hX, o1 k hlt]
  -- what is left of the error's variable, and of the rest
  have fin : ∀ (w2 : World) (m2 : Nm) (z : Int), Keeps (fun k => ∃ n, owns m (nmF β []) n k) w1 w2 → Hp w2 F' m2 (nmF β' []) → (∀ n k, owns m2 (nmF β' []) n k → w1.heap.size ≤ k ∨ ∃ n, owns m (nmF β []) n k) → (∀ n, 1024 ≤ n → n < 2048 → m2.i n = m.i n) →
      Keeps (fun k => ∃ n, owns m (nmF β []) n k) w (w2.setCell ⟨k0, 0, none⟩ (.int .i64 z)) ∧ OutR w F (fun k => ∃ n, owns m (nmF β []) n k) m (.returned (.int .i64 z)) (w2.setCell ⟨k0, 0, none⟩ (.int .i64 z)) (.ret (.p (I z)) [] β') := fun w2 m2 z hk hp2 hown hnam => by
    obtain ⟨hc2, hs2, hkw⟩ := hlt2 hk
    have hb : ∀ k, k ≠ k0 → (w2.setCell ⟨k0, 0, none⟩ (.int .i64 z)).heap[k]? = w2.heap[k]? := fun k hne => heap_setCell_other w2 ⟨k0, 0, none⟩ k _ hne
    refine ⟨⟨hkw.os, hkw.tape, hkw.output, by rw [World.size_setCell]; exact hs2, fun k hlt hX => ?_⟩, _, m2, rfl, ?_, fun n k ho => ?_, hnam, .of0 (v := .p _) (.v _ rfl)⟩
    · rw [hb k (Nat.ne_of_lt hlt), hkw.block k hlt hX]
    · refine hp_move hp2 (by rw [World.size_setCell]; exact Nat.le_refl _) (fun k hf => by rw [World.size_setCell]; have := hp.fold k hf; omega) (fun k _ hf => .inl hf) (fun k hlt hn => hb k fun he => hn (.inr he))
    · rcases hown n k ho with h1 | h1
      · exact .inl (by omega)
      · exact .inr h1
  have hload : ∀ (w2 : World) (z : Int), w2.heap[k0]? = some (.cells #[.int .i64 0] 25 (0, 0)) → (w2.setCell ⟨k0, 0, none⟩ (.int .i64 z)).cell? ⟨k0, 0, none⟩ = some (.int .i64 z) := fun w2 z h => World.cell?_setCell_same w2 ⟨k0, 0, none⟩ (.int .i64 z) (u := .int .i64 0) (by simp [World.cell?, h])
  have hcellW : ∀ (w2 : World) (x : Value), w2.heap[k0]? = some (.cells #[x] 25 (0, 0)) → w2.cell? ⟨k0, 0, none⟩ = some x ∧ w2.frozen? ⟨k0, 0, none⟩ = false := fun w2 x h => ⟨by simp [World.cell?, h], by simp [World.frozen?, h]⟩
  -- what stands behind the call of what is tried
  have retd : ∀ (x : Value) (w2 : World), (Keeps (fun k => ∃ n, owns m (nmF β []) n k) w1 w2 ∧ OutR w1 F' (fun k => ∃ n, owns m (nmF β []) n k) m (.returned x) w2 out) → n = 0 ∧ Keeps (fun k => ∃ n, owns m (nmF β []) n k) w (w2.setCell ⟨k0, 0, none⟩ (.int .i64 0)) ∧ OutR w F (fun k => ∃ n, owns m (nmF β []) n k) m (.returned (.int .i64 0)) (w2.setCell ⟨k0, 0, none⟩ (.int .i64 0)) (.ret (.p (I n)) [] β') ∧ w2.heap[k0]? = some (.cells #[.int .i64 0] 25 (0, 0)) := fun x w2 ⟨hk, hout⟩ => by
    cases out with
    | ret v R β2 =>
      cases R with
      | nil =>
        simp only [errOf, Option.some.injEq, Prod.mk.injEq] at ho
        obtain ⟨rfl, rfl⟩ := ho
        obtain ⟨x', m2, -, hp2, hown, hnam, -⟩ := hout
        obtain ⟨h1, h2⟩ := fin w2 m2 0 hk hp2 hown hnam
        exact ⟨rfl, h1, h2, (hlt2 hk).1⟩
      | cons b R => simp [errOf] at ho
    | pan y β2 => obtain ⟨m2, he, -⟩ := hout; simp at he
  have pand : ∀ (ch : List PanicEntry) (w2 : World), (Keeps (fun k => ∃ n, owns m (nmF β []) n k) w1 w2 ∧ OutR w1 F' (fun k => ∃ n, owns m (nmF β []) n k) m (.panicked ch) w2 out) → ch = [{ v := .iface 70 (.int .i64 n), recovered := false }] ∧ Keeps (fun k => ∃ n, owns m (nmF β []) n k) w (w2.setCell ⟨k0, 0, none⟩ (.int .i64 n)) ∧ OutR w F (fun k => ∃ n, owns m (nmF β []) n k) m (.returned (.int .i64 n)) (w2.setCell ⟨k0, 0, none⟩ (.int .i64 n)) (.ret (.p (I n)) [] β') ∧ w2.heap[k0]? = some (.cells #[.int .i64 0] 25 (0, 0)) := fun ch w2 ⟨hk, hout⟩ => by
    cases out with
    | ret v R β2 => obtain ⟨x', m2, he, -⟩ := hout; simp at he
    | pan y β2 =>
      obtain ⟨m2, he, hp2, hown, hnam⟩ := hout
      unfold errOf at ho
      split at ho
      · rename_i hh; simp at hh
      · rename_i t n' β3 hh
        simp only [Out.pan.injEq] at hh
        obtain ⟨rfl, rfl⟩ := hh
        split at ho
        · rename_i ht
          subst ht
          simp only [Option.some.injEq, Prod.mk.injEq] at ho
          obtain ⟨rfl, rfl⟩ := ho
          simp only [Ending.panicked.injEq] at he
          obtain ⟨h1, h2⟩ := fin w2 m2 n' hk hp2 hown hnam
          exact ⟨he, h1, h2, (hlt2 hk).1⟩
        · simp at ho
      · simp at ho
  have hnog : ∀ w2, ¬ OutR w1 F' (fun k => ∃ n, owns m (nmF β []) n k) m .outgrown w2 out := fun w2 h => by
    cases out with
    | ret v R β2 => obtain ⟨x', m2, he, -⟩ := h; simp at he
    | pan y β2 => obtain ⟨m2, he, -⟩ := h; simp at he
  have hw1 : w.alloc (Obj.cells #[Value.int IntKind.i64 0] 25) = w1 := rfl
  have hk0 : w.heap.size = k0 := rfl
  clear_value k0 w1
  go_enter_defers Tryd.func37, Tryd.ntmps37
  go_wp2
  rename_i K1 hK1 K2 hK2
  have tail1 : ∀ (x : Value) (w2 : World), (Keeps (fun k => ∃ n, owns m (nmF β []) n k) w1 w2 ∧ OutR w1 F' (fun k => ∃ n, owns m (nmF β []) n k) m (.returned x) w2 out) → True := fun _ _ _ => trivial
  rcases hcall with ⟨⟨fn, f1, f2, f3⟩, hcl2⟩ | ⟨x, w2, hrun, hR⟩
  · have f2' : ¬ fn.name = "runtime.NumGoroutine" := by simpa using f2
    have f3' : ¬ fn.body = none := by intro h0; rw [h0] at f3; simp at f3
    rw [show (callFunc g cs.toArray).run Tryd.prog w1 = .ok (.enter g cs.toArray) w1 by simp [callFunc, f1, f2', f3']]
    refine hcl2.mono fun e w2 hR => ?_
    cases e with
    | outgrown => exact absurd hR.2 (hnog w2)
    | returned x =>
      obtain ⟨hn, hk, ho2, hc2⟩ := retd x w2 hR
      obtain ⟨hc3, hf3⟩ := hcellW w2 _ hc2
      have hl := hload w2 0 hc2
      refine hK2 _ _ ?_
      go_wp2
      subst hn
      refine leaves_cons (f := 44) (args := #[.pointer (some ⟨k0, 0, none⟩)]) (by simp) (by simp [go_sem]) ?_
      refine (catch_idle k0 _).mono ?_
      rintro e u' w'' ⟨rfl, rfl, rfl⟩
      simp [Leaves, settle, results, Tryd.results37, go_sem, hl]
      exact ⟨hk, ho2⟩
    | panicked ch =>
      obtain ⟨hch, hk, ho2, hc2⟩ := pand ch w2 hR
      subst hch
      have hl := hload w2 n hc2
      show Leaves Tryd.prog Tryd.f37 _ _ _ _ _
      refine leaves_cons (f := 44) (args := #[.pointer (some ⟨k0, 0, none⟩)]) (by simp) (by simp [go_sem]) ?_
      refine (catch_take k0 n _ w2 hc2).mono ?_
      rintro e u' w'' ⟨rfl, rfl, rfl⟩
      simp [Leaves, settle, results, Tryd.results37, go_sem, hl]
      exact ⟨hk, ho2⟩
  · rw [hrun]
    obtain ⟨hn, hk, ho2, hc2⟩ := retd x w2 hR
    obtain ⟨hc3, hf3⟩ := hcellW w2 _ hc2
    have hl := hload w2 0 hc2
    refine hK2 _ _ ?_
    go_wp2
    subst hn
    refine leaves_cons (f := 44) (args := #[.pointer (some ⟨k0, 0, none⟩)]) (by simp) (by simp [go_sem]) ?_
    refine (catch_idle k0 _).mono ?_
    rintro e u' w'' ⟨rfl, rfl, rfl⟩
    simp [Leaves, settle, results, Tryd.results37, go_sem, hl]
    exact ⟨hk, ho2⟩
end Go.Proofs.YtfilinonmngefaaDoor
