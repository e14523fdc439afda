/- fault.Try's deferred closure. -/
import Derived.Test.YtfilinonmngefaaDoorAvMore
import Derived.Test.YtfilinonmngefaaDoorTab
import Derived.WalkKit
import Derived.Defers
import Derived.Recover
namespace Go.Proofs.YtfilinonmngefaaDoor
set_option linter.unusedSimpArgs false
set_option linter.unusedVariables false
open Go Go.Av Go.RowKit

theorem hp_move [Glob] {w w' : World} {F F' : Nat → Prop} {m : Nm} {β : Nat → Option Blk} (h : Hp w F m β) (hsz : w.heap.size ≤ w'.heap.size) (h1 : ∀ k, F' k → k < w'.heap.size) (h2 : ∀ k, k < w.heap.size → F' k → F k)
    (h3 : ∀ k, k < w.heap.size → ¬ F k → w'.heap[k]? = w.heap[k]?) : Hp w' F' m β := by
  have ht : Turn w w' (Gd F m β) (Gd F' m β) := ⟨hsz, fun k hk hg => h3 k hk fun hf => hg (.inl hf), fun k hk hg => hg.imp (h2 k hk) id⟩
  refine ⟨h1, fun b k ho => ⟨Nat.lt_of_lt_of_le (h.own b k ho).1 hsz, fun hf => (h.own b k ho).2 (h2 k (h.own b k ho).1 hf)⟩, h.uniq, fun b blk hb => (h.blks b blk hb).keep ht fun k hk => ?_, fun g e he => (h.glob g e he).move ht.size ht.block ht.less⟩
  have ho : owns m β b k := by unfold owns; rw [hb]; cases blk <;> exact hk
  exact h3 k (h.own b k ho).1 (h.own b k ho).2
theorem catch_idle (k : Nat) (w : World) : CallsD Tryd.prog 44 #[.pointer (some ⟨k, 0, none⟩)] .returning w fun e u' w' => e = .returned (.tuple #[]) ∧ u' = .returning ∧ w' = w := by
  refine callsD_of_wpS Tryd.func44 rfl fun c₀ cs hu => ?_
  apply wpS_seq
  apply wpS_region
  simp [wpOpsS, go_sem, recoverD, hu, Tryd.ntmps44, Exit.thenS]
  refine wpS_of_wp ?_
  go_wp2
  cases c₀
  simp_all [bodyPostS, results, Tryd.results44, Exit.thenS]
set_option maxHeartbeats 1000000 in
theorem catch_take (k : Nat) (n : Int) (x : Value) (w : World) (hc : w.heap[k]? = some (.cells #[x] 25 (0, 0))) : CallsD Tryd.prog 44 #[.pointer (some ⟨k, 0, none⟩)] (.panicking [{ v := .iface 70 (.int .i64 n), recovered := false }]) w fun e u' w' =>
    e = .returned (.tuple #[]) ∧ u' = .panicking [{ v := .iface 70 (.int .i64 n), recovered := true }] ∧ w' = w.setCell ⟨k, 0, none⟩ (.int .i64 n) := by
  refine callsD_of_wpS Tryd.func44 rfl fun c₀ cs hu => ?_
  apply wpS_seq
  apply wpS_region
  simp [wpOpsS, go_sem, recoverD, hu, Tryd.ntmps44, Exit.thenS]
  refine wpS_of_wp ?_
  have hta : ∀ w : World, (Instr.typeAssert (.iface 70 (.int .i64 n)) 20 70 true).run Tryd.prog w = .ok (.tuple #[.int .i64 n, .bool true]) w := fun w => by
    simp [Instr.typeAssert, run_underlying Tryd.underlying70]
  have hcell : w.cell? ⟨k, 0, none⟩ = some x := by simp [World.cell?, hc]
  have hfz : w.frozen? ⟨k, 0, none⟩ = false := by simp [World.frozen?, hc]
  go_wp2
  cases c₀
  simp_all [bodyPostS, results, Tryd.results44, Exit.thenS]

end Go.Proofs.YtfilinonmngefaaDoor
