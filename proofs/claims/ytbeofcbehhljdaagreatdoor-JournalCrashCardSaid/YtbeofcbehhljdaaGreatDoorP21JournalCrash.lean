/- Texts that the proof needs: Itoa. -/
import Derived.Test.YtbeofcbehhljdaaGreatDoorP0JournalCrash
import Derived.Test.YtbeofcbehhljdaaGreatDoorP17JournalCrash
import Derived.Test.YtbeofcbehhljdaaGreatDoorP19JournalCrash
import Derived.Test.YtbeofcbehhljdaaGreatDoorP20JournalCrash
namespace Go.Proofs.YtbeofcbehhljdaaGreatDoor
set_option linter.unusedSimpArgs false
set_option linter.unusedVariables false
open Go Go.Av
theorem ACon.shelf [Glob] {P : Program} {g : FuncId} (he : Go.Av.Enters P g) (xs : List Value) {z : Value} (hz : scal z = true)
 (hrun : ∀ (F : Nat -> Prop) (w : World) (m : Nm), Hp w F m (nmF [] []) -> Calls P g xs.toArray w fun e w' => e = .returned z /\ Keeps (fun _ => False) w w') :
 ACon P g (xs.map fun x => .p (.v x)) (.p (.v z)) := by
 intro F w m ys hp hl har
 have hl' : ys.length = xs.length := by simpa using hl
 have hys : ys = xs := by
  apply List.ext_getElem?
  intro i
  by_cases hi : i < xs.length
  ·obtain ⟨y, h1, h2⟩ := har i (.p (.v xs[i])) (by simp [hi])
   have h3 : RP w _ (.v xs[i]) y := h2
   cases h3
   rw [h1, List.getElem?_eq_getElem hi]
  ·rw [List.getElem?_eq_none (by omega), List.getElem?_eq_none (by omega)]
 subst hys
 refine .inl ⟨he, (hrun F w m hp).mono fun e w' ⟨h1, hk⟩ => ?_⟩
 subst h1
 refine ⟨hk.mono fun k h => h.elim, z, m, rfl, ?_, fun n k ho => by simp [owns, nmF_nil] at ho, fun _ _ _ => rfl, RV.of0 (v := .p _) (.v _ hz)⟩
 exact Hp.none (fun k hk' => Nat.lt_of_lt_of_le (hp.fold k hk') hk.size) nmF_nil fun g e he => (hp.glob g e he).move hk.size (fun k hlt _ => hk.block k hlt id) fun k _ hf => .inl hf
def rgt (n : Int) : Bool := decide (0 <= n /\ n <= 1099511627776)
theorem itoa_con {n : Int} (h : rgt n = true) : ACon Tryz.prog 23 [.p (I n)] (.p (SB (Go.Lib.itoa n))) := by
 simp only [rgt, decide_eq_true_eq] at h
 refine ACon.shelf ⟨Tryz.f23, Tryz.func23, rfl, rfl⟩ [.int .i64 n] rfl fun F w m hp => ?_
 have hg : Glob.g 1 = some (Go.Lib.pow10Tab.map fun z => PV.v (.int .u64 z)) := by kernel_rfl
 have ht := (hp.glob 1 _ hg).tab (P := Tryz.prog) (name := "internal/strconv.uint64pow10") (by kernel_rfl)
 refine (Tryz.strconv_Itoa n (by omega) (by omega) w ht).mono fun e w' ⟨h1, k, os, h2⟩ => ⟨h1, ?_⟩
 subst h2
 refine ⟨rfl, rfl, rfl, ?_, fun i hi _ => ?_⟩
 ·show w.heap.size <= (w.heap ++ os).size
  simp
 ·show (w.heap ++ os)[i]? = w.heap[i]?
  exact Array.getElem?_append_left hi
end Go.Proofs.YtbeofcbehhljdaaGreatDoor
