/- Texts that the proof needs: NI. -/
import Derived.Test.YtedbbcmokbogpaaGreatDoorP34PrepCloses
namespace Go.Proofs.YtedbbcmokbogpaaGreatDoor
set_option linter.unusedSimpArgs false
set_option linter.unusedVariables false
open Go Go.Av
attribute [local irreducible] Go.Av.yR Go.Av.zU Go.Av.yM Go.Av.zT Go.Av.yO Go.Av.zV Go.Av.Con
theorem tre_head {l : List Zn} (h : tre l = true) : ∃ x r, l = x :: r /\ x.p = [47] /\ x.o = 0 /\ l.length <= 60 := by
 obtain ⟨h1,-⟩:=tre_ris h
 unfold hdo at h1
 simp only [Bool.and_eq_true,decide_eq_true_eq] at h1
 cases l with
 | nil=>simp at h1
 | cons x r =>
  have h2:=h1.2
  simp only [List.getElem?_cons_zero,Bool.and_eq_true,decide_eq_true_eq] at h2
  exact ⟨x,r,rfl,h2.1,h2.2,h1.1.2⟩
theorem put_mem {l : List Zn} {z y : Zn} (h : y ∈ putZ l z) : y = z \/ y ∈ l := by
 unfold putZ at h
 rcases List.mem_append.1 h with h | h
 ·exact .inr (List.mem_of_mem_take h)
 ·rcases List.mem_cons.1 h with h | h
  ·exact .inl h
  ·exact .inr (List.mem_of_mem_drop ((rst_sub _ _).subset h))
end Go.Proofs.YtedbbcmokbogpaaGreatDoor
