/- Texts that the proof needs: NI. -/
import Derived.Test.YtedbbcmokbogpaaGreatDoorP34PrepAtOnce
namespace Go.Proofs.YtedbbcmokbogpaaGreatDoor
set_option linter.unusedSimpArgs false
set_option linter.unusedVariables false
open Go Go.Av
attribute [local irreducible] Go.Av.yR Go.Av.zU Go.Av.yM Go.Av.zT Go.Av.yO Go.Av.zV Go.Av.Con
theorem put_mem {l : List Zn} {z y : Zn} (h : y ∈ putZ l z) : y = z \/ y ∈ l := by
 unfold putZ at h
 rcases List.mem_append.1 h with h | h
 ·exact .inr (List.mem_of_mem_take h)
 ·rcases List.mem_cons.1 h with h | h
  ·exact .inl h
  ·exact .inr (List.mem_of_mem_drop ((rst_sub _ _).subset h))
end Go.Proofs.YtedbbcmokbogpaaGreatDoor
