/- What the rows list of the program's variables: that the walk reads it, and a world that has it. -/
import Derived.Test.YtfilinonmngefaaDoorTab
import Derived.Test.YtfilinonmngefaaDoorAvCard
import Derived.Test.YtfilinonmngefaaDoorCards
import Derived.Test.YtfilinonmngefaaDoorTie
import Derived.Stop.Joined
namespace Go.Proofs.YtfilinonmngefaaDoor
open Go Go.Av
set_option maxRecDepth 100000
abbrev Tryd.laid : List (String × DataW Unit) := Rows.codecIntsRow.laid
theorem Tryd.globOK (W : World) (h : laidMetH Tryd.prog Tryd.laid W) (g : Nat) (e : List PV) (he : Glob.g g = some e) : GE W (fun _ => False) e g := by
  have h' : laidMet Tryd.prog Tryd.laid W := h
  unfold Glob.g Tryd.glob at he
  simp only at he
  split at he
  · simp only [Option.some.injEq] at he; subst he
    exact tab_mem (name := "witan/codec.steps") (k := .u32) (zs := [0, 274646895, 549293790, 820201905, 1098587580, 1361435347, 1640403810, 1905808397, 2197175160, 2460548119, 2722870694, 2987750089, 3280807620, 3553878443, 3811616794, 4084100981]) (t := 60) (e := 35) (n := 16) (by kernel_rfl) (by kernel_rfl) (show Tryd.prog.underlying 60 = _ by kernel_rfl) (show Tryd.prog.underlying 35 = _ by kernel_rfl) (by kernel_rfl) (by kernel_rfl) (.head _) h' (by simp)
  · simp at he
def Tryd.lays : List (Nat × Array Value) := [(0, #[.int .u32 0, .int .u32 274646895, .int .u32 549293790, .int .u32 820201905, .int .u32 1098587580, .int .u32 1361435347, .int .u32 1640403810, .int .u32 1905808397, .int .u32 2197175160, .int .u32 2460548119, .int .u32 2722870694, .int .u32 2987750089, .int .u32 3280807620, .int .u32 3553878443, .int .u32 3811616794, .int .u32 4084100981])]
theorem Tryd.laid_met (os : Os) (args : Array Value) : laidMetH Tryd.prog Tryd.laid ((laidWorld Tryd.prog os Tryd.lays).forCall (fun _ _ => 0) ⟨#[], args, []⟩).memory :=
  (laidMet_of_run' 8 (by kernel_rfl) (by kernel_rfl) : laidMet Tryd.prog Tryd.laid _)
end Go.Proofs.YtfilinonmngefaaDoor
