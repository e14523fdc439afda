/- Small functions of the library; the closed calls of layers 5 and 17. -/
import Derived.Test.YtehopfedgkmalaaTab
import Derived.Test.YtehopfedgkmalaaAvRun
import Derived.WalkKit
namespace Go.Proofs.Ytehopfedgkmalaa
set_option linter.unusedSimpArgs false
set_option linter.unusedVariables false
open Go Go.Av
attribute [local simp] Try.T
attribute [local irreducible] Go.Av.CallK Go.Av.CallE Go.Av.CallQ Go.Av.CallF Go.Av.Con
abbrev RCon (g : FuncId) (args : List V) (e c : Nat) (l : List (List PV)) : Prop := Con Try.prog g args [] (.ret (.row 2048) [.row e c l] [])
theorem awake05 : ACon Try.prog 12 [] (.p (B true)) := xCall_sound Try.tab Try.mixed noBase_ok 40 _ _ _ _ (by kernel_rfl)
theorem awake17 : ACon Try.prog 27 [] (.p (B true)) := xCall_sound Try.tab Try.mixed noBase_ok 40 _ _ _ _ (by kernel_rfl)
end Go.Proofs.Ytehopfedgkmalaa
