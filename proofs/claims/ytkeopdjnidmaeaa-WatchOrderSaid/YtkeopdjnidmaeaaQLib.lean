/- Small functions of the library; the closed calls of layers 5 and 17. -/
import Derived.Test.YtkeopdjnidmaeaaAvMore
import Derived.Test.YtkeopdjnidmaeaaTab
import Derived.Test.YtkeopdjnidmaeaaAvRun
import Derived.WalkKit
namespace Go.Proofs.Ytkeopdjnidmaeaa
set_option linter.unusedSimpArgs false
set_option linter.unusedVariables false
open Go Go.Av
attribute [local simp] Try.T1 Try.T2 Try.T3 Try.T4 Try.T5 Try.T9 Try.T12 Try.T21 Try.T22 Try.T23 Try.T24 Try.T26 Try.T27 Try.T29 Try.T31 Try.T32 Try.T33 Try.T34 Try.T35 Try.T37 Try.T39 Try.T41 Try.T42 Try.T43 Try.T44 Try.T46 Try.T47 Try.T48 Try.T50 Try.T51 Try.T52 Try.T53 Try.T54 Try.T55 Try.T56 Try.T57 Try.T59 Try.T60 Try.T61 Try.T62 Try.T63 Try.T64 Try.T65 Try.T66 Try.T67 Try.T69 Try.T70 Try.T71 Try.T72 Try.T73 Try.T74 Try.T75 Try.T77 Try.T78 Try.T79 Try.T85 Try.T88 Try.T95
attribute [local irreducible] Go.Av.CallK Go.Av.CallE Go.Av.CallQ Go.Av.CallF Go.Av.CallR Go.Av.CallH Go.Av.Con
abbrev RCon (g : FuncId) (args : List V) (e c : Nat) (l : List (List PV)) : Prop := Con Try.prog g args [] (.ret (.row 2048) [.row e c l] [])
end Go.Proofs.Ytkeopdjnidmaeaa
