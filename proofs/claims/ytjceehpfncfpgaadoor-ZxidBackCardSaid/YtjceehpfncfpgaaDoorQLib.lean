/- Small functions of the library; the closed calls of layers 5 and 17. -/
import Derived.Test.YtjceehpfncfpgaaDoorTab
import Derived.Test.YtjceehpfncfpgaaDoorAvRun
import Derived.WalkKit
namespace Go.Proofs.YtjceehpfncfpgaaDoor
set_option linter.unusedSimpArgs false
set_option linter.unusedVariables false
open Go Go.Av
attribute [local simp] Tryd.T1 Tryd.T2 Tryd.T3 Tryd.T4 Tryd.T5 Tryd.T9 Tryd.T12 Tryd.T21 Tryd.T23 Tryd.T24 Tryd.T25 Tryd.T27 Tryd.T28 Tryd.T29 Tryd.T30 Tryd.T31 Tryd.T33 Tryd.T34 Tryd.T35 Tryd.T36 Tryd.T37 Tryd.T38 Tryd.T39 Tryd.T40 Tryd.T41 Tryd.T42 Tryd.T44 Tryd.T45 Tryd.T47 Tryd.T49 Tryd.T50 Tryd.T51 Tryd.T52 Tryd.T53 Tryd.T54 Tryd.T55 Tryd.T56 Tryd.T57 Tryd.T59 Tryd.T60 Tryd.T61 Tryd.T62 Tryd.T63 Tryd.T64 Tryd.T66 Tryd.T68 Tryd.T69 Tryd.T70 Tryd.T71 Tryd.T72 Tryd.T73 Tryd.T75 Tryd.T76 Tryd.T77 Tryd.T78 Tryd.T79 Tryd.T80 Tryd.T81 Tryd.T83 Tryd.T84 Tryd.T85 Tryd.T86 Tryd.T87 Tryd.T88 Tryd.T89 Tryd.T90 Tryd.T91 Tryd.T92 Tryd.T93 Tryd.T94 Tryd.T95 Tryd.T96 Tryd.T98 Tryd.T99 Tryd.T101 Tryd.T102 Tryd.T104 Tryd.T105 Tryd.T106 Tryd.T108 Tryd.T109 Tryd.T112 Tryd.T113 Tryd.T114 Tryd.T115 Tryd.T116 Tryd.T122 Tryd.T125
attribute [local irreducible] Go.Av.CallK Go.Av.CallE Go.Av.CallQ Go.Av.CallF Go.Av.Con
abbrev RCon (g : FuncId) (args : List V) (e c : Nat) (l : List (List PV)) : Prop := Con Tryd.prog g args [] (.ret (.row 2048) [.row e c l] [])
end Go.Proofs.YtjceehpfncfpgaaDoor
