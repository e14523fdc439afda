/- Texts that the proof needs: XJ. -/
import Derived.Test.YtffflakmofbilaaGreatP22LeadOrder
namespace Go.Proofs.YtffflakmofbilaaGreat
set_option linter.unusedSimpArgs false
set_option linter.unusedVariables false
open Go Go.Av
attribute [local irreducible] Go.Av.yA Go.Av.zR Go.Av.xZ Go.Av.zJ Go.Av.xV Go.Av.zG Go.Av.Con
structure Tx where
 (e n s x r b : Int)
 (m : List UInt8)
 (ps : List Pt)
 deriving DecidableEq
def Tx.cells (t : Tx) : List PV := [I t.e, I t.n, I t.s, I t.x, I t.r, I t.b, SB t.m, .sl 11 (pts t.ps)]
attribute [-simp] pts_getElem
end Go.Proofs.YtffflakmofbilaaGreat
