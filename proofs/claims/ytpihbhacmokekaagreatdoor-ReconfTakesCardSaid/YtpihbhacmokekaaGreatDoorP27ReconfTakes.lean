/- Texts that the proof needs: XJ. -/
import Derived.Test.YtpihbhacmokekaaGreatDoorP26ReconfTakes
namespace Go.Proofs.YtpihbhacmokekaaGreatDoor
set_option linter.unusedSimpArgs false
set_option linter.unusedVariables false
open Go Go.Av
attribute [local irreducible] Go.Av.yJ Go.Av.zU Go.Av.yC Go.Av.zQ Go.Av.yG Go.Av.zV Go.Av.Con
structure Tx where
 (e n s x r b:Int)
 (m:List UInt8)
 (ps:List Pt)
 deriving DecidableEq
def Tx.cells (t:Tx):List PV:=[I t.e,I t.n,I t.s,I t.x,I t.r,I t.b,SB t.m,.sl 11 (pts t.ps)]
attribute [-simp] pts_getElem
end Go.Proofs.YtpihbhacmokekaaGreatDoor
