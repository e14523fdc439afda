/- Texts that the proof needs: AvRun. -/
import Derived.Test.YtjekjpgccnhobaaDoorP12ConfigBack
import Derived.Test.YtjekjpgccnhobaaDoorP13ConfigBack
/- A run on abstract values: what it comes to, the contract says. For calls whose arguments are known. -/
namespace Go.Av
open Go
abbrev CallF' := FuncId → List V → List Blk → Option Out
section
variable {P : Program} {T : TypeId → Option Ty} {N : Nat} {call : CallF'}
end
end Go.Av
