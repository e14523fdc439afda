/- Texts that the proof needs: AvRun. -/
import Derived.Test.YtleejpddecjhcaaP12RecordHears
import Derived.Test.YtleejpddecjhcaaP13RecordHears
namespace Go.Av
open Go
abbrev CallF' := FuncId -> List V -> List Blk -> Option Out
section
variable {P : Program} {T : TypeId -> Option Ty} {N : Nat} {call : CallF'}
end
end Go.Av
