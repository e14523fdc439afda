/- Texts that the proof needs: AvRun. -/
import Derived.Test.YtbeofcbehhljdaaGreatDoorP13JournalCrash
import Derived.Test.YtbeofcbehhljdaaGreatDoorP14JournalCrash
namespace Go.Av
open Go
abbrev CallF' := FuncId -> List V -> List Blk -> Option Out
section
variable {P : Program} {T : TypeId -> Option Ty} {N : Nat} {call : CallF'}
end
end Go.Av
