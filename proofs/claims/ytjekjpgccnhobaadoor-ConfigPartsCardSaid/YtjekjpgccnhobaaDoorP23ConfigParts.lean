/- Texts that the proof needs: AvRun. -/
import Derived.Test.YtjekjpgccnhobaaDoorP12ConfigParts
import Derived.Test.YtjekjpgccnhobaaDoorP13ConfigParts
namespace Go.Av
open Go
abbrev CallF' := FuncId -> List V -> List Blk -> Option Out
def R2 (r : AExit × St) (K : St -> Prop) (Z : Value -> St -> Prop) : Prop :=
 match r.1 with
 | .normal=>K r.2
 | .pan y=>Z y r.2
 | _=>False
section
variable {P : Program} {T : TypeId -> Option Ty} {N : Nat} {call : CallF'}
end
end Go.Av
