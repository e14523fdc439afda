/- Texts that the proof needs: WS. -/
import Derived.Test.YtpihbhacmokekaaGreatDoorP12ReconfTakes
namespace Go.Proofs.YtpihbhacmokekaaGreatDoor
open Go Go.Av
theorem yU (k n:Nat)(h:k<n)(hn:n<=9223372036854775807):IntKind.i64.wrap ((k:Int)+1)=((k+1:Nat):Int):=by
 rw[zF] <;> omega
end Go.Proofs.YtpihbhacmokekaaGreatDoor
