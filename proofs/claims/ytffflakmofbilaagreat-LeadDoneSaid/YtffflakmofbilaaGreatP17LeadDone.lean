/- Texts that the proof needs: WS. -/
import Derived.Test.YtffflakmofbilaaGreatP12LeadDone
namespace Go.Proofs.YtffflakmofbilaaGreat
open Go Go.Av
theorem yV (k n : Nat) (h : k < n) (hn : n <= 9223372036854775807) : IntKind.i64.wrap ((k : Int) + 1) = ((k + 1 : Nat) : Int) := by
 rw [zD] <;> omega
end Go.Proofs.YtffflakmofbilaaGreat
