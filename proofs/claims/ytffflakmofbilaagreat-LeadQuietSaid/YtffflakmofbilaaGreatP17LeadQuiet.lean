/- Texts that the proof needs: WS. -/
import Derived.Test.YtffflakmofbilaaGreatP12LeadQuiet
namespace Go.Proofs.YtffflakmofbilaaGreat
open Go Go.Av
theorem yR (k n : Nat) (h : k < n) (hn : n <= 9223372036854775807) : IntKind.i64.wrap ((k : Int) + 1) = ((k + 1 : Nat) : Int) := by
 rw [yV] <;> omega
end Go.Proofs.YtffflakmofbilaaGreat
