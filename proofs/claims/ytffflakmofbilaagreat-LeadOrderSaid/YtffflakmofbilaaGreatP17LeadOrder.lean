/- Texts that the proof needs: WS. -/
import Derived.Test.YtffflakmofbilaaGreatP12LeadOrder
namespace Go.Proofs.YtffflakmofbilaaGreat
open Go Go.Av
theorem yF (k n : Nat) (h : k < n) (hn : n <= 9223372036854775807) : IntKind.i64.wrap ((k : Int) + 1) = ((k + 1 : Nat) : Int) := by
 rw [yV] <;> omega
end Go.Proofs.YtffflakmofbilaaGreat
