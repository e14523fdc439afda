/- Texts that the proof needs: WS. -/
import Derived.Test.YthiccfadhllajaaP13JudgePrimary
namespace Go.Proofs.Ythiccfadhllajaa
set_option linter.unusedSimpArgs false
set_option linter.unusedVariables false
open Go Go.Av
theorem wrapS (k n : Nat) (h : k < n) (hn : n <= 9223372036854775807) : IntKind.i64.wrap ((k : Int) + 1) = ((k + 1 : Nat) : Int) := by
 rw [wrap_id] <;> omega
end Go.Proofs.Ythiccfadhllajaa
