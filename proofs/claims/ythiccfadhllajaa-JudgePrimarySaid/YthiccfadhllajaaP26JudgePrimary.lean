/- Texts that the proof needs: AvTup. -/
import Derived.Test.YthiccfadhllajaaP15JudgePrimary
namespace Go.Av
set_option linter.unusedSimpArgs false
open Go
set_option linter.unusedVariables false
end Go.Av
