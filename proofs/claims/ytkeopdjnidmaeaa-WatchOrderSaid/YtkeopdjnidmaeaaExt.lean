/- The library's functions that the model itself has; what closed calls lean on. -/
import Derived.Test.YtkeopdjnidmaeaaTab
import Derived.Test.YtkeopdjnidmaeaaAvRun
import Derived.Test.YtkeopdjnidmaeaaAvExt
namespace Go.Proofs.Ytkeopdjnidmaeaa
set_option linter.unusedSimpArgs false
set_option linter.unusedVariables false
open Go Go.Av
end Go.Proofs.Ytkeopdjnidmaeaa
