/- The library's functions that the model itself has; what closed calls lean on. -/
import Derived.Test.YtpadfoaigbfekaaTab
import Derived.Test.YtpadfoaigbfekaaAvRun
import Derived.Test.YtpadfoaigbfekaaAvExt
namespace Go.Proofs.Ytpadfoaigbfekaa
set_option linter.unusedSimpArgs false
set_option linter.unusedVariables false
open Go Go.Av
end Go.Proofs.Ytpadfoaigbfekaa
