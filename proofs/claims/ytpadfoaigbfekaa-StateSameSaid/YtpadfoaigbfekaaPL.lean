/- The closed call of layer 3. -/
import Derived.Test.YtpadfoaigbfekaaExt
namespace Go.Proofs.Ytpadfoaigbfekaa
open Go Go.Av
end Go.Proofs.Ytpadfoaigbfekaa
