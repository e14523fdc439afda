/- The closed call of layer 3. -/
import Derived.Test.YtkeopdjnidmaeaaExt
namespace Go.Proofs.Ytkeopdjnidmaeaa
open Go Go.Av
end Go.Proofs.Ytkeopdjnidmaeaa
