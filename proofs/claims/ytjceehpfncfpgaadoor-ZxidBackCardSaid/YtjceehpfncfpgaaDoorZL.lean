/- The closed call of layer 2. -/
import Derived.Test.YtjceehpfncfpgaaDoorExt
namespace Go.Proofs.YtjceehpfncfpgaaDoor
open Go Go.Av
theorem awake02 : ACon Tryd.prog 19 [] (.p (B true)) := xCall_sound Tryd.tab Tryd.mixed xbase_ok 40 _ _ _ _ (by kernel_rfl)
end Go.Proofs.YtjceehpfncfpgaaDoor
