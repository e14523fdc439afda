/- The closed call of layer 3. -/
import Derived.Test.YtpbmicfbghnmeaaDoorExt
namespace Go.Proofs.YtpbmicfbghnmeaaDoor
open Go Go.Av
theorem awake03 : ACon Tryd.prog 9 [] (.p (B true)) := xCall_sound Tryd.tab Tryd.mixed xbase_ok 40 _ _ _ _ (by kernel_rfl)
end Go.Proofs.YtpbmicfbghnmeaaDoor
