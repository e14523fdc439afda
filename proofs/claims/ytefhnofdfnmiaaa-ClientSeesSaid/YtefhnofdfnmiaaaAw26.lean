/- awake of layer 26. -/
import Derived.Test.YtefhnofdfnmiaaaAwm
namespace Go.Proofs.Ytefhnofdfnmiaaa
open Go Go.Av
theorem awake26 : ACon Try.prog 6 [] (.p (B true)) := xCall_sound Try.tab Try.mixed base_ok 40 _ _ _ _ (by kernel_rfl)
end Go.Proofs.Ytefhnofdfnmiaaa
