/- awake of layer 06. -/
import Derived.Test.YtiemabhnhgablaaAwm
namespace Go.Proofs.Ytiemabhnhgablaa
open Go Go.Av
theorem awake06 : ACon Try.prog 7 [] (.p (B true)) := xCall_sound Try.tab Try.mixed base_ok 40 _ _ _ _ (by kernel_rfl)
end Go.Proofs.Ytiemabhnhgablaa
