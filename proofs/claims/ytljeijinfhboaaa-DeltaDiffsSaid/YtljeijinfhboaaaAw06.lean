/- awake of layer 06. -/
import Derived.Test.YtljeijinfhboaaaAwm
namespace Go.Proofs.Ytljeijinfhboaaa
open Go Go.Av
theorem awake06 : ACon Try.prog 10 [] (.p (B true)) := xCall_sound Try.tab Try.mixed base_ok 40 _ _ _ _ (by kernel_rfl)
end Go.Proofs.Ytljeijinfhboaaa
