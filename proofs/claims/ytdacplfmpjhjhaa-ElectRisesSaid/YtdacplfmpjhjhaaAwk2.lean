/- More closed calls (awake), run. -/
import Derived.Test.YtdacplfmpjhjhaaAwk
namespace Go.Proofs.Ytdacplfmpjhjhaa
open Go Go.Av
theorem awake18 : ACon Try.prog 24 [] (.p (B true)) := xCall_sound Try.tab Try.mixed base_ok 40 _ _ _ _ (by kernel_rfl)
theorem awake25 : ACon Try.prog 52 [] (.p (B true)) := xCall_sound Try.tab Try.mixed base_ok 40 _ _ _ _ (by kernel_rfl)
end Go.Proofs.Ytdacplfmpjhjhaa
