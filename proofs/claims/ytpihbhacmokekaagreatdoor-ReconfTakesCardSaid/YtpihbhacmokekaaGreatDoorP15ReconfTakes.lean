/- Texts that the proof needs: AvExt. -/
import Derived.Test.YtpihbhacmokekaaGreatDoorP14ReconfTakes
import Derived.Laws.Externs
import Derived.Lib.Bytealg
namespace Go.Av
open Go
end Go.Av
