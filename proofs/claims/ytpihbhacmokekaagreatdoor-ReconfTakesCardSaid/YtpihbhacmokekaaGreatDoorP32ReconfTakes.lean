/- Texts that the proof needs: AvTup. -/
import Derived.Test.YtpihbhacmokekaaGreatDoorP14ReconfTakes
namespace Go.Av
open Go
set_option linter.unusedVariables false
end Go.Av
