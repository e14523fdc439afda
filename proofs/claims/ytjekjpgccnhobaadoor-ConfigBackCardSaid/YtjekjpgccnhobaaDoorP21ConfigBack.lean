/- Texts that the proof needs: AvTup. -/
import Derived.Test.YtjekjpgccnhobaaDoorP14ConfigBack
namespace Go.Av
open Go
set_option linter.unusedVariables false
end Go.Av
