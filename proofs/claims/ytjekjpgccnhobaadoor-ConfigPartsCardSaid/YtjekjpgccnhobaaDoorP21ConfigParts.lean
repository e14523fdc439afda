/- Texts that the proof needs: AvTup. -/
import Derived.Test.YtjekjpgccnhobaaDoorP14ConfigParts
namespace Go.Av
open Go
set_option linter.unusedVariables false
end Go.Av
