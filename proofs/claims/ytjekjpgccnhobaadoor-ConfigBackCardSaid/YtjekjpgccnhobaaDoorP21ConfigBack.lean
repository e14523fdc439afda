/- Texts that the proof needs: AvTup. -/
import Derived.Test.YtjekjpgccnhobaaDoorP14ConfigBack
/- A row handed back beside a value may be taken as the slice that it is. -/
namespace Go.Av
open Go
set_option linter.unusedVariables false
end Go.Av
