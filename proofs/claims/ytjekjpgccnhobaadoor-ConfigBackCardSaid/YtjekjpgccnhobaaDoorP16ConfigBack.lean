/- Texts that the proof needs: AvStr. -/
import Derived.Test.YtjekjpgccnhobaaDoorP15ConfigBack
import Derived.Laws.Strings
namespace Go.Av
open Go
def bs (l : List UInt8) : ByteArray := ⟨l.toArray⟩
theorem mk_bs (a : Array UInt8) : ByteArray.mk a = bs a.toList := rfl
theorem bs_list (l : List UInt8) : (bs l).data.toList = l := by simp [bs]
theorem bs_append (a b : List UInt8) : bs a ++ bs b = bs (a ++ b) := by
 apply ByteArray.ext
 simp [bs]
attribute [simp] mk_bs bs_append bs_list
abbrev SB (l : List UInt8) : PV := .v (.string (bs l))
end Go.Av
