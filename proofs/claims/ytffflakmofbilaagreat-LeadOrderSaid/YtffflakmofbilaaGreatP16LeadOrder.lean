/- Texts that the proof needs: AvStr. -/
import Derived.Test.YtffflakmofbilaaGreatP15LeadOrder
import Derived.Laws.Strings
namespace Go.Av
open Go
def bs (l : List UInt8) : ByteArray := ⟨l.toArray⟩
theorem bs_all (s : ByteArray) : ∃ l, s = bs l := ⟨s.data.toList, rfl⟩
theorem mk_bs (a : Array UInt8) : ByteArray.mk a = bs a.toList := rfl
theorem bs_list (l : List UInt8) : (bs l).data.toList = l := by simp [bs]
attribute [simp] mk_bs bs_list
abbrev SB (l : List UInt8) : PV := .v (.string (bs l))
end Go.Av
