/- Texts that the proof needs: AvStr. -/
import Derived.Test.YtffflakmofbilaaGreatP15LeadDone
import Derived.Laws.Strings
namespace Go.Av
open Go
def bs (l : List UInt8) : ByteArray := ⟨l.toArray⟩
theorem bs_all (s : ByteArray) : ∃ l, s = bs l := ⟨s.data.toList, rfl⟩
theorem mk_bs (a : Array UInt8) : ByteArray.mk a = bs a.toList := rfl
theorem bs_list (l : List UInt8) : (bs l).data.toList = l := by simp [bs]
theorem bs_toList (l : List UInt8) : (bs l).toList = l := by rw [ByteArray.toList_eq]; exact bs_list l
attribute [simp] mk_bs bs_toList bs_list
abbrev SB (l : List UInt8) : PV := .v (.string (bs l))
end Go.Av
