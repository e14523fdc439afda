/- Texts that the proof needs: AvStr. -/
import Derived.Test.YtleejpddecjhcaaP15RecordHears
import Derived.Laws.Strings
namespace Go.Av
open Go
def bs (l : List UInt8) : ByteArray := ⟨l.toArray⟩
theorem mk_bs (a : Array UInt8) : ByteArray.mk a = bs a.toList := rfl
theorem bs_list (l : List UInt8) : (bs l).data.toList = l := by simp [bs]
theorem bs_size (l : List UInt8) : (bs l).size = l.length := by simp [bs, ByteArray.size]
theorem bs_toList (l : List UInt8) : (bs l).toList = l := by rw [ByteArray.toList_eq]; exact bs_list l
theorem bytesL_bs (l : List UInt8) : bytesL (bs l) = l.map fun b => [.v (.int .u8 b.toNat)] := by simp [bytesL, bs_list]
attribute [simp] mk_bs bs_size bs_toList bytesL_bs bs_list
abbrev SB (l : List UInt8) : PV := .v (.string (bs l))
end Go.Av
