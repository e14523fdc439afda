/- Texts that the proof needs: AvStr. -/
import Derived.Test.YtjekjpgccnhobaaDoorP15ConfigParts
import Derived.Laws.Strings
namespace Go.Av
open Go
def bs (l : List UInt8) : ByteArray := ⟨l.toArray⟩
theorem mk_bs (a : Array UInt8) : ByteArray.mk a = bs a.toList := rfl
theorem bs_list (l : List UInt8) : (bs l).data.toList = l := by simp [bs]
theorem bs_size (l : List UInt8) : (bs l).size = l.length := by simp [bs, ByteArray.size]
theorem bs_toList (l : List UInt8) : (bs l).toList = l := by rw [ByteArray.toList_eq]; exact bs_list l
theorem bs_append (a b : List UInt8) : bs a ++ bs b = bs (a ++ b) := by
 apply ByteArray.ext
 simp [bs]
theorem bs_extract (l : List UInt8) (i j : Nat) : (bs l).extract i j = bs ((l.take j).drop i) := by
 apply ByteArray.ext
 simp [bs,List.drop_take]
theorem bs_getE (l : List UInt8) (n : Nat) (h : n < (bs l).size) : (bs l)[n]'h = l[n]'(by rw [bs_size] at h; exact h) := by
 simp [bs,ByteArray.getElem_eq_getElem_data]
theorem bytesL_bs (l : List UInt8) : xL (bs l) = l.map fun b => [.v (.int .u8 b.toNat)] := by simp [xL, bs_list]
attribute [simp] mk_bs bs_size bs_toList bs_append bs_extract bs_getE bytesL_bs bs_list
abbrev SB (l : List UInt8) : PV := .v (.string (bs l))
end Go.Av
