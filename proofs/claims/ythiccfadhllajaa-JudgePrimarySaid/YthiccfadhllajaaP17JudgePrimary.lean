/- Texts that the proof needs: AvStr. -/
import Derived.Test.YthiccfadhllajaaP16JudgePrimary
import Derived.Laws.Strings
namespace Go.Av
set_option linter.unusedSimpArgs false
set_option linter.unusedVariables false
open Go
def bs (l : List UInt8) : ByteArray := ⟨l.toArray⟩
theorem bs_all (s : ByteArray) : ∃ l, s = bs l := ⟨s.data.toList, rfl⟩
theorem mk_bs (a : Array UInt8) : ByteArray.mk a = bs a.toList := rfl
theorem bs_list (l : List UInt8) : (bs l).data.toList = l := by simp [bs]
theorem bs_size (l : List UInt8) : (bs l).size = l.length := by simp [bs, ByteArray.size]
theorem bs_toList (l : List UInt8) : (bs l).toList = l := by rw [ByteArray.toList_eq]; exact bs_list l
theorem bs_append (a b : List UInt8) : bs a ++ bs b = bs (a ++ b) := by
 apply ByteArray.ext
 simp [bs]
theorem bs_extract (l : List UInt8) (i j : Nat) : (bs l).extract i j = bs ((l.take j).drop i) := by
 apply ByteArray.ext
 simp [bs, List.drop_take]
theorem bs_get (l : List UInt8) (n : Nat) : (bs l)[n]? = l[n]? := by
 rw [getElem?_def]
 by_cases h : n < l.length
 ·rw [dif_pos (by rw [bs_size]; exact h), List.getElem?_eq_getElem h]
  simp [bs, ByteArray.getElem_eq_getElem_data]
 ·rw [dif_neg (by rw [bs_size]; exact h), List.getElem?_eq_none (by omega)]
theorem bs_getE (l : List UInt8) (n : Nat) (h : n < (bs l).size) : (bs l)[n]'h = l[n]'(by rw [bs_size] at h; exact h) := by
 simp [bs, ByteArray.getElem_eq_getElem_data]
theorem bs_inj {a b : List UInt8} : bs a = bs b ↔ a = b :=
 ⟨fun h => by rw [<- bs_list a, <- bs_list b, h], fun h => by rw [h]⟩
theorem bytesL_bs (l : List UInt8) : bytesL (bs l) = l.map fun b => [.v (.int .u8 b.toNat)] := by simp [bytesL, bs_list]
attribute [simp] mk_bs bs_size bs_toList bs_append bs_extract bs_get bs_getE bs_inj bytesL_bs bs_list
abbrev SB (l : List UInt8) : PV := .v (.string (bs l))
end Go.Av
