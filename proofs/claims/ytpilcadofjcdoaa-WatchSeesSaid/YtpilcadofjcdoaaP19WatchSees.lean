/- Texts that the proof needs: XA XB. -/
import Derived.Test.YtpilcadofjcdoaaP12WatchSees
import Derived.Test.YtpilcadofjcdoaaP15WatchSees
import Derived.Test.YtpilcadofjcdoaaP17WatchSees
import Derived.Test.YtpilcadofjcdoaaP18WatchSees
import Derived.WalkKit
namespace Go.Proofs.Ytpilcadofjcdoaa
set_option linter.unusedSimpArgs false
set_option linter.unusedVariables false
open Go Go.Av
attribute [local irreducible] Go.Av.yQ Go.Av.zZ Go.Av.yG Go.Av.zT Go.Av.yH Go.Av.zY Go.Av.Con
theorem wrapX (k n : Nat) (h : k < n) (hn : n <= 9223372036854775807) : IntKind.i64.wrap ((k : Int) + 1) = ((k + 1 : Nat) : Int) := by
 rw [yW] <;> omega
def zis (l : List Int) : List (List PV) := l.map fun x => [I x]
@[simp] theorem zis_len (l : List Int) : (zis l).length = l.length := by simp [zis]
@[simp] theorem zis_getElem (l : List Int) (k : Nat) (h : k < (zis l).length) : (zis l)[k] = [I (l[k]'(by simpa using h))] := by simp [zis]
theorem zis_get {l : List Int} {k : Nat} (h : k < l.length) : (zis l)[k]? = some [I l[k]] := by simp [zis, h]
def but (l : List Int) (n : Int) : List Int := l.filter fun x => !decide (x = n)
theorem but_snoc {l : List Int} {k : Nat} (h : k < l.length) (n : Int) : but (l.take (k + 1)) n = if l[k] = n then but (l.take k) n else but (l.take k) n ++ [l[k]] := by
 rw [List.take_succ_eq_append_getElem h]
 unfold but
 rw [List.filter_append]
 by_cases g : l[k] = n <;> simp [g]
theorem but_len (l : List Int) (n : Int) : (but l n).length <= l.length := List.length_filter_le _ _
end Go.Proofs.Ytpilcadofjcdoaa
