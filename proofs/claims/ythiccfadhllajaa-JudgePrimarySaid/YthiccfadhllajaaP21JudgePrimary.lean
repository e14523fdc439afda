/- Texts that the proof needs: Ext PA PB PL PC. -/
import Derived.Test.YthiccfadhllajaaP19JudgePrimary
import Derived.Test.YthiccfadhllajaaP20JudgePrimary
import Derived.Test.YthiccfadhllajaaP16JudgePrimary
import Derived.Test.YthiccfadhllajaaP17JudgePrimary
import Derived.Test.YthiccfadhllajaaP18JudgePrimary
namespace Go.Proofs.Ythiccfadhllajaa
set_option linter.unusedSimpArgs false
set_option linter.unusedVariables false
open Go Go.Av
end Go.Proofs.Ythiccfadhllajaa
namespace Go.Proofs.Ythiccfadhllajaa
set_option linter.unusedSimpArgs false
set_option linter.unusedVariables false
open Go Go.Av
attribute [local irreducible] Go.Av.CallK Go.Av.CallE Go.Av.CallQ Go.Av.CallF Go.Av.CallR Go.Av.CallH Go.Av.Con
def chr (b : UInt8) : Bool := decide (33 <= b.toNat /\ b.toNat <= 126 /\ b.toNat ≠ 47)
def nm (l : List UInt8) : Bool := decide (1 <= l.length /\ l.length <= 16 /\ l ≠ [46] /\ l ≠ [46, 46]) && l.all chr
def g : List UInt8 -> List UInt8 -> Bool
 | c, [] => nm c
 | c, b :: r => if b = 47 then nm c && g [] r else g (c ++ [b]) r
def nmd : List UInt8 -> Bool
 | [] => false
 | b :: r => if b = 47 then g [] r else false
def chk (l : List UInt8) : Int := if 64 < l.length then 5 else if l = [47] \/ nmd l = true then 0 else 1
end Go.Proofs.Ythiccfadhllajaa
namespace Go.Proofs.Ythiccfadhllajaa
open Go Go.Av
end Go.Proofs.Ythiccfadhllajaa
namespace Go.Proofs.Ythiccfadhllajaa
set_option linter.unusedSimpArgs false
set_option linter.unusedVariables false
open Go Go.Av
attribute [local irreducible] Go.Av.CallK Go.Av.CallE Go.Av.CallQ Go.Av.CallF Go.Av.CallR Go.Av.CallH Go.Av.Con
def lx (l : List UInt8) : Nat -> Nat
 | 0 => 0
 | k + 1 => if l[k]? = some 47 then k else lx l k
def chd (l : List UInt8) : Bool := decide (l ≠ [47] /\ chk l = 0)
def nam (l : List UInt8) : List UInt8 := if chd l = true then l.drop (lx l l.length + 1) else []
end Go.Proofs.Ythiccfadhllajaa
