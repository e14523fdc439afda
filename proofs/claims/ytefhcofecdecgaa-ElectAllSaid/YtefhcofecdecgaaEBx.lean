/- elect.Hear, put together. -/
import Derived.Test.YtefhcofecdecgaaEBxA
import Derived.Test.YtefhcofecdecgaaEBxB
import Derived.Test.YtefhcofecdecgaaEBxC
import Derived.Test.YtefhcofecdecgaaEBxD
import Derived.Test.YtefhcofecdecgaaEBxE
import Derived.Test.YtefhcofecdecgaaEBxF
import Derived.Test.YtefhcofecdecgaaEBxG
namespace Go.Proofs.Ytefhcofecdecgaa
open Go Go.Av
theorem hear_con (s : Sk) (vs st : List Int) (v : Vt) (hl : s.hd.length ≤ 10000) : ACon Try.prog 36 [.p (.agg s.cells), .p (.sl 1 (ints vs)), .p (.sl 1 (ints st)), .p (.agg v.cells)] (.tup [.p (.agg (hear s vs st v).1.cells), .p (I (hear s vs st v).2)]) := by
  by_cases o1 : v.m = 1
  · by_cases o2 : v.f = s.id
    · exact hear_con_A s vs st v hl (.inr (.inl o2))
    by_cases o3 : v.f ∈ vs
    · by_cases o4 : v.r < s.rd
      · exact hear_con_A s vs st v hl (.inr (.inr (.inr o4)))
      by_cases o5 : s.rd < v.r
      · by_cases o6 : v.c ∈ st
        · by_cases o7 : better v (joined s v.r).now = true
          · exact hear_con_B s vs st v hl o1 o2 o3 o4 o5 o6 o7
          · exact hear_con_C s vs st v hl o1 o2 o3 o4 o5 o6 o7
        · exact hear_con_D s vs st v hl o1 o2 o3 o4 o5 o6
      · by_cases o6 : v.c ∈ st
        · by_cases o7 : better v s.now = true
          · exact hear_con_E s vs st v hl o1 o2 o3 o4 o5 o6 o7
          · exact hear_con_F s vs st v hl o1 o2 o3 o4 o5 o6 o7
        · exact hear_con_G s vs st v hl o1 o2 o3 o4 o5 o6
    · exact hear_con_A s vs st v hl (.inr (.inr (.inl o3)))
  · exact hear_con_A s vs st v hl (.inl o1)
end Go.Proofs.Ytefhcofecdecgaa
