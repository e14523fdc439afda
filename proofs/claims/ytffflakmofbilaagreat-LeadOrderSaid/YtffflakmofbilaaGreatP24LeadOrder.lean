/- Texts that the proof needs: XK ZC ZA HF XA HM QB. -/
import Derived.Test.YtffflakmofbilaaGreatP23LeadOrder
import Derived.Test.YtffflakmofbilaaGreatP22LeadOrder
import Derived.Test.YtffflakmofbilaaGreatP14LeadOrder
import Derived.Test.YtffflakmofbilaaGreatP18LeadOrder
import Derived.Test.YtffflakmofbilaaGreatP16LeadOrder
import Derived.Test.YtffflakmofbilaaGreatP19LeadOrder
import Derived.WalkKit
namespace Go.Proofs.YtffflakmofbilaaGreat
set_option linter.unusedSimpArgs false
set_option linter.unusedVariables false
open Go Go.Av
attribute [local irreducible] Go.Av.yA Go.Av.zR Go.Av.xZ Go.Av.zJ Go.Av.xV Go.Av.zG Go.Av.Con
def yW (l : List Tx) : List (List PV) := l.map Tx.cells
@[simp] theorem txns_len (l : List Tx) : (yW l).length = l.length := by simp [yW]
@[simp] theorem txns_getElem (l : List Tx) (k : Nat) (h : k < (yW l).length) : (yW l)[k] = [I (l[k]'(by simpa using h)).e, I (l[k]'(by simpa using h)).n, I (l[k]'(by simpa using h)).s, I (l[k]'(by simpa using h)).x, I (l[k]'(by simpa using h)).r, I (l[k]'(by simpa using h)).b, SB (l[k]'(by simpa using h)).m, .sl 11 (pts (l[k]'(by simpa using h)).ps)] := by simp [yW, Tx.cells]
theorem wC {l : List Tx} {k : Nat} (h : k < l.length) : (yW l)[k]? = some [I l[k].e, I l[k].n, I l[k].s, I l[k].x, I l[k].r, I l[k].b, SB l[k].m, .sl 11 (pts l[k].ps)] := by simp [yW, h, Tx.cells]
theorem isNaN_con (n : Int) : zB Tryz.prog 139 [.p (I n)] (.p (B false)) := by
 refine zK Tryz.tab Tryz.mixed Tryz.func139 rfl rfl Tryz.ntmps139 (by simp) (by simp) fun Q hr hn=>?_
 repeat' first|(refine hK _ ?_;clear hK)|(refine zT fun K hK=>?_)|(refine zS ?_;simp only [tZ,tY,strip])|(refine wOs fun K hK=>?_;simp)|(refine zL ?_;try simp)|(refine wOn ?_;try simp only [zZ])
 apply hr
 simp [Tryz.f139]
def cmpInt (a b : Int) : Int := if a < b then -1 else if b < a then 1 else 0
theorem compare_con (a b : Int) : zB Tryz.prog 115 [.p (I a), .p (I b)] (.p (I (cmpInt a b))) := by
 refine zK Tryz.tab Tryz.mixed Tryz.func115 rfl rfl Tryz.ntmps115 (by simp) (by simp) fun Q hr hn=>?_
 repeat' first|(refine hK _ ?_;clear hK)|(refine zT fun K hK=>?_)|(refine zS ?_;simp only [tZ,tY,strip])|((first | refine wOs fun K hK=>?_ | refine zY ?_ | refine zW ?_);simp)|((first | refine zL ?_ | refine zP ?_);try simp)|(refine wOn ?_;try simp only [zZ])|(refine zR.pure (isNaN_con _) rfl ?_)|(refine And.intro (fun _=>?_) (fun _=>?_))
 all_goals (apply hr;simp [Tryz.f115,cmpInt];try omega)
def orL : List Int -> Int
 | []=>0
 | a :: l=>if a = 0 then orL l else a
theorem or_con (l : List Int) : zB Tryz.prog 114 [.p (.sl 1 (l.map fun n => [I n]))] (.p (I (orL l))) := by
 refine zB.len ⟨Tryz.f114,Tryz.func114,rfl,rfl⟩ 0 _ _ rfl fun hlen=>?_
 simp only [List.length_map] at hlen
 refine zK Tryz.tab Tryz.mixed Tryz.func114 rfl rfl Tryz.ntmps114 (by simp) (by simp) fun Q hr hn=>?_
 repeat' first|(refine hK _ ?_;clear hK)|(refine zT fun K hK=>?_)|(refine zS ?_;simp only [tZ,tY,strip])|(refine wOs fun K hK=>?_;simp)|(first | refine zU ?_)|(refine wOn ?_;try simp only [zZ])
 refine yJ (fun n st=>∃ k,k + n = l.length /\ st.s 6 = .p (.sl 1 (l.map fun n=>[I n])) /\ st.s 7 = .p (I l.length) /\ st.s 8 = .p (I k) /\ st.s 3 = .p (I 0) /\ orL (l.drop k) = orL l) l.length ⟨0,by simp⟩ fun K n st hL ⟨k,hk,h6,h7,h8,h3,hor⟩=>?_
 by_cases hlt : k < l.length
 ·have hw := yF k _ hlt hlen
  have hd : l.drop k = l[k] :: l.drop (k + 1):=List.drop_eq_getElem_cons hlt
  have he : l[k]? = some l[k]:=List.getElem?_eq_getElem hlt
  rw [hd,orL] at hor
  repeat' first|(refine hK _ ?_;clear hK)|(refine zT fun K hK=>?_)|(refine zS ?_;simp only [tZ,tY,strip])|((first | refine wOs fun K hK=>?_ | refine zW ?_);simp [h6,h7,h8,h3,hlt,hw])|(first | refine zU ?_)|((first | refine zL ?_ | refine zP ?_);try simp)|(refine wOn ?_;try simp only [zZ])|(refine And.intro (fun hc=>?_) (fun hc=>?_))
  ·apply hr
   simp [Tryz.f114]
   rw [if_neg hc] at hor;exact hor.symm
  ·refine hL _ (n - 1) (by omega) ⟨k + 1, by omega, ?_⟩
   rw [if_pos hc] at hor
   simp [h6,h7,h3,hor]
 ·have hd : l.drop k = [] := List.drop_of_length_le (by omega)
  rw [hd] at hor
  repeat' first|(refine hK _ ?_;clear hK)|(clear hK;refine hK _ ?_;clear hK)|(refine zT fun K hK=>?_)|(refine zS ?_;simp only [tZ,tY,strip])|((first | refine wOs fun K hK=>?_ | refine zW ?_);simp [h7,h8,h3,hlt])|((first | refine zL ?_ | refine zC ?_);try simp)|(refine wOn ?_;try simp only [zZ])
  apply hr
  simp [Tryz.f114,<- hor,orL]
def xN (a b c d : Int) : Int := if a = c /\ b = d then 0 else orL [cmpInt a c, cmpInt b d]
theorem uD (a b c d : Int) : zB Tryz.prog 84 [.p (.agg [I a, I b]), .p (.agg [I c, I d])] (.p (I (xN a b c d))) := by
 have hor:=or_con [cmpInt a c,cmpInt b d]
 simp only [tZ,tY] at hor
 by_cases hab : a = c /\ b = d
 ·obtain ⟨rfl, rfl⟩ := hab
  refine zK Tryz.tab Tryz.mixed Tryz.func84 rfl rfl Tryz.ntmps84 (by simp) (by simp) fun Q hr hn=>?_
  repeat' first|(refine hK _ ?_;clear hK)|(refine zT fun K hK=>?_)|(refine zS ?_;simp only [tZ,tY,strip])|((first | refine wOs fun K hK=>?_ | refine zW ?_);simp)|(refine zL ?_;try simp)|(refine wOn ?_;try simp only [zZ])
  apply hr
  simp [Tryz.f84,xN]
 ·refine zK Tryz.tab Tryz.mixed Tryz.func84 rfl rfl Tryz.ntmps84 (by simp) (by simp) fun Q hr hn => ?_
  repeat' first|(refine hK _ ?_;clear hK)|(refine zT fun K hK=>?_)|((first | refine zS ?_ | refine yZ rfl (by kernel_rfl) ?_);simp only [tZ,tY,strip])|((first | refine wOs fun K hK=>?_ | refine wQs fun K hK=>?_ | refine zM ?_ | refine zW ?_);simp [hab])|((first | refine zL ?_ | refine zP ?_);try simp)|((first | refine wOn ?_ | refine wQn ?_);try simp only [zZ])|(refine zJ.pure (compare_con _ _) rfl ?_)|(refine zJ.pure (hor) rfl ?_)|(intro _)
  all_goals first | skip
  apply hr
  simp [Tryz.f84,xN,hab]
theorem zcmp_spec (a b c d : Int) : xN a b c d = if a = c /\ b = d then 0 else if a < c \/ (a = c /\ b < d) then -1 else 1 := by
 unfold xN cmpInt
 simp only [orL]
 repeat' split
 all_goals omega
theorem cmp02_con (a b c d : Int) : zB Tryz.prog 17 [.p (.agg [I a, I b]), .p (.agg [I c, I d])] (.p (I (xN a b c d))) := by
 rw [zcmp_spec]
 by_cases hab : a = c /\ b = d
 ·rw [if_pos hab]
  obtain ⟨rfl,rfl⟩:=hab
  refine zK Tryz.tab Tryz.mixed Tryz.func17 rfl rfl Tryz.ntmps17 (by simp) (by simp) fun Q hr hn=>?_
  repeat' first|(refine hK _ ?_;clear hK)|(refine zT fun K hK=>?_)|(refine zS ?_;simp only [tZ,tY,strip])|((first | refine wOs fun K hK=>?_ | refine zW ?_);simp)|(first | refine zU ?_)|(refine zL ?_;try simp)|(refine wOn ?_;try simp only [zZ])
  all_goals apply hr
  all_goals simp [Tryz.f17]
 ·rw [if_neg hab]
  by_cases h1 : a < c
  ·have h2 : ¬ a = c := by omega
   refine zK Tryz.tab Tryz.mixed Tryz.func17 rfl rfl Tryz.ntmps17 (by simp) (by simp) fun Q hr hn=>?_
   repeat' first|(refine hK _ ?_;clear hK)|(refine zT fun K hK=>?_)|(refine zS ?_;simp only [tZ,tY,strip])|((first | refine wOs fun K hK=>?_ | refine zW ?_);simp [h1,h2])|(first | refine zU ?_)|(refine zL ?_;try simp)|(refine wOn ?_;try simp only [zZ])
   all_goals first | skip
   all_goals apply hr
   all_goals simp [Tryz.f17,h1]
  ·by_cases h2 : a = c
   ·by_cases h3 : b < d
    ·have h4 : ¬ b = d := by omega
     refine zK Tryz.tab Tryz.mixed Tryz.func17 rfl rfl Tryz.ntmps17 (by simp) (by simp) fun Q hr hn=>?_
     repeat' first|(refine hK _ ?_;clear hK)|(refine zT fun K hK=>?_)|(refine zS ?_;simp only [tZ,tY,strip])|((first | refine wOs fun K hK=>?_ | refine zW ?_);simp [h2,h3,h4])|(first | refine zU ?_)|(refine zL ?_;try simp)|(refine wOn ?_;try simp only [zZ])
     all_goals first | skip
     all_goals apply hr
     all_goals simp [Tryz.f17,h2,h3]
    ·have h4 : ¬ b = d := fun h => hab ⟨h2, h⟩
     refine zK Tryz.tab Tryz.mixed Tryz.func17 rfl rfl Tryz.ntmps17 (by simp) (by simp) fun Q hr hn=>?_
     repeat' first|(refine hK _ ?_;clear hK)|(refine zT fun K hK=>?_)|(refine zS ?_;simp only [tZ,tY,strip])|((first | refine wOs fun K hK=>?_ | refine zW ?_);simp [h2,h3,h4])|(first | refine zU ?_)|((first | refine zL ?_ | refine zP ?_);try simp)|(refine wOn ?_;try simp only [zZ])
     all_goals first | skip
     all_goals apply hr
     all_goals simp [Tryz.f17,h2,h3]
   ·refine zK Tryz.tab Tryz.mixed Tryz.func17 rfl rfl Tryz.ntmps17 (by simp) (by simp) fun Q hr hn => ?_
    repeat' first|(refine hK _ ?_;clear hK)|(refine zT fun K hK=>?_)|(refine zS ?_;simp only [tZ,tY,strip])|((first | refine wOs fun K hK=>?_ | refine zW ?_);simp [h1,h2])|(first | refine zU ?_)|((first | refine zL ?_ | refine zP ?_);try simp)|(refine wOn ?_;try simp only [zZ])
    all_goals first | skip
    all_goals apply hr
    all_goals simp [Tryz.f17,h1,h2]
theorem counts_con (n : Int) : zB Tryz.prog 106 [.p (I n)] (.p (B (decide (0 <= n /\ n <= 1099511627776)))) := by
 by_cases h1 : 0 <= n <;> by_cases h2 : n <= 1099511627776
 all_goals (have h1' : (n ≥ 0) ↔ (0 <= n):=Iff.rfl)
 all_goals refine zK Tryz.tab Tryz.mixed Tryz.func106 rfl rfl Tryz.ntmps106 (by simp) (by simp) fun Q hr hn=>?_
 all_goals repeat' first|(refine hK _ ?_;clear hK)|(refine zT fun K hK=>?_)|(refine zS ?_;simp only [tZ,tY,strip])|(refine wOs fun K hK=>?_;simp [h1,h2])|(refine zL ?_;try simp)|(refine wOn ?_;try simp only [zZ])
 all_goals apply hr
 all_goals simp [Tryz.f106,h1,h2]
def uG (e n : Int) : Int := if ¬ (0 <= e /\ e <= 1099511627776) \/ n < 0 then 1 else if 1099511627776 <= n then 5 else 0
def uH (e n : Int) : Int × Int := if uG e n = 0 then (e, n + 1) else (0, 0)
theorem next_con (e n : Int) : zB Tryz.prog 76 [.p (.agg [I e, I n])] (.tup [.p (.agg [I (uH e n).1, I (uH e n).2]), .p (I (uG e n))]) := by
 have hc:=counts_con e
 by_cases h1 : 0 <= e /\ e <= 1099511627776
 ·rw [decide_eq_true h1] at hc
  by_cases h2 : n < 0
  ·simp only [uH, uG, h1, h2, or_true, if_true]
   refine zK Tryz.tab Tryz.mixed Tryz.func76 rfl rfl Tryz.ntmps76 (by simp) (by simp) fun Q hr hn=>?_
   repeat' first|(refine hK _ ?_;clear hK)|(refine zT fun K hK=>?_)|(refine zS ?_;simp only [tZ,tY,strip])|((first | refine wOs fun K hK=>?_ | refine zY ?_ | refine zW ?_);simp [h2])|(first | refine zU ?_)|(refine zL ?_;try simp)|(refine wOn ?_;try simp only [zZ])|(refine zR.pure (hc) rfl ?_)
   all_goals apply hr
   all_goals simp [Tryz.f76]
  by_cases h3 : 1099511627776 <= n
  ·simp only [uH, uG, h1, h2, h3, and_self, not_true_eq_false, or_false, if_false, if_true]
   refine zK Tryz.tab Tryz.mixed Tryz.func76 rfl rfl Tryz.ntmps76 (by simp) (by simp) fun Q hr hn=>?_
   repeat' first|(refine hK _ ?_;clear hK)|(refine zT fun K hK=>?_)|(refine zS ?_;simp only [tZ,tY,strip])|((first | refine wOs fun K hK=>?_ | refine zY ?_ | refine zW ?_);simp [h2,h3])|(first | refine zU ?_)|(refine zL ?_;try simp)|(refine wOn ?_;try simp only [zZ])|(refine zR.pure (hc) rfl ?_)
   all_goals apply hr
   all_goals simp [Tryz.f76]
  ·have hw : IntKind.i64.wrap (n + 1) = n + 1 := yV (by omega) (by omega)
   simp only [uH,uG,h1,h2,h3,and_self,not_true_eq_false,or_false,if_false,if_true]
   refine zK Tryz.tab Tryz.mixed Tryz.func76 rfl rfl Tryz.ntmps76 (by simp) (by simp) fun Q hr hn=>?_
   repeat' first|(refine hK _ ?_;clear hK)|(refine zT fun K hK=>?_)|(refine zS ?_;simp only [tZ,tY,strip])|((first | refine wOs fun K hK=>?_ | refine zY ?_ | refine zW ?_);simp [h2,h3,hw])|(first | refine zU ?_)|((first | refine zL ?_ | refine zP ?_);try simp)|(refine wOn ?_;try simp only [zZ])|(refine zR.pure (hc) rfl ?_)
   all_goals apply hr
   all_goals simp [Tryz.f76]
 ·rw [decide_eq_false h1] at hc
  simp only [uH,uG,h1,not_false_eq_true,true_or,if_true]
  refine zK Tryz.tab Tryz.mixed Tryz.func76 rfl rfl Tryz.ntmps76 (by simp) (by simp) fun Q hr hn=>?_
  repeat' first|(refine hK _ ?_;clear hK)|(refine zT fun K hK=>?_)|(refine zS ?_;simp only [tZ,tY,strip])|((first | refine wOs fun K hK=>?_ | refine zY ?_ | refine zW ?_);simp)|(first | refine zU ?_)|(refine zL ?_;try simp)|(refine wOn ?_;try simp only [zZ])|(refine zR.pure (hc) rfl ?_)
  all_goals apply hr
  all_goals simp [Tryz.f76]
theorem next02_con (e n : Int) : zB Tryz.prog 47 [.p (.agg [I e, I n])] (.tup [.p (.agg [I (uH e n).1, I (uH e n).2]), .p (I (uG e n))]) := by
 by_cases h0 : e < 0
 ·have h1 : ¬ (0 <= e /\ e <= 1099511627776) := by omega
  simp only [uH,uG,h1,not_false_eq_true,true_or,if_true]
  refine zK Tryz.tab Tryz.mixed Tryz.func47 rfl rfl Tryz.ntmps47 (by simp) (by simp) fun Q hr hn=>?_
  repeat' first|(refine hK _ ?_;clear hK)|(refine zT fun K hK=>?_)|(refine zS ?_;simp only [tZ,tY,strip])|((first | refine wOs fun K hK=>?_ | refine zW ?_);simp [h0])|(refine zL ?_;try simp)|(refine wOn ?_;try simp only [zZ])
  all_goals apply hr
  all_goals simp [Tryz.f47]
 by_cases h01 : 1099511627776 < e
 ·have h1 : ¬ (0 <= e /\ e <= 1099511627776) := by omega
  simp only [uH,uG,h1,not_false_eq_true,true_or,if_true]
  refine zK Tryz.tab Tryz.mixed Tryz.func47 rfl rfl Tryz.ntmps47 (by simp) (by simp) fun Q hr hn=>?_
  repeat' first|(refine hK _ ?_;clear hK)|(refine zT fun K hK=>?_)|(refine zS ?_;simp only [tZ,tY,strip])|((first | refine wOs fun K hK=>?_ | refine zW ?_);simp [h0,h01])|(refine zL ?_;try simp)|(refine wOn ?_;try simp only [zZ])
  all_goals apply hr
  all_goals simp [Tryz.f47]
 have h1 : 0 <= e /\ e <= 1099511627776:=by omega
 by_cases h2 : n < 0
 ·simp only [uH, uG, h1, h2, or_true, if_true]
  refine zK Tryz.tab Tryz.mixed Tryz.func47 rfl rfl Tryz.ntmps47 (by simp) (by simp) fun Q hr hn=>?_
  repeat' first|(refine hK _ ?_;clear hK)|(refine zT fun K hK=>?_)|(refine zS ?_;simp only [tZ,tY,strip])|((first | refine wOs fun K hK=>?_ | refine zW ?_);simp [h0,h01,h2])|(refine zL ?_;try simp)|(refine wOn ?_;try simp only [zZ])
  all_goals apply hr
  all_goals simp [Tryz.f47]
 by_cases h3 : 1099511627776 <= n
 ·simp only [uH, uG, h1, h2, h3, and_self, not_true_eq_false, or_false, if_false, if_true]
  refine zK Tryz.tab Tryz.mixed Tryz.func47 rfl rfl Tryz.ntmps47 (by simp) (by simp) fun Q hr hn=>?_
  repeat' first|(refine hK _ ?_;clear hK)|(refine zT fun K hK=>?_)|(refine zS ?_;simp only [tZ,tY,strip])|((first | refine wOs fun K hK=>?_ | refine zW ?_);simp [h0,h01,h2,h3])|((first | refine zL ?_ | refine zP ?_);try simp)|(refine wOn ?_;try simp only [zZ])
  all_goals apply hr
  all_goals simp [Tryz.f47]
 ·have hw : IntKind.i64.wrap (n + 1) = n + 1 := yV (by omega) (by omega)
  simp only [uH,uG,h1,h2,h3,and_self,not_true_eq_false,or_false,if_false,if_true]
  refine zK Tryz.tab Tryz.mixed Tryz.func47 rfl rfl Tryz.ntmps47 (by simp) (by simp) fun Q hr hn=>?_
  repeat' first|(refine hK _ ?_;clear hK)|(refine zT fun K hK=>?_)|(refine zS ?_;simp only [tZ,tY,strip])|((first | refine wOs fun K hK=>?_ | refine zW ?_);simp [h0,h01,h2,h3,hw])|((first | refine zL ?_ | refine zP ?_);try simp)|(refine wOn ?_;try simp only [zZ])
  all_goals apply hr
  all_goals simp [Tryz.f47]
def owner (n : Int) : Int := if n < 1 then -1 else n.tmod 16
def uR (e i : Int) : Int := if i < 0 \/ 16 <= i \/ e < 0 then 1 else if 1099511627760 < e then 5 else 0
def xU (e i : Int) : Int := if uR e i ≠ 0 then 0 else if e - e.tmod 16 + i <= e then e - e.tmod 16 + i + 16 else e - e.tmod 16 + i
theorem fresh_con (e i : Int) : zB Tryz.prog 67 [.p (I e), .p (I i)] (.tup [.p (I (xU e i)), .p (I (uR e i))]) := by
 unfold xU uR
 by_cases h1 : i < 0
 ·simp only [h1, true_or, if_true]
  refine zK Tryz.tab Tryz.mixed Tryz.func67 rfl rfl Tryz.ntmps67 (by simp) (by simp) fun Q hr hn=>?_
  repeat' first|(refine hK _ ?_;clear hK)|(refine zT fun K hK=>?_)|(refine zS ?_;simp only [tZ,tY,strip])|((first | refine wOs fun K hK=>?_ | refine zW ?_);simp [h1])|(first | refine zU ?_)|(refine zL ?_;try simp)|(refine wOn ?_;try simp only [zZ])
  all_goals apply hr
  all_goals simp [Tryz.f67]
 by_cases h2 : 16 <= i
 ·simp only [h1, h2, false_or, true_or, if_true]
  refine zK Tryz.tab Tryz.mixed Tryz.func67 rfl rfl Tryz.ntmps67 (by simp) (by simp) fun Q hr hn=>?_
  repeat' first|(refine hK _ ?_;clear hK)|(refine zT fun K hK=>?_)|(refine zS ?_;simp only [tZ,tY,strip])|((first | refine wOs fun K hK=>?_ | refine zW ?_);simp [h1,h2])|(first | refine zU ?_)|(refine zL ?_;try simp)|(refine wOn ?_;try simp only [zZ])
  all_goals apply hr
  all_goals simp [Tryz.f67]
 by_cases h3 : e < 0
 ·simp only [h1, h2, h3, false_or, if_true]
  refine zK Tryz.tab Tryz.mixed Tryz.func67 rfl rfl Tryz.ntmps67 (by simp) (by simp) fun Q hr hn=>?_
  repeat' first|(refine hK _ ?_;clear hK)|(refine zT fun K hK=>?_)|(refine zS ?_;simp only [tZ,tY,strip])|((first | refine wOs fun K hK=>?_ | refine zW ?_);simp [h1,h2,h3])|(first | refine zU ?_)|(refine zL ?_;try simp)|(refine wOn ?_;try simp only [zZ])
  all_goals apply hr
  all_goals simp [Tryz.f67]
 by_cases h4 : 1099511627760 < e
 ·simp only [h1, h2, h3, h4, or_self, if_true, if_false]
  refine zK Tryz.tab Tryz.mixed Tryz.func67 rfl rfl Tryz.ntmps67 (by simp) (by simp) fun Q hr hn=>?_
  repeat' first|(refine hK _ ?_;clear hK)|(refine zT fun K hK=>?_)|(refine zS ?_;simp only [tZ,tY,strip])|((first | refine wOs fun K hK=>?_ | refine zW ?_);simp [h1,h2,h3,h4])|(first | refine zU ?_)|(refine zL ?_;try simp)|(refine wOn ?_;try simp only [zZ])
  all_goals apply hr
  all_goals simp [Tryz.f67]
 have hm : e.tmod 16 = e % 16:=Int.tmod_eq_emod_of_nonneg (by omega)
 have w0 : IntKind.i64.wrap (e.tmod 16) = e.tmod 16:=yV (by omega) (by omega)
 have w1 : IntKind.i64.wrap (e - e.tmod 16) = e - e.tmod 16:=yV (by omega) (by omega)
 have w2 : IntKind.i64.wrap (e - e.tmod 16 + i) = e - e.tmod 16 + i:=yV (by omega) (by omega)
 have w3 : IntKind.i64.wrap (e - e.tmod 16 + i + 16) = e - e.tmod 16 + i + 16:=yV (by omega) (by omega)
 by_cases h5 : e - e.tmod 16 + i <= e
 ·simp only [h1, h2, h3, h4, h5, or_self, if_true, if_false, ne_eq, not_true_eq_false]
  refine zK Tryz.tab Tryz.mixed Tryz.func67 rfl rfl Tryz.ntmps67 (by simp) (by simp) fun Q hr hn=>?_
  repeat' first|(refine hK _ ?_;clear hK)|(refine zT fun K hK=>?_)|(refine zS ?_;simp only [tZ,tY,strip])|((first | refine wOs fun K hK=>?_ | refine zW ?_);simp [h1,h2,h3,h4,h5,w1,w2,w3])|(first | refine zU ?_)|((first | refine zL ?_ | refine zP ?_);try simp)|(refine wOn ?_;try simp only [zZ])
  all_goals apply hr
  all_goals simp [Tryz.f67]
 ·simp only [h1, h2, h3, h4, h5, or_self, if_false, ne_eq, not_true_eq_false]
  refine zK Tryz.tab Tryz.mixed Tryz.func67 rfl rfl Tryz.ntmps67 (by simp) (by simp) fun Q hr hn=>?_
  repeat' first|(refine hK _ ?_;clear hK)|(refine zT fun K hK=>?_)|(refine zS ?_;simp only [tZ,tY,strip])|((first | refine wOs fun K hK=>?_ | refine zW ?_);simp [h1,h2,h3,h4,h5,w1,w2])|(first | refine zU ?_)|((first | refine zL ?_ | refine zP ?_);try simp)|(refine wOn ?_;try simp only [zZ])
  all_goals apply hr
  all_goals simp [Tryz.f67]
structure Zx where
 (e n : Int)
 deriving DecidableEq
def zxs (l : List Zx) : List (List PV) := l.map fun z => [I z.e, I z.n]
@[simp] theorem zxs_len (l : List Zx) : (zxs l).length = l.length := by simp [zxs]
@[simp] theorem zxs_getE {l : List Zx} {k : Nat} (h : k < (zxs l).length) : (zxs l)[k] = [I (l[k]'(by simpa using h)).e, I (l[k]'(by simpa using h)).n] := by simp [zxs]
def uO : List Zx -> Zx
 | []=>⟨0,0⟩
 | a :: r=>r.foldl (fun m x=>if 0 < xN x.e x.n m.e m.n then x else m) a
theorem lastZ_snoc (l : List Zx) (k : Nat) (h : k < l.length) : uO (l.take (k + 1)) = if k = 0 \/ 0 < xN l[k].e l[k].n (uO (l.take k)).e (uO (l.take k)).n then l[k] else uO (l.take k) := by
 rw [List.take_succ_eq_append_getElem h]
 cases l with
 | nil=>simp at h
 | cons a r =>
  cases k with
  | zero=>simp [uO]
  | succ k =>
   simp only [List.take_succ_cons,List.cons_append,uO,List.foldl_append,List.foldl_cons,List.foldl_nil]
   simp
theorem last02_con (l : List Zx) : zB Tryz.prog 24 [.p (.sl 2 (zxs l))] (.p (.agg [I (uO l).e, I (uO l).n])) := by
 refine zB.len ⟨Tryz.f24,Tryz.func24,rfl,rfl⟩ 0 _ _ rfl fun hlen=>?_
 simp only [zxs_len] at hlen
 have hs:=fun k h=>lastZ_snoc l k h
 have h0 : uO (l.take 0) = ⟨0,0⟩:=rfl
 have hfin : uO l = uO (l.take l.length):=by rw [List.take_length]
 refine zK Tryz.tab Tryz.mixed Tryz.func24 rfl rfl Tryz.ntmps24 (by simp) (by simp) fun Q hr hn=>?_
 repeat' first|(refine hK _ ?_;clear hK)|(refine zT fun K hK=>?_)|(refine zS ?_;simp only [tZ,tY,strip])|(refine wOs fun K hK=>?_;simp)|(first | refine zU ?_)|(refine wOn ?_;try simp only [zZ])
 refine yJ (fun N st => ∃ k, k + N = l.length /\ ∃ m : Zx, m = uO (l.take k) /\ st.s 2 = .ptr 2 0 /\ st.s 3 = .ptr 3 0 /\ st.b 3 = some (.box 25 [.p (I m.e), .p (I m.n)]) /\ st.b 2 = some (.box 25 [.p (I 0), .p (I 0)]) ∧
  st.s 7 = .p (.sl 2 (zxs l)) /\ st.s 8 = .p (I l.length) /\ st.s 9 = .p (I k)) l.length ⟨0,by simp,⟨0,0⟩,h0.symm,by simp⟩ fun K N st hL ⟨k,hk,m,hm,g2,g3,b3,b2,g6,g7,g8⟩=>?_
 by_cases hlt : k < l.length
 ·have hw := yF k _ hlt (by omega)
  have hsk:=hs k hlt
  rw [<- hm] at hsk
  have c1:=cmp02_con l[k].e l[k].n m.e m.n
  by_cases k0 : k = 0
  ·rw [if_pos (.inl k0)] at hsk
   subst k0
   repeat' first|(refine hK _ ?_;clear hK)|(refine zT fun K hK=>?_)|(refine zS ?_;simp only [tZ,tY,strip])|((first | refine wOs fun K hK=>?_ | refine zW ?_);simp [g3,b3,g6,g7,g8,hlt])|(first | refine zU ?_)|(refine zP ?_;try simp)|(refine wOn ?_;try simp only [zZ])
   refine hL _ (N - 1) (by omega) ⟨1,by omega,_,hsk.symm,?_⟩
   simp [g2,g3,b2,g6,g7,show IntKind.i64.wrap 1 = 1 from rfl]
  ·have k0' : ¬ (k : Int) = 0 := by omega
   by_cases hg : 0 < xN l[k].e l[k].n m.e m.n
   ·rw [if_pos (.inr hg)] at hsk
    generalize xN l[k].e l[k].n m.e m.n = q at c1 hg
    repeat' first|(refine hK _ ?_;clear hK)|(refine zT fun K hK=>?_)|(refine zS ?_;simp only [tZ,tY,strip])|((first | refine wOs fun K hK=>?_ | refine zY ?_ | refine zW ?_);simp [g3,b3,g6,g7,g8,hlt,hw,k0,hg])|(first | refine zU ?_)|(refine zP ?_;try simp)|(refine wOn ?_;try simp only [zZ])|(refine zR.pure (c1) rfl ?_)
    refine hL _ (N - 1) (by omega) ⟨k + 1,by omega,_,hsk.symm,?_⟩
    simp [g2,g3,b2,g6,g7]
   ·rw [if_neg (fun h => h.elim k0 hg)] at hsk
    generalize xN l[k].e l[k].n m.e m.n = q at c1 hg
    repeat' first|(refine hK _ ?_;clear hK)|(refine zT fun K hK=>?_)|(refine zS ?_;simp only [tZ,tY,strip])|((first | refine wOs fun K hK=>?_ | refine zY ?_ | refine zW ?_);simp [g3,b3,g6,g7,g8,hlt,hw,k0,hg])|(first | refine zU ?_)|(refine zP ?_;try simp)|(refine wOn ?_;try simp only [zZ])|(refine zR.pure (c1) rfl ?_)
    refine hL _ (N - 1) (by omega) ⟨k + 1,by omega,_,hsk.symm,?_⟩
    simp [g2,g3,b3,b2,g6,g7]
 ·have : k = l.length := by omega
  subst this
  rw [<- hfin] at hm
  subst hm
  repeat' first|(refine hK _ ?_;clear hK)|(clear hK;refine hK _ ?_;clear hK)|(refine zT fun K hK=>?_)|(refine zS ?_;simp only [tZ,tY,strip])|((first | refine wOs fun K hK=>?_ | refine zW ?_);simp [g2,g3,b3,b2,g7,g8])|((first | refine zL ?_ | refine zC ?_);try simp)|(refine wOn ?_;try simp only [zZ])
  all_goals apply hr
  all_goals simp [Tryz.f24,g2]
structure Hy where
 (im : Sv)
 (lg : List Tx)
 deriving DecidableEq
def Hy.cells (h : Hy) : List PV := [.sl 5 (zns h.im.ns), .sl 1 (ints h.im.ss), I h.im.nx, I h.im.c.ep, I h.im.c.n, I h.im.c.kind, .sl 4 (mbs h.im.c.ms), I h.im.ae, I h.im.an, .sl 8 (yW h.lg)]
def wT (t : Tx) : Nat := t.ps.length + (t.ps.map fun p => p.c.ms.length).sum
def wH (h : Hy) : Nat := h.im.ns.length + h.im.c.ms.length + h.im.ss.length + (h.lg.map wT).sum
def near16 (h : Hy) : Prop := h.lg.length <= 90 /\ (∀ t ∈ h.lg, t.ps.length <= 50) /\ wH h + h.lg.length <= 300
instance (h : Hy) : Decidable (near16 h) := by unfold near16; infer_instance
structure SmallH (h : Hy) : Prop where
 ns : h.im.ns.length <= 140737488355328
 ss : h.im.ss.length <= 140737488355328
 ms : h.im.c.ms.length <= 140737488355328
 ps : ∀ t ∈ h.lg,t.ps.length <= 140737488355328 /\ ∀ p ∈ t.ps,p.c.ms.length <= 140737488355328
theorem sum_snoc {α : Type} (f : α -> Nat) {l : List α} {k : Nat} (h : k < l.length) : ((l.take (k + 1)).map f).sum = ((l.take k).map f).sum + f l[k] := by
 rw [List.take_succ_eq_append_getElem h,List.map_append,List.sum_append];simp
theorem wrapN (a b : Nat) (h : a + b <= 9223372036854775807) : IntKind.i64.wrap ((a : Int) + (b : Int)) = (a : Int) + (b : Int) := by
 rw [yV] <;> omega
abbrev RConX (g : FuncId) (args : List V) (e c : Nat) (l : List (List PV)) : Prop := Con Tryz.prog g args [] (.ret (.row 2048) [.row e c l] [])
theorem cloneM (l : List (List PV)) (hl : l.length <= 4398046510976) : RConX 140 [.p (.sl 4 l)] 133 4 l := by
 refine wBodyR Tryz.tab Tryz.mixed Tryz.func140 rfl rfl Tryz.ntmps140 rfl (by simp) (by simp) fun Q hr hn=>?_
 repeat' first|(refine wRetG [.row 2 133 4] ?_)|(refine And.intro (by omega) (Or.inl ?_))|(refine And.intro ?_ (fun hnil=>?_))|(refine hK _ ?_;clear hK)|(refine zT fun K hK=>?_)|(refine zS ?_;simp only [tZ,tY,strip])|((first | refine wOs fun K hK=>?_ | refine zW ?_);simp)|(refine zP ?_;try simp)|(refine wOn ?_;try simp only [zZ])
 ·refine hr _ 7 (by simp) (by simp) (by omega)
 ·subst hnil
  simp only [thenA_r]
  refine hr _ 2 (by simp) (by simp) (by omega)
theorem cloneZ (l : List (List PV)) (hl : l.length <= 1000000) : RConX 153 [.p (.sl 5 l)] 129 5 l := by
 refine wBodyR Tryz.tab Tryz.mixed Tryz.func153 rfl rfl Tryz.ntmps153 rfl (by simp) (by simp) fun Q hr hn=>?_
 repeat' first|(refine wRetG [.row 2 129 5] ?_)|(refine And.intro (by omega) (Or.inl ?_))|(refine And.intro ?_ (fun hnil=>?_))|(refine hK _ ?_;clear hK)|(refine zT fun K hK=>?_)|(refine zS ?_;simp only [tZ,tY,strip])|((first | refine wOs fun K hK=>?_ | refine zW ?_);simp)|(refine zP ?_;try simp)|(refine wOn ?_;try simp only [zZ])
 ·refine hr _ 7 (by simp) (by simp) (by omega)
 ·subst hnil
  simp only [thenA_r]
  refine hr _ 2 (by simp) (by simp) (by omega)
theorem cloneI (l : List (List PV)) (hl : l.length <= 1000000) : RConX 154 [.p (.sl 1 l)] 3 1 l := by
 refine wBodyR Tryz.tab Tryz.mixed Tryz.func154 rfl rfl Tryz.ntmps154 rfl (by simp) (by simp) fun Q hr hn=>?_
 repeat' first|(refine wRetG [.row 2 3 1] ?_)|(refine And.intro (by omega) (Or.inl ?_))|(refine And.intro ?_ (fun hnil=>?_))|(refine hK _ ?_;clear hK)|(refine zT fun K hK=>?_)|(refine zS ?_;simp only [tZ,tY,strip])|((first | refine wOs fun K hK=>?_ | refine zW ?_);simp)|(refine zP ?_;try simp)|(refine wOn ?_;try simp only [zZ])
 ·refine hr _ 7 (by simp) (by simp) (by omega)
 ·subst hnil
  simp only [thenA_r]
  refine hr _ 2 (by simp) (by simp) (by omega)
theorem ownConfig_con (e n k : Int) (ms : List (List PV)) (hl : ms.length <= 4398046510976) : zB Tryz.prog 116 [.p (.agg [I e, I n, I k, .sl 4 ms])] (.p (.agg [I e, I n, I k, .sl 4 ms])) := by
 have c:=cloneM ms hl
 refine zK Tryz.tab Tryz.mixed Tryz.func116 rfl rfl Tryz.ntmps116 (by simp) (by simp) fun Q hr hn=>?_
 repeat' first|(refine hK _ ?_;clear hK)|(refine zT fun K hK=>?_)|(refine zS ?_;simp only [tZ,tY,strip])|((first | refine wOs fun K hK=>?_ | refine zY ?_);simp)|(refine zL ?_;try simp)|(refine wOn ?_;try simp only [zZ])|(refine zR.own (c) ?_)
 all_goals apply hr
 all_goals simp [Tryz.f116]
theorem set_takeK {α : Type} (l : List α) (k : Nat) (x : α) (h : k < l.length) : (l.set k x).take (k + 1) = l.take k ++ [x] := by
 rw [List.take_succ_eq_append_getElem (by simpa using h),List.getElem_set_self,List.take_set_of_le (Nat.le_refl _)]
set_option maxHeartbeats 1000000 in
theorem ownPart_con (x : Pt) (hm : x.c.ms.length <= 1000) : zB Tryz.prog 86 [.p (.agg x.cells)] (.p (.agg x.cells)) := by
 have c:=ownConfig_con x.c.ep x.c.n x.c.kind (mbs x.c.ms) (by rw [mbs_len];omega)
 unfold Pt.cells
 refine zK Tryz.tab Tryz.mixed Tryz.func86 rfl rfl Tryz.ntmps86 (by simp) (by simp) fun Q hr hn=>?_
 repeat' first|(refine hK _ ?_;clear hK)|(refine zT fun K hK=>?_)|(refine zS ?_;simp only [tZ,tY,strip])|((first | refine wOs fun K hK=>?_ | refine zY ?_);simp)|(refine zL ?_;try simp)|(refine wOn ?_;try simp only [zZ])|(refine zR.pure (c) rfl ?_)
 all_goals apply hr
 all_goals simp [Tryz.f86]
theorem pts_set (l : List Pt) (k : Nat) (x : Pt) : (pts l).set k [I x.k, SB x.z.p, SB x.z.d, I x.z.v, I x.z.k, I x.z.o, I x.s, I x.c.ep, I x.c.n, I x.c.kind, .sl 4 (mbs x.c.ms)] = pts (l.set k x) := by simp [pts, Pt.cells, List.map_set]
def pt0 : Pt := ⟨0, ⟨[], [], 0, 0, 0⟩, 0, ⟨0, 0, 0, []⟩⟩
theorem pts_rep (n : Nat) : List.replicate n [I 0, SB [], SB [], I 0, I 0, I 0, I 0, I 0, I 0, I 0, .sl 4 []] = pts (List.replicate n pt0) := by simp [pts, pt0, Pt.cells, mbs]
set_option maxHeartbeats 1000000 in
theorem listPt_con (l : List Pt) (hl : l.length <= 1000) (hm : ∀ x ∈ l, x.c.ms.length <= 1000) : RCon 85 [.p (.sl 11 (pts l)), .p (.v (.func (.func 86) #[] #[]))] 131 11 (pts l) := by
 by_cases h0 : l.length = 0
 ·obtain rfl := List.length_eq_zero_iff.1 h0
  refine wBodyR Tryz.tab Tryz.mixed Tryz.func85 rfl rfl Tryz.ntmps85 rfl (by simp) (by simp) fun Q hr hn=>?_
  repeat' first|(refine wRetG [.row 4 131 11] ?_)|(refine hK _ ?_;clear hK)|(refine zT fun K hK=>?_)|(refine zS ?_;simp only [tZ,tY,strip])|((first | refine wOs fun K hK=>?_ | refine zW ?_);simp [pts])|(refine wOn ?_;try simp only [zZ])
  all_goals refine hr _ 4 (by simp) (by simp [pts]) (by omega)
 have h0' : ¬ (l.length : Int) = 0:=by omega
 refine wBodyR Tryz.tab Tryz.mixed Tryz.func85 rfl rfl Tryz.ntmps85 rfl (by simp) (by simp) fun Q hr hn=>?_
 repeat' first|(rw [if_pos ⟨by omega,by omega⟩])|(refine hK _ ?_;clear hK)|(refine zT fun K hK=>?_)|(refine zS ?_;simp only [tZ,tY,strip])|((first | refine wOs fun K hK=>?_ | refine zW ?_);simp [h0,pts_rep])|(first | refine zU ?_)|(refine zP ?_;try simp)|(refine wOn ?_;try simp only [zZ])
 refine yJ (fun N st=>∃ k zs,k + N = l.length /\ zs.length = l.length /\ zs.take k = l.take k /\ st.s 1 = .p (.v (.func (.func 86) #[] #[])) /\ st.s 5 = .row 13 /\ st.s 14 = .p (.sl 11 (pts l)) /\ st.s 15 = .p (I l.length) /\ st.s 16 = .p (I k) /\ st.b 13 = some (.row 131 11 (pts zs))) l.length ⟨0,List.replicate l.length pt0,by simp⟩ fun K N st hL ⟨k,zs,hk,hz,hi,g1,g5,g14,g15,g16,b13⟩=>?_
 by_cases hlt : k < l.length
 ·have hlt' : (k : Int) < l.length := by omega
  have hltz : k < zs.length:=by omega
  have hw:=yF k _ hlt (by omega)
  have he:=pts_get hlt
  have c:=ownPart_con l[k] (hm _ (List.getElem_mem hlt))
  unfold Pt.cells at c
  have hs:=pts_set zs k l[k]
  have hst:=set_takeK zs k l[k] hltz
  rw [hi,<- List.take_succ_eq_append_getElem hlt] at hst
  repeat' first|(refine hK _ ?_;clear hK)|(refine zT fun K hK=>?_)|(refine zS ?_;simp only [tZ,tY,strip])|((first | refine wOs fun K hK=>?_ | refine zY ?_ | refine zW ?_);simp [g1,g5,g14,g15,g16,b13,hlt,hlt',hltz,hw,hs,Pt.cells])|(first | refine zU ?_)|(refine zP ?_;try simp)|(refine wOn ?_;try simp only [zZ])|(refine zR.pure (c) rfl ?_)
  refine hL _ (N - 1) (by omega) ⟨k + 1,zs.set k l[k],by omega,by simpa using hz,hst,?_⟩
  simp [g1,g5,g14,g15]
 ·have hlt' : ¬ (k : Int) < l.length := by omega
  rw [List.take_of_length_le (by omega),List.take_of_length_le (by omega)] at hi
  subst hi
  repeat' first|(refine hK _ ?_;clear hK)|(clear hK;refine hK _ ?_;clear hK)|(refine zT fun K hK=>?_)|(refine zS ?_;simp only [tZ,tY,strip])|((first | refine wOs fun K hK=>?_ | refine zW ?_);simp [g5,g15,g16,hlt'])|((first | refine zL ?_ | refine zC ?_);try simp)|(refine wOn ?_;try simp only [zZ])
  all_goals refine hr _ 13 (by simp) (by simp [b13]) (by omega)
theorem ownTxn_con (t : Tx) (hl : t.ps.length <= 1000) (hm : ∀ x ∈ t.ps, x.c.ms.length <= 1000) : zB Tryz.prog 53 [.p (.agg t.cells)] (.p (.agg t.cells)) := by
 have c:=listPt_con t.ps hl hm
 unfold Tx.cells
 refine zK Tryz.tab Tryz.mixed Tryz.func53 rfl rfl Tryz.ntmps53 (by simp) (by simp) fun Q hr hn=>?_
 repeat' first|(refine hK _ ?_;clear hK)|(refine zT fun K hK=>?_)|(refine zS ?_;simp only [tZ,tY,strip])|((first | refine wOs fun K hK=>?_ | refine zY ?_);simp)|(refine zL ?_;try simp)|(refine wOn ?_;try simp only [zZ])|(refine zR.own (c) ?_)
 all_goals apply hr
 all_goals simp [Tryz.f53]
theorem txns_set (l : List Tx) (k : Nat) (t : Tx) : (yW l).set k [I t.e, I t.n, I t.s, I t.x, I t.r, I t.b, SB t.m, .sl 11 (pts t.ps)] = yW (l.set k t) := by simp [yW, Tx.cells, List.map_set]
def tx0 : Tx := ⟨0, 0, 0, 0, 0, 0, [], []⟩
theorem txns_rep (n : Nat) : List.replicate n [I 0, I 0, I 0, I 0, I 0, I 0, SB [], .sl 11 []] = yW (List.replicate n tx0) := by simp [yW, tx0, Tx.cells, pts]
set_option maxHeartbeats 1000000 in
theorem listTx_con (l : List Tx) (hl : l.length <= 1000) (hm : ∀ x ∈ l, x.ps.length <= 1000 /\ ∀ p ∈ x.ps, p.c.ms.length <= 1000) : RCon 108 [.p (.sl 8 (yW l)), .p (.v (.func (.func 53) #[] #[]))] 58 8 (yW l) := by
 by_cases h0 : l.length = 0
 ·obtain rfl := List.length_eq_zero_iff.1 h0
  refine wBodyR Tryz.tab Tryz.mixed Tryz.func108 rfl rfl Tryz.ntmps108 rfl (by simp) (by simp) fun Q hr hn=>?_
  repeat' first|(refine wRetG [.row 4 58 8] ?_)|(refine hK _ ?_;clear hK)|(refine zT fun K hK=>?_)|(refine zS ?_;simp only [tZ,tY,strip])|((first | refine wOs fun K hK=>?_ | refine zW ?_);simp [yW])|(refine wOn ?_;try simp only [zZ])
  all_goals refine hr _ 4 (by simp) (by simp [yW]) (by omega)
 have h0' : ¬ (l.length : Int) = 0:=by omega
 refine wBodyR Tryz.tab Tryz.mixed Tryz.func108 rfl rfl Tryz.ntmps108 rfl (by simp) (by simp) fun Q hr hn=>?_
 repeat' first|(rw [if_pos ⟨by omega,by omega⟩])|(refine hK _ ?_;clear hK)|(refine zT fun K hK=>?_)|(refine zS ?_;simp only [tZ,tY,strip])|((first | refine wOs fun K hK=>?_ | refine zW ?_);simp [h0,txns_rep])|(first | refine zU ?_)|(refine zP ?_;try simp)|(refine wOn ?_;try simp only [zZ])
 refine yJ (fun N st=>∃ k zs,k + N = l.length /\ zs.length = l.length /\ zs.take k = l.take k /\ st.s 1 = .p (.v (.func (.func 53) #[] #[])) /\ st.s 5 = .row 13 /\ st.s 14 = .p (.sl 8 (yW l)) /\ st.s 15 = .p (I l.length) /\ st.s 16 = .p (I k) /\ st.b 13 = some (.row 58 8 (yW zs))) l.length ⟨0,List.replicate l.length tx0,by simp⟩ fun K N st hL ⟨k,zs,hk,hz,hi,g1,g5,g14,g15,g16,b13⟩=>?_
 by_cases hlt : k < l.length
 ·have hlt' : (k : Int) < l.length := by omega
  have hltz : k < zs.length:=by omega
  have hw:=yF k _ hlt (by omega)
  have he:=wC hlt
  have c:=ownTxn_con l[k] (hm _ (List.getElem_mem hlt)).1 (hm _ (List.getElem_mem hlt)).2
  unfold Tx.cells at c
  have hs:=txns_set zs k l[k]
  have hst:=set_takeK zs k l[k] hltz
  rw [hi,<- List.take_succ_eq_append_getElem hlt] at hst
  repeat' first|(refine hK _ ?_;clear hK)|(refine zT fun K hK=>?_)|(refine zS ?_;simp only [tZ,tY,strip])|((first | refine wOs fun K hK=>?_ | refine zY ?_ | refine zW ?_);simp [g1,g5,g14,g15,g16,b13,hlt,hlt',hltz,hw,hs])|(first | refine zU ?_)|(refine zP ?_;try simp)|(refine wOn ?_;try simp only [zZ])|(refine zR.pure (c) rfl ?_)
  refine hL _ (N - 1) (by omega) ⟨k + 1,zs.set k l[k],by omega,by simpa using hz,hst,?_⟩
  simp [g1,g5,g14,g15]
 ·have hlt' : ¬ (k : Int) < l.length := by omega
  rw [List.take_of_length_le (by omega),List.take_of_length_le (by omega)] at hi
  subst hi
  repeat' first|(refine hK _ ?_;clear hK)|(clear hK;refine hK _ ?_;clear hK)|(refine zT fun K hK=>?_)|(refine zS ?_;simp only [tZ,tY,strip])|((first | refine wOs fun K hK=>?_ | refine zW ?_);simp [g5,g15,g16,hlt'])|((first | refine zL ?_ | refine zC ?_);try simp)|(refine wOn ?_;try simp only [zZ])
  all_goals refine hr _ 13 (by simp) (by simp [b13]) (by omega)
theorem ownTxns_con (l : List Tx) (hl : l.length <= 1000) (hm : ∀ x ∈ l, x.ps.length <= 1000 /\ ∀ p ∈ x.ps, p.c.ms.length <= 1000) : RCon 79 [.p (.sl 8 (yW l))] 58 8 (yW l) := by
 have c:=listTx_con l hl hm
 refine wBodyR Tryz.tab Tryz.mixed Tryz.func79 rfl rfl Tryz.ntmps79 rfl (by simp) (by simp) fun Q hr hn=>?_
 repeat' first|(refine zR.own (c) ?_)|(refine hK _ ?_;clear hK)|(refine zT fun K hK=>?_)|(refine zS ?_;simp only [tZ,tY,strip])|((first | refine wOs fun K hK=>?_ | refine zY ?_);simp)|(refine zL ?_;try simp)|(refine wOn ?_;try simp only [zZ])
 all_goals refine hr _ 4 (by simp) (by simp) (by omega)
def carrier (kind : Int) (m : Mb) : Bool := decide (m.r = 1) && (decide (kind = 1) || decide (0 < m.w))
def wF (kind : Int) (l : List Mb) : Bool := l.any (carrier kind)
def fine (p : Int) : List Mb -> Bool
 | []=>true
 | m :: l=>decide (okM m /\ p < m.i) && fine m.i l
def ranged (c : Cf) : Prop := (1 <= c.kind /\ c.kind <= 3) /\ (0 <= c.ep /\ c.ep <= 1099511627776) /\ (0 <= c.n /\ c.n <= 1099511627776)
instance (c : Cf) : Decidable (ranged c) := by unfold ranged; infer_instance
def check (c : Cf) : Int := if ranged c then if fine (-1) c.ms = true then if wF c.kind c.ms = true then 0 else 15 else 1 else 1
theorem carried_con (c : Cf) (hl : c.ms.length <= 1000000) : zB Tryz.prog 158 [.p (.agg c.cells)] (.p (B (wF c.kind c.ms))) := by
 obtain ⟨ep,n,kind,l⟩:=c
 simp only [Cf.cells] at hl ⊢
 refine zK Tryz.tab Tryz.mixed Tryz.func158 rfl rfl Tryz.ntmps158 (by simp) (by simp) fun Q hr hn=>?_
 repeat' first|(refine hK _ ?_;clear hK)|(refine zT fun K hK=>?_)|(refine zS ?_;simp only [tZ,tY,strip])|(refine wOs fun K hK=>?_;simp)|(first | refine zU ?_)|(refine wOn ?_;try simp only [zZ])
 refine yJ (fun N st=>∃ k,k + N = l.length /\ st.s 1 = .ptr 1 0 /\ st.b 1 = some (.box 28 [.p (I ep),.p (I n),.p (I kind),.p (.sl 4 (mbs l))]) /\ st.s 6 = .p (.sl 4 (mbs l)) /\ st.s 7 = .p (I l.length) /\ st.s 8 = .p (I k) /\ wF kind (l.drop k) = wF kind l) l.length ⟨0,by simp⟩ fun K N st hL ⟨k,hk,h1,b1,h6,h7,h8,hi⟩=>?_
 by_cases hlt : k < l.length
 ·have hw := yF k _ hlt (by omega)
  rw [List.drop_eq_getElem_cons hlt] at hi
  simp only [wF,List.any_cons] at hi
  by_cases g1 : l[k].r = 1
  ·by_cases g2 : kind = 1
   ·repeat' first | (refine hK _ ?_; clear hK) | (refine zT fun K hK => ?_) | (refine zS ?_; simp only [tZ, tY, strip]) | ((first | refine wOs fun K hK => ?_ | refine zW ?_); simp [h1, b1, h6, h7, h8, hlt, g1, g2]) | (first | refine zU ?_) | ((first | refine zL ?_ | refine zP ?_); try simp) | (refine wOn ?_; try simp only [zZ])
    all_goals apply hr
    all_goals simp [Tryz.f158]
    all_goals simp [carrier,g1,g2] at hi
    all_goals simp [wF,carrier,g2]
    all_goals exact hi
   ·by_cases g3 : 0 < l[k].w
    ·repeat' first | (refine hK _ ?_; clear hK) | (refine zT fun K hK => ?_) | (refine zS ?_; simp only [tZ, tY, strip]) | ((first | refine wOs fun K hK => ?_ | refine zW ?_); simp [h1, b1, h6, h7, h8, hlt, g1, g2, g3]) | (first | refine zU ?_) | ((first | refine zL ?_ | refine zP ?_); try simp) | (refine wOn ?_; try simp only [zZ])
     all_goals apply hr
     all_goals simp [Tryz.f158]
     all_goals simp [carrier,g1,g2,g3] at hi
     all_goals simp [wF,carrier,g2]
     all_goals exact hi
    ·repeat' first | (refine hK _ ?_; clear hK) | (refine zT fun K hK => ?_) | (refine zS ?_; simp only [tZ, tY, strip]) | ((first | refine wOs fun K hK => ?_ | refine zW ?_); simp [h1, b1, h6, h7, h8, hlt, hw, g1, g2, g3]) | (first | refine zU ?_) | (refine zP ?_; try simp) | (refine wOn ?_; try simp only [zZ])
     refine hL _ (N - 1) (by omega) ⟨k + 1,by omega,?_⟩
     simp [h1,b1,h6,h7]
     simp [wF,<- hi,carrier,g1,g2,g3]
  ·repeat' first | (refine hK _ ?_; clear hK) | (refine zT fun K hK => ?_) | (refine zS ?_; simp only [tZ, tY, strip]) | ((first | refine wOs fun K hK => ?_ | refine zW ?_); simp [h1, h6, h7, h8, hlt, hw, g1]) | (first | refine zU ?_) | (refine zP ?_; try simp) | (refine wOn ?_; try simp only [zZ])
   refine hL _ (N - 1) (by omega) ⟨k + 1,by omega,?_⟩
   simp [h1,b1,h6,h7]
   simp [wF,<- hi,carrier,g1]
 ·rw [List.drop_of_length_le (by omega)] at hi
  repeat' first|(refine hK _ ?_;clear hK)|(clear hK;refine hK _ ?_;clear hK)|(refine zT fun K hK=>?_)|(refine zS ?_;simp only [tZ,tY,strip])|((first | refine wOs fun K hK=>?_ | refine zW ?_);simp [h7,h8,hlt])|((first | refine zL ?_ | refine zC ?_);try simp)|(refine wOn ?_;try simp only [zZ])
  apply hr
  rw [<- hi]
  simp [Tryz.f158]
  rfl
def prevI (l : List Mb) (k : Nat) : Int := if h : 0 < k /\ k <= l.length then (l[k - 1]'(by omega)).i else -1
theorem prevI_succ (l : List Mb) (k : Nat) (h : k < l.length) : prevI l (k + 1) = l[k].i := by
 unfold prevI;rw [dif_pos ⟨by omega,by omega⟩];rfl
theorem prevI_pos (l : List Mb) (k : Nat) (h0 : 0 < k) (h : k < l.length) : prevI l k = (l[k - 1]'(by omega)).i := by
 unfold prevI;rw [dif_pos ⟨by omega,by omega⟩]
theorem prevI_zero (l : List Mb) : prevI l 0 = -1 := by unfold prevI; rw [dif_neg (by omega)]
set_option maxHeartbeats 8000000 in
theorem check_con (c : Cf) (hl : c.ms.length <= 1000000) : zB Tryz.prog 145 [.p (.agg c.cells)] (.p (I (check c))) := by
 have cc:=carried_con c hl
 obtain ⟨ep,n,kind,l⟩:=c
 simp only [Cf.cells,check,ranged] at hl cc ⊢
 have c1:=within_con ep 1099511627776
 have c2:=within_con n 1099511627776
 by_cases g1 : kind < 1
 ·have g1' : ¬ 1 <= kind := by omega
  refine zK Tryz.tab Tryz.mixed Tryz.func145 rfl rfl Tryz.ntmps145 (by simp) (by simp) fun Q hr hn=>?_
  repeat' first|(refine hK _ ?_;clear hK)|(refine zT fun K hK=>?_)|(refine zS ?_;simp only [tZ,tY,strip])|((first | refine wOs fun K hK=>?_ | refine zW ?_);simp [g1])|(refine zL ?_;try simp)|(refine wOn ?_;try simp only [zZ])
  all_goals apply hr
  all_goals simp [Tryz.f145,g1']
 by_cases g2 : 3 < kind
 ·have g2' : ¬ kind <= 3 := by omega
  refine zK Tryz.tab Tryz.mixed Tryz.func145 rfl rfl Tryz.ntmps145 (by simp) (by simp) fun Q hr hn=>?_
  repeat' first|(refine hK _ ?_;clear hK)|(refine zT fun K hK=>?_)|(refine zS ?_;simp only [tZ,tY,strip])|((first | refine wOs fun K hK=>?_ | refine zW ?_);simp [g1,g2])|(refine zL ?_;try simp)|(refine wOn ?_;try simp only [zZ])
  all_goals apply hr
  all_goals simp [Tryz.f145,g2']
 by_cases g3 : 0 <= ep /\ ep <= 1099511627776
 rotate_left
 ·rw [decide_eq_false g3] at c1
  refine zK Tryz.tab Tryz.mixed Tryz.func145 rfl rfl Tryz.ntmps145 (by simp) (by simp) fun Q hr hn=>?_
  repeat' first|(refine hK _ ?_;clear hK)|(refine zT fun K hK=>?_)|(refine zS ?_;simp only [tZ,tY,strip])|((first | refine wOs fun K hK=>?_ | refine zY ?_ | refine zW ?_);simp [g1,g2])|(refine zL ?_;try simp)|(refine wOn ?_;try simp only [zZ])|(refine zR.pure (c1) rfl ?_)
  all_goals apply hr
  all_goals simp [Tryz.f145,g3]
 rw [decide_eq_true g3] at c1
 by_cases g4 : 0 <= n /\ n <= 1099511627776
 rotate_left
 ·rw [decide_eq_false g4] at c2
  refine zK Tryz.tab Tryz.mixed Tryz.func145 rfl rfl Tryz.ntmps145 (by simp) (by simp) fun Q hr hn=>?_
  repeat' first|(refine hK _ ?_;clear hK)|(refine zT fun K hK=>?_)|(refine zS ?_;simp only [tZ,tY,strip])|((first | refine wOs fun K hK=>?_ | refine zY ?_ | refine zW ?_);simp [g1,g2])|(refine zL ?_;try simp)|(refine wOn ?_;try simp only [zZ])|(refine zR.pure (c1) rfl ?_)|(refine zR.pure (c2) rfl ?_)
  all_goals apply hr
  all_goals simp [Tryz.f145,g4]
 rw [decide_eq_true g4] at c2
 rw [if_pos ⟨⟨by omega,by omega⟩,g3,g4⟩]
 refine zK Tryz.tab Tryz.mixed Tryz.func145 rfl rfl Tryz.ntmps145 (by simp) (by simp) fun Q hr hn=>?_
 repeat' first|(refine hK _ ?_;clear hK)|(refine zT fun K hK=>?_)|(refine zS ?_;simp only [tZ,tY,strip])|((first | refine wOs fun K hK=>?_ | refine zY ?_ | refine zW ?_);simp [g1,g2])|(first | refine zU ?_)|(refine zP ?_;try simp)|(refine wOn ?_;try simp only [zZ])|(refine zR.pure (c1) rfl ?_)|(refine zR.pure (c2) rfl ?_)
 refine yJ (fun N st=>∃ k,k + N = l.length /\ st.s 1 = .ptr 1 0 /\ st.b 1 = some (.box 28 [.p (I ep),.p (I n),.p (I kind),.p (.sl 4 (mbs l))]) /\ st.s 28 = .p (.sl 4 (mbs l)) /\ st.s 29 = .p (I l.length) /\ st.s 30 = .p (I k) /\ fine (prevI l k) (l.drop k) = fine (-1) l) l.length ⟨0,by simp [prevI_zero]⟩ fun K N st hL ⟨k,hk,h1,b1,h28,h29,h30,hi⟩=>?_
 by_cases hlt : k < l.length
 ·have hw := yF k _ hlt (by omega)
  rw [List.drop_eq_getElem_cons hlt,fine] at hi
  have cr:=right_con l[k]
  simp only [Mb.cells] at cr
  by_cases o1 : okM l[k]
  ·rw [decide_eq_true o1] at cr
   by_cases o2 : 0 < k
   ·have o2' : (0 : Int) < k := by omega
    have hw1 : IntKind.i64.wrap ((k : Int) - 1) = ((k - 1 : Nat) : Int):=by rw [yV] <;> omega
    have hk1 : k - 1 < l.length:=by omega
    rw [prevI_pos l k o2 hlt] at hi
    by_cases o3 : l[k].i <= l[k - 1].i
    ·repeat' first | (refine hK _ ?_; clear hK) | (refine zT fun K hK => ?_) | ((first | refine zS ?_ | refine yZ rfl (by kernel_rfl) ?_); simp only [tZ, tY, strip]) | ((first | refine wOs fun K hK => ?_ | refine wQs fun K hK => ?_ | refine zM ?_ | refine zW ?_); simp [h1, b1, h28, h29, h30, hlt, o2, hw1, hk1, o3]) | (first | refine zU ?_) | ((first | refine zL ?_ | refine zP ?_); try simp) | ((first | refine wOn ?_ | refine wQn ?_); try simp only [zZ]) | (refine zJ.pure (cr) rfl ?_)
     all_goals apply hr
     all_goals simp [Tryz.f145]
     all_goals rw [decide_eq_false (by omega)] at hi
     all_goals simp [<- hi]
    ·repeat' first | (refine hK _ ?_; clear hK) | (refine zT fun K hK => ?_) | ((first | refine zS ?_ | refine yZ rfl (by kernel_rfl) ?_); simp only [tZ, tY, strip]) | ((first | refine wOs fun K hK => ?_ | refine wQs fun K hK => ?_ | refine zM ?_ | refine zW ?_); simp [h1, b1, h28, h29, h30, hlt, hw, o2, hw1, hk1, o3]) | (first | refine zU ?_) | (refine zP ?_; try simp) | ((first | refine wOn ?_ | refine wQn ?_); try simp only [zZ]) | (refine zJ.pure (cr) rfl ?_)
     refine hL _ (N - 1) (by omega) ⟨k + 1,by omega,?_⟩
     simp [h1,b1,h28,h29]
     rw [decide_eq_true ⟨o1,by omega⟩,Bool.true_and] at hi
     rw [prevI_succ l k hlt];exact hi
   ·obtain rfl : k = 0 := by omega
    simp at h30 hw
    repeat' first|(refine hK _ ?_;clear hK)|(refine zT fun K hK=>?_)|((first | refine zS ?_ | refine yZ rfl (by kernel_rfl) ?_);simp only [tZ,tY,strip])|((first | refine wOs fun K hK=>?_ | refine wQs fun K hK=>?_ | refine zM ?_ | refine zW ?_);simp [h1,h28,h29,h30,hlt,hw])|(first | refine zU ?_)|(refine zP ?_;try simp)|((first | refine wOn ?_ | refine wQn ?_);try simp only [zZ])|(refine zJ.pure (cr) rfl ?_)
    refine hL _ (N - 1) (by omega) ⟨1,by omega,?_⟩
    simp [h1,b1,h28,h29]
    have:=o1.1.1
    rw [prevI_zero,decide_eq_true ⟨o1,by omega⟩,Bool.true_and] at hi
    rw [show (1 : Nat) = 0 + 1 from rfl,prevI_succ l 0 hlt,<- List.drop_one];exact hi
  ·rw [decide_eq_false o1] at cr
   repeat' first|(refine hK _ ?_;clear hK)|(refine zT fun K hK=>?_)|((first | refine zS ?_ | refine yZ rfl (by kernel_rfl) ?_);simp only [tZ,tY,strip])|((first | refine wOs fun K hK=>?_ | refine wQs fun K hK=>?_ | refine zM ?_ | refine zW ?_);simp [h1,h28,h29,h30,hlt])|(first | refine zU ?_)|((first | refine zL ?_ | refine zP ?_);try simp)|((first | refine wOn ?_ | refine wQn ?_);try simp only [zZ])|(refine zJ.pure (cr) rfl ?_)
   all_goals apply hr
   all_goals simp [Tryz.f145]
   all_goals simp [<- hi,o1]
 ·rw [List.drop_of_length_le (by omega)] at hi
  have hi' : fine (-1) l = true:=hi ▸ rfl
  by_cases g5 : wF kind l = true
  ·rw [g5] at cc
   repeat' first|(refine hK _ ?_;clear hK)|(clear hK;refine hK _ ?_;clear hK)|(refine zT fun K hK=>?_)|(refine zS ?_;simp only [tZ,tY,strip])|((first | refine wOs fun K hK=>?_ | refine zY ?_ | refine zW ?_);simp [h1,b1,h29,h30,hlt])|((first | refine zL ?_ | refine zC ?_ | refine zP ?_);try simp)|(refine wOn ?_;try simp only [zZ])|(refine zR.pure (cc) rfl ?_)
   all_goals apply hr
   all_goals simp [Tryz.f145,hi',g5]
  ·rw [Bool.not_eq_true] at g5
   rw [g5] at cc
   repeat' first|(refine hK _ ?_;clear hK)|(clear hK;refine hK _ ?_;clear hK)|(refine zT fun K hK=>?_)|(refine zS ?_;simp only [tZ,tY,strip])|((first | refine wOs fun K hK=>?_ | refine zY ?_ | refine zW ?_);simp [h1,b1,h29,h30,hlt])|((first | refine zL ?_ | refine zC ?_);try simp)|(refine wOn ?_;try simp only [zZ])|(refine zR.pure (cc) rfl ?_)
   all_goals apply hr
   all_goals simp [Tryz.f145,hi',g5]
end Go.Proofs.YtffflakmofbilaaGreat
