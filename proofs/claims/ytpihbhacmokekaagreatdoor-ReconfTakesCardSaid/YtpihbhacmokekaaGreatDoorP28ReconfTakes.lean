/- Texts that the proof needs: XK ZC ZA KA XA XB. -/
import Derived.Test.YtpihbhacmokekaaGreatDoorP27ReconfTakes
import Derived.Test.YtpihbhacmokekaaGreatDoorP26ReconfTakes
import Derived.Test.YtpihbhacmokekaaGreatDoorP14ReconfTakes
import Derived.Test.YtpihbhacmokekaaGreatDoorP18ReconfTakes
import Derived.Test.YtpihbhacmokekaaGreatDoorP16ReconfTakes
import Derived.Test.YtpihbhacmokekaaGreatDoorP19ReconfTakes
import Derived.WalkKit
namespace Go.Proofs.YtpihbhacmokekaaGreatDoor
set_option linter.unusedSimpArgs false
set_option linter.unusedVariables false
open Go Go.Av
attribute [local irreducible] Go.Av.yJ Go.Av.zU Go.Av.yC Go.Av.zQ Go.Av.yG Go.Av.zV Go.Av.Con
def xH (l:List Tx):List (List PV):=l.map Tx.cells
@[simp] theorem txns_len (l:List Tx):(xH l).length=l.length:=by simp[xH]
@[simp] theorem txns_getElem (l:List Tx)(k:Nat)(h:k<(xH l).length):(xH l)[k]=[I (l[k]'(by simpa using h)).e,I (l[k]'(by simpa using h)).n,I (l[k]'(by simpa using h)).s,I (l[k]'(by simpa using h)).x,I (l[k]'(by simpa using h)).r,I (l[k]'(by simpa using h)).b,SB (l[k]'(by simpa using h)).m,.sl 11 (pts (l[k]'(by simpa using h)).ps)]:=by simp[xH,Tx.cells]
theorem wN {l:List Tx}{k:Nat}(h:k<l.length):(xH l)[k]?=some [I l[k].e,I l[k].n,I l[k].s,I l[k].x,I l[k].r,I l[k].b,SB l[k].m,.sl 11 (pts l[k].ps)]:=by simp[xH,h,Tx.cells]
theorem vZ (n:Int):zE Tryz.prog 98 [.p (I n)] (.p (B false)):=by
 refine zG Tryz.tab Tryz.mixed Tryz.func98 rfl rfl Tryz.ntmps98 (by simp) (by simp) fun Q hr hn=>?_
 repeat' first|((first|refine O _ ?_|refine O _ _ ?_|(clear O;refine O _ ?_));clear O)|(refine zJ fun K O=>?_)|((first|refine zH ?_|refine zN rfl (by kernel_rfl) ?_|refine zM ?_|refine zK (by kernel_rfl) ?_);simp only[vS,vR,strip])|((first|refine wIs fun K O=>?_|refine wOs fun K O=>?_|refine wQs fun K O=>?_|refine zW ?_|refine zX ?_|refine zY ?_|refine zL ?_);simp)|(refine wIn ?_;refine And.intro (by kernel_rfl) ?_;try simp only[zZ])|refine zR ?_|refine zT ?_|((first|refine zI ?_|refine zO ?_|refine zP ?_);try simp)|((first|refine zS ?_|refine wOn ?_|refine wQn ?_);try simp only[zZ])
 apply hr
 simp[Tryz.f98]
def cmpInt (a b:Int):Int:=if a<b then -1 else if b<a then 1 else 0
theorem xJ (a b:Int):zE Tryz.prog 82 [.p (I a),.p (I b)] (.p (I (cmpInt a b))):=by
 refine zG Tryz.tab Tryz.mixed Tryz.func82 rfl rfl Tryz.ntmps82 (by simp) (by simp) fun Q hr hn=>?_
 repeat' first|((first|refine O _ ?_|refine O _ _ ?_|(clear O;refine O _ ?_));clear O)|(refine zJ fun K O=>?_)|((first|refine zH ?_|refine zN rfl (by kernel_rfl) ?_|refine zM ?_|refine zK (by kernel_rfl) ?_);simp only[vS,vR,strip])|((first|refine wIs fun K O=>?_|refine wOs fun K O=>?_|refine wQs fun K O=>?_|refine zW ?_|refine zX ?_|refine zY ?_|refine zL ?_);simp)|(refine wIn ?_;refine And.intro (by kernel_rfl) ?_;try simp only[zZ])|refine zR ?_|refine zT ?_|((first|refine zI ?_|refine zO ?_|refine zP ?_);try simp)|((first|refine zS ?_|refine wOn ?_|refine wQn ?_);try simp only[zZ])|(refine zU.p (vZ _) rfl ?_)|(refine zU.l (vZ _) rfl ?_)|(refine zQ.pure (vZ _) rfl ?_)|(refine zQ.lent (vZ _) rfl ?_)|(refine zU.o (vZ _) ?_)|(refine zV.p (vZ _) rfl ?_)|(refine zV.l (vZ _) rfl ?_)|(refine zV.o (vZ _) ?_)|(refine And.intro (fun _=>?_) (fun _=>?_))
 all_goals (apply hr;simp[Tryz.f82,cmpInt];try omega)
def orL:List Int->Int
 |[]=>0
 |a::l=>if a=0 then orL l else a
theorem or_con (l:List Int):zE Tryz.prog 81 [.p (.sl 1 (l.map fun n=>[I n]))] (.p (I (orL l))):=by
 refine zE.len ⟨Tryz.f81,Tryz.func81,rfl,rfl⟩ 0 _ _ rfl fun hlen=>?_
 simp only[List.length_map] at hlen
 refine zG Tryz.tab Tryz.mixed Tryz.func81 rfl rfl Tryz.ntmps81 (by simp) (by simp) fun Q hr hn=>?_
 repeat' first|((first|refine O _ ?_|refine O _ _ ?_|(clear O;refine O _ ?_));clear O)|(refine zJ fun K O=>?_)|((first|refine zH ?_|refine zN rfl (by kernel_rfl) ?_|refine zM ?_|refine zK (by kernel_rfl) ?_);simp only[vS,vR,strip])|((first|refine wIs fun K O=>?_|refine wOs fun K O=>?_|refine wQs fun K O=>?_|refine zW ?_|refine zX ?_|refine zY ?_|refine zL ?_);simp)|(refine wIn ?_;refine And.intro (by kernel_rfl) ?_;try simp only[zZ])|refine zR ?_|refine zT ?_|((first|refine zI ?_|refine zO ?_|refine zP ?_);try simp)|((first|refine zS ?_|refine wOn ?_|refine wQn ?_);try simp only[zZ])
 refine zC (fun n st=>∃k,k+n=l.length/\st.s 6=.p (.sl 1 (l.map fun n=>[I n]))/\st.s 7=.p (I l.length)/\st.s 8=.p (I k)/\st.s 3=.p (I 0)/\orL (l.drop k)=orL l) l.length ⟨0,by simp⟩ fun K n st hL ⟨k,hk,h6,h7,h8,h3,hor⟩=>?_
 by_cases hlt:k<l.length
 ·have hw:=yU k _ hlt hlen
  have hd:l.drop k=l[k]::l.drop (k+1):=List.drop_eq_getElem_cons hlt
  have he:l[k]?=some l[k]:=List.getElem?_eq_getElem hlt
  rw[hd,orL] at hor
  repeat' first|((first|refine O _ ?_|refine O _ _ ?_|(clear O;refine O _ ?_));clear O)|(refine zJ fun K O=>?_)|((first|refine zH ?_|refine zN rfl (by kernel_rfl) ?_|refine zM ?_|refine zK (by kernel_rfl) ?_);simp only[vS,vR,strip])|((first|refine wIs fun K O=>?_|refine wOs fun K O=>?_|refine wQs fun K O=>?_|refine zW ?_|refine zX ?_|refine zY ?_|refine zL ?_);simp[h6,h7,h8,h3,hlt,hw,he])|(refine wIn ?_;refine And.intro (by kernel_rfl) ?_;try simp only[zZ])|refine zR ?_|refine zT ?_|((first|refine zI ?_|refine zO ?_|refine zP ?_);try simp)|((first|refine zS ?_|refine wOn ?_|refine wQn ?_);try simp only[zZ])|(refine And.intro (fun hc=>?_) (fun hc=>?_))
  ·apply hr
   simp[Tryz.f81]
   rw[if_neg hc] at hor;exact hor.symm
  ·refine hL _ (n-1) (by omega) ⟨k+1,by omega,?_⟩
   rw[if_pos hc] at hor
   simp[h6,h7,h3,hw,hor]
 ·have hd:l.drop k=[]:=List.drop_of_length_le (by omega)
  rw[hd] at hor
  repeat' first|((first|refine O _ ?_|refine O _ _ ?_|(clear O;refine O _ ?_));clear O)|(refine zJ fun K O=>?_)|((first|refine zH ?_|refine zN rfl (by kernel_rfl) ?_|refine zM ?_|refine zK (by kernel_rfl) ?_);simp only[vS,vR,strip])|((first|refine wIs fun K O=>?_|refine wOs fun K O=>?_|refine wQs fun K O=>?_|refine zW ?_|refine zX ?_|refine zY ?_|refine zL ?_);simp[h6,h7,h8,h3,hlt])|(refine wIn ?_;refine And.intro (by kernel_rfl) ?_;try simp only[zZ])|refine zR ?_|refine zT ?_|((first|refine zI ?_|refine zO ?_|refine zP ?_);try simp)|((first|refine zS ?_|refine wOn ?_|refine wQn ?_);try simp only[zZ])
  apply hr
  simp[Tryz.f81,h3,<- hor,orL]
def xK (a b c d:Int):Int:=if a=c/\b=d then 0 else orL [cmpInt a c,cmpInt b d]
theorem cmp_con (a b c d:Int):zE Tryz.prog 48 [.p (.agg [I a,I b]),.p (.agg [I c,I d])] (.p (I (xK a b c d))):=by
 have hor:=or_con [cmpInt a c,cmpInt b d]
 simp only[vS,vR] at hor
 by_cases hab:a=c/\b=d
 ·obtain⟨rfl,rfl⟩:=hab
  refine zG Tryz.tab Tryz.mixed Tryz.func48 rfl rfl Tryz.ntmps48 (by simp) (by simp) fun Q hr hn=>?_
  repeat' first|((first|refine O _ ?_|refine O _ _ ?_|(clear O;refine O _ ?_));clear O)|(refine zJ fun K O=>?_)|((first|refine zH ?_|refine zN rfl (by kernel_rfl) ?_|refine zM ?_|refine zK (by kernel_rfl) ?_);simp only[vS,vR,strip])|((first|refine wIs fun K O=>?_|refine wOs fun K O=>?_|refine wQs fun K O=>?_|refine zW ?_|refine zX ?_|refine zY ?_|refine zL ?_);simp)|(refine wIn ?_;refine And.intro (by kernel_rfl) ?_;try simp only[zZ])|refine zR ?_|refine zT ?_|((first|refine zI ?_|refine zO ?_|refine zP ?_);try simp)|((first|refine zS ?_|refine wOn ?_|refine wQn ?_);try simp only[zZ])
  apply hr
  simp[Tryz.f48,xK]
 ·refine zG Tryz.tab Tryz.mixed Tryz.func48 rfl rfl Tryz.ntmps48 (by simp) (by simp) fun Q hr hn=>?_
  repeat' first|((first|refine O _ ?_|refine O _ _ ?_|(clear O;refine O _ ?_));clear O)|(refine zJ fun K O=>?_)|((first|refine zH ?_|refine zN rfl (by kernel_rfl) ?_|refine zM ?_|refine zK (by kernel_rfl) ?_);simp only[vS,vR,strip])|((first|refine wIs fun K O=>?_|refine wOs fun K O=>?_|refine wQs fun K O=>?_|refine zW ?_|refine zX ?_|refine zY ?_|refine zL ?_);simp[hab])|(refine wIn ?_;refine And.intro (by kernel_rfl) ?_;try simp only[zZ])|refine zR ?_|refine zT ?_|((first|refine zI ?_|refine zO ?_|refine zP ?_);try simp)|((first|refine zS ?_|refine wOn ?_|refine wQn ?_);try simp only[zZ])|(refine zU.p (xJ _ _) rfl ?_)|(refine zU.l (xJ _ _) rfl ?_)|(refine zQ.pure (xJ _ _) rfl ?_)|(refine zQ.lent (xJ _ _) rfl ?_)|(refine zU.o (xJ _ _) ?_)|(refine zV.p (xJ _ _) rfl ?_)|(refine zV.l (xJ _ _) rfl ?_)|(refine zV.o (xJ _ _) ?_)|refine zU.p hor rfl ?_|refine zU.l hor rfl ?_|refine zQ.pure hor rfl ?_|refine zQ.lent hor rfl ?_|refine zU.o hor ?_|refine zV.p hor rfl ?_|refine zV.l hor rfl ?_|refine zV.o hor ?_|(intro _)
  all_goals first|exact hab|skip
  apply hr
  simp[Tryz.f48,xK,hab]
theorem zcmp_pos (a b c d:Int):0<xK a b c d ↔ c<a\/(c=a/\d<b):=by
 unfold xK cmpInt
 simp only[orL]
 repeat' split
 all_goals omega
theorem zcmp_spec (a b c d:Int):xK a b c d=if a=c/\b=d then 0 else if a<c\/(a=c/\b<d) then -1 else 1:=by
 unfold xK cmpInt
 simp only[orL]
 repeat' split
 all_goals omega
theorem cmp02_con (a b c d:Int):zE Tryz.prog 13 [.p (.agg [I a,I b]),.p (.agg [I c,I d])] (.p (I (xK a b c d))):=by
 rw[zcmp_spec]
 by_cases hab:a=c/\b=d
 ·rw[if_pos hab]
  obtain⟨rfl,rfl⟩:=hab
  refine zG Tryz.tab Tryz.mixed Tryz.func13 rfl rfl Tryz.ntmps13 (by simp) (by simp) fun Q hr hn=>?_
  repeat' first|((first|refine O _ ?_|refine O _ _ ?_|(clear O;refine O _ ?_));clear O)|(refine zJ fun K O=>?_)|((first|refine zH ?_|refine zN rfl (by kernel_rfl) ?_|refine zM ?_|refine zK (by kernel_rfl) ?_);simp only[vS,vR,strip])|((first|refine wIs fun K O=>?_|refine wOs fun K O=>?_|refine wQs fun K O=>?_|refine zW ?_|refine zX ?_|refine zY ?_|refine zL ?_);simp)|(refine wIn ?_;refine And.intro (by kernel_rfl) ?_;try simp only[zZ])|refine zR ?_|refine zT ?_|((first|refine zI ?_|refine zO ?_|refine zP ?_);try simp)|((first|refine zS ?_|refine wOn ?_|refine wQn ?_);try simp only[zZ])
  all_goals apply hr
  all_goals simp[Tryz.f13]
 ·rw[if_neg hab]
  by_cases h1:a<c
  ·have h2:¬ a=c:=by omega
   refine zG Tryz.tab Tryz.mixed Tryz.func13 rfl rfl Tryz.ntmps13 (by simp) (by simp) fun Q hr hn=>?_
   repeat' first|((first|refine O _ ?_|refine O _ _ ?_|(clear O;refine O _ ?_));clear O)|(refine zJ fun K O=>?_)|((first|refine zH ?_|refine zN rfl (by kernel_rfl) ?_|refine zM ?_|refine zK (by kernel_rfl) ?_);simp only[vS,vR,strip])|((first|refine wIs fun K O=>?_|refine wOs fun K O=>?_|refine wQs fun K O=>?_|refine zW ?_|refine zX ?_|refine zY ?_|refine zL ?_);simp[hab,h1,h2])|(refine wIn ?_;refine And.intro (by kernel_rfl) ?_;try simp only[zZ])|refine zR ?_|refine zT ?_|((first|refine zI ?_|refine zO ?_|refine zP ?_);try simp)|((first|refine zS ?_|refine wOn ?_|refine wQn ?_);try simp only[zZ])|(intro _)
   all_goals first|exact hab|skip
   all_goals apply hr
   all_goals simp[Tryz.f13,h1]
  ·by_cases h2:a=c
   ·by_cases h3:b<d
    ·have h4:¬ b=d:=by omega
     refine zG Tryz.tab Tryz.mixed Tryz.func13 rfl rfl Tryz.ntmps13 (by simp) (by simp) fun Q hr hn=>?_
     repeat' first|((first|refine O _ ?_|refine O _ _ ?_|(clear O;refine O _ ?_));clear O)|(refine zJ fun K O=>?_)|((first|refine zH ?_|refine zN rfl (by kernel_rfl) ?_|refine zM ?_|refine zK (by kernel_rfl) ?_);simp only[vS,vR,strip])|((first|refine wIs fun K O=>?_|refine wOs fun K O=>?_|refine wQs fun K O=>?_|refine zW ?_|refine zX ?_|refine zY ?_|refine zL ?_);simp[hab,h1,h2,h3,h4])|(refine wIn ?_;refine And.intro (by kernel_rfl) ?_;try simp only[zZ])|refine zR ?_|refine zT ?_|((first|refine zI ?_|refine zO ?_|refine zP ?_);try simp)|((first|refine zS ?_|refine wOn ?_|refine wQn ?_);try simp only[zZ])|(intro _)
     all_goals first|exact hab|skip
     all_goals apply hr
     all_goals simp[Tryz.f13,h1,h2,h3]
    ·have h4:¬ b=d:=fun h=>hab ⟨h2,h⟩
     refine zG Tryz.tab Tryz.mixed Tryz.func13 rfl rfl Tryz.ntmps13 (by simp) (by simp) fun Q hr hn=>?_
     repeat' first|((first|refine O _ ?_|refine O _ _ ?_|(clear O;refine O _ ?_));clear O)|(refine zJ fun K O=>?_)|((first|refine zH ?_|refine zN rfl (by kernel_rfl) ?_|refine zM ?_|refine zK (by kernel_rfl) ?_);simp only[vS,vR,strip])|((first|refine wIs fun K O=>?_|refine wOs fun K O=>?_|refine wQs fun K O=>?_|refine zW ?_|refine zX ?_|refine zY ?_|refine zL ?_);simp[hab,h1,h2,h3,h4])|(refine wIn ?_;refine And.intro (by kernel_rfl) ?_;try simp only[zZ])|refine zR ?_|refine zT ?_|((first|refine zI ?_|refine zO ?_|refine zP ?_);try simp)|((first|refine zS ?_|refine wOn ?_|refine wQn ?_);try simp only[zZ])|(intro _)
     all_goals first|exact hab|skip
     all_goals apply hr
     all_goals simp[Tryz.f13,h1,h2,h3]
   ·refine zG Tryz.tab Tryz.mixed Tryz.func13 rfl rfl Tryz.ntmps13 (by simp) (by simp) fun Q hr hn=>?_
    repeat' first|((first|refine O _ ?_|refine O _ _ ?_|(clear O;refine O _ ?_));clear O)|(refine zJ fun K O=>?_)|((first|refine zH ?_|refine zN rfl (by kernel_rfl) ?_|refine zM ?_|refine zK (by kernel_rfl) ?_);simp only[vS,vR,strip])|((first|refine wIs fun K O=>?_|refine wOs fun K O=>?_|refine wQs fun K O=>?_|refine zW ?_|refine zX ?_|refine zY ?_|refine zL ?_);simp[hab,h1,h2])|(refine wIn ?_;refine And.intro (by kernel_rfl) ?_;try simp only[zZ])|refine zR ?_|refine zT ?_|((first|refine zI ?_|refine zO ?_|refine zP ?_);try simp)|((first|refine zS ?_|refine wOn ?_|refine wQn ?_);try simp only[zZ])|(intro _)
    all_goals first|exact hab|skip
    all_goals apply hr
    all_goals simp[Tryz.f13,h1,h2]
theorem counts_con (n:Int):zE Tryz.prog 52 [.p (I n)] (.p (B (decide (0<=n/\n<=1099511627776)))):=by
 by_cases h1:0<=n <;> by_cases h2:n<=1099511627776
 all_goals (have h1':(n ≥ 0) ↔ (0<=n):=Iff.rfl)
 all_goals refine zG Tryz.tab Tryz.mixed Tryz.func52 rfl rfl Tryz.ntmps52 (by simp) (by simp) fun Q hr hn=>?_
 all_goals repeat' first|((first|refine O _ ?_|refine O _ _ ?_|(clear O;refine O _ ?_));clear O)|(refine zJ fun K O=>?_)|((first|refine zH ?_|refine zN rfl (by kernel_rfl) ?_|refine zM ?_|refine zK (by kernel_rfl) ?_);simp only[vS,vR,strip])|((first|refine wIs fun K O=>?_|refine wOs fun K O=>?_|refine wQs fun K O=>?_|refine zW ?_|refine zX ?_|refine zY ?_|refine zL ?_);simp[h1,h2])|(refine wIn ?_;refine And.intro (by kernel_rfl) ?_;try simp only[zZ])|refine zR ?_|refine zT ?_|((first|refine zI ?_|refine zO ?_|refine zP ?_);try simp)|((first|refine zS ?_|refine wOn ?_|refine wQn ?_);try simp only[zZ])
 all_goals apply hr
 all_goals simp[Tryz.f52,h1,h2]
def nextE (e n:Int):Int:=if ¬ (0<=e/\e<=1099511627776)\/n<0 then 1 else if 1099511627776<=n then 5 else 0
def nextN (e n:Int):Int × Int:=if nextE e n=0 then (e,n+1) else (0,0)
theorem next_con (e n:Int):zE Tryz.prog 26 [.p (.agg [I e,I n])] (.tup [.p (.agg [I (nextN e n).1,I (nextN e n).2]),.p (I (nextE e n))]):=by
 have hc:=counts_con e
 by_cases h1:0<=e/\e<=1099511627776
 ·rw[decide_eq_true h1] at hc
  by_cases h2:n<0
  ·simp only[nextN,nextE,h1,h2,not_true_eq_false,or_true,if_true]
   refine zG Tryz.tab Tryz.mixed Tryz.func26 rfl rfl Tryz.ntmps26 (by simp) (by simp) fun Q hr hn=>?_
   repeat' first|((first|refine O _ ?_|refine O _ _ ?_|(clear O;refine O _ ?_));clear O)|(refine zJ fun K O=>?_)|((first|refine zH ?_|refine zN rfl (by kernel_rfl) ?_|refine zM ?_|refine zK (by kernel_rfl) ?_);simp only[vS,vR,strip])|((first|refine wIs fun K O=>?_|refine wOs fun K O=>?_|refine wQs fun K O=>?_|refine zW ?_|refine zX ?_|refine zY ?_|refine zL ?_);simp[h2])|(refine wIn ?_;refine And.intro (by kernel_rfl) ?_;try simp only[zZ])|refine zR ?_|refine zT ?_|((first|refine zI ?_|refine zO ?_|refine zP ?_);try simp)|((first|refine zS ?_|refine wOn ?_|refine wQn ?_);try simp only[zZ])|refine zU.p hc rfl ?_|refine zU.l hc rfl ?_|refine zQ.pure hc rfl ?_|refine zQ.lent hc rfl ?_|refine zU.o hc ?_|refine zV.p hc rfl ?_|refine zV.l hc rfl ?_|refine zV.o hc ?_
   all_goals apply hr
   all_goals simp[Tryz.f26]
  by_cases h3:1099511627776<=n
  ·simp only[nextN,nextE,h1,h2,h3,and_self,not_true_eq_false,or_false,if_false,if_true]
   refine zG Tryz.tab Tryz.mixed Tryz.func26 rfl rfl Tryz.ntmps26 (by simp) (by simp) fun Q hr hn=>?_
   repeat' first|((first|refine O _ ?_|refine O _ _ ?_|(clear O;refine O _ ?_));clear O)|(refine zJ fun K O=>?_)|((first|refine zH ?_|refine zN rfl (by kernel_rfl) ?_|refine zM ?_|refine zK (by kernel_rfl) ?_);simp only[vS,vR,strip])|((first|refine wIs fun K O=>?_|refine wOs fun K O=>?_|refine wQs fun K O=>?_|refine zW ?_|refine zX ?_|refine zY ?_|refine zL ?_);simp[h2,h3])|(refine wIn ?_;refine And.intro (by kernel_rfl) ?_;try simp only[zZ])|refine zR ?_|refine zT ?_|((first|refine zI ?_|refine zO ?_|refine zP ?_);try simp)|((first|refine zS ?_|refine wOn ?_|refine wQn ?_);try simp only[zZ])|refine zU.p hc rfl ?_|refine zU.l hc rfl ?_|refine zQ.pure hc rfl ?_|refine zQ.lent hc rfl ?_|refine zU.o hc ?_|refine zV.p hc rfl ?_|refine zV.l hc rfl ?_|refine zV.o hc ?_
   all_goals apply hr
   all_goals simp[Tryz.f26]
  ·have hw:IntKind.i64.wrap (n+1)=n+1:=zF (by omega) (by omega)
   simp only[nextN,nextE,h1,h2,h3,and_self,not_true_eq_false,or_false,if_false,if_true]
   refine zG Tryz.tab Tryz.mixed Tryz.func26 rfl rfl Tryz.ntmps26 (by simp) (by simp) fun Q hr hn=>?_
   repeat' first|((first|refine O _ ?_|refine O _ _ ?_|(clear O;refine O _ ?_));clear O)|(refine zJ fun K O=>?_)|((first|refine zH ?_|refine zN rfl (by kernel_rfl) ?_|refine zM ?_|refine zK (by kernel_rfl) ?_);simp only[vS,vR,strip])|((first|refine wIs fun K O=>?_|refine wOs fun K O=>?_|refine wQs fun K O=>?_|refine zW ?_|refine zX ?_|refine zY ?_|refine zL ?_);simp[h2,h3,hw])|(refine wIn ?_;refine And.intro (by kernel_rfl) ?_;try simp only[zZ])|refine zR ?_|refine zT ?_|((first|refine zI ?_|refine zO ?_|refine zP ?_);try simp)|((first|refine zS ?_|refine wOn ?_|refine wQn ?_);try simp only[zZ])|refine zU.p hc rfl ?_|refine zU.l hc rfl ?_|refine zQ.pure hc rfl ?_|refine zQ.lent hc rfl ?_|refine zU.o hc ?_|refine zV.p hc rfl ?_|refine zV.l hc rfl ?_|refine zV.o hc ?_
   all_goals apply hr
   all_goals simp[Tryz.f26]
 ·rw[decide_eq_false h1] at hc
  simp only[nextN,nextE,h1,not_false_eq_true,true_or,if_true]
  refine zG Tryz.tab Tryz.mixed Tryz.func26 rfl rfl Tryz.ntmps26 (by simp) (by simp) fun Q hr hn=>?_
  repeat' first|((first|refine O _ ?_|refine O _ _ ?_|(clear O;refine O _ ?_));clear O)|(refine zJ fun K O=>?_)|((first|refine zH ?_|refine zN rfl (by kernel_rfl) ?_|refine zM ?_|refine zK (by kernel_rfl) ?_);simp only[vS,vR,strip])|((first|refine wIs fun K O=>?_|refine wOs fun K O=>?_|refine wQs fun K O=>?_|refine zW ?_|refine zX ?_|refine zY ?_|refine zL ?_);simp)|(refine wIn ?_;refine And.intro (by kernel_rfl) ?_;try simp only[zZ])|refine zR ?_|refine zT ?_|((first|refine zI ?_|refine zO ?_|refine zP ?_);try simp)|((first|refine zS ?_|refine wOn ?_|refine wQn ?_);try simp only[zZ])|refine zU.p hc rfl ?_|refine zU.l hc rfl ?_|refine zQ.pure hc rfl ?_|refine zQ.lent hc rfl ?_|refine zU.o hc ?_|refine zV.p hc rfl ?_|refine zV.l hc rfl ?_|refine zV.o hc ?_
  all_goals apply hr
  all_goals simp[Tryz.f26]
structure Zx where
 (e n:Int)
 deriving DecidableEq
def zxs (l:List Zx):List (List PV):=l.map fun z=>[I z.e,I z.n]
@[simp] theorem wS (l:List Zx):(zxs l).length=l.length:=by simp[zxs]
@[simp] theorem zxs_getE {l:List Zx}{k:Nat}(h:k<(zxs l).length):(zxs l)[k]=[I (l[k]'(by simpa using h)).e,I (l[k]'(by simpa using h)).n]:=by simp[zxs]
def lastZ:List Zx->Zx
 |[]=>⟨0,0⟩
 |a::r=>r.foldl (fun m x=>if 0<xK x.e x.n m.e m.n then x else m) a
theorem lastZ_snoc (l:List Zx)(k:Nat)(h:k<l.length):lastZ (l.take (k+1))=if k=0\/0<xK l[k].e l[k].n (lastZ (l.take k)).e (lastZ (l.take k)).n then l[k] else lastZ (l.take k):=by
 rw[List.take_succ_eq_append_getElem h]
 cases l with
 |nil=>simp at h
 |cons a r =>
  cases k with
  |zero=>simp[lastZ]
  |succ k =>
   simp only[List.take_succ_cons,List.cons_append,lastZ,List.foldl_append,List.foldl_cons,List.foldl_nil]
   simp
theorem last_con (l:List Zx):zE Tryz.prog 112 [.p (.sl 2 (zxs l))] (.p (.agg [I (lastZ l).e,I (lastZ l).n])):=by
 refine zE.len ⟨Tryz.f112,Tryz.func112,rfl,rfl⟩ 0 _ _ rfl fun hlen=>?_
 simp only[wS] at hlen
 have hs:=fun k h=>lastZ_snoc l k h
 have h0:lastZ (l.take 0)=⟨0,0⟩:=rfl
 have hfin:lastZ l=lastZ (l.take l.length):=by rw[List.take_length]
 refine zG Tryz.tab Tryz.mixed Tryz.func112 rfl rfl Tryz.ntmps112 (by simp) (by simp) fun Q hr hn=>?_
 repeat' first|((first|refine O _ ?_|refine O _ _ ?_|(clear O;refine O _ ?_));clear O)|(refine zJ fun K O=>?_)|((first|refine zH ?_|refine zN rfl (by kernel_rfl) ?_|refine zM ?_|refine zK (by kernel_rfl) ?_);simp only[vS,vR,strip])|((first|refine wIs fun K O=>?_|refine wOs fun K O=>?_|refine wQs fun K O=>?_|refine zW ?_|refine zX ?_|refine zY ?_|refine zL ?_);simp)|(refine wIn ?_;refine And.intro (by kernel_rfl) ?_;try simp only[zZ])|refine zR ?_|refine zT ?_|((first|refine zI ?_|refine zO ?_|refine zP ?_);try simp)|((first|refine zS ?_|refine wOn ?_|refine wQn ?_);try simp only[zZ])
 refine zC (fun N st=>∃k,k+N=l.length/\∃m:Zx,m=lastZ (l.take k)/\st.s 2=.ptr 2 0/\st.s 3=.ptr 3 0/\st.b 3=some (.box 25 [.p (I m.e),.p (I m.n)])/\st.b 2=some (.box 25 [.p (I 0),.p (I 0)]) ∧
  st.s 6=.p (.sl 2 (zxs l))/\st.s 7=.p (I l.length)/\st.s 8=.p (I k)) l.length ⟨0,by simp,⟨0,0⟩,h0.symm,by simp⟩ fun K N st hL ⟨k,hk,m,hm,g2,g3,b3,b2,g6,g7,g8⟩=>?_
 by_cases hlt:k<l.length
 ·have hw:=yU k _ hlt (by omega)
  have hsk:=hs k hlt
  rw[<- hm] at hsk
  have c1:=cmp_con l[k].e l[k].n m.e m.n
  by_cases k0:k=0
  ·rw[if_pos (.inl k0)] at hsk
   subst k0
   repeat' first|((first|refine O _ ?_|refine O _ _ ?_|(clear O;refine O _ ?_));clear O)|(refine zJ fun K O=>?_)|((first|refine zH ?_|refine zN rfl (by kernel_rfl) ?_|refine zM ?_|refine zK (by kernel_rfl) ?_);simp only[vS,vR,strip])|((first|refine wIs fun K O=>?_|refine wOs fun K O=>?_|refine wQs fun K O=>?_|refine zW ?_|refine zX ?_|refine zY ?_|refine zL ?_);simp[g2,g3,b3,b2,g6,g7,g8,hlt,hw])|(refine wIn ?_;refine And.intro (by kernel_rfl) ?_;try simp only[zZ])|refine zR ?_|refine zT ?_|((first|refine zI ?_|refine zO ?_|refine zP ?_);try simp)|((first|refine zS ?_|refine wOn ?_|refine wQn ?_);try simp only[zZ])
   refine hL _ (N-1) (by omega) ⟨1,by omega,_,hsk.symm,?_⟩
   simp[g2,g3,b3,b2,g6,g7,g8,show IntKind.i64.wrap 1=1 from rfl]
  ·have k0':¬ (k:Int)=0:=by omega
   by_cases hg:0<xK l[k].e l[k].n m.e m.n
   ·rw[if_pos (.inr hg)] at hsk
    generalize xK l[k].e l[k].n m.e m.n=q at c1 hg
    repeat' first|((first|refine O _ ?_|refine O _ _ ?_|(clear O;refine O _ ?_));clear O)|(refine zJ fun K O=>?_)|((first|refine zH ?_|refine zN rfl (by kernel_rfl) ?_|refine zM ?_|refine zK (by kernel_rfl) ?_);simp only[vS,vR,strip])|((first|refine wIs fun K O=>?_|refine wOs fun K O=>?_|refine wQs fun K O=>?_|refine zW ?_|refine zX ?_|refine zY ?_|refine zL ?_);simp[g2,g3,b3,b2,g6,g7,g8,hlt,hw,k0,k0',hg])|(refine wIn ?_;refine And.intro (by kernel_rfl) ?_;try simp only[zZ])|refine zR ?_|refine zT ?_|((first|refine zI ?_|refine zO ?_|refine zP ?_);try simp)|((first|refine zS ?_|refine wOn ?_|refine wQn ?_);try simp only[zZ])|refine zU.p c1 rfl ?_|refine zU.l c1 rfl ?_|refine zQ.pure c1 rfl ?_|refine zQ.lent c1 rfl ?_|refine zU.o c1 ?_|refine zV.p c1 rfl ?_|refine zV.l c1 rfl ?_|refine zV.o c1 ?_
    refine hL _ (N-1) (by omega) ⟨k+1,by omega,_,hsk.symm,?_⟩
    simp[g2,g3,b3,b2,g6,g7,g8,hw]
   ·rw[if_neg (fun h=>h.elim k0 hg)] at hsk
    generalize xK l[k].e l[k].n m.e m.n=q at c1 hg
    repeat' first|((first|refine O _ ?_|refine O _ _ ?_|(clear O;refine O _ ?_));clear O)|(refine zJ fun K O=>?_)|((first|refine zH ?_|refine zN rfl (by kernel_rfl) ?_|refine zM ?_|refine zK (by kernel_rfl) ?_);simp only[vS,vR,strip])|((first|refine wIs fun K O=>?_|refine wOs fun K O=>?_|refine wQs fun K O=>?_|refine zW ?_|refine zX ?_|refine zY ?_|refine zL ?_);simp[g2,g3,b3,b2,g6,g7,g8,hlt,hw,k0,k0',hg])|(refine wIn ?_;refine And.intro (by kernel_rfl) ?_;try simp only[zZ])|refine zR ?_|refine zT ?_|((first|refine zI ?_|refine zO ?_|refine zP ?_);try simp)|((first|refine zS ?_|refine wOn ?_|refine wQn ?_);try simp only[zZ])|refine zU.p c1 rfl ?_|refine zU.l c1 rfl ?_|refine zQ.pure c1 rfl ?_|refine zQ.lent c1 rfl ?_|refine zU.o c1 ?_|refine zV.p c1 rfl ?_|refine zV.l c1 rfl ?_|refine zV.o c1 ?_
    refine hL _ (N-1) (by omega) ⟨k+1,by omega,_,hsk.symm,?_⟩
    simp[g2,g3,b3,b2,g6,g7,g8,hw]
 ·have:k=l.length:=by omega
  subst this
  rw[<- hfin] at hm
  subst hm
  repeat' first|((first|refine O _ ?_|refine O _ _ ?_|(clear O;refine O _ ?_));clear O)|(refine zJ fun K O=>?_)|((first|refine zH ?_|refine zN rfl (by kernel_rfl) ?_|refine zM ?_|refine zK (by kernel_rfl) ?_);simp only[vS,vR,strip])|((first|refine wIs fun K O=>?_|refine wOs fun K O=>?_|refine wQs fun K O=>?_|refine zW ?_|refine zX ?_|refine zY ?_|refine zL ?_);simp[g2,g3,b3,b2,g6,g7,g8,hlt])|(refine wIn ?_;refine And.intro (by kernel_rfl) ?_;try simp only[zZ])|refine zR ?_|refine zT ?_|((first|refine zI ?_|refine zO ?_|refine zP ?_);try simp)|((first|refine zS ?_|refine wOn ?_|refine wQn ?_);try simp only[zZ])
  all_goals apply hr
  all_goals simp[Tryz.f112,g2,g3,b3,b2]
structure Lr where
 (id ph ac cu:Int)
 (ms:List Zx)
 (ae an q:Int)
 deriving DecidableEq
def Lr.cells (x:Lr):List PV:=[I x.id,I x.ph,I x.ac,I x.cu,.sl 2 (zxs x.ms),I x.ae,I x.an,I x.q]
def lrs (l:List Lr):List (List PV):=l.map Lr.cells
@[simp] theorem lrs_len (l:List Lr):(lrs l).length=l.length:=by simp[lrs]
@[simp] theorem lrs_getElem (l:List Lr)(k:Nat)(h:k<(lrs l).length):(lrs l)[k]=[I (l[k]'(by simpa using h)).id,I (l[k]'(by simpa using h)).ph,I (l[k]'(by simpa using h)).ac,I (l[k]'(by simpa using h)).cu,.sl 2 (zxs (l[k]'(by simpa using h)).ms),I (l[k]'(by simpa using h)).ae,I (l[k]'(by simpa using h)).an,I (l[k]'(by simpa using h)).q]:=by simp[lrs,Lr.cells]
theorem lrs_get {l:List Lr}{k:Nat}(h:k<l.length):(lrs l)[k]?=some [I l[k].id,I l[k].ph,I l[k].ac,I l[k].cu,.sl 2 (zxs l[k].ms),I l[k].ae,I l[k].an,I l[k].q]:=by simp[lrs,h,Lr.cells]
abbrev RConX (g:FuncId)(args:List V)(e c:Nat)(l:List (List PV)):Prop:=Con Tryz.prog g args [] (.ret (.row 2048) [.row e c l] [])
theorem cloneM (l:List (List PV))(hl:l.length<=4398046510976):RConX 60 [.p (.sl 4 l)] 71 4 l:=by
 refine wBodyR Tryz.tab Tryz.mixed Tryz.func60 rfl rfl Tryz.ntmps60 rfl (by simp) (by simp) fun Q hr hn=>?_
 repeat' first|(refine wRetG [.row 2 71 4] ?_)|(refine And.intro (by omega) (Or.inl ?_))|(refine And.intro ?_ (fun hnil=>?_))|((first|refine O _ ?_|refine O _ _ ?_|(clear O;refine O _ ?_));clear O)|(refine zJ fun K O=>?_)|((first|refine zH ?_|refine zN rfl (by kernel_rfl) ?_|refine zM ?_|refine zK (by kernel_rfl) ?_);simp only[vS,vR,strip])|((first|refine wIs fun K O=>?_|refine wOs fun K O=>?_|refine wQs fun K O=>?_|refine zW ?_|refine zX ?_|refine zY ?_|refine zL ?_);simp)|(refine wIn ?_;refine And.intro (by kernel_rfl) ?_;try simp only[zZ])|refine zR ?_|refine zT ?_|((first|refine zI ?_|refine zO ?_|refine zP ?_);try simp)|((first|refine zS ?_|refine wOn ?_|refine wQn ?_);try simp only[zZ])
 ·refine hr _ 7 (by simp) (by simp) (by omega)
 ·subst hnil
  simp only[thenA_r]
  refine hr _ 2 (by simp) (by simp) (by omega)
theorem cloneZ (l:List (List PV))(hl:l.length<=1000000):RConX 106 [.p (.sl 5 l)] 65 5 l:=by
 refine wBodyR Tryz.tab Tryz.mixed Tryz.func106 rfl rfl Tryz.ntmps106 rfl (by simp) (by simp) fun Q hr hn=>?_
 repeat' first|(refine wRetG [.row 2 65 5] ?_)|(refine And.intro (by omega) (Or.inl ?_))|(refine And.intro ?_ (fun hnil=>?_))|((first|refine O _ ?_|refine O _ _ ?_|(clear O;refine O _ ?_));clear O)|(refine zJ fun K O=>?_)|((first|refine zH ?_|refine zN rfl (by kernel_rfl) ?_|refine zM ?_|refine zK (by kernel_rfl) ?_);simp only[vS,vR,strip])|((first|refine wIs fun K O=>?_|refine wOs fun K O=>?_|refine wQs fun K O=>?_|refine zW ?_|refine zX ?_|refine zY ?_|refine zL ?_);simp)|(refine wIn ?_;refine And.intro (by kernel_rfl) ?_;try simp only[zZ])|refine zR ?_|refine zT ?_|((first|refine zI ?_|refine zO ?_|refine zP ?_);try simp)|((first|refine zS ?_|refine wOn ?_|refine wQn ?_);try simp only[zZ])
 ·refine hr _ 7 (by simp) (by simp) (by omega)
 ·subst hnil
  simp only[thenA_r]
  refine hr _ 2 (by simp) (by simp) (by omega)
theorem cloneI (l:List (List PV))(hl:l.length<=1000000):RConX 107 [.p (.sl 1 l)] 3 1 l:=by
 refine wBodyR Tryz.tab Tryz.mixed Tryz.func107 rfl rfl Tryz.ntmps107 rfl (by simp) (by simp) fun Q hr hn=>?_
 repeat' first|(refine wRetG [.row 2 3 1] ?_)|(refine And.intro (by omega) (Or.inl ?_))|(refine And.intro ?_ (fun hnil=>?_))|((first|refine O _ ?_|refine O _ _ ?_|(clear O;refine O _ ?_));clear O)|(refine zJ fun K O=>?_)|((first|refine zH ?_|refine zN rfl (by kernel_rfl) ?_|refine zM ?_|refine zK (by kernel_rfl) ?_);simp only[vS,vR,strip])|((first|refine wIs fun K O=>?_|refine wOs fun K O=>?_|refine wQs fun K O=>?_|refine zW ?_|refine zX ?_|refine zY ?_|refine zL ?_);simp)|(refine wIn ?_;refine And.intro (by kernel_rfl) ?_;try simp only[zZ])|refine zR ?_|refine zT ?_|((first|refine zI ?_|refine zO ?_|refine zP ?_);try simp)|((first|refine zS ?_|refine wOn ?_|refine wQn ?_);try simp only[zZ])
 ·refine hr _ 7 (by simp) (by simp) (by omega)
 ·subst hnil
  simp only[thenA_r]
  refine hr _ 2 (by simp) (by simp) (by omega)
theorem ownConfig_con (e n k:Int)(ms:List (List PV))(hl:ms.length<=4398046510976):zE Tryz.prog 29 [.p (.agg [I e,I n,I k,.sl 4 ms])] (.p (.agg [I e,I n,I k,.sl 4 ms])):=by
 have c:=cloneM ms hl
 refine zG Tryz.tab Tryz.mixed Tryz.func29 rfl rfl Tryz.ntmps29 (by simp) (by simp) fun Q hr hn=>?_
 repeat' first|((first|refine O _ ?_|refine O _ _ ?_|(clear O;refine O _ ?_));clear O)|(refine zJ fun K O=>?_)|((first|refine zH ?_|refine zN rfl (by kernel_rfl) ?_|refine zM ?_|refine zK (by kernel_rfl) ?_);simp only[vS,vR,strip])|((first|refine wIs fun K O=>?_|refine wOs fun K O=>?_|refine wQs fun K O=>?_|refine zW ?_|refine zX ?_|refine zY ?_|refine zL ?_);simp)|(refine wIn ?_;refine And.intro (by kernel_rfl) ?_;try simp only[zZ])|refine zR ?_|refine zT ?_|((first|refine zI ?_|refine zO ?_|refine zP ?_);try simp)|((first|refine zS ?_|refine wOn ?_|refine wQn ?_);try simp only[zZ])|refine zU.p c rfl ?_|refine zU.l c rfl ?_|refine zQ.pure c rfl ?_|refine zQ.lent c rfl ?_|refine zU.o c ?_|refine zV.p c rfl ?_|refine zV.l c rfl ?_|refine zV.o c ?_
 all_goals apply hr
 all_goals simp[Tryz.f29]
theorem ownState_con (ns ss ms:List (List PV))(nx e n k ae an:Int)(h1:ns.length<=1000000)(h2:ss.length<=1000000)(h3:ms.length<=4398046510976) :
 Con Tryz.prog 88 [.p (.agg [.sl 5 ns,.sl 1 ss,I nx,I e,I n,I k,.sl 4 ms,I ae,I an])] [] (.ret (.ag [.p (.sl 5 ns),.row 2048,.p (I nx),.p (I e),.p (I n),.p (I k),.p (.sl 4 ms),.p (I ae),.p (I an)]) [.row 3 1 ss] []):=by
 have c1:=cloneZ ns h1
 have c2:=cloneI ss h2
 have c3:=ownConfig_con e n k ms h3
 refine wBodyG Tryz.tab Tryz.mixed Tryz.func88 rfl rfl Tryz.ntmps88 (by simp) (by simp) fun Q hr hn hp=>?_
 repeat' first|((first|refine O _ ?_|refine O _ _ ?_|(clear O;refine O _ ?_));clear O)|(refine zJ fun K O=>?_)|((first|refine zH ?_|refine zN rfl (by kernel_rfl) ?_|refine zM ?_|refine zK (by kernel_rfl) ?_);simp only[vS,vR,strip])|((first|refine wIs fun K O=>?_|refine wOs fun K O=>?_|refine wQs fun K O=>?_|refine zW ?_|refine zX ?_|refine zY ?_|refine zL ?_);simp)|(refine wIn ?_;refine And.intro (by kernel_rfl) ?_;try simp only[zZ])|refine zR ?_|refine zT ?_|((first|refine zI ?_|refine zO ?_|refine zP ?_);try simp)|((first|refine zS ?_|refine wOn ?_|refine wQn ?_);try simp only[zZ])|refine zU.p c1 rfl ?_|refine zU.l c1 rfl ?_|refine zQ.pure c1 rfl ?_|refine zQ.lent c1 rfl ?_|refine zU.o c1 ?_|refine zV.p c1 rfl ?_|refine zV.l c1 rfl ?_|refine zV.o c1 ?_|refine zU.p c2 rfl ?_|refine zU.l c2 rfl ?_|refine zQ.pure c2 rfl ?_|refine zQ.lent c2 rfl ?_|refine zU.o c2 ?_|refine zV.p c2 rfl ?_|refine zV.l c2 rfl ?_|refine zV.o c2 ?_|refine zU.p c3 rfl ?_|refine zU.l c3 rfl ?_|refine zQ.pure c3 rfl ?_|refine zQ.lent c3 rfl ?_|refine zU.o c3 ?_|refine zV.p c3 rfl ?_|refine zV.l c3 rfl ?_|refine zV.o c3 ?_
 all_goals apply hr
 all_goals refine⟨[9],by simp,by simp,?_⟩
 all_goals simp[Tryz.f88,wD,wI,yX]
theorem wrapX (k n:Nat)(h:k<n)(hn:n<=9223372036854775807):IntKind.i64.wrap ((k:Int)+1)=((k+1:Nat):Int):=by
 rw[zF] <;> omega
def zis (l:List Int):List (List PV):=l.map fun x=>[I x]
@[simp] theorem zis_len (l:List Int):(zis l).length=l.length:=by simp[zis]
@[simp] theorem zis_getElem (l:List Int)(k:Nat)(h:k<(zis l).length):(zis l)[k]=[I (l[k]'(by simpa using h))]:=by simp[zis]
theorem zis_get {l:List Int}{k:Nat}(h:k<l.length):(zis l)[k]?=some [I l[k]]:=by simp[zis,h]
theorem zis_set (l:List Int)(k:Nat)(x:Int):(zis l).set k [I x]=zis (l.set k x):=by simp[zis]
theorem zis_take (l:List Int)(k:Nat):(zis l).take k=zis (l.take k):=by simp[zis,List.map_take]
theorem without1_con (x n:Int):Con Tryz.prog 128 [.p (I x),.ptr 1024 0] [.box 3 [.p (I n)]] (.ret (.p (B (decide (x=n)))) [] [.box 3 [.p (I n)]]):=by
 by_cases h:x=n
 all_goals refine wBodyG Tryz.tab Tryz.mixed Tryz.func128 rfl rfl Tryz.ntmps128 (by simp) (by simp) fun Q hr hn hp=>?_
 all_goals repeat' first|((first|refine O _ ?_|refine O _ _ ?_|(clear O;refine O _ ?_));clear O)|(refine zJ fun K O=>?_)|((first|refine zH ?_|refine zN rfl (by kernel_rfl) ?_|refine zM ?_|refine zK (by kernel_rfl) ?_);simp only[vS,vR,strip])|((first|refine wIs fun K O=>?_|refine wOs fun K O=>?_|refine wQs fun K O=>?_|refine zW ?_|refine zX ?_|refine zY ?_|refine zL ?_);simp[h])|(refine wIn ?_;refine And.intro (by kernel_rfl) ?_;try simp only[zZ])|refine zR ?_|refine zT ?_|((first|refine zI ?_|refine zO ?_|refine zP ?_);try simp)|((first|refine zS ?_|refine wOn ?_|refine wQn ?_);try simp only[zZ])
 all_goals apply hr
 all_goals refine⟨[],by simp,by simp,?_⟩
 all_goals simp[Tryz.f128,wD,wI,yX,h]
def fi (l:List Int)(n:Int):Nat:=l.findIdx (· == n)
theorem fi_le (l:List Int)(n:Int):fi l n<=l.length:=List.findIdx_le_length
theorem fi_of {l:List Int}{n:Int}{k:Nat}(hk:k<l.length)(h:l[k]=n)(hb:∀j (hj:j<k),¬ l[j]'(by omega)=n):fi l n=k:=by
 unfold fi
 rw[List.findIdx_eq hk]
 exact⟨by simpa using h,fun j hj=>by simpa using hb j hj⟩
theorem fi_none {l:List Int}{n:Int}(hb:∀j (hj:j<l.length),¬ l[j]=n):fi l n=l.length:=by
 unfold fi
 rw[List.findIdx_eq_length]
 intro x hx
 obtain⟨j,hj,rfl⟩:=List.getElem_of_mem hx
 simpa using hb j hj
def fiV (l:List Int)(n:Int):Int:=if fi l n=l.length then -1 else fi l n
theorem indexF_con (l:List Int)(n:Int)(hl:l.length<=1000000) :
 Con Tryz.prog 141 [.p (.sl 1 (zis l)),.clo ⟨128,false⟩ [.box 1024]] [.box 3 [.p (I n)]] (.ret (.p (I (fiV l n))) [] [.box 3 [.p (I n)]]):=by
 refine wBodyG Tryz.tab Tryz.mixed Tryz.func141 rfl rfl Tryz.ntmps141 (by simp) (by simp) fun Q hr hn hp=>?_
 repeat' first|((first|refine O _ ?_|refine O _ _ ?_|(clear O;refine O _ ?_));clear O)|(refine zJ fun K O=>?_)|((first|refine zH ?_|refine zN rfl (by kernel_rfl) ?_|refine zM ?_|refine zK (by kernel_rfl) ?_);simp only[vS,vR,strip])|((first|refine wIs fun K O=>?_|refine wOs fun K O=>?_|refine wQs fun K O=>?_|refine zW ?_|refine zX ?_|refine zY ?_|refine zL ?_);simp)|(refine wIn ?_;refine And.intro (by kernel_rfl) ?_;try simp only[zZ])|refine zR ?_|refine zT ?_|((first|refine zI ?_|refine zO ?_|refine zP ?_);try simp)|((first|refine zS ?_|refine wOn ?_|refine wQn ?_);try simp only[zZ])
 refine zC (fun N st=>∃k,k+N=l.length/\st.s 0=.p (.sl 1 (zis l))/\st.s 1=.clo ⟨128,false⟩ [.box 1024]/\st.s 7=.p (I l.length)/\st.s 8=.p (I k)/\st.b 1024=some (.box 3 [.p (I n)])/\∀j (hj:j<k)(hjl:j<l.length),¬ l[j]=n) l.length ⟨0,by simp⟩ fun K N st hL ⟨k,hk,g0,g1,g7,g8,b1,hi⟩=>?_
 by_cases hlt:k<l.length
 ·have hw:=wrapX k _ hlt (by omega)
  have he:=zis_get hlt
  have hx:=without1_con l[k] n
  by_cases o:l[k]=n
  ·have hf:fiV l n=k:=by
    have:=fi_of hlt o fun j hj=>hi j hj (by omega)
    unfold fiV;rw[this,if_neg (by omega)]
   rw[hf] at hr
   replace o:decide (l[k]=n)=true:=decide_eq_true o
   rw[o] at hx
   repeat' first|(refine CallK_read [1024] hx (by decide) (by decide) (by simp[b1]) (by simp[xA,zD,inN,pos,yZ,yN]) rfl ?_;simp[g0,g1,g7,g8,b1])|((first|refine O _ ?_|refine O _ _ ?_|(clear O;refine O _ ?_));clear O)|(refine zJ fun K O=>?_)|((first|refine zH ?_|refine zN rfl (by kernel_rfl) ?_|refine zM ?_|refine zK (by kernel_rfl) ?_);simp only[vS,vR,strip])|((first|refine wIs fun K O=>?_|refine wOs fun K O=>?_|refine wQs fun K O=>?_|refine zW ?_|refine zX ?_|refine zY ?_|refine zL ?_);simp[g0,g1,g7,g8,b1,hlt,hw,he])|(refine wIn ?_;refine And.intro (by kernel_rfl) ?_;try simp only[zZ])|refine zR ?_|refine zT ?_|((first|refine zI ?_|refine zO ?_|refine zP ?_);try simp)|((first|refine zS ?_|refine wOn ?_|refine wQn ?_);try simp only[zZ])
   all_goals apply hr
   all_goals refine⟨[],by simp,by simp,?_⟩
   all_goals simp[Tryz.f141,wD,wI,yX,g0,g1,g7,g8,b1]
  ·have o':decide (l[k]=n)=false:=decide_eq_false o
   rw[o'] at hx
   repeat' first|(refine CallK_read [1024] hx (by decide) (by decide) (by simp[b1]) (by simp[xA,zD,inN,pos,yZ,yN]) rfl ?_;simp[g0,g1,g7,g8,b1])|((first|refine O _ ?_|refine O _ _ ?_|(clear O;refine O _ ?_));clear O)|(refine zJ fun K O=>?_)|((first|refine zH ?_|refine zN rfl (by kernel_rfl) ?_|refine zM ?_|refine zK (by kernel_rfl) ?_);simp only[vS,vR,strip])|((first|refine wIs fun K O=>?_|refine wOs fun K O=>?_|refine wQs fun K O=>?_|refine zW ?_|refine zX ?_|refine zY ?_|refine zL ?_);simp[g0,g1,g7,g8,b1,hlt,hw,he])|(refine wIn ?_;refine And.intro (by kernel_rfl) ?_;try simp only[zZ])|refine zR ?_|refine zT ?_|((first|refine zI ?_|refine zO ?_|refine zP ?_);try simp)|((first|refine zS ?_|refine wOn ?_|refine wQn ?_);try simp only[zZ])
   refine hL _ (N-1) (by omega) ⟨k+1,by omega,?_⟩
   simp[g0,g1,g7,g8,b1,hw]
   intro j hj hjl
   by_cases hjk:j=k
   ·subst hjk;exact o
   ·exact hi j (by omega) hjl
 ·have hf:fiV l n = -1:=by
   have:=fi_none (l:=l) (n:=n) fun j hj=>hi j (by omega) hj
   unfold fiV;rw[if_pos this]
  rw[hf] at hr
  repeat' first|((first|refine O _ ?_|refine O _ _ ?_|(clear O;refine O _ ?_));clear O)|(refine zJ fun K O=>?_)|((first|refine zH ?_|refine zN rfl (by kernel_rfl) ?_|refine zM ?_|refine zK (by kernel_rfl) ?_);simp only[vS,vR,strip])|((first|refine wIs fun K O=>?_|refine wOs fun K O=>?_|refine wQs fun K O=>?_|refine zW ?_|refine zX ?_|refine zY ?_|refine zL ?_);simp[g0,g1,g7,g8,b1,hlt])|(refine wIn ?_;refine And.intro (by kernel_rfl) ?_;try simp only[zZ])|refine zR ?_|refine zT ?_|((first|refine zI ?_|refine zO ?_|refine zP ?_);try simp)|((first|refine zS ?_|refine wOn ?_|refine wQn ?_);try simp only[zZ])
  all_goals apply hr
  all_goals refine⟨[],by simp,by simp,?_⟩
  all_goals simp[Tryz.f141,wD,wI,yX,g0,g1,g7,g8,b1]
def but (l:List Int)(n:Int):List Int:=l.filter fun x => !decide (x=n)
theorem but_snoc {l:List Int}{k:Nat}(h:k<l.length)(n:Int):but (l.take (k+1)) n=if l[k]=n then but (l.take k) n else but (l.take k) n++[l[k]]:=by
 rw[List.take_succ_eq_append_getElem h]
 unfold but
 rw[List.filter_append]
 by_cases g:l[k]=n <;> simp[g]
theorem but_len (l:List Int)(n:Int):(but l n).length<=l.length:=List.length_filter_le _ _
theorem but_id {l:List Int}{n:Int}(h:fi l n=l.length):but l n=l:=by
 unfold fi at h
 rw[List.findIdx_eq_length] at h
 unfold but
 rw[List.filter_eq_self]
 intro x hx
 have:=h x hx
 simpa using this
theorem but_fi {l:List Int}{n:Int}(h:fi l n<l.length):but (l.take (fi l n+1)) n=l.take (fi l n):=by
 have h1:l[fi l n]=n:=by
  have:=List.findIdx_getElem (p:=(· == n)) (xs:=l) (w:=h)
  exact eq_of_beq this
 rw[but_snoc h,if_pos h1]
 unfold but
 rw[List.filter_eq_self]
 intro x hx
 obtain⟨j,hj,rfl⟩:=List.getElem_of_mem hx
 rw[List.getElem_take]
 have hj':j<fi l n:=by simp at hj;omega
 have:=List.not_of_lt_findIdx (p:=(· == n)) (xs:=l) hj'
 simpa using this
set_option maxHeartbeats 1000000 in
theorem deleteF_con (l:List Int)(n:Int)(hl:l.length<=1000000) :
 Con Tryz.prog 127 [.row 1024,.clo ⟨128,false⟩ [.box 1025]] [.row 3 1 (zis l),.box 3 [.p (I n)]] (.ret (.row 1024) [] [.row 3 1 (zis (but l n)),.box 3 [.p (I n)]]):=by
 have hc:=indexF_con l n hl
 by_cases hf:fi l n=l.length
 ·have hv:fiV l n = -1:=by unfold fiV;rw[if_pos hf]
  rw[hv] at hc
  rw[but_id hf]
  refine wBodyG Tryz.tab Tryz.mixed Tryz.func127 rfl rfl Tryz.ntmps127 (by simp) (by simp) fun Q hr hn hp=>?_
  repeat' first|(refine CallK_read [1025] hc (by decide) (by decide) (by simp[]) (by simp[xA,zD,inN,pos,yZ,yN]) rfl ?_;simp[])|((first|refine O _ ?_|refine O _ _ ?_|(clear O;refine O _ ?_));clear O)|(refine zJ fun K O=>?_)|((first|refine zH ?_|refine zN rfl (by kernel_rfl) ?_|refine zM ?_|refine zK (by kernel_rfl) ?_);simp only[vS,vR,strip])|((first|refine wIs fun K O=>?_|refine wOs fun K O=>?_|refine wQs fun K O=>?_|refine zW ?_|refine zX ?_|refine zY ?_|refine zL ?_);simp)|(refine wIn ?_;refine And.intro (by kernel_rfl) ?_;try simp only[zZ])|refine zR ?_|refine zT ?_|((first|refine zI ?_|refine zO ?_|refine zP ?_);try simp)|((first|refine zS ?_|refine wOn ?_|refine wQn ?_);try simp only[zZ])
  all_goals apply hr
  all_goals refine⟨[],by simp,by simp,?_⟩
  all_goals simp[Tryz.f127,wD,wI,yX,gaN]
 ·have hlt0:fi l n<l.length:=Nat.lt_of_le_of_ne (fi_le l n) hf
  have hv:fiV l n=fi l n:=by unfold fiV;rw[if_neg hf]
  have hne:¬ ((fi l n:Nat):Int) = -1:=by omega
  have hw0:=wrapX (fi l n) _ hlt0 (by omega)
  rw[hv] at hc
  have hst:=but_fi hlt0
  generalize fi l n=i0 at *
  refine wBodyG Tryz.tab Tryz.mixed Tryz.func127 rfl rfl Tryz.ntmps127 (by simp) (by simp) fun Q hr hn hp=>?_
  repeat' first|(refine CallK_read [1025] hc (by decide) (by decide) (by simp[]) (by simp[xA,zD,inN,pos,yZ,yN]) rfl ?_;simp[])|((first|refine O _ ?_|refine O _ _ ?_|(clear O;refine O _ ?_));clear O)|(refine zJ fun K O=>?_)|((first|refine zH ?_|refine zN rfl (by kernel_rfl) ?_|refine zM ?_|refine zK (by kernel_rfl) ?_);simp only[vS,vR,strip])|((first|refine wIs fun K O=>?_|refine wOs fun K O=>?_|refine wQs fun K O=>?_|refine zW ?_|refine zX ?_|refine zY ?_|refine zL ?_);simp[hne,hw0])|(refine wIn ?_;refine And.intro (by kernel_rfl) ?_;try simp only[zZ])|refine zR ?_|refine zT ?_|((first|refine zI ?_|refine zO ?_|refine zP ?_);try simp)|((first|refine zS ?_|refine wOn ?_|refine wQn ?_);try simp only[zZ])
  refine zC (fun N st=>∃ (i j:Nat)(L:List Int),j+N=l.length/\i<j/\L.length=l.length/\but (l.take j) n=L.take i/\(∀q,j<=q->L[q]?=l[q]?)/\st.s 0=.row 1024/\st.s 1=.clo ⟨128,false⟩ [.box 1025]/\st.s 5=.p (I i)/\st.s 6=.p (I j)/\st.b 1024=some (.row 3 1 (zis L))/\st.b 1025=some (.box 3 [.p (I n)])) (l.length-(i0+1)) ⟨i0,i0+1,l,by omega,by omega,rfl,hst,fun _ _=>rfl,by simp⟩ fun K N st hL ⟨i,j,L,hk,hij,hLl,hB,hT,g0,g1,g5,g6,b0,b1⟩=>?_
  by_cases hlt:j<l.length
  ·have hw:=wrapX j _ hlt (by omega)
   have hwi:=wrapX i l.length (by omega) (by omega)
   have hjL:j<L.length:=by omega
   have hiL:i<L.length:=by omega
   have he:=zis_get hjL
   have hej:L[j]=l[j]:=by
    have:=hT j (Nat.le_refl _)
    rw[List.getElem?_eq_getElem hjL,List.getElem?_eq_getElem hlt] at this
    simpa using this
   have hei:=zis_get hiL
   have hil:i<l.length:=by omega
   have hx:=without1_con L[j] n
   have hs:=but_snoc hlt n
   rw[<- hej] at hs
   have hset:=zis_set L i L[j]
   by_cases o:L[j]=n
   ·rw[if_pos o] at hs
    replace o:decide (L[j]=n)=true:=decide_eq_true o
    rw[o] at hx
    repeat' first|(refine CallK_read [1025] hx (by decide) (by decide) (by simp[b1]) (by simp[xA,zD,inN,pos,yZ,yN]) rfl ?_;simp[g0,g1,g5,g6,b0,b1])|((first|refine O _ ?_|refine O _ _ ?_|(clear O;refine O _ ?_));clear O)|(refine zJ fun K O=>?_)|((first|refine zH ?_|refine zN rfl (by kernel_rfl) ?_|refine zM ?_|refine zK (by kernel_rfl) ?_);simp only[vS,vR,strip])|((first|refine wIs fun K O=>?_|refine wOs fun K O=>?_|refine wQs fun K O=>?_|refine zW ?_|refine zX ?_|refine zY ?_|refine zL ?_);simp[g0,g1,g5,g6,b0,b1,hlt,hw,he,hLl,hjL])|(refine wIn ?_;refine And.intro (by kernel_rfl) ?_;try simp only[zZ])|refine zR ?_|refine zT ?_|((first|refine zI ?_|refine zO ?_|refine zP ?_);try simp)|((first|refine zS ?_|refine wOn ?_|refine wQn ?_);try simp only[zZ])
    refine hL _ (N-1) (by omega) ⟨i,j+1,L,by omega,by omega,hLl,by rw[hs];exact hB,fun q hq=>hT q (by omega),?_⟩
    simp[g0,g1,g5,g6,b0,b1,hw]
   ·rw[if_neg o,hB] at hs
    replace o:decide (L[j]=n)=false:=decide_eq_false o
    rw[o] at hx
    repeat' first|(refine CallK_read [1025] hx (by decide) (by decide) (by simp[b1]) (by simp[xA,zD,inN,pos,yZ,yN]) rfl ?_;simp[g0,g1,g5,g6,b0,b1])|((first|refine O _ ?_|refine O _ _ ?_|(clear O;refine O _ ?_));clear O)|(refine zJ fun K O=>?_)|((first|refine zH ?_|refine zN rfl (by kernel_rfl) ?_|refine zM ?_|refine zK (by kernel_rfl) ?_);simp only[vS,vR,strip])|((first|refine wIs fun K O=>?_|refine wOs fun K O=>?_|refine wQs fun K O=>?_|refine zW ?_|refine zX ?_|refine zY ?_|refine zL ?_);simp[g0,g1,g5,g6,b0,b1,hlt,hw,hwi,he,hei,hLl,hjL,hiL,hil,hset])|(refine wIn ?_;refine And.intro (by kernel_rfl) ?_;try simp only[zZ])|refine zR ?_|refine zT ?_|((first|refine zI ?_|refine zO ?_|refine zP ?_);try simp)|((first|refine zS ?_|refine wOn ?_|refine wQn ?_);try simp only[zZ])
    refine hL _ (N-1) (by omega) ⟨i+1,j+1,L.set i L[j],by omega,by omega,by simpa using hLl,?_,fun q hq=>?_,?_⟩
    ·rw[hs,List.take_succ_eq_append_getElem (by simpa using hiL),List.take_set_of_le (Nat.le_refl _),List.getElem_set_self]
    ·rw[List.getElem?_set_ne (by omega)];exact hT q (by omega)
    ·simp[g0,g1,g5,g6,b0,b1,hw,hwi,hset]
  ·obtain rfl:j=l.length:=by omega
   rw[List.take_of_length_le (Nat.le_refl _)] at hB
   have hiL:i<L.length:=by omega
   have hiL':i<=L.length:=by omega
   have hil2:i<=l.length:=by omega
   have ht:=zis_take L i
   have hfin:∀z:List (List PV),(List.take i (zis L)++z).take i=zis (but l n):=fun z=>by
    have h1:(zis L).take i=zis (L.take i):=zis_take L i
    rw[h1,hB,List.take_append_of_le_length (by simp;omega),List.take_of_length_le (by simp;omega)]
   repeat' first|(refine And.intro (by (try simp);omega) ?_)|((first|refine O _ ?_|refine O _ _ ?_|(clear O;refine O _ ?_));clear O)|(refine zJ fun K O=>?_)|((first|refine zH ?_|refine zN rfl (by kernel_rfl) ?_|refine zM ?_|refine zK (by kernel_rfl) ?_);simp only[vS,vR,strip])|((first|refine wIs fun K O=>?_|refine wOs fun K O=>?_|refine wQs fun K O=>?_|refine zW ?_|refine zX ?_|refine zY ?_|refine zL ?_);simp[g0,g1,g5,g6,b0,b1,hLl,hiL,hiL',hil2,hij])|(refine wIn ?_;refine And.intro (by kernel_rfl) ?_;try simp only[zZ])|refine zR ?_|refine zT ?_|((first|refine zI ?_|refine zO ?_|refine zP ?_);try simp)|((first|refine zS ?_|refine wOn ?_|refine wQn ?_);try simp only[zZ])
   all_goals (try rw[hfin])
   repeat' first|((first|refine O _ ?_|refine O _ _ ?_|(clear O;refine O _ ?_));clear O)|(refine zJ fun K O=>?_)|((first|refine zH ?_|refine zN rfl (by kernel_rfl) ?_|refine zM ?_|refine zK (by kernel_rfl) ?_);simp only[vS,vR,strip])|((first|refine wIs fun K O=>?_|refine wOs fun K O=>?_|refine wQs fun K O=>?_|refine zW ?_|refine zX ?_|refine zY ?_|refine zL ?_);simp)|(refine wIn ?_;refine And.intro (by kernel_rfl) ?_;try simp only[zZ])|refine zR ?_|refine zT ?_|((first|refine zI ?_|refine zO ?_|refine zP ?_);try simp)|((first|refine zS ?_|refine wOn ?_|refine wQn ?_);try simp only[zZ])
   all_goals apply hr
   all_goals refine⟨[],by simp,by simp,?_⟩
   all_goals simp[Tryz.f127,wD,wI,yX,gaN,b1,hfin,hB,ht]
end Go.Proofs.YtpihbhacmokekaaGreatDoor
