/- Texts that the proof needs: PR6 XO Shelf. -/
import Derived.Test.YtedbbcmokbogpaaGreatDoorP31PrepNumbers
import Derived.Shelf.LaysM
import Derived.Shelf.Strconv.Itoa3
import Derived.Test.YtedbbcmokbogpaaGreatDoorProg
namespace Go.Proofs.YtedbbcmokbogpaaGreatDoor
set_option linter.unusedSimpArgs false
set_option linter.unusedVariables false
set_option maxRecDepth 8000
open Go Go.Av
attribute [local irreducible] Go.Av.yP Go.Av.zU Go.Av.yN Go.Av.zT Go.Av.yO Go.Av.zV Go.Av.Con
def rsS (nx:Int)(p:Int):List Int->Bool
 |[]=>true
 |n::l=>decide (1<=n/\n<nx/\p<n) && rsS nx n l
def prevN (l:List Int)(k:Nat):Int:=if h:0<k/\k<=l.length then l[k-1]'(by omega) else 0
theorem prevN_succ (l:List Int)(k:Nat)(h:k<l.length):prevN l (k+1)=l[k]:=by
 unfold prevN;rw[dif_pos ⟨by omega,by omega⟩];rfl
theorem prevN_pos (l:List Int)(k:Nat)(h0:0<k)(h:k<l.length):prevN l k=l[k-1]'(by omega):=by
 unfold prevN;rw[dif_pos ⟨by omega,by omega⟩]
def rgtS (s:Sv):Bool:=tre s.ns && (decide (check s.c=0/\1<=s.nx/\s.nx<=1099511627776/\s.ss.length<=20) && rsS s.nx 0 s.ss)
set_option maxHeartbeats 4000000 in
theorem rightP_con (s:Sv)(hz:∀z∈s.ns,long z)(hm:s.c.ms.length<=1000000):zD Tryz.prog 9 [.p (.agg s.cells)] (.p (B (rgtS s))):=by
 have c1:=treeA_con s.ns hz
 have c2:=checkM_con s.c hm
 obtain⟨ns,ss,nx,⟨ep,n,kd,ms⟩,ae,an⟩:=s
 unfold rgtS
 unfold Sv.cells Cf.cells at *
 dsimp only at *
 generalize check ⟨ep,n,kd,ms⟩=ce at *
 generalize zns ns=X at *
 cases ht:tre ns with
 |false =>
  rw[ht] at c1
  rw[Bool.false_and]
  refine zG Tryz.tab Tryz.mixed Tryz.func9 rfl rfl Tryz.ntmps9 (by simp) (by simp) fun Q hr hn=>?_
  repeat' first|((first|refine O _ ?_|refine O _ _ ?_|(clear O;refine O _ ?_));clear O)|(refine zJ fun K O=>?_)|((first|refine zH ?_|refine zN rfl (by kernel_rfl) ?_|refine zM ?_|refine zK (by kernel_rfl) ?_);simp only[vZ,vY,strip])|((first|refine wIs fun K O=>?_|refine wOs fun K O=>?_|refine wQs fun K O=>?_|refine zW ?_|refine zX ?_|refine zY ?_|refine zL ?_);simp)|(refine wIn ?_;refine And.intro (by kernel_rfl) ?_;try simp only[zZ])|refine zQ ?_|refine zS ?_|((first|refine zI ?_|refine zO ?_|refine zP ?_);try simp)|((first|refine zR ?_|refine wOn ?_|refine wQn ?_);try simp only[zZ])|refine zU.p c1 rfl ?_|refine zU.l c1 rfl ?_|refine zT.p c1 rfl ?_|refine zT.l c1 rfl ?_|refine zU.o c1 ?_|refine zV.p c1 rfl ?_|refine zV.l c1 rfl ?_|refine zV.o c1 ?_
  all_goals apply hr
  all_goals simp[Tryz.f9]
 |true =>
 rw[ht] at c1
 rw[Bool.true_and]
 by_cases h1:ce=0
 case neg =>
  rw[decide_eq_false (fun h=>h1 h.1),Bool.false_and]
  have h1':(ce=0)=False:=eq_false h1
  refine zG Tryz.tab Tryz.mixed Tryz.func9 rfl rfl Tryz.ntmps9 (by simp) (by simp) fun Q hr hn=>?_
  repeat' first|((first|refine O _ ?_|refine O _ _ ?_|(clear O;refine O _ ?_));clear O)|(refine zJ fun K O=>?_)|((first|refine zH ?_|refine zN rfl (by kernel_rfl) ?_|refine zM ?_|refine zK (by kernel_rfl) ?_);simp only[vZ,vY,strip])|((first|refine wIs fun K O=>?_|refine wOs fun K O=>?_|refine wQs fun K O=>?_|refine zW ?_|refine zX ?_|refine zY ?_|refine zL ?_);simp[h1'])|(refine wIn ?_;refine And.intro (by kernel_rfl) ?_;try simp only[zZ])|refine zQ ?_|refine zS ?_|((first|refine zI ?_|refine zO ?_|refine zP ?_);try simp)|((first|refine zR ?_|refine wOn ?_|refine wQn ?_);try simp only[zZ])|refine zU.p c1 rfl ?_|refine zU.l c1 rfl ?_|refine zT.p c1 rfl ?_|refine zT.l c1 rfl ?_|refine zU.o c1 ?_|refine zV.p c1 rfl ?_|refine zV.l c1 rfl ?_|refine zV.o c1 ?_|refine zU.p c2 rfl ?_|refine zU.l c2 rfl ?_|refine zT.p c2 rfl ?_|refine zT.l c2 rfl ?_|refine zU.o c2 ?_|refine zV.p c2 rfl ?_|refine zV.l c2 rfl ?_|refine zV.o c2 ?_
  all_goals apply hr
  all_goals simp[Tryz.f9]
 subst h1
 by_cases h2:nx<1
 ·rw[decide_eq_false (fun h=>by have:=h.2.1;omega),Bool.false_and]
  refine zG Tryz.tab Tryz.mixed Tryz.func9 rfl rfl Tryz.ntmps9 (by simp) (by simp) fun Q hr hn=>?_
  repeat' first|((first|refine O _ ?_|refine O _ _ ?_|(clear O;refine O _ ?_));clear O)|(refine zJ fun K O=>?_)|((first|refine zH ?_|refine zN rfl (by kernel_rfl) ?_|refine zM ?_|refine zK (by kernel_rfl) ?_);simp only[vZ,vY,strip])|((first|refine wIs fun K O=>?_|refine wOs fun K O=>?_|refine wQs fun K O=>?_|refine zW ?_|refine zX ?_|refine zY ?_|refine zL ?_);simp[h2])|(refine wIn ?_;refine And.intro (by kernel_rfl) ?_;try simp only[zZ])|refine zQ ?_|refine zS ?_|((first|refine zI ?_|refine zO ?_|refine zP ?_);try simp)|((first|refine zR ?_|refine wOn ?_|refine wQn ?_);try simp only[zZ])|refine zU.p c1 rfl ?_|refine zU.l c1 rfl ?_|refine zT.p c1 rfl ?_|refine zT.l c1 rfl ?_|refine zU.o c1 ?_|refine zV.p c1 rfl ?_|refine zV.l c1 rfl ?_|refine zV.o c1 ?_|refine zU.p c2 rfl ?_|refine zU.l c2 rfl ?_|refine zT.p c2 rfl ?_|refine zT.l c2 rfl ?_|refine zU.o c2 ?_|refine zV.p c2 rfl ?_|refine zV.l c2 rfl ?_|refine zV.o c2 ?_
  all_goals apply hr
  all_goals simp[Tryz.f9]
 by_cases h3:1099511627776<nx
 ·rw[decide_eq_false (fun h=>by have:=h.2.2.1;omega),Bool.false_and]
  refine zG Tryz.tab Tryz.mixed Tryz.func9 rfl rfl Tryz.ntmps9 (by simp) (by simp) fun Q hr hn=>?_
  repeat' first|((first|refine O _ ?_|refine O _ _ ?_|(clear O;refine O _ ?_));clear O)|(refine zJ fun K O=>?_)|((first|refine zH ?_|refine zN rfl (by kernel_rfl) ?_|refine zM ?_|refine zK (by kernel_rfl) ?_);simp only[vZ,vY,strip])|((first|refine wIs fun K O=>?_|refine wOs fun K O=>?_|refine wQs fun K O=>?_|refine zW ?_|refine zX ?_|refine zY ?_|refine zL ?_);simp[h2,h3])|(refine wIn ?_;refine And.intro (by kernel_rfl) ?_;try simp only[zZ])|refine zQ ?_|refine zS ?_|((first|refine zI ?_|refine zO ?_|refine zP ?_);try simp)|((first|refine zR ?_|refine wOn ?_|refine wQn ?_);try simp only[zZ])|refine zU.p c1 rfl ?_|refine zU.l c1 rfl ?_|refine zT.p c1 rfl ?_|refine zT.l c1 rfl ?_|refine zU.o c1 ?_|refine zV.p c1 rfl ?_|refine zV.l c1 rfl ?_|refine zV.o c1 ?_|refine zU.p c2 rfl ?_|refine zU.l c2 rfl ?_|refine zT.p c2 rfl ?_|refine zT.l c2 rfl ?_|refine zU.o c2 ?_|refine zV.p c2 rfl ?_|refine zV.l c2 rfl ?_|refine zV.o c2 ?_
  all_goals apply hr
  all_goals simp[Tryz.f9]
 by_cases h4:20<ss.length
 ·rw[decide_eq_false (fun h=>by have:=h.2.2.2;omega),Bool.false_and]
  have h4':(20:Int)<ss.length:=by omega
  refine zG Tryz.tab Tryz.mixed Tryz.func9 rfl rfl Tryz.ntmps9 (by simp) (by simp) fun Q hr hn=>?_
  repeat' first|((first|refine O _ ?_|refine O _ _ ?_|(clear O;refine O _ ?_));clear O)|(refine zJ fun K O=>?_)|((first|refine zH ?_|refine zN rfl (by kernel_rfl) ?_|refine zM ?_|refine zK (by kernel_rfl) ?_);simp only[vZ,vY,strip])|((first|refine wIs fun K O=>?_|refine wOs fun K O=>?_|refine wQs fun K O=>?_|refine zW ?_|refine zX ?_|refine zY ?_|refine zL ?_);simp[h2,h3,h4,h4'])|(refine wIn ?_;refine And.intro (by kernel_rfl) ?_;try simp only[zZ])|refine zQ ?_|refine zS ?_|((first|refine zI ?_|refine zO ?_|refine zP ?_);try simp)|((first|refine zR ?_|refine wOn ?_|refine wQn ?_);try simp only[zZ])|refine zU.p c1 rfl ?_|refine zU.l c1 rfl ?_|refine zT.p c1 rfl ?_|refine zT.l c1 rfl ?_|refine zU.o c1 ?_|refine zV.p c1 rfl ?_|refine zV.l c1 rfl ?_|refine zV.o c1 ?_|refine zU.p c2 rfl ?_|refine zU.l c2 rfl ?_|refine zT.p c2 rfl ?_|refine zT.l c2 rfl ?_|refine zU.o c2 ?_|refine zV.p c2 rfl ?_|refine zV.l c2 rfl ?_|refine zV.o c2 ?_
  all_goals apply hr
  all_goals simp[Tryz.f9]
 have h4':¬ (20:Int)<ss.length:=by omega
 rw[decide_eq_true ⟨rfl,by omega,by omega,by omega⟩,Bool.true_and]
 refine zG Tryz.tab Tryz.mixed Tryz.func9 rfl rfl Tryz.ntmps9 (by simp) (by simp) fun Q hr hn=>?_
 repeat' first|((first|refine O _ ?_|refine O _ _ ?_|(clear O;refine O _ ?_));clear O)|(refine zJ fun K O=>?_)|((first|refine zH ?_|refine zN rfl (by kernel_rfl) ?_|refine zM ?_|refine zK (by kernel_rfl) ?_);simp only[vZ,vY,strip])|((first|refine wIs fun K O=>?_|refine wOs fun K O=>?_|refine wQs fun K O=>?_|refine zW ?_|refine zX ?_|refine zY ?_|refine zL ?_);simp[h2,h3,h4,h4'])|(refine wIn ?_;refine And.intro (by kernel_rfl) ?_;try simp only[zZ])|refine zQ ?_|refine zS ?_|((first|refine zI ?_|refine zO ?_|refine zP ?_);try simp)|((first|refine zR ?_|refine wOn ?_|refine wQn ?_);try simp only[zZ])|refine zU.p c1 rfl ?_|refine zU.l c1 rfl ?_|refine zT.p c1 rfl ?_|refine zT.l c1 rfl ?_|refine zU.o c1 ?_|refine zV.p c1 rfl ?_|refine zV.l c1 rfl ?_|refine zV.o c1 ?_|refine zU.p c2 rfl ?_|refine zU.l c2 rfl ?_|refine zT.p c2 rfl ?_|refine zT.l c2 rfl ?_|refine zU.o c2 ?_|refine zV.p c2 rfl ?_|refine zV.l c2 rfl ?_|refine zV.o c2 ?_
 refine yT (fun N st=>∃k,k+N=ss.length/\st.s 1=.ptr 1 0/\st.b 1=some (.box 30 [.p (.sl 5 X),.p (.sl 1 (ints ss)),.p (I nx),.p (I ep),.p (I n),.p (I kd),.p (.sl 4 (mbs ms)),.p (I ae),.p (I an)])/\st.s 32=.p (.sl 1 (ints ss))/\st.s 33=.p (I ss.length)/\st.s 34=.p (I k)/\rsS nx (prevN ss k) (ss.drop k)=rsS nx 0 ss) ss.length ⟨0,by simp[prevN]⟩ fun K N st hL ⟨k,hk,g1,b1,g32,g33,g34,hi⟩=>?_
 by_cases hlt:k<ss.length
 case neg =>
  have hlt':¬ (k:Int)<ss.length:=by omega
  rw[List.drop_of_length_le (by omega),rsS] at hi
  rw[<- hi] at hr
  repeat' first|((first|refine O _ ?_|refine O _ _ ?_|(clear O;refine O _ ?_));clear O)|(refine zJ fun K O=>?_)|((first|refine zH ?_|refine zN rfl (by kernel_rfl) ?_|refine zM ?_|refine zK (by kernel_rfl) ?_);simp only[vZ,vY,strip])|((first|refine wIs fun K O=>?_|refine wOs fun K O=>?_|refine wQs fun K O=>?_|refine zW ?_|refine zX ?_|refine zY ?_|refine zL ?_);simp[g1,b1,g32,g33,g34,hlt,hlt'])|(refine wIn ?_;refine And.intro (by kernel_rfl) ?_;try simp only[zZ])|refine zQ ?_|refine zS ?_|((first|refine zI ?_|refine zO ?_|refine zP ?_);try simp)|((first|refine zR ?_|refine wOn ?_|refine wQn ?_);try simp only[zZ])
  all_goals apply hr
  all_goals simp[Tryz.f9]
 have hlt':(k:Int)<ss.length:=by omega
 have hw:=yA k _ hlt (by omega)
 have he:=ints_get hlt
 rw[List.drop_eq_getElem_cons hlt,rsS] at hi
 have hp:=prevN_succ ss k hlt
 by_cases hk0:k=0
 ·subst hk0
  rw[show prevN ss 0=0 from rfl] at hi
  generalize hQ:ss[0]=v at *
  by_cases o1:v<1
  ·rw[decide_eq_false (fun h=>by omega),Bool.false_and] at hi
   rw[<- hi] at hr
   repeat' first|((first|refine O _ ?_|refine O _ _ ?_|(clear O;refine O _ ?_));clear O)|(refine zJ fun K O=>?_)|((first|refine zH ?_|refine zN rfl (by kernel_rfl) ?_|refine zM ?_|refine zK (by kernel_rfl) ?_);simp only[vZ,vY,strip])|((first|refine wIs fun K O=>?_|refine wOs fun K O=>?_|refine wQs fun K O=>?_|refine zW ?_|refine zX ?_|refine zY ?_|refine zL ?_);simp[g1,b1,g32,g33,g34,hlt,hlt',he,hQ,o1])|(refine wIn ?_;refine And.intro (by kernel_rfl) ?_;try simp only[zZ])|refine zQ ?_|refine zS ?_|((first|refine zI ?_|refine zO ?_|refine zP ?_);try simp)|((first|refine zR ?_|refine wOn ?_|refine wQn ?_);try simp only[zZ])
   all_goals apply hr
   all_goals simp[Tryz.f9]
  by_cases o2:nx<=v
  ·rw[decide_eq_false (fun h=>by omega),Bool.false_and] at hi
   rw[<- hi] at hr
   repeat' first|((first|refine O _ ?_|refine O _ _ ?_|(clear O;refine O _ ?_));clear O)|(refine zJ fun K O=>?_)|((first|refine zH ?_|refine zN rfl (by kernel_rfl) ?_|refine zM ?_|refine zK (by kernel_rfl) ?_);simp only[vZ,vY,strip])|((first|refine wIs fun K O=>?_|refine wOs fun K O=>?_|refine wQs fun K O=>?_|refine zW ?_|refine zX ?_|refine zY ?_|refine zL ?_);simp[g1,b1,g32,g33,g34,hlt,hlt',he,hQ,o1,o2])|(refine wIn ?_;refine And.intro (by kernel_rfl) ?_;try simp only[zZ])|refine zQ ?_|refine zS ?_|((first|refine zI ?_|refine zO ?_|refine zP ?_);try simp)|((first|refine zR ?_|refine wOn ?_|refine wQn ?_);try simp only[zZ])
   all_goals apply hr
   all_goals simp[Tryz.f9]
  rw[decide_eq_true ⟨by omega,by omega,by omega⟩,Bool.true_and] at hi
  repeat' first|((first|refine O _ ?_|refine O _ _ ?_|(clear O;refine O _ ?_));clear O)|(refine zJ fun K O=>?_)|((first|refine zH ?_|refine zN rfl (by kernel_rfl) ?_|refine zM ?_|refine zK (by kernel_rfl) ?_);simp only[vZ,vY,strip])|((first|refine wIs fun K O=>?_|refine wOs fun K O=>?_|refine wQs fun K O=>?_|refine zW ?_|refine zX ?_|refine zY ?_|refine zL ?_);simp[g1,b1,g32,g33,g34,hlt,hlt',hw,he,hQ,o1,o2])|(refine wIn ?_;refine And.intro (by kernel_rfl) ?_;try simp only[zZ])|refine zQ ?_|refine zS ?_|((first|refine zI ?_|refine zO ?_|refine zP ?_);try simp)|((first|refine zR ?_|refine wOn ?_|refine wQn ?_);try simp only[zZ])
  all_goals refine hL _ (N-1) (by omega) ⟨0+1,by omega,?_⟩
  all_goals rw[hp]
  all_goals simp[g1,b1,g32,g33,g34]
  all_goals exact⟨by decide,by simpa using hi⟩
 ·have hw1:IntKind.i64.wrap ((k:Int)-1)=((k-1:Nat):Int):=by rw[zF] <;> omega
  have hk1:0<k:=by omega
  have hk1':(0:Int)<k:=by omega
  have he1:=ints_get (l:=ss) (k:=k-1) (by omega)
  have hq:=prevN_pos ss k hk1 hlt
  rw[hq] at hi
  clear hq
  generalize hQ:ss[k]=v at *
  generalize hQ1:ss[k-1]=u at *
  by_cases o1:v<1
  ·rw[decide_eq_false (fun h=>by omega),Bool.false_and] at hi
   rw[<- hi] at hr
   repeat' first|((first|refine O _ ?_|refine O _ _ ?_|(clear O;refine O _ ?_));clear O)|(refine zJ fun K O=>?_)|((first|refine zH ?_|refine zN rfl (by kernel_rfl) ?_|refine zM ?_|refine zK (by kernel_rfl) ?_);simp only[vZ,vY,strip])|((first|refine wIs fun K O=>?_|refine wOs fun K O=>?_|refine wQs fun K O=>?_|refine zW ?_|refine zX ?_|refine zY ?_|refine zL ?_);simp[g1,b1,g32,g33,g34,hlt,hlt',he,hQ,o1,hk1,hk1',hw1,he1,hQ1])|(refine wIn ?_;refine And.intro (by kernel_rfl) ?_;try simp only[zZ])|refine zQ ?_|refine zS ?_|((first|refine zI ?_|refine zO ?_|refine zP ?_);try simp)|((first|refine zR ?_|refine wOn ?_|refine wQn ?_);try simp only[zZ])
   all_goals apply hr
   all_goals simp[Tryz.f9]
  by_cases o2:nx<=v
  ·rw[decide_eq_false (fun h=>by omega),Bool.false_and] at hi
   rw[<- hi] at hr
   repeat' first|((first|refine O _ ?_|refine O _ _ ?_|(clear O;refine O _ ?_));clear O)|(refine zJ fun K O=>?_)|((first|refine zH ?_|refine zN rfl (by kernel_rfl) ?_|refine zM ?_|refine zK (by kernel_rfl) ?_);simp only[vZ,vY,strip])|((first|refine wIs fun K O=>?_|refine wOs fun K O=>?_|refine wQs fun K O=>?_|refine zW ?_|refine zX ?_|refine zY ?_|refine zL ?_);simp[g1,b1,g32,g33,g34,hlt,hlt',he,hQ,o1,o2,hk1,hk1',hw1,he1,hQ1])|(refine wIn ?_;refine And.intro (by kernel_rfl) ?_;try simp only[zZ])|refine zQ ?_|refine zS ?_|((first|refine zI ?_|refine zO ?_|refine zP ?_);try simp)|((first|refine zR ?_|refine wOn ?_|refine wQn ?_);try simp only[zZ])
   all_goals apply hr
   all_goals simp[Tryz.f9]
  have hk2:k-1<ss.length:=by omega
  have hk2':((k-1:Nat):Int)<ss.length:=by omega
  by_cases o3:v<=u
  ·rw[decide_eq_false (fun h=>by omega),Bool.false_and] at hi
   rw[<- hi] at hr
   repeat' first|((first|refine O _ ?_|refine O _ _ ?_|(clear O;refine O _ ?_));clear O)|(refine zJ fun K O=>?_)|((first|refine zH ?_|refine zN rfl (by kernel_rfl) ?_|refine zM ?_|refine zK (by kernel_rfl) ?_);simp only[vZ,vY,strip])|((first|refine wIs fun K O=>?_|refine wOs fun K O=>?_|refine wQs fun K O=>?_|refine zW ?_|refine zX ?_|refine zY ?_|refine zL ?_);simp[g1,b1,g32,g33,g34,hlt,hlt',he,hQ,o1,o2,o3,hk1,hk1',hw1,he1,hQ1,hk2,hk2'])|(refine wIn ?_;refine And.intro (by kernel_rfl) ?_;try simp only[zZ])|refine zQ ?_|refine zS ?_|((first|refine zI ?_|refine zO ?_|refine zP ?_);try simp)|((first|refine zR ?_|refine wOn ?_|refine wQn ?_);try simp only[zZ])
   all_goals apply hr
   all_goals simp[Tryz.f9]
  rw[decide_eq_true ⟨by omega,by omega,by omega⟩,Bool.true_and] at hi
  repeat' first|((first|refine O _ ?_|refine O _ _ ?_|(clear O;refine O _ ?_));clear O)|(refine zJ fun K O=>?_)|((first|refine zH ?_|refine zN rfl (by kernel_rfl) ?_|refine zM ?_|refine zK (by kernel_rfl) ?_);simp only[vZ,vY,strip])|((first|refine wIs fun K O=>?_|refine wOs fun K O=>?_|refine wQs fun K O=>?_|refine zW ?_|refine zX ?_|refine zY ?_|refine zL ?_);simp[g1,b1,g32,g33,g34,hlt,hlt',hw,he,hQ,o1,o2,o3,hk1,hk1',hw1,he1,hQ1,hk2,hk2'])|(refine wIn ?_;refine And.intro (by kernel_rfl) ?_;try simp only[zZ])|refine zQ ?_|refine zS ?_|((first|refine zI ?_|refine zO ?_|refine zP ?_);try simp)|((first|refine zR ?_|refine wOn ?_|refine wQn ?_);try simp only[zZ])
  all_goals refine hL _ (N-1) (by omega) ⟨k+1,by omega,?_⟩
  all_goals rw[hp]
  all_goals simp[g1,b1,g32,g33,g34,hw,hi]
set_option maxHeartbeats 4000000 in
theorem rightP09_con (s:Sv)(hz:∀z∈s.ns,long z)(hm:s.c.ms.length<=1000000):zD Tryz.prog 10 [.p (.agg s.cells)] (.p (B (rgtS s))):=by
 have c1:=treeR_con s.ns hz
 have c2:=check04_con s.c hm
 obtain⟨ns,ss,nx,⟨ep,n,kd,ms⟩,ae,an⟩:=s
 unfold rgtS
 unfold Sv.cells Cf.cells at *
 dsimp only at *
 generalize check ⟨ep,n,kd,ms⟩=ce at *
 generalize zns ns=X at *
 cases ht:tre ns with
 |false =>
  rw[ht] at c1
  rw[Bool.false_and]
  refine zG Tryz.tab Tryz.mixed Tryz.func10 rfl rfl Tryz.ntmps10 (by simp) (by simp) fun Q hr hn=>?_
  repeat' first|((first|refine O _ ?_|refine O _ _ ?_|(clear O;refine O _ ?_));clear O)|(refine zJ fun K O=>?_)|((first|refine zH ?_|refine zN rfl (by kernel_rfl) ?_|refine zM ?_|refine zK (by kernel_rfl) ?_);simp only[vZ,vY,strip])|((first|refine wIs fun K O=>?_|refine wOs fun K O=>?_|refine wQs fun K O=>?_|refine zW ?_|refine zX ?_|refine zY ?_|refine zL ?_);simp)|(refine wIn ?_;refine And.intro (by kernel_rfl) ?_;try simp only[zZ])|refine zQ ?_|refine zS ?_|((first|refine zI ?_|refine zO ?_|refine zP ?_);try simp)|((first|refine zR ?_|refine wOn ?_|refine wQn ?_);try simp only[zZ])|refine zU.p c1 rfl ?_|refine zU.l c1 rfl ?_|refine zT.p c1 rfl ?_|refine zT.l c1 rfl ?_|refine zU.o c1 ?_|refine zV.p c1 rfl ?_|refine zV.l c1 rfl ?_|refine zV.o c1 ?_
  all_goals apply hr
  all_goals simp[Tryz.f10]
 |true =>
 rw[ht] at c1
 rw[Bool.true_and]
 by_cases h1:ce=0
 case neg =>
  rw[decide_eq_false (fun h=>h1 h.1),Bool.false_and]
  have h1':(ce=0)=False:=eq_false h1
  refine zG Tryz.tab Tryz.mixed Tryz.func10 rfl rfl Tryz.ntmps10 (by simp) (by simp) fun Q hr hn=>?_
  repeat' first|((first|refine O _ ?_|refine O _ _ ?_|(clear O;refine O _ ?_));clear O)|(refine zJ fun K O=>?_)|((first|refine zH ?_|refine zN rfl (by kernel_rfl) ?_|refine zM ?_|refine zK (by kernel_rfl) ?_);simp only[vZ,vY,strip])|((first|refine wIs fun K O=>?_|refine wOs fun K O=>?_|refine wQs fun K O=>?_|refine zW ?_|refine zX ?_|refine zY ?_|refine zL ?_);simp[h1'])|(refine wIn ?_;refine And.intro (by kernel_rfl) ?_;try simp only[zZ])|refine zQ ?_|refine zS ?_|((first|refine zI ?_|refine zO ?_|refine zP ?_);try simp)|((first|refine zR ?_|refine wOn ?_|refine wQn ?_);try simp only[zZ])|refine zU.p c1 rfl ?_|refine zU.l c1 rfl ?_|refine zT.p c1 rfl ?_|refine zT.l c1 rfl ?_|refine zU.o c1 ?_|refine zV.p c1 rfl ?_|refine zV.l c1 rfl ?_|refine zV.o c1 ?_|refine zU.p c2 rfl ?_|refine zU.l c2 rfl ?_|refine zT.p c2 rfl ?_|refine zT.l c2 rfl ?_|refine zU.o c2 ?_|refine zV.p c2 rfl ?_|refine zV.l c2 rfl ?_|refine zV.o c2 ?_
  all_goals apply hr
  all_goals simp[Tryz.f10]
 subst h1
 by_cases h2:nx<1
 ·rw[decide_eq_false (fun h=>by have:=h.2.1;omega),Bool.false_and]
  refine zG Tryz.tab Tryz.mixed Tryz.func10 rfl rfl Tryz.ntmps10 (by simp) (by simp) fun Q hr hn=>?_
  repeat' first|((first|refine O _ ?_|refine O _ _ ?_|(clear O;refine O _ ?_));clear O)|(refine zJ fun K O=>?_)|((first|refine zH ?_|refine zN rfl (by kernel_rfl) ?_|refine zM ?_|refine zK (by kernel_rfl) ?_);simp only[vZ,vY,strip])|((first|refine wIs fun K O=>?_|refine wOs fun K O=>?_|refine wQs fun K O=>?_|refine zW ?_|refine zX ?_|refine zY ?_|refine zL ?_);simp[h2])|(refine wIn ?_;refine And.intro (by kernel_rfl) ?_;try simp only[zZ])|refine zQ ?_|refine zS ?_|((first|refine zI ?_|refine zO ?_|refine zP ?_);try simp)|((first|refine zR ?_|refine wOn ?_|refine wQn ?_);try simp only[zZ])|refine zU.p c1 rfl ?_|refine zU.l c1 rfl ?_|refine zT.p c1 rfl ?_|refine zT.l c1 rfl ?_|refine zU.o c1 ?_|refine zV.p c1 rfl ?_|refine zV.l c1 rfl ?_|refine zV.o c1 ?_|refine zU.p c2 rfl ?_|refine zU.l c2 rfl ?_|refine zT.p c2 rfl ?_|refine zT.l c2 rfl ?_|refine zU.o c2 ?_|refine zV.p c2 rfl ?_|refine zV.l c2 rfl ?_|refine zV.o c2 ?_
  all_goals apply hr
  all_goals simp[Tryz.f10]
 by_cases h3:1099511627776<nx
 ·rw[decide_eq_false (fun h=>by have:=h.2.2.1;omega),Bool.false_and]
  refine zG Tryz.tab Tryz.mixed Tryz.func10 rfl rfl Tryz.ntmps10 (by simp) (by simp) fun Q hr hn=>?_
  repeat' first|((first|refine O _ ?_|refine O _ _ ?_|(clear O;refine O _ ?_));clear O)|(refine zJ fun K O=>?_)|((first|refine zH ?_|refine zN rfl (by kernel_rfl) ?_|refine zM ?_|refine zK (by kernel_rfl) ?_);simp only[vZ,vY,strip])|((first|refine wIs fun K O=>?_|refine wOs fun K O=>?_|refine wQs fun K O=>?_|refine zW ?_|refine zX ?_|refine zY ?_|refine zL ?_);simp[h2,h3])|(refine wIn ?_;refine And.intro (by kernel_rfl) ?_;try simp only[zZ])|refine zQ ?_|refine zS ?_|((first|refine zI ?_|refine zO ?_|refine zP ?_);try simp)|((first|refine zR ?_|refine wOn ?_|refine wQn ?_);try simp only[zZ])|refine zU.p c1 rfl ?_|refine zU.l c1 rfl ?_|refine zT.p c1 rfl ?_|refine zT.l c1 rfl ?_|refine zU.o c1 ?_|refine zV.p c1 rfl ?_|refine zV.l c1 rfl ?_|refine zV.o c1 ?_|refine zU.p c2 rfl ?_|refine zU.l c2 rfl ?_|refine zT.p c2 rfl ?_|refine zT.l c2 rfl ?_|refine zU.o c2 ?_|refine zV.p c2 rfl ?_|refine zV.l c2 rfl ?_|refine zV.o c2 ?_
  all_goals apply hr
  all_goals simp[Tryz.f10]
 by_cases h4:20<ss.length
 ·rw[decide_eq_false (fun h=>by have:=h.2.2.2;omega),Bool.false_and]
  have h4':(20:Int)<ss.length:=by omega
  refine zG Tryz.tab Tryz.mixed Tryz.func10 rfl rfl Tryz.ntmps10 (by simp) (by simp) fun Q hr hn=>?_
  repeat' first|((first|refine O _ ?_|refine O _ _ ?_|(clear O;refine O _ ?_));clear O)|(refine zJ fun K O=>?_)|((first|refine zH ?_|refine zN rfl (by kernel_rfl) ?_|refine zM ?_|refine zK (by kernel_rfl) ?_);simp only[vZ,vY,strip])|((first|refine wIs fun K O=>?_|refine wOs fun K O=>?_|refine wQs fun K O=>?_|refine zW ?_|refine zX ?_|refine zY ?_|refine zL ?_);simp[h2,h3,h4,h4'])|(refine wIn ?_;refine And.intro (by kernel_rfl) ?_;try simp only[zZ])|refine zQ ?_|refine zS ?_|((first|refine zI ?_|refine zO ?_|refine zP ?_);try simp)|((first|refine zR ?_|refine wOn ?_|refine wQn ?_);try simp only[zZ])|refine zU.p c1 rfl ?_|refine zU.l c1 rfl ?_|refine zT.p c1 rfl ?_|refine zT.l c1 rfl ?_|refine zU.o c1 ?_|refine zV.p c1 rfl ?_|refine zV.l c1 rfl ?_|refine zV.o c1 ?_|refine zU.p c2 rfl ?_|refine zU.l c2 rfl ?_|refine zT.p c2 rfl ?_|refine zT.l c2 rfl ?_|refine zU.o c2 ?_|refine zV.p c2 rfl ?_|refine zV.l c2 rfl ?_|refine zV.o c2 ?_
  all_goals apply hr
  all_goals simp[Tryz.f10]
 have h4':¬ (20:Int)<ss.length:=by omega
 rw[decide_eq_true ⟨rfl,by omega,by omega,by omega⟩,Bool.true_and]
 refine zG Tryz.tab Tryz.mixed Tryz.func10 rfl rfl Tryz.ntmps10 (by simp) (by simp) fun Q hr hn=>?_
 repeat' first|((first|refine O _ ?_|refine O _ _ ?_|(clear O;refine O _ ?_));clear O)|(refine zJ fun K O=>?_)|((first|refine zH ?_|refine zN rfl (by kernel_rfl) ?_|refine zM ?_|refine zK (by kernel_rfl) ?_);simp only[vZ,vY,strip])|((first|refine wIs fun K O=>?_|refine wOs fun K O=>?_|refine wQs fun K O=>?_|refine zW ?_|refine zX ?_|refine zY ?_|refine zL ?_);simp[h2,h3,h4,h4'])|(refine wIn ?_;refine And.intro (by kernel_rfl) ?_;try simp only[zZ])|refine zQ ?_|refine zS ?_|((first|refine zI ?_|refine zO ?_|refine zP ?_);try simp)|((first|refine zR ?_|refine wOn ?_|refine wQn ?_);try simp only[zZ])|refine zU.p c1 rfl ?_|refine zU.l c1 rfl ?_|refine zT.p c1 rfl ?_|refine zT.l c1 rfl ?_|refine zU.o c1 ?_|refine zV.p c1 rfl ?_|refine zV.l c1 rfl ?_|refine zV.o c1 ?_|refine zU.p c2 rfl ?_|refine zU.l c2 rfl ?_|refine zT.p c2 rfl ?_|refine zT.l c2 rfl ?_|refine zU.o c2 ?_|refine zV.p c2 rfl ?_|refine zV.l c2 rfl ?_|refine zV.o c2 ?_
 refine yT (fun N st=>∃k,k+N=ss.length/\st.s 1=.ptr 1 0/\st.b 1=some (.box 30 [.p (.sl 5 X),.p (.sl 1 (ints ss)),.p (I nx),.p (I ep),.p (I n),.p (I kd),.p (.sl 4 (mbs ms)),.p (I ae),.p (I an)])/\st.s 32=.p (.sl 1 (ints ss))/\st.s 33=.p (I ss.length)/\st.s 34=.p (I k)/\rsS nx (prevN ss k) (ss.drop k)=rsS nx 0 ss) ss.length ⟨0,by simp[prevN]⟩ fun K N st hL ⟨k,hk,g1,b1,g32,g33,g34,hi⟩=>?_
 by_cases hlt:k<ss.length
 case neg =>
  have hlt':¬ (k:Int)<ss.length:=by omega
  rw[List.drop_of_length_le (by omega),rsS] at hi
  rw[<- hi] at hr
  repeat' first|((first|refine O _ ?_|refine O _ _ ?_|(clear O;refine O _ ?_));clear O)|(refine zJ fun K O=>?_)|((first|refine zH ?_|refine zN rfl (by kernel_rfl) ?_|refine zM ?_|refine zK (by kernel_rfl) ?_);simp only[vZ,vY,strip])|((first|refine wIs fun K O=>?_|refine wOs fun K O=>?_|refine wQs fun K O=>?_|refine zW ?_|refine zX ?_|refine zY ?_|refine zL ?_);simp[g1,b1,g32,g33,g34,hlt,hlt'])|(refine wIn ?_;refine And.intro (by kernel_rfl) ?_;try simp only[zZ])|refine zQ ?_|refine zS ?_|((first|refine zI ?_|refine zO ?_|refine zP ?_);try simp)|((first|refine zR ?_|refine wOn ?_|refine wQn ?_);try simp only[zZ])
  all_goals apply hr
  all_goals simp[Tryz.f10]
 have hlt':(k:Int)<ss.length:=by omega
 have hw:=yA k _ hlt (by omega)
 have he:=ints_get hlt
 rw[List.drop_eq_getElem_cons hlt,rsS] at hi
 have hp:=prevN_succ ss k hlt
 by_cases hk0:k=0
 ·subst hk0
  rw[show prevN ss 0=0 from rfl] at hi
  generalize hQ:ss[0]=v at *
  by_cases o1:v<1
  ·rw[decide_eq_false (fun h=>by omega),Bool.false_and] at hi
   rw[<- hi] at hr
   repeat' first|((first|refine O _ ?_|refine O _ _ ?_|(clear O;refine O _ ?_));clear O)|(refine zJ fun K O=>?_)|((first|refine zH ?_|refine zN rfl (by kernel_rfl) ?_|refine zM ?_|refine zK (by kernel_rfl) ?_);simp only[vZ,vY,strip])|((first|refine wIs fun K O=>?_|refine wOs fun K O=>?_|refine wQs fun K O=>?_|refine zW ?_|refine zX ?_|refine zY ?_|refine zL ?_);simp[g1,b1,g32,g33,g34,hlt,hlt',he,hQ,o1])|(refine wIn ?_;refine And.intro (by kernel_rfl) ?_;try simp only[zZ])|refine zQ ?_|refine zS ?_|((first|refine zI ?_|refine zO ?_|refine zP ?_);try simp)|((first|refine zR ?_|refine wOn ?_|refine wQn ?_);try simp only[zZ])
   all_goals apply hr
   all_goals simp[Tryz.f10]
  by_cases o2:nx<=v
  ·rw[decide_eq_false (fun h=>by omega),Bool.false_and] at hi
   rw[<- hi] at hr
   repeat' first|((first|refine O _ ?_|refine O _ _ ?_|(clear O;refine O _ ?_));clear O)|(refine zJ fun K O=>?_)|((first|refine zH ?_|refine zN rfl (by kernel_rfl) ?_|refine zM ?_|refine zK (by kernel_rfl) ?_);simp only[vZ,vY,strip])|((first|refine wIs fun K O=>?_|refine wOs fun K O=>?_|refine wQs fun K O=>?_|refine zW ?_|refine zX ?_|refine zY ?_|refine zL ?_);simp[g1,b1,g32,g33,g34,hlt,hlt',he,hQ,o1,o2])|(refine wIn ?_;refine And.intro (by kernel_rfl) ?_;try simp only[zZ])|refine zQ ?_|refine zS ?_|((first|refine zI ?_|refine zO ?_|refine zP ?_);try simp)|((first|refine zR ?_|refine wOn ?_|refine wQn ?_);try simp only[zZ])
   all_goals apply hr
   all_goals simp[Tryz.f10]
  rw[decide_eq_true ⟨by omega,by omega,by omega⟩,Bool.true_and] at hi
  repeat' first|((first|refine O _ ?_|refine O _ _ ?_|(clear O;refine O _ ?_));clear O)|(refine zJ fun K O=>?_)|((first|refine zH ?_|refine zN rfl (by kernel_rfl) ?_|refine zM ?_|refine zK (by kernel_rfl) ?_);simp only[vZ,vY,strip])|((first|refine wIs fun K O=>?_|refine wOs fun K O=>?_|refine wQs fun K O=>?_|refine zW ?_|refine zX ?_|refine zY ?_|refine zL ?_);simp[g1,b1,g32,g33,g34,hlt,hlt',hw,he,hQ,o1,o2])|(refine wIn ?_;refine And.intro (by kernel_rfl) ?_;try simp only[zZ])|refine zQ ?_|refine zS ?_|((first|refine zI ?_|refine zO ?_|refine zP ?_);try simp)|((first|refine zR ?_|refine wOn ?_|refine wQn ?_);try simp only[zZ])
  all_goals refine hL _ (N-1) (by omega) ⟨0+1,by omega,?_⟩
  all_goals rw[hp]
  all_goals simp[g1,b1,g32,g33,g34]
  all_goals exact⟨by decide,by simpa using hi⟩
 ·have hw1:IntKind.i64.wrap ((k:Int)-1)=((k-1:Nat):Int):=by rw[zF] <;> omega
  have hk1:0<k:=by omega
  have hk1':(0:Int)<k:=by omega
  have he1:=ints_get (l:=ss) (k:=k-1) (by omega)
  have hq:=prevN_pos ss k hk1 hlt
  rw[hq] at hi
  clear hq
  generalize hQ:ss[k]=v at *
  generalize hQ1:ss[k-1]=u at *
  by_cases o1:v<1
  ·rw[decide_eq_false (fun h=>by omega),Bool.false_and] at hi
   rw[<- hi] at hr
   repeat' first|((first|refine O _ ?_|refine O _ _ ?_|(clear O;refine O _ ?_));clear O)|(refine zJ fun K O=>?_)|((first|refine zH ?_|refine zN rfl (by kernel_rfl) ?_|refine zM ?_|refine zK (by kernel_rfl) ?_);simp only[vZ,vY,strip])|((first|refine wIs fun K O=>?_|refine wOs fun K O=>?_|refine wQs fun K O=>?_|refine zW ?_|refine zX ?_|refine zY ?_|refine zL ?_);simp[g1,b1,g32,g33,g34,hlt,hlt',he,hQ,o1,hk1,hk1',hw1,he1,hQ1])|(refine wIn ?_;refine And.intro (by kernel_rfl) ?_;try simp only[zZ])|refine zQ ?_|refine zS ?_|((first|refine zI ?_|refine zO ?_|refine zP ?_);try simp)|((first|refine zR ?_|refine wOn ?_|refine wQn ?_);try simp only[zZ])
   all_goals apply hr
   all_goals simp[Tryz.f10]
  by_cases o2:nx<=v
  ·rw[decide_eq_false (fun h=>by omega),Bool.false_and] at hi
   rw[<- hi] at hr
   repeat' first|((first|refine O _ ?_|refine O _ _ ?_|(clear O;refine O _ ?_));clear O)|(refine zJ fun K O=>?_)|((first|refine zH ?_|refine zN rfl (by kernel_rfl) ?_|refine zM ?_|refine zK (by kernel_rfl) ?_);simp only[vZ,vY,strip])|((first|refine wIs fun K O=>?_|refine wOs fun K O=>?_|refine wQs fun K O=>?_|refine zW ?_|refine zX ?_|refine zY ?_|refine zL ?_);simp[g1,b1,g32,g33,g34,hlt,hlt',he,hQ,o1,o2,hk1,hk1',hw1,he1,hQ1])|(refine wIn ?_;refine And.intro (by kernel_rfl) ?_;try simp only[zZ])|refine zQ ?_|refine zS ?_|((first|refine zI ?_|refine zO ?_|refine zP ?_);try simp)|((first|refine zR ?_|refine wOn ?_|refine wQn ?_);try simp only[zZ])
   all_goals apply hr
   all_goals simp[Tryz.f10]
  have hk2:k-1<ss.length:=by omega
  have hk2':((k-1:Nat):Int)<ss.length:=by omega
  by_cases o3:v<=u
  ·rw[decide_eq_false (fun h=>by omega),Bool.false_and] at hi
   rw[<- hi] at hr
   repeat' first|((first|refine O _ ?_|refine O _ _ ?_|(clear O;refine O _ ?_));clear O)|(refine zJ fun K O=>?_)|((first|refine zH ?_|refine zN rfl (by kernel_rfl) ?_|refine zM ?_|refine zK (by kernel_rfl) ?_);simp only[vZ,vY,strip])|((first|refine wIs fun K O=>?_|refine wOs fun K O=>?_|refine wQs fun K O=>?_|refine zW ?_|refine zX ?_|refine zY ?_|refine zL ?_);simp[g1,b1,g32,g33,g34,hlt,hlt',he,hQ,o1,o2,o3,hk1,hk1',hw1,he1,hQ1,hk2,hk2'])|(refine wIn ?_;refine And.intro (by kernel_rfl) ?_;try simp only[zZ])|refine zQ ?_|refine zS ?_|((first|refine zI ?_|refine zO ?_|refine zP ?_);try simp)|((first|refine zR ?_|refine wOn ?_|refine wQn ?_);try simp only[zZ])
   all_goals apply hr
   all_goals simp[Tryz.f10]
  rw[decide_eq_true ⟨by omega,by omega,by omega⟩,Bool.true_and] at hi
  repeat' first|((first|refine O _ ?_|refine O _ _ ?_|(clear O;refine O _ ?_));clear O)|(refine zJ fun K O=>?_)|((first|refine zH ?_|refine zN rfl (by kernel_rfl) ?_|refine zM ?_|refine zK (by kernel_rfl) ?_);simp only[vZ,vY,strip])|((first|refine wIs fun K O=>?_|refine wOs fun K O=>?_|refine wQs fun K O=>?_|refine zW ?_|refine zX ?_|refine zY ?_|refine zL ?_);simp[g1,b1,g32,g33,g34,hlt,hlt',hw,he,hQ,o1,o2,o3,hk1,hk1',hw1,he1,hQ1,hk2,hk2'])|(refine wIn ?_;refine And.intro (by kernel_rfl) ?_;try simp only[zZ])|refine zQ ?_|refine zS ?_|((first|refine zI ?_|refine zO ?_|refine zP ?_);try simp)|((first|refine zR ?_|refine wOn ?_|refine wQn ?_);try simp only[zZ])
  all_goals refine hL _ (N-1) (by omega) ⟨k+1,by omega,?_⟩
  all_goals rw[hp]
  all_goals simp[g1,b1,g32,g33,g34,hw,hi]
end Go.Proofs.YtedbbcmokbogpaaGreatDoor
namespace Go.Proofs.YtedbbcmokbogpaaGreatDoor
set_option linter.unusedSimpArgs false
set_option linter.unusedVariables false
open Go Go.Av
attribute [local irreducible] Go.Av.yP Go.Av.zU Go.Av.yN Go.Av.zT Go.Av.yO Go.Av.zV Go.Av.Con
def startS (c:Cf):Sv:=⟨[⟨[47],[],0,0,0⟩],[],1,c,0,0⟩
structure Fits (s:Sv)(n:Nat):Prop where
 ns:s.ns.length+n<=1000000
 ss:s.ss.length+n<=1000000
 c:okC s.c
def okT (t:Tx):Prop:=∀p∈t.ps,okC p.c
theorem doS_fits {s:Sv}{t:Tx}{n:Nat}(h:Fits s (t.ps.length+n))(ht:okT t):Fits (doS s t) n:=by
 have h1:=runP_len t.ps s
 have h2:=runP_c t.ps s h.c ht
 refine⟨?_,?_,h2⟩
 ·have:=h.ns
  show (yU s t.ps).ns.length+n<=_
  omega
 ·have:=h.ss
  show (yU s t.ps).ss.length+n<=_
  omega
set_option maxHeartbeats 2000000 in
theorem apply_con (s:Sv)(t:Tx)(h:Fits s t.ps.length)(ht:okT t):zD Tryz.prog 49 [.p (.agg s.cells),.p (.agg t.cells)] (.p (.agg (doS s t).cells)):=by
 have c1:=ownState_con (zns s.ns) (zis s.ss) (mbs s.c.ms) s.nx s.c.ep s.c.n s.c.kind s.ae s.an (by have:=h.ns;simp;omega) (by have:=h.ss;simp;omega) (by rw[mbs_len];exact h.c)
 have c2:=do_con s t h.ns h.ss ht
 unfold sbox at c2
 generalize doS s t=r at c2 ⊢
 unfold Sv.cells
 simp only[ints_zis]
 unfold Tx.cells at c2 ⊢
 refine zG Tryz.tab Tryz.mixed Tryz.func49 rfl rfl Tryz.ntmps49 (by simp) (by simp) fun Q hr hn=>?_
 repeat' first|(refine wF [] c1 (by decide) (by decide) (by simp[yI]) (by simp[yR,xB,zC,inN,pos,yY,yJ,toP,toPF]) ⟨[500],by simp,by simp,?_⟩;simp[lv,ouN,kpI,kpR,pos,ren,zC,yW,yJ,yY,renF,renFs])|(refine wF [2,500] c2 (by decide) (by decide) (by simp[yI,inN,pos,yW,yJ,yY,zC,lv,ouN,kpI,kpR]) (by simp[yR,xB,zC,inN,pos,yY,yJ]) ⟨[],by simp,by simp,?_⟩;simp[lv,ouN,kpI,kpR,pos,ren,zC,yW,yJ,yY,renF,renFs])|((first|refine O _ ?_|refine O _ _ ?_|(clear O;refine O _ ?_));clear O)|(refine zJ fun K O=>?_)|((first|refine zH ?_|refine zN rfl (by kernel_rfl) ?_|refine zM ?_|refine zK (by kernel_rfl) ?_);simp only[vZ,vY,strip])|((first|refine wIs fun K O=>?_|refine wOs fun K O=>?_|refine wQs fun K O=>?_|refine zW ?_|refine zX ?_|refine zY ?_|refine zL ?_);simp[lv,ouN,kpI,kpR,pos,ren,zC,yW,yJ,yY,renF,renFs])|(refine wIn ?_;refine And.intro (by kernel_rfl) ?_;try simp only[zZ])|refine zQ ?_|refine zS ?_|((first|refine zI ?_|refine zO ?_|refine zP ?_);try simp)|((first|refine zR ?_|refine wOn ?_|refine wQn ?_);try simp only[zZ])
 all_goals apply hr
 all_goals simp[Tryz.f49,lv,ouN,kpI,kpR,pos,ren,zC,yW,yJ,yY,renF,renFs]
theorem Fits.le {s:Sv}{n m:Nat}(h:Fits s n)(hm:m<=n):Fits s m:=⟨by have:=h.ns;omega,by have:=h.ss;omega,h.c⟩
end Go.Proofs.YtedbbcmokbogpaaGreatDoor
namespace Go.Proofs
open Go.Shelf
def Tryz.laysM171_ren:Go.Shelf.Ren:=⟨fun|171=>86|243=>96|246=>110|283=>120|284=>121|285=>122|286=>123|129=>129|317=>128|318=>130|319=>131|320=>132|337=>134|338=>135|n=>n,fun|3=>3|9=>9|2=>2|4=>4|171=>159|0=>0|53=>153|37=>127|5=>5|173=>162|212=>170|51=>128|20=>20|213=>171|46=>131|232=>174|233=>175|n=>n,fun|17=>1|18=>2|19=>3|n=>n⟩
theorem Tryz.laysM171:Go.Proofs.LaysM.n171 Tryz.prog Tryz.laysM171_ren:={
 mixed:=by kernel_rfl
 f129:=Tryz.func129.trans (congrArg some (by kernel_rfl))
 f171:=Tryz.func86.trans (congrArg some (by kernel_rfl))
 f243:=Tryz.func96.trans (congrArg some (by kernel_rfl))
 f246:=Tryz.func110.trans (congrArg some (by kernel_rfl))
 f283:=Tryz.func120.trans (congrArg some (by kernel_rfl))
 f284:=Tryz.func121.trans (congrArg some (by kernel_rfl))
 f285:=Tryz.func122.trans (congrArg some (by kernel_rfl))
 f286:=Tryz.func123.trans (congrArg some (by kernel_rfl))
 f317:=Tryz.func128.trans (congrArg some (by kernel_rfl))
 f318:=Tryz.func130.trans (congrArg some (by kernel_rfl))
 f319:=Tryz.func131.trans (congrArg some (by kernel_rfl))
 f320:=Tryz.func132.trans (congrArg some (by kernel_rfl))
 f337:=Tryz.func134.trans (congrArg some (by kernel_rfl))
 f338:=Tryz.func135.trans (congrArg some (by kernel_rfl))
 t0:=Tryz.underlying0
 a0:=Tryz.isAgg0
 z0:=Tryz.sizeOf0
 v0:=Tryz.zeroValue0
 t2:=Tryz.underlying2
 a2:=Tryz.isAgg2
 z2:=Tryz.sizeOf2
 v2:=Tryz.zeroValue2
 t3:=Tryz.underlying3
 a3:=Tryz.isAgg3
 z3:=Tryz.sizeOf3
 v3:=Tryz.zeroValue3
 t4:=Tryz.underlying4
 a4:=Tryz.isAgg4
 z4:=Tryz.sizeOf4
 v4:=Tryz.zeroValue4
 t5:=Tryz.underlying5
 a5:=Tryz.isAgg5
 z5:=Tryz.sizeOf5
 v5:=Tryz.zeroValue5
 t9:=Tryz.underlying9
 a9:=Tryz.isAgg9
 z9:=Tryz.sizeOf9
 v9:=Tryz.zeroValue9
 t20:=Tryz.underlying20
 a20:=Tryz.isAgg20
 z20:=Tryz.sizeOf20
 v20:=Tryz.zeroValue20
 t37:=Tryz.underlying127
 a37:=Tryz.isAgg127
 z37:=Tryz.sizeOf127
 v37:=Tryz.zeroValue127
 t46:=Tryz.underlying131
 a46:=Tryz.isAgg131
 z46:=Tryz.sizeOf131
 v46:=Tryz.zeroValue131
 t51:=Tryz.underlying128
 a51:=Tryz.isAgg128
 z51:=Tryz.sizeOf128
 v51:=Tryz.zeroValue128
 t53:=Tryz.underlying153
 a53:=Tryz.isAgg153
 z53:=Tryz.sizeOf153
 v53:=Tryz.zeroValue153
 t171:=Tryz.underlying159
 a171:=Tryz.isAgg159
 z171:=Tryz.sizeOf159
 v171:=Tryz.zeroValue159
 t173:=Tryz.underlying162
 a173:=Tryz.isAgg162
 z173:=Tryz.sizeOf162
 v173:=Tryz.zeroValue162
 t212:=Tryz.underlying170
 a212:=Tryz.isAgg170
 z212:=Tryz.sizeOf170
 v212:=Tryz.zeroValue170
 t213:=Tryz.underlying171
 a213:=Tryz.isAgg171
 z213:=Tryz.sizeOf171
 t232:=Tryz.underlying174
 a232:=Tryz.isAgg174
 z232:=Tryz.sizeOf174
 v232:=Tryz.zeroValue174
 t233:=Tryz.underlying175
 a233:=Tryz.isAgg175
 z233:=Tryz.sizeOf175
 v233:=Tryz.zeroValue175
 g17:=by kernel_rfl
 g18:=by kernel_rfl
 g19:=by kernel_rfl
 i0:=by kernel_rfl
 i2:=by kernel_rfl
 i3:=by kernel_rfl
 i4:=by kernel_rfl
 i5:=by kernel_rfl
 i9:=by kernel_rfl
 i20:=by kernel_rfl
 i37:=by kernel_rfl
 i46:=by kernel_rfl
 i51:=by kernel_rfl
 i53:=by kernel_rfl
 i171:=by kernel_rfl
 i173:=by kernel_rfl
 i212:=by kernel_rfl
 i232:=by kernel_rfl
 i233:=by kernel_rfl
 m17:=by kernel_rfl
 m18:=by kernel_rfl
 m19:=by kernel_rfl }
open Go.RowKit Go.Sort Go.Lib in
theorem Tryz.strconv_Itoa (n : Int) (h0 : -9223372036854775808 <= n) (h1 : n <= 9223372036854775807) (w : World) (htab : Lib.TabIs Tryz.prog w "internal/strconv.uint64pow10" .u64 Lib.pow10Tab) :
 Calls Tryz.prog 86 #[.int .i64 n] w fun e w'=>e=.returned (.string ⟨(Lib.itoa n).toArray⟩)/\∃k os,w'=grow (w.drewN k) os:=Any.strconv_Itoa Tryz.laysM171 n h0 h1 w htab
end Go.Proofs
