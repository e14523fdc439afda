/- Texts that the proof needs: QB QC QCQ. -/
import Derived.Test.YtpihbhacmokekaaGreatDoorP26ReconfTakes
namespace Go.Proofs.YtpihbhacmokekaaGreatDoor
set_option linter.unusedSimpArgs false
set_option linter.unusedVariables false
open Go Go.Av
attribute [local irreducible] Go.Av.yJ Go.Av.zU Go.Av.yC Go.Av.zQ Go.Av.yG Go.Av.zV Go.Av.Con
def carrier (kind:Int)(m:Mb):Bool:=decide (m.r=1) && (decide (kind=1) || decide (0<m.w))
def xO (kind:Int)(l:List Mb):Bool:=l.any (carrier kind)
def fine (p:Int):List Mb->Bool
 |[]=>true
 |m::l=>decide (okM m/\p<m.i) && fine m.i l
def ranged (c:Cf):Prop:=(1<=c.kind/\c.kind<=3)/\(0<=c.ep/\c.ep<=1099511627776)/\(0<=c.n/\c.n<=1099511627776)
instance (c:Cf):Decidable (ranged c):=by unfold ranged;infer_instance
def check (c:Cf):Int:=if ranged c then if fine (-1) c.ms=true then if xO c.kind c.ms=true then 0 else 15 else 1 else 1
theorem carried_con (c:Cf)(hl:c.ms.length<=1000000):zE Tryz.prog 92 [.p (.agg c.cells)] (.p (B (xO c.kind c.ms))):=by
 obtain⟨ep,n,kind,l⟩:=c
 simp only[Cf.cells] at hl ⊢
 refine zG Tryz.tab Tryz.mixed Tryz.func92 rfl rfl Tryz.ntmps92 (by simp) (by simp) fun Q hr hn=>?_
 repeat' first|((first|refine O _ ?_|refine O _ _ ?_|(clear O;refine O _ ?_));clear O)|(refine zJ fun K O=>?_)|((first|refine zH ?_|refine zN rfl (by kernel_rfl) ?_|refine zM ?_|refine zK (by kernel_rfl) ?_);simp only[vS,vR,strip])|((first|refine wIs fun K O=>?_|refine wOs fun K O=>?_|refine wQs fun K O=>?_|refine zW ?_|refine zX ?_|refine zY ?_|refine zL ?_);simp)|(refine wIn ?_;refine And.intro (by kernel_rfl) ?_;try simp only[zZ])|refine zR ?_|refine zT ?_|((first|refine zI ?_|refine zO ?_|refine zP ?_);try simp)|((first|refine zS ?_|refine wOn ?_|refine wQn ?_);try simp only[zZ])
 refine zC (fun N st=>∃k,k+N=l.length/\st.s 1=.ptr 1 0/\st.b 1=some (.box 28 [.p (I ep),.p (I n),.p (I kind),.p (.sl 4 (mbs l))])/\st.s 6=.p (.sl 4 (mbs l))/\st.s 7=.p (I l.length)/\st.s 8=.p (I k)/\xO kind (l.drop k)=xO kind l) l.length ⟨0,by simp⟩ fun K N st hL ⟨k,hk,h1,b1,h6,h7,h8,hi⟩=>?_
 by_cases hlt:k<l.length
 ·have hw:=yU k _ hlt (by omega)
  rw[List.drop_eq_getElem_cons hlt] at hi
  simp only[xO,List.any_cons] at hi
  by_cases g1:l[k].r=1
  ·by_cases g2:kind=1
   ·repeat' first|(refine O _ ?_;clear O)|(refine O _ _ ?_;clear O)|(clear O;refine O _ ?_;clear O)|(clear O;clear O;refine O _ ?_;clear O)|(clear O;clear O;clear O;refine O _ ?_;clear O)|(clear O;clear O;clear O;clear O;refine O _ ?_;clear O)|(refine zJ fun K O=>?_)|((first|refine zH ?_|refine zN rfl (by kernel_rfl) ?_|refine zM ?_|refine zK (by kernel_rfl) ?_);simp only[vS,vR,strip])|((first|refine wIs fun K O=>?_|refine wOs fun K O=>?_|refine wQs fun K O=>?_|refine zW ?_|refine zX ?_|refine zY ?_|refine zL ?_);simp[h1,b1,h6,h7,h8,hlt,hw,g1,g2])|(refine wIn ?_;refine And.intro (by kernel_rfl) ?_;try simp only[zZ])|(first|refine zR ?_|refine zT ?_)|((first|refine zI ?_|refine zO ?_|refine zP ?_);try simp)|((first|refine zS ?_|refine wOn ?_|refine wQn ?_);try simp only[zZ])
    all_goals apply hr
    all_goals simp[Tryz.f92]
    all_goals simp[carrier,g1,g2] at hi
    all_goals simp[xO,carrier,g2]
    all_goals exact hi
   ·by_cases g3:0<l[k].w
    ·repeat' first|(refine O _ ?_;clear O)|(refine O _ _ ?_;clear O)|(clear O;refine O _ ?_;clear O)|(clear O;clear O;refine O _ ?_;clear O)|(clear O;clear O;clear O;refine O _ ?_;clear O)|(clear O;clear O;clear O;clear O;refine O _ ?_;clear O)|(refine zJ fun K O=>?_)|((first|refine zH ?_|refine zN rfl (by kernel_rfl) ?_|refine zM ?_|refine zK (by kernel_rfl) ?_);simp only[vS,vR,strip])|((first|refine wIs fun K O=>?_|refine wOs fun K O=>?_|refine wQs fun K O=>?_|refine zW ?_|refine zX ?_|refine zY ?_|refine zL ?_);simp[h1,b1,h6,h7,h8,hlt,hw,g1,g2,g3])|(refine wIn ?_;refine And.intro (by kernel_rfl) ?_;try simp only[zZ])|(first|refine zR ?_|refine zT ?_)|((first|refine zI ?_|refine zO ?_|refine zP ?_);try simp)|((first|refine zS ?_|refine wOn ?_|refine wQn ?_);try simp only[zZ])
     all_goals apply hr
     all_goals simp[Tryz.f92]
     all_goals simp[carrier,g1,g2,g3] at hi
     all_goals simp[xO,carrier,g2]
     all_goals exact hi
    ·repeat' first|(refine O _ ?_;clear O)|(refine O _ _ ?_;clear O)|(clear O;refine O _ ?_;clear O)|(clear O;clear O;refine O _ ?_;clear O)|(clear O;clear O;clear O;refine O _ ?_;clear O)|(clear O;clear O;clear O;clear O;refine O _ ?_;clear O)|(refine zJ fun K O=>?_)|((first|refine zH ?_|refine zN rfl (by kernel_rfl) ?_|refine zM ?_|refine zK (by kernel_rfl) ?_);simp only[vS,vR,strip])|((first|refine wIs fun K O=>?_|refine wOs fun K O=>?_|refine wQs fun K O=>?_|refine zW ?_|refine zX ?_|refine zY ?_|refine zL ?_);simp[h1,b1,h6,h7,h8,hlt,hw,g1,g2,g3])|(refine wIn ?_;refine And.intro (by kernel_rfl) ?_;try simp only[zZ])|(first|refine zR ?_|refine zT ?_)|((first|refine zI ?_|refine zO ?_|refine zP ?_);try simp)|((first|refine zS ?_|refine wOn ?_|refine wQn ?_);try simp only[zZ])
     refine hL _ (N-1) (by omega) ⟨k+1,by omega,?_⟩
     simp[h1,b1,h6,h7,hw]
     simp[xO,<- hi,carrier,g1,g2,g3]
  ·repeat' first|(refine O _ ?_;clear O)|(refine O _ _ ?_;clear O)|(clear O;refine O _ ?_;clear O)|(clear O;clear O;refine O _ ?_;clear O)|(clear O;clear O;clear O;refine O _ ?_;clear O)|(clear O;clear O;clear O;clear O;refine O _ ?_;clear O)|(refine zJ fun K O=>?_)|((first|refine zH ?_|refine zN rfl (by kernel_rfl) ?_|refine zM ?_|refine zK (by kernel_rfl) ?_);simp only[vS,vR,strip])|((first|refine wIs fun K O=>?_|refine wOs fun K O=>?_|refine wQs fun K O=>?_|refine zW ?_|refine zX ?_|refine zY ?_|refine zL ?_);simp[h1,b1,h6,h7,h8,hlt,hw,g1])|(refine wIn ?_;refine And.intro (by kernel_rfl) ?_;try simp only[zZ])|(first|refine zR ?_|refine zT ?_)|((first|refine zI ?_|refine zO ?_|refine zP ?_);try simp)|((first|refine zS ?_|refine wOn ?_|refine wQn ?_);try simp only[zZ])
   refine hL _ (N-1) (by omega) ⟨k+1,by omega,?_⟩
   simp[h1,b1,h6,h7,hw]
   simp[xO,<- hi,carrier,g1]
 ·rw[List.drop_of_length_le (by omega)] at hi
  repeat' first|((first|refine O _ ?_|refine O _ _ ?_|(clear O;refine O _ ?_));clear O)|(refine zJ fun K O=>?_)|((first|refine zH ?_|refine zN rfl (by kernel_rfl) ?_|refine zM ?_|refine zK (by kernel_rfl) ?_);simp only[vS,vR,strip])|((first|refine wIs fun K O=>?_|refine wOs fun K O=>?_|refine wQs fun K O=>?_|refine zW ?_|refine zX ?_|refine zY ?_|refine zL ?_);simp[h1,b1,h6,h7,h8,hlt])|(refine wIn ?_;refine And.intro (by kernel_rfl) ?_;try simp only[zZ])|refine zR ?_|refine zT ?_|((first|refine zI ?_|refine zO ?_|refine zP ?_);try simp)|((first|refine zS ?_|refine wOn ?_|refine wQn ?_);try simp only[zZ])
  apply hr
  rw[<- hi]
  simp[Tryz.f92]
  rfl
def prevI (l:List Mb)(k:Nat):Int:=if h:0<k/\k<=l.length then (l[k-1]'(by omega)).i else -1
theorem prevI_succ (l:List Mb)(k:Nat)(h:k<l.length):prevI l (k+1)=l[k].i:=by
 unfold prevI;rw[dif_pos ⟨by omega,by omega⟩];rfl
theorem prevI_pos (l:List Mb)(k:Nat)(h0:0<k)(h:k<l.length):prevI l k=(l[k-1]'(by omega)).i:=by
 unfold prevI;rw[dif_pos ⟨by omega,by omega⟩]
theorem prevI_zero (l:List Mb):prevI l 0 = -1:=by unfold prevI;rw[dif_neg (by omega)]
set_option maxHeartbeats 8000000 in
theorem checkM_con (c:Cf)(hl:c.ms.length<=1000000):zE Tryz.prog 61 [.p (.agg c.cells)] (.p (I (check c))):=by
 have cc:=carried_con c hl
 obtain⟨ep,n,kind,l⟩:=c
 simp only[Cf.cells,check,ranged] at hl cc ⊢
 have c1:=within_con ep 1099511627776
 have c2:=within_con n 1099511627776
 by_cases g1:kind<1
 ·have g1':¬ 1<=kind:=by omega
  refine zG Tryz.tab Tryz.mixed Tryz.func61 rfl rfl Tryz.ntmps61 (by simp) (by simp) fun Q hr hn=>?_
  repeat' first|((first|refine O _ ?_|refine O _ _ ?_|(clear O;refine O _ ?_));clear O)|(refine zJ fun K O=>?_)|((first|refine zH ?_|refine zN rfl (by kernel_rfl) ?_|refine zM ?_|refine zK (by kernel_rfl) ?_);simp only[vS,vR,strip])|((first|refine wIs fun K O=>?_|refine wOs fun K O=>?_|refine wQs fun K O=>?_|refine zW ?_|refine zX ?_|refine zY ?_|refine zL ?_);simp[g1])|(refine wIn ?_;refine And.intro (by kernel_rfl) ?_;try simp only[zZ])|refine zR ?_|refine zT ?_|((first|refine zI ?_|refine zO ?_|refine zP ?_);try simp)|((first|refine zS ?_|refine wOn ?_|refine wQn ?_);try simp only[zZ])
  all_goals apply hr
  all_goals simp[Tryz.f61,g1']
 by_cases g2:3<kind
 ·have g2':¬ kind<=3:=by omega
  refine zG Tryz.tab Tryz.mixed Tryz.func61 rfl rfl Tryz.ntmps61 (by simp) (by simp) fun Q hr hn=>?_
  repeat' first|((first|refine O _ ?_|refine O _ _ ?_|(clear O;refine O _ ?_));clear O)|(refine zJ fun K O=>?_)|((first|refine zH ?_|refine zN rfl (by kernel_rfl) ?_|refine zM ?_|refine zK (by kernel_rfl) ?_);simp only[vS,vR,strip])|((first|refine wIs fun K O=>?_|refine wOs fun K O=>?_|refine wQs fun K O=>?_|refine zW ?_|refine zX ?_|refine zY ?_|refine zL ?_);simp[g1,g2])|(refine wIn ?_;refine And.intro (by kernel_rfl) ?_;try simp only[zZ])|refine zR ?_|refine zT ?_|((first|refine zI ?_|refine zO ?_|refine zP ?_);try simp)|((first|refine zS ?_|refine wOn ?_|refine wQn ?_);try simp only[zZ])
  all_goals apply hr
  all_goals simp[Tryz.f61,g2']
 by_cases g3:0<=ep/\ep<=1099511627776
 rotate_left
 ·rw[decide_eq_false g3] at c1
  refine zG Tryz.tab Tryz.mixed Tryz.func61 rfl rfl Tryz.ntmps61 (by simp) (by simp) fun Q hr hn=>?_
  repeat' first|((first|refine O _ ?_|refine O _ _ ?_|(clear O;refine O _ ?_));clear O)|(refine zJ fun K O=>?_)|((first|refine zH ?_|refine zN rfl (by kernel_rfl) ?_|refine zM ?_|refine zK (by kernel_rfl) ?_);simp only[vS,vR,strip])|((first|refine wIs fun K O=>?_|refine wOs fun K O=>?_|refine wQs fun K O=>?_|refine zW ?_|refine zX ?_|refine zY ?_|refine zL ?_);simp[g1,g2])|(refine wIn ?_;refine And.intro (by kernel_rfl) ?_;try simp only[zZ])|refine zR ?_|refine zT ?_|((first|refine zI ?_|refine zO ?_|refine zP ?_);try simp)|((first|refine zS ?_|refine wOn ?_|refine wQn ?_);try simp only[zZ])|refine zU.p c1 rfl ?_|refine zU.l c1 rfl ?_|refine zQ.pure c1 rfl ?_|refine zQ.lent c1 rfl ?_|refine zU.o c1 ?_|refine zV.p c1 rfl ?_|refine zV.l c1 rfl ?_|refine zV.o c1 ?_
  all_goals apply hr
  all_goals simp[Tryz.f61,g3]
 rw[decide_eq_true g3] at c1
 by_cases g4:0<=n/\n<=1099511627776
 rotate_left
 ·rw[decide_eq_false g4] at c2
  refine zG Tryz.tab Tryz.mixed Tryz.func61 rfl rfl Tryz.ntmps61 (by simp) (by simp) fun Q hr hn=>?_
  repeat' first|((first|refine O _ ?_|refine O _ _ ?_|(clear O;refine O _ ?_));clear O)|(refine zJ fun K O=>?_)|((first|refine zH ?_|refine zN rfl (by kernel_rfl) ?_|refine zM ?_|refine zK (by kernel_rfl) ?_);simp only[vS,vR,strip])|((first|refine wIs fun K O=>?_|refine wOs fun K O=>?_|refine wQs fun K O=>?_|refine zW ?_|refine zX ?_|refine zY ?_|refine zL ?_);simp[g1,g2])|(refine wIn ?_;refine And.intro (by kernel_rfl) ?_;try simp only[zZ])|refine zR ?_|refine zT ?_|((first|refine zI ?_|refine zO ?_|refine zP ?_);try simp)|((first|refine zS ?_|refine wOn ?_|refine wQn ?_);try simp only[zZ])|refine zU.p c1 rfl ?_|refine zU.l c1 rfl ?_|refine zQ.pure c1 rfl ?_|refine zQ.lent c1 rfl ?_|refine zU.o c1 ?_|refine zV.p c1 rfl ?_|refine zV.l c1 rfl ?_|refine zV.o c1 ?_|refine zU.p c2 rfl ?_|refine zU.l c2 rfl ?_|refine zQ.pure c2 rfl ?_|refine zQ.lent c2 rfl ?_|refine zU.o c2 ?_|refine zV.p c2 rfl ?_|refine zV.l c2 rfl ?_|refine zV.o c2 ?_
  all_goals apply hr
  all_goals simp[Tryz.f61,g4]
 rw[decide_eq_true g4] at c2
 rw[if_pos ⟨⟨by omega,by omega⟩,g3,g4⟩]
 refine zG Tryz.tab Tryz.mixed Tryz.func61 rfl rfl Tryz.ntmps61 (by simp) (by simp) fun Q hr hn=>?_
 repeat' first|((first|refine O _ ?_|refine O _ _ ?_|(clear O;refine O _ ?_));clear O)|(refine zJ fun K O=>?_)|((first|refine zH ?_|refine zN rfl (by kernel_rfl) ?_|refine zM ?_|refine zK (by kernel_rfl) ?_);simp only[vS,vR,strip])|((first|refine wIs fun K O=>?_|refine wOs fun K O=>?_|refine wQs fun K O=>?_|refine zW ?_|refine zX ?_|refine zY ?_|refine zL ?_);simp[g1,g2])|(refine wIn ?_;refine And.intro (by kernel_rfl) ?_;try simp only[zZ])|refine zR ?_|refine zT ?_|((first|refine zI ?_|refine zO ?_|refine zP ?_);try simp)|((first|refine zS ?_|refine wOn ?_|refine wQn ?_);try simp only[zZ])|refine zU.p c1 rfl ?_|refine zU.l c1 rfl ?_|refine zQ.pure c1 rfl ?_|refine zQ.lent c1 rfl ?_|refine zU.o c1 ?_|refine zV.p c1 rfl ?_|refine zV.l c1 rfl ?_|refine zV.o c1 ?_|refine zU.p c2 rfl ?_|refine zU.l c2 rfl ?_|refine zQ.pure c2 rfl ?_|refine zQ.lent c2 rfl ?_|refine zU.o c2 ?_|refine zV.p c2 rfl ?_|refine zV.l c2 rfl ?_|refine zV.o c2 ?_
 refine zC (fun N st=>∃k,k+N=l.length/\st.s 1=.ptr 1 0/\st.b 1=some (.box 28 [.p (I ep),.p (I n),.p (I kind),.p (.sl 4 (mbs l))])/\st.s 28=.p (.sl 4 (mbs l))/\st.s 29=.p (I l.length)/\st.s 30=.p (I k)/\fine (prevI l k) (l.drop k)=fine (-1) l) l.length ⟨0,by simp[prevI_zero]⟩ fun K N st hL ⟨k,hk,h1,b1,h28,h29,h30,hi⟩=>?_
 by_cases hlt:k<l.length
 ·have hw:=yU k _ hlt (by omega)
  rw[List.drop_eq_getElem_cons hlt,fine] at hi
  have cr:=rightM_con l[k]
  simp only[Mb.cells] at cr
  by_cases o1:okM l[k]
  ·rw[decide_eq_true o1] at cr
   by_cases o2:0<k
   ·have o2':(0:Int)<k:=by omega
    have hw1:IntKind.i64.wrap ((k:Int)-1)=((k-1:Nat):Int):=by rw[zF] <;> omega
    have hk1:k-1<l.length:=by omega
    rw[prevI_pos l k o2 hlt] at hi
    by_cases o3:l[k].i<=l[k-1].i
    ·repeat' first|(refine O _ ?_;clear O)|(refine O _ _ ?_;clear O)|(clear O;refine O _ ?_;clear O)|(clear O;clear O;refine O _ ?_;clear O)|(clear O;clear O;clear O;refine O _ ?_;clear O)|(clear O;clear O;clear O;clear O;refine O _ ?_;clear O)|(refine zJ fun K O=>?_)|((first|refine zH ?_|refine zN rfl (by kernel_rfl) ?_|refine zM ?_|refine zK (by kernel_rfl) ?_);simp only[vS,vR,strip])|((first|refine wIs fun K O=>?_|refine wOs fun K O=>?_|refine wQs fun K O=>?_|refine zW ?_|refine zX ?_|refine zY ?_|refine zL ?_);simp[h1,b1,h28,h29,h30,hlt,hw,o2,o2',hw1,hk1,o3])|(refine wIn ?_;refine And.intro (by kernel_rfl) ?_;try simp only[zZ])|(first|refine zR ?_|refine zT ?_)|((first|refine zI ?_|refine zO ?_|refine zP ?_);try simp)|((first|refine zS ?_|refine wOn ?_|refine wQn ?_);try simp only[zZ])|(refine zU.p (cr) rfl ?_)|(refine zU.l (cr) rfl ?_)|(refine zQ.pure (cr) rfl ?_)|(refine zQ.lent (cr) rfl ?_)|(refine zU.o (cr) ?_)|(refine zV.p (cr) rfl ?_)|(refine zV.l (cr) rfl ?_)|(refine zV.o (cr) ?_)
     all_goals apply hr
     all_goals simp[Tryz.f61]
     all_goals rw[decide_eq_false (by omega)] at hi
     all_goals simp[<- hi]
    ·repeat' first|(refine O _ ?_;clear O)|(refine O _ _ ?_;clear O)|(clear O;refine O _ ?_;clear O)|(clear O;clear O;refine O _ ?_;clear O)|(clear O;clear O;clear O;refine O _ ?_;clear O)|(clear O;clear O;clear O;clear O;refine O _ ?_;clear O)|(refine zJ fun K O=>?_)|((first|refine zH ?_|refine zN rfl (by kernel_rfl) ?_|refine zM ?_|refine zK (by kernel_rfl) ?_);simp only[vS,vR,strip])|((first|refine wIs fun K O=>?_|refine wOs fun K O=>?_|refine wQs fun K O=>?_|refine zW ?_|refine zX ?_|refine zY ?_|refine zL ?_);simp[h1,b1,h28,h29,h30,hlt,hw,o2,o2',hw1,hk1,o3])|(refine wIn ?_;refine And.intro (by kernel_rfl) ?_;try simp only[zZ])|(first|refine zR ?_|refine zT ?_)|((first|refine zI ?_|refine zO ?_|refine zP ?_);try simp)|((first|refine zS ?_|refine wOn ?_|refine wQn ?_);try simp only[zZ])|(refine zU.p (cr) rfl ?_)|(refine zU.l (cr) rfl ?_)|(refine zQ.pure (cr) rfl ?_)|(refine zQ.lent (cr) rfl ?_)|(refine zU.o (cr) ?_)|(refine zV.p (cr) rfl ?_)|(refine zV.l (cr) rfl ?_)|(refine zV.o (cr) ?_)
     refine hL _ (N-1) (by omega) ⟨k+1,by omega,?_⟩
     simp[h1,b1,h28,h29,hw]
     rw[decide_eq_true ⟨o1,by omega⟩,Bool.true_and] at hi
     rw[prevI_succ l k hlt];exact hi
   ·obtain rfl:k=0:=by omega
    simp at h30 hw
    repeat' first|((first|refine O _ ?_|refine O _ _ ?_|(clear O;refine O _ ?_));clear O)|(refine zJ fun K O=>?_)|((first|refine zH ?_|refine zN rfl (by kernel_rfl) ?_|refine zM ?_|refine zK (by kernel_rfl) ?_);simp only[vS,vR,strip])|((first|refine wIs fun K O=>?_|refine wOs fun K O=>?_|refine wQs fun K O=>?_|refine zW ?_|refine zX ?_|refine zY ?_|refine zL ?_);simp[h1,b1,h28,h29,h30,hlt,hw])|(refine wIn ?_;refine And.intro (by kernel_rfl) ?_;try simp only[zZ])|refine zR ?_|refine zT ?_|((first|refine zI ?_|refine zO ?_|refine zP ?_);try simp)|((first|refine zS ?_|refine wOn ?_|refine wQn ?_);try simp only[zZ])|refine zU.p cr rfl ?_|refine zU.l cr rfl ?_|refine zQ.pure cr rfl ?_|refine zQ.lent cr rfl ?_|refine zU.o cr ?_|refine zV.p cr rfl ?_|refine zV.l cr rfl ?_|refine zV.o cr ?_
    refine hL _ (N-1) (by omega) ⟨1,by omega,?_⟩
    simp[h1,b1,h28,h29,hw]
    have:=o1.1.1
    rw[prevI_zero,decide_eq_true ⟨o1,by omega⟩,Bool.true_and] at hi
    rw[show (1:Nat)=0+1 from rfl,prevI_succ l 0 hlt,<- List.drop_one];exact hi
  ·rw[decide_eq_false o1] at cr
   repeat' first|((first|refine O _ ?_|refine O _ _ ?_|(clear O;refine O _ ?_));clear O)|(refine zJ fun K O=>?_)|((first|refine zH ?_|refine zN rfl (by kernel_rfl) ?_|refine zM ?_|refine zK (by kernel_rfl) ?_);simp only[vS,vR,strip])|((first|refine wIs fun K O=>?_|refine wOs fun K O=>?_|refine wQs fun K O=>?_|refine zW ?_|refine zX ?_|refine zY ?_|refine zL ?_);simp[h1,b1,h28,h29,h30,hlt,hw])|(refine wIn ?_;refine And.intro (by kernel_rfl) ?_;try simp only[zZ])|refine zR ?_|refine zT ?_|((first|refine zI ?_|refine zO ?_|refine zP ?_);try simp)|((first|refine zS ?_|refine wOn ?_|refine wQn ?_);try simp only[zZ])|refine zU.p cr rfl ?_|refine zU.l cr rfl ?_|refine zQ.pure cr rfl ?_|refine zQ.lent cr rfl ?_|refine zU.o cr ?_|refine zV.p cr rfl ?_|refine zV.l cr rfl ?_|refine zV.o cr ?_
   all_goals apply hr
   all_goals simp[Tryz.f61]
   all_goals simp[<- hi,o1]
 ·rw[List.drop_of_length_le (by omega)] at hi
  have hi':fine (-1) l=true:=hi ▸ rfl
  by_cases g5:xO kind l=true
  ·rw[g5] at cc
   repeat' first|((first|refine O _ ?_|refine O _ _ ?_|(clear O;refine O _ ?_));clear O)|(refine zJ fun K O=>?_)|((first|refine zH ?_|refine zN rfl (by kernel_rfl) ?_|refine zM ?_|refine zK (by kernel_rfl) ?_);simp only[vS,vR,strip])|((first|refine wIs fun K O=>?_|refine wOs fun K O=>?_|refine wQs fun K O=>?_|refine zW ?_|refine zX ?_|refine zY ?_|refine zL ?_);simp[h1,b1,h28,h29,h30,hlt])|(refine wIn ?_;refine And.intro (by kernel_rfl) ?_;try simp only[zZ])|refine zR ?_|refine zT ?_|((first|refine zI ?_|refine zO ?_|refine zP ?_);try simp)|((first|refine zS ?_|refine wOn ?_|refine wQn ?_);try simp only[zZ])|refine zU.p cc rfl ?_|refine zU.l cc rfl ?_|refine zQ.pure cc rfl ?_|refine zQ.lent cc rfl ?_|refine zU.o cc ?_|refine zV.p cc rfl ?_|refine zV.l cc rfl ?_|refine zV.o cc ?_
   all_goals apply hr
   all_goals simp[Tryz.f61,hi',g5]
  ·rw[Bool.not_eq_true] at g5
   rw[g5] at cc
   repeat' first|((first|refine O _ ?_|refine O _ _ ?_|(clear O;refine O _ ?_));clear O)|(refine zJ fun K O=>?_)|((first|refine zH ?_|refine zN rfl (by kernel_rfl) ?_|refine zM ?_|refine zK (by kernel_rfl) ?_);simp only[vS,vR,strip])|((first|refine wIs fun K O=>?_|refine wOs fun K O=>?_|refine wQs fun K O=>?_|refine zW ?_|refine zX ?_|refine zY ?_|refine zL ?_);simp[h1,b1,h28,h29,h30,hlt])|(refine wIn ?_;refine And.intro (by kernel_rfl) ?_;try simp only[zZ])|refine zR ?_|refine zT ?_|((first|refine zI ?_|refine zO ?_|refine zP ?_);try simp)|((first|refine zS ?_|refine wOn ?_|refine wQn ?_);try simp only[zZ])|refine zU.p cc rfl ?_|refine zU.l cc rfl ?_|refine zQ.pure cc rfl ?_|refine zQ.lent cc rfl ?_|refine zU.o cc ?_|refine zV.p cc rfl ?_|refine zV.l cc rfl ?_|refine zV.o cc ?_
   all_goals apply hr
   all_goals simp[Tryz.f61,hi',g5]
def wsum:List Mb->Int
 |[]=>0
 |m::l=>(if m.r=1 then m.w else 0)+wsum l
def cnt:List Mb->Int
 |[]=>0
 |m::l=>(if m.r=1 then 1 else 0)+cnt l
theorem sums (kind:Int)(l:List Mb):∀p,fine p l=true->0<=wsum l/\0<=cnt l/\(cnt l=0->wsum l=0)/\(kind=1->xO kind l=decide (0<cnt l))/\(kind ≠ 1->xO kind l=decide (0<wsum l)):=by
 induction l with
 |nil=>intro p h;simp[wsum,cnt,xO]
 |cons m l ih =>
  intro p h
  simp only[fine,Bool.and_eq_true,decide_eq_true_eq] at h
  obtain⟨⟨ho,hp⟩,hf⟩:=h
  obtain⟨e1,e2,e3,e4,e5⟩:=ih _ hf
  have hw:=ho.2.2.1
  simp only[wsum,cnt,xO,List.any_cons,carrier] at *
  by_cases hr:m.r=1
  ·simp only[hr,if_true,decide_true,Bool.true_and]
   refine⟨by omega,by omega,by omega,fun hk=>?_,fun hk=>?_⟩
   ·simp[hk];omega
   ·rw[e5 hk]
    by_cases g:0<m.w
    ·simp[hk,g];omega
    ·simp[hk,g,show m.w=0 by omega]
  ·simp only[hr,if_false,decide_false,Bool.false_and,Bool.false_or,Int.zero_add]
   exact⟨e1,e2,e3,e4,e5⟩
set_option maxHeartbeats 8000000 in
theorem check04_con (c:Cf)(hl:c.ms.length<=1000000):zE Tryz.prog 16 [.p (.agg c.cells)] (.p (I (check c))):=by
 obtain⟨ep,n,kind,l⟩:=c
 simp only[Cf.cells,check,ranged] at hl ⊢
 by_cases g1:kind<1
 ·have g1':¬ 1<=kind:=by omega
  refine zG Tryz.tab Tryz.mixed Tryz.func16 rfl rfl Tryz.ntmps16 (by simp) (by simp) fun Q hr hn=>?_
  repeat' first|((first|refine O _ ?_|refine O _ _ ?_|(clear O;refine O _ ?_));clear O)|(refine zJ fun K O=>?_)|((first|refine zH ?_|refine zN rfl (by kernel_rfl) ?_|refine zM ?_|refine zK (by kernel_rfl) ?_);simp only[vS,vR,strip])|((first|refine wIs fun K O=>?_|refine wOs fun K O=>?_|refine wQs fun K O=>?_|refine zW ?_|refine zX ?_|refine zY ?_|refine zL ?_);simp[g1])|(refine wIn ?_;refine And.intro (by kernel_rfl) ?_;try simp only[zZ])|refine zR ?_|refine zT ?_|((first|refine zI ?_|refine zO ?_|refine zP ?_);try simp)|((first|refine zS ?_|refine wOn ?_|refine wQn ?_);try simp only[zZ])
  all_goals apply hr
  all_goals simp[Tryz.f16,g1']
 by_cases g2:3<kind
 ·have g2':¬ kind<=3:=by omega
  refine zG Tryz.tab Tryz.mixed Tryz.func16 rfl rfl Tryz.ntmps16 (by simp) (by simp) fun Q hr hn=>?_
  repeat' first|((first|refine O _ ?_|refine O _ _ ?_|(clear O;refine O _ ?_));clear O)|(refine zJ fun K O=>?_)|((first|refine zH ?_|refine zN rfl (by kernel_rfl) ?_|refine zM ?_|refine zK (by kernel_rfl) ?_);simp only[vS,vR,strip])|((first|refine wIs fun K O=>?_|refine wOs fun K O=>?_|refine wQs fun K O=>?_|refine zW ?_|refine zX ?_|refine zY ?_|refine zL ?_);simp[g1,g2])|(refine wIn ?_;refine And.intro (by kernel_rfl) ?_;try simp only[zZ])|refine zR ?_|refine zT ?_|((first|refine zI ?_|refine zO ?_|refine zP ?_);try simp)|((first|refine zS ?_|refine wOn ?_|refine wQn ?_);try simp only[zZ])
  all_goals apply hr
  all_goals simp[Tryz.f16,g2']
 by_cases g3:ep<0
 ·have g3':¬ 0<=ep:=by omega
  refine zG Tryz.tab Tryz.mixed Tryz.func16 rfl rfl Tryz.ntmps16 (by simp) (by simp) fun Q hr hn=>?_
  repeat' first|((first|refine O _ ?_|refine O _ _ ?_|(clear O;refine O _ ?_));clear O)|(refine zJ fun K O=>?_)|((first|refine zH ?_|refine zN rfl (by kernel_rfl) ?_|refine zM ?_|refine zK (by kernel_rfl) ?_);simp only[vS,vR,strip])|((first|refine wIs fun K O=>?_|refine wOs fun K O=>?_|refine wQs fun K O=>?_|refine zW ?_|refine zX ?_|refine zY ?_|refine zL ?_);simp[g1,g2,g3])|(refine wIn ?_;refine And.intro (by kernel_rfl) ?_;try simp only[zZ])|refine zR ?_|refine zT ?_|((first|refine zI ?_|refine zO ?_|refine zP ?_);try simp)|((first|refine zS ?_|refine wOn ?_|refine wQn ?_);try simp only[zZ])
  all_goals apply hr
  all_goals simp[Tryz.f16,g3']
 by_cases g4:1099511627776<ep
 ·have g4':¬ ep<=1099511627776:=by omega
  refine zG Tryz.tab Tryz.mixed Tryz.func16 rfl rfl Tryz.ntmps16 (by simp) (by simp) fun Q hr hn=>?_
  repeat' first|((first|refine O _ ?_|refine O _ _ ?_|(clear O;refine O _ ?_));clear O)|(refine zJ fun K O=>?_)|((first|refine zH ?_|refine zN rfl (by kernel_rfl) ?_|refine zM ?_|refine zK (by kernel_rfl) ?_);simp only[vS,vR,strip])|((first|refine wIs fun K O=>?_|refine wOs fun K O=>?_|refine wQs fun K O=>?_|refine zW ?_|refine zX ?_|refine zY ?_|refine zL ?_);simp[g1,g2,g3,g4])|(refine wIn ?_;refine And.intro (by kernel_rfl) ?_;try simp only[zZ])|refine zR ?_|refine zT ?_|((first|refine zI ?_|refine zO ?_|refine zP ?_);try simp)|((first|refine zS ?_|refine wOn ?_|refine wQn ?_);try simp only[zZ])
  all_goals apply hr
  all_goals simp[Tryz.f16,g4']
 by_cases g5:n<0
 ·have g5':¬ 0<=n:=by omega
  refine zG Tryz.tab Tryz.mixed Tryz.func16 rfl rfl Tryz.ntmps16 (by simp) (by simp) fun Q hr hn=>?_
  repeat' first|((first|refine O _ ?_|refine O _ _ ?_|(clear O;refine O _ ?_));clear O)|(refine zJ fun K O=>?_)|((first|refine zH ?_|refine zN rfl (by kernel_rfl) ?_|refine zM ?_|refine zK (by kernel_rfl) ?_);simp only[vS,vR,strip])|((first|refine wIs fun K O=>?_|refine wOs fun K O=>?_|refine wQs fun K O=>?_|refine zW ?_|refine zX ?_|refine zY ?_|refine zL ?_);simp[g1,g2,g3,g4,g5])|(refine wIn ?_;refine And.intro (by kernel_rfl) ?_;try simp only[zZ])|refine zR ?_|refine zT ?_|((first|refine zI ?_|refine zO ?_|refine zP ?_);try simp)|((first|refine zS ?_|refine wOn ?_|refine wQn ?_);try simp only[zZ])
  all_goals apply hr
  all_goals simp[Tryz.f16,g5']
 by_cases g6:1099511627776<n
 ·have g6':¬ n<=1099511627776:=by omega
  refine zG Tryz.tab Tryz.mixed Tryz.func16 rfl rfl Tryz.ntmps16 (by simp) (by simp) fun Q hr hn=>?_
  repeat' first|((first|refine O _ ?_|refine O _ _ ?_|(clear O;refine O _ ?_));clear O)|(refine zJ fun K O=>?_)|((first|refine zH ?_|refine zN rfl (by kernel_rfl) ?_|refine zM ?_|refine zK (by kernel_rfl) ?_);simp only[vS,vR,strip])|((first|refine wIs fun K O=>?_|refine wOs fun K O=>?_|refine wQs fun K O=>?_|refine zW ?_|refine zX ?_|refine zY ?_|refine zL ?_);simp[g1,g2,g3,g4,g5,g6])|(refine wIn ?_;refine And.intro (by kernel_rfl) ?_;try simp only[zZ])|refine zR ?_|refine zT ?_|((first|refine zI ?_|refine zO ?_|refine zP ?_);try simp)|((first|refine zS ?_|refine wOn ?_|refine wQn ?_);try simp only[zZ])
  all_goals apply hr
  all_goals simp[Tryz.f16,g6']
 rw[if_pos ⟨⟨by omega,by omega⟩,⟨by omega,by omega⟩,⟨by omega,by omega⟩⟩]
 refine zG Tryz.tab Tryz.mixed Tryz.func16 rfl rfl Tryz.ntmps16 (by simp) (by simp) fun Q hr hn=>?_
 repeat' first|((first|refine O _ ?_|refine O _ _ ?_|(clear O;refine O _ ?_));clear O)|(refine zJ fun K O=>?_)|((first|refine zH ?_|refine zN rfl (by kernel_rfl) ?_|refine zM ?_|refine zK (by kernel_rfl) ?_);simp only[vS,vR,strip])|((first|refine wIs fun K O=>?_|refine wOs fun K O=>?_|refine wQs fun K O=>?_|refine zW ?_|refine zX ?_|refine zY ?_|refine zL ?_);simp[g1,g2,g3,g4,g5,g6])|(refine wIn ?_;refine And.intro (by kernel_rfl) ?_;try simp only[zZ])|refine zR ?_|refine zT ?_|((first|refine zI ?_|refine zO ?_|refine zP ?_);try simp)|((first|refine zS ?_|refine wOn ?_|refine wQn ?_);try simp only[zZ])
 refine zC (fun N st=>∃ (k:Nat)(a b:Int),k+N=l.length/\st.s 1=.ptr 1 0/\st.b 1=some (.box 28 [.p (I ep),.p (I n),.p (I kind),.p (.sl 4 (mbs l))])/\st.s 40=.p (.sl 4 (mbs l))/\st.s 41=.p (I l.length)/\st.s 42=.p (I k)/\st.s 3=.p (I a)/\st.s 4=.p (I b)/\fine (prevI l k) (l.drop k)=fine (-1) l ∧
  (0<=a/\a<=100 * k/\a+wsum (l.drop k)=wsum l)/\(0<=b/\b<=k/\b+cnt (l.drop k)=cnt l)) l.length ⟨0,0,0,by simp[prevI_zero]⟩ fun K N st hL ⟨k,a,b,hk,h1,b1,h40,h41,h42,h3,h4,hi,⟨ha0,ha1,ha⟩,⟨hb0,hb1,hb⟩⟩=>?_
 by_cases hlt:k<l.length
 ·have hw:=yU k _ hlt (by omega)
  have hwb:IntKind.i64.wrap (b+1)=b+1:=by rw[zF] <;> omega
  rw[List.drop_eq_getElem_cons hlt,fine] at hi
  rw[List.drop_eq_getElem_cons hlt,wsum] at ha
  rw[List.drop_eq_getElem_cons hlt,cnt] at hb
  have cr:=ok04_con l[k]
  simp only[Mb.cells] at cr
  by_cases o1:okM l[k]
  ·rw[decide_eq_true o1] at cr
   have hw0:=o1.2.2.1
   have hwa:IntKind.i64.wrap (a+l[k].w)=a+l[k].w:=by rw[zF] <;> omega
   by_cases o2:0<k
   ·have o2':(0:Int)<k:=by omega
    have hw1:IntKind.i64.wrap ((k:Int)-1)=((k-1:Nat):Int):=by rw[zF] <;> omega
    have hk1:k-1<l.length:=by omega
    rw[prevI_pos l k o2 hlt] at hi
    by_cases o3:l[k].i<=l[k-1].i
    ·repeat' first|(refine O _ ?_;clear O)|(refine O _ _ ?_;clear O)|(clear O;refine O _ ?_;clear O)|(clear O;clear O;refine O _ ?_;clear O)|(clear O;clear O;clear O;refine O _ ?_;clear O)|(clear O;clear O;clear O;clear O;refine O _ ?_;clear O)|(refine zJ fun K O=>?_)|((first|refine zH ?_|refine zN rfl (by kernel_rfl) ?_|refine zM ?_|refine zK (by kernel_rfl) ?_);simp only[vS,vR,strip])|((first|refine wIs fun K O=>?_|refine wOs fun K O=>?_|refine wQs fun K O=>?_|refine zW ?_|refine zX ?_|refine zY ?_|refine zL ?_);simp[h1,b1,h40,h41,h42,h3,h4,hlt,hw,o2,o2',hw1,hk1,o3])|(refine wIn ?_;refine And.intro (by kernel_rfl) ?_;try simp only[zZ])|(first|refine zR ?_|refine zT ?_)|((first|refine zI ?_|refine zO ?_|refine zP ?_);try simp)|((first|refine zS ?_|refine wOn ?_|refine wQn ?_);try simp only[zZ])|(refine zU.p (cr) rfl ?_)|(refine zU.l (cr) rfl ?_)|(refine zQ.pure (cr) rfl ?_)|(refine zQ.lent (cr) rfl ?_)|(refine zU.o (cr) ?_)|(refine zV.p (cr) rfl ?_)|(refine zV.l (cr) rfl ?_)|(refine zV.o (cr) ?_)
     all_goals apply hr
     all_goals simp[Tryz.f16]
     all_goals rw[decide_eq_false (by omega)] at hi
     all_goals simp[<- hi]
    ·rw[decide_eq_true ⟨o1,by omega⟩,Bool.true_and] at hi
     by_cases o4:l[k].r=1
     ·rw[o4] at cr
      repeat' first|((first|refine O _ ?_|refine O _ _ ?_|(clear O;refine O _ ?_));clear O)|(refine zJ fun K O=>?_)|((first|refine zH ?_|refine zN rfl (by kernel_rfl) ?_|refine zM ?_|refine zK (by kernel_rfl) ?_);simp only[vS,vR,strip])|((first|refine wIs fun K O=>?_|refine wOs fun K O=>?_|refine wQs fun K O=>?_|refine zW ?_|refine zX ?_|refine zY ?_|refine zL ?_);simp[h1,b1,h40,h41,h42,h3,h4,hlt,hw,o2,o2',hw1,hk1,o3,o4,hwa,hwb])|(refine wIn ?_;refine And.intro (by kernel_rfl) ?_;try simp only[zZ])|refine zR ?_|refine zT ?_|((first|refine zI ?_|refine zO ?_|refine zP ?_);try simp)|((first|refine zS ?_|refine wOn ?_|refine wQn ?_);try simp only[zZ])|refine zU.p cr rfl ?_|refine zU.l cr rfl ?_|refine zQ.pure cr rfl ?_|refine zQ.lent cr rfl ?_|refine zU.o cr ?_|refine zV.p cr rfl ?_|refine zV.l cr rfl ?_|refine zV.o cr ?_
      refine hL _ (N-1) (by omega) ⟨k+1,a+l[k].w,b+1,by omega,?_⟩
      rw[if_pos o4] at ha hb
      simp[h1,b1,h40,h41,hw,hwa,hwb]
      rw[prevI_succ l k hlt]
      refine⟨hi,⟨by omega,by omega,by omega⟩,by omega,by omega⟩
     ·repeat' first|(refine O _ ?_;clear O)|(refine O _ _ ?_;clear O)|(clear O;refine O _ ?_;clear O)|(clear O;clear O;refine O _ ?_;clear O)|(clear O;clear O;clear O;refine O _ ?_;clear O)|(clear O;clear O;clear O;clear O;refine O _ ?_;clear O)|(refine zJ fun K O=>?_)|((first|refine zH ?_|refine zN rfl (by kernel_rfl) ?_|refine zM ?_|refine zK (by kernel_rfl) ?_);simp only[vS,vR,strip])|((first|refine wIs fun K O=>?_|refine wOs fun K O=>?_|refine wQs fun K O=>?_|refine zW ?_|refine zX ?_|refine zY ?_|refine zL ?_);simp[h1,b1,h40,h41,h42,h3,h4,hlt,hw,o2,o2',hw1,hk1,o3,o4])|(refine wIn ?_;refine And.intro (by kernel_rfl) ?_;try simp only[zZ])|(first|refine zR ?_|refine zT ?_)|((first|refine zI ?_|refine zO ?_|refine zP ?_);try simp)|((first|refine zS ?_|refine wOn ?_|refine wQn ?_);try simp only[zZ])|(refine zU.p (cr) rfl ?_)|(refine zU.l (cr) rfl ?_)|(refine zQ.pure (cr) rfl ?_)|(refine zQ.lent (cr) rfl ?_)|(refine zU.o (cr) ?_)|(refine zV.p (cr) rfl ?_)|(refine zV.l (cr) rfl ?_)|(refine zV.o (cr) ?_)
      refine hL _ (N-1) (by omega) ⟨k+1,a,b,by omega,?_⟩
      rw[if_neg o4] at ha hb
      simp[h1,b1,h40,h41,h3,h4,hw]
      rw[prevI_succ l k hlt]
      refine⟨hi,⟨by omega,by omega,by omega⟩,by omega,by omega,by omega⟩
   ·obtain rfl:k=0:=by omega
    have:=o1.1.1
    rw[prevI_zero,decide_eq_true ⟨o1,by omega⟩,Bool.true_and] at hi
    simp at h42 hw
    by_cases o4:l[0].r=1
    ·rw[o4] at cr
     repeat' first|((first|refine O _ ?_|refine O _ _ ?_|(clear O;refine O _ ?_));clear O)|(refine zJ fun K O=>?_)|((first|refine zH ?_|refine zN rfl (by kernel_rfl) ?_|refine zM ?_|refine zK (by kernel_rfl) ?_);simp only[vS,vR,strip])|((first|refine wIs fun K O=>?_|refine wOs fun K O=>?_|refine wQs fun K O=>?_|refine zW ?_|refine zX ?_|refine zY ?_|refine zL ?_);simp[h1,b1,h40,h41,h42,h3,h4,hlt,hw,o4,hwa,hwb])|(refine wIn ?_;refine And.intro (by kernel_rfl) ?_;try simp only[zZ])|refine zR ?_|refine zT ?_|((first|refine zI ?_|refine zO ?_|refine zP ?_);try simp)|((first|refine zS ?_|refine wOn ?_|refine wQn ?_);try simp only[zZ])|refine zU.p cr rfl ?_|refine zU.l cr rfl ?_|refine zQ.pure cr rfl ?_|refine zQ.lent cr rfl ?_|refine zU.o cr ?_|refine zV.p cr rfl ?_|refine zV.l cr rfl ?_|refine zV.o cr ?_
     refine hL _ (N-1) (by omega) ⟨0+1,a+l[0].w,b+1,by omega,?_⟩
     rw[if_pos o4] at ha hb
     rw[prevI_succ l 0 hlt]
     simp[h1,b1,h40,h41,hw,hwa,hwb]
     rw[<- List.drop_one]
     simp only[Nat.zero_add] at ha hb hi
     refine⟨hi,⟨by omega,by omega,by omega⟩,by omega,by omega,by omega⟩
    ·repeat' first|(refine O _ ?_;clear O)|(refine O _ _ ?_;clear O)|(clear O;refine O _ ?_;clear O)|(clear O;clear O;refine O _ ?_;clear O)|(clear O;clear O;clear O;refine O _ ?_;clear O)|(clear O;clear O;clear O;clear O;refine O _ ?_;clear O)|(refine zJ fun K O=>?_)|((first|refine zH ?_|refine zN rfl (by kernel_rfl) ?_|refine zM ?_|refine zK (by kernel_rfl) ?_);simp only[vS,vR,strip])|((first|refine wIs fun K O=>?_|refine wOs fun K O=>?_|refine wQs fun K O=>?_|refine zW ?_|refine zX ?_|refine zY ?_|refine zL ?_);simp[h1,b1,h40,h41,h42,h3,h4,hlt,hw,o4])|(refine wIn ?_;refine And.intro (by kernel_rfl) ?_;try simp only[zZ])|(first|refine zR ?_|refine zT ?_)|((first|refine zI ?_|refine zO ?_|refine zP ?_);try simp)|((first|refine zS ?_|refine wOn ?_|refine wQn ?_);try simp only[zZ])|(refine zU.p (cr) rfl ?_)|(refine zU.l (cr) rfl ?_)|(refine zQ.pure (cr) rfl ?_)|(refine zQ.lent (cr) rfl ?_)|(refine zU.o (cr) ?_)|(refine zV.p (cr) rfl ?_)|(refine zV.l (cr) rfl ?_)|(refine zV.o (cr) ?_)
     refine hL _ (N-1) (by omega) ⟨0+1,a,b,by omega,?_⟩
     rw[if_neg o4] at ha hb
     rw[prevI_succ l 0 hlt]
     simp[h1,b1,h40,h41,h3,h4,hw]
     rw[<- List.drop_one]
     simp only[Nat.zero_add] at ha hb hi
     refine⟨hi,⟨by omega,by omega,by omega⟩,by omega,by omega,by omega⟩
  ·rw[decide_eq_false o1] at cr
   repeat' first|((first|refine O _ ?_|refine O _ _ ?_|(clear O;refine O _ ?_));clear O)|(refine zJ fun K O=>?_)|((first|refine zH ?_|refine zN rfl (by kernel_rfl) ?_|refine zM ?_|refine zK (by kernel_rfl) ?_);simp only[vS,vR,strip])|((first|refine wIs fun K O=>?_|refine wOs fun K O=>?_|refine wQs fun K O=>?_|refine zW ?_|refine zX ?_|refine zY ?_|refine zL ?_);simp[h1,b1,h40,h41,h42,h3,h4,hlt,hw])|(refine wIn ?_;refine And.intro (by kernel_rfl) ?_;try simp only[zZ])|refine zR ?_|refine zT ?_|((first|refine zI ?_|refine zO ?_|refine zP ?_);try simp)|((first|refine zS ?_|refine wOn ?_|refine wQn ?_);try simp only[zZ])|refine zU.p cr rfl ?_|refine zU.l cr rfl ?_|refine zQ.pure cr rfl ?_|refine zQ.lent cr rfl ?_|refine zU.o cr ?_|refine zV.p cr rfl ?_|refine zV.l cr rfl ?_|refine zV.o cr ?_
   all_goals apply hr
   all_goals simp[Tryz.f16]
   all_goals simp[<- hi,o1]
 ·rw[List.drop_of_length_le (by omega)] at hi ha hb
  have hi':fine (-1) l=true:=hi ▸ rfl
  obtain⟨e1,e2,e3,e4,e5⟩:=sums kind l _ hi'
  simp only[wsum,cnt,Int.add_zero] at ha hb
  subst ha hb
  by_cases g5:cnt l=0
  ·repeat' first|(refine O _ ?_;clear O)|(refine O _ _ ?_;clear O)|(clear O;refine O _ ?_;clear O)|(clear O;clear O;refine O _ ?_;clear O)|(clear O;clear O;clear O;refine O _ ?_;clear O)|(clear O;clear O;clear O;clear O;refine O _ ?_;clear O)|(refine zJ fun K O=>?_)|((first|refine zH ?_|refine zN rfl (by kernel_rfl) ?_|refine zM ?_|refine zK (by kernel_rfl) ?_);simp only[vS,vR,strip])|((first|refine wIs fun K O=>?_|refine wOs fun K O=>?_|refine wQs fun K O=>?_|refine zW ?_|refine zX ?_|refine zY ?_|refine zL ?_);simp[h1,b1,h40,h41,h42,h3,h4,hlt,g5])|(refine wIn ?_;refine And.intro (by kernel_rfl) ?_;try simp only[zZ])|(first|refine zR ?_|refine zT ?_)|((first|refine zI ?_|refine zO ?_|refine zP ?_);try simp)|((first|refine zS ?_|refine wOn ?_|refine wQn ?_);try simp only[zZ])
   all_goals apply hr
   all_goals simp[Tryz.f16,hi']
   all_goals by_cases g6:kind=1
   all_goals first|rw[e4 g6,decide_eq_false (by omega)]|rw[e5 g6,decide_eq_false (by omega)]
   all_goals rfl
  ·by_cases g6:kind=1
   ·repeat' first|(refine O _ ?_;clear O)|(refine O _ _ ?_;clear O)|(clear O;refine O _ ?_;clear O)|(clear O;clear O;refine O _ ?_;clear O)|(clear O;clear O;clear O;refine O _ ?_;clear O)|(clear O;clear O;clear O;clear O;refine O _ ?_;clear O)|(refine zJ fun K O=>?_)|((first|refine zH ?_|refine zN rfl (by kernel_rfl) ?_|refine zM ?_|refine zK (by kernel_rfl) ?_);simp only[vS,vR,strip])|((first|refine wIs fun K O=>?_|refine wOs fun K O=>?_|refine wQs fun K O=>?_|refine zW ?_|refine zX ?_|refine zY ?_|refine zL ?_);simp[h1,b1,h40,h41,h42,h3,h4,hlt,g5,g6])|(refine wIn ?_;refine And.intro (by kernel_rfl) ?_;try simp only[zZ])|(first|refine zR ?_|refine zT ?_)|((first|refine zI ?_|refine zO ?_|refine zP ?_);try simp)|((first|refine zS ?_|refine wOn ?_|refine wQn ?_);try simp only[zZ])
    all_goals apply hr
    all_goals simp[Tryz.f16,hi']
    all_goals rw[e4 g6,decide_eq_true (by omega)]
    all_goals rfl
   ·by_cases g7:wsum l=0
    ·repeat' first|(refine O _ ?_;clear O)|(refine O _ _ ?_;clear O)|(clear O;refine O _ ?_;clear O)|(clear O;clear O;refine O _ ?_;clear O)|(clear O;clear O;clear O;refine O _ ?_;clear O)|(clear O;clear O;clear O;clear O;refine O _ ?_;clear O)|(refine zJ fun K O=>?_)|((first|refine zH ?_|refine zN rfl (by kernel_rfl) ?_|refine zM ?_|refine zK (by kernel_rfl) ?_);simp only[vS,vR,strip])|((first|refine wIs fun K O=>?_|refine wOs fun K O=>?_|refine wQs fun K O=>?_|refine zW ?_|refine zX ?_|refine zY ?_|refine zL ?_);simp[h1,b1,h40,h41,h42,h3,h4,hlt,g5,g6,g7])|(refine wIn ?_;refine And.intro (by kernel_rfl) ?_;try simp only[zZ])|(first|refine zR ?_|refine zT ?_)|((first|refine zI ?_|refine zO ?_|refine zP ?_);try simp)|((first|refine zS ?_|refine wOn ?_|refine wQn ?_);try simp only[zZ])
     all_goals apply hr
     all_goals simp[Tryz.f16,hi']
     all_goals rw[e5 g6,decide_eq_false (by omega)]
     all_goals rfl
    ·repeat' first|(refine O _ ?_;clear O)|(refine O _ _ ?_;clear O)|(clear O;refine O _ ?_;clear O)|(clear O;clear O;refine O _ ?_;clear O)|(clear O;clear O;clear O;refine O _ ?_;clear O)|(clear O;clear O;clear O;clear O;refine O _ ?_;clear O)|(refine zJ fun K O=>?_)|((first|refine zH ?_|refine zN rfl (by kernel_rfl) ?_|refine zM ?_|refine zK (by kernel_rfl) ?_);simp only[vS,vR,strip])|((first|refine wIs fun K O=>?_|refine wOs fun K O=>?_|refine wQs fun K O=>?_|refine zW ?_|refine zX ?_|refine zY ?_|refine zL ?_);simp[h1,b1,h40,h41,h42,h3,h4,hlt,g5,g6,g7])|(refine wIn ?_;refine And.intro (by kernel_rfl) ?_;try simp only[zZ])|(first|refine zR ?_|refine zT ?_)|((first|refine zI ?_|refine zO ?_|refine zP ?_);try simp)|((first|refine zS ?_|refine wOn ?_|refine wQn ?_);try simp only[zZ])
     all_goals apply hr
     all_goals simp[Tryz.f16,hi']
     all_goals rw[e5 g6,decide_eq_true (by omega)]
     all_goals rfl
end Go.Proofs.YtpihbhacmokekaaGreatDoor
namespace Go.Proofs.YtpihbhacmokekaaGreatDoor
end Go.Proofs.YtpihbhacmokekaaGreatDoor
