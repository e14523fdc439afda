/- Texts that the proof needs: KE KP RK1 RK2 RS1 SX1. -/
import Derived.Test.YtpihbhacmokekaaGreatDoorP28ReconfTakes
import Derived.Test.YtpihbhacmokekaaGreatDoorP38ReconfTakes
import Derived.Test.YtpihbhacmokekaaGreatDoorP37ReconfTakes
import Derived.Test.YtpihbhacmokekaaGreatDoorP33ReconfTakes
import Derived.Test.YtpihbhacmokekaaGreatDoorP34ReconfTakes
namespace Go.Proofs.YtpihbhacmokekaaGreatDoor
set_option linter.unusedSimpArgs false
set_option linter.unusedVariables false
open Go Go.Av
attribute [local irreducible] Go.Av.yJ Go.Av.zU Go.Av.yC Go.Av.zQ Go.Av.yG Go.Av.zV Go.Av.Con
def inW (self ph e n:Int)(x:Lr):Prop:=¬ x.id=self/\ph<=x.ph/\0<=xK x.ae x.an e n
instance (self ph e n:Int)(x:Lr):Decidable (inW self ph e n x):=by unfold inW;infer_instance
def setS (self ph e n:Int)(l:List Lr):List Int:=self::((l.filter fun x=>decide (inW self ph e n x)).map Lr.id)
theorem setS_snoc (self ph e n:Int){l:List Lr}{k:Nat}(h:k<l.length):setS self ph e n (l.take (k+1))=if ¬ l[k].id=self/\ph<=l[k].ph/\0<=xK l[k].ae l[k].an e n then setS self ph e n (l.take k)++[l[k].id] else setS self ph e n (l.take k):=by
 rw[List.take_succ_eq_append_getElem h]
 unfold setS
 rw[List.filter_append]
 by_cases g:inW self ph e n l[k]
 ·have g':=g
  unfold inW at g'
  rw[if_pos g']
  simp[g]
 ·have g':=g
  unfold inW at g'
  rw[if_neg g']
  simp[g]
theorem setS_len (self ph e n:Int)(l:List Lr):(setS self ph e n l).length<=l.length+1:=by
 unfold setS
 rw[List.length_cons,List.length_map]
 have:=List.length_filter_le (fun x=>decide (inW self ph e n x)) l
 omega
theorem ints_sn (l:List Int)(n:Int):ints l++[[I n]]=ints (l++[n]):=by simp[ints]
set_option maxHeartbeats 4000000 in
theorem set_con (self ph e n:Int)(l:List Lr)(hl:l.length<=100000):zE Tryz.prog 31 [.p (I self),.p (.sl 8 (lrs l)),.p (I ph),.p (.agg [I e,I n])] (.p (.sl 1 (ints (setS self ph e n l)))):=by
 refine zG Tryz.tab Tryz.mixed Tryz.func31 rfl rfl Tryz.ntmps31 (by simp) (by simp) fun Q hr hn=>?_
 repeat' first|((first|refine O _ ?_|refine O _ _ ?_|(clear O;refine O _ ?_));clear O)|(refine zJ fun K O=>?_)|((first|refine zH ?_|refine zN rfl (by kernel_rfl) ?_|refine zM ?_|refine zK (by kernel_rfl) ?_);simp only[vS,vR,strip])|((first|refine wIs fun K O=>?_|refine wOs fun K O=>?_|refine wQs fun K O=>?_|refine zW ?_|refine zX ?_|refine zY ?_|refine zL ?_);simp)|(refine wIn ?_;refine And.intro (by kernel_rfl) ?_;try simp only[zZ])|refine zR ?_|refine zT ?_|((first|refine zI ?_|refine zO ?_|refine zP ?_);try simp)|((first|refine zS ?_|refine wOn ?_|refine wQn ?_);try simp only[zZ])
 refine zC (fun N st=>∃ (k:Nat),k+N=l.length/\st.s 0=.p (I self)/\st.s 2=.p (I ph)/\st.s 7=.ptr 7 0/\st.b 7=some (.box 25 [.p (I e),.p (I n)])/\st.s 14=.p (.sl 8 (lrs l))/\st.s 15=.p (I l.length)/\st.s 16=.p (I k)/\((st.s 9=.full 1 [[I self]]/\setS self ph e n (l.take k)=[self])\/(st.s 9=.row 41/\st.b 41=some (.row 3 1 (ints (setS self ph e n (l.take k))))))) l.length ⟨0,by simp[setS]⟩ fun K N st hL ⟨k,hk,g0,g2,g7,b7,g14,g15,g16,h9⟩=>?_
 by_cases hlt:k<l.length
 ·have hlt':(k:Int)<l.length:=by omega
  have hw:=yU k _ hlt (by omega)
  have he:=lrs_get hlt
  have c:=cmp_con l[k].ae l[k].an e n
  have hs:=setS_snoc self ph e n hlt
  have hsl:=setS_len self ph e n (l.take k)
  rw[List.length_take] at hsl
  by_cases p1:l[k].id=self
  ·rw[if_neg (fun h=>h.1 p1)] at hs
   rcases h9 with ⟨g9,h9⟩|⟨g9,b41⟩
   ·repeat' first|(refine O _ ?_;clear O)|(refine O _ _ ?_;clear O)|(clear O;refine O _ ?_;clear O)|(clear O;clear O;refine O _ ?_;clear O)|(clear O;clear O;clear O;refine O _ ?_;clear O)|(clear O;clear O;clear O;clear O;refine O _ ?_;clear O)|(refine zJ fun K O=>?_)|((first|refine zH ?_|refine zN rfl (by kernel_rfl) ?_|refine zM ?_|refine zK (by kernel_rfl) ?_);simp only[vS,vR,strip])|((first|refine wIs fun K O=>?_|refine wOs fun K O=>?_|refine wQs fun K O=>?_|refine zW ?_|refine zX ?_|refine zY ?_|refine zL ?_);simp[g0,g2,g7,b7,g14,g15,g16,hlt,hlt',hw,he,p1,g9])|(refine wIn ?_;refine And.intro (by kernel_rfl) ?_;try simp only[zZ])|(first|refine zR ?_|refine zT ?_)|((first|refine zI ?_|refine zO ?_|refine zP ?_);try simp)|((first|refine zS ?_|refine wOn ?_|refine wQn ?_);try simp only[zZ])
    refine hL _ (N-1) (by omega) ⟨k+1,by omega,?_⟩
    simp[g0,g2,g7,b7,g14,g15,g16,hw,hs,g9,h9]
   ·repeat' first|(refine O _ ?_;clear O)|(refine O _ _ ?_;clear O)|(clear O;refine O _ ?_;clear O)|(clear O;clear O;refine O _ ?_;clear O)|(clear O;clear O;clear O;refine O _ ?_;clear O)|(clear O;clear O;clear O;clear O;refine O _ ?_;clear O)|(refine zJ fun K O=>?_)|((first|refine zH ?_|refine zN rfl (by kernel_rfl) ?_|refine zM ?_|refine zK (by kernel_rfl) ?_);simp only[vS,vR,strip])|((first|refine wIs fun K O=>?_|refine wOs fun K O=>?_|refine wQs fun K O=>?_|refine zW ?_|refine zX ?_|refine zY ?_|refine zL ?_);simp[g0,g2,g7,b7,g14,g15,g16,hlt,hlt',hw,he,p1,g9,b41])|(refine wIn ?_;refine And.intro (by kernel_rfl) ?_;try simp only[zZ])|(first|refine zR ?_|refine zT ?_)|((first|refine zI ?_|refine zO ?_|refine zP ?_);try simp)|((first|refine zS ?_|refine wOn ?_|refine wQn ?_);try simp only[zZ])
    refine hL _ (N-1) (by omega) ⟨k+1,by omega,?_⟩
    simp[g0,g2,g7,b7,g14,g15,g16,hw,hs,g9,b41]
  by_cases p2:ph<=l[k].ph
  ·by_cases p3:0<=xK l[k].ae l[k].an e n
   ·rw[if_pos ⟨p1,p2,p3⟩] at hs
    rcases h9 with ⟨g9,h9⟩|⟨g9,b41⟩
    ·rw[h9] at hs
     repeat' first|(refine And.intro (by (try simp);omega) ?_)|(refine Or.inl ?_)|((first|refine O _ ?_|refine O _ _ ?_|(clear O;refine O _ ?_));clear O)|(refine zJ fun K O=>?_)|((first|refine zH ?_|refine zN rfl (by kernel_rfl) ?_|refine zM ?_|refine zK (by kernel_rfl) ?_);simp only[vS,vR,strip])|((first|refine wIs fun K O=>?_|refine wOs fun K O=>?_|refine wQs fun K O=>?_|refine zW ?_|refine zX ?_|refine zY ?_|refine zL ?_);simp[g0,g2,g7,b7,g14,g15,g16,g9,hlt,hlt',hw,he,p1,p2,p3])|(refine wIn ?_;refine And.intro (by kernel_rfl) ?_;try simp only[zZ])|refine zR ?_|refine zT ?_|((first|refine zI ?_|refine zO ?_|refine zP ?_);try simp)|((first|refine zS ?_|refine wOn ?_|refine wQn ?_);try simp only[zZ])|refine zU.p c rfl ?_|refine zU.l c rfl ?_|refine zQ.pure c rfl ?_|refine zQ.lent c rfl ?_|refine zU.o c ?_|refine zV.p c rfl ?_|refine zV.l c rfl ?_|refine zV.o c ?_
     refine hL _ (N-1) (by omega) ⟨k+1,by omega,?_⟩
     simp[g0,g2,g7,b7,g14,g15,g16,hw,hs,ints]
    ·have hx:=ints_sn (setS self ph e n (l.take k)) l[k].id
     rw[<- hs] at hx
     generalize setS self ph e n (l.take k)=q at hsl b41 hx
     have hqi:(ints q).length=q.length:=by simp[ints]
     repeat' first|(refine And.intro (by (try simp only[hqi,List.length_append,List.length_cons,List.length_nil]);omega) ?_)|((first|refine O _ ?_|refine O _ _ ?_|(clear O;refine O _ ?_));clear O)|(refine zJ fun K O=>?_)|((first|refine zH ?_|refine zN rfl (by kernel_rfl) ?_|refine zM ?_|refine zK (by kernel_rfl) ?_);simp only[vS,vR,strip])|((first|refine wIs fun K O=>?_|refine wOs fun K O=>?_|refine wQs fun K O=>?_|refine zW ?_|refine zX ?_|refine zY ?_|refine zL ?_);simp[g0,g2,g7,b7,g14,g15,g16,g9,b41,hlt,hlt',hw,he,p1,p2,p3])|(refine wIn ?_;refine And.intro (by kernel_rfl) ?_;try simp only[zZ])|refine zR ?_|refine zT ?_|((first|refine zI ?_|refine zO ?_|refine zP ?_);try simp)|((first|refine zS ?_|refine wOn ?_|refine wQn ?_);try simp only[zZ])|refine zU.p c rfl ?_|refine zU.l c rfl ?_|refine zQ.pure c rfl ?_|refine zQ.lent c rfl ?_|refine zU.o c ?_|refine zV.p c rfl ?_|refine zV.l c rfl ?_|refine zV.o c ?_
     refine hL _ (N-1) (by omega) ⟨k+1,by omega,?_⟩
     simp[g0,g2,g7,b7,g14,g15,g16,g9,b41,hw,hx]
   ·rw[if_neg (fun h=>p3 h.2.2)] at hs
    rcases h9 with ⟨g9,h9⟩|⟨g9,b41⟩
    ·repeat' first|(refine O _ ?_;clear O)|(refine O _ _ ?_;clear O)|(clear O;refine O _ ?_;clear O)|(clear O;clear O;refine O _ ?_;clear O)|(clear O;clear O;clear O;refine O _ ?_;clear O)|(clear O;clear O;clear O;clear O;refine O _ ?_;clear O)|(refine zJ fun K O=>?_)|((first|refine zH ?_|refine zN rfl (by kernel_rfl) ?_|refine zM ?_|refine zK (by kernel_rfl) ?_);simp only[vS,vR,strip])|((first|refine wIs fun K O=>?_|refine wOs fun K O=>?_|refine wQs fun K O=>?_|refine zW ?_|refine zX ?_|refine zY ?_|refine zL ?_);simp[g0,g2,g7,b7,g14,g15,g16,hlt,hlt',hw,he,p1,p2,p3,g9])|(refine wIn ?_;refine And.intro (by kernel_rfl) ?_;try simp only[zZ])|(first|refine zR ?_|refine zT ?_)|((first|refine zI ?_|refine zO ?_|refine zP ?_);try simp)|((first|refine zS ?_|refine wOn ?_|refine wQn ?_);try simp only[zZ])|(refine zU.p (c) rfl ?_)|(refine zU.l (c) rfl ?_)|(refine zQ.pure (c) rfl ?_)|(refine zQ.lent (c) rfl ?_)|(refine zU.o (c) ?_)|(refine zV.p (c) rfl ?_)|(refine zV.l (c) rfl ?_)|(refine zV.o (c) ?_)
     refine hL _ (N-1) (by omega) ⟨k+1,by omega,?_⟩
     simp[g0,g2,g7,b7,g14,g15,g16,hw,hs,g9,h9]
    ·repeat' first|(refine O _ ?_;clear O)|(refine O _ _ ?_;clear O)|(clear O;refine O _ ?_;clear O)|(clear O;clear O;refine O _ ?_;clear O)|(clear O;clear O;clear O;refine O _ ?_;clear O)|(clear O;clear O;clear O;clear O;refine O _ ?_;clear O)|(refine zJ fun K O=>?_)|((first|refine zH ?_|refine zN rfl (by kernel_rfl) ?_|refine zM ?_|refine zK (by kernel_rfl) ?_);simp only[vS,vR,strip])|((first|refine wIs fun K O=>?_|refine wOs fun K O=>?_|refine wQs fun K O=>?_|refine zW ?_|refine zX ?_|refine zY ?_|refine zL ?_);simp[g0,g2,g7,b7,g14,g15,g16,hlt,hlt',hw,he,p1,p2,p3,g9,b41])|(refine wIn ?_;refine And.intro (by kernel_rfl) ?_;try simp only[zZ])|(first|refine zR ?_|refine zT ?_)|((first|refine zI ?_|refine zO ?_|refine zP ?_);try simp)|((first|refine zS ?_|refine wOn ?_|refine wQn ?_);try simp only[zZ])|(refine zU.p (c) rfl ?_)|(refine zU.l (c) rfl ?_)|(refine zQ.pure (c) rfl ?_)|(refine zQ.lent (c) rfl ?_)|(refine zU.o (c) ?_)|(refine zV.p (c) rfl ?_)|(refine zV.l (c) rfl ?_)|(refine zV.o (c) ?_)
     refine hL _ (N-1) (by omega) ⟨k+1,by omega,?_⟩
     simp[g0,g2,g7,b7,g14,g15,g16,hw,hs,g9,b41]
  ·rw[if_neg (fun h=>p2 h.2.1)] at hs
   rcases h9 with ⟨g9,h9⟩|⟨g9,b41⟩
   ·repeat' first|(refine O _ ?_;clear O)|(refine O _ _ ?_;clear O)|(clear O;refine O _ ?_;clear O)|(clear O;clear O;refine O _ ?_;clear O)|(clear O;clear O;clear O;refine O _ ?_;clear O)|(clear O;clear O;clear O;clear O;refine O _ ?_;clear O)|(refine zJ fun K O=>?_)|((first|refine zH ?_|refine zN rfl (by kernel_rfl) ?_|refine zM ?_|refine zK (by kernel_rfl) ?_);simp only[vS,vR,strip])|((first|refine wIs fun K O=>?_|refine wOs fun K O=>?_|refine wQs fun K O=>?_|refine zW ?_|refine zX ?_|refine zY ?_|refine zL ?_);simp[g0,g2,g7,b7,g14,g15,g16,hlt,hlt',hw,he,p1,p2,g9])|(refine wIn ?_;refine And.intro (by kernel_rfl) ?_;try simp only[zZ])|(first|refine zR ?_|refine zT ?_)|((first|refine zI ?_|refine zO ?_|refine zP ?_);try simp)|((first|refine zS ?_|refine wOn ?_|refine wQn ?_);try simp only[zZ])
    refine hL _ (N-1) (by omega) ⟨k+1,by omega,?_⟩
    simp[g0,g2,g7,b7,g14,g15,g16,hw,hs,g9,h9]
   ·repeat' first|(refine O _ ?_;clear O)|(refine O _ _ ?_;clear O)|(clear O;refine O _ ?_;clear O)|(clear O;clear O;refine O _ ?_;clear O)|(clear O;clear O;clear O;refine O _ ?_;clear O)|(clear O;clear O;clear O;clear O;refine O _ ?_;clear O)|(refine zJ fun K O=>?_)|((first|refine zH ?_|refine zN rfl (by kernel_rfl) ?_|refine zM ?_|refine zK (by kernel_rfl) ?_);simp only[vS,vR,strip])|((first|refine wIs fun K O=>?_|refine wOs fun K O=>?_|refine wQs fun K O=>?_|refine zW ?_|refine zX ?_|refine zY ?_|refine zL ?_);simp[g0,g2,g7,b7,g14,g15,g16,hlt,hlt',hw,he,p1,p2,g9,b41])|(refine wIn ?_;refine And.intro (by kernel_rfl) ?_;try simp only[zZ])|(first|refine zR ?_|refine zT ?_)|((first|refine zI ?_|refine zO ?_|refine zP ?_);try simp)|((first|refine zS ?_|refine wOn ?_|refine wQn ?_);try simp only[zZ])
    refine hL _ (N-1) (by omega) ⟨k+1,by omega,?_⟩
    simp[g0,g2,g7,b7,g14,g15,g16,hw,hs,g9,b41]
 ·have hlt':¬ (k:Int)<l.length:=by omega
  rw[List.take_of_length_le (by omega)] at h9
  rcases h9 with ⟨g9,h9⟩|⟨g9,b41⟩
  ·rw[h9] at hr
   repeat' first|((first|refine O _ ?_|refine O _ _ ?_|(clear O;refine O _ ?_));clear O)|(refine zJ fun K O=>?_)|((first|refine zH ?_|refine zN rfl (by kernel_rfl) ?_|refine zM ?_|refine zK (by kernel_rfl) ?_);simp only[vS,vR,strip])|((first|refine wIs fun K O=>?_|refine wOs fun K O=>?_|refine wQs fun K O=>?_|refine zW ?_|refine zX ?_|refine zY ?_|refine zL ?_);simp[g0,g2,g7,b7,g14,g15,g16,g9,hlt,hlt'])|(refine wIn ?_;refine And.intro (by kernel_rfl) ?_;try simp only[zZ])|refine zR ?_|refine zT ?_|((first|refine zI ?_|refine zO ?_|refine zP ?_);try simp)|((first|refine zS ?_|refine wOn ?_|refine wQn ?_);try simp only[zZ])
   all_goals apply hr
   all_goals simp[Tryz.f31,ints]
  ·repeat' first|(refine O _ ?_;clear O)|(refine O _ _ ?_;clear O)|(clear O;refine O _ ?_;clear O)|(clear O;clear O;refine O _ ?_;clear O)|(clear O;clear O;clear O;refine O _ ?_;clear O)|(clear O;clear O;clear O;clear O;refine O _ ?_;clear O)|(refine zJ fun K O=>?_)|((first|refine zH ?_|refine zN rfl (by kernel_rfl) ?_|refine zM ?_|refine zK (by kernel_rfl) ?_);simp only[vS,vR,strip])|((first|refine wIs fun K O=>?_|refine wOs fun K O=>?_|refine wQs fun K O=>?_|refine zW ?_|refine zX ?_|refine zY ?_|refine zL ?_);simp[g0,g2,g7,b7,g14,g15,g16,g9,b41,hlt,hlt'])|(refine wIn ?_;refine And.intro (by kernel_rfl) ?_;try simp only[zZ])|(first|refine zR ?_|refine zT ?_)|((first|refine zI ?_|refine zO ?_|refine zP ?_);try simp)|((first|refine zS ?_|refine wOn ?_|refine wQn ?_);try simp only[zZ])
   all_goals apply hr
   all_goals simp[Tryz.f31,g9,b41]
def yT (h:Hy):Zx:=match h.lg.getLast? with
 |none=>⟨h.im.ae,h.im.an⟩
 |some t=>⟨t.e,t.n⟩
theorem last16_con (h:Hy)(hl:h.lg.length<=1000):zE Tryz.prog 12 [.p (.agg h.cells)] (.p (.agg [I (yT h).e,I (yT h).n])):=by
 by_cases h0:h.lg.length=0
 ·have hg:yT h=⟨h.im.ae,h.im.an⟩:=by unfold yT;rw[List.length_eq_zero_iff.1 h0];rfl
  rw[hg]
  unfold Hy.cells
  refine zG Tryz.tab Tryz.mixed Tryz.func12 rfl rfl Tryz.ntmps12 (by simp) (by simp) fun Q hr hn=>?_
  repeat' first|((first|refine O _ ?_|refine O _ _ ?_|(clear O;refine O _ ?_));clear O)|(refine zJ fun K O=>?_)|((first|refine zH ?_|refine zN rfl (by kernel_rfl) ?_|refine zM ?_|refine zK (by kernel_rfl) ?_);simp only[vS,vR,strip])|((first|refine wIs fun K O=>?_|refine wOs fun K O=>?_|refine wQs fun K O=>?_|refine zW ?_|refine zX ?_|refine zY ?_|refine zL ?_);simp[h0])|(refine wIn ?_;refine And.intro (by kernel_rfl) ?_;try simp only[zZ])|refine zR ?_|refine zT ?_|((first|refine zI ?_|refine zO ?_|refine zP ?_);try simp)|((first|refine zS ?_|refine wOn ?_|refine wQn ?_);try simp only[zZ])
  all_goals apply hr
  all_goals simp[Tryz.f12]
 ·obtain⟨q,hq⟩:∃q,q+1=h.lg.length:=⟨h.lg.length-1,by omega⟩
  have hlt:q<h.lg.length:=by omega
  have hg:yT h=⟨h.lg[q].e,h.lg[q].n⟩:=by
   unfold yT
   rw[List.getLast?_eq_getElem?,show h.lg.length-1=q by omega,List.getElem?_eq_getElem hlt]
  rw[hg]
  have h0':¬ (h.lg.length:Int)=0:=by omega
  have w:IntKind.i64.wrap ((h.lg.length:Int)-1)=(q:Int):=by rw[zF] <;> omega
  have he:=wN hlt
  unfold Hy.cells
  refine zG Tryz.tab Tryz.mixed Tryz.func12 rfl rfl Tryz.ntmps12 (by simp) (by simp) fun Q hr hn=>?_
  repeat' first|((first|refine O _ ?_|refine O _ _ ?_|(clear O;refine O _ ?_));clear O)|(refine zJ fun K O=>?_)|((first|refine zH ?_|refine zN rfl (by kernel_rfl) ?_|refine zM ?_|refine zK (by kernel_rfl) ?_);simp only[vS,vR,strip])|((first|refine wIs fun K O=>?_|refine wOs fun K O=>?_|refine wQs fun K O=>?_|refine zW ?_|refine zX ?_|refine zY ?_|refine zL ?_);simp[h0,h0',w,he,hlt,Tx.cells])|(refine wIn ?_;refine And.intro (by kernel_rfl) ?_;try simp only[zZ])|refine zR ?_|refine zT ?_|((first|refine zI ?_|refine zO ?_|refine zP ?_);try simp)|((first|refine zS ?_|refine wOn ?_|refine wQn ?_);try simp only[zZ])
  all_goals apply hr
  all_goals simp[Tryz.f12]
def txZ (l:List Tx):List Zx:=l.map fun t=>⟨t.e,t.n⟩
def marksH (h:Hy):List Zx:=⟨h.im.ae,h.im.an⟩::txZ h.lg
theorem txZ_snoc {l:List Tx}{k:Nat}(h:k<l.length):txZ (l.take (k+1))=txZ (l.take k)++[⟨l[k].e,l[k].n⟩]:=by
 rw[List.take_succ_eq_append_getElem h];simp only[txZ,List.map_append,vS,vR]
theorem zxs_ap (l:List Zx)(e n:Int):zxs l++[[I e,I n]]=zxs (l++[⟨e,n⟩]):=by simp[zxs]
set_option maxHeartbeats 2000000 in
theorem marks16_con (h:Hy)(hl:h.lg.length<=1000):zE Tryz.prog 45 [.p (.agg h.cells)] (.p (.sl 2 (zxs (marksH h)))):=by
 have e1:zxs [⟨h.im.ae,h.im.an⟩]=[[I h.im.ae,I h.im.an]]:=rfl
 unfold Hy.cells
 refine zG Tryz.tab Tryz.mixed Tryz.func45 rfl rfl Tryz.ntmps45 (by simp) (by simp) fun Q hr hn=>?_
 repeat' first|((first|refine O _ ?_|refine O _ _ ?_|(clear O;refine O _ ?_));clear O)|(refine zJ fun K O=>?_)|((first|refine zH ?_|refine zN rfl (by kernel_rfl) ?_|refine zM ?_|refine zK (by kernel_rfl) ?_);simp only[vS,vR,strip])|((first|refine wIs fun K O=>?_|refine wOs fun K O=>?_|refine wQs fun K O=>?_|refine zW ?_|refine zX ?_|refine zY ?_|refine zL ?_);simp)|(refine wIn ?_;refine And.intro (by kernel_rfl) ?_;try simp only[zZ])|refine zR ?_|refine zT ?_|((first|refine zI ?_|refine zO ?_|refine zP ?_);try simp)|((first|refine zS ?_|refine wOn ?_|refine wQn ?_);try simp only[zZ])
 refine zC (fun N st=>∃ (k:Nat)(a:List Zx),k+N=h.lg.length/\a=⟨h.im.ae,h.im.an⟩::txZ (h.lg.take k)/\a.length=k+1/\st.s 11=.p (.sl 8 (xH h.lg))/\st.s 12=.p (I h.lg.length)/\st.s 13=.p (I k)/\((st.s 3=.full 2 (zxs a))\/(st.s 3=.row 21/\st.b 21=some (.row 25 2 (zxs a))))) h.lg.length ⟨0,[⟨h.im.ae,h.im.an⟩],by simp[txZ,e1]⟩ fun K N st hL ⟨k,a,hkN,ha,hal,g11,g12,g13,hrow⟩=>?_
 by_cases hlt:k<h.lg.length
 ·have hlt':(k:Int)<h.lg.length:=by omega
  have hw:=yU k _ hlt (by omega)
  have he:=wN hlt
  have hs:=zxs_ap a h.lg[k].e h.lg[k].n
  have ha2:a++[⟨h.lg[k].e,h.lg[k].n⟩]=⟨h.im.ae,h.im.an⟩::txZ (h.lg.take (k+1)):=by rw[txZ_snoc hlt,ha];rfl
  have hzl:=wS a
  rcases hrow with g3|⟨g3,b21⟩
  ·repeat' first|(refine And.intro (by (try simp only[hzl,List.length_cons,List.length_nil]);omega) ?_)|(refine Or.inl ?_)|(refine O _ ?_;clear O)|(refine O _ _ ?_;clear O)|(clear O;refine O _ ?_;clear O)|(clear O;clear O;refine O _ ?_;clear O)|(clear O;clear O;clear O;refine O _ ?_;clear O)|(clear O;clear O;clear O;clear O;refine O _ ?_;clear O)|(refine zJ fun K O=>?_)|((first|refine zH ?_|refine zN rfl (by kernel_rfl) ?_|refine zM ?_|refine zK (by kernel_rfl) ?_);simp only[vS,vR,strip])|((first|refine wIs fun K O=>?_|refine wOs fun K O=>?_|refine wQs fun K O=>?_|refine zW ?_|refine zX ?_|refine zY ?_|refine zL ?_);simp[g11,g12,g13,g3,hlt,hlt',hw,he,hs])|(refine wIn ?_;refine And.intro (by kernel_rfl) ?_;try simp only[zZ])|(first|refine zR ?_|refine zT ?_)|((first|refine zI ?_|refine zO ?_|refine zP ?_);try simp)|((first|refine zS ?_|refine wOn ?_|refine wQn ?_);try simp only[zZ])
   refine hL _ (N-1) (by omega) ⟨k+1,_,by omega,ha2,by simp[hal],?_⟩
   simp[g11,g12,g13,hw,hs]
  ·repeat' first|(refine And.intro (by (try simp only[hzl,List.length_cons,List.length_nil]);omega) ?_)|(refine O _ ?_;clear O)|(refine O _ _ ?_;clear O)|(clear O;refine O _ ?_;clear O)|(clear O;clear O;refine O _ ?_;clear O)|(clear O;clear O;clear O;refine O _ ?_;clear O)|(clear O;clear O;clear O;clear O;refine O _ ?_;clear O)|(refine zJ fun K O=>?_)|((first|refine zH ?_|refine zN rfl (by kernel_rfl) ?_|refine zM ?_|refine zK (by kernel_rfl) ?_);simp only[vS,vR,strip])|((first|refine wIs fun K O=>?_|refine wOs fun K O=>?_|refine wQs fun K O=>?_|refine zW ?_|refine zX ?_|refine zY ?_|refine zL ?_);simp[g11,g12,g13,g3,b21,hlt,hlt',hw,he,hs])|(refine wIn ?_;refine And.intro (by kernel_rfl) ?_;try simp only[zZ])|(first|refine zR ?_|refine zT ?_)|((first|refine zI ?_|refine zO ?_|refine zP ?_);try simp)|((first|refine zS ?_|refine wOn ?_|refine wQn ?_);try simp only[zZ])
   refine hL _ (N-1) (by omega) ⟨k+1,_,by omega,ha2,by simp[hal],?_⟩
   simp[g11,g12,g13,g3,b21,hw,hs]
 ·have hlt':¬ (k:Int)<h.lg.length:=by omega
  rw[List.take_of_length_le (by omega)] at ha
  change a=marksH h at ha
  subst ha
  rcases hrow with g3|⟨g3,b21⟩
  ·repeat' first|(refine O _ ?_;clear O)|(refine O _ _ ?_;clear O)|(clear O;refine O _ ?_;clear O)|(clear O;clear O;refine O _ ?_;clear O)|(clear O;clear O;clear O;refine O _ ?_;clear O)|(clear O;clear O;clear O;clear O;refine O _ ?_;clear O)|(refine zJ fun K O=>?_)|((first|refine zH ?_|refine zN rfl (by kernel_rfl) ?_|refine zM ?_|refine zK (by kernel_rfl) ?_);simp only[vS,vR,strip])|((first|refine wIs fun K O=>?_|refine wOs fun K O=>?_|refine wQs fun K O=>?_|refine zW ?_|refine zX ?_|refine zY ?_|refine zL ?_);simp[g11,g12,g13,g3,hlt,hlt'])|(refine wIn ?_;refine And.intro (by kernel_rfl) ?_;try simp only[zZ])|(first|refine zR ?_|refine zT ?_)|((first|refine zI ?_|refine zO ?_|refine zP ?_);try simp)|((first|refine zS ?_|refine wOn ?_|refine wQn ?_);try simp only[zZ])
   all_goals apply hr
   all_goals simp[Tryz.f45]
  ·repeat' first|(refine O _ ?_;clear O)|(refine O _ _ ?_;clear O)|(clear O;refine O _ ?_;clear O)|(clear O;clear O;refine O _ ?_;clear O)|(clear O;clear O;clear O;refine O _ ?_;clear O)|(clear O;clear O;clear O;clear O;refine O _ ?_;clear O)|(refine zJ fun K O=>?_)|((first|refine zH ?_|refine zN rfl (by kernel_rfl) ?_|refine zM ?_|refine zK (by kernel_rfl) ?_);simp only[vS,vR,strip])|((first|refine wIs fun K O=>?_|refine wOs fun K O=>?_|refine wQs fun K O=>?_|refine zW ?_|refine zX ?_|refine zY ?_|refine zL ?_);simp[g11,g12,g13,g3,b21,hlt,hlt'])|(refine wIn ?_;refine And.intro (by kernel_rfl) ?_;try simp only[zZ])|(first|refine zR ?_|refine zT ?_)|((first|refine zI ?_|refine zO ?_|refine zP ?_);try simp)|((first|refine zS ?_|refine wOn ?_|refine wQn ?_);try simp only[zZ])
   all_goals apply hr
   all_goals simp[Tryz.f45,b21,g3]
def risesB:List Zx->Bool
 |[]=>true
 |[_]=>true
 |p::z::l=>decide (xK p.e p.n z.e z.n<0) && risesB (z::l)
set_option maxHeartbeats 2000000 in
theorem check16_con (h:Hy)(hl:h.lg.length<=1000):zE Tryz.prog 18 [.p (.agg h.cells)] (.p (B (risesB (marksH h)))):=by
 have c:=marks16_con h hl
 have hml:(marksH h).length=h.lg.length+1:=by simp[marksH,txZ]
 generalize marksH h=M at c hml ⊢
 unfold Hy.cells at c ⊢
 have hzl:=wS M
 refine zG Tryz.tab Tryz.mixed Tryz.func18 rfl rfl Tryz.ntmps18 (by simp) (by simp) fun Q hr hn=>?_
 repeat' first|((first|refine O _ ?_|refine O _ _ ?_|(clear O;refine O _ ?_));clear O)|(refine zJ fun K O=>?_)|((first|refine zH ?_|refine zN rfl (by kernel_rfl) ?_|refine zM ?_|refine zK (by kernel_rfl) ?_);simp only[vS,vR,strip])|((first|refine wIs fun K O=>?_|refine wOs fun K O=>?_|refine wQs fun K O=>?_|refine zW ?_|refine zX ?_|refine zY ?_|refine zL ?_);simp)|(refine wIn ?_;refine And.intro (by kernel_rfl) ?_;try simp only[zZ])|refine zR ?_|refine zT ?_|((first|refine zI ?_|refine zO ?_|refine zP ?_);try simp)|((first|refine zS ?_|refine wOn ?_|refine wQn ?_);try simp only[zZ])|refine zU.p c rfl ?_|refine zU.l c rfl ?_|refine zQ.pure c rfl ?_|refine zQ.lent c rfl ?_|refine zU.o c ?_|refine zV.p c rfl ?_|refine zV.l c rfl ?_|refine zV.o c ?_
 refine zC (fun N st=>∃ (j:Nat),j+1+N=M.length/\risesB (M.drop j)=risesB M/\st.s 3=.p (.sl 2 (zxs M))/\st.s 4=.p (I ((j:Int)+1))) (M.length-1) ⟨0,by simp;omega⟩ fun K N st hL ⟨j,hj,hi,g3,g4⟩=>?_
 by_cases hlt:j+1<M.length
 ·have hlt0:j<M.length:=by omega
  have hlt':(j:Int)+1<M.length:=by omega
  have w1:IntKind.i64.wrap ((j:Int)+1-1)=(j:Int):=by rw[zF] <;> omega
  have w2:IntKind.i64.wrap ((j:Int)+1+1)=(j:Int)+1+1:=by rw[zF] <;> omega
  have w1':IntKind.i64.wrap (j:Int)=(j:Int):=by rw[zF] <;> omega
  have n1:(0:Int)<=(j:Int)+1:=by omega
  have n2:((j:Int)+1).toNat=j+1:=by omega
  have c2:=cmp02_con M[j].e M[j].n M[j+1].e M[j+1].n
  rw[List.drop_eq_getElem_cons hlt0,List.drop_eq_getElem_cons hlt] at hi
  by_cases o:xK M[j].e M[j].n M[j+1].e M[j+1].n<0
  ·have o':¬ 0<=xK M[j].e M[j].n M[j+1].e M[j+1].n:=by omega
   simp only[risesB,o,decide_true,Bool.true_and] at hi
   repeat' first|((first|refine O _ ?_|refine O _ _ ?_|(clear O;refine O _ ?_));clear O)|(refine zJ fun K O=>?_)|((first|refine zH ?_|refine zN rfl (by kernel_rfl) ?_|refine zM ?_|refine zK (by kernel_rfl) ?_);simp only[vS,vR,strip])|((first|refine wIs fun K O=>?_|refine wOs fun K O=>?_|refine wQs fun K O=>?_|refine zW ?_|refine zX ?_|refine zY ?_|refine zL ?_);simp[g3,g4,hlt,hlt',hlt0,w1,w1',w2,n1,n2,o,o',hzl])|(refine wIn ?_;refine And.intro (by kernel_rfl) ?_;try simp only[zZ])|refine zR ?_|refine zT ?_|((first|refine zI ?_|refine zO ?_|refine zP ?_);try simp)|((first|refine zS ?_|refine wOn ?_|refine wQn ?_);try simp only[zZ])|refine zU.p c2 rfl ?_|refine zU.l c2 rfl ?_|refine zQ.pure c2 rfl ?_|refine zQ.lent c2 rfl ?_|refine zU.o c2 ?_|refine zV.p c2 rfl ?_|refine zV.l c2 rfl ?_|refine zV.o c2 ?_
   refine hL _ (N-1) (by omega) ⟨j+1,by omega,?_,?_⟩
   ·rw[List.drop_eq_getElem_cons hlt];exact hi
   ·simp[g3,g4,w2]
  ·have o':0<=xK M[j].e M[j].n M[j+1].e M[j+1].n:=by omega
   simp only[risesB,o,decide_false,Bool.false_and] at hi
   rw[<- hi] at hr
   repeat' first|((first|refine O _ ?_|refine O _ _ ?_|(clear O;refine O _ ?_));clear O)|(refine zJ fun K O=>?_)|((first|refine zH ?_|refine zN rfl (by kernel_rfl) ?_|refine zM ?_|refine zK (by kernel_rfl) ?_);simp only[vS,vR,strip])|((first|refine wIs fun K O=>?_|refine wOs fun K O=>?_|refine wQs fun K O=>?_|refine zW ?_|refine zX ?_|refine zY ?_|refine zL ?_);simp[g3,g4,hlt,hlt',hlt0,w1,w1',w2,n1,n2,o,o',hzl])|(refine wIn ?_;refine And.intro (by kernel_rfl) ?_;try simp only[zZ])|refine zR ?_|refine zT ?_|((first|refine zI ?_|refine zO ?_|refine zP ?_);try simp)|((first|refine zS ?_|refine wOn ?_|refine wQn ?_);try simp only[zZ])|refine zU.p c2 rfl ?_|refine zU.l c2 rfl ?_|refine zQ.pure c2 rfl ?_|refine zQ.lent c2 rfl ?_|refine zU.o c2 ?_|refine zV.p c2 rfl ?_|refine zV.l c2 rfl ?_|refine zV.o c2 ?_
   all_goals apply hr
   all_goals simp[Tryz.f18]
 ·have hlt':¬ (j:Int)+1<M.length:=by omega
  have e:risesB (M.drop j)=true:=by
   have hd:(M.drop j).length=1:=by simp;omega
   obtain⟨a,ha⟩:=List.length_eq_one_iff.1 hd
   rw[ha];rfl
  rw[e] at hi
  rw[<- hi] at hr
  repeat' first|((first|refine O _ ?_|refine O _ _ ?_|(clear O;refine O _ ?_));clear O)|(refine zJ fun K O=>?_)|((first|refine zH ?_|refine zN rfl (by kernel_rfl) ?_|refine zM ?_|refine zK (by kernel_rfl) ?_);simp only[vS,vR,strip])|((first|refine wIs fun K O=>?_|refine wOs fun K O=>?_|refine wQs fun K O=>?_|refine zW ?_|refine zX ?_|refine zY ?_|refine zL ?_);simp[g3,g4,hlt,hlt',hzl])|(refine wIn ?_;refine And.intro (by kernel_rfl) ?_;try simp only[zZ])|refine zR ?_|refine zT ?_|((first|refine zI ?_|refine zO ?_|refine zP ?_);try simp)|((first|refine zS ?_|refine wOn ?_|refine wQn ?_);try simp only[zZ])
  all_goals apply hr
  all_goals simp[Tryz.f18]
def upTo (e n:Int)(l:List Tx):List Tx:=l.filter fun t=>decide (xK t.e t.n e n<=0)
theorem upTo_snoc (e n:Int){l:List Tx}{k:Nat}(h:k<l.length):upTo e n (l.take (k+1))=if xK l[k].e l[k].n e n<=0 then upTo e n (l.take k)++[l[k]] else upTo e n (l.take k):=by
 rw[List.take_succ_eq_append_getElem h]
 unfold upTo
 rw[List.filter_append]
 by_cases g:xK l[k].e l[k].n e n<=0
 ·rw[if_pos g,List.filter_cons,if_pos (decide_eq_true g)];simp
 ·rw[if_neg g,List.filter_cons,if_neg (by simpa using g)];simp
def stAt (h:Hy)(e n:Int):Sv:=xS h.im (upTo e n h.lg)
theorem allS_app (s:Sv)(l:List Tx)(t:Tx):xS s (l++[t])=doS (xS s l) t:=by unfold xS;rw[List.foldl_append];rfl
set_option maxHeartbeats 4000000 in
theorem stateAt16_con (h:Hy)(e n:Int)(hk:OkH h):zE Tryz.prog 11 [.p (.agg h.cells),.p (.agg [I e,I n])] (.p (.agg (stAt h e n).cells)):=by
 have c1:=own16_con h.im hk.ns hk.ss hk.c
 have hlg:=hk.lg
 have hf0:Fits h.im (psum h.lg):=⟨by have:=hk.tot;have:=hk.ns;unfold psum;omega,by have:=hk.tot;have:=hk.ss;unfold psum;omega,by have:=hk.c;unfold okC;omega⟩
 unfold stAt Hy.cells
 unfold Sv.cells at c1 ⊢
 refine zG Tryz.tab Tryz.mixed Tryz.func11 rfl rfl Tryz.ntmps11 (by simp) (by simp) fun Q hr hn=>?_
 repeat' first|((first|refine O _ ?_|refine O _ _ ?_|(clear O;refine O _ ?_));clear O)|(refine zJ fun K O=>?_)|((first|refine zH ?_|refine zN rfl (by kernel_rfl) ?_|refine zM ?_|refine zK (by kernel_rfl) ?_);simp only[vS,vR,strip])|((first|refine wIs fun K O=>?_|refine wOs fun K O=>?_|refine wQs fun K O=>?_|refine zW ?_|refine zX ?_|refine zY ?_|refine zL ?_);simp)|(refine wIn ?_;refine And.intro (by kernel_rfl) ?_;try simp only[zZ])|refine zR ?_|refine zT ?_|((first|refine zI ?_|refine zO ?_|refine zP ?_);try simp)|((first|refine zS ?_|refine wOn ?_|refine wQn ?_);try simp only[zZ])|refine zU.p c1 rfl ?_|refine zU.l c1 rfl ?_|refine zQ.pure c1 rfl ?_|refine zQ.lent c1 rfl ?_|refine zU.o c1 ?_|refine zV.p c1 rfl ?_|refine zV.l c1 rfl ?_|refine zV.o c1 ?_
 refine zC (fun N st=>∃ (k:Nat)(q:Sv),k+N=h.lg.length/\q=xS h.im (upTo e n (h.lg.take k))/\Fits q (psum (h.lg.drop k))/\st.s 3=.ptr 3 0/\st.b 3=some (.box 25 [.p (I e),.p (I n)])/\st.s 4=.ptr 4 0/\st.b 4=some (.box 30 [.nil 5,.nil 1,.p (I 0),.p (I 0),.p (I 0),.p (I 0),.nil 4,.p (I 0),.p (I 0)])/\st.s 5=.ptr 5 0/\st.b 5=some (.box 30 [.p (.sl 5 (zns q.ns)),.p (.sl 1 (ints q.ss)),.p (I q.nx),.p (I q.c.ep),.p (I q.c.n),.p (I q.c.kind),.p (.sl 4 (mbs q.c.ms)),.p (I q.ae),.p (I q.an)])/\st.s 12=.p (.sl 8 (xH h.lg))/\st.s 13=.p (I h.lg.length)/\st.s 14=.p (I k)) h.lg.length ⟨0,h.im,by simp[xS,upTo];exact hf0⟩ fun K N st hL ⟨k,q,hkN,hq,hf,g3,b3,g4,b4,g5,b5,g12,g13,g14⟩=>?_
 by_cases hlt:k<h.lg.length
 ·have hlt':(k:Int)<h.lg.length:=by omega
  have hw:=yU k _ hlt (by omega)
  have he:=wN hlt
  have c2:=cmp02_con h.lg[k].e h.lg[k].n e n
  have hsn:=upTo_snoc e n hlt
  obtain⟨hp1,hp2⟩:=hk.ps _ (List.getElem_mem hlt)
  rw[psum_drop hlt] at hf
  have hok:okT h.lg[k]:=fun p hp=>by have:=hp2 p hp;unfold okC;omega
  by_cases o:xK h.lg[k].e h.lg[k].n e n<=0
  ·rw[if_pos o] at hsn
   have c3:=apply08_con q h.lg[k] (hf.le (by omega)) hok
   have hf2:=doS_fits hf hok
   have hq2:doS q h.lg[k]=xS h.im (upTo e n (h.lg.take (k+1))):=by rw[hsn,allS_app,hq]
   unfold Sv.cells Tx.cells at c3
   generalize doS q h.lg[k]=r at c3 hf2 hq2
   repeat' first|((first|refine O _ ?_|refine O _ _ ?_|(clear O;refine O _ ?_));clear O)|(refine zJ fun K O=>?_)|((first|refine zH ?_|refine zN rfl (by kernel_rfl) ?_|refine zM ?_|refine zK (by kernel_rfl) ?_);simp only[vS,vR,strip])|((first|refine wIs fun K O=>?_|refine wOs fun K O=>?_|refine wQs fun K O=>?_|refine zW ?_|refine zX ?_|refine zY ?_|refine zL ?_);simp[g3,b3,g4,b4,g5,b5,g12,g13,g14,hlt,hlt',hw,he,o])|(refine wIn ?_;refine And.intro (by kernel_rfl) ?_;try simp only[zZ])|refine zR ?_|refine zT ?_|((first|refine zI ?_|refine zO ?_|refine zP ?_);try simp)|((first|refine zS ?_|refine wOn ?_|refine wQn ?_);try simp only[zZ])|refine zU.p c2 rfl ?_|refine zU.l c2 rfl ?_|refine zQ.pure c2 rfl ?_|refine zQ.lent c2 rfl ?_|refine zU.o c2 ?_|refine zV.p c2 rfl ?_|refine zV.l c2 rfl ?_|refine zV.o c2 ?_|refine zU.p c3 rfl ?_|refine zU.l c3 rfl ?_|refine zQ.pure c3 rfl ?_|refine zQ.lent c3 rfl ?_|refine zU.o c3 ?_|refine zV.p c3 rfl ?_|refine zV.l c3 rfl ?_|refine zV.o c3 ?_
   refine hL _ (N-1) (by omega) ⟨k+1,r,by omega,hq2,hf2,?_⟩
   simp[g3,b3,g4,b4,g5,b5,g12,g13,g14,hw]
  ·rw[if_neg o] at hsn
   rw[<- hsn] at hq
   repeat' first|((first|refine O _ ?_|refine O _ _ ?_|(clear O;refine O _ ?_));clear O)|(refine zJ fun K O=>?_)|((first|refine zH ?_|refine zN rfl (by kernel_rfl) ?_|refine zM ?_|refine zK (by kernel_rfl) ?_);simp only[vS,vR,strip])|((first|refine wIs fun K O=>?_|refine wOs fun K O=>?_|refine wQs fun K O=>?_|refine zW ?_|refine zX ?_|refine zY ?_|refine zL ?_);simp[g3,b3,g4,b4,g5,b5,g12,g13,g14,hlt,hlt',hw,he,o])|(refine wIn ?_;refine And.intro (by kernel_rfl) ?_;try simp only[zZ])|refine zR ?_|refine zT ?_|((first|refine zI ?_|refine zO ?_|refine zP ?_);try simp)|((first|refine zS ?_|refine wOn ?_|refine wQn ?_);try simp only[zZ])|refine zU.p c2 rfl ?_|refine zU.l c2 rfl ?_|refine zQ.pure c2 rfl ?_|refine zQ.lent c2 rfl ?_|refine zU.o c2 ?_|refine zV.p c2 rfl ?_|refine zV.l c2 rfl ?_|refine zV.o c2 ?_
   refine hL _ (N-1) (by omega) ⟨k+1,q,by omega,hq,hf.le (by omega),?_⟩
   simp[g3,b3,g4,b4,g5,b5,g12,g13,g14,hw]
 ·have hlt':¬ (k:Int)<h.lg.length:=by omega
  rw[List.take_of_length_le (by omega)] at hq
  rw[<- hq] at hr
  repeat' first|((first|refine O _ ?_|refine O _ _ ?_|(clear O;refine O _ ?_));clear O)|(refine zJ fun K O=>?_)|((first|refine zH ?_|refine zN rfl (by kernel_rfl) ?_|refine zM ?_|refine zK (by kernel_rfl) ?_);simp only[vS,vR,strip])|((first|refine wIs fun K O=>?_|refine wOs fun K O=>?_|refine wQs fun K O=>?_|refine zW ?_|refine zX ?_|refine zY ?_|refine zL ?_);simp[g3,b3,g4,b4,g5,b5,g12,g13,g14,hlt,hlt'])|(refine wIn ?_;refine And.intro (by kernel_rfl) ?_;try simp only[zZ])|refine zR ?_|refine zT ?_|((first|refine zI ?_|refine zO ?_|refine zP ?_);try simp)|((first|refine zS ?_|refine wOn ?_|refine wQn ?_);try simp only[zZ])
  all_goals apply hr
  all_goals simp[Tryz.f11,g4,b4,g5,b5]
def hasX (id e n:Int)(x:Lr):Prop:=x.id=id/\4<=x.ph/\0<=xK x.ae x.an e n
instance (id e n:Int)(x:Lr):Decidable (hasX id e n x):=by unfold hasX;infer_instance
theorem psum_filter (p:Tx->Bool):∀l:List Tx,psum (l.filter p)<=psum l
 |[]=>by simp
 |t::l=>by
  have:=psum_filter p l
  rw[List.filter_cons,psum_cons]
  split
  ·rw[psum_cons];omega
  ·omega
set_option maxHeartbeats 4000000 in
theorem stateAt_con (h:Hy)(z:Zx)(hf:Fits h.im (psum (upTo z.e z.n h.lg)))(ht:∀t∈h.lg,okT t)(hlg:h.lg.length<=1000):zE Tryz.prog 28 [.p (.agg h.cells),.p (.agg [I z.e,I z.n])] (.p (.agg (stAt h z.e z.n).cells)):=by
 have c1:=all_con h.im (upTo z.e z.n h.lg) hf fun t h'=>ht t (List.mem_filter.1 h').1
 have s0:upTo z.e z.n []=[]:=rfl
 unfold stAt
 generalize xS h.im (upTo z.e z.n h.lg)=S at *
 unfold Sv.cells at *
 unfold Hy.cells
 refine zG Tryz.tab Tryz.mixed Tryz.func28 rfl rfl Tryz.ntmps28 (by simp) (by simp) fun Q hr hn=>?_
 repeat' first|((first|refine O _ ?_|refine O _ _ ?_|(clear O;refine O _ ?_));clear O)|(refine zJ fun K O=>?_)|((first|refine zH ?_|refine zN rfl (by kernel_rfl) ?_|refine zM ?_|refine zK (by kernel_rfl) ?_);simp only[vS,vR,strip])|((first|refine wIs fun K O=>?_|refine wOs fun K O=>?_|refine wQs fun K O=>?_|refine zW ?_|refine zX ?_|refine zY ?_|refine zL ?_);simp)|(refine wIn ?_;refine And.intro (by kernel_rfl) ?_;try simp only[zZ])|refine zR ?_|refine zT ?_|((first|refine zI ?_|refine zO ?_|refine zP ?_);try simp)|((first|refine zS ?_|refine wOn ?_|refine wQn ?_);try simp only[zZ])
 refine wLoopG [.row 5 63 8] (fun N st=>∃k,k+N=h.lg.length/\st.s 3=.ptr 3 0/\st.b 3=some (.box 25 [.p (I z.e),.p (I z.n)])/\st.s 2=.ptr 2 0/\st.b 2=some (.box 33 [.p (.sl 5 (zns h.im.ns)),.p (.sl 1 (ints h.im.ss)),.p (I h.im.nx),.p (I h.im.c.ep),.p (I h.im.c.n),.p (I h.im.c.kind),.p (.sl 4 (mbs h.im.c.ms)),.p (I h.im.ae),.p (I h.im.an),.p (.sl 8 (xH h.lg))])/\st.s 4=.ptr 4 0/\st.b 4=some (.box 30 [.nil 5,.nil 1,.p (I 0),.p (I 0),.p (I 0),.p (I 0),.nil 4,.p (I 0),.p (I 0)])/\st.s 5=.row 5/\st.b 5=some (.row 63 8 (xH (upTo z.e z.n (h.lg.take k))))/\st.s 9=.p (.sl 8 (xH h.lg))/\st.s 10=.p (I h.lg.length)/\st.s 11=.p (I k)) h.lg.length ⟨0,by simp[xL,gh1,xH,s0]⟩ fun K N st hL ⟨k,hk,g3,b3,g2,b2,g4,b4,g5,b5,g9,g10,g11⟩=>?_
 by_cases hlt:k<h.lg.length
 ·have hw:=yU k _ hlt (by omega)
  have he:=wN hlt
  have hsn:=upTo_snoc z.e z.n hlt
  have cc:=cmp_con h.lg[k].e h.lg[k].n z.e z.n
  have hll:(upTo z.e z.n (h.lg.take k)).length<=1000:=by
   have:=List.length_filter_le (fun t:Tx=>decide (xK t.e t.n z.e z.n<=0)) (h.lg.take k)
   unfold upTo
   rw[List.length_take] at this
   omega
  by_cases o:xK h.lg[k].e h.lg[k].n z.e z.n<=0
  ·rw[if_pos o] at hsn
   have hs:=txns_snoc (upTo z.e z.n (h.lg.take k)) h.lg[k]
   rw[<- hsn] at hs
   generalize xK h.lg[k].e h.lg[k].n z.e z.n=r at *
   generalize upTo z.e z.n (h.lg.take k)=L at *
   generalize hL2:upTo z.e z.n (h.lg.take (k+1))=L2 at *
   repeat' first|(refine And.intro (by (try simp);omega) ?_)|((first|refine O _ ?_|refine O _ _ ?_|(clear O;refine O _ ?_));clear O)|(refine zJ fun K O=>?_)|((first|refine zH ?_|refine zN rfl (by kernel_rfl) ?_|refine zM ?_|refine zK (by kernel_rfl) ?_);simp only[vS,vR,strip])|((first|refine wIs fun K O=>?_|refine wOs fun K O=>?_|refine wQs fun K O=>?_|refine zW ?_|refine zX ?_|refine zY ?_|refine zL ?_);simp[g3,b3,g2,b2,g4,b4,g5,b5,g9,g10,g11,hlt,hw,he,o,hs])|(refine wIn ?_;refine And.intro (by kernel_rfl) ?_;try simp only[zZ])|refine zR ?_|refine zT ?_|((first|refine zI ?_|refine zO ?_|refine zP ?_);try simp)|((first|refine zS ?_|refine wOn ?_|refine wQn ?_);try simp only[zZ])|refine zU.p cc rfl ?_|refine zU.l cc rfl ?_|refine zQ.pure cc rfl ?_|refine zQ.lent cc rfl ?_|refine zU.o cc ?_|refine zV.p cc rfl ?_|refine zV.l cc rfl ?_|refine zV.o cc ?_
   refine hL _ (N-1) (by omega) ⟨k+1,by omega,?_⟩
   simp[g3,b3,g2,b2,g4,b4,g5,b5,g9,g10,g11,hw,hs,hL2]
  ·rw[if_neg o] at hsn
   generalize xK h.lg[k].e h.lg[k].n z.e z.n=r at *
   repeat' first|((first|refine O _ ?_|refine O _ _ ?_|(clear O;refine O _ ?_));clear O)|(refine zJ fun K O=>?_)|((first|refine zH ?_|refine zN rfl (by kernel_rfl) ?_|refine zM ?_|refine zK (by kernel_rfl) ?_);simp only[vS,vR,strip])|((first|refine wIs fun K O=>?_|refine wOs fun K O=>?_|refine wQs fun K O=>?_|refine zW ?_|refine zX ?_|refine zY ?_|refine zL ?_);simp[g3,b3,g2,b2,g4,b4,g5,b5,g9,g10,g11,hlt,hw,he,o])|(refine wIn ?_;refine And.intro (by kernel_rfl) ?_;try simp only[zZ])|refine zR ?_|refine zT ?_|((first|refine zI ?_|refine zO ?_|refine zP ?_);try simp)|((first|refine zS ?_|refine wOn ?_|refine wQn ?_);try simp only[zZ])|refine zU.p cc rfl ?_|refine zU.l cc rfl ?_|refine zQ.pure cc rfl ?_|refine zQ.lent cc rfl ?_|refine zU.o cc ?_|refine zV.p cc rfl ?_|refine zV.l cc rfl ?_|refine zV.o cc ?_
   refine hL _ (N-1) (by omega) ⟨k+1,by omega,?_⟩
   rw[hsn]
   simp[g3,b3,g2,b2,g4,b4,g5,b5,g9,g10,g11,hw]
 ·rw[List.take_of_length_le (by omega)] at b5
  generalize upTo z.e z.n h.lg=L at *
  have e2:(xL st [.frz 5]).s 2=.ptr 2 0:=by simp[g2,b5]
  have d2:(xL st [.frz 5]).b 2=some (.box 33 [.p (.sl 5 (zns h.im.ns)),.p (.sl 1 (ints h.im.ss)),.p (I h.im.nx),.p (I h.im.c.ep),.p (I h.im.c.n),.p (I h.im.c.kind),.p (.sl 4 (mbs h.im.c.ms)),.p (I h.im.ae),.p (I h.im.an),.p (.sl 8 (xH h.lg))]):=by simp[b2,b5]
  have e4:(xL st [.frz 5]).s 4=.ptr 4 0:=by simp[g4,b5]
  have d4:(xL st [.frz 5]).b 4=some (.box 30 [.nil 5,.nil 1,.p (I 0),.p (I 0),.p (I 0),.p (I 0),.nil 4,.p (I 0),.p (I 0)]):=by simp[b4,b5]
  have e5:(xL st [.frz 5]).s 5=.p (.sl 8 (xH L)):=by simp[g5,b5]
  have e10:(xL st [.frz 5]).s 10=.p (I h.lg.length):=by simp[g10,b5]
  have e11:(xL st [.frz 5]).s 11=.p (I k):=by simp[g11,b5]
  repeat' first|(refine wFrz (st:=st) [.frz 5] ?_;generalize xL st [.frz 5] = st2 at e2 d2 e4 d4 e5 e10 e11 ⊢)|refine zU.p c1 rfl ?_|refine zU.l c1 rfl ?_|refine zQ.pure c1 rfl ?_|refine zQ.lent c1 rfl ?_|refine zU.o c1 ?_|refine zV.p c1 rfl ?_|refine zV.l c1 rfl ?_|refine zV.o c1 ?_|((first|refine O _ ?_|refine O _ _ ?_|(clear O;refine O _ ?_));clear O)|(refine zJ fun K O=>?_)|((first|refine zH ?_|refine zN rfl (by kernel_rfl) ?_|refine zM ?_|refine zK (by kernel_rfl) ?_);simp only[vS,vR,strip])|((first|refine wIs fun K O=>?_|refine wOs fun K O=>?_|refine wQs fun K O=>?_|refine zW ?_|refine zX ?_|refine zY ?_|refine zL ?_);simp[e2,d2,e4,d4,e5,e10,e11,hlt])|(refine wIn ?_;refine And.intro (by kernel_rfl) ?_;try simp only[zZ])|refine zR ?_|refine zT ?_|((first|refine zI ?_|refine zO ?_|refine zP ?_);try simp)|((first|refine zS ?_|refine wOn ?_|refine wQn ?_);try simp only[zZ])
  all_goals apply hr
  all_goals simp[Tryz.f28,e2,d2,e4,d4]
theorem lastH_nil {h:Hy}(h0:h.lg.length=0):yT h=⟨h.im.ae,h.im.an⟩:=by
 unfold yT
 rw[List.length_eq_zero_iff.1 h0];rfl
theorem lastH_at {h:Hy}(hlt:h.lg.length-1<h.lg.length):yT h=⟨h.lg[h.lg.length-1].e,h.lg[h.lg.length-1].n⟩:=by
 unfold yT
 rw[List.getLast?_eq_getElem?,List.getElem?_eq_getElem hlt]
theorem lastH_con (h:Hy)(hl:h.lg.length<=1000):zE Tryz.prog 25 [.p (.agg h.cells)] (.p (.agg [I (yT h).e,I (yT h).n])):=by
 have cb:=base_con h
 by_cases h0:h.lg.length=0
 ·have h0':(h.lg.length:Int)=0:=by omega
  rw[lastH_nil h0]
  unfold Hy.cells at *
  refine zG Tryz.tab Tryz.mixed Tryz.func25 rfl rfl Tryz.ntmps25 (by simp) (by simp) fun Q hr hn=>?_
  repeat' first|refine zU.p cb rfl ?_|refine zU.l cb rfl ?_|refine zQ.pure cb rfl ?_|refine zQ.lent cb rfl ?_|refine zU.o cb ?_|refine zV.p cb rfl ?_|refine zV.l cb rfl ?_|refine zV.o cb ?_|((first|refine O _ ?_|refine O _ _ ?_|(clear O;refine O _ ?_));clear O)|(refine zJ fun K O=>?_)|((first|refine zH ?_|refine zN rfl (by kernel_rfl) ?_|refine zM ?_|refine zK (by kernel_rfl) ?_);simp only[vS,vR,strip])|((first|refine wIs fun K O=>?_|refine wOs fun K O=>?_|refine wQs fun K O=>?_|refine zW ?_|refine zX ?_|refine zY ?_|refine zL ?_);simp[h0,h0'])|(refine wIn ?_;refine And.intro (by kernel_rfl) ?_;try simp only[zZ])|refine zR ?_|refine zT ?_|((first|refine zI ?_|refine zO ?_|refine zP ?_);try simp)|((first|refine zS ?_|refine wOn ?_|refine wQn ?_);try simp only[zZ])
  all_goals apply hr
  all_goals simp[Tryz.f25]
 ·have h0':¬ (h.lg.length:Int)=0:=by omega
  have hlt:h.lg.length-1<h.lg.length:=by omega
  rw[lastH_at hlt]
  have hw:IntKind.i64.wrap ((h.lg.length:Int)-1)=((h.lg.length-1:Nat):Int):=by rw[zF] <;> omega
  have he:=wN hlt
  generalize h.lg.length-1=j at *
  unfold Hy.cells at *
  refine zG Tryz.tab Tryz.mixed Tryz.func25 rfl rfl Tryz.ntmps25 (by simp) (by simp) fun Q hr hn=>?_
  repeat' first|refine zU.p cb rfl ?_|refine zU.l cb rfl ?_|refine zQ.pure cb rfl ?_|refine zQ.lent cb rfl ?_|refine zU.o cb ?_|refine zV.p cb rfl ?_|refine zV.l cb rfl ?_|refine zV.o cb ?_|((first|refine O _ ?_|refine O _ _ ?_|(clear O;refine O _ ?_));clear O)|(refine zJ fun K O=>?_)|((first|refine zH ?_|refine zN rfl (by kernel_rfl) ?_|refine zM ?_|refine zK (by kernel_rfl) ?_);simp only[vS,vR,strip])|((first|refine wIs fun K O=>?_|refine wOs fun K O=>?_|refine wQs fun K O=>?_|refine zW ?_|refine zX ?_|refine zY ?_|refine zL ?_);simp[h0,h0',hw,hlt,he])|(refine wIn ?_;refine And.intro (by kernel_rfl) ?_;try simp only[zZ])|refine zR ?_|refine zT ?_|((first|refine zI ?_|refine zO ?_|refine zP ?_);try simp)|((first|refine zS ?_|refine wOn ?_|refine wQn ?_);try simp only[zZ])
  all_goals apply hr
  all_goals simp[Tryz.f25]
end Go.Proofs.YtpihbhacmokekaaGreatDoor
namespace Go.Proofs.YtpihbhacmokekaaGreatDoor
set_option linter.unusedSimpArgs false
set_option linter.unusedVariables false
set_option maxRecDepth 8000
open Go Go.Av
attribute [local irreducible] Go.Av.yJ Go.Av.zU Go.Av.yC Go.Av.zQ Go.Av.yG Go.Av.zV Go.Av.Con
def askE (s:Sv)(r:Rp)(e n:Int):Int:=if r.s∈s.ss then (if r.we=s.c.ep/\r.wn=s.c.n then appE s.c r.d e n else 10) else 13
theorem mk4_eq (s:Sv)(r:Rp)(e n:Int):mk4 s r e n=if askE s r e n=0 then ⟨e,n,r.s,r.x,0,0,[],[cfgPt (appC s.c r.d e n)]⟩ else ⟨e,n,r.s,r.x,askE s r e n,0,[],[]⟩:=by
 unfold mk4 askE cfgT
 by_cases h1:r.s∈s.ss
 ·rw[if_pos h1,if_pos h1]
  by_cases h2:r.we=s.c.ep/\r.wn=s.c.n
  ·rw[if_pos h2,if_pos h2]
  ·rw[if_neg h2,if_neg h2,if_neg (by decide:¬ (10:Int)=0)]
 ·rw[if_neg h1,if_neg h1,if_neg (by decide:¬ (13:Int)=0)]
def stL (h:Hy):Sv:=stAt h (yT h).e (yT h).n
def nxL (h:Hy):Int × Int:=nextN (yT h).e (yT h).n
def askC (h:Hy)(de dn self:Int)(l:List Lr)(r:Rp):Cf × Int :=
 if 1<(xG h de dn).length then (cf0,14)
 else if nextE (yT h).e (yT h).n=0 then
  (if askE (stL h) r (nxL h).1 (nxL h).2=0 then
   (if isQ (appC (stL h).c r.d (nxL h).1 (nxL h).2) (setS self 4 de dn l)=true then (appC (stL h).c r.d (nxL h).1 (nxL h).2,0) else (cf0,15))
  else (cf0,askE (stL h) r (nxL h).1 (nxL h).2))
 else (cf0,nextE (yT h).e (yT h).n)
theorem cfs_lenA (l:List Cf):(cfs l).length=l.length:=by simp[cfs]
set_option maxHeartbeats 8000000 in
theorem ask_con (h:Hy)(de dn self:Int)(l:List Lr)(r:Rp)(hk:OkH h)(hl:l.length<=100000)(hf:Fits h.im (psum (upTo (yT h).e (yT h).n h.lg)))(hokt:∀t∈h.lg,okT t)
 (hc:(stL h).c.ms.length<=100000)(hp:r.d.put.length<=100000)(hd:r.d.drop.length<=100000) :
 zE Tryz.prog 8 [.p (.agg h.cells),.p (.agg [I de,I dn]),.p (I self),.p (.sl 8 (lrs l)),.p (.agg r.cells)] (.tup [.p (.agg (askC h de dn self l r).1.cells),.p (I (askC h de dn self l r).2)]):=by
 have c1:=needs_con h de dn hk
 have c2:=lastH_con h hk.lg
 have c3:=next_con (yT h).e (yT h).n
 have c4:=stateAt_con h (yT h) hf hokt hk.lg
 have c5:=make4_con (stL h) { r with k:=4 } (nxL h).1 (nxL h).2 rfl hc hp hd
 have c6:=set_con self 4 de dn l hl
 have hal:(appC (stL h).c r.d (nxL h).1 (nxL h).2).ms.length<=1000000:=by
  unfold appC
  split
  ·have:=keepM_len (stL h).c r.d
   simp only[chg,stS_len,List.length_append];omega
  ·omega
 have c7:=ownCfD_con (appC (stL h).c r.d (nxL h).1 (nxL h).2) hal
 have c8:=is_con (appC (stL h).c r.d (nxL h).1 (nxL h).2) (setS self 4 de dn l) hal
 have hcl:=cfs_lenA (xG h de dn)
 unfold askC
 rw[mk4_eq] at c5
 change zE _ _ _ (.p (.agg (stL h).cells)) at c4
 change zE _ _ _ (.tup [.p (.agg [I (nxL h).1,I (nxL h).2]),.p (I (nextE (yT h).e (yT h).n))]) at c3
 have eA:askE (stL h) { r with k:=4 } (nxL h).1 (nxL h).2=askE (stL h) r (nxL h).1 (nxL h).2:=rfl
 rw[eA] at c5
 dsimp only at c5
 clear hf hokt hc hp hd hk hl hal eA
 generalize stL h=S at *
 generalize nxL h=z at *
 generalize yT h=la at *
 generalize nextE la.e la.n=ne at *
 generalize askE S r z.1 z.2=ae at *
 generalize appC S.c r.d z.1 z.2=C at *
 generalize setS self 4 de dn l=set at *
 generalize cfs (xG h de dn)=CF at *
 generalize (xG h de dn).length=nl at *
 obtain⟨rk,rs,rx,ops,⟨dk,put,drop⟩,we,wn⟩:=r
 obtain⟨cep,cn,ck,cms⟩:=C
 dsimp only at *
 by_cases h1:1<nl
 ·rw[if_pos h1]
  have h1':(1:Int)<nl:=by omega
  unfold Hy.cells Rp.cells cf0 Cf.cells at *
  dsimp only at *
  refine zG Tryz.tab Tryz.mixed Tryz.func8 rfl rfl Tryz.ntmps8 (by simp) (by simp) fun Q hr hn=>?_
  repeat' first|((first|refine O _ ?_|refine O _ _ ?_|(clear O;refine O _ ?_));clear O)|(refine zJ fun K O=>?_)|((first|refine zH ?_|refine zN rfl (by kernel_rfl) ?_|refine zM ?_|refine zK (by kernel_rfl) ?_);simp only[vS,vR,strip])|((first|refine wIs fun K O=>?_|refine wOs fun K O=>?_|refine wQs fun K O=>?_|refine zW ?_|refine zX ?_|refine zY ?_|refine zL ?_);simp[h1,h1',hcl])|(refine wIn ?_;refine And.intro (by kernel_rfl) ?_;try simp only[zZ])|refine zR ?_|refine zT ?_|((first|refine zI ?_|refine zO ?_|refine zP ?_);try simp)|((first|refine zS ?_|refine wOn ?_|refine wQn ?_);try simp only[zZ])|refine zU.p c1 rfl ?_|refine zU.l c1 rfl ?_|refine zQ.pure c1 rfl ?_|refine zQ.lent c1 rfl ?_|refine zU.o c1 ?_|refine zV.p c1 rfl ?_|refine zV.l c1 rfl ?_|refine zV.o c1 ?_
  all_goals apply hr
  all_goals simp[Tryz.f8,mbs]
 rw[if_neg h1]
 have h1':¬ (1:Int)<nl:=by omega
 by_cases h2:ne=0
 case neg =>
  rw[if_neg h2]
  have h2':(ne=0)=False:=eq_false h2
  unfold Hy.cells Rp.cells cf0 Cf.cells at *
  dsimp only at *
  refine zG Tryz.tab Tryz.mixed Tryz.func8 rfl rfl Tryz.ntmps8 (by simp) (by simp) fun Q hr hn=>?_
  repeat' first|((first|refine O _ ?_|refine O _ _ ?_|(clear O;refine O _ ?_));clear O)|(refine zJ fun K O=>?_)|((first|refine zH ?_|refine zN rfl (by kernel_rfl) ?_|refine zM ?_|refine zK (by kernel_rfl) ?_);simp only[vS,vR,strip])|((first|refine wIs fun K O=>?_|refine wOs fun K O=>?_|refine wQs fun K O=>?_|refine zW ?_|refine zX ?_|refine zY ?_|refine zL ?_);simp[h1,h1',h2',hcl])|(refine wIn ?_;refine And.intro (by kernel_rfl) ?_;try simp only[zZ])|refine zR ?_|refine zT ?_|((first|refine zI ?_|refine zO ?_|refine zP ?_);try simp)|((first|refine zS ?_|refine wOn ?_|refine wQn ?_);try simp only[zZ])|refine zU.p c1 rfl ?_|refine zU.l c1 rfl ?_|refine zQ.pure c1 rfl ?_|refine zQ.lent c1 rfl ?_|refine zU.o c1 ?_|refine zV.p c1 rfl ?_|refine zV.l c1 rfl ?_|refine zV.o c1 ?_|refine zU.p c2 rfl ?_|refine zU.l c2 rfl ?_|refine zQ.pure c2 rfl ?_|refine zQ.lent c2 rfl ?_|refine zU.o c2 ?_|refine zV.p c2 rfl ?_|refine zV.l c2 rfl ?_|refine zV.o c2 ?_|refine zU.p c3 rfl ?_|refine zU.l c3 rfl ?_|refine zQ.pure c3 rfl ?_|refine zQ.lent c3 rfl ?_|refine zU.o c3 ?_|refine zV.p c3 rfl ?_|refine zV.l c3 rfl ?_|refine zV.o c3 ?_
  all_goals apply hr
  all_goals simp[Tryz.f8,mbs]
 subst h2
 rw[if_pos rfl]
 by_cases h3:ae=0
 case neg =>
  rw[if_neg h3]
  rw[if_neg h3] at c5
  have h3':(ae=0)=False:=eq_false h3
  clear c6 c7 c8
  unfold Hy.cells Rp.cells cf0 Cf.cells Sv.cells Tx.cells at *
  dsimp only at *
  refine zG Tryz.tab Tryz.mixed Tryz.func8 rfl rfl Tryz.ntmps8 (by simp) (by simp) fun Q hr hn=>?_
  repeat' first|((first|refine O _ ?_|refine O _ _ ?_|(clear O;refine O _ ?_));clear O)|(refine zJ fun K O=>?_)|((first|refine zH ?_|refine zN rfl (by kernel_rfl) ?_|refine zM ?_|refine zK (by kernel_rfl) ?_);simp only[vS,vR,strip])|((first|refine wIs fun K O=>?_|refine wOs fun K O=>?_|refine wQs fun K O=>?_|refine zW ?_|refine zX ?_|refine zY ?_|refine zL ?_);simp[h1,h1',h3',hcl])|(refine wIn ?_;refine And.intro (by kernel_rfl) ?_;try simp only[zZ])|refine zR ?_|refine zT ?_|((first|refine zI ?_|refine zO ?_|refine zP ?_);try simp)|((first|refine zS ?_|refine wOn ?_|refine wQn ?_);try simp only[zZ])|refine zU.p c1 rfl ?_|refine zU.l c1 rfl ?_|refine zQ.pure c1 rfl ?_|refine zQ.lent c1 rfl ?_|refine zU.o c1 ?_|refine zV.p c1 rfl ?_|refine zV.l c1 rfl ?_|refine zV.o c1 ?_|refine zU.p c2 rfl ?_|refine zU.l c2 rfl ?_|refine zQ.pure c2 rfl ?_|refine zQ.lent c2 rfl ?_|refine zU.o c2 ?_|refine zV.p c2 rfl ?_|refine zV.l c2 rfl ?_|refine zV.o c2 ?_|refine zU.p c3 rfl ?_|refine zU.l c3 rfl ?_|refine zQ.pure c3 rfl ?_|refine zQ.lent c3 rfl ?_|refine zU.o c3 ?_|refine zV.p c3 rfl ?_|refine zV.l c3 rfl ?_|refine zV.o c3 ?_|refine zU.p c4 rfl ?_|refine zU.l c4 rfl ?_|refine zQ.pure c4 rfl ?_|refine zQ.lent c4 rfl ?_|refine zU.o c4 ?_|refine zV.p c4 rfl ?_|refine zV.l c4 rfl ?_|refine zV.o c4 ?_|refine zU.p c5 rfl ?_|refine zU.l c5 rfl ?_|refine zQ.pure c5 rfl ?_|refine zQ.lent c5 rfl ?_|refine zU.o c5 ?_|refine zV.p c5 rfl ?_|refine zV.l c5 rfl ?_|refine zV.o c5 ?_
  all_goals apply hr
  all_goals simp[Tryz.f8,mbs]
 subst h3
 rw[if_pos rfl]
 rw[if_pos rfl] at c5
 generalize isQ ⟨cep,cn,ck,cms⟩ set=q at *
 cases q with
 |true =>
  unfold Hy.cells Rp.cells Cf.cells Sv.cells Tx.cells cfgPt zz pts at *
  simp only[vS,vR] at *
  unfold Pt.cells at *
  dsimp only at *
  refine zG Tryz.tab Tryz.mixed Tryz.func8 rfl rfl Tryz.ntmps8 (by simp) (by simp) fun Q hr hn=>?_
  repeat' first|((first|refine O _ ?_|refine O _ _ ?_|(clear O;refine O _ ?_));clear O)|(refine zJ fun K O=>?_)|((first|refine zH ?_|refine zN rfl (by kernel_rfl) ?_|refine zM ?_|refine zK (by kernel_rfl) ?_);simp only[vS,vR,strip])|((first|refine wIs fun K O=>?_|refine wOs fun K O=>?_|refine wQs fun K O=>?_|refine zW ?_|refine zX ?_|refine zY ?_|refine zL ?_);simp[h1,h1',hcl])|(refine wIn ?_;refine And.intro (by kernel_rfl) ?_;try simp only[zZ])|refine zR ?_|refine zT ?_|((first|refine zI ?_|refine zO ?_|refine zP ?_);try simp)|((first|refine zS ?_|refine wOn ?_|refine wQn ?_);try simp only[zZ])|refine zU.p c1 rfl ?_|refine zU.l c1 rfl ?_|refine zQ.pure c1 rfl ?_|refine zQ.lent c1 rfl ?_|refine zU.o c1 ?_|refine zV.p c1 rfl ?_|refine zV.l c1 rfl ?_|refine zV.o c1 ?_|refine zU.p c2 rfl ?_|refine zU.l c2 rfl ?_|refine zQ.pure c2 rfl ?_|refine zQ.lent c2 rfl ?_|refine zU.o c2 ?_|refine zV.p c2 rfl ?_|refine zV.l c2 rfl ?_|refine zV.o c2 ?_|refine zU.p c3 rfl ?_|refine zU.l c3 rfl ?_|refine zQ.pure c3 rfl ?_|refine zQ.lent c3 rfl ?_|refine zU.o c3 ?_|refine zV.p c3 rfl ?_|refine zV.l c3 rfl ?_|refine zV.o c3 ?_|refine zU.p c4 rfl ?_|refine zU.l c4 rfl ?_|refine zQ.pure c4 rfl ?_|refine zQ.lent c4 rfl ?_|refine zU.o c4 ?_|refine zV.p c4 rfl ?_|refine zV.l c4 rfl ?_|refine zV.o c4 ?_|refine zU.p c5 rfl ?_|refine zU.l c5 rfl ?_|refine zQ.pure c5 rfl ?_|refine zQ.lent c5 rfl ?_|refine zU.o c5 ?_|refine zV.p c5 rfl ?_|refine zV.l c5 rfl ?_|refine zV.o c5 ?_|refine zU.p c6 rfl ?_|refine zU.l c6 rfl ?_|refine zQ.pure c6 rfl ?_|refine zQ.lent c6 rfl ?_|refine zU.o c6 ?_|refine zV.p c6 rfl ?_|refine zV.l c6 rfl ?_|refine zV.o c6 ?_|refine zU.p c7 rfl ?_|refine zU.l c7 rfl ?_|refine zQ.pure c7 rfl ?_|refine zQ.lent c7 rfl ?_|refine zU.o c7 ?_|refine zV.p c7 rfl ?_|refine zV.l c7 rfl ?_|refine zV.o c7 ?_|refine zU.p c8 rfl ?_|refine zU.l c8 rfl ?_|refine zQ.pure c8 rfl ?_|refine zQ.lent c8 rfl ?_|refine zU.o c8 ?_|refine zV.p c8 rfl ?_|refine zV.l c8 rfl ?_|refine zV.o c8 ?_
  all_goals apply hr
  all_goals simp[Tryz.f8,mbs]
 |false =>
  unfold Hy.cells Rp.cells Cf.cells Sv.cells Tx.cells cfgPt zz pts cf0 at *
  simp only[vS,vR] at *
  unfold Pt.cells at *
  dsimp only at *
  refine zG Tryz.tab Tryz.mixed Tryz.func8 rfl rfl Tryz.ntmps8 (by simp) (by simp) fun Q hr hn=>?_
  repeat' first|((first|refine O _ ?_|refine O _ _ ?_|(clear O;refine O _ ?_));clear O)|(refine zJ fun K O=>?_)|((first|refine zH ?_|refine zN rfl (by kernel_rfl) ?_|refine zM ?_|refine zK (by kernel_rfl) ?_);simp only[vS,vR,strip])|((first|refine wIs fun K O=>?_|refine wOs fun K O=>?_|refine wQs fun K O=>?_|refine zW ?_|refine zX ?_|refine zY ?_|refine zL ?_);simp[h1,h1',hcl])|(refine wIn ?_;refine And.intro (by kernel_rfl) ?_;try simp only[zZ])|refine zR ?_|refine zT ?_|((first|refine zI ?_|refine zO ?_|refine zP ?_);try simp)|((first|refine zS ?_|refine wOn ?_|refine wQn ?_);try simp only[zZ])|refine zU.p c1 rfl ?_|refine zU.l c1 rfl ?_|refine zQ.pure c1 rfl ?_|refine zQ.lent c1 rfl ?_|refine zU.o c1 ?_|refine zV.p c1 rfl ?_|refine zV.l c1 rfl ?_|refine zV.o c1 ?_|refine zU.p c2 rfl ?_|refine zU.l c2 rfl ?_|refine zQ.pure c2 rfl ?_|refine zQ.lent c2 rfl ?_|refine zU.o c2 ?_|refine zV.p c2 rfl ?_|refine zV.l c2 rfl ?_|refine zV.o c2 ?_|refine zU.p c3 rfl ?_|refine zU.l c3 rfl ?_|refine zQ.pure c3 rfl ?_|refine zQ.lent c3 rfl ?_|refine zU.o c3 ?_|refine zV.p c3 rfl ?_|refine zV.l c3 rfl ?_|refine zV.o c3 ?_|refine zU.p c4 rfl ?_|refine zU.l c4 rfl ?_|refine zQ.pure c4 rfl ?_|refine zQ.lent c4 rfl ?_|refine zU.o c4 ?_|refine zV.p c4 rfl ?_|refine zV.l c4 rfl ?_|refine zV.o c4 ?_|refine zU.p c5 rfl ?_|refine zU.l c5 rfl ?_|refine zQ.pure c5 rfl ?_|refine zQ.lent c5 rfl ?_|refine zU.o c5 ?_|refine zV.p c5 rfl ?_|refine zV.l c5 rfl ?_|refine zV.o c5 ?_|refine zU.p c6 rfl ?_|refine zU.l c6 rfl ?_|refine zQ.pure c6 rfl ?_|refine zQ.lent c6 rfl ?_|refine zU.o c6 ?_|refine zV.p c6 rfl ?_|refine zV.l c6 rfl ?_|refine zV.o c6 ?_|refine zU.p c7 rfl ?_|refine zU.l c7 rfl ?_|refine zQ.pure c7 rfl ?_|refine zQ.lent c7 rfl ?_|refine zU.o c7 ?_|refine zV.p c7 rfl ?_|refine zV.l c7 rfl ?_|refine zV.o c7 ?_|refine zU.p c8 rfl ?_|refine zU.l c8 rfl ?_|refine zQ.pure c8 rfl ?_|refine zQ.lent c8 rfl ?_|refine zU.o c8 ?_|refine zV.p c8 rfl ?_|refine zV.l c8 rfl ?_|refine zV.o c8 ?_
  all_goals apply hr
  all_goals simp[Tryz.f8,mbs]
end Go.Proofs.YtpihbhacmokekaaGreatDoor
namespace Go.Proofs.YtpihbhacmokekaaGreatDoor
set_option linter.unusedSimpArgs false
set_option linter.unusedVariables false
open Go Go.Av
attribute [local irreducible] Go.Av.yJ Go.Av.zU Go.Av.yC Go.Av.zQ Go.Av.yG Go.Av.zV Go.Av.Con
theorem mbs_setS (l:List Mb)(k:Nat)(x:Mb):(mbs l).set k [I x.i,I x.r,I x.w,I x.g]=mbs (l.set k x):=by simp[mbs,Mb.cells,List.map_set]
theorem set_midS (A B:List Mb)(x y:Mb)(j:Nat)(h:j=A.length):(A++x::B).set j y=A++y::B:=by
 subst h
 rw[List.set_append_right _ _ (Nat.le_refl _)];simp
theorem get_midS (A B:List Mb)(x:Mb)(j:Nat)(h:j<A.length)(h':j<(A++x::B).length):(A++x::B)[j]=A[j]:=List.getElem_append_left h
theorem takeS_prev (S:List Mb)(j:Nat)(h0:0<j)(h:j<=S.length):S.take j=S.take (j-1)++[S[j-1]]:=by
 have e:j=(j-1)+1:=by omega
 conv=>lhs;rw[e]
 rw[List.take_succ_eq_append_getElem (by omega)]
theorem dropS_prev (S:List Mb)(j:Nat)(h0:0<j)(h:j<=S.length):S.drop (j-1)=S[j-1]::S.drop j:=by
 rw[List.drop_eq_getElem_cons (by omega)]
 congr 2;omega
theorem headS {S:List Mb}(hS:Ord S)(m:Mb)(j:Nat)(hj:j<=S.length)(h:j=0\/∃h0:0<j,¬ m.i<(S[j-1]'(by omega)).i):∀y∈S.take j,¬ m.i<y.i:=by
 rcases h with rfl|⟨h0,h⟩
 ·intro y hy;simp at hy
 ·intro y hy
  obtain⟨i,hi,rfl⟩:=List.mem_iff_getElem.1 hy
  rw[List.length_take] at hi
  rw[List.getElem_take]
  by_cases e:i=j-1
  ·subst e;exact h
  ·have:=List.pairwise_iff_getElem.1 hS i (j-1) (by omega) (by omega) (by omega)
   omega
set_option maxHeartbeats 4000000 in
theorem sort04R_con (l:List Mb)(hl:l.length<=1000000):RCon 41 [.p (.sl 4 (mbs l))] 71 4 (mbs (xX l)):=by
 refine wBodyR Tryz.tab Tryz.mixed Tryz.func41 rfl rfl Tryz.ntmps41 rfl (by simp) (by simp) fun Q hr hn=>?_
 repeat' first|((first|refine O _ ?_|refine O _ _ ?_|(clear O;refine O _ ?_));clear O)|(refine zJ fun K O=>?_)|((first|refine zH ?_|refine zN rfl (by kernel_rfl) ?_|refine zM ?_|refine zK (by kernel_rfl) ?_);simp only[vS,vR,strip])|((first|refine wIs fun K O=>?_|refine wOs fun K O=>?_|refine wQs fun K O=>?_|refine zW ?_|refine zX ?_|refine zY ?_|refine zL ?_);simp)|(refine wIn ?_;refine And.intro (by kernel_rfl) ?_;try simp only[zZ])|refine zR ?_|refine zT ?_|((first|refine zI ?_|refine zO ?_|refine zP ?_);try simp)|((first|refine zS ?_|refine wOn ?_|refine wQn ?_);try simp only[zZ])
 refine wLoopG [.row 3 71 4] (fun N st=>∃k,k+N=l.length/\st.s 3=.row 3/\st.s 7=.p (.sl 4 (mbs l))/\st.s 8=.p (I l.length)/\st.s 9=.p (I k)/\st.b 3=some (.row 71 4 (mbs (xX (l.take k))))) l.length ⟨0,by simp[xX,mbs]⟩ fun K N st hL ⟨k,hk,h3,h7,h8,h9,b3⟩=>?_
 by_cases hlt:k<l.length
 ·have hw:=yU k _ hlt (by omega)
  have he:=mbs_get hlt
  have hsn:xX (l.take (k+1))=insM l[k] (xX (l.take k)):=by rw[List.take_succ_eq_append_getElem hlt,srtM_snoc]
  have hSo:=(srtM_spec (l.take k)).2.1
  have hSl:(xX (l.take k)).length=k:=by rw[wK,List.length_take];omega
  generalize xX (l.take k)=S at *
  generalize hT:xX (l.take (k+1))=T at *
  generalize hF:l[k]=m at *
  have ha:mbs S++[[I m.i,I m.r,I m.w,I m.g]]=mbs (S++[m]):=by simp[mbs,Mb.cells]
  have hml:(mbs S).length=k:=by simpa using hSl
  repeat' first|(refine And.intro (by (try simp only[hml]);omega) ?_)|((first|refine O _ ?_|refine O _ _ ?_|(clear O;refine O _ ?_));clear O)|(refine zJ fun K O=>?_)|((first|refine zH ?_|refine zN rfl (by kernel_rfl) ?_|refine zM ?_|refine zK (by kernel_rfl) ?_);simp only[vS,vR,strip])|((first|refine wIs fun K O=>?_|refine wOs fun K O=>?_|refine wQs fun K O=>?_|refine zW ?_|refine zX ?_|refine zY ?_|refine zL ?_);simp[h3,h7,h8,h9,b3,hlt,hw,he,hF,ha,hml])|(refine wIn ?_;refine And.intro (by kernel_rfl) ?_;try simp only[zZ])|refine zR ?_|refine zT ?_|((first|refine zI ?_|refine zO ?_|refine zP ?_);try simp)|((first|refine zS ?_|refine wOn ?_|refine wQn ?_);try simp only[zZ])
  refine zC (fun N st=>∃ (j:Nat)(x:Mb),j=N/\j<=k/\(∀y∈S.drop j,m.i<y.i)/\st.s 3=.row 3/\st.s 5=.ptr 5 0/\st.b 5=some (.box 71 [.p (I m.i),.p (I m.r),.p (I m.w),.p (I m.g)])/\st.s 6=.p (I j)/\st.s 7=.p (.sl 4 (mbs l))/\st.s 8=.p (I l.length)/\st.s 9=.p (I k)/\st.b 3=some (.row 71 4 (mbs (S.take j++x::S.drop j)))) k ⟨k,m,rfl,Nat.le_refl _,?_⟩ fun K' N' st hL2 ⟨j,x,hj,hjk,hd,h3,h5,b5,h6,h7,h8,h9,b3⟩=>?_
  ·rw[List.take_of_length_le (by omega),List.drop_of_length_le (by omega)]
   simp[h3,h7,h8,h9,b3,hF,ha]
  have hXl:(S.take j++x::S.drop j).length=k+1:=by simp;omega
  by_cases hj0:0<j
  ·have hj0':(0:Int)<j:=by omega
   have hwj:IntKind.i64.wrap ((j:Int)-1)=((j-1:Nat):Int):=by rw[zF] <;> omega
   have hjl:j-1<(S.take j++x::S.drop j).length:=by omega
   have hY:∀h',(S.take j++x::S.drop j)[j-1]'h'=S[j-1]:=fun h'=>by rw[get_midS _ _ _ _ (by rw[List.length_take];omega),List.getElem_take]
   have hj1:j-1<k+1:=by omega
   by_cases hc:m.i<S[j-1].i
   ·have hset:(mbs (S.take j++x::S.drop j)).set j [I S[j-1].i,I S[j-1].r,I S[j-1].w,I S[j-1].g]=mbs (S.take (j-1)++S[j-1]::S.drop (j-1)):=by
     rw[mbs_setS,set_midS _ _ _ _ _ (by rw[List.length_take];omega),dropS_prev S j hj0 (by omega),takeS_prev S j hj0 (by omega),List.append_assoc];rfl
    have hd2:∀y∈S.drop (j-1),m.i<y.i:=by
     rw[dropS_prev S j hj0 (by omega)]
     intro y hy
     rcases List.mem_cons.1 hy with rfl|hy
     ·exact hc
     ·exact hd y hy
    have hjk1:j<k+1:=by omega
    generalize S[j-1]=p at *
    generalize S.take j++x::S.drop j=Y at *
    repeat' first|((first|refine O _ ?_|refine O _ _ ?_|(clear O;refine O _ ?_));clear O)|(refine zJ fun K O=>?_)|((first|refine zH ?_|refine zN rfl (by kernel_rfl) ?_|refine zM ?_|refine zK (by kernel_rfl) ?_);simp only[vS,vR,strip])|((first|refine wIs fun K O=>?_|refine wOs fun K O=>?_|refine wQs fun K O=>?_|refine zW ?_|refine zX ?_|refine zY ?_|refine zL ?_);simp[h3,h5,b5,h6,h7,h8,h9,b3,hj0,hj0',hwj,hY,hXl,hj1,hjk1,hc,hset])|(refine wIn ?_;refine And.intro (by kernel_rfl) ?_;try simp only[zZ])|refine zR ?_|refine zT ?_|((first|refine zI ?_|refine zO ?_|refine zP ?_);try simp)|((first|refine zS ?_|refine wOn ?_|refine wQn ?_);try simp only[zZ])
    refine hL2 _ (N'-1) (by omega) ⟨j-1,p,by omega,by omega,hd2,?_⟩
    simp[h3,h5,b5,h6,h7,h8,h9,b3,hwj,hset]
   ·have hset:(mbs (S.take j++x::S.drop j)).set j [I m.i,I m.r,I m.w,I m.g]=mbs T:=by
     rw[mbs_setS,set_midS _ _ _ _ _ (by rw[List.length_take];omega),hsn]
     conv=>rhs;rw[<- List.take_append_drop j S]
     rw[insM_split m _ hd _ (headS hSo m j (by omega) (.inr ⟨hj0,hc⟩))]
    have hjk1:j<k+1:=by omega
    generalize S[j-1]=p at *
    generalize S.take j++x::S.drop j=Y at *
    repeat' first|((first|refine O _ ?_|refine O _ _ ?_|(clear O;refine O _ ?_));clear O)|(refine zJ fun K O=>?_)|((first|refine zH ?_|refine zN rfl (by kernel_rfl) ?_|refine zM ?_|refine zK (by kernel_rfl) ?_);simp only[vS,vR,strip])|((first|refine wIs fun K O=>?_|refine wOs fun K O=>?_|refine wQs fun K O=>?_|refine zW ?_|refine zX ?_|refine zY ?_|refine zL ?_);simp[h3,h5,b5,h6,h7,h8,h9,b3,hj0,hj0',hwj,hY,hXl,hj1,hjk1,hc,hset,hw])|(refine wIn ?_;refine And.intro (by kernel_rfl) ?_;try simp only[zZ])|refine zR ?_|refine zT ?_|((first|refine zI ?_|refine zO ?_|refine zP ?_);try simp)|((first|refine zS ?_|refine wOn ?_|refine wQn ?_);try simp only[zZ])
    refine hL _ (N-1) (by omega) ⟨k+1,by omega,?_⟩
    simp[h3,h5,b5,h6,h7,h8,h9,b3,hset,hw,hT]
  ·obtain rfl:j=0:=by omega
   have hset:(mbs (S.take 0++x::S.drop 0)).set 0 [I m.i,I m.r,I m.w,I m.g]=mbs T:=by
    rw[mbs_setS,set_midS _ _ _ _ _ (by simp),hsn]
    conv=>rhs;rw[<- List.take_append_drop 0 S]
    rw[insM_split m _ hd _ (headS hSo m 0 (by omega) (.inl rfl))]
   have hjk1:0<k+1:=by omega
   generalize S.take 0++x::S.drop 0=Y at *
   repeat' first|((first|refine O _ ?_|refine O _ _ ?_|(clear O;refine O _ ?_));clear O)|(refine zJ fun K O=>?_)|((first|refine zH ?_|refine zN rfl (by kernel_rfl) ?_|refine zM ?_|refine zK (by kernel_rfl) ?_);simp only[vS,vR,strip])|((first|refine wIs fun K O=>?_|refine wOs fun K O=>?_|refine wQs fun K O=>?_|refine zW ?_|refine zX ?_|refine zY ?_|refine zL ?_);simp[h3,h5,b5,h6,h7,h8,h9,b3,hXl,hjk1,hset,hw])|(refine wIn ?_;refine And.intro (by kernel_rfl) ?_;try simp only[zZ])|refine zR ?_|refine zT ?_|((first|refine zI ?_|refine zO ?_|refine zP ?_);try simp)|((first|refine zS ?_|refine wOn ?_|refine wQn ?_);try simp only[zZ])
   refine hL _ (N-1) (by omega) ⟨k+1,by omega,?_⟩
   simp[h3,h5,b5,h6,h7,h8,h9,b3,hset,hw,hT]
 ·rw[List.take_of_length_le (by omega)] at b3
  generalize xX l=S at *
  repeat' first|((first|refine O _ ?_|refine O _ _ ?_|(clear O;refine O _ ?_));clear O)|(refine zJ fun K O=>?_)|((first|refine zH ?_|refine zN rfl (by kernel_rfl) ?_|refine zM ?_|refine zK (by kernel_rfl) ?_);simp only[vS,vR,strip])|((first|refine wIs fun K O=>?_|refine wOs fun K O=>?_|refine wQs fun K O=>?_|refine zW ?_|refine zX ?_|refine zY ?_|refine zL ?_);simp[h3,h7,h8,h9,b3,hlt])|(refine wIn ?_;refine And.intro (by kernel_rfl) ?_;try simp only[zZ])|refine zR ?_|refine zT ?_|((first|refine zI ?_|refine zO ?_|refine zP ?_);try simp)|((first|refine zS ?_|refine wOn ?_|refine wQn ?_);try simp only[zZ])
  all_goals refine hr _ 3 (by simp[h3]) (by simp[b3]) (by omega)
end Go.Proofs.YtpihbhacmokekaaGreatDoor
namespace Go.Proofs.YtpihbhacmokekaaGreatDoor
set_option linter.unusedSimpArgs false
set_option linter.unusedVariables false
open Go Go.Av
theorem swp_get {L:List Mb}{i j:Nat}(hi:i<L.length)(hj:j<L.length)(k:Nat):(swp L i j)[k]?=if k=j then L[i]? else if k=i then L[j]? else L[k]?:=by
 unfold swp
 rw[getD_at hi,getD_at hj]
 rw[List.getElem?_set,List.getElem?_set]
 by_cases h1:k=j
 ·subst h1
  rw[if_pos rfl,if_pos (by simpa using hj),if_pos rfl,List.getElem?_eq_getElem hi]
 ·rw[if_neg (fun h=>h1 h.symm),if_neg h1]
  by_cases h2:k=i
  ·subst h2
   rw[if_pos rfl,if_pos hi,if_pos rfl,List.getElem?_eq_getElem hj]
  ·rw[if_neg (fun h=>h2 h.symm),if_neg h2]
theorem swR_get {L:List Mb}{a b:Nat}:∀ (n:Nat),a+n<=b->b+n<=L.length->∀k,(swR L a b n)[k]?=if a<=k/\k<a+n then L[b+(k-a)]? else if b<=k/\k<b+n then L[a+(k-b)]? else L[k]?
 |0,_,_,k=>by
  rw[swR,if_neg (by omega),if_neg (by omega)]
 |n+1,h1,h2,k=>by
  have ih:=swR_get (L:=L) (a:=a) (b:=b) n (by omega) (by omega)
  rw[swR,swp_get (by rw[swR_len];omega) (by rw[swR_len];omega),ih,ih,ih]
  by_cases k1:k=b+n
  ·subst k1
   rw[if_pos rfl,if_neg (by omega),if_neg (by omega),if_neg (by omega),if_pos (by omega)]
   congr 1;omega
  rw[if_neg k1]
  by_cases k2:k=a+n
  ·subst k2
   rw[if_pos rfl,if_neg (by omega),if_neg (by omega),if_pos (by omega)]
   congr 1;omega
  rw[if_neg k2]
  by_cases k3:a<=k/\k<a+n
  ·have e3:a<=k/\k<a+(n+1):=by omega
   rw[if_pos k3,if_pos e3]
  have e3:¬ (a<=k/\k<a+(n+1)):=by omega
  rw[if_neg k3,if_neg e3]
  by_cases k4:b<=k/\k<b+n
  ·have e4:b<=k/\k<b+(n+1):=by omega
   rw[if_pos k4,if_pos e4]
  ·have e4:¬ (b<=k/\k<b+(n+1)):=by omega
   rw[if_neg k4,if_neg e4]
theorem swR_app (X A M B Y:List Mb)(h:A.length=B.length)(a b n:Nat)(ha:a=X.length)(hn:n=A.length)(hb:b=X.length+A.length+M.length) :
 swR (X++(A++(M++(B++Y)))) a b n=X++(B++(M++(A++Y))):=by
 apply List.ext_getElem?
 intro k
 rw[swR_get n (by omega) (by simp only[List.length_append];omega)]
 simp only[List.getElem?_append]
 repeat' split
 all_goals first|rfl|(exfalso;omega)|(congr 1;omega)
theorem rotM_app (m:Nat):∀ (f:Nat)(X A B Y:List Mb)(i j:Nat),i+j<=f->0<i->0<j->i=A.length->j=B.length->m=X.length+A.length->rotM m f (X++(A++(B++Y))) i j=X++(B++(A++Y))
 |0,_,_,_,_,_,_,h,_,_,_,_,_=>by omega
 |f+1,X,A,B,Y,i,j,h,hi,hj,hA,hB,hm=>by
  rw[rotM]
  by_cases h1:i=j
  ·rw[if_pos h1]
   have:=swR_app X A [] B Y (by omega) (m-i) m i (by omega) (by omega) (by simp;omega)
   simpa using this
  rw[if_neg h1]
  by_cases h2:j<i
  ·rw[if_pos h2]
   obtain⟨A1,A2,rfl,hl⟩:∃A1 A2,A=A1++A2/\A1.length=j:=⟨A.take j,A.drop j,(List.take_append_drop j A).symm,by rw[List.length_take];omega⟩
   rw[List.length_append] at hA hm
   have e:=swR_app X A1 A2 B Y (by omega) (m-i) m j (by omega) (by omega) (by omega)
   have e0:X++(A1++A2++(B++Y))=X++(A1++(A2++(B++Y))):=by simp only[List.append_assoc]
   rw[e0,e]
   have e1:X++(B++(A2++(A1++Y)))=(X++B)++(A2++(A1++Y)):=by simp only[List.append_assoc]
   rw[e1,rotM_app m f (X++B) A2 A1 Y (i-j) j (by omega) (by omega) hj (by omega) (by omega) (by rw[List.length_append];omega)]
   simp only[List.append_assoc]
  ·rw[if_neg h2]
   obtain⟨B1,B2,rfl,hl⟩:∃B1 B2,B=B1++B2/\B1.length=j-i:=⟨B.take (j-i),B.drop (j-i),(List.take_append_drop _ B).symm,by rw[List.length_take];omega⟩
   rw[List.length_append] at hB
   have e:=swR_app X A B1 B2 Y (by omega) (m-i) (m+j-i) i (by omega) (by omega) (by omega)
   have e0:X++(A++(B1++B2++Y))=X++(A++(B1++(B2++Y))):=by simp only[List.append_assoc]
   rw[e0,e,rotM_app m f X B2 B1 (A++Y) i (j-i) (by omega) hi (by omega) (by omega) (by omega) (by omega)]
   simp only[List.append_assoc]
end Go.Proofs.YtpihbhacmokekaaGreatDoor
