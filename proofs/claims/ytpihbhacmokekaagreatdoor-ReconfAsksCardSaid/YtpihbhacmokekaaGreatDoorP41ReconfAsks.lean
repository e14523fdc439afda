/- Texts that the proof needs: RS3 KL. -/
import Derived.Test.YtpihbhacmokekaaGreatDoorP40ReconfAsks
import Derived.Test.YtpihbhacmokekaaGreatDoorP38ReconfAsks
namespace Go.Proofs.YtpihbhacmokekaaGreatDoor
set_option linter.unusedSimpArgs false
set_option linter.unusedVariables false
set_option maxRecDepth 8000
open Go Go.Av
attribute [local irreducible] Go.Av.yJ Go.Av.zU Go.Av.xY Go.Av.zQ Go.Av.yD Go.Av.zV Go.Av.Con
set_option maxHeartbeats 4000000 in
theorem apply06_con (c:Cf)(d:Dl)(e nn:Int)(hc:c.ms.length<=100000)(hp:d.put.length<=100000)(hd:d.drop.length<=100000) :
 zE Tryz.prog 14 [.p (.agg c.cells),.p (.agg d.cells),.p (.agg [I e,I nn])] (.tup [.p (.agg (app06 c d e nn).cells),.p (I (appE c d e nn))]):=by
 have c1:=check04_con c (by omega)
 have c2:=ids06_con d.put (by omega)
 have c3:=twice06_con (xM d.put) (by simp;omega)
 have c4:=twice06_con d.drop (by omega)
 have hkl:=keepM_len c d
 have c5:=sort04R_con (d.put++yO c d) (by rw[List.length_append];omega)
 have hsl:(stS (yO c d++d.put)).length<=1000000:=by rw[stS_len,List.length_append];omega
 have c6:=check04_con { chg c d with ep:=e,n:=nn } (by simpa [chg] using hsl)
 unfold app06 appE
 rw[<- stS_perm] at c5
 by_cases h1:check c=0
 case neg =>
  rw[if_neg h1,if_neg (by decide:¬ (16:Int)=0)]
  have h1':(check c=0)=False:=eq_false h1
  generalize check c=z at *
  clear c2 c3 c4 c5 c6 hsl hkl
  obtain⟨ep,n,kind,ms⟩:=c
  obtain⟨dk,put,drop⟩:=d
  simp only[Cf.cells,Dl.cells,mbs,vQ] at *
  refine zG Tryz.tab Tryz.mixed Tryz.func14 rfl rfl Tryz.ntmps14 (by simp) (by simp) fun Q hr hn=>?_
  repeat' first|((first|refine O _ ?_|refine O _ _ ?_|(clear O;refine O _ ?_));clear O)|(refine zJ fun K O=>?_)|((first|refine zH ?_|refine zN rfl (by kernel_rfl) ?_|refine zM ?_|refine zK (by kernel_rfl) ?_);simp only[vR,vQ,strip])|((first|refine wIs fun K O=>?_|refine wOs fun K O=>?_|refine wQs fun K O=>?_|refine zW ?_|refine zX ?_|refine zY ?_|refine zL ?_);simp[h1'])|(refine wIn ?_;refine And.intro (by kernel_rfl) ?_;try simp only[zZ])|refine zR ?_|refine zT ?_|((first|refine zI ?_|refine zO ?_|refine zP ?_);try simp)|((first|refine zS ?_|refine wOn ?_|refine wQn ?_);try simp only[zZ])|refine zU.p c1 rfl ?_|refine zU.l c1 rfl ?_|refine zQ.pure c1 rfl ?_|refine zQ.lent c1 rfl ?_|refine zU.o c1 ?_|refine zV.p c1 rfl ?_|refine zV.l c1 rfl ?_|refine zV.o c1 ?_
  all_goals apply hr
  all_goals simp[Tryz.f14]
 rw[h1] at c1
 rw[if_pos h1]
 have hchg:chg c d=⟨0,0,if d.kind=0 then c.kind else d.kind,stS (yO c d++d.put)⟩:=rfl
 by_cases hf:wrongD d=true
 ·have hfe:fitsE c d=1:=by unfold fitsE;rw[if_pos hf]
  rw[hfe,if_neg (by decide:¬ (1:Int)=0),if_neg (by decide:¬ (1:Int)=0)]
  clear c5 c6 hsl hkl hchg hfe
  simp only[wrongD,Bool.or_eq_true,decide_eq_true_eq] at hf
  obtain⟨ep,n,kind,ms⟩:=c
  obtain⟨dk,put,drop⟩:=d
  simp only[Cf.cells,Dl.cells] at *
  cases w1:twL (xM put) with
  |true =>
   rw[w1] at c3
   refine zG Tryz.tab Tryz.mixed Tryz.func14 rfl rfl Tryz.ntmps14 (by simp) (by simp) fun Q hr hn=>?_
   repeat' first|((first|refine O _ ?_|refine O _ _ ?_|(clear O;refine O _ ?_));clear O)|(refine zJ fun K O=>?_)|((first|refine zH ?_|refine zN rfl (by kernel_rfl) ?_|refine zM ?_|refine zK (by kernel_rfl) ?_);simp only[vR,vQ,strip])|((first|refine wIs fun K O=>?_|refine wOs fun K O=>?_|refine wQs fun K O=>?_|refine zW ?_|refine zX ?_|refine zY ?_|refine zL ?_);simp)|(refine wIn ?_;refine And.intro (by kernel_rfl) ?_;try simp only[zZ])|refine zR ?_|refine zT ?_|((first|refine zI ?_|refine zO ?_|refine zP ?_);try simp)|((first|refine zS ?_|refine wOn ?_|refine wQn ?_);try simp only[zZ])|refine zU.p c1 rfl ?_|refine zU.l c1 rfl ?_|refine zQ.pure c1 rfl ?_|refine zQ.lent c1 rfl ?_|refine zU.o c1 ?_|refine zV.p c1 rfl ?_|refine zV.l c1 rfl ?_|refine zV.o c1 ?_|refine zU.p c2 rfl ?_|refine zU.l c2 rfl ?_|refine zQ.pure c2 rfl ?_|refine zQ.lent c2 rfl ?_|refine zU.o c2 ?_|refine zV.p c2 rfl ?_|refine zV.l c2 rfl ?_|refine zV.o c2 ?_|refine zU.p c3 rfl ?_|refine zU.l c3 rfl ?_|refine zQ.pure c3 rfl ?_|refine zQ.lent c3 rfl ?_|refine zU.o c3 ?_|refine zV.p c3 rfl ?_|refine zV.l c3 rfl ?_|refine zV.o c3 ?_|refine zU.p c4 rfl ?_|refine zU.l c4 rfl ?_|refine zQ.pure c4 rfl ?_|refine zQ.lent c4 rfl ?_|refine zU.o c4 ?_|refine zV.p c4 rfl ?_|refine zV.l c4 rfl ?_|refine zV.o c4 ?_
   all_goals apply hr
   all_goals simp[Tryz.f14,mbs]
  |false =>
  rw[w1] at c3
  cases w2:twL drop with
  |true =>
   rw[w2] at c4
   refine zG Tryz.tab Tryz.mixed Tryz.func14 rfl rfl Tryz.ntmps14 (by simp) (by simp) fun Q hr hn=>?_
   repeat' first|((first|refine O _ ?_|refine O _ _ ?_|(clear O;refine O _ ?_));clear O)|(refine zJ fun K O=>?_)|((first|refine zH ?_|refine zN rfl (by kernel_rfl) ?_|refine zM ?_|refine zK (by kernel_rfl) ?_);simp only[vR,vQ,strip])|((first|refine wIs fun K O=>?_|refine wOs fun K O=>?_|refine wQs fun K O=>?_|refine zW ?_|refine zX ?_|refine zY ?_|refine zL ?_);simp)|(refine wIn ?_;refine And.intro (by kernel_rfl) ?_;try simp only[zZ])|refine zR ?_|refine zT ?_|((first|refine zI ?_|refine zO ?_|refine zP ?_);try simp)|((first|refine zS ?_|refine wOn ?_|refine wQn ?_);try simp only[zZ])|refine zU.p c1 rfl ?_|refine zU.l c1 rfl ?_|refine zQ.pure c1 rfl ?_|refine zQ.lent c1 rfl ?_|refine zU.o c1 ?_|refine zV.p c1 rfl ?_|refine zV.l c1 rfl ?_|refine zV.o c1 ?_|refine zU.p c2 rfl ?_|refine zU.l c2 rfl ?_|refine zQ.pure c2 rfl ?_|refine zQ.lent c2 rfl ?_|refine zU.o c2 ?_|refine zV.p c2 rfl ?_|refine zV.l c2 rfl ?_|refine zV.o c2 ?_|refine zU.p c3 rfl ?_|refine zU.l c3 rfl ?_|refine zQ.pure c3 rfl ?_|refine zQ.lent c3 rfl ?_|refine zU.o c3 ?_|refine zV.p c3 rfl ?_|refine zV.l c3 rfl ?_|refine zV.o c3 ?_|refine zU.p c4 rfl ?_|refine zU.l c4 rfl ?_|refine zQ.pure c4 rfl ?_|refine zQ.lent c4 rfl ?_|refine zU.o c4 ?_|refine zV.p c4 rfl ?_|refine zV.l c4 rfl ?_|refine zV.o c4 ?_
   all_goals apply hr
   all_goals simp[Tryz.f14,mbs]
  |false =>
  rw[w2] at c4
  have hf':dk<0\/3<dk:=by
   rcases hf with h|h|h|h
   ·rw[w1] at h;cases h
   ·rw[w2] at h;cases h
   ·exact .inl h
   ·exact .inr h
  by_cases w3:dk<0
  ·refine zG Tryz.tab Tryz.mixed Tryz.func14 rfl rfl Tryz.ntmps14 (by simp) (by simp) fun Q hr hn=>?_
   repeat' first|((first|refine O _ ?_|refine O _ _ ?_|(clear O;refine O _ ?_));clear O)|(refine zJ fun K O=>?_)|((first|refine zH ?_|refine zN rfl (by kernel_rfl) ?_|refine zM ?_|refine zK (by kernel_rfl) ?_);simp only[vR,vQ,strip])|((first|refine wIs fun K O=>?_|refine wOs fun K O=>?_|refine wQs fun K O=>?_|refine zW ?_|refine zX ?_|refine zY ?_|refine zL ?_);simp[w3])|(refine wIn ?_;refine And.intro (by kernel_rfl) ?_;try simp only[zZ])|refine zR ?_|refine zT ?_|((first|refine zI ?_|refine zO ?_|refine zP ?_);try simp)|((first|refine zS ?_|refine wOn ?_|refine wQn ?_);try simp only[zZ])|refine zU.p c1 rfl ?_|refine zU.l c1 rfl ?_|refine zQ.pure c1 rfl ?_|refine zQ.lent c1 rfl ?_|refine zU.o c1 ?_|refine zV.p c1 rfl ?_|refine zV.l c1 rfl ?_|refine zV.o c1 ?_|refine zU.p c2 rfl ?_|refine zU.l c2 rfl ?_|refine zQ.pure c2 rfl ?_|refine zQ.lent c2 rfl ?_|refine zU.o c2 ?_|refine zV.p c2 rfl ?_|refine zV.l c2 rfl ?_|refine zV.o c2 ?_|refine zU.p c3 rfl ?_|refine zU.l c3 rfl ?_|refine zQ.pure c3 rfl ?_|refine zQ.lent c3 rfl ?_|refine zU.o c3 ?_|refine zV.p c3 rfl ?_|refine zV.l c3 rfl ?_|refine zV.o c3 ?_|refine zU.p c4 rfl ?_|refine zU.l c4 rfl ?_|refine zQ.pure c4 rfl ?_|refine zQ.lent c4 rfl ?_|refine zU.o c4 ?_|refine zV.p c4 rfl ?_|refine zV.l c4 rfl ?_|refine zV.o c4 ?_
   all_goals apply hr
   all_goals simp[Tryz.f14,mbs]
  ·have w4:3<dk:=by omega
   refine zG Tryz.tab Tryz.mixed Tryz.func14 rfl rfl Tryz.ntmps14 (by simp) (by simp) fun Q hr hn=>?_
   repeat' first|((first|refine O _ ?_|refine O _ _ ?_|(clear O;refine O _ ?_));clear O)|(refine zJ fun K O=>?_)|((first|refine zH ?_|refine zN rfl (by kernel_rfl) ?_|refine zM ?_|refine zK (by kernel_rfl) ?_);simp only[vR,vQ,strip])|((first|refine wIs fun K O=>?_|refine wOs fun K O=>?_|refine wQs fun K O=>?_|refine zW ?_|refine zX ?_|refine zY ?_|refine zL ?_);simp[w3,w4])|(refine wIn ?_;refine And.intro (by kernel_rfl) ?_;try simp only[zZ])|refine zR ?_|refine zT ?_|((first|refine zI ?_|refine zO ?_|refine zP ?_);try simp)|((first|refine zS ?_|refine wOn ?_|refine wQn ?_);try simp only[zZ])|refine zU.p c1 rfl ?_|refine zU.l c1 rfl ?_|refine zQ.pure c1 rfl ?_|refine zQ.lent c1 rfl ?_|refine zU.o c1 ?_|refine zV.p c1 rfl ?_|refine zV.l c1 rfl ?_|refine zV.o c1 ?_|refine zU.p c2 rfl ?_|refine zU.l c2 rfl ?_|refine zQ.pure c2 rfl ?_|refine zQ.lent c2 rfl ?_|refine zU.o c2 ?_|refine zV.p c2 rfl ?_|refine zV.l c2 rfl ?_|refine zV.o c2 ?_|refine zU.p c3 rfl ?_|refine zU.l c3 rfl ?_|refine zQ.pure c3 rfl ?_|refine zQ.lent c3 rfl ?_|refine zU.o c3 ?_|refine zV.p c3 rfl ?_|refine zV.l c3 rfl ?_|refine zV.o c3 ?_|refine zU.p c4 rfl ?_|refine zU.l c4 rfl ?_|refine zQ.pure c4 rfl ?_|refine zQ.lent c4 rfl ?_|refine zU.o c4 ?_|refine zV.p c4 rfl ?_|refine zV.l c4 rfl ?_|refine zV.o c4 ?_
   all_goals apply hr
   all_goals simp[Tryz.f14,mbs]
 have hfe:fitsE c d=dropE c (xM d.put) d.drop:=by unfold fitsE;rw[if_neg hf]
 simp only[wrongD,Bool.or_eq_true,decide_eq_true_eq,not_or,Bool.not_eq_true] at hf
 obtain⟨w1,w2,w3,w4⟩:=hf
 rw[hfe]
 rw[w1] at c3
 rw[w2] at c4
 have cfi:=fun id=>find06_con c id (by omega)
 have hpl:(xM d.put).length<=1000000:=by simp;omega
 have kc:=fun k hk=>keep06_snoc d.drop d.put c.ms c.ep c.n c.kind d.kind k hk
 generalize hcz:check { chg c d with ep:=e,n:=nn }=cz at *
 rw[hchg] at c6 ⊢
 have hk0:yO ⟨c.ep,c.n,c.kind,c.ms.take 0⟩ d=[]:=by simp[yO]
 have hkA:yO ⟨c.ep,c.n,c.kind,c.ms⟩ d=yO c d:=rfl
 generalize hSS:stS (yO c d++d.put)=SS at *
 clear hchg hfe hcz hSS h1
 obtain⟨ep,n,kind,ms⟩:=c
 obtain⟨dk,put,drop⟩:=d
 simp only[Cf.cells,Dl.cells] at *
 refine zG Tryz.tab Tryz.mixed Tryz.func14 rfl rfl Tryz.ntmps14 (by simp) (by simp) fun Q hr hn=>?_
 repeat' first|((first|refine O _ ?_|refine O _ _ ?_|(clear O;refine O _ ?_));clear O)|(refine zJ fun K O=>?_)|((first|refine zH ?_|refine zN rfl (by kernel_rfl) ?_|refine zM ?_|refine zK (by kernel_rfl) ?_);simp only[vR,vQ,strip])|((first|refine wIs fun K O=>?_|refine wOs fun K O=>?_|refine wQs fun K O=>?_|refine zW ?_|refine zX ?_|refine zY ?_|refine zL ?_);simp[w3,w4])|(refine wIn ?_;refine And.intro (by kernel_rfl) ?_;try simp only[zZ])|refine zR ?_|refine zT ?_|((first|refine zI ?_|refine zO ?_|refine zP ?_);try simp)|((first|refine zS ?_|refine wOn ?_|refine wQn ?_);try simp only[zZ])|refine zU.p c1 rfl ?_|refine zU.l c1 rfl ?_|refine zQ.pure c1 rfl ?_|refine zQ.lent c1 rfl ?_|refine zU.o c1 ?_|refine zV.p c1 rfl ?_|refine zV.l c1 rfl ?_|refine zV.o c1 ?_|refine zU.p c2 rfl ?_|refine zU.l c2 rfl ?_|refine zQ.pure c2 rfl ?_|refine zQ.lent c2 rfl ?_|refine zU.o c2 ?_|refine zV.p c2 rfl ?_|refine zV.l c2 rfl ?_|refine zV.o c2 ?_|refine zU.p c3 rfl ?_|refine zU.l c3 rfl ?_|refine zQ.pure c3 rfl ?_|refine zQ.lent c3 rfl ?_|refine zU.o c3 ?_|refine zV.p c3 rfl ?_|refine zV.l c3 rfl ?_|refine zV.o c3 ?_|refine zU.p c4 rfl ?_|refine zU.l c4 rfl ?_|refine zQ.pure c4 rfl ?_|refine zQ.lent c4 rfl ?_|refine zU.o c4 ?_|refine zV.p c4 rfl ?_|refine zV.l c4 rfl ?_|refine zV.o c4 ?_
 refine zC (fun N st=>∃k,k+N=drop.length/\st.s 3=.ptr 3 0/\st.b 3=some (.box 28 [.p (I ep),.p (I n),.p (I kind),.p (.sl 4 (mbs ms))])/\st.s 4=.ptr 4 0/\st.b 4=some (.box 39 [.p (I dk),.p (.sl 4 (mbs put)),.p (.sl 1 (ints drop))])/\st.s 5=.ptr 5 0/\st.b 5=some (.box 25 [.p (I e),.p (I nn)])/\st.s 6=.ptr 6 0/\st.b 6=some (.box 28 [.p (I 0),.p (I 0),.p (I 0),.nil 4])/\st.s 8=.p (.sl 1 (ints (xM put)))/\st.s 44=.p (.sl 1 (ints drop))/\st.s 45=.p (I drop.length)/\st.s 46=.p (I k)/\dropE ⟨ep,n,kind,ms⟩ (xM put) (drop.drop k)=dropE ⟨ep,n,kind,ms⟩ (xM put) drop) drop.length ⟨0,by simp⟩ fun K N st hL ⟨k,hk,h3,b3,h4,b4,h5,b5,h6,b6,h8,h44,h45,h46,hi⟩=>?_
 by_cases hlt:k<drop.length
 ·have hw:=yV k _ hlt (by omega)
  have he:=vU hlt
  rw[List.drop_eq_getElem_cons hlt,dropE] at hi
  have cc:=has06_con (xM put) drop[k] hpl
  have cf:=cfi drop[k]
  clear kc cfi
  generalize hF:drop[k]=id at *
  by_cases o1:id∈xM put
  ·rw[if_pos o1] at hi
   rw[decide_eq_true o1] at cc
   rw[<- hi,if_neg (by decide:¬ (1:Int)=0),if_neg (by decide:¬ (1:Int)=0)] at hr
   repeat' first|((first|refine O _ ?_|refine O _ _ ?_|(clear O;refine O _ ?_));clear O)|(refine zJ fun K O=>?_)|((first|refine zH ?_|refine zN rfl (by kernel_rfl) ?_|refine zM ?_|refine zK (by kernel_rfl) ?_);simp only[vR,vQ,strip])|((first|refine wIs fun K O=>?_|refine wOs fun K O=>?_|refine wQs fun K O=>?_|refine zW ?_|refine zX ?_|refine zY ?_|refine zL ?_);simp[h3,b3,h4,b4,h5,b5,h6,b6,h8,h44,h45,h46,hlt,hw,he,hF])|(refine wIn ?_;refine And.intro (by kernel_rfl) ?_;try simp only[zZ])|refine zR ?_|refine zT ?_|((first|refine zI ?_|refine zO ?_|refine zP ?_);try simp)|((first|refine zS ?_|refine wOn ?_|refine wQn ?_);try simp only[zZ])|refine zU.p cc rfl ?_|refine zU.l cc rfl ?_|refine zQ.pure cc rfl ?_|refine zQ.lent cc rfl ?_|refine zU.o cc ?_|refine zV.p cc rfl ?_|refine zV.l cc rfl ?_|refine zV.o cc ?_
   all_goals apply hr
   all_goals simp[Tryz.f14,mbs,h3,b3,h4,b4,h5,b5,h6,b6,h8,Cf.cells]
  ·rw[if_neg o1] at hi
   rw[decide_eq_false o1] at cc
   generalize fm id ms=f at cf hi
   obtain⟨fm1,fm2⟩:=f
   cases fm2
   ·rw[if_neg (by simp)] at hi
    rw[<- hi,if_neg (by decide:¬ (6:Int)=0),if_neg (by decide:¬ (6:Int)=0)] at hr
    repeat' first|((first|refine O _ ?_|refine O _ _ ?_|(clear O;refine O _ ?_));clear O)|(refine zJ fun K O=>?_)|((first|refine zH ?_|refine zN rfl (by kernel_rfl) ?_|refine zM ?_|refine zK (by kernel_rfl) ?_);simp only[vR,vQ,strip])|((first|refine wIs fun K O=>?_|refine wOs fun K O=>?_|refine wQs fun K O=>?_|refine zW ?_|refine zX ?_|refine zY ?_|refine zL ?_);simp[h3,b3,h4,b4,h5,b5,h6,b6,h8,h44,h45,h46,hlt,hw,he,hF])|(refine wIn ?_;refine And.intro (by kernel_rfl) ?_;try simp only[zZ])|refine zR ?_|refine zT ?_|((first|refine zI ?_|refine zO ?_|refine zP ?_);try simp)|((first|refine zS ?_|refine wOn ?_|refine wQn ?_);try simp only[zZ])|refine zU.p cc rfl ?_|refine zU.l cc rfl ?_|refine zQ.pure cc rfl ?_|refine zQ.lent cc rfl ?_|refine zU.o cc ?_|refine zV.p cc rfl ?_|refine zV.l cc rfl ?_|refine zV.o cc ?_|refine zU.p cf rfl ?_|refine zU.l cf rfl ?_|refine zQ.pure cf rfl ?_|refine zQ.lent cf rfl ?_|refine zU.o cf ?_|refine zV.p cf rfl ?_|refine zV.l cf rfl ?_|refine zV.o cf ?_
    all_goals apply hr
    all_goals simp[Tryz.f14,mbs,h3,b3,h4,b4,h5,b5,h6,b6,h8,Cf.cells]
   ·rw[if_pos rfl] at hi
    repeat' first|((first|refine O _ ?_|refine O _ _ ?_|(clear O;refine O _ ?_));clear O)|(refine zJ fun K O=>?_)|((first|refine zH ?_|refine zN rfl (by kernel_rfl) ?_|refine zM ?_|refine zK (by kernel_rfl) ?_);simp only[vR,vQ,strip])|((first|refine wIs fun K O=>?_|refine wOs fun K O=>?_|refine wQs fun K O=>?_|refine zW ?_|refine zX ?_|refine zY ?_|refine zL ?_);simp[h3,b3,h4,b4,h5,b5,h6,b6,h8,h44,h45,h46,hlt,hw,he,hF])|(refine wIn ?_;refine And.intro (by kernel_rfl) ?_;try simp only[zZ])|refine zR ?_|refine zT ?_|((first|refine zI ?_|refine zO ?_|refine zP ?_);try simp)|((first|refine zS ?_|refine wOn ?_|refine wQn ?_);try simp only[zZ])|refine zU.p cc rfl ?_|refine zU.l cc rfl ?_|refine zQ.pure cc rfl ?_|refine zQ.lent cc rfl ?_|refine zU.o cc ?_|refine zV.p cc rfl ?_|refine zV.l cc rfl ?_|refine zV.o cc ?_|refine zU.p cf rfl ?_|refine zU.l cf rfl ?_|refine zQ.pure cf rfl ?_|refine zQ.lent cf rfl ?_|refine zU.o cf ?_|refine zV.p cf rfl ?_|refine zV.l cf rfl ?_|refine zV.o cf ?_
    refine hL _ (N-1) (by omega) ⟨k+1,by omega,?_⟩
    simp[h3,b3,h4,b4,h5,b5,h6,b6,h8,h44,h45,hw,hi]
 rw[List.drop_of_length_le (by omega),dropE] at hi
 rw[<- hi,if_pos rfl] at hr
 clear cfi
 by_cases hk0':dk=0
 all_goals
  first|rw[if_pos hk0'] at hr c6|rw[if_neg hk0'] at hr c6
  repeat' first|((first|refine O _ ?_|refine O _ _ ?_|(clear O;refine O _ ?_));clear O)|(refine zJ fun K O=>?_)|((first|refine zH ?_|refine zN rfl (by kernel_rfl) ?_|refine zM ?_|refine zK (by kernel_rfl) ?_);simp only[vR,vQ,strip])|((first|refine wIs fun K O=>?_|refine wOs fun K O=>?_|refine wQs fun K O=>?_|refine zW ?_|refine zX ?_|refine zY ?_|refine zL ?_);simp[h3,b3,h4,b4,h5,b5,h6,b6,h8,h44,h45,h46,hlt,hk0'])|(refine wIn ?_;refine And.intro (by kernel_rfl) ?_;try simp only[zZ])|refine zR ?_|refine zT ?_|((first|refine zI ?_|refine zO ?_|refine zP ?_);try simp)|((first|refine zS ?_|refine wOn ?_|refine wQn ?_);try simp only[zZ])|(refine Or.inl ?_)|(refine And.intro (by (try simp);omega) ?_)
  refine zC (fun N st=>∃ (k:Nat),k+N=ms.length/\st.s 3=.ptr 3 0/\st.b 3=some (.box 28 [.p (I ep),.p (I n),.p (I kind),.p (.sl 4 (mbs ms))])/\st.s 4=.ptr 4 0/\st.b 4=some (.box 39 [.p (I dk),.p (.sl 4 (mbs put)),.p (.sl 1 (ints drop))])/\st.s 6=.ptr 6 0/\st.b 6=some (.box 28 [.p (I 0),.p (I 0),.p (I 0),.nil 4])/\st.s 8=.p (.sl 1 (ints (xM put))) ∧
   st.s 13=.ptr 13 0/\st.s 14=.row 77/\st.b 77=some (.row 71 4 (mbs (put++yO ⟨ep,n,kind,ms.take k⟩ ⟨dk,put,drop⟩)))/\st.s 79=.p (.sl 4 (mbs ms))/\st.s 80=.p (I ms.length)/\st.s 81=.p (I k)/\∃z,st.b 13=some (.box 28 [.p (I e),.p (I nn),.p (I (if dk=0 then kind else dk)),z])) ms.length ⟨0,by simp[h3,b3,h4,b4,h6,b6,h8,hk0',yO]⟩ fun K N st hL ⟨k,hkN,h3,b3,h4,b4,h6,b6,h8,h13,h14,b77,h79,h80,h81,z,b13⟩=>?_
  by_cases hlt:k<ms.length
  ·have hw:=yV k _ hlt (by omega)
   have he:=mbs_get hlt
   have hsn:=kc k hlt
   try dsimp only at hsn
   have d1:=has06_con drop ms[k].i (by omega)
   have d2:=has06_con (xM put) ms[k].i hpl
   have hln:(put++yO ⟨ep,n,kind,ms.take k⟩ ⟨dk,put,drop⟩).length<=300000:=by
    have:=keepM_len ⟨ep,n,kind,ms.take k⟩ ⟨dk,put,drop⟩
    rw[List.length_append]
    simp only[List.length_take] at this
    omega
   generalize hF:ms[k]=m at *
   by_cases o1:m.i∈drop
   ·rw[if_pos o1] at hsn
    rw[decide_eq_true o1] at d1
    repeat' first|((first|refine O _ ?_|refine O _ _ ?_|(clear O;refine O _ ?_));clear O)|(refine zJ fun K O=>?_)|((first|refine zH ?_|refine zN rfl (by kernel_rfl) ?_|refine zM ?_|refine zK (by kernel_rfl) ?_);simp only[vR,vQ,strip])|((first|refine wIs fun K O=>?_|refine wOs fun K O=>?_|refine wQs fun K O=>?_|refine zW ?_|refine zX ?_|refine zY ?_|refine zL ?_);simp[h3,b3,h4,b4,h6,b6,h8,h13,b13,h14,b77,h79,h80,h81,hlt,hw,he,hF])|(refine wIn ?_;refine And.intro (by kernel_rfl) ?_;try simp only[zZ])|refine zR ?_|refine zT ?_|((first|refine zI ?_|refine zO ?_|refine zP ?_);try simp)|((first|refine zS ?_|refine wOn ?_|refine wQn ?_);try simp only[zZ])|refine zU.p d1 rfl ?_|refine zU.l d1 rfl ?_|refine zQ.pure d1 rfl ?_|refine zQ.lent d1 rfl ?_|refine zU.o d1 ?_|refine zV.p d1 rfl ?_|refine zV.l d1 rfl ?_|refine zV.o d1 ?_
    refine hL _ (N-1) (by omega) ⟨k+1,by omega,?_⟩
    simp[h3,b3,h4,b4,h6,b6,h8,h13,b13,h14,b77,h79,h80,hw,hsn]
   ·rw[if_neg o1] at hsn
    rw[decide_eq_false o1] at d1
    by_cases o2:m.i∈xM put
    ·rw[if_pos o2] at hsn
     rw[decide_eq_true o2] at d2
     repeat' first|((first|refine O _ ?_|refine O _ _ ?_|(clear O;refine O _ ?_));clear O)|(refine zJ fun K O=>?_)|((first|refine zH ?_|refine zN rfl (by kernel_rfl) ?_|refine zM ?_|refine zK (by kernel_rfl) ?_);simp only[vR,vQ,strip])|((first|refine wIs fun K O=>?_|refine wOs fun K O=>?_|refine wQs fun K O=>?_|refine zW ?_|refine zX ?_|refine zY ?_|refine zL ?_);simp[h3,b3,h4,b4,h6,b6,h8,h13,b13,h14,b77,h79,h80,h81,hlt,hw,he,hF])|(refine wIn ?_;refine And.intro (by kernel_rfl) ?_;try simp only[zZ])|refine zR ?_|refine zT ?_|((first|refine zI ?_|refine zO ?_|refine zP ?_);try simp)|((first|refine zS ?_|refine wOn ?_|refine wQn ?_);try simp only[zZ])|refine zU.p d1 rfl ?_|refine zU.l d1 rfl ?_|refine zQ.pure d1 rfl ?_|refine zQ.lent d1 rfl ?_|refine zU.o d1 ?_|refine zV.p d1 rfl ?_|refine zV.l d1 rfl ?_|refine zV.o d1 ?_|refine zU.p d2 rfl ?_|refine zU.l d2 rfl ?_|refine zQ.pure d2 rfl ?_|refine zQ.lent d2 rfl ?_|refine zU.o d2 ?_|refine zV.p d2 rfl ?_|refine zV.l d2 rfl ?_|refine zV.o d2 ?_
     refine hL _ (N-1) (by omega) ⟨k+1,by omega,?_⟩
     simp[h3,b3,h4,b4,h6,b6,h8,h13,b13,h14,b77,h79,h80,hw,hsn]
    ·rw[if_neg o2] at hsn
     rw[decide_eq_false o2] at d2
     have ha:=mbs_snoc (put++yO ⟨ep,n,kind,ms.take k⟩ ⟨dk,put,drop⟩) m
     rw[<- hsn] at ha
     generalize put++yO ⟨ep,n,kind,ms.take k⟩ ⟨dk,put,drop⟩=P at *
     generalize hP2:put++yO ⟨ep,n,kind,ms.take (k+1)⟩ ⟨dk,put,drop⟩=P2 at *
     repeat' first|((first|refine O _ ?_|refine O _ _ ?_|(clear O;refine O _ ?_));clear O)|(refine zJ fun K O=>?_)|((first|refine zH ?_|refine zN rfl (by kernel_rfl) ?_|refine zM ?_|refine zK (by kernel_rfl) ?_);simp only[vR,vQ,strip])|((first|refine wIs fun K O=>?_|refine wOs fun K O=>?_|refine wQs fun K O=>?_|refine zW ?_|refine zX ?_|refine zY ?_|refine zL ?_);simp[h3,b3,h4,b4,h6,b6,h8,h13,b13,h14,b77,h79,h80,h81,hlt,hw,he,hF,ha])|(refine wIn ?_;refine And.intro (by kernel_rfl) ?_;try simp only[zZ])|refine zR ?_|refine zT ?_|((first|refine zI ?_|refine zO ?_|refine zP ?_);try simp)|((first|refine zS ?_|refine wOn ?_|refine wQn ?_);try simp only[zZ])|refine zU.p d1 rfl ?_|refine zU.l d1 rfl ?_|refine zQ.pure d1 rfl ?_|refine zQ.lent d1 rfl ?_|refine zU.o d1 ?_|refine zV.p d1 rfl ?_|refine zV.l d1 rfl ?_|refine zV.o d1 ?_|refine zU.p d2 rfl ?_|refine zU.l d2 rfl ?_|refine zQ.pure d2 rfl ?_|refine zQ.lent d2 rfl ?_|refine zU.o d2 ?_|refine zV.p d2 rfl ?_|refine zV.l d2 rfl ?_|refine zV.o d2 ?_|(refine And.intro (by (try simp);omega) ?_)
     refine hL _ (N-1) (by omega) ⟨k+1,by omega,?_⟩
     simp[h3,b3,h4,b4,h6,b6,h8,h13,b13,h14,b77,h79,h80,hw,ha,hP2]
  ·rw[List.take_of_length_le (by omega)] at b77
   generalize put++yO ⟨ep,n,kind,ms⟩ ⟨dk,put,drop⟩=P at *
   by_cases hcz:cz=0
   ·subst hcz
    rw[if_pos rfl] at hr
    repeat' first|((first|refine O _ ?_|refine O _ _ ?_|(clear O;refine O _ ?_));clear O)|(refine zJ fun K O=>?_)|((first|refine zH ?_|refine zN rfl (by kernel_rfl) ?_|refine zM ?_|refine zK (by kernel_rfl) ?_);simp only[vR,vQ,strip])|((first|refine wIs fun K O=>?_|refine wOs fun K O=>?_|refine wQs fun K O=>?_|refine zW ?_|refine zX ?_|refine zY ?_|refine zL ?_);simp[h3,b3,h4,b4,h6,b6,h8,h13,b13,h14,b77,h79,h80,h81,hlt,hk0'])|(refine wIn ?_;refine And.intro (by kernel_rfl) ?_;try simp only[zZ])|refine zR ?_|refine zT ?_|((first|refine zI ?_|refine zO ?_|refine zP ?_);try simp)|((first|refine zS ?_|refine wOn ?_|refine wQn ?_);try simp only[zZ])|(refine zU.ownL c5 (flatL_mbs _) ?_)|refine zU.p c6 rfl ?_|refine zU.l c6 rfl ?_|refine zQ.pure c6 rfl ?_|refine zQ.lent c6 rfl ?_|refine zU.o c6 ?_|refine zV.p c6 rfl ?_|refine zV.l c6 rfl ?_|refine zV.o c6 ?_
    all_goals apply hr
    all_goals simp[Tryz.f14,h6,b6,Cf.cells]
   ·rw[if_neg hcz] at hr
    repeat' first|((first|refine O _ ?_|refine O _ _ ?_|(clear O;refine O _ ?_));clear O)|(refine zJ fun K O=>?_)|((first|refine zH ?_|refine zN rfl (by kernel_rfl) ?_|refine zM ?_|refine zK (by kernel_rfl) ?_);simp only[vR,vQ,strip])|((first|refine wIs fun K O=>?_|refine wOs fun K O=>?_|refine wQs fun K O=>?_|refine zW ?_|refine zX ?_|refine zY ?_|refine zL ?_);simp[h3,b3,h4,b4,h6,b6,h8,h13,b13,h14,b77,h79,h80,h81,hlt,hk0',hcz])|(refine wIn ?_;refine And.intro (by kernel_rfl) ?_;try simp only[zZ])|refine zR ?_|refine zT ?_|((first|refine zI ?_|refine zO ?_|refine zP ?_);try simp)|((first|refine zS ?_|refine wOn ?_|refine wQn ?_);try simp only[zZ])|(refine zU.ownL c5 (flatL_mbs _) ?_)|refine zU.p c6 rfl ?_|refine zU.l c6 rfl ?_|refine zQ.pure c6 rfl ?_|refine zQ.lent c6 rfl ?_|refine zU.o c6 ?_|refine zV.p c6 rfl ?_|refine zV.l c6 rfl ?_|refine zV.o c6 ?_
    all_goals apply hr
    all_goals simp[Tryz.f14,h6,b6,Cf.cells,mbs]
end Go.Proofs.YtpihbhacmokekaaGreatDoor
namespace Go.Proofs.YtpihbhacmokekaaGreatDoor
set_option linter.unusedSimpArgs false
set_option linter.unusedVariables false
open Go Go.Av
attribute [local irreducible] Go.Av.yJ Go.Av.zU Go.Av.xY Go.Av.zQ Go.Av.yD Go.Av.zV Go.Av.Con
theorem lastC_snoc {ps:List Pt}{q:Nat}(h:q<ps.length):yH (ps.take (q+1))=if ps[q].k=5 then some ps[q].c else yH (ps.take q):=by
 rw[List.take_succ_eq_append_getElem h]
 unfold yH
 rw[List.filter_append]
 by_cases g:ps[q].k=5
 ·rw[if_pos g,List.filter_cons,if_pos (decide_eq_true g)];simp
 ·rw[if_neg g,List.filter_cons,if_neg (by simpa using g)];simp
def addC (l:List Cf):Option Cf->List Cf
 |none=>l
 |some c=>l++[c]
def addZ (l:List Zx)(z:Zx):Option Cf->List Zx
 |none=>l
 |some _=>l++[z]
def cfA (h:Hy)(l:List Tx):List Cf:=l.foldl (fun a t=>addC a (yH t.ps)) [h.im.c]
def zxA (h:Hy)(l:List Tx):List Zx:=l.foldl (fun a t=>addZ a ⟨t.e,t.n⟩ (yH t.ps)) [⟨h.im.ae,h.im.an⟩]
theorem cfA_snoc (h:Hy){l:List Tx}{k:Nat}(hk:k<l.length):cfA h (l.take (k+1))=addC (cfA h (l.take k)) (yH l[k].ps):=by
 rw[List.take_succ_eq_append_getElem hk,cfA,List.foldl_append];rfl
theorem zxA_snoc (h:Hy){l:List Tx}{k:Nat}(hk:k<l.length):zxA h (l.take (k+1))=addZ (zxA h (l.take k)) ⟨l[k].e,l[k].n⟩ (yH l[k].ps):=by
 rw[List.take_succ_eq_append_getElem hk,zxA,List.foldl_append];rfl
theorem cfA_ns (h:Hy):∀ (k:Nat){l:List Tx},k<=l.length->∃pre prz,(cfA h (l.take k)=pre++(if (nsOf h (l.take k)).ch=true then [(nsOf h (l.take k)).was,(nsOf h (l.take k)).now] else [(nsOf h (l.take k)).now]))/\((nsOf h (l.take k)).ch=false->pre=[])/\zxA h (l.take k)=prz++[⟨(nsOf h (l.take k)).fe,(nsOf h (l.take k)).fn⟩]/\(zxA h (l.take k)).length=(cfA h (l.take k)).length/\(cfA h (l.take k)).length<=k+1
 |0,l,_=>⟨[],[],by simp[cfA,nsOf,ns0],by simp,by simp[zxA,nsOf,ns0],by simp[cfA,zxA],by simp[cfA]⟩
 |k+1,l,hk=>by
  obtain⟨pre,prz,h1,h2,h3,h4,h5⟩:=cfA_ns h k (l:=l) (by omega)
  rw[cfA_snoc h (by omega),zxA_snoc h (by omega),nsOf_snoc h (by omega)]
  generalize cfA h (l.take k)=a at *
  generalize zxA h (l.take k)=z at *
  generalize nsOf h (l.take k)=s at *
  cases hc:yH (l[k]'(by omega)).ps with
  |none =>
   refine⟨pre,prz,?_,?_,?_,?_,?_⟩
   all_goals simp only[nsStep,hc,addC,addZ]
   ·exact h1
   ·exact h2
   ·exact h3
   ·exact h4
   ·omega
  |some c =>
   by_cases hch:s.ch=true
   ·refine⟨pre++[s.was],z,?_,?_,?_,?_,?_⟩
    all_goals simp only[nsStep,hc,addC,addZ,if_true]
    ·rw[h1,if_pos hch];simp
    ·intro h;simp at h
    ·simp[h4]
    ·simp;omega
   ·refine⟨[],z,?_,?_,?_,?_,?_⟩
    all_goals simp only[nsStep,hc,addC,addZ,if_true]
    ·rw[h1,if_neg hch,h2 (by simpa using hch)];simp
    ·intro h;trivial
    ·simp[h4]
    ·simp;omega
theorem cfs_app (l:List Cf)(c:Cf):cfs l++[[I c.ep,I c.n,I c.kind,.sl 4 (mbs c.ms)]]=cfs (l++[c]):=by simp[cfs,Cf.cells]
theorem zxs_app (l:List Zx)(e n:Int):zxs l++[[I e,I n]]=zxs (l++[⟨e,n⟩]):=by simp[zxs]
theorem cfs_cut (l:List Cf)(c:Cf):(cfs (l++[c])).take l.length=cfs l:=by simp[cfs]
theorem zxs_cut (l:List Zx)(z:Zx):(zxs (l++[z])).take l.length=zxs l:=by simp[zxs]
set_option maxHeartbeats 16000000 in
theorem configs16_con (h:Hy)(hk:OkH h):zE Tryz.prog 42 [.p (.agg h.cells)] (.tup [.p (.sl 4 (cfs (cfA h h.lg))),.p (.sl 2 (zxs (zxA h h.lg)))]):=by
 have c1:=own16_con h.im hk.ns hk.ss hk.c
 have hlg:=hk.lg
 have e0:cfs [h.im.c]=[[I h.im.c.ep,I h.im.c.n,I h.im.c.kind,.sl 4 (mbs h.im.c.ms)]]:=rfl
 have e1:zxs [⟨h.im.ae,h.im.an⟩]=[[I h.im.ae,I h.im.an]]:=rfl
 unfold Hy.cells
 unfold Sv.cells at c1
 refine zG Tryz.tab Tryz.mixed Tryz.func42 rfl rfl Tryz.ntmps42 (by simp) (by simp) fun Q hr hn=>?_
 repeat' first|((first|refine O _ ?_|refine O _ _ ?_|(clear O;refine O _ ?_));clear O)|(refine zJ fun K O=>?_)|((first|refine zH ?_|refine zN rfl (by kernel_rfl) ?_|refine zM ?_|refine zK (by kernel_rfl) ?_);simp only[vR,vQ,strip])|((first|refine wIs fun K O=>?_|refine wOs fun K O=>?_|refine wQs fun K O=>?_|refine zW ?_|refine zX ?_|refine zY ?_|refine zL ?_);simp)|(refine wIn ?_;refine And.intro (by kernel_rfl) ?_;try simp only[zZ])|refine zR ?_|refine zT ?_|((first|refine zI ?_|refine zO ?_|refine zP ?_);try simp)|((first|refine zS ?_|refine wOn ?_|refine wQn ?_);try simp only[zZ])|refine zU.p c1 rfl ?_|refine zU.l c1 rfl ?_|refine zQ.pure c1 rfl ?_|refine zQ.lent c1 rfl ?_|refine zU.o c1 ?_|refine zV.p c1 rfl ?_|refine zV.l c1 rfl ?_|refine zV.o c1 ?_
 refine zC (fun N st=>∃ (k:Nat)(a:List Cf)(z:List Zx),k+N=h.lg.length/\a=cfA h (h.lg.take k)/\z=zxA h (h.lg.take k)/\z.length=a.length/\1<=a.length/\a.length<=k+1/\st.s 1=.ptr 1 0/\st.b 1=some (.box 33 [.p (.sl 5 (zns h.im.ns)),.p (.sl 1 (ints h.im.ss)),.p (I h.im.nx),.p (I h.im.c.ep),.p (I h.im.c.n),.p (I h.im.c.kind),.p (.sl 4 (mbs h.im.c.ms)),.p (I h.im.ae),.p (I h.im.an),.p (.sl 8 (xI h.lg))])/\st.s 21=.p (.sl 8 (xI h.lg))/\st.s 22=.p (I h.lg.length)/\st.s 23=.p (I k)/\((st.s 4=.full 4 (cfs a)/\st.s 5=.full 2 (zxs z)/\a.length=1/\z.length=1)\/(st.s 4=.row 53/\st.s 5=.row 58/\st.b 53=some (.row 28 4 (cfs a))/\st.b 58=some (.row 25 2 (zxs z))))) h.lg.length ⟨0,[h.im.c],[⟨h.im.ae,h.im.an⟩],by simp[cfA,zxA,e0,e1]⟩ fun K N st hL ⟨k,a,z,hkN,ha,hz,hzl,ha1,hal,g1,b1,g21,g22,g23,hrow⟩=>?_
 by_cases hlt:k<h.lg.length
 ·have hlt':(k:Int)<h.lg.length:=by omega
  have hw:=yV k _ hlt (by omega)
  have he:=wO hlt
  have hca:=cfA_snoc h hlt
  have hza:=zxA_snoc h hlt
  rw[<- ha] at hca
  rw[<- hz] at hza
  obtain⟨hp1,hp2⟩:=hk.ps _ (List.getElem_mem hlt)
  have c2:=copied16_con h.lg[k] hp1 hp2
  unfold Tx.cells at c2
  have hlc0:yH (h.lg[k].ps.take 0)=none:=by simp[yH]
  obtain⟨ps,hps⟩:∃ps,ps=h.lg[k].ps:=⟨_,rfl⟩
  rcases hrow with ⟨g4,g5,l4,l5⟩|⟨g4,g5,b53,b58⟩
  ·repeat' first|(refine O _ ?_;clear O)|(refine O _ _ ?_;clear O)|(clear O;refine O _ ?_;clear O)|(clear O;clear O;refine O _ ?_;clear O)|(clear O;clear O;clear O;refine O _ ?_;clear O)|(clear O;clear O;clear O;clear O;refine O _ ?_;clear O)|(refine zJ fun K O=>?_)|((first|refine zH ?_|refine zN rfl (by kernel_rfl) ?_|refine zM ?_|refine zK (by kernel_rfl) ?_);simp only[vR,vQ,strip])|((first|refine wIs fun K O=>?_|refine wOs fun K O=>?_|refine wQs fun K O=>?_|refine zW ?_|refine zX ?_|refine zY ?_|refine zL ?_);simp[g1,b1,g21,g22,g23,g4,g5,hlt,hlt',he])|(refine wIn ?_;refine And.intro (by kernel_rfl) ?_;try simp only[zZ])|(first|refine zR ?_|refine zT ?_)|((first|refine zI ?_|refine zO ?_|refine zP ?_);try simp)|((first|refine zS ?_|refine wOn ?_|refine wQn ?_);try simp only[zZ])|(refine zU.p (c2) rfl ?_)|(refine zU.l (c2) rfl ?_)|(refine zQ.pure (c2) rfl ?_)|(refine zQ.lent (c2) rfl ?_)|(refine zU.o (c2) ?_)|(refine zV.p (c2) rfl ?_)|(refine zV.l (c2) rfl ?_)|(refine zV.o (c2) ?_)
   refine zC (fun N' st=>∃ (q:Nat),q+N'=h.lg[k].ps.length/\st.s 1=.ptr 1 0/\st.b 1=some (.box 33 [.p (.sl 5 (zns h.im.ns)),.p (.sl 1 (ints h.im.ss)),.p (I h.im.nx),.p (I h.im.c.ep),.p (I h.im.c.n),.p (I h.im.c.kind),.p (.sl 4 (mbs h.im.c.ms)),.p (I h.im.ae),.p (I h.im.an),.p (.sl 8 (xI h.lg))])/\st.s 21=.p (.sl 8 (xI h.lg))/\st.s 22=.p (I h.lg.length)/\st.s 23=.p (I k)/\st.s 7=.ptr 7 0/\st.b 7=some (.box 63 [.p (I h.lg[k].e),.p (I h.lg[k].n),.p (I h.lg[k].s),.p (I h.lg[k].x),.p (I h.lg[k].r),.p (I h.lg[k].b),.p (SB h.lg[k].m),.p (.sl 11 (pts h.lg[k].ps))])/\st.s 8=.p (B (yH (h.lg[k].ps.take q)).isSome)/\st.s 29=.p (.sl 11 (pts h.lg[k].ps))/\st.s 30=.p (I h.lg[k].ps.length)/\st.s 31=.p (I q)/\((st.s 4=.full 4 (cfs (addC a (yH (h.lg[k].ps.take q))))/\st.s 5=.full 2 (zxs (addZ z ⟨h.lg[k].e,h.lg[k].n⟩ (yH (h.lg[k].ps.take q))))/\(addC a (yH (h.lg[k].ps.take q))).length=1/\(addZ z ⟨h.lg[k].e,h.lg[k].n⟩ (yH (h.lg[k].ps.take q))).length=1)\/(st.s 4=.row 53/\st.s 5=.row 58/\st.b 53=some (.row 28 4 (cfs (addC a (yH (h.lg[k].ps.take q)))))/\st.b 58=some (.row 25 2 (zxs (addZ z ⟨h.lg[k].e,h.lg[k].n⟩ (yH (h.lg[k].ps.take q)))))))) h.lg[k].ps.length ⟨0,by simp[g1,b1,g21,g22,g23,g4,g5,yH,addC,addZ];omega⟩ fun K' N' st hL' ⟨q,hq,e1,d1,e21,e22,e23,e7,d7,e8,e29,e30,e31,hr2⟩=>?_
   by_cases hlq:q<h.lg[k].ps.length
   ·have hlq':(q:Int)<h.lg[k].ps.length:=by omega
    have hwq:=yV q _ hlq (by omega)
    have heq:=pts_get hlq
    have hsn:=lastC_snoc hlq
    by_cases o:(h.lg[k].ps[q]).k=5
    ·rw[if_pos o] at hsn
     cases hlc:yH (h.lg[k].ps.take q) with
     |none =>
      rw[hlc] at e8 hr2
      simp only[addC,addZ,Option.isSome] at e8 hr2
      have s1:=cfs_app a (h.lg[k].ps[q]).c
      have s2:=zxs_app z h.lg[k].e h.lg[k].n
      rcases hr2 with ⟨f4,f5,m4,m5⟩|⟨f4,f5,d53,d58⟩
      ·repeat' first|(refine And.intro (by (try simp only[cfs_len,wV,List.length_append,List.length_cons,List.length_nil]);omega) ?_)|(refine Or.inl ?_)|(refine O _ ?_;clear O)|(refine O _ _ ?_;clear O)|(clear O;refine O _ ?_;clear O)|(clear O;clear O;refine O _ ?_;clear O)|(clear O;clear O;clear O;refine O _ ?_;clear O)|(clear O;clear O;clear O;clear O;refine O _ ?_;clear O)|(refine zJ fun K O=>?_)|((first|refine zH ?_|refine zN rfl (by kernel_rfl) ?_|refine zM ?_|refine zK (by kernel_rfl) ?_);simp only[vR,vQ,strip])|((first|refine wIs fun K O=>?_|refine wOs fun K O=>?_|refine wQs fun K O=>?_|refine zW ?_|refine zX ?_|refine zY ?_|refine zL ?_);simp[e1,d1,e7,d7,e8,e21,e22,e23,e29,e30,e31,f4,f5,hlq,hlq',hwq,heq,o,s1,s2,Pt.cells])|(refine wIn ?_;refine And.intro (by kernel_rfl) ?_;try simp only[zZ])|(first|refine zR ?_|refine zT ?_)|((first|refine zI ?_|refine zO ?_|refine zP ?_);try simp)|((first|refine zS ?_|refine wOn ?_|refine wQn ?_);try simp only[zZ])
       refine hL' _ (N'-1) (by omega) ⟨q+1,by omega,?_⟩
       simp[e1,d1,e7,d7,e8,e21,e22,e23,e29,e30,e31,f4,f5,hwq,hsn,addC,addZ,s1,s2]
      ·repeat' first|(refine And.intro (by (try simp only[cfs_len,wV,List.length_append,List.length_cons,List.length_nil]);omega) ?_)|(refine Or.inl ?_)|(refine O _ ?_;clear O)|(refine O _ _ ?_;clear O)|(clear O;refine O _ ?_;clear O)|(clear O;clear O;refine O _ ?_;clear O)|(clear O;clear O;clear O;refine O _ ?_;clear O)|(clear O;clear O;clear O;clear O;refine O _ ?_;clear O)|(refine zJ fun K O=>?_)|((first|refine zH ?_|refine zN rfl (by kernel_rfl) ?_|refine zM ?_|refine zK (by kernel_rfl) ?_);simp only[vR,vQ,strip])|((first|refine wIs fun K O=>?_|refine wOs fun K O=>?_|refine wQs fun K O=>?_|refine zW ?_|refine zX ?_|refine zY ?_|refine zL ?_);simp[e1,d1,e7,d7,e8,e21,e22,e23,e29,e30,e31,f4,f5,d53,d58,hlq,hlq',hwq,heq,o,s1,s2,Pt.cells])|(refine wIn ?_;refine And.intro (by kernel_rfl) ?_;try simp only[zZ])|(first|refine zR ?_|refine zT ?_)|((first|refine zI ?_|refine zO ?_|refine zP ?_);try simp)|((first|refine zS ?_|refine wOn ?_|refine wQn ?_);try simp only[zZ])
       refine hL' _ (N'-1) (by omega) ⟨q+1,by omega,?_⟩
       simp[e1,d1,e7,d7,e8,e21,e22,e23,e29,e30,e31,f4,f5,d53,d58,hwq,hsn,addC,addZ,s1,s2]
     |some c =>
      rw[hlc] at e8 hr2
      simp only[addC,addZ,Option.isSome] at e8 hr2
      have s1:=cfs_app a (h.lg[k].ps[q]).c
      have s2:=zxs_app z h.lg[k].e h.lg[k].n
      have s3:=cfs_cut a c
      have s4:=zxs_cut z ⟨h.lg[k].e,h.lg[k].n⟩
      have w1:IntKind.i64.wrap (a.length:Int)=a.length:=by rw[zF] <;> omega
      have w2:IntKind.i64.wrap (z.length:Int)=z.length:=by rw[zF] <;> omega
      rcases hr2 with ⟨f4,f5,m4,m5⟩|⟨f4,f5,d53,d58⟩
      ·rw[List.length_append,List.length_cons,List.length_nil] at m4;omega
      ·repeat' first|(refine And.intro (by (try simp only[cfs_len,wV,List.length_append,List.length_cons,List.length_nil]);omega) ?_)|(refine Or.inl ?_)|(refine O _ ?_;clear O)|(refine O _ _ ?_;clear O)|(clear O;refine O _ ?_;clear O)|(clear O;clear O;refine O _ ?_;clear O)|(clear O;clear O;clear O;refine O _ ?_;clear O)|(clear O;clear O;clear O;clear O;refine O _ ?_;clear O)|(refine zJ fun K O=>?_)|((first|refine zH ?_|refine zN rfl (by kernel_rfl) ?_|refine zM ?_|refine zK (by kernel_rfl) ?_);simp only[vR,vQ,strip])|((first|refine wIs fun K O=>?_|refine wOs fun K O=>?_|refine wQs fun K O=>?_|refine zW ?_|refine zX ?_|refine zY ?_|refine zL ?_);simp[e1,d1,e7,d7,e8,e21,e22,e23,e29,e30,e31,f4,f5,d53,d58,hlq,hlq',hwq,heq,o,s1,s2,s3,s4,w1,w2,cfs_len,wV,Pt.cells])|(refine wIn ?_;refine And.intro (by kernel_rfl) ?_;try simp only[zZ])|(first|refine zR ?_|refine zT ?_)|((first|refine zI ?_|refine zO ?_|refine zP ?_);try simp)|((first|refine zS ?_|refine wOn ?_|refine wQn ?_);try simp only[zZ])
       refine hL' _ (N'-1) (by omega) ⟨q+1,by omega,?_⟩
       simp[e1,d1,e7,d7,e8,e21,e22,e23,e29,e30,e31,f4,f5,d53,d58,hwq,hsn,addC,addZ,s1,s2]
    ·rw[if_neg o] at hsn
     rcases hr2 with ⟨f4,f5,m4,m5⟩|⟨f4,f5,d53,d58⟩
     ·repeat' first|(refine O _ ?_;clear O)|(refine O _ _ ?_;clear O)|(clear O;refine O _ ?_;clear O)|(clear O;clear O;refine O _ ?_;clear O)|(clear O;clear O;clear O;refine O _ ?_;clear O)|(clear O;clear O;clear O;clear O;refine O _ ?_;clear O)|(refine zJ fun K O=>?_)|((first|refine zH ?_|refine zN rfl (by kernel_rfl) ?_|refine zM ?_|refine zK (by kernel_rfl) ?_);simp only[vR,vQ,strip])|((first|refine wIs fun K O=>?_|refine wOs fun K O=>?_|refine wQs fun K O=>?_|refine zW ?_|refine zX ?_|refine zY ?_|refine zL ?_);simp[e1,d1,e7,d7,e8,e21,e22,e23,e29,e30,e31,f4,f5,hlq,hlq',hwq,heq,o,Pt.cells])|(refine wIn ?_;refine And.intro (by kernel_rfl) ?_;try simp only[zZ])|(first|refine zR ?_|refine zT ?_)|((first|refine zI ?_|refine zO ?_|refine zP ?_);try simp)|((first|refine zS ?_|refine wOn ?_|refine wQn ?_);try simp only[zZ])
      refine hL' _ (N'-1) (by omega) ⟨q+1,by omega,?_⟩
      simp[e1,d1,e7,d7,e8,e21,e22,e23,e29,e30,e31,f4,f5,hwq,hsn,m4,m5]
     ·repeat' first|(refine O _ ?_;clear O)|(refine O _ _ ?_;clear O)|(clear O;refine O _ ?_;clear O)|(clear O;clear O;refine O _ ?_;clear O)|(clear O;clear O;clear O;refine O _ ?_;clear O)|(clear O;clear O;clear O;clear O;refine O _ ?_;clear O)|(refine zJ fun K O=>?_)|((first|refine zH ?_|refine zN rfl (by kernel_rfl) ?_|refine zM ?_|refine zK (by kernel_rfl) ?_);simp only[vR,vQ,strip])|((first|refine wIs fun K O=>?_|refine wOs fun K O=>?_|refine wQs fun K O=>?_|refine zW ?_|refine zX ?_|refine zY ?_|refine zL ?_);simp[e1,d1,e7,d7,e8,e21,e22,e23,e29,e30,e31,f4,f5,d53,d58,hlq,hlq',hwq,heq,o,Pt.cells])|(refine wIn ?_;refine And.intro (by kernel_rfl) ?_;try simp only[zZ])|(first|refine zR ?_|refine zT ?_)|((first|refine zI ?_|refine zO ?_|refine zP ?_);try simp)|((first|refine zS ?_|refine wOn ?_|refine wQn ?_);try simp only[zZ])
      refine hL' _ (N'-1) (by omega) ⟨q+1,by omega,?_⟩
      simp[e1,d1,e7,d7,e8,e21,e22,e23,e29,e30,e31,f4,f5,d53,d58,hwq,hsn]
   ·have hlq':¬ (q:Int)<h.lg[k].ps.length:=by omega
    rw[List.take_of_length_le (by omega)] at hr2
    rw[<- hca,<- hza] at hr2
    have hl1:(zxA h (h.lg.take (k+1))).length=(cfA h (h.lg.take (k+1))).length/\1<=(cfA h (h.lg.take (k+1))).length/\(cfA h (h.lg.take (k+1))).length<=k+2:=by
     rw[hca,hza]
     cases yH h.lg[k].ps <;> simp[addC,addZ] <;> omega
    rcases hr2 with ⟨f4,f5,m4,m5⟩|⟨f4,f5,d53,d58⟩
    ·repeat' first|(refine O _ ?_;clear O)|(refine O _ _ ?_;clear O)|(clear O;refine O _ ?_;clear O)|(clear O;clear O;refine O _ ?_;clear O)|(clear O;clear O;clear O;refine O _ ?_;clear O)|(clear O;clear O;clear O;clear O;refine O _ ?_;clear O)|(refine zJ fun K O=>?_)|((first|refine zH ?_|refine zN rfl (by kernel_rfl) ?_|refine zM ?_|refine zK (by kernel_rfl) ?_);simp only[vR,vQ,strip])|((first|refine wIs fun K O=>?_|refine wOs fun K O=>?_|refine wQs fun K O=>?_|refine zW ?_|refine zX ?_|refine zY ?_|refine zL ?_);simp[e1,d1,e7,d7,e8,e21,e22,e23,e29,e30,e31,f4,f5,hlq,hlq',hw])|(refine wIn ?_;refine And.intro (by kernel_rfl) ?_;try simp only[zZ])|(first|refine zR ?_|refine zT ?_)|((first|refine zI ?_|refine zO ?_|refine zP ?_);try simp)|((first|refine zS ?_|refine wOn ?_|refine wQn ?_);try simp only[zZ])
     refine hL _ (N-1) (by omega) ⟨k+1,_,_,by omega,rfl,rfl,hl1.1,hl1.2.1,hl1.2.2,?_⟩
     simp[e1,d1,e7,d7,e8,e21,e22,e23,e29,e30,e31,f4,f5,hw,m4,m5]
    ·repeat' first|(refine O _ ?_;clear O)|(refine O _ _ ?_;clear O)|(clear O;refine O _ ?_;clear O)|(clear O;clear O;refine O _ ?_;clear O)|(clear O;clear O;clear O;refine O _ ?_;clear O)|(clear O;clear O;clear O;clear O;refine O _ ?_;clear O)|(refine zJ fun K O=>?_)|((first|refine zH ?_|refine zN rfl (by kernel_rfl) ?_|refine zM ?_|refine zK (by kernel_rfl) ?_);simp only[vR,vQ,strip])|((first|refine wIs fun K O=>?_|refine wOs fun K O=>?_|refine wQs fun K O=>?_|refine zW ?_|refine zX ?_|refine zY ?_|refine zL ?_);simp[e1,d1,e7,d7,e8,e21,e22,e23,e29,e30,e31,f4,f5,d53,d58,hlq,hlq',hw])|(refine wIn ?_;refine And.intro (by kernel_rfl) ?_;try simp only[zZ])|(first|refine zR ?_|refine zT ?_)|((first|refine zI ?_|refine zO ?_|refine zP ?_);try simp)|((first|refine zS ?_|refine wOn ?_|refine wQn ?_);try simp only[zZ])
     refine hL _ (N-1) (by omega) ⟨k+1,_,_,by omega,rfl,rfl,hl1.1,hl1.2.1,hl1.2.2,?_⟩
     simp[e1,d1,e7,d7,e8,e21,e22,e23,e29,e30,e31,f4,f5,d53,d58,hw]
  ·repeat' first|(refine O _ ?_;clear O)|(refine O _ _ ?_;clear O)|(clear O;refine O _ ?_;clear O)|(clear O;clear O;refine O _ ?_;clear O)|(clear O;clear O;clear O;refine O _ ?_;clear O)|(clear O;clear O;clear O;clear O;refine O _ ?_;clear O)|(refine zJ fun K O=>?_)|((first|refine zH ?_|refine zN rfl (by kernel_rfl) ?_|refine zM ?_|refine zK (by kernel_rfl) ?_);simp only[vR,vQ,strip])|((first|refine wIs fun K O=>?_|refine wOs fun K O=>?_|refine wQs fun K O=>?_|refine zW ?_|refine zX ?_|refine zY ?_|refine zL ?_);simp[g1,b1,g21,g22,g23,g4,g5,b53,b58,hlt,hlt',he])|(refine wIn ?_;refine And.intro (by kernel_rfl) ?_;try simp only[zZ])|(first|refine zR ?_|refine zT ?_)|((first|refine zI ?_|refine zO ?_|refine zP ?_);try simp)|((first|refine zS ?_|refine wOn ?_|refine wQn ?_);try simp only[zZ])|(refine zU.p (c2) rfl ?_)|(refine zU.l (c2) rfl ?_)|(refine zQ.pure (c2) rfl ?_)|(refine zQ.lent (c2) rfl ?_)|(refine zU.o (c2) ?_)|(refine zV.p (c2) rfl ?_)|(refine zV.l (c2) rfl ?_)|(refine zV.o (c2) ?_)
   refine zC (fun N' st=>∃ (q:Nat),q+N'=h.lg[k].ps.length/\st.s 1=.ptr 1 0/\st.b 1=some (.box 33 [.p (.sl 5 (zns h.im.ns)),.p (.sl 1 (ints h.im.ss)),.p (I h.im.nx),.p (I h.im.c.ep),.p (I h.im.c.n),.p (I h.im.c.kind),.p (.sl 4 (mbs h.im.c.ms)),.p (I h.im.ae),.p (I h.im.an),.p (.sl 8 (xI h.lg))])/\st.s 21=.p (.sl 8 (xI h.lg))/\st.s 22=.p (I h.lg.length)/\st.s 23=.p (I k)/\st.s 7=.ptr 7 0/\st.b 7=some (.box 63 [.p (I h.lg[k].e),.p (I h.lg[k].n),.p (I h.lg[k].s),.p (I h.lg[k].x),.p (I h.lg[k].r),.p (I h.lg[k].b),.p (SB h.lg[k].m),.p (.sl 11 (pts h.lg[k].ps))])/\st.s 8=.p (B (yH (h.lg[k].ps.take q)).isSome)/\st.s 29=.p (.sl 11 (pts h.lg[k].ps))/\st.s 30=.p (I h.lg[k].ps.length)/\st.s 31=.p (I q)/\((st.s 4=.full 4 (cfs (addC a (yH (h.lg[k].ps.take q))))/\st.s 5=.full 2 (zxs (addZ z ⟨h.lg[k].e,h.lg[k].n⟩ (yH (h.lg[k].ps.take q))))/\(addC a (yH (h.lg[k].ps.take q))).length=1/\(addZ z ⟨h.lg[k].e,h.lg[k].n⟩ (yH (h.lg[k].ps.take q))).length=1)\/(st.s 4=.row 53/\st.s 5=.row 58/\st.b 53=some (.row 28 4 (cfs (addC a (yH (h.lg[k].ps.take q)))))/\st.b 58=some (.row 25 2 (zxs (addZ z ⟨h.lg[k].e,h.lg[k].n⟩ (yH (h.lg[k].ps.take q)))))))) h.lg[k].ps.length ⟨0,by simp[g1,b1,g21,g22,g23,g4,g5,b53,b58,yH,addC,addZ]⟩ fun K' N' st hL' ⟨q,hq,e1,d1,e21,e22,e23,e7,d7,e8,e29,e30,e31,hr2⟩=>?_
   by_cases hlq:q<h.lg[k].ps.length
   ·have hlq':(q:Int)<h.lg[k].ps.length:=by omega
    have hwq:=yV q _ hlq (by omega)
    have heq:=pts_get hlq
    have hsn:=lastC_snoc hlq
    by_cases o:(h.lg[k].ps[q]).k=5
    ·rw[if_pos o] at hsn
     cases hlc:yH (h.lg[k].ps.take q) with
     |none =>
      rw[hlc] at e8 hr2
      simp only[addC,addZ,Option.isSome] at e8 hr2
      have s1:=cfs_app a (h.lg[k].ps[q]).c
      have s2:=zxs_app z h.lg[k].e h.lg[k].n
      rcases hr2 with ⟨f4,f5,m4,m5⟩|⟨f4,f5,d53,d58⟩
      ·repeat' first|(refine And.intro (by (try simp only[cfs_len,wV,List.length_append,List.length_cons,List.length_nil]);omega) ?_)|(refine Or.inl ?_)|(refine O _ ?_;clear O)|(refine O _ _ ?_;clear O)|(clear O;refine O _ ?_;clear O)|(clear O;clear O;refine O _ ?_;clear O)|(clear O;clear O;clear O;refine O _ ?_;clear O)|(clear O;clear O;clear O;clear O;refine O _ ?_;clear O)|(refine zJ fun K O=>?_)|((first|refine zH ?_|refine zN rfl (by kernel_rfl) ?_|refine zM ?_|refine zK (by kernel_rfl) ?_);simp only[vR,vQ,strip])|((first|refine wIs fun K O=>?_|refine wOs fun K O=>?_|refine wQs fun K O=>?_|refine zW ?_|refine zX ?_|refine zY ?_|refine zL ?_);simp[e1,d1,e7,d7,e8,e21,e22,e23,e29,e30,e31,f4,f5,hlq,hlq',hwq,heq,o,s1,s2,Pt.cells])|(refine wIn ?_;refine And.intro (by kernel_rfl) ?_;try simp only[zZ])|(first|refine zR ?_|refine zT ?_)|((first|refine zI ?_|refine zO ?_|refine zP ?_);try simp)|((first|refine zS ?_|refine wOn ?_|refine wQn ?_);try simp only[zZ])
       refine hL' _ (N'-1) (by omega) ⟨q+1,by omega,?_⟩
       simp[e1,d1,e7,d7,e8,e21,e22,e23,e29,e30,e31,f4,f5,hwq,hsn,addC,addZ,s1,s2]
      ·repeat' first|(refine And.intro (by (try simp only[cfs_len,wV,List.length_append,List.length_cons,List.length_nil]);omega) ?_)|(refine Or.inl ?_)|(refine O _ ?_;clear O)|(refine O _ _ ?_;clear O)|(clear O;refine O _ ?_;clear O)|(clear O;clear O;refine O _ ?_;clear O)|(clear O;clear O;clear O;refine O _ ?_;clear O)|(clear O;clear O;clear O;clear O;refine O _ ?_;clear O)|(refine zJ fun K O=>?_)|((first|refine zH ?_|refine zN rfl (by kernel_rfl) ?_|refine zM ?_|refine zK (by kernel_rfl) ?_);simp only[vR,vQ,strip])|((first|refine wIs fun K O=>?_|refine wOs fun K O=>?_|refine wQs fun K O=>?_|refine zW ?_|refine zX ?_|refine zY ?_|refine zL ?_);simp[e1,d1,e7,d7,e8,e21,e22,e23,e29,e30,e31,f4,f5,d53,d58,hlq,hlq',hwq,heq,o,s1,s2,Pt.cells])|(refine wIn ?_;refine And.intro (by kernel_rfl) ?_;try simp only[zZ])|(first|refine zR ?_|refine zT ?_)|((first|refine zI ?_|refine zO ?_|refine zP ?_);try simp)|((first|refine zS ?_|refine wOn ?_|refine wQn ?_);try simp only[zZ])
       refine hL' _ (N'-1) (by omega) ⟨q+1,by omega,?_⟩
       simp[e1,d1,e7,d7,e8,e21,e22,e23,e29,e30,e31,f4,f5,d53,d58,hwq,hsn,addC,addZ,s1,s2]
     |some c =>
      rw[hlc] at e8 hr2
      simp only[addC,addZ,Option.isSome] at e8 hr2
      have s1:=cfs_app a (h.lg[k].ps[q]).c
      have s2:=zxs_app z h.lg[k].e h.lg[k].n
      have s3:=cfs_cut a c
      have s4:=zxs_cut z ⟨h.lg[k].e,h.lg[k].n⟩
      have w1:IntKind.i64.wrap (a.length:Int)=a.length:=by rw[zF] <;> omega
      have w2:IntKind.i64.wrap (z.length:Int)=z.length:=by rw[zF] <;> omega
      rcases hr2 with ⟨f4,f5,m4,m5⟩|⟨f4,f5,d53,d58⟩
      ·rw[List.length_append,List.length_cons,List.length_nil] at m4;omega
      ·repeat' first|(refine And.intro (by (try simp only[cfs_len,wV,List.length_append,List.length_cons,List.length_nil]);omega) ?_)|(refine Or.inl ?_)|(refine O _ ?_;clear O)|(refine O _ _ ?_;clear O)|(clear O;refine O _ ?_;clear O)|(clear O;clear O;refine O _ ?_;clear O)|(clear O;clear O;clear O;refine O _ ?_;clear O)|(clear O;clear O;clear O;clear O;refine O _ ?_;clear O)|(refine zJ fun K O=>?_)|((first|refine zH ?_|refine zN rfl (by kernel_rfl) ?_|refine zM ?_|refine zK (by kernel_rfl) ?_);simp only[vR,vQ,strip])|((first|refine wIs fun K O=>?_|refine wOs fun K O=>?_|refine wQs fun K O=>?_|refine zW ?_|refine zX ?_|refine zY ?_|refine zL ?_);simp[e1,d1,e7,d7,e8,e21,e22,e23,e29,e30,e31,f4,f5,d53,d58,hlq,hlq',hwq,heq,o,s1,s2,s3,s4,w1,w2,cfs_len,wV,Pt.cells])|(refine wIn ?_;refine And.intro (by kernel_rfl) ?_;try simp only[zZ])|(first|refine zR ?_|refine zT ?_)|((first|refine zI ?_|refine zO ?_|refine zP ?_);try simp)|((first|refine zS ?_|refine wOn ?_|refine wQn ?_);try simp only[zZ])
       refine hL' _ (N'-1) (by omega) ⟨q+1,by omega,?_⟩
       simp[e1,d1,e7,d7,e8,e21,e22,e23,e29,e30,e31,f4,f5,d53,d58,hwq,hsn,addC,addZ,s1,s2]
    ·rw[if_neg o] at hsn
     rcases hr2 with ⟨f4,f5,m4,m5⟩|⟨f4,f5,d53,d58⟩
     ·repeat' first|(refine O _ ?_;clear O)|(refine O _ _ ?_;clear O)|(clear O;refine O _ ?_;clear O)|(clear O;clear O;refine O _ ?_;clear O)|(clear O;clear O;clear O;refine O _ ?_;clear O)|(clear O;clear O;clear O;clear O;refine O _ ?_;clear O)|(refine zJ fun K O=>?_)|((first|refine zH ?_|refine zN rfl (by kernel_rfl) ?_|refine zM ?_|refine zK (by kernel_rfl) ?_);simp only[vR,vQ,strip])|((first|refine wIs fun K O=>?_|refine wOs fun K O=>?_|refine wQs fun K O=>?_|refine zW ?_|refine zX ?_|refine zY ?_|refine zL ?_);simp[e1,d1,e7,d7,e8,e21,e22,e23,e29,e30,e31,f4,f5,hlq,hlq',hwq,heq,o,Pt.cells])|(refine wIn ?_;refine And.intro (by kernel_rfl) ?_;try simp only[zZ])|(first|refine zR ?_|refine zT ?_)|((first|refine zI ?_|refine zO ?_|refine zP ?_);try simp)|((first|refine zS ?_|refine wOn ?_|refine wQn ?_);try simp only[zZ])
      refine hL' _ (N'-1) (by omega) ⟨q+1,by omega,?_⟩
      simp[e1,d1,e7,d7,e8,e21,e22,e23,e29,e30,e31,f4,f5,hwq,hsn,m4,m5]
     ·repeat' first|(refine O _ ?_;clear O)|(refine O _ _ ?_;clear O)|(clear O;refine O _ ?_;clear O)|(clear O;clear O;refine O _ ?_;clear O)|(clear O;clear O;clear O;refine O _ ?_;clear O)|(clear O;clear O;clear O;clear O;refine O _ ?_;clear O)|(refine zJ fun K O=>?_)|((first|refine zH ?_|refine zN rfl (by kernel_rfl) ?_|refine zM ?_|refine zK (by kernel_rfl) ?_);simp only[vR,vQ,strip])|((first|refine wIs fun K O=>?_|refine wOs fun K O=>?_|refine wQs fun K O=>?_|refine zW ?_|refine zX ?_|refine zY ?_|refine zL ?_);simp[e1,d1,e7,d7,e8,e21,e22,e23,e29,e30,e31,f4,f5,d53,d58,hlq,hlq',hwq,heq,o,Pt.cells])|(refine wIn ?_;refine And.intro (by kernel_rfl) ?_;try simp only[zZ])|(first|refine zR ?_|refine zT ?_)|((first|refine zI ?_|refine zO ?_|refine zP ?_);try simp)|((first|refine zS ?_|refine wOn ?_|refine wQn ?_);try simp only[zZ])
      refine hL' _ (N'-1) (by omega) ⟨q+1,by omega,?_⟩
      simp[e1,d1,e7,d7,e8,e21,e22,e23,e29,e30,e31,f4,f5,d53,d58,hwq,hsn]
   ·have hlq':¬ (q:Int)<h.lg[k].ps.length:=by omega
    rw[List.take_of_length_le (by omega)] at hr2
    rw[<- hca,<- hza] at hr2
    have hl1:(zxA h (h.lg.take (k+1))).length=(cfA h (h.lg.take (k+1))).length/\1<=(cfA h (h.lg.take (k+1))).length/\(cfA h (h.lg.take (k+1))).length<=k+2:=by
     rw[hca,hza]
     cases yH h.lg[k].ps <;> simp[addC,addZ] <;> omega
    rcases hr2 with ⟨f4,f5,m4,m5⟩|⟨f4,f5,d53,d58⟩
    ·repeat' first|(refine O _ ?_;clear O)|(refine O _ _ ?_;clear O)|(clear O;refine O _ ?_;clear O)|(clear O;clear O;refine O _ ?_;clear O)|(clear O;clear O;clear O;refine O _ ?_;clear O)|(clear O;clear O;clear O;clear O;refine O _ ?_;clear O)|(refine zJ fun K O=>?_)|((first|refine zH ?_|refine zN rfl (by kernel_rfl) ?_|refine zM ?_|refine zK (by kernel_rfl) ?_);simp only[vR,vQ,strip])|((first|refine wIs fun K O=>?_|refine wOs fun K O=>?_|refine wQs fun K O=>?_|refine zW ?_|refine zX ?_|refine zY ?_|refine zL ?_);simp[e1,d1,e7,d7,e8,e21,e22,e23,e29,e30,e31,f4,f5,hlq,hlq',hw])|(refine wIn ?_;refine And.intro (by kernel_rfl) ?_;try simp only[zZ])|(first|refine zR ?_|refine zT ?_)|((first|refine zI ?_|refine zO ?_|refine zP ?_);try simp)|((first|refine zS ?_|refine wOn ?_|refine wQn ?_);try simp only[zZ])
     refine hL _ (N-1) (by omega) ⟨k+1,_,_,by omega,rfl,rfl,hl1.1,hl1.2.1,hl1.2.2,?_⟩
     simp[e1,d1,e7,d7,e8,e21,e22,e23,e29,e30,e31,f4,f5,hw,m4,m5]
    ·repeat' first|(refine O _ ?_;clear O)|(refine O _ _ ?_;clear O)|(clear O;refine O _ ?_;clear O)|(clear O;clear O;refine O _ ?_;clear O)|(clear O;clear O;clear O;refine O _ ?_;clear O)|(clear O;clear O;clear O;clear O;refine O _ ?_;clear O)|(refine zJ fun K O=>?_)|((first|refine zH ?_|refine zN rfl (by kernel_rfl) ?_|refine zM ?_|refine zK (by kernel_rfl) ?_);simp only[vR,vQ,strip])|((first|refine wIs fun K O=>?_|refine wOs fun K O=>?_|refine wQs fun K O=>?_|refine zW ?_|refine zX ?_|refine zY ?_|refine zL ?_);simp[e1,d1,e7,d7,e8,e21,e22,e23,e29,e30,e31,f4,f5,d53,d58,hlq,hlq',hw])|(refine wIn ?_;refine And.intro (by kernel_rfl) ?_;try simp only[zZ])|(first|refine zR ?_|refine zT ?_)|((first|refine zI ?_|refine zO ?_|refine zP ?_);try simp)|((first|refine zS ?_|refine wOn ?_|refine wQn ?_);try simp only[zZ])
     refine hL _ (N-1) (by omega) ⟨k+1,_,_,by omega,rfl,rfl,hl1.1,hl1.2.1,hl1.2.2,?_⟩
     simp[e1,d1,e7,d7,e8,e21,e22,e23,e29,e30,e31,f4,f5,d53,d58,hw]
 ·have hlt':¬ (k:Int)<h.lg.length:=by omega
  rw[List.take_of_length_le (by omega)] at ha hz
  rw[<- ha,<- hz] at hr
  rcases hrow with ⟨g4,g5,l4,l5⟩|⟨g4,g5,b53,b58⟩
  ·repeat' first|(refine O _ ?_;clear O)|(refine O _ _ ?_;clear O)|(clear O;refine O _ ?_;clear O)|(clear O;clear O;refine O _ ?_;clear O)|(clear O;clear O;clear O;refine O _ ?_;clear O)|(clear O;clear O;clear O;clear O;refine O _ ?_;clear O)|(refine zJ fun K O=>?_)|((first|refine zH ?_|refine zN rfl (by kernel_rfl) ?_|refine zM ?_|refine zK (by kernel_rfl) ?_);simp only[vR,vQ,strip])|((first|refine wIs fun K O=>?_|refine wOs fun K O=>?_|refine wQs fun K O=>?_|refine zW ?_|refine zX ?_|refine zY ?_|refine zL ?_);simp[g1,b1,g21,g22,g23,g4,g5,hlt,hlt'])|(refine wIn ?_;refine And.intro (by kernel_rfl) ?_;try simp only[zZ])|(first|refine zR ?_|refine zT ?_)|((first|refine zI ?_|refine zO ?_|refine zP ?_);try simp)|((first|refine zS ?_|refine wOn ?_|refine wQn ?_);try simp only[zZ])
   all_goals apply hr
   all_goals simp[Tryz.f42]
  ·repeat' first|(refine O _ ?_;clear O)|(refine O _ _ ?_;clear O)|(clear O;refine O _ ?_;clear O)|(clear O;clear O;refine O _ ?_;clear O)|(clear O;clear O;clear O;refine O _ ?_;clear O)|(clear O;clear O;clear O;clear O;refine O _ ?_;clear O)|(refine zJ fun K O=>?_)|((first|refine zH ?_|refine zN rfl (by kernel_rfl) ?_|refine zM ?_|refine zK (by kernel_rfl) ?_);simp only[vR,vQ,strip])|((first|refine wIs fun K O=>?_|refine wOs fun K O=>?_|refine wQs fun K O=>?_|refine zW ?_|refine zX ?_|refine zY ?_|refine zL ?_);simp[g1,b1,g21,g22,g23,g4,g5,b53,b58,hlt,hlt'])|(refine wIn ?_;refine And.intro (by kernel_rfl) ?_;try simp only[zZ])|(first|refine zR ?_|refine zT ?_)|((first|refine zI ?_|refine zO ?_|refine zP ?_);try simp)|((first|refine zS ?_|refine wOn ?_|refine wQn ?_);try simp only[zZ])
   all_goals apply hr
   all_goals simp[Tryz.f42,b53,b58,g4,g5]
theorem cfs_drop (p l:List Cf):(cfs (p++l)).drop p.length=cfs l:=by simp[cfs]
set_option maxHeartbeats 4000000 in
theorem needs16_con (h:Hy)(de dn:Int)(hk:OkH h):zE Tryz.prog 15 [.p (.agg h.cells),.p (.agg [I de,I dn])] (.p (.sl 4 (cfs (wE h de dn)))):=by
 have c1:=configs16_con h hk
 obtain⟨pre,prz,h1,h2,h3,h4,h5⟩:=cfA_ns h h.lg.length (l:=h.lg) (Nat.le_refl _)
 have hlg:=hk.lg
 simp only[List.take_length] at h1 h2 h3 h4 h5
 have c2:=cmp02_con (nsOf h h.lg).fe (nsOf h h.lg).fn de dn
 unfold wE endN
 generalize nsOf h h.lg=s at h1 h2 h3 c2 ⊢
 generalize cfA h h.lg=L at c1 h1 h4 h5
 generalize zxA h h.lg=Z at c1 h3 h4
 have hZ:Z.length=prz.length+1:=by rw[h3];simp
 have hZg:(zxs Z)[prz.length]?=some [I s.fe,I s.fn]:=by rw[h3];simp[zxs]
 have hcl:=cfs_len L
 have hzl:=wV Z
 unfold Hy.cells at c1 ⊢
 by_cases o1:s.ch=false
 ·rw[if_pos (.inl o1)]
  obtain rfl:=h2 o1
  rw[if_neg (by simp[o1]),List.nil_append] at h1
  have hl1:L.length=1:=by rw[h1];rfl
  have e1:(cfs L).drop 0=cfs [s.now]:=by rw[h1];rfl
  have e2:cfs L=cfs [s.now]:=by rw[h1]
  rw[hl1] at hcl
  have w0:IntKind.i64.wrap 0=0:=by rw[zF] <;> omega
  refine zG Tryz.tab Tryz.mixed Tryz.func15 rfl rfl Tryz.ntmps15 (by simp) (by simp) fun Q hr hn=>?_
  repeat' first|((first|refine O _ ?_|refine O _ _ ?_|(clear O;refine O _ ?_));clear O)|(refine zJ fun K O=>?_)|((first|refine zH ?_|refine zN rfl (by kernel_rfl) ?_|refine zM ?_|refine zK (by kernel_rfl) ?_);simp only[vR,vQ,strip])|((first|refine wIs fun K O=>?_|refine wOs fun K O=>?_|refine wQs fun K O=>?_|refine zW ?_|refine zX ?_|refine zY ?_|refine zL ?_);simp[hcl,e1,w0])|(refine wIn ?_;refine And.intro (by kernel_rfl) ?_;try simp only[zZ])|refine zR ?_|refine zT ?_|((first|refine zI ?_|refine zO ?_|refine zP ?_);try simp)|((first|refine zS ?_|refine wOn ?_|refine wQn ?_);try simp only[zZ])|refine zU.p c1 rfl ?_|refine zU.l c1 rfl ?_|refine zQ.pure c1 rfl ?_|refine zQ.lent c1 rfl ?_|refine zU.o c1 ?_|refine zV.p c1 rfl ?_|refine zV.l c1 rfl ?_|refine zV.o c1 ?_
  all_goals apply hr
  all_goals simp[Tryz.f15,e2]
  all_goals rfl
 ·have o1':s.ch=true:=by simpa using o1
  rw[if_pos o1'] at h1
  have hl1:L.length=pre.length+2:=by rw[h1];simp
  have hpp:prz.length=pre.length+1:=by omega
  rw[hpp] at hZg hZ
  rw[hl1] at hcl
  rw[hZ] at hzl
  have w1:IntKind.i64.wrap ((pre.length:Int)+2-1)=(pre.length:Int)+1:=by rw[zF] <;> omega
  have w2:IntKind.i64.wrap ((pre.length:Int)+1-1)=(pre.length:Int):=by rw[zF] <;> omega
  have w2':IntKind.i64.wrap (pre.length:Int)=(pre.length:Int):=by rw[zF] <;> omega
  have n0:¬ (pre.length:Int)+1=0:=by omega
  have n1:(0:Int)<=(pre.length:Int)+1:=by omega
  have n2:((pre.length:Int)+1).toNat=pre.length+1:=by omega
  have n3:pre.length+1<Z.length:=by omega
  have n4:pre.length+1<=L.length:=by omega
  have n5:pre.length<=L.length:=by omega
  have e1:(cfs L).drop (pre.length+1)=cfs [s.now]:=by
   have:=cfs_drop (pre++[s.was]) [s.now]
   rw[List.append_assoc,List.singleton_append,<- h1] at this
   rw[<- this];congr 1;simp
  have e2:(cfs L).drop pre.length=cfs [s.was,s.now]:=by
   have:=cfs_drop pre [s.was,s.now]
   rw[<- h1] at this
   exact this
  have hz1:(Z[pre.length+1]'(by omega))=⟨s.fe,s.fn⟩:=by
   have:Z[pre.length+1]?=some ⟨s.fe,s.fn⟩:=by rw[h3,<- hpp];simp
   rw[List.getElem?_eq_getElem (by omega)] at this
   exact Option.some.inj this
  have hfe:s.fe=(Z[pre.length+1]'(by omega)).e:=by rw[hz1]
  have hfn:s.fn=(Z[pre.length+1]'(by omega)).n:=by rw[hz1]
  rw[hfe,hfn] at c2 ⊢
  clear hz1 hfe hfn hZg
  by_cases o2:wU (Z[pre.length+1]'(by omega)).e (Z[pre.length+1]'(by omega)).n de dn<=0
  ·rw[if_pos (.inr o2)]
   refine zG Tryz.tab Tryz.mixed Tryz.func15 rfl rfl Tryz.ntmps15 (by simp) (by simp) fun Q hr hn=>?_
   repeat' first|((first|refine O _ ?_|refine O _ _ ?_|(clear O;refine O _ ?_));clear O)|(refine zJ fun K O=>?_)|((first|refine zH ?_|refine zN rfl (by kernel_rfl) ?_|refine zM ?_|refine zK (by kernel_rfl) ?_);simp only[vR,vQ,strip])|((first|refine wIs fun K O=>?_|refine wOs fun K O=>?_|refine wQs fun K O=>?_|refine zW ?_|refine zX ?_|refine zY ?_|refine zL ?_);simp[hcl,hzl,w1,w2,w2',n0,n1,n2,n3,n4,n5,e1,e2,o2,hl1])|(refine wIn ?_;refine And.intro (by kernel_rfl) ?_;try simp only[zZ])|refine zR ?_|refine zT ?_|((first|refine zI ?_|refine zO ?_|refine zP ?_);try simp)|((first|refine zS ?_|refine wOn ?_|refine wQn ?_);try simp only[zZ])|refine zU.p c1 rfl ?_|refine zU.l c1 rfl ?_|refine zQ.pure c1 rfl ?_|refine zQ.lent c1 rfl ?_|refine zU.o c1 ?_|refine zV.p c1 rfl ?_|refine zV.l c1 rfl ?_|refine zV.o c1 ?_|refine zU.p c2 rfl ?_|refine zU.l c2 rfl ?_|refine zQ.pure c2 rfl ?_|refine zQ.lent c2 rfl ?_|refine zU.o c2 ?_|refine zV.p c2 rfl ?_|refine zV.l c2 rfl ?_|refine zV.o c2 ?_
   all_goals apply hr
   all_goals simp[Tryz.f15]
   all_goals rw[List.take_of_length_le (by omega),e1]
  ·rw[if_neg (by rintro (h|h);exact o1 h;exact o2 h)]
   refine zG Tryz.tab Tryz.mixed Tryz.func15 rfl rfl Tryz.ntmps15 (by simp) (by simp) fun Q hr hn=>?_
   repeat' first|((first|refine O _ ?_|refine O _ _ ?_|(clear O;refine O _ ?_));clear O)|(refine zJ fun K O=>?_)|((first|refine zH ?_|refine zN rfl (by kernel_rfl) ?_|refine zM ?_|refine zK (by kernel_rfl) ?_);simp only[vR,vQ,strip])|((first|refine wIs fun K O=>?_|refine wOs fun K O=>?_|refine wQs fun K O=>?_|refine zW ?_|refine zX ?_|refine zY ?_|refine zL ?_);simp[hcl,hzl,w1,w2,w2',n0,n1,n2,n3,n4,n5,e1,e2,o2,hl1])|(refine wIn ?_;refine And.intro (by kernel_rfl) ?_;try simp only[zZ])|refine zR ?_|refine zT ?_|((first|refine zI ?_|refine zO ?_|refine zP ?_);try simp)|((first|refine zS ?_|refine wOn ?_|refine wQn ?_);try simp only[zZ])|refine zU.p c1 rfl ?_|refine zU.l c1 rfl ?_|refine zQ.pure c1 rfl ?_|refine zQ.lent c1 rfl ?_|refine zU.o c1 ?_|refine zV.p c1 rfl ?_|refine zV.l c1 rfl ?_|refine zV.o c1 ?_|refine zU.p c2 rfl ?_|refine zU.l c2 rfl ?_|refine zQ.pure c2 rfl ?_|refine zQ.lent c2 rfl ?_|refine zU.o c2 ?_|refine zV.p c2 rfl ?_|refine zV.l c2 rfl ?_|refine zV.o c2 ?_
   all_goals apply hr
   all_goals simp[Tryz.f15]
   all_goals rw[List.take_of_length_le (by omega),e2]
end Go.Proofs.YtpihbhacmokekaaGreatDoor
