/- Texts that the proof needs: RK3 PR6 Aw20 RK4. -/
import Derived.Test.YtpihbhacmokekaaGreatDoorP39ReconfAsks
import Derived.Test.YtpihbhacmokekaaGreatDoorP41ReconfAsks
import Derived.Test.YtpihbhacmokekaaGreatDoorP30ReconfAsks
import Derived.Test.YtpihbhacmokekaaGreatDoorP31ReconfAsks
import Derived.Test.YtpihbhacmokekaaGreatDoorP33ReconfAsks
import Derived.Test.YtpihbhacmokekaaGreatDoorP26ReconfAsks
namespace Go.Proofs.YtpihbhacmokekaaGreatDoor
set_option linter.unusedSimpArgs false
set_option linter.unusedVariables false
set_option maxRecDepth 8000
open Go Go.Av
attribute [local irreducible] Go.Av.yJ Go.Av.zU Go.Av.xY Go.Av.zQ Go.Av.yD Go.Av.zV Go.Av.Con
theorem open09_con (s:Sv)(n:Int):zE Tryz.prog 66 [.p (.agg s.cells),.p (I n)] (.p (B (decide (n∈s.ss)))):=by
 obtain⟨ns,ss,nx,⟨ep,cn,kd,ms⟩,ae,an⟩:=s
 unfold Sv.cells
 dsimp only
 refine zE.lenA ⟨Tryz.f66,Tryz.func66,rfl,rfl⟩ 0 1 1 (ints ss) _ rfl rfl fun hls=>?_
 simp only[ints_len] at hls
 refine zG Tryz.tab Tryz.mixed Tryz.func66 rfl rfl Tryz.ntmps66 (by simp) (by simp) fun Q hr hn=>?_
 repeat' first|((first|refine O _ ?_|refine O _ _ ?_|(clear O;refine O _ ?_));clear O)|(refine zJ fun K O=>?_)|((first|refine zH ?_|refine zN rfl (by kernel_rfl) ?_|refine zM ?_|refine zK (by kernel_rfl) ?_);simp only[vR,vQ,strip])|((first|refine wIs fun K O=>?_|refine wOs fun K O=>?_|refine wQs fun K O=>?_|refine zW ?_|refine zX ?_|refine zY ?_|refine zL ?_);simp)|(refine wIn ?_;refine And.intro (by kernel_rfl) ?_;try simp only[zZ])|refine zR ?_|refine zT ?_|((first|refine zI ?_|refine zO ?_|refine zP ?_);try simp)|((first|refine zS ?_|refine wOn ?_|refine wQn ?_);try simp only[zZ])
 refine zC (fun N st=>∃k,k+N=ss.length/\st.s 1=.p (I n)/\st.s 8=.p (.sl 1 (ints ss))/\st.s 9=.p (I ss.length)/\st.s 10=.p (I k)/\(n∈ss ↔ n∈ss.drop k)) ss.length ⟨0,by simp⟩ fun K N st hL ⟨k,hk,h1,h8,h9,h10,hi⟩=>?_
 by_cases hlt:k<ss.length
 ·have hw:=yV k _ hlt (by omega)
  have he:=vU hlt
  rw[List.drop_eq_getElem_cons hlt,List.mem_cons] at hi
  generalize hF:ss[k]=x at *
  by_cases o:x=n
  ·subst o
   rw[decide_eq_true (hi.2 (.inl rfl))] at hr
   repeat' first|((first|refine O _ ?_|refine O _ _ ?_|(clear O;refine O _ ?_));clear O)|(refine zJ fun K O=>?_)|((first|refine zH ?_|refine zN rfl (by kernel_rfl) ?_|refine zM ?_|refine zK (by kernel_rfl) ?_);simp only[vR,vQ,strip])|((first|refine wIs fun K O=>?_|refine wOs fun K O=>?_|refine wQs fun K O=>?_|refine zW ?_|refine zX ?_|refine zY ?_|refine zL ?_);simp[h1,h8,h9,h10,hlt,hw,he,hF])|(refine wIn ?_;refine And.intro (by kernel_rfl) ?_;try simp only[zZ])|refine zR ?_|refine zT ?_|((first|refine zI ?_|refine zO ?_|refine zP ?_);try simp)|((first|refine zS ?_|refine wOn ?_|refine wQn ?_);try simp only[zZ])
   all_goals apply hr
   all_goals simp[Tryz.f66]
  ·have o':(x=n)=False:=eq_false o
   have hi':n∈ss ↔ n∈ss.drop (k+1):=hi.trans ⟨fun h=>h.elim (fun h=>absurd h.symm o) id,.inr⟩
   repeat' first|((first|refine O _ ?_|refine O _ _ ?_|(clear O;refine O _ ?_));clear O)|(refine zJ fun K O=>?_)|((first|refine zH ?_|refine zN rfl (by kernel_rfl) ?_|refine zM ?_|refine zK (by kernel_rfl) ?_);simp only[vR,vQ,strip])|((first|refine wIs fun K O=>?_|refine wOs fun K O=>?_|refine wQs fun K O=>?_|refine zW ?_|refine zX ?_|refine zY ?_|refine zL ?_);simp[h1,h8,h9,h10,hlt,hw,he,hF,o'])|(refine wIn ?_;refine And.intro (by kernel_rfl) ?_;try simp only[zZ])|refine zR ?_|refine zT ?_|((first|refine zI ?_|refine zO ?_|refine zP ?_);try simp)|((first|refine zS ?_|refine wOn ?_|refine wQn ?_);try simp only[zZ])
   refine hL _ (N-1) (by omega) ⟨k+1,by omega,?_,?_,?_,?_,hi'⟩
   all_goals simp[h1,h8,h9,h10,hw]
 ·rw[List.drop_of_length_le (by omega)] at hi
  rw[decide_eq_false (fun h=>by simpa using hi.1 h)] at hr
  repeat' first|((first|refine O _ ?_|refine O _ _ ?_|(clear O;refine O _ ?_));clear O)|(refine zJ fun K O=>?_)|((first|refine zH ?_|refine zN rfl (by kernel_rfl) ?_|refine zM ?_|refine zK (by kernel_rfl) ?_);simp only[vR,vQ,strip])|((first|refine wIs fun K O=>?_|refine wOs fun K O=>?_|refine wQs fun K O=>?_|refine zW ?_|refine zX ?_|refine zY ?_|refine zL ?_);simp[h1,h8,h9,h10,hlt])|(refine wIn ?_;refine And.intro (by kernel_rfl) ?_;try simp only[zZ])|refine zR ?_|refine zT ?_|((first|refine zI ?_|refine zO ?_|refine zP ?_);try simp)|((first|refine zS ?_|refine wOn ?_|refine wQn ?_);try simp only[zZ])
  all_goals apply hr
  all_goals simp[Tryz.f66]
def mk09 (s:Sv)(r:Rp)(e n:Int):Tx:=if askE s r e n=0 then ⟨e,n,r.s,r.x,0,0,[],[cfgPt (app06 s.c r.d e n)]⟩ else ⟨e,n,r.s,r.x,askE s r e n,0,[],[]⟩
set_option maxHeartbeats 8000000 in
theorem make09_con (s:Sv)(r:Rp)(e n:Int)(h4:r.k=4)(hc:s.c.ms.length<=100000)(hp:r.d.put.length<=100000)(hd:r.d.drop.length<=100000):zE Tryz.prog 33 [.p (.agg s.cells),.p (.agg r.cells),.p (.agg [I e,I n])] (.p (.agg (mk09 s r e n).cells)):=by
 have c1:=open09_con s r.s
 have c2:=apply06_con s.c r.d e n hc hp hd
 unfold mk09 askE
 clear hc hp hd
 generalize appE s.c r.d e n=ae at *
 generalize app06 s.c r.d e n=C at *
 obtain⟨ns,ss,nx,⟨ep,cn,kd,ms⟩,sae,san⟩:=s
 obtain⟨k,rs,x,ops,⟨dk,put,drop⟩,we,wn⟩:=r
 obtain⟨aep,acn,akd,ams⟩:=C
 dsimp only at *
 subst h4
 by_cases h1:rs∈ss
 case neg =>
  rw[if_neg h1,if_neg (by decide:¬ (13:Int)=0)]
  rw[decide_eq_false h1] at c1
  clear c2
  refine zE.wkR ?_ (wkT e n rs x 13 0 [])
  unfold Sv.cells Rp.cells at *
  dsimp only at *
  refine zG Tryz.tab Tryz.mixed Tryz.func33 rfl rfl Tryz.ntmps33 (by simp) (by simp) fun Q hr hn=>?_
  repeat' first|((first|refine O _ ?_|refine O _ _ ?_|(clear O;(first|refine O _ ?_|(clear O;(first|refine O _ ?_|(clear O;(first|refine O _ ?_|(clear O;refine O _ ?_))))))));clear O)|(refine zJ fun K O=>?_)|((first|refine zH ?_|refine zN rfl (by kernel_rfl) ?_|refine zM ?_|refine zK (by kernel_rfl) ?_);simp only[vR,vQ,strip])|((first|refine wIs fun K O=>?_|refine wOs fun K O=>?_|refine wQs fun K O=>?_|refine zW ?_|refine zX ?_|refine zY ?_|refine zL ?_);simp[show ByteArray.empty = bs [] from rfl])|(refine wIn ?_;refine And.intro (by kernel_rfl) ?_;try simp only[zZ])|refine zR ?_|refine zT ?_|((first|refine zI ?_|refine zO ?_|refine zP ?_);try simp)|((first|refine zS ?_|refine wOn ?_|refine wQn ?_);try simp only[zZ])|refine zU.p c1 rfl ?_|refine zU.l c1 rfl ?_|refine zQ.pure c1 rfl ?_|refine zQ.lent c1 rfl ?_|refine zU.o c1 ?_|refine zV.p c1 rfl ?_|refine zV.l c1 rfl ?_|refine zV.o c1 ?_
  all_goals apply hr
  all_goals simp[Tryz.f33,pts,show ByteArray.empty=bs [] from rfl]
 rw[if_pos h1]
 rw[decide_eq_true h1] at c1
 by_cases h2:we=ep/\wn=cn
 case neg =>
  rw[if_neg h2,if_neg (by decide:¬ (10:Int)=0)]
  clear c2
  refine zE.wkR ?_ (wkT e n rs x 10 0 [])
  unfold Sv.cells Rp.cells at *
  dsimp only at *
  by_cases h3:we=ep
  ·have h3':=eq_true h3
   have h4':(wn=cn)=False:=eq_false fun h=>h2 ⟨h3,h⟩
   refine zG Tryz.tab Tryz.mixed Tryz.func33 rfl rfl Tryz.ntmps33 (by simp) (by simp) fun Q hr hn=>?_
   repeat' first|((first|refine O _ ?_|refine O _ _ ?_|(clear O;(first|refine O _ ?_|(clear O;(first|refine O _ ?_|(clear O;(first|refine O _ ?_|(clear O;refine O _ ?_))))))));clear O)|(refine zJ fun K O=>?_)|((first|refine zH ?_|refine zN rfl (by kernel_rfl) ?_|refine zM ?_|refine zK (by kernel_rfl) ?_);simp only[vR,vQ,strip])|((first|refine wIs fun K O=>?_|refine wOs fun K O=>?_|refine wQs fun K O=>?_|refine zW ?_|refine zX ?_|refine zY ?_|refine zL ?_);simp[h3',h4',show ByteArray.empty = bs [] from rfl])|(refine wIn ?_;refine And.intro (by kernel_rfl) ?_;try simp only[zZ])|refine zR ?_|refine zT ?_|((first|refine zI ?_|refine zO ?_|refine zP ?_);try simp)|((first|refine zS ?_|refine wOn ?_|refine wQn ?_);try simp only[zZ])|refine zU.p c1 rfl ?_|refine zU.l c1 rfl ?_|refine zQ.pure c1 rfl ?_|refine zQ.lent c1 rfl ?_|refine zU.o c1 ?_|refine zV.p c1 rfl ?_|refine zV.l c1 rfl ?_|refine zV.o c1 ?_
   all_goals apply hr
   all_goals simp[Tryz.f33,pts,show ByteArray.empty=bs [] from rfl]
  ·have h3':=eq_false h3
   refine zG Tryz.tab Tryz.mixed Tryz.func33 rfl rfl Tryz.ntmps33 (by simp) (by simp) fun Q hr hn=>?_
   repeat' first|((first|refine O _ ?_|refine O _ _ ?_|(clear O;(first|refine O _ ?_|(clear O;(first|refine O _ ?_|(clear O;(first|refine O _ ?_|(clear O;refine O _ ?_))))))));clear O)|(refine zJ fun K O=>?_)|((first|refine zH ?_|refine zN rfl (by kernel_rfl) ?_|refine zM ?_|refine zK (by kernel_rfl) ?_);simp only[vR,vQ,strip])|((first|refine wIs fun K O=>?_|refine wOs fun K O=>?_|refine wQs fun K O=>?_|refine zW ?_|refine zX ?_|refine zY ?_|refine zL ?_);simp[h3',show ByteArray.empty = bs [] from rfl])|(refine wIn ?_;refine And.intro (by kernel_rfl) ?_;try simp only[zZ])|refine zR ?_|refine zT ?_|((first|refine zI ?_|refine zO ?_|refine zP ?_);try simp)|((first|refine zS ?_|refine wOn ?_|refine wQn ?_);try simp only[zZ])|refine zU.p c1 rfl ?_|refine zU.l c1 rfl ?_|refine zQ.pure c1 rfl ?_|refine zQ.lent c1 rfl ?_|refine zU.o c1 ?_|refine zV.p c1 rfl ?_|refine zV.l c1 rfl ?_|refine zV.o c1 ?_
   all_goals apply hr
   all_goals simp[Tryz.f33,pts,show ByteArray.empty=bs [] from rfl]
 rw[if_pos h2]
 obtain⟨rfl,rfl⟩:=h2
 by_cases h5:ae=0
 ·subst h5
  rw[if_pos rfl]
  unfold Tx.cells Rp.cells Sv.cells cfgPt zz Cf.cells Dl.cells pts at *
  simp only[vR,vQ]
  unfold Pt.cells
  dsimp only at *
  refine zG Tryz.tab Tryz.mixed Tryz.func33 rfl rfl Tryz.ntmps33 (by simp) (by simp) fun Q hr hn=>?_
  repeat' first|((first|refine O _ ?_|refine O _ _ ?_|(clear O;(first|refine O _ ?_|(clear O;(first|refine O _ ?_|(clear O;(first|refine O _ ?_|(clear O;refine O _ ?_))))))));clear O)|(refine zJ fun K O=>?_)|((first|refine zH ?_|refine zN rfl (by kernel_rfl) ?_|refine zM ?_|refine zK (by kernel_rfl) ?_);simp only[vR,vQ,strip])|((first|refine wIs fun K O=>?_|refine wOs fun K O=>?_|refine wQs fun K O=>?_|refine zW ?_|refine zX ?_|refine zY ?_|refine zL ?_);simp[show ByteArray.empty = bs [] from rfl])|(refine wIn ?_;refine And.intro (by kernel_rfl) ?_;try simp only[zZ])|refine zR ?_|refine zT ?_|((first|refine zI ?_|refine zO ?_|refine zP ?_);try simp)|((first|refine zS ?_|refine wOn ?_|refine wQn ?_);try simp only[zZ])|refine zU.p c1 rfl ?_|refine zU.l c1 rfl ?_|refine zQ.pure c1 rfl ?_|refine zQ.lent c1 rfl ?_|refine zU.o c1 ?_|refine zV.p c1 rfl ?_|refine zV.l c1 rfl ?_|refine zV.o c1 ?_|refine zU.p c2 rfl ?_|refine zU.l c2 rfl ?_|refine zQ.pure c2 rfl ?_|refine zQ.lent c2 rfl ?_|refine zU.o c2 ?_|refine zV.p c2 rfl ?_|refine zV.l c2 rfl ?_|refine zV.o c2 ?_
  all_goals apply hr
  all_goals simp[Tryz.f33,mbs,show ByteArray.empty=bs [] from rfl]
 ·rw[if_neg h5]
  have h5':=eq_false h5
  refine zE.wkR ?_ (wkT e n rs x ae 0 [])
  unfold Rp.cells Sv.cells Cf.cells Dl.cells at *
  dsimp only at *
  refine zG Tryz.tab Tryz.mixed Tryz.func33 rfl rfl Tryz.ntmps33 (by simp) (by simp) fun Q hr hn=>?_
  repeat' first|((first|refine O _ ?_|refine O _ _ ?_|(clear O;(first|refine O _ ?_|(clear O;(first|refine O _ ?_|(clear O;(first|refine O _ ?_|(clear O;refine O _ ?_))))))));clear O)|(refine zJ fun K O=>?_)|((first|refine zH ?_|refine zN rfl (by kernel_rfl) ?_|refine zM ?_|refine zK (by kernel_rfl) ?_);simp only[vR,vQ,strip])|((first|refine wIs fun K O=>?_|refine wOs fun K O=>?_|refine wQs fun K O=>?_|refine zW ?_|refine zX ?_|refine zY ?_|refine zL ?_);simp[h5',show ByteArray.empty = bs [] from rfl])|(refine wIn ?_;refine And.intro (by kernel_rfl) ?_;try simp only[zZ])|refine zR ?_|refine zT ?_|((first|refine zI ?_|refine zO ?_|refine zP ?_);try simp)|((first|refine zS ?_|refine wOn ?_|refine wQn ?_);try simp only[zZ])|refine zU.p c1 rfl ?_|refine zU.l c1 rfl ?_|refine zQ.pure c1 rfl ?_|refine zQ.lent c1 rfl ?_|refine zU.o c1 ?_|refine zV.p c1 rfl ?_|refine zV.l c1 rfl ?_|refine zV.o c1 ?_|refine zU.p c2 rfl ?_|refine zU.l c2 rfl ?_|refine zQ.pure c2 rfl ?_|refine zQ.lent c2 rfl ?_|refine zU.o c2 ?_|refine zV.p c2 rfl ?_|refine zV.l c2 rfl ?_|refine zV.o c2 ?_
  all_goals apply hr
  all_goals simp[Tryz.f33,pts,show ByteArray.empty=bs [] from rfl]
theorem app06_eq {c:Cf}{d:Dl}{e n:Int}(h:appE c d e n=0):app06 c d e n=appC c d e n:=by unfold app06 appC;rw[if_pos h,if_pos h]
set_option maxHeartbeats 8000000 in
theorem ask20_con (h:Hy)(de dn self:Int)(l:List Lr)(r:Rp)(hk:OkH h)(hl:l.length<=100000)
 (hc:(stL h).c.ms.length<=100000)(hp:r.d.put.length<=100000)(hd:r.d.drop.length<=100000) :
 zE Tryz.prog 9 [.p (.agg h.cells),.p (.agg [I de,I dn]),.p (I self),.p (.sl 8 (lrs l)),.p (.agg r.cells)] (.tup [.p (.agg (askC h de dn self l r).1.cells),.p (I (askC h de dn self l r).2)]):=by
 have c1:=needs16_con h de dn hk
 have c2:=last16_con h hk.lg
 have c3:=next02_con (yR h).e (yR h).n
 have c4:=stateAt16_con h (yR h).e (yR h).n hk
 have c5:=make09_con (stL h) { r with k:=4 } (nxL h).1 (nxL h).2 rfl hc hp hd
 have c6:=set19_con self 4 de dn l hl
 have hal:(appC (stL h).c r.d (nxL h).1 (nxL h).2).ms.length<=1000000:=by
  unfold appC
  split
  ·have:=keepM_len (stL h).c r.d
   simp only[chg,stS_len,List.length_append];omega
  ·omega
 have c8:=is05_con (appC (stL h).c r.d (nxL h).1 (nxL h).2) (setS self 4 de dn l) hal
 have hcl:=cfs_lenA (wE h de dn)
 have hE:askE (stL h) r (nxL h).1 (nxL h).2=0->app06 (stL h).c r.d (nxL h).1 (nxL h).2=appC (stL h).c r.d (nxL h).1 (nxL h).2:=fun h0=>app06_eq (by
  unfold askE at h0
  split at h0
  ·split at h0
   ·exact h0
   ·exact absurd h0 (by decide)
  ·exact absurd h0 (by decide))
 unfold askC
 unfold mk09 at c5
 change zE _ _ _ (.p (.agg (stL h).cells)) at c4
 change zE _ _ _ (.tup [.p (.agg [I (nxL h).1,I (nxL h).2]),.p (I (nextE (yR h).e (yR h).n))]) at c3
 have eA:askE (stL h) { r with k:=4 } (nxL h).1 (nxL h).2=askE (stL h) r (nxL h).1 (nxL h).2:=rfl
 rw[eA] at c5
 dsimp only at c5
 clear hc hp hd hk hl hal eA
 generalize app06 (stL h).c r.d (nxL h).1 (nxL h).2=C6 at *
 generalize stL h=S at *
 generalize nxL h=z at *
 generalize yR h=la at *
 generalize nextE la.e la.n=ne at *
 generalize askE S r z.1 z.2=ae at *
 generalize appC S.c r.d z.1 z.2=C at *
 generalize setS self 4 de dn l=set at *
 generalize cfs (wE h de dn)=CF at *
 generalize (wE h de dn).length=nl at *
 obtain⟨rk,rs,rx,ops,⟨dk,put,drop⟩,we,wn⟩:=r
 dsimp only at *
 by_cases h1:1<nl
 ·rw[if_pos h1]
  have h1':(1:Int)<nl:=by omega
  unfold Hy.cells Rp.cells cf0 Cf.cells at *
  dsimp only at *
  refine zG Tryz.tab Tryz.mixed Tryz.func9 rfl rfl Tryz.ntmps9 (by simp) (by simp) fun Q hr hn=>?_
  repeat' first|((first|refine O _ ?_|refine O _ _ ?_|(clear O;refine O _ ?_));clear O)|(refine zJ fun K O=>?_)|((first|refine zH ?_|refine zN rfl (by kernel_rfl) ?_|refine zM ?_|refine zK (by kernel_rfl) ?_);simp only[vR,vQ,strip])|((first|refine wIs fun K O=>?_|refine wOs fun K O=>?_|refine wQs fun K O=>?_|refine zW ?_|refine zX ?_|refine zY ?_|refine zL ?_);simp[h1,h1',hcl])|(refine wIn ?_;refine And.intro (by kernel_rfl) ?_;try simp only[zZ])|refine zR ?_|refine zT ?_|((first|refine zI ?_|refine zO ?_|refine zP ?_);try simp)|((first|refine zS ?_|refine wOn ?_|refine wQn ?_);try simp only[zZ])|refine zU.p c1 rfl ?_|refine zU.l c1 rfl ?_|refine zQ.pure c1 rfl ?_|refine zQ.lent c1 rfl ?_|refine zU.o c1 ?_|refine zV.p c1 rfl ?_|refine zV.l c1 rfl ?_|refine zV.o c1 ?_
  all_goals apply hr
  all_goals simp[Tryz.f9,mbs]
 rw[if_neg h1]
 have h1':¬ (1:Int)<nl:=by omega
 by_cases h2:ne=0
 case neg =>
  rw[if_neg h2]
  have h2':(ne=0)=False:=eq_false h2
  unfold Hy.cells Rp.cells cf0 Cf.cells at *
  dsimp only at *
  refine zG Tryz.tab Tryz.mixed Tryz.func9 rfl rfl Tryz.ntmps9 (by simp) (by simp) fun Q hr hn=>?_
  repeat' first|((first|refine O _ ?_|refine O _ _ ?_|(clear O;refine O _ ?_));clear O)|(refine zJ fun K O=>?_)|((first|refine zH ?_|refine zN rfl (by kernel_rfl) ?_|refine zM ?_|refine zK (by kernel_rfl) ?_);simp only[vR,vQ,strip])|((first|refine wIs fun K O=>?_|refine wOs fun K O=>?_|refine wQs fun K O=>?_|refine zW ?_|refine zX ?_|refine zY ?_|refine zL ?_);simp[h1,h1',h2',hcl])|(refine wIn ?_;refine And.intro (by kernel_rfl) ?_;try simp only[zZ])|refine zR ?_|refine zT ?_|((first|refine zI ?_|refine zO ?_|refine zP ?_);try simp)|((first|refine zS ?_|refine wOn ?_|refine wQn ?_);try simp only[zZ])|refine zU.p c1 rfl ?_|refine zU.l c1 rfl ?_|refine zQ.pure c1 rfl ?_|refine zQ.lent c1 rfl ?_|refine zU.o c1 ?_|refine zV.p c1 rfl ?_|refine zV.l c1 rfl ?_|refine zV.o c1 ?_|refine zU.p c2 rfl ?_|refine zU.l c2 rfl ?_|refine zQ.pure c2 rfl ?_|refine zQ.lent c2 rfl ?_|refine zU.o c2 ?_|refine zV.p c2 rfl ?_|refine zV.l c2 rfl ?_|refine zV.o c2 ?_|refine zU.p c3 rfl ?_|refine zU.l c3 rfl ?_|refine zQ.pure c3 rfl ?_|refine zQ.lent c3 rfl ?_|refine zU.o c3 ?_|refine zV.p c3 rfl ?_|refine zV.l c3 rfl ?_|refine zV.o c3 ?_
  all_goals apply hr
  all_goals simp[Tryz.f9,mbs]
 subst h2
 rw[if_pos rfl]
 by_cases h3:ae=0
 case neg =>
  rw[if_neg h3]
  rw[if_neg h3] at c5
  have h3':(ae=0)=False:=eq_false h3
  clear c6 c8 hE
  unfold Hy.cells Rp.cells cf0 Cf.cells Sv.cells Tx.cells at *
  dsimp only at *
  refine zG Tryz.tab Tryz.mixed Tryz.func9 rfl rfl Tryz.ntmps9 (by simp) (by simp) fun Q hr hn=>?_
  repeat' first|((first|refine O _ ?_|refine O _ _ ?_|(clear O;refine O _ ?_));clear O)|(refine zJ fun K O=>?_)|((first|refine zH ?_|refine zN rfl (by kernel_rfl) ?_|refine zM ?_|refine zK (by kernel_rfl) ?_);simp only[vR,vQ,strip])|((first|refine wIs fun K O=>?_|refine wOs fun K O=>?_|refine wQs fun K O=>?_|refine zW ?_|refine zX ?_|refine zY ?_|refine zL ?_);simp[h1,h1',h3',hcl])|(refine wIn ?_;refine And.intro (by kernel_rfl) ?_;try simp only[zZ])|refine zR ?_|refine zT ?_|((first|refine zI ?_|refine zO ?_|refine zP ?_);try simp)|((first|refine zS ?_|refine wOn ?_|refine wQn ?_);try simp only[zZ])|refine zU.p c1 rfl ?_|refine zU.l c1 rfl ?_|refine zQ.pure c1 rfl ?_|refine zQ.lent c1 rfl ?_|refine zU.o c1 ?_|refine zV.p c1 rfl ?_|refine zV.l c1 rfl ?_|refine zV.o c1 ?_|refine zU.p c2 rfl ?_|refine zU.l c2 rfl ?_|refine zQ.pure c2 rfl ?_|refine zQ.lent c2 rfl ?_|refine zU.o c2 ?_|refine zV.p c2 rfl ?_|refine zV.l c2 rfl ?_|refine zV.o c2 ?_|refine zU.p c3 rfl ?_|refine zU.l c3 rfl ?_|refine zQ.pure c3 rfl ?_|refine zQ.lent c3 rfl ?_|refine zU.o c3 ?_|refine zV.p c3 rfl ?_|refine zV.l c3 rfl ?_|refine zV.o c3 ?_|refine zU.p c4 rfl ?_|refine zU.l c4 rfl ?_|refine zQ.pure c4 rfl ?_|refine zQ.lent c4 rfl ?_|refine zU.o c4 ?_|refine zV.p c4 rfl ?_|refine zV.l c4 rfl ?_|refine zV.o c4 ?_|refine zU.p c5 rfl ?_|refine zU.l c5 rfl ?_|refine zQ.pure c5 rfl ?_|refine zQ.lent c5 rfl ?_|refine zU.o c5 ?_|refine zV.p c5 rfl ?_|refine zV.l c5 rfl ?_|refine zV.o c5 ?_
  all_goals apply hr
  all_goals simp[Tryz.f9,mbs]
 subst h3
 obtain rfl:=hE rfl
 clear hE
 obtain⟨cep,cn,ck,cms⟩:=C6
 rw[if_pos rfl]
 rw[if_pos rfl] at c5
 generalize isQ ⟨cep,cn,ck,cms⟩ set=q at *
 cases q with
 |true =>
  unfold Hy.cells Rp.cells Cf.cells Sv.cells Tx.cells cfgPt zz pts at *
  simp only[vR,vQ] at *
  unfold Pt.cells at *
  dsimp only at *
  refine zG Tryz.tab Tryz.mixed Tryz.func9 rfl rfl Tryz.ntmps9 (by simp) (by simp) fun Q hr hn=>?_
  repeat' first|((first|refine O _ ?_|refine O _ _ ?_|(clear O;refine O _ ?_));clear O)|(refine zJ fun K O=>?_)|((first|refine zH ?_|refine zN rfl (by kernel_rfl) ?_|refine zM ?_|refine zK (by kernel_rfl) ?_);simp only[vR,vQ,strip])|((first|refine wIs fun K O=>?_|refine wOs fun K O=>?_|refine wQs fun K O=>?_|refine zW ?_|refine zX ?_|refine zY ?_|refine zL ?_);simp[h1,h1',hcl])|(refine wIn ?_;refine And.intro (by kernel_rfl) ?_;try simp only[zZ])|refine zR ?_|refine zT ?_|((first|refine zI ?_|refine zO ?_|refine zP ?_);try simp)|((first|refine zS ?_|refine wOn ?_|refine wQn ?_);try simp only[zZ])|refine zU.p c1 rfl ?_|refine zU.l c1 rfl ?_|refine zQ.pure c1 rfl ?_|refine zQ.lent c1 rfl ?_|refine zU.o c1 ?_|refine zV.p c1 rfl ?_|refine zV.l c1 rfl ?_|refine zV.o c1 ?_|refine zU.p c2 rfl ?_|refine zU.l c2 rfl ?_|refine zQ.pure c2 rfl ?_|refine zQ.lent c2 rfl ?_|refine zU.o c2 ?_|refine zV.p c2 rfl ?_|refine zV.l c2 rfl ?_|refine zV.o c2 ?_|refine zU.p c3 rfl ?_|refine zU.l c3 rfl ?_|refine zQ.pure c3 rfl ?_|refine zQ.lent c3 rfl ?_|refine zU.o c3 ?_|refine zV.p c3 rfl ?_|refine zV.l c3 rfl ?_|refine zV.o c3 ?_|refine zU.p c4 rfl ?_|refine zU.l c4 rfl ?_|refine zQ.pure c4 rfl ?_|refine zQ.lent c4 rfl ?_|refine zU.o c4 ?_|refine zV.p c4 rfl ?_|refine zV.l c4 rfl ?_|refine zV.o c4 ?_|refine zU.p c5 rfl ?_|refine zU.l c5 rfl ?_|refine zQ.pure c5 rfl ?_|refine zQ.lent c5 rfl ?_|refine zU.o c5 ?_|refine zV.p c5 rfl ?_|refine zV.l c5 rfl ?_|refine zV.o c5 ?_|refine zU.p c6 rfl ?_|refine zU.l c6 rfl ?_|refine zQ.pure c6 rfl ?_|refine zQ.lent c6 rfl ?_|refine zU.o c6 ?_|refine zV.p c6 rfl ?_|refine zV.l c6 rfl ?_|refine zV.o c6 ?_|refine zU.p c8 rfl ?_|refine zU.l c8 rfl ?_|refine zQ.pure c8 rfl ?_|refine zQ.lent c8 rfl ?_|refine zU.o c8 ?_|refine zV.p c8 rfl ?_|refine zV.l c8 rfl ?_|refine zV.o c8 ?_
  all_goals apply hr
  all_goals simp[Tryz.f9,mbs]
 |false =>
  unfold Hy.cells Rp.cells Cf.cells Sv.cells Tx.cells cfgPt zz pts cf0 at *
  simp only[vR,vQ] at *
  unfold Pt.cells at *
  dsimp only at *
  refine zG Tryz.tab Tryz.mixed Tryz.func9 rfl rfl Tryz.ntmps9 (by simp) (by simp) fun Q hr hn=>?_
  repeat' first|((first|refine O _ ?_|refine O _ _ ?_|(clear O;refine O _ ?_));clear O)|(refine zJ fun K O=>?_)|((first|refine zH ?_|refine zN rfl (by kernel_rfl) ?_|refine zM ?_|refine zK (by kernel_rfl) ?_);simp only[vR,vQ,strip])|((first|refine wIs fun K O=>?_|refine wOs fun K O=>?_|refine wQs fun K O=>?_|refine zW ?_|refine zX ?_|refine zY ?_|refine zL ?_);simp[h1,h1',hcl])|(refine wIn ?_;refine And.intro (by kernel_rfl) ?_;try simp only[zZ])|refine zR ?_|refine zT ?_|((first|refine zI ?_|refine zO ?_|refine zP ?_);try simp)|((first|refine zS ?_|refine wOn ?_|refine wQn ?_);try simp only[zZ])|refine zU.p c1 rfl ?_|refine zU.l c1 rfl ?_|refine zQ.pure c1 rfl ?_|refine zQ.lent c1 rfl ?_|refine zU.o c1 ?_|refine zV.p c1 rfl ?_|refine zV.l c1 rfl ?_|refine zV.o c1 ?_|refine zU.p c2 rfl ?_|refine zU.l c2 rfl ?_|refine zQ.pure c2 rfl ?_|refine zQ.lent c2 rfl ?_|refine zU.o c2 ?_|refine zV.p c2 rfl ?_|refine zV.l c2 rfl ?_|refine zV.o c2 ?_|refine zU.p c3 rfl ?_|refine zU.l c3 rfl ?_|refine zQ.pure c3 rfl ?_|refine zQ.lent c3 rfl ?_|refine zU.o c3 ?_|refine zV.p c3 rfl ?_|refine zV.l c3 rfl ?_|refine zV.o c3 ?_|refine zU.p c4 rfl ?_|refine zU.l c4 rfl ?_|refine zQ.pure c4 rfl ?_|refine zQ.lent c4 rfl ?_|refine zU.o c4 ?_|refine zV.p c4 rfl ?_|refine zV.l c4 rfl ?_|refine zV.o c4 ?_|refine zU.p c5 rfl ?_|refine zU.l c5 rfl ?_|refine zQ.pure c5 rfl ?_|refine zQ.lent c5 rfl ?_|refine zU.o c5 ?_|refine zV.p c5 rfl ?_|refine zV.l c5 rfl ?_|refine zV.o c5 ?_|refine zU.p c6 rfl ?_|refine zU.l c6 rfl ?_|refine zQ.pure c6 rfl ?_|refine zQ.lent c6 rfl ?_|refine zU.o c6 ?_|refine zV.p c6 rfl ?_|refine zV.l c6 rfl ?_|refine zV.o c6 ?_|refine zU.p c8 rfl ?_|refine zU.l c8 rfl ?_|refine zQ.pure c8 rfl ?_|refine zQ.lent c8 rfl ?_|refine zU.o c8 ?_|refine zV.p c8 rfl ?_|refine zV.l c8 rfl ?_|refine zV.o c8 ?_
  all_goals apply hr
  all_goals simp[Tryz.f9,mbs]
def rsS (nx:Int)(p:Int):List Int->Bool
 |[]=>true
 |n::l=>decide (1<=n/\n<nx/\p<n) && rsS nx n l
def prevN (l:List Int)(k:Nat):Int:=if h:0<k/\k<=l.length then l[k-1]'(by omega) else 0
theorem prevN_succ (l:List Int)(k:Nat)(h:k<l.length):prevN l (k+1)=l[k]:=by
 unfold prevN;rw[dif_pos ⟨by omega,by omega⟩];rfl
theorem prevN_pos (l:List Int)(k:Nat)(h0:0<k)(h:k<l.length):prevN l k=l[k-1]'(by omega):=by
 unfold prevN;rw[dif_pos ⟨by omega,by omega⟩]
def rgtS (s:Sv):Bool:=tre s.ns && (decide (check s.c=0/\1<=s.nx/\s.nx<=1099511627776/\s.ss.length<=20) && rsS s.nx 0 s.ss)
set_option maxHeartbeats 4000000 in
theorem rightP09_con (s:Sv)(hz:∀z∈s.ns,long z)(hm:s.c.ms.length<=1000000):zE Tryz.prog 19 [.p (.agg s.cells)] (.p (B (rgtS s))):=by
 have c1:=treeR_con s.ns hz
 have c2:=check04_con s.c hm
 obtain⟨ns,ss,nx,⟨ep,n,kd,ms⟩,ae,an⟩:=s
 unfold rgtS
 unfold Sv.cells Cf.cells at *
 dsimp only at *
 generalize check ⟨ep,n,kd,ms⟩=ce at *
 generalize zns ns=X at *
 cases ht:tre ns with
 |false =>
  rw[ht] at c1
  rw[Bool.false_and]
  refine zG Tryz.tab Tryz.mixed Tryz.func19 rfl rfl Tryz.ntmps19 (by simp) (by simp) fun Q hr hn=>?_
  repeat' first|((first|refine O _ ?_|refine O _ _ ?_|(clear O;refine O _ ?_));clear O)|(refine zJ fun K O=>?_)|((first|refine zH ?_|refine zN rfl (by kernel_rfl) ?_|refine zM ?_|refine zK (by kernel_rfl) ?_);simp only[vR,vQ,strip])|((first|refine wIs fun K O=>?_|refine wOs fun K O=>?_|refine wQs fun K O=>?_|refine zW ?_|refine zX ?_|refine zY ?_|refine zL ?_);simp)|(refine wIn ?_;refine And.intro (by kernel_rfl) ?_;try simp only[zZ])|refine zR ?_|refine zT ?_|((first|refine zI ?_|refine zO ?_|refine zP ?_);try simp)|((first|refine zS ?_|refine wOn ?_|refine wQn ?_);try simp only[zZ])|refine zU.p c1 rfl ?_|refine zU.l c1 rfl ?_|refine zQ.pure c1 rfl ?_|refine zQ.lent c1 rfl ?_|refine zU.o c1 ?_|refine zV.p c1 rfl ?_|refine zV.l c1 rfl ?_|refine zV.o c1 ?_
  all_goals apply hr
  all_goals simp[Tryz.f19]
 |true =>
 rw[ht] at c1
 rw[Bool.true_and]
 by_cases h1:ce=0
 case neg =>
  rw[decide_eq_false (fun h=>h1 h.1),Bool.false_and]
  have h1':(ce=0)=False:=eq_false h1
  refine zG Tryz.tab Tryz.mixed Tryz.func19 rfl rfl Tryz.ntmps19 (by simp) (by simp) fun Q hr hn=>?_
  repeat' first|((first|refine O _ ?_|refine O _ _ ?_|(clear O;refine O _ ?_));clear O)|(refine zJ fun K O=>?_)|((first|refine zH ?_|refine zN rfl (by kernel_rfl) ?_|refine zM ?_|refine zK (by kernel_rfl) ?_);simp only[vR,vQ,strip])|((first|refine wIs fun K O=>?_|refine wOs fun K O=>?_|refine wQs fun K O=>?_|refine zW ?_|refine zX ?_|refine zY ?_|refine zL ?_);simp[h1'])|(refine wIn ?_;refine And.intro (by kernel_rfl) ?_;try simp only[zZ])|refine zR ?_|refine zT ?_|((first|refine zI ?_|refine zO ?_|refine zP ?_);try simp)|((first|refine zS ?_|refine wOn ?_|refine wQn ?_);try simp only[zZ])|refine zU.p c1 rfl ?_|refine zU.l c1 rfl ?_|refine zQ.pure c1 rfl ?_|refine zQ.lent c1 rfl ?_|refine zU.o c1 ?_|refine zV.p c1 rfl ?_|refine zV.l c1 rfl ?_|refine zV.o c1 ?_|refine zU.p c2 rfl ?_|refine zU.l c2 rfl ?_|refine zQ.pure c2 rfl ?_|refine zQ.lent c2 rfl ?_|refine zU.o c2 ?_|refine zV.p c2 rfl ?_|refine zV.l c2 rfl ?_|refine zV.o c2 ?_
  all_goals apply hr
  all_goals simp[Tryz.f19]
 subst h1
 by_cases h2:nx<1
 ·rw[decide_eq_false (fun h=>by have:=h.2.1;omega),Bool.false_and]
  refine zG Tryz.tab Tryz.mixed Tryz.func19 rfl rfl Tryz.ntmps19 (by simp) (by simp) fun Q hr hn=>?_
  repeat' first|((first|refine O _ ?_|refine O _ _ ?_|(clear O;refine O _ ?_));clear O)|(refine zJ fun K O=>?_)|((first|refine zH ?_|refine zN rfl (by kernel_rfl) ?_|refine zM ?_|refine zK (by kernel_rfl) ?_);simp only[vR,vQ,strip])|((first|refine wIs fun K O=>?_|refine wOs fun K O=>?_|refine wQs fun K O=>?_|refine zW ?_|refine zX ?_|refine zY ?_|refine zL ?_);simp[h2])|(refine wIn ?_;refine And.intro (by kernel_rfl) ?_;try simp only[zZ])|refine zR ?_|refine zT ?_|((first|refine zI ?_|refine zO ?_|refine zP ?_);try simp)|((first|refine zS ?_|refine wOn ?_|refine wQn ?_);try simp only[zZ])|refine zU.p c1 rfl ?_|refine zU.l c1 rfl ?_|refine zQ.pure c1 rfl ?_|refine zQ.lent c1 rfl ?_|refine zU.o c1 ?_|refine zV.p c1 rfl ?_|refine zV.l c1 rfl ?_|refine zV.o c1 ?_|refine zU.p c2 rfl ?_|refine zU.l c2 rfl ?_|refine zQ.pure c2 rfl ?_|refine zQ.lent c2 rfl ?_|refine zU.o c2 ?_|refine zV.p c2 rfl ?_|refine zV.l c2 rfl ?_|refine zV.o c2 ?_
  all_goals apply hr
  all_goals simp[Tryz.f19]
 by_cases h3:1099511627776<nx
 ·rw[decide_eq_false (fun h=>by have:=h.2.2.1;omega),Bool.false_and]
  refine zG Tryz.tab Tryz.mixed Tryz.func19 rfl rfl Tryz.ntmps19 (by simp) (by simp) fun Q hr hn=>?_
  repeat' first|((first|refine O _ ?_|refine O _ _ ?_|(clear O;refine O _ ?_));clear O)|(refine zJ fun K O=>?_)|((first|refine zH ?_|refine zN rfl (by kernel_rfl) ?_|refine zM ?_|refine zK (by kernel_rfl) ?_);simp only[vR,vQ,strip])|((first|refine wIs fun K O=>?_|refine wOs fun K O=>?_|refine wQs fun K O=>?_|refine zW ?_|refine zX ?_|refine zY ?_|refine zL ?_);simp[h2,h3])|(refine wIn ?_;refine And.intro (by kernel_rfl) ?_;try simp only[zZ])|refine zR ?_|refine zT ?_|((first|refine zI ?_|refine zO ?_|refine zP ?_);try simp)|((first|refine zS ?_|refine wOn ?_|refine wQn ?_);try simp only[zZ])|refine zU.p c1 rfl ?_|refine zU.l c1 rfl ?_|refine zQ.pure c1 rfl ?_|refine zQ.lent c1 rfl ?_|refine zU.o c1 ?_|refine zV.p c1 rfl ?_|refine zV.l c1 rfl ?_|refine zV.o c1 ?_|refine zU.p c2 rfl ?_|refine zU.l c2 rfl ?_|refine zQ.pure c2 rfl ?_|refine zQ.lent c2 rfl ?_|refine zU.o c2 ?_|refine zV.p c2 rfl ?_|refine zV.l c2 rfl ?_|refine zV.o c2 ?_
  all_goals apply hr
  all_goals simp[Tryz.f19]
 by_cases h4:20<ss.length
 ·rw[decide_eq_false (fun h=>by have:=h.2.2.2;omega),Bool.false_and]
  have h4':(20:Int)<ss.length:=by omega
  refine zG Tryz.tab Tryz.mixed Tryz.func19 rfl rfl Tryz.ntmps19 (by simp) (by simp) fun Q hr hn=>?_
  repeat' first|((first|refine O _ ?_|refine O _ _ ?_|(clear O;refine O _ ?_));clear O)|(refine zJ fun K O=>?_)|((first|refine zH ?_|refine zN rfl (by kernel_rfl) ?_|refine zM ?_|refine zK (by kernel_rfl) ?_);simp only[vR,vQ,strip])|((first|refine wIs fun K O=>?_|refine wOs fun K O=>?_|refine wQs fun K O=>?_|refine zW ?_|refine zX ?_|refine zY ?_|refine zL ?_);simp[h2,h3,h4,h4'])|(refine wIn ?_;refine And.intro (by kernel_rfl) ?_;try simp only[zZ])|refine zR ?_|refine zT ?_|((first|refine zI ?_|refine zO ?_|refine zP ?_);try simp)|((first|refine zS ?_|refine wOn ?_|refine wQn ?_);try simp only[zZ])|refine zU.p c1 rfl ?_|refine zU.l c1 rfl ?_|refine zQ.pure c1 rfl ?_|refine zQ.lent c1 rfl ?_|refine zU.o c1 ?_|refine zV.p c1 rfl ?_|refine zV.l c1 rfl ?_|refine zV.o c1 ?_|refine zU.p c2 rfl ?_|refine zU.l c2 rfl ?_|refine zQ.pure c2 rfl ?_|refine zQ.lent c2 rfl ?_|refine zU.o c2 ?_|refine zV.p c2 rfl ?_|refine zV.l c2 rfl ?_|refine zV.o c2 ?_
  all_goals apply hr
  all_goals simp[Tryz.f19]
 have h4':¬ (20:Int)<ss.length:=by omega
 rw[decide_eq_true ⟨rfl,by omega,by omega,by omega⟩,Bool.true_and]
 refine zG Tryz.tab Tryz.mixed Tryz.func19 rfl rfl Tryz.ntmps19 (by simp) (by simp) fun Q hr hn=>?_
 repeat' first|((first|refine O _ ?_|refine O _ _ ?_|(clear O;refine O _ ?_));clear O)|(refine zJ fun K O=>?_)|((first|refine zH ?_|refine zN rfl (by kernel_rfl) ?_|refine zM ?_|refine zK (by kernel_rfl) ?_);simp only[vR,vQ,strip])|((first|refine wIs fun K O=>?_|refine wOs fun K O=>?_|refine wQs fun K O=>?_|refine zW ?_|refine zX ?_|refine zY ?_|refine zL ?_);simp[h2,h3,h4,h4'])|(refine wIn ?_;refine And.intro (by kernel_rfl) ?_;try simp only[zZ])|refine zR ?_|refine zT ?_|((first|refine zI ?_|refine zO ?_|refine zP ?_);try simp)|((first|refine zS ?_|refine wOn ?_|refine wQn ?_);try simp only[zZ])|refine zU.p c1 rfl ?_|refine zU.l c1 rfl ?_|refine zQ.pure c1 rfl ?_|refine zQ.lent c1 rfl ?_|refine zU.o c1 ?_|refine zV.p c1 rfl ?_|refine zV.l c1 rfl ?_|refine zV.o c1 ?_|refine zU.p c2 rfl ?_|refine zU.l c2 rfl ?_|refine zQ.pure c2 rfl ?_|refine zQ.lent c2 rfl ?_|refine zU.o c2 ?_|refine zV.p c2 rfl ?_|refine zV.l c2 rfl ?_|refine zV.o c2 ?_
 refine zC (fun N st=>∃k,k+N=ss.length/\st.s 1=.ptr 1 0/\st.b 1=some (.box 30 [.p (.sl 5 X),.p (.sl 1 (ints ss)),.p (I nx),.p (I ep),.p (I n),.p (I kd),.p (.sl 4 (mbs ms)),.p (I ae),.p (I an)])/\st.s 32=.p (.sl 1 (ints ss))/\st.s 33=.p (I ss.length)/\st.s 34=.p (I k)/\rsS nx (prevN ss k) (ss.drop k)=rsS nx 0 ss) ss.length ⟨0,by simp[prevN]⟩ fun K N st hL ⟨k,hk,g1,b1,g32,g33,g34,hi⟩=>?_
 by_cases hlt:k<ss.length
 case neg =>
  have hlt':¬ (k:Int)<ss.length:=by omega
  rw[List.drop_of_length_le (by omega),rsS] at hi
  rw[<- hi] at hr
  repeat' first|((first|refine O _ ?_|refine O _ _ ?_|(clear O;refine O _ ?_));clear O)|(refine zJ fun K O=>?_)|((first|refine zH ?_|refine zN rfl (by kernel_rfl) ?_|refine zM ?_|refine zK (by kernel_rfl) ?_);simp only[vR,vQ,strip])|((first|refine wIs fun K O=>?_|refine wOs fun K O=>?_|refine wQs fun K O=>?_|refine zW ?_|refine zX ?_|refine zY ?_|refine zL ?_);simp[g1,b1,g32,g33,g34,hlt,hlt'])|(refine wIn ?_;refine And.intro (by kernel_rfl) ?_;try simp only[zZ])|refine zR ?_|refine zT ?_|((first|refine zI ?_|refine zO ?_|refine zP ?_);try simp)|((first|refine zS ?_|refine wOn ?_|refine wQn ?_);try simp only[zZ])
  all_goals apply hr
  all_goals simp[Tryz.f19]
 have hlt':(k:Int)<ss.length:=by omega
 have hw:=yV k _ hlt (by omega)
 have he:=vU hlt
 rw[List.drop_eq_getElem_cons hlt,rsS] at hi
 have hp:=prevN_succ ss k hlt
 by_cases hk0:k=0
 ·subst hk0
  rw[show prevN ss 0=0 from rfl] at hi
  generalize hQ:ss[0]=v at *
  by_cases o1:v<1
  ·rw[decide_eq_false (fun h=>by omega),Bool.false_and] at hi
   rw[<- hi] at hr
   repeat' first|((first|refine O _ ?_|refine O _ _ ?_|(clear O;refine O _ ?_));clear O)|(refine zJ fun K O=>?_)|((first|refine zH ?_|refine zN rfl (by kernel_rfl) ?_|refine zM ?_|refine zK (by kernel_rfl) ?_);simp only[vR,vQ,strip])|((first|refine wIs fun K O=>?_|refine wOs fun K O=>?_|refine wQs fun K O=>?_|refine zW ?_|refine zX ?_|refine zY ?_|refine zL ?_);simp[g1,b1,g32,g33,g34,hlt,hlt',he,hQ,o1])|(refine wIn ?_;refine And.intro (by kernel_rfl) ?_;try simp only[zZ])|refine zR ?_|refine zT ?_|((first|refine zI ?_|refine zO ?_|refine zP ?_);try simp)|((first|refine zS ?_|refine wOn ?_|refine wQn ?_);try simp only[zZ])
   all_goals apply hr
   all_goals simp[Tryz.f19]
  by_cases o2:nx<=v
  ·rw[decide_eq_false (fun h=>by omega),Bool.false_and] at hi
   rw[<- hi] at hr
   repeat' first|((first|refine O _ ?_|refine O _ _ ?_|(clear O;refine O _ ?_));clear O)|(refine zJ fun K O=>?_)|((first|refine zH ?_|refine zN rfl (by kernel_rfl) ?_|refine zM ?_|refine zK (by kernel_rfl) ?_);simp only[vR,vQ,strip])|((first|refine wIs fun K O=>?_|refine wOs fun K O=>?_|refine wQs fun K O=>?_|refine zW ?_|refine zX ?_|refine zY ?_|refine zL ?_);simp[g1,b1,g32,g33,g34,hlt,hlt',he,hQ,o1,o2])|(refine wIn ?_;refine And.intro (by kernel_rfl) ?_;try simp only[zZ])|refine zR ?_|refine zT ?_|((first|refine zI ?_|refine zO ?_|refine zP ?_);try simp)|((first|refine zS ?_|refine wOn ?_|refine wQn ?_);try simp only[zZ])
   all_goals apply hr
   all_goals simp[Tryz.f19]
  rw[decide_eq_true ⟨by omega,by omega,by omega⟩,Bool.true_and] at hi
  repeat' first|((first|refine O _ ?_|refine O _ _ ?_|(clear O;refine O _ ?_));clear O)|(refine zJ fun K O=>?_)|((first|refine zH ?_|refine zN rfl (by kernel_rfl) ?_|refine zM ?_|refine zK (by kernel_rfl) ?_);simp only[vR,vQ,strip])|((first|refine wIs fun K O=>?_|refine wOs fun K O=>?_|refine wQs fun K O=>?_|refine zW ?_|refine zX ?_|refine zY ?_|refine zL ?_);simp[g1,b1,g32,g33,g34,hlt,hlt',hw,he,hQ,o1,o2])|(refine wIn ?_;refine And.intro (by kernel_rfl) ?_;try simp only[zZ])|refine zR ?_|refine zT ?_|((first|refine zI ?_|refine zO ?_|refine zP ?_);try simp)|((first|refine zS ?_|refine wOn ?_|refine wQn ?_);try simp only[zZ])
  all_goals refine hL _ (N-1) (by omega) ⟨0+1,by omega,?_⟩
  all_goals rw[hp]
  all_goals simp[g1,b1,g32,g33,g34]
  all_goals exact⟨by decide,by simpa using hi⟩
 ·have hw1:IntKind.i64.wrap ((k:Int)-1)=((k-1:Nat):Int):=by rw[zF] <;> omega
  have hk1:0<k:=by omega
  have hk1':(0:Int)<k:=by omega
  have he1:=vU (l:=ss) (k:=k-1) (by omega)
  have hq:=prevN_pos ss k hk1 hlt
  rw[hq] at hi
  clear hq
  generalize hQ:ss[k]=v at *
  generalize hQ1:ss[k-1]=u at *
  by_cases o1:v<1
  ·rw[decide_eq_false (fun h=>by omega),Bool.false_and] at hi
   rw[<- hi] at hr
   repeat' first|((first|refine O _ ?_|refine O _ _ ?_|(clear O;refine O _ ?_));clear O)|(refine zJ fun K O=>?_)|((first|refine zH ?_|refine zN rfl (by kernel_rfl) ?_|refine zM ?_|refine zK (by kernel_rfl) ?_);simp only[vR,vQ,strip])|((first|refine wIs fun K O=>?_|refine wOs fun K O=>?_|refine wQs fun K O=>?_|refine zW ?_|refine zX ?_|refine zY ?_|refine zL ?_);simp[g1,b1,g32,g33,g34,hlt,hlt',he,hQ,o1,hk1,hk1',hw1,he1,hQ1])|(refine wIn ?_;refine And.intro (by kernel_rfl) ?_;try simp only[zZ])|refine zR ?_|refine zT ?_|((first|refine zI ?_|refine zO ?_|refine zP ?_);try simp)|((first|refine zS ?_|refine wOn ?_|refine wQn ?_);try simp only[zZ])
   all_goals apply hr
   all_goals simp[Tryz.f19]
  by_cases o2:nx<=v
  ·rw[decide_eq_false (fun h=>by omega),Bool.false_and] at hi
   rw[<- hi] at hr
   repeat' first|((first|refine O _ ?_|refine O _ _ ?_|(clear O;refine O _ ?_));clear O)|(refine zJ fun K O=>?_)|((first|refine zH ?_|refine zN rfl (by kernel_rfl) ?_|refine zM ?_|refine zK (by kernel_rfl) ?_);simp only[vR,vQ,strip])|((first|refine wIs fun K O=>?_|refine wOs fun K O=>?_|refine wQs fun K O=>?_|refine zW ?_|refine zX ?_|refine zY ?_|refine zL ?_);simp[g1,b1,g32,g33,g34,hlt,hlt',he,hQ,o1,o2,hk1,hk1',hw1,he1,hQ1])|(refine wIn ?_;refine And.intro (by kernel_rfl) ?_;try simp only[zZ])|refine zR ?_|refine zT ?_|((first|refine zI ?_|refine zO ?_|refine zP ?_);try simp)|((first|refine zS ?_|refine wOn ?_|refine wQn ?_);try simp only[zZ])
   all_goals apply hr
   all_goals simp[Tryz.f19]
  have hk2:k-1<ss.length:=by omega
  have hk2':((k-1:Nat):Int)<ss.length:=by omega
  by_cases o3:v<=u
  ·rw[decide_eq_false (fun h=>by omega),Bool.false_and] at hi
   rw[<- hi] at hr
   repeat' first|((first|refine O _ ?_|refine O _ _ ?_|(clear O;refine O _ ?_));clear O)|(refine zJ fun K O=>?_)|((first|refine zH ?_|refine zN rfl (by kernel_rfl) ?_|refine zM ?_|refine zK (by kernel_rfl) ?_);simp only[vR,vQ,strip])|((first|refine wIs fun K O=>?_|refine wOs fun K O=>?_|refine wQs fun K O=>?_|refine zW ?_|refine zX ?_|refine zY ?_|refine zL ?_);simp[g1,b1,g32,g33,g34,hlt,hlt',he,hQ,o1,o2,o3,hk1,hk1',hw1,he1,hQ1,hk2,hk2'])|(refine wIn ?_;refine And.intro (by kernel_rfl) ?_;try simp only[zZ])|refine zR ?_|refine zT ?_|((first|refine zI ?_|refine zO ?_|refine zP ?_);try simp)|((first|refine zS ?_|refine wOn ?_|refine wQn ?_);try simp only[zZ])
   all_goals apply hr
   all_goals simp[Tryz.f19]
  rw[decide_eq_true ⟨by omega,by omega,by omega⟩,Bool.true_and] at hi
  repeat' first|((first|refine O _ ?_|refine O _ _ ?_|(clear O;refine O _ ?_));clear O)|(refine zJ fun K O=>?_)|((first|refine zH ?_|refine zN rfl (by kernel_rfl) ?_|refine zM ?_|refine zK (by kernel_rfl) ?_);simp only[vR,vQ,strip])|((first|refine wIs fun K O=>?_|refine wOs fun K O=>?_|refine wQs fun K O=>?_|refine zW ?_|refine zX ?_|refine zY ?_|refine zL ?_);simp[g1,b1,g32,g33,g34,hlt,hlt',hw,he,hQ,o1,o2,o3,hk1,hk1',hw1,he1,hQ1,hk2,hk2'])|(refine wIn ?_;refine And.intro (by kernel_rfl) ?_;try simp only[zZ])|refine zR ?_|refine zT ?_|((first|refine zI ?_|refine zO ?_|refine zP ?_);try simp)|((first|refine zS ?_|refine wOn ?_|refine wQn ?_);try simp only[zZ])
  all_goals refine hL _ (N-1) (by omega) ⟨k+1,by omega,?_⟩
  all_goals rw[hp]
  all_goals simp[g1,b1,g32,g33,g34,hw,hi]
end Go.Proofs.YtpihbhacmokekaaGreatDoor
namespace Go.Proofs.YtpihbhacmokekaaGreatDoor
open Go Go.Av
theorem awake20:zE Tryz.prog 7 [] (.p (B true)):=xCall_sound Tryz.tab Tryz.mixed base_ok 40 _ _ _ _ (by kernel_rfl)
end Go.Proofs.YtpihbhacmokekaaGreatDoor
namespace Go.Proofs.YtpihbhacmokekaaGreatDoor
set_option linter.unusedSimpArgs false
set_option linter.unusedVariables false
set_option maxRecDepth 8000
open Go Go.Av
attribute [local irreducible] Go.Av.yJ Go.Av.zU Go.Av.xY Go.Av.zQ Go.Av.yD Go.Av.zV Go.Av.Con
structure Ca where
 (h:Hy)
 (de dn self:Int)
 (l:List Lr)
def Ca.cells (x:Ca):List PV:=x.h.cells++[I x.de,I x.dn,I x.self,.sl 8 (lrs x.l)]
def LongH (h:Hy):Prop:=(∀z∈h.im.ns,long z)/\∀t∈h.lg,∀p∈t.ps,long p.z
theorem put_mem {l:List Zn}{z y:Zn}(h:y∈putZ l z):y=z\/y∈l:=by
 unfold putZ at h
 rcases List.mem_append.1 h with h|h
 ·exact .inr (List.mem_of_mem_take h)
 ·rcases List.mem_cons.1 h with h|h
  ·exact .inl h
  ·exact .inr (List.mem_of_mem_drop ((rst_sub _ _).subset h))
theorem stepP_long {s:Sv}{p:Pt}(h:∀z∈s.ns,long z)(hp:long p.z):∀z∈(yK s p).ns,long z:=by
 unfold yK
 split
 ·intro z hz
  rcases put_mem hz with rfl|hz
  ·exact hp
  ·exact h z hz
 split
 ·intro z hz
  exact h z (List.mem_filter.1 hz).1
 split
 ·exact h
 split
 ·exact h
 split <;> exact h
theorem runP_long:∀ (l:List Pt){s:Sv},(∀z∈s.ns,long z)->(∀p∈l,long p.z)->∀z∈(wY s l).ns,long z
 |[],s,h,_=>h
 |p::l,s,h,hp=>runP_long l (stepP_long h (hp p List.mem_cons_self)) fun q hq=>hp q (List.mem_cons_of_mem _ hq)
theorem allS_long:∀ (l:List Tx){s:Sv},(∀z∈s.ns,long z)->(∀t∈l,∀p∈t.ps,long p.z)->∀z∈(xS s l).ns,long z
 |[],s,h,_=>h
 |t::l,s,h,hp=>allS_long l (s:=doS s t) (runP_long t.ps h (hp t List.mem_cons_self)) fun q hq=>hp q (List.mem_cons_of_mem _ hq)
theorem stL_long {h:Hy}(hl:LongH h):∀z∈(stL h).ns,long z:=allS_long _ hl.1 fun t ht=>hl.2 t (List.mem_filter.1 ht).1
theorem sum_leR {α:Type}(f:α->Nat){l:List α}{a:α}(h:a∈l):f a<=(l.map f).sum:=by
 induction l with
 |nil=>cases h
 |cons b l ih =>
  rw[vR,List.sum_cons]
  rcases List.mem_cons.1 h with rfl|h
  ·omega
  ·have:=ih h;omega
theorem OkH.ofR {h:Hy}{l:List Lr}{r:Rp}(hn:nearK h l r):OkH h:=by
 obtain⟨h1,h2,h3,h4⟩:=hn
 unfold wH at h4
 have e0:∀l:List Tx,(l.map fun t=>t.ps.length).sum<=(l.map wT).sum:=by
  intro l
  induction l with
  |nil=>simp
  |cons t l ih =>
   rw[vR,vR,List.sum_cons,List.sum_cons]
   have:t.ps.length<=wT t:=by unfold wT;omega
   omega
 have e00:=e0 h.lg
 refine⟨by omega,by omega,by omega,by omega,fun t ht=>⟨by have:=h2 t ht;omega,fun p hp=>?_⟩,by omega⟩
 have e1:=sum_leR wT ht
 have e2:=sum_leR (fun p:Pt=>p.c.ms.length) hp
 unfold wT at e1
 unfold wT at h4
 omega
theorem runP_cc (B:Nat):∀ (l:List Pt){s:Sv},s.c.ms.length<=B->(∀p∈l,p.c.ms.length<=B)->(wY s l).c.ms.length<=B
 |[],s,h,_=>h
 |p::l,s,h,hp=>by
  refine runP_cc B l (s:=yK s p) ?_ fun q hq=>hp q (List.mem_cons_of_mem _ hq)
  have:=hp p List.mem_cons_self
  unfold yK
  split
  ·exact h
  split
  ·exact h
  split
  ·exact h
  split
  ·exact h
  split
  ·exact this
  ·exact h
theorem allS_cc (B:Nat):∀ (l:List Tx){s:Sv},s.c.ms.length<=B->(∀t∈l,∀p∈t.ps,p.c.ms.length<=B)->(xS s l).c.ms.length<=B
 |[],s,h,_=>h
 |t::l,s,h,hp=>allS_cc B l (s:=doS s t) (runP_cc B t.ps h (hp t List.mem_cons_self)) fun q hq=>hp q (List.mem_cons_of_mem _ hq)
theorem stL_cc {h:Hy}(hk:OkH h):(stL h).c.ms.length<=1000:=allS_cc 1000 _ hk.c fun t ht p hp=>(hk.ps t (List.mem_filter.1 ht).1).2 p hp
theorem OkH.fitL {h:Hy}(hk:OkH h):Fits h.im (psum (upTo (yR h).e (yR h).n h.lg)):=by
 have h1:psum (upTo (yR h).e (yR h).n h.lg)<=psum h.lg:=psum_filter _ _
 have h2:=hk.tot
 have h3:=hk.ns
 have h4:=hk.ss
 have h5:=hk.c
 unfold psum at *
 exact⟨by omega,by omega,by unfold okC;omega⟩
theorem OkH.okTR {h:Hy}(hk:OkH h):∀t∈h.lg,okT t:=fun t ht p hp=>by have:=(hk.ps t ht).2 p hp;unfold okC;omega
def rgtC (h:Hy):Bool:=risesB (marksH h) && rgtS (stL h)
set_option maxHeartbeats 4000000 in
theorem right20_con (x:Ca)(hk:OkH x.h)(hl:LongH x.h):zE Tryz.prog 6 [.p (.agg x.cells)] (.p (B (rgtC x.h))):=by
 have c1:=check16_con x.h hk.lg
 have c2:=last16_con x.h hk.lg
 have c3:=stateAt16_con x.h (yR x.h).e (yR x.h).n hk
 have c4:=rightP09_con (stL x.h) (stL_long hl) (by have:=stL_cc hk;omega)
 unfold rgtC
 change zE _ _ _ (.p (.agg (stL x.h).cells)) at c3
 obtain⟨h,de,dn,self,l⟩:=x
 dsimp only at *
 clear hk hl
 generalize stL h=S at *
 generalize yR h=la at *
 generalize risesB (marksH h)=b at *
 generalize rgtS S=b2 at *
 unfold Sv.cells Hy.cells Ca.cells at *
 unfold Hy.cells
 simp only[List.cons_append,List.nil_append]
 cases b
 ·refine zG Tryz.tab Tryz.mixed Tryz.func6 rfl rfl Tryz.ntmps6 (by simp) (by simp) fun Q hr hn=>?_
  repeat' first|((first|refine O _ ?_|refine O _ _ ?_|(clear O;refine O _ ?_));clear O)|(refine zJ fun K O=>?_)|((first|refine zH ?_|refine zN rfl (by kernel_rfl) ?_|refine zM ?_|refine zK (by kernel_rfl) ?_);simp only[vR,vQ,strip])|((first|refine wIs fun K O=>?_|refine wOs fun K O=>?_|refine wQs fun K O=>?_|refine zW ?_|refine zX ?_|refine zY ?_|refine zL ?_);simp)|(refine wIn ?_;refine And.intro (by kernel_rfl) ?_;try simp only[zZ])|refine zR ?_|refine zT ?_|((first|refine zI ?_|refine zO ?_|refine zP ?_);try simp)|((first|refine zS ?_|refine wOn ?_|refine wQn ?_);try simp only[zZ])|refine zU.p c1 rfl ?_|refine zU.l c1 rfl ?_|refine zQ.pure c1 rfl ?_|refine zQ.lent c1 rfl ?_|refine zU.o c1 ?_|refine zV.p c1 rfl ?_|refine zV.l c1 rfl ?_|refine zV.o c1 ?_
  all_goals apply hr
  all_goals simp[Tryz.f6]
 ·refine zG Tryz.tab Tryz.mixed Tryz.func6 rfl rfl Tryz.ntmps6 (by simp) (by simp) fun Q hr hn=>?_
  repeat' first|((first|refine O _ ?_|refine O _ _ ?_|(clear O;refine O _ ?_));clear O)|(refine zJ fun K O=>?_)|((first|refine zH ?_|refine zN rfl (by kernel_rfl) ?_|refine zM ?_|refine zK (by kernel_rfl) ?_);simp only[vR,vQ,strip])|((first|refine wIs fun K O=>?_|refine wOs fun K O=>?_|refine wQs fun K O=>?_|refine zW ?_|refine zX ?_|refine zY ?_|refine zL ?_);simp)|(refine wIn ?_;refine And.intro (by kernel_rfl) ?_;try simp only[zZ])|refine zR ?_|refine zT ?_|((first|refine zI ?_|refine zO ?_|refine zP ?_);try simp)|((first|refine zS ?_|refine wOn ?_|refine wQn ?_);try simp only[zZ])|refine zU.p c1 rfl ?_|refine zU.l c1 rfl ?_|refine zQ.pure c1 rfl ?_|refine zQ.lent c1 rfl ?_|refine zU.o c1 ?_|refine zV.p c1 rfl ?_|refine zV.l c1 rfl ?_|refine zV.o c1 ?_|refine zU.p c2 rfl ?_|refine zU.l c2 rfl ?_|refine zQ.pure c2 rfl ?_|refine zQ.lent c2 rfl ?_|refine zU.o c2 ?_|refine zV.p c2 rfl ?_|refine zV.l c2 rfl ?_|refine zV.o c2 ?_|refine zU.p c3 rfl ?_|refine zU.l c3 rfl ?_|refine zQ.pure c3 rfl ?_|refine zQ.lent c3 rfl ?_|refine zU.o c3 ?_|refine zV.p c3 rfl ?_|refine zV.l c3 rfl ?_|refine zV.o c3 ?_|refine zU.p c4 rfl ?_|refine zU.l c4 rfl ?_|refine zQ.pure c4 rfl ?_|refine zQ.lent c4 rfl ?_|refine zU.o c4 ?_|refine zV.p c4 rfl ?_|refine zV.l c4 rfl ?_|refine zV.o c4 ?_
  all_goals apply hr
  all_goals simp[Tryz.f6]
set_option maxHeartbeats 8000000 in
theorem reconfAsks_con (x:Ca)(r:Rp)(hs:SmallH x.h)(hl:SmallL x.l)(hR:SmallR r)(hL:LongH x.h):zE Tryz.prog 3 [.p (.agg x.cells),.p (.agg r.cells)] (.p (B true)):=by
 have c0:=far20_con x.h x.l r hs hl hR
 have ca:=awake20
 by_cases hn:nearK x.h x.l r
 rotate_left
 ·rw[decide_eq_true hn] at c0
  obtain⟨h,de,dn,self,l⟩:=x
  dsimp only at *
  clear hs hl hR hL hn
  unfold Hy.cells Ca.cells Rp.cells at *
  unfold Hy.cells
  simp only[List.cons_append,List.nil_append]
  refine zG Tryz.tab Tryz.mixed Tryz.func3 rfl rfl Tryz.ntmps3 (by simp) (by simp) fun Q hr hn=>?_
  repeat' first|((first|refine O _ ?_|refine O _ _ ?_|(clear O;refine O _ ?_));clear O)|(refine zJ fun K O=>?_)|((first|refine zH ?_|refine zN rfl (by kernel_rfl) ?_|refine zM ?_|refine zK (by kernel_rfl) ?_);simp only[vR,vQ,strip])|((first|refine wIs fun K O=>?_|refine wOs fun K O=>?_|refine wQs fun K O=>?_|refine zW ?_|refine zX ?_|refine zY ?_|refine zL ?_);simp)|(refine wIn ?_;refine And.intro (by kernel_rfl) ?_;try simp only[zZ])|refine zR ?_|refine zT ?_|((first|refine zI ?_|refine zO ?_|refine zP ?_);try simp)|((first|refine zS ?_|refine wOn ?_|refine wQn ?_);try simp only[zZ])|refine zU.p c0 rfl ?_|refine zU.l c0 rfl ?_|refine zQ.pure c0 rfl ?_|refine zQ.lent c0 rfl ?_|refine zU.o c0 ?_|refine zV.p c0 rfl ?_|refine zV.l c0 rfl ?_|refine zV.o c0 ?_|refine zU.p ca rfl ?_|refine zU.l ca rfl ?_|refine zQ.pure ca rfl ?_|refine zQ.lent ca rfl ?_|refine zU.o ca ?_|refine zV.p ca rfl ?_|refine zV.l ca rfl ?_|refine zV.o ca ?_
  all_goals apply hr
  all_goals simp[Tryz.f3]
 rw[decide_eq_false (fun h=>h hn)] at c0
 have hk:=OkH.ofR hn
 have hcc:=stL_cc hk
 have hw:wR r<=300:=by have:=hn.2.2.2;omega
 unfold wR at hw
 have c1:=right20_con x hk hL
 have c2:=ask_con x.h x.de x.dn x.self x.l r hk (by have:=hn.2.2.1;omega) hk.fitL hk.okTR (by omega) (by omega) (by omega)
 have c3:=ask20_con x.h x.de x.dn x.self x.l r hk (by have:=hn.2.2.1;omega) (by omega) (by omega) (by omega)
 generalize askC x.h x.de x.dn x.self x.l r=y at *
 have c4:=cfSame04_con y.1 y.1
 rw[decide_eq_true rfl] at c4
 generalize rgtC x.h=g at *
 obtain⟨h,de,dn,self,l⟩:=x
 dsimp only at *
 clear hs hl hR hL hn hk hcc hw
 obtain⟨⟨ye,yn,yk,yms⟩,yer⟩:=y
 dsimp only at *
 unfold Hy.cells Ca.cells Rp.cells Cf.cells at *
 unfold Hy.cells at *
 simp only[List.cons_append,List.nil_append] at *
 cases g
 ·refine zG Tryz.tab Tryz.mixed Tryz.func3 rfl rfl Tryz.ntmps3 (by simp) (by simp) fun Q hr hn=>?_
  repeat' first|((first|refine O _ ?_|refine O _ _ ?_|(clear O;refine O _ ?_));clear O)|(refine zJ fun K O=>?_)|((first|refine zH ?_|refine zN rfl (by kernel_rfl) ?_|refine zM ?_|refine zK (by kernel_rfl) ?_);simp only[vR,vQ,strip])|((first|refine wIs fun K O=>?_|refine wOs fun K O=>?_|refine wQs fun K O=>?_|refine zW ?_|refine zX ?_|refine zY ?_|refine zL ?_);simp)|(refine wIn ?_;refine And.intro (by kernel_rfl) ?_;try simp only[zZ])|refine zR ?_|refine zT ?_|((first|refine zI ?_|refine zO ?_|refine zP ?_);try simp)|((first|refine zS ?_|refine wOn ?_|refine wQn ?_);try simp only[zZ])|refine zU.p c0 rfl ?_|refine zU.l c0 rfl ?_|refine zQ.pure c0 rfl ?_|refine zQ.lent c0 rfl ?_|refine zU.o c0 ?_|refine zV.p c0 rfl ?_|refine zV.l c0 rfl ?_|refine zV.o c0 ?_|refine zU.p c1 rfl ?_|refine zU.l c1 rfl ?_|refine zQ.pure c1 rfl ?_|refine zQ.lent c1 rfl ?_|refine zU.o c1 ?_|refine zV.p c1 rfl ?_|refine zV.l c1 rfl ?_|refine zV.o c1 ?_|refine zU.p ca rfl ?_|refine zU.l ca rfl ?_|refine zQ.pure ca rfl ?_|refine zQ.lent ca rfl ?_|refine zU.o ca ?_|refine zV.p ca rfl ?_|refine zV.l ca rfl ?_|refine zV.o ca ?_
  all_goals apply hr
  all_goals simp[Tryz.f3]
 ·refine zG Tryz.tab Tryz.mixed Tryz.func3 rfl rfl Tryz.ntmps3 (by simp) (by simp) fun Q hr hn=>?_
  repeat' first|((first|refine O _ ?_|refine O _ _ ?_|(clear O;refine O _ ?_));clear O)|(refine zJ fun K O=>?_)|((first|refine zH ?_|refine zN rfl (by kernel_rfl) ?_|refine zM ?_|refine zK (by kernel_rfl) ?_);simp only[vR,vQ,strip])|((first|refine wIs fun K O=>?_|refine wOs fun K O=>?_|refine wQs fun K O=>?_|refine zW ?_|refine zX ?_|refine zY ?_|refine zL ?_);simp)|(refine wIn ?_;refine And.intro (by kernel_rfl) ?_;try simp only[zZ])|refine zR ?_|refine zT ?_|((first|refine zI ?_|refine zO ?_|refine zP ?_);try simp)|((first|refine zS ?_|refine wOn ?_|refine wQn ?_);try simp only[zZ])|refine zU.p c0 rfl ?_|refine zU.l c0 rfl ?_|refine zQ.pure c0 rfl ?_|refine zQ.lent c0 rfl ?_|refine zU.o c0 ?_|refine zV.p c0 rfl ?_|refine zV.l c0 rfl ?_|refine zV.o c0 ?_|refine zU.p c1 rfl ?_|refine zU.l c1 rfl ?_|refine zQ.pure c1 rfl ?_|refine zQ.lent c1 rfl ?_|refine zU.o c1 ?_|refine zV.p c1 rfl ?_|refine zV.l c1 rfl ?_|refine zV.o c1 ?_|refine zU.p c2 rfl ?_|refine zU.l c2 rfl ?_|refine zQ.pure c2 rfl ?_|refine zQ.lent c2 rfl ?_|refine zU.o c2 ?_|refine zV.p c2 rfl ?_|refine zV.l c2 rfl ?_|refine zV.o c2 ?_|refine zU.p c3 rfl ?_|refine zU.l c3 rfl ?_|refine zQ.pure c3 rfl ?_|refine zQ.lent c3 rfl ?_|refine zU.o c3 ?_|refine zV.p c3 rfl ?_|refine zV.l c3 rfl ?_|refine zV.o c3 ?_|refine zU.p c4 rfl ?_|refine zU.l c4 rfl ?_|refine zQ.pure c4 rfl ?_|refine zQ.lent c4 rfl ?_|refine zU.o c4 ?_|refine zV.p c4 rfl ?_|refine zV.l c4 rfl ?_|refine zV.o c4 ?_|refine zU.p ca rfl ?_|refine zU.l ca rfl ?_|refine zQ.pure ca rfl ?_|refine zQ.lent ca rfl ?_|refine zU.o ca ?_|refine zV.p ca rfl ?_|refine zV.l ca rfl ?_|refine zV.o ca ?_
  all_goals apply hr
  all_goals simp[Tryz.f3]
end Go.Proofs.YtpihbhacmokekaaGreatDoor
