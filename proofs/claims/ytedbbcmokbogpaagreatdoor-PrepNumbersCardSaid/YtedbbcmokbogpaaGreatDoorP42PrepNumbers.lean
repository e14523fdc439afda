/- Texts that the proof needs: DAQ PR7 XP PR8 PRA PRB PRD Awm. -/
import Derived.Test.YtedbbcmokbogpaaGreatDoorP31PrepNumbers
import Derived.Test.YtedbbcmokbogpaaGreatDoorP41PrepNumbers
import Derived.Test.YtedbbcmokbogpaaGreatDoorP40PrepNumbers
import Derived.Test.YtedbbcmokbogpaaGreatDoorP32PrepNumbers
import Derived.Test.YtedbbcmokbogpaaGreatDoorP18PrepNumbers
import Derived.Test.YtedbbcmokbogpaaGreatDoorP15PrepNumbers
import Derived.Test.YtedbbcmokbogpaaGreatDoorP12PrepNumbers
import Derived.Test.YtedbbcmokbogpaaGreatDoorP21PrepNumbers
import Derived.WalkKit
namespace Go.Proofs.YtedbbcmokbogpaaGreatDoor
set_option linter.unusedSimpArgs false
set_option linter.unusedVariables false
open Go Go.Av
attribute [local irreducible] Go.Av.yP Go.Av.zU Go.Av.yN Go.Av.zT Go.Av.yO Go.Av.zV Go.Av.Con
def fm (id:Int):List Mb->Mb × Bool
 |[]=>(⟨0,0,0,0⟩,false)
 |m::l=>if m.i=id then (m,true) else fm id l
structure Dl where
 kind:Int
 put:List Mb
 drop:List Int
def Dl.cells (d:Dl):List PV:=[I d.kind,.sl 4 (mbs d.put),.sl 1 (ints d.drop)]
def hasI (b:List Mb)(id:Int):Bool:=b.any fun x=>decide (x.i=id)
set_option maxHeartbeats 1000000 in
theorem findM_con (c:Cf)(id:Int)(hl:c.ms.length<=1000000):zD Tryz.prog 81 [.p (.agg c.cells),.p (I id)] (.tup [.p (.agg (fm id c.ms).1.cells),.p (B (fm id c.ms).2)]):=by
 obtain⟨ep,n,kind,l⟩:=c
 simp only[Cf.cells] at hl ⊢
 refine zG Tryz.tab Tryz.mixed Tryz.func81 rfl rfl Tryz.ntmps81 (by simp) (by simp) fun Q hr hn=>?_
 repeat' first|((first|refine O _ ?_|refine O _ _ ?_|(clear O;refine O _ ?_));clear O)|(refine zJ fun K O=>?_)|((first|refine zH ?_|refine zN rfl (by kernel_rfl) ?_|refine zM ?_|refine zK (by kernel_rfl) ?_);simp only[vZ,vY,strip])|((first|refine wIs fun K O=>?_|refine wOs fun K O=>?_|refine wQs fun K O=>?_|refine zW ?_|refine zX ?_|refine zY ?_|refine zL ?_);simp)|(refine wIn ?_;refine And.intro (by kernel_rfl) ?_;try simp only[zZ])|refine zQ ?_|refine zS ?_|((first|refine zI ?_|refine zO ?_|refine zP ?_);try simp)|((first|refine zR ?_|refine wOn ?_|refine wQn ?_);try simp only[zZ])
 refine yT (fun N st=>∃ (k:Nat),k+N=l.length/\st.s 1=.p (I id)/\st.s 4=.ptr 4 0/\st.b 4=some (.box 61 [.p (I 0),.p (I 0),.p (I 0),.p (I 0)])/\st.s 9=.p (.sl 4 (mbs l))/\st.s 10=.p (I l.length)/\st.s 11=.p (I k)/\fm id (l.drop k)=fm id l) l.length ⟨0,by simp⟩ fun K N st hL ⟨k,hk,h1,h4,b4,h9,h10,h11,hi⟩=>?_
 by_cases hlt:k<l.length
 ·have hw:=yA k _ hlt (by omega)
  rw[List.drop_eq_getElem_cons hlt,fm] at hi
  by_cases o:l[k].i=id
  ·rw[if_pos o] at hi
   repeat' first|((first|refine O _ ?_|refine O _ _ ?_|(clear O;refine O _ ?_));clear O)|(refine zJ fun K O=>?_)|((first|refine zH ?_|refine zN rfl (by kernel_rfl) ?_|refine zM ?_|refine zK (by kernel_rfl) ?_);simp only[vZ,vY,strip])|((first|refine wIs fun K O=>?_|refine wOs fun K O=>?_|refine wQs fun K O=>?_|refine zW ?_|refine zX ?_|refine zY ?_|refine zL ?_);simp[h1,h4,b4,h9,h10,h11,hlt,hw,o])|(refine wIn ?_;refine And.intro (by kernel_rfl) ?_;try simp only[zZ])|refine zQ ?_|refine zS ?_|((first|refine zI ?_|refine zO ?_|refine zP ?_);try simp)|((first|refine zR ?_|refine wOn ?_|refine wQn ?_);try simp only[zZ])
   all_goals apply hr
   all_goals rw[<- hi]
   all_goals simp[Tryz.f81,Mb.cells,o,h4,b4]
  ·rw[if_neg o] at hi
   repeat' first|((first|refine O _ ?_|refine O _ _ ?_|(clear O;refine O _ ?_));clear O)|(refine zJ fun K O=>?_)|((first|refine zH ?_|refine zN rfl (by kernel_rfl) ?_|refine zM ?_|refine zK (by kernel_rfl) ?_);simp only[vZ,vY,strip])|((first|refine wIs fun K O=>?_|refine wOs fun K O=>?_|refine wQs fun K O=>?_|refine zW ?_|refine zX ?_|refine zY ?_|refine zL ?_);simp[h1,h4,b4,h9,h10,h11,hlt,hw,o])|(refine wIn ?_;refine And.intro (by kernel_rfl) ?_;try simp only[zZ])|refine zQ ?_|refine zS ?_|((first|refine zI ?_|refine zO ?_|refine zP ?_);try simp)|((first|refine zR ?_|refine wOn ?_|refine wQn ?_);try simp only[zZ])
   refine hL _ (N-1) (by omega) ⟨k+1,by omega,?_⟩
   simp[h1,h4,b4,h9,h10,hw,hi]
 ·rw[List.drop_of_length_le (by omega),fm] at hi
  repeat' first|((first|refine O _ ?_|refine O _ _ ?_|(clear O;refine O _ ?_));clear O)|(refine zJ fun K O=>?_)|((first|refine zH ?_|refine zN rfl (by kernel_rfl) ?_|refine zM ?_|refine zK (by kernel_rfl) ?_);simp only[vZ,vY,strip])|((first|refine wIs fun K O=>?_|refine wOs fun K O=>?_|refine wQs fun K O=>?_|refine zW ?_|refine zX ?_|refine zY ?_|refine zL ?_);simp[h1,h4,b4,h9,h10,h11,hlt])|(refine wIn ?_;refine And.intro (by kernel_rfl) ?_;try simp only[zZ])|refine zQ ?_|refine zS ?_|((first|refine zI ?_|refine zO ?_|refine zP ?_);try simp)|((first|refine zR ?_|refine wOn ?_|refine wQn ?_);try simp only[zZ])
  apply hr
  rw[<- hi]
  simp[Tryz.f81,Mb.cells,h4,b4]
end Go.Proofs.YtedbbcmokbogpaaGreatDoor
namespace Go.Proofs.YtedbbcmokbogpaaGreatDoor
set_option linter.unusedSimpArgs false
set_option linter.unusedVariables false
set_option maxRecDepth 8000
open Go Go.Av
attribute [local irreducible] Go.Av.yP Go.Av.zU Go.Av.yN Go.Av.zT Go.Av.yO Go.Av.zV Go.Av.Con
def opPt (ses:Int):Pt:=⟨3,zz,ses,cf0⟩
def opnT (s:Sv)(e n ses x:Int):Tx:=if 20<=s.ss.length\/s.nx=1099511627776 then ⟨e,n,ses,x,8,0,[],[]⟩ else ⟨e,n,s.nx,x,0,0,[],[opPt s.nx]⟩
theorem opened_con (s:Sv)(e n ses x:Int):zD Tryz.prog 22 [.p (.agg s.cells),.p (.agg [I e,I n,I ses,I x,I 0,I 0,SB [],nilS])] (.p (.agg (opnT s e n ses x).cells)):=by
 have c1:=refused_con e n ses x 0 0 [] nilS rfl 8
 unfold opnT
 obtain⟨ns,ss,nx,c,ae,an⟩:=s
 dsimp only
 by_cases h1:20<=ss.length
 ·rw[if_pos (.inl h1)]
  have h1':(20:Int)<=ss.length:=by omega
  unfold Tx.cells Sv.cells at *
  dsimp only at *
  refine zG Tryz.tab Tryz.mixed Tryz.func22 rfl rfl Tryz.ntmps22 (by simp) (by simp) fun Q hr hn=>?_
  repeat' first|((first|refine O _ ?_|refine O _ _ ?_|(clear O;refine O _ ?_));clear O)|(refine zJ fun K O=>?_)|((first|refine zH ?_|refine zN rfl (by kernel_rfl) ?_|refine zM ?_|refine zK (by kernel_rfl) ?_);simp only[vZ,vY,strip])|((first|refine wIs fun K O=>?_|refine wOs fun K O=>?_|refine wQs fun K O=>?_|refine zW ?_|refine zX ?_|refine zY ?_|refine zL ?_);simp[h1,h1'])|(refine wIn ?_;refine And.intro (by kernel_rfl) ?_;try simp only[zZ])|refine zQ ?_|refine zS ?_|((first|refine zI ?_|refine zO ?_|refine zP ?_);try simp)|((first|refine zR ?_|refine wOn ?_|refine wQn ?_);try simp only[zZ])|refine zU.p c1 rfl ?_|refine zU.l c1 rfl ?_|refine zT.p c1 rfl ?_|refine zT.l c1 rfl ?_|refine zU.o c1 ?_|refine zV.p c1 rfl ?_|refine zV.l c1 rfl ?_|refine zV.o c1 ?_
  all_goals apply hr
  all_goals simp[Tryz.f22]
 have h1':¬ (20:Int)<=ss.length:=by omega
 by_cases h2:nx=1099511627776
 ·subst h2
  rw[if_pos (.inr rfl)]
  unfold Tx.cells Sv.cells at *
  dsimp only at *
  refine zG Tryz.tab Tryz.mixed Tryz.func22 rfl rfl Tryz.ntmps22 (by simp) (by simp) fun Q hr hn=>?_
  repeat' first|((first|refine O _ ?_|refine O _ _ ?_|(clear O;refine O _ ?_));clear O)|(refine zJ fun K O=>?_)|((first|refine zH ?_|refine zN rfl (by kernel_rfl) ?_|refine zM ?_|refine zK (by kernel_rfl) ?_);simp only[vZ,vY,strip])|((first|refine wIs fun K O=>?_|refine wOs fun K O=>?_|refine wQs fun K O=>?_|refine zW ?_|refine zX ?_|refine zY ?_|refine zL ?_);simp[h1,h1'])|(refine wIn ?_;refine And.intro (by kernel_rfl) ?_;try simp only[zZ])|refine zQ ?_|refine zS ?_|((first|refine zI ?_|refine zO ?_|refine zP ?_);try simp)|((first|refine zR ?_|refine wOn ?_|refine wQn ?_);try simp only[zZ])|refine zU.p c1 rfl ?_|refine zU.l c1 rfl ?_|refine zT.p c1 rfl ?_|refine zT.l c1 rfl ?_|refine zU.o c1 ?_|refine zV.p c1 rfl ?_|refine zV.l c1 rfl ?_|refine zV.o c1 ?_
  all_goals apply hr
  all_goals simp[Tryz.f22]
 ·rw[if_neg (fun h=>h.elim h1 h2)]
  have h2':(nx=1099511627776)=False:=eq_false h2
  unfold Tx.cells Sv.cells pts opPt zz cf0
  simp only[vZ,vY]
  unfold Pt.cells
  dsimp only at *
  clear c1
  refine zG Tryz.tab Tryz.mixed Tryz.func22 rfl rfl Tryz.ntmps22 (by simp) (by simp) fun Q hr hn=>?_
  repeat' first|((first|refine O _ ?_|refine O _ _ ?_|(clear O;refine O _ ?_));clear O)|(refine zJ fun K O=>?_)|((first|refine zH ?_|refine zN rfl (by kernel_rfl) ?_|refine zM ?_|refine zK (by kernel_rfl) ?_);simp only[vZ,vY,strip])|((first|refine wIs fun K O=>?_|refine wOs fun K O=>?_|refine wQs fun K O=>?_|refine zW ?_|refine zX ?_|refine zY ?_|refine zL ?_);simp[h1,h1',h2'])|(refine wIn ?_;refine And.intro (by kernel_rfl) ?_;try simp only[zZ])|refine zQ ?_|refine zS ?_|((first|refine zI ?_|refine zO ?_|refine zP ?_);try simp)|((first|refine zR ?_|refine wOn ?_|refine wQn ?_);try simp only[zZ])
  all_goals apply hr
  all_goals simp[Tryz.f22,mbs,show ByteArray.empty=bs [] from rfl]
structure Rp where
 (k s x:Int)
 (ops:List Oq)
 (d:Dl)
 (we wn:Int)
def Rp.cells (r:Rp):List PV:=[I r.k,I r.s,I r.x,.sl 6 (oqs r.ops),I r.d.kind,.sl 4 (mbs r.d.put),.sl 1 (ints r.d.drop),I r.we,I r.wn]
def makT (s:Sv)(r:Rp)(e n:Int):Tx :=
 if r.k=2 then opnT s e n r.s r.x
 else if (r.k=1\/r.k=3\/r.k=4)/\r.s ∉ s.ss then ⟨e,n,r.s,r.x,13,0,[],[]⟩
 else if r.k=1 then chgT s r.ops e n r.s r.x
 else if r.k=3 then clsT s e n r.s r.x
 else ⟨e,n,r.s,r.x,1,0,[],[]⟩
structure OkSv (s:Sv):Prop where
 F:Fits s 1000
 N:okN s.ns
 l:s.ns.length<=100
structure OkRp (r:Rp):Prop where
 o:∀o∈r.ops,o.pa.length<=9223372036854775807/\o.da.length<=9223372036854775807
 l:r.ops.length<=9223372036854775807
set_option maxHeartbeats 4000000 in
theorem make_con (s:Sv)(r:Rp)(e n:Int)(hs:OkSv s)(hr0:OkRp r)(h4:r.k=4->r.s ∉ s.ss):zD Tryz.prog 12 [.p (.agg s.cells),.p (.agg r.cells),.p (.agg [I e,I n])] (.p (.agg (makT s r e n).cells)):=by
 have c1:=opened_con s e n r.s r.x
 have c2:=wB s.ss r.s
 have c3:=fun er=>refused_con e n r.s r.x 0 0 [] nilS rfl er
 have c4:=changed_con s r.ops e n r.s r.x (hs.F.le (by omega)) hs.N hr0.o hr0.l
 have c5:=closed_con s e n r.s r.x hs.F hs.N hs.l
 unfold makT
 clear hs hr0
 generalize opnT s e n r.s r.x=t1 at *
 generalize chgT s r.ops e n r.s r.x=t4 at *
 generalize clsT s e n r.s r.x=t5 at *
 obtain⟨k,rs,x,ops,⟨dk,put,drop⟩,we,wn⟩:=r
 dsimp only at *
 by_cases k2:k=2
 ·subst k2
  rw[if_pos rfl]
  unfold Tx.cells Rp.cells Sv.cells at *
  dsimp only at *
  refine zG Tryz.tab Tryz.mixed Tryz.func12 rfl rfl Tryz.ntmps12 (by simp) (by simp) fun Q hr hn=>?_
  repeat' first|((first|refine O _ ?_|refine O _ _ ?_|(clear O;(first|refine O _ ?_|(clear O;(first|refine O _ ?_|(clear O;(first|refine O _ ?_|(clear O;refine O _ ?_))))))));clear O)|(refine zJ fun K O=>?_)|((first|refine zH ?_|refine zN rfl (by kernel_rfl) ?_|refine zM ?_|refine zK (by kernel_rfl) ?_);simp only[vZ,vY,strip])|((first|refine wIs fun K O=>?_|refine wOs fun K O=>?_|refine wQs fun K O=>?_|refine zW ?_|refine zX ?_|refine zY ?_|refine zL ?_);simp[show ByteArray.empty = bs [] from rfl])|(refine wIn ?_;refine And.intro (by kernel_rfl) ?_;try simp only[zZ])|refine zQ ?_|refine zS ?_|((first|refine zI ?_|refine zO ?_|refine zP ?_);try simp)|((first|refine zR ?_|refine wOn ?_|refine wQn ?_);try simp only[zZ])|refine zU.p c1 rfl ?_|refine zU.l c1 rfl ?_|refine zT.p c1 rfl ?_|refine zT.l c1 rfl ?_|refine zU.o c1 ?_|refine zV.p c1 rfl ?_|refine zV.l c1 rfl ?_|refine zV.o c1 ?_
  all_goals apply hr
  all_goals simp[Tryz.f12]
 rw[if_neg k2]
 have k2':(k=2)=False:=eq_false k2
 by_cases hm:rs∈s.ss
 case neg =>
  by_cases h134:k=1\/k=3\/k=4
  ·rw[if_pos ⟨h134,hm⟩]
   rw[decide_eq_false hm] at c2
   have c6:=c3 13
   unfold Tx.cells Rp.cells Sv.cells at *
   dsimp only at *
   rcases h134 with rfl|rfl|rfl
   all_goals
    refine zG Tryz.tab Tryz.mixed Tryz.func12 rfl rfl Tryz.ntmps12 (by simp) (by simp) fun Q hr hn=>?_
    repeat' first|((first|refine O _ ?_|refine O _ _ ?_|(clear O;(first|refine O _ ?_|(clear O;(first|refine O _ ?_|(clear O;(first|refine O _ ?_|(clear O;refine O _ ?_))))))));clear O)|(refine zJ fun K O=>?_)|((first|refine zH ?_|refine zN rfl (by kernel_rfl) ?_|refine zM ?_|refine zK (by kernel_rfl) ?_);simp only[vZ,vY,strip])|((first|refine wIs fun K O=>?_|refine wOs fun K O=>?_|refine wQs fun K O=>?_|refine zW ?_|refine zX ?_|refine zY ?_|refine zL ?_);simp[show ByteArray.empty = bs [] from rfl])|(refine wIn ?_;refine And.intro (by kernel_rfl) ?_;try simp only[zZ])|refine zQ ?_|refine zS ?_|((first|refine zI ?_|refine zO ?_|refine zP ?_);try simp)|((first|refine zR ?_|refine wOn ?_|refine wQn ?_);try simp only[zZ])|refine zU.p c2 rfl ?_|refine zU.l c2 rfl ?_|refine zT.p c2 rfl ?_|refine zT.l c2 rfl ?_|refine zU.o c2 ?_|refine zV.p c2 rfl ?_|refine zV.l c2 rfl ?_|refine zV.o c2 ?_|refine zU.p c6 rfl ?_|refine zU.l c6 rfl ?_|refine zT.p c6 rfl ?_|refine zT.l c6 rfl ?_|refine zU.o c6 ?_|refine zV.p c6 rfl ?_|refine zV.l c6 rfl ?_|refine zV.o c6 ?_
    all_goals apply hr
    all_goals simp[Tryz.f12]
  ·rw[if_neg (fun h=>h134 h.1),if_neg (fun h=>h134 (.inl h)),if_neg (fun h=>h134 (.inr (.inl h)))]
   have k1':(k=1)=False:=eq_false fun h=>h134 (.inl h)
   have k3':(k=3)=False:=eq_false fun h=>h134 (.inr (.inl h))
   have k4':(k=4)=False:=eq_false fun h=>h134 (.inr (.inr h))
   have c6:=c3 1
   unfold Tx.cells Rp.cells Sv.cells at *
   dsimp only at *
   refine zG Tryz.tab Tryz.mixed Tryz.func12 rfl rfl Tryz.ntmps12 (by simp) (by simp) fun Q hr hn=>?_
   repeat' first|((first|refine O _ ?_|refine O _ _ ?_|(clear O;(first|refine O _ ?_|(clear O;(first|refine O _ ?_|(clear O;(first|refine O _ ?_|(clear O;refine O _ ?_))))))));clear O)|(refine zJ fun K O=>?_)|((first|refine zH ?_|refine zN rfl (by kernel_rfl) ?_|refine zM ?_|refine zK (by kernel_rfl) ?_);simp only[vZ,vY,strip])|((first|refine wIs fun K O=>?_|refine wOs fun K O=>?_|refine wQs fun K O=>?_|refine zW ?_|refine zX ?_|refine zY ?_|refine zL ?_);simp[k1',k2',k3',k4',show ByteArray.empty = bs [] from rfl])|(refine wIn ?_;refine And.intro (by kernel_rfl) ?_;try simp only[zZ])|refine zQ ?_|refine zS ?_|((first|refine zI ?_|refine zO ?_|refine zP ?_);try simp)|((first|refine zR ?_|refine wOn ?_|refine wQn ?_);try simp only[zZ])|refine zU.p c6 rfl ?_|refine zU.l c6 rfl ?_|refine zT.p c6 rfl ?_|refine zT.l c6 rfl ?_|refine zU.o c6 ?_|refine zV.p c6 rfl ?_|refine zV.l c6 rfl ?_|refine zV.o c6 ?_
   all_goals apply hr
   all_goals simp[Tryz.f12]
 rw[if_neg (fun h=>h.2 hm)]
 rw[decide_eq_true hm] at c2
 have k4:¬ k=4:=fun h=>h4 h hm
 have k4':(k=4)=False:=eq_false k4
 by_cases k1:k=1
 ·subst k1
  rw[if_pos rfl]
  unfold Tx.cells Rp.cells Sv.cells at *
  dsimp only at *
  refine zG Tryz.tab Tryz.mixed Tryz.func12 rfl rfl Tryz.ntmps12 (by simp) (by simp) fun Q hr hn=>?_
  repeat' first|((first|refine O _ ?_|refine O _ _ ?_|(clear O;(first|refine O _ ?_|(clear O;(first|refine O _ ?_|(clear O;(first|refine O _ ?_|(clear O;refine O _ ?_))))))));clear O)|(refine zJ fun K O=>?_)|((first|refine zH ?_|refine zN rfl (by kernel_rfl) ?_|refine zM ?_|refine zK (by kernel_rfl) ?_);simp only[vZ,vY,strip])|((first|refine wIs fun K O=>?_|refine wOs fun K O=>?_|refine wQs fun K O=>?_|refine zW ?_|refine zX ?_|refine zY ?_|refine zL ?_);simp[show ByteArray.empty = bs [] from rfl])|(refine wIn ?_;refine And.intro (by kernel_rfl) ?_;try simp only[zZ])|refine zQ ?_|refine zS ?_|((first|refine zI ?_|refine zO ?_|refine zP ?_);try simp)|((first|refine zR ?_|refine wOn ?_|refine wQn ?_);try simp only[zZ])|refine zU.p c2 rfl ?_|refine zU.l c2 rfl ?_|refine zT.p c2 rfl ?_|refine zT.l c2 rfl ?_|refine zU.o c2 ?_|refine zV.p c2 rfl ?_|refine zV.l c2 rfl ?_|refine zV.o c2 ?_|refine zU.p c4 rfl ?_|refine zU.l c4 rfl ?_|refine zT.p c4 rfl ?_|refine zT.l c4 rfl ?_|refine zU.o c4 ?_|refine zV.p c4 rfl ?_|refine zV.l c4 rfl ?_|refine zV.o c4 ?_
  all_goals apply hr
  all_goals simp[Tryz.f12]
 rw[if_neg k1]
 have k1':(k=1)=False:=eq_false k1
 by_cases k3:k=3
 ·subst k3
  rw[if_pos rfl]
  unfold Tx.cells Rp.cells Sv.cells at *
  dsimp only at *
  refine zG Tryz.tab Tryz.mixed Tryz.func12 rfl rfl Tryz.ntmps12 (by simp) (by simp) fun Q hr hn=>?_
  repeat' first|((first|refine O _ ?_|refine O _ _ ?_|(clear O;(first|refine O _ ?_|(clear O;(first|refine O _ ?_|(clear O;(first|refine O _ ?_|(clear O;refine O _ ?_))))))));clear O)|(refine zJ fun K O=>?_)|((first|refine zH ?_|refine zN rfl (by kernel_rfl) ?_|refine zM ?_|refine zK (by kernel_rfl) ?_);simp only[vZ,vY,strip])|((first|refine wIs fun K O=>?_|refine wOs fun K O=>?_|refine wQs fun K O=>?_|refine zW ?_|refine zX ?_|refine zY ?_|refine zL ?_);simp[show ByteArray.empty = bs [] from rfl])|(refine wIn ?_;refine And.intro (by kernel_rfl) ?_;try simp only[zZ])|refine zQ ?_|refine zS ?_|((first|refine zI ?_|refine zO ?_|refine zP ?_);try simp)|((first|refine zR ?_|refine wOn ?_|refine wQn ?_);try simp only[zZ])|refine zU.p c2 rfl ?_|refine zU.l c2 rfl ?_|refine zT.p c2 rfl ?_|refine zT.l c2 rfl ?_|refine zU.o c2 ?_|refine zV.p c2 rfl ?_|refine zV.l c2 rfl ?_|refine zV.o c2 ?_|refine zU.p c5 rfl ?_|refine zU.l c5 rfl ?_|refine zT.p c5 rfl ?_|refine zT.l c5 rfl ?_|refine zU.o c5 ?_|refine zV.p c5 rfl ?_|refine zV.l c5 rfl ?_|refine zV.o c5 ?_
  all_goals apply hr
  all_goals simp[Tryz.f12]
 rw[if_neg k3]
 have k3':(k=3)=False:=eq_false k3
 have c6:=c3 1
 unfold Tx.cells Rp.cells Sv.cells at *
 dsimp only at *
 refine zG Tryz.tab Tryz.mixed Tryz.func12 rfl rfl Tryz.ntmps12 (by simp) (by simp) fun Q hr hn=>?_
 repeat' first|((first|refine O _ ?_|refine O _ _ ?_|(clear O;(first|refine O _ ?_|(clear O;(first|refine O _ ?_|(clear O;(first|refine O _ ?_|(clear O;refine O _ ?_))))))));clear O)|(refine zJ fun K O=>?_)|((first|refine zH ?_|refine zN rfl (by kernel_rfl) ?_|refine zM ?_|refine zK (by kernel_rfl) ?_);simp only[vZ,vY,strip])|((first|refine wIs fun K O=>?_|refine wOs fun K O=>?_|refine wQs fun K O=>?_|refine zW ?_|refine zX ?_|refine zY ?_|refine zL ?_);simp[k1',k2',k3',k4',show ByteArray.empty = bs [] from rfl])|(refine wIn ?_;refine And.intro (by kernel_rfl) ?_;try simp only[zZ])|refine zQ ?_|refine zS ?_|((first|refine zI ?_|refine zO ?_|refine zP ?_);try simp)|((first|refine zR ?_|refine wOn ?_|refine wQn ?_);try simp only[zZ])|refine zU.p c6 rfl ?_|refine zU.l c6 rfl ?_|refine zT.p c6 rfl ?_|refine zT.l c6 rfl ?_|refine zU.o c6 ?_|refine zV.p c6 rfl ?_|refine zV.l c6 rfl ?_|refine zV.o c6 ?_
 all_goals apply hr
 all_goals simp[Tryz.f12]
end Go.Proofs.YtedbbcmokbogpaaGreatDoor
namespace Go.Proofs.YtedbbcmokbogpaaGreatDoor
set_option linter.unusedSimpArgs false
set_option linter.unusedVariables false
open Go Go.Av
attribute [local irreducible] Go.Av.yP Go.Av.zU Go.Av.yN Go.Av.zT Go.Av.yO Go.Av.zV Go.Av.Con
theorem start08_con (c:Cf)(hc:okC c):zD Tryz.prog 21 [.p (.agg c.cells)] (.p (.agg (startS c).cells)):=by
 have c1:=root07_con
 have c2:=copied08_con c.ep c.n c.kind (mbs c.ms) (by rw[mbs_len];exact hc)
 unfold startS Sv.cells Cf.cells
 dsimp only
 generalize zns [⟨[47],[],0,0,0⟩]=r at c1 ⊢
 rw[show ints []=[] from rfl]
 refine zG Tryz.tab Tryz.mixed Tryz.func21 rfl rfl Tryz.ntmps21 (by simp) (by simp) fun Q hr hn=>?_
 repeat' first|((first|refine O _ ?_|refine O _ _ ?_|(clear O;refine O _ ?_));clear O)|(refine zJ fun K O=>?_)|((first|refine zH ?_|refine zN rfl (by kernel_rfl) ?_|refine zM ?_|refine zK (by kernel_rfl) ?_);simp only[vZ,vY,strip])|((first|refine wIs fun K O=>?_|refine wOs fun K O=>?_|refine wQs fun K O=>?_|refine zW ?_|refine zX ?_|refine zY ?_|refine zL ?_);simp)|(refine wIn ?_;refine And.intro (by kernel_rfl) ?_;try simp only[zZ])|refine zQ ?_|refine zS ?_|((first|refine zI ?_|refine zO ?_|refine zP ?_);try simp)|((first|refine zR ?_|refine wOn ?_|refine wQn ?_);try simp only[zZ])|refine zU.p c1 rfl ?_|refine zU.l c1 rfl ?_|refine zT.p c1 rfl ?_|refine zT.l c1 rfl ?_|refine zU.o c1 ?_|refine zV.p c1 rfl ?_|refine zV.l c1 rfl ?_|refine zV.o c1 ?_|refine zU.p c2 rfl ?_|refine zU.l c2 rfl ?_|refine zT.p c2 rfl ?_|refine zT.l c2 rfl ?_|refine zU.o c2 ?_|refine zV.p c2 rfl ?_|refine zV.l c2 rfl ?_|refine zV.o c2 ?_
 all_goals apply hr
 all_goals simp[Tryz.f21]
theorem last2 (a b:Zx):lastZ [a,b]=if 0<zcmp b.e b.n a.e a.n then b else a:=rfl
set_option maxHeartbeats 8000000 in
theorem apply08_con (s:Sv)(t:Tx)(h:Fits s t.ps.length)(ht:okT t):zD Tryz.prog 13 [.p (.agg s.cells),.p (.agg t.cells)] (.p (.agg (doS s t).cells)):=by
 have h1:=h.ns
 have h2:=h.ss
 have c1:=copied08_con s.c.ep s.c.n s.c.kind (mbs s.c.ms) (by rw[mbs_len];exact h.c)
 unfold Sv.cells Tx.cells
 simp only[ints_zis]
 refine zG Tryz.tab Tryz.mixed Tryz.func13 rfl rfl Tryz.ntmps13 (by simp) (by simp) fun Q hr hn=>?_
 repeat' first|(refine And.intro (by (try simp);omega) ?_)|(refine Or.inr ?_)|((first|refine O _ ?_|refine O _ _ ?_|(clear O;refine O _ ?_));clear O)|(refine zJ fun K O=>?_)|((first|refine zH ?_|refine zN rfl (by kernel_rfl) ?_|refine zM ?_|refine zK (by kernel_rfl) ?_);simp only[vZ,vY,strip])|((first|refine wIs fun K O=>?_|refine wOs fun K O=>?_|refine wQs fun K O=>?_|refine zW ?_|refine zX ?_|refine zY ?_|refine zL ?_);simp)|(refine wIn ?_;refine And.intro (by kernel_rfl) ?_;try simp only[zZ])|refine zQ ?_|refine zS ?_|((first|refine zI ?_|refine zO ?_|refine zP ?_);try simp)|((first|refine zR ?_|refine wOn ?_|refine wQn ?_);try simp only[zZ])|refine zU.p c1 rfl ?_|refine zU.l c1 rfl ?_|refine zT.p c1 rfl ?_|refine zT.l c1 rfl ?_|refine zU.o c1 ?_|refine zV.p c1 rfl ?_|refine zV.l c1 rfl ?_|refine zV.o c1 ?_
 refine yT (fun N st=>∃k,k+N=t.ps.length/\st.s 4=.ptr 4 0/\st.s 3=.ptr 3 0/\st.s 5=.ptr 5 0/\st.s 25=.p (.sl 11 (pts t.ps))/\st.s 26=.p (I t.ps.length)/\st.s 27=.p (I k)/\st.b 4=some (.box 30 [.nil 5,.nil 1,.p (I 0),.p (I 0),.p (I 0),.p (I 0),.nil 4,.p (I 0),.p (I 0)])/\st.b 3=some (.box 42 [.p (I t.e),.p (I t.n),.p (I t.s),.p (I t.x),.p (I t.r),.p (I t.b),.p (SB t.m),.p (.sl 11 (pts t.ps))])/\st.b 5=some (.box 30 [.p (.sl 5 (zns (yU s (t.ps.take k)).ns)),.p (.sl 1 (zis (yU s (t.ps.take k)).ss)),.p (I (yU s (t.ps.take k)).nx),.p (I (yU s (t.ps.take k)).c.ep),.p (I (yU s (t.ps.take k)).c.n),.p (I (yU s (t.ps.take k)).c.kind),.p (.sl 4 (mbs (yU s (t.ps.take k)).c.ms)),.p (I (yU s (t.ps.take k)).ae),.p (I (yU s (t.ps.take k)).an)])) t.ps.length ⟨0,by simp[yU]⟩ fun K N st hL ⟨k,hk,g4,g3,g5,g25,g26,g27,b4,b3,b5⟩=>?_
 have hlen:=runP_take s t.ps k
 by_cases hlt:k<t.ps.length
 ·have hw:=wrapX k _ hlt (by omega)
  have he:=pts_get hlt
  have hs:=runP_snoc s hlt
  have hpc:=ht t.ps[k] (List.getElem_mem hlt)
  generalize yU s (t.ps.take k)=q at hs hlen b5
  unfold okC at hpc
  by_cases k1:t.ps[k].k=1
  ·have c:=put07_con q.ns t.ps[k].z (by omega)
   unfold Zn.c at c
   have hs':yS q t.ps[k]={ q with ns:=xT q.ns t.ps[k].z }:=by unfold yS;rw[if_pos k1]
   generalize xT q.ns t.ps[k].z=n1 at c hs'
   repeat' first|((first|refine O _ ?_|refine O _ _ ?_|(clear O;refine O _ ?_));clear O)|(refine zJ fun K O=>?_)|((first|refine zH ?_|refine zN rfl (by kernel_rfl) ?_|refine zM ?_|refine zK (by kernel_rfl) ?_);simp only[vZ,vY,strip])|((first|refine wIs fun K O=>?_|refine wOs fun K O=>?_|refine wQs fun K O=>?_|refine zW ?_|refine zX ?_|refine zY ?_|refine zL ?_);simp[g4,g3,g5,g25,g26,g27,b4,b3,b5,hlt,hw,he,k1])|(refine wIn ?_;refine And.intro (by kernel_rfl) ?_;try simp only[zZ])|refine zQ ?_|refine zS ?_|((first|refine zI ?_|refine zO ?_|refine zP ?_);try simp)|((first|refine zR ?_|refine wOn ?_|refine wQn ?_);try simp only[zZ])|refine zU.p c rfl ?_|refine zU.l c rfl ?_|refine zT.p c rfl ?_|refine zT.l c rfl ?_|refine zU.o c ?_|refine zV.p c rfl ?_|refine zV.l c rfl ?_|refine zV.o c ?_
   refine hL _ (N-1) (by omega) ⟨k+1,by omega,?_⟩
   simp[g4,g3,g5,g25,g26,g27,b4,b3,b5,hw,hs,hs']
  by_cases k2:t.ps[k].k=2
  ·have c:=gone07_con q.ns t.ps[k].z.p (by omega)
   have hs':yS q t.ps[k]={ q with ns:=gone q.ns t.ps[k].z.p }:=by unfold yS;rw[if_neg k1,if_pos k2]
   generalize gone q.ns t.ps[k].z.p=n1 at c hs'
   repeat' first|((first|refine O _ ?_|refine O _ _ ?_|(clear O;refine O _ ?_));clear O)|(refine zJ fun K O=>?_)|((first|refine zH ?_|refine zN rfl (by kernel_rfl) ?_|refine zM ?_|refine zK (by kernel_rfl) ?_);simp only[vZ,vY,strip])|((first|refine wIs fun K O=>?_|refine wOs fun K O=>?_|refine wQs fun K O=>?_|refine zW ?_|refine zX ?_|refine zY ?_|refine zL ?_);simp[g4,g3,g5,g25,g26,g27,b4,b3,b5,hlt,hw,he,k1,k2])|(refine wIn ?_;refine And.intro (by kernel_rfl) ?_;try simp only[zZ])|refine zQ ?_|refine zS ?_|((first|refine zI ?_|refine zO ?_|refine zP ?_);try simp)|((first|refine zR ?_|refine wOn ?_|refine wQn ?_);try simp only[zZ])|refine zU.p c rfl ?_|refine zU.l c rfl ?_|refine zT.p c rfl ?_|refine zT.l c rfl ?_|refine zU.o c ?_|refine zV.p c rfl ?_|refine zV.l c rfl ?_|refine zV.o c ?_
   refine hL _ (N-1) (by omega) ⟨k+1,by omega,?_⟩
   simp[g4,g3,g5,g25,g26,g27,b4,b3,b5,hw,hs,hs']
  by_cases k3:t.ps[k].k=3
  ·have hs':yS q t.ps[k]={ q with ss:=opnL q.ss t.ps[k].s,nx:=opnN q.nx t.ps[k].s }:=by unfold yS;rw[if_neg k1,if_neg k2,if_pos k3]
   by_cases o1:1<=t.ps[k].s
   ·by_cases o2:t.ps[k].s<=1099511627776
    ·have ho:okS t.ps[k].s=true:=decide_eq_true ⟨o1,o2⟩
     have hw1:IntKind.i64.wrap (t.ps[k].s+1)=t.ps[k].s+1:=by rw[zF] <;> omega
     have c:=with08_con q.ss t.ps[k].s (by omega)
     rw[wth_ins] at c
     have e1:opnL q.ss t.ps[k].s=insI q.ss t.ps[k].s:=by unfold opnL;rw[if_pos ho]
     have e2:opnN q.nx t.ps[k].s=max q.nx (t.ps[k].s+1):=by unfold opnN;rw[if_pos ho]
     rw[e1,e2] at hs'
     generalize insI q.ss t.ps[k].s=n1 at c hs'
     repeat' first|((first|refine O _ ?_|refine O _ _ ?_|(clear O;refine O _ ?_));clear O)|(refine zJ fun K O=>?_)|((first|refine zH ?_|refine zN rfl (by kernel_rfl) ?_|refine zM ?_|refine zK (by kernel_rfl) ?_);simp only[vZ,vY,strip])|((first|refine wIs fun K O=>?_|refine wOs fun K O=>?_|refine wQs fun K O=>?_|refine zW ?_|refine zX ?_|refine zY ?_|refine zL ?_);simp[g4,g3,g5,g25,g26,g27,b4,b3,b5,hlt,hw,he,k1,k2,k3,o1,o2,hw1])|(refine wIn ?_;refine And.intro (by kernel_rfl) ?_;try simp only[zZ])|refine zQ ?_|refine zS ?_|((first|refine zI ?_|refine zO ?_|refine zP ?_);try simp)|((first|refine zR ?_|refine wOn ?_|refine wQn ?_);try simp only[zZ])|refine zU.p c rfl ?_|refine zU.l c rfl ?_|refine zT.p c rfl ?_|refine zT.l c rfl ?_|refine zU.o c ?_|refine zV.p c rfl ?_|refine zV.l c rfl ?_|refine zV.o c ?_
     all_goals refine hL _ (N-1) (by omega) ⟨k+1,by omega,?_⟩
     all_goals simp[g4,g3,g5,g25,g26,g27,b4,b3,b5,hw,hs,hs',hw1]
     all_goals omega
    ·have ho:¬ okS t.ps[k].s=true:=by unfold okS;simp;omega
     have e1:opnL q.ss t.ps[k].s=q.ss:=by unfold opnL;rw[if_neg ho]
     have e2:opnN q.nx t.ps[k].s=q.nx:=by unfold opnN;rw[if_neg ho]
     rw[e1,e2] at hs'
     repeat' first|((first|refine O _ ?_|refine O _ _ ?_|(clear O;refine O _ ?_));clear O)|(refine zJ fun K O=>?_)|((first|refine zH ?_|refine zN rfl (by kernel_rfl) ?_|refine zM ?_|refine zK (by kernel_rfl) ?_);simp only[vZ,vY,strip])|((first|refine wIs fun K O=>?_|refine wOs fun K O=>?_|refine wQs fun K O=>?_|refine zW ?_|refine zX ?_|refine zY ?_|refine zL ?_);simp[g4,g3,g5,g25,g26,g27,b4,b3,b5,hlt,hw,he,k1,k2,k3,o1,o2])|(refine wIn ?_;refine And.intro (by kernel_rfl) ?_;try simp only[zZ])|refine zQ ?_|refine zS ?_|((first|refine zI ?_|refine zO ?_|refine zP ?_);try simp)|((first|refine zR ?_|refine wOn ?_|refine wQn ?_);try simp only[zZ])
     all_goals refine hL _ (N-1) (by omega) ⟨k+1,by omega,?_⟩
     all_goals simp[g4,g3,g5,g25,g26,g27,b4,b3,b5,hw,hs,hs']
   ·have ho:¬ okS t.ps[k].s=true:=by unfold okS;simp;omega
    have e1:opnL q.ss t.ps[k].s=q.ss:=by unfold opnL;rw[if_neg ho]
    have e2:opnN q.nx t.ps[k].s=q.nx:=by unfold opnN;rw[if_neg ho]
    rw[e1,e2] at hs'
    repeat' first|((first|refine O _ ?_|refine O _ _ ?_|(clear O;refine O _ ?_));clear O)|(refine zJ fun K O=>?_)|((first|refine zH ?_|refine zN rfl (by kernel_rfl) ?_|refine zM ?_|refine zK (by kernel_rfl) ?_);simp only[vZ,vY,strip])|((first|refine wIs fun K O=>?_|refine wOs fun K O=>?_|refine wQs fun K O=>?_|refine zW ?_|refine zX ?_|refine zY ?_|refine zL ?_);simp[g4,g3,g5,g25,g26,g27,b4,b3,b5,hlt,hw,he,k1,k2,k3,o1])|(refine wIn ?_;refine And.intro (by kernel_rfl) ?_;try simp only[zZ])|refine zQ ?_|refine zS ?_|((first|refine zI ?_|refine zO ?_|refine zP ?_);try simp)|((first|refine zR ?_|refine wOn ?_|refine wQn ?_);try simp only[zZ])
    all_goals refine hL _ (N-1) (by omega) ⟨k+1,by omega,?_⟩
    all_goals simp[g4,g3,g5,g25,g26,g27,b4,b3,b5,hw,hs,hs']
  by_cases k4:t.ps[k].k=4
  ·have c:=without08_con q.ss t.ps[k].s (by omega)
   have hs':yS q t.ps[k]={ q with ss:=but q.ss t.ps[k].s }:=by unfold yS;rw[if_neg k1,if_neg k2,if_neg k3,if_pos k4]
   generalize but q.ss t.ps[k].s=n1 at c hs'
   repeat' first|((first|refine O _ ?_|refine O _ _ ?_|(clear O;refine O _ ?_));clear O)|(refine zJ fun K O=>?_)|((first|refine zH ?_|refine zN rfl (by kernel_rfl) ?_|refine zM ?_|refine zK (by kernel_rfl) ?_);simp only[vZ,vY,strip])|((first|refine wIs fun K O=>?_|refine wOs fun K O=>?_|refine wQs fun K O=>?_|refine zW ?_|refine zX ?_|refine zY ?_|refine zL ?_);simp[g4,g3,g5,g25,g26,g27,b4,b3,b5,hlt,hw,he,k1,k2,k3,k4])|(refine wIn ?_;refine And.intro (by kernel_rfl) ?_;try simp only[zZ])|refine zQ ?_|refine zS ?_|((first|refine zI ?_|refine zO ?_|refine zP ?_);try simp)|((first|refine zR ?_|refine wOn ?_|refine wQn ?_);try simp only[zZ])|refine zU.p c rfl ?_|refine zU.l c rfl ?_|refine zT.p c rfl ?_|refine zT.l c rfl ?_|refine zU.o c ?_|refine zV.p c rfl ?_|refine zV.l c rfl ?_|refine zV.o c ?_
   refine hL _ (N-1) (by omega) ⟨k+1,by omega,?_⟩
   simp[g4,g3,g5,g25,g26,g27,b4,b3,b5,hw,hs,hs']
  by_cases k5:t.ps[k].k=5
  ·have c:=copied08_con t.ps[k].c.ep t.ps[k].c.n t.ps[k].c.kind (mbs t.ps[k].c.ms) (by rw[mbs_len];exact hpc)
   have hs':yS q t.ps[k]={ q with c:=t.ps[k].c }:=by unfold yS;rw[if_neg k1,if_neg k2,if_neg k3,if_neg k4,if_pos k5]
   repeat' first|((first|refine O _ ?_|refine O _ _ ?_|(clear O;refine O _ ?_));clear O)|(refine zJ fun K O=>?_)|((first|refine zH ?_|refine zN rfl (by kernel_rfl) ?_|refine zM ?_|refine zK (by kernel_rfl) ?_);simp only[vZ,vY,strip])|((first|refine wIs fun K O=>?_|refine wOs fun K O=>?_|refine wQs fun K O=>?_|refine zW ?_|refine zX ?_|refine zY ?_|refine zL ?_);simp[g4,g3,g5,g25,g26,g27,b4,b3,b5,hlt,hw,he,k1,k2,k3,k4,k5])|(refine wIn ?_;refine And.intro (by kernel_rfl) ?_;try simp only[zZ])|refine zQ ?_|refine zS ?_|((first|refine zI ?_|refine zO ?_|refine zP ?_);try simp)|((first|refine zR ?_|refine wOn ?_|refine wQn ?_);try simp only[zZ])|refine zU.p c rfl ?_|refine zU.l c rfl ?_|refine zT.p c rfl ?_|refine zT.l c rfl ?_|refine zU.o c ?_|refine zV.p c rfl ?_|refine zV.l c rfl ?_|refine zV.o c ?_
   refine hL _ (N-1) (by omega) ⟨k+1,by omega,?_⟩
   simp[g4,g3,g5,g25,g26,g27,b4,b3,b5,hw,hs,hs']
  ·have hs':yS q t.ps[k]=q:=by unfold yS;rw[if_neg k1,if_neg k2,if_neg k3,if_neg k4,if_neg k5]
   repeat' first|((first|refine O _ ?_|refine O _ _ ?_|(clear O;refine O _ ?_));clear O)|(refine zJ fun K O=>?_)|((first|refine zH ?_|refine zN rfl (by kernel_rfl) ?_|refine zM ?_|refine zK (by kernel_rfl) ?_);simp only[vZ,vY,strip])|((first|refine wIs fun K O=>?_|refine wOs fun K O=>?_|refine wQs fun K O=>?_|refine zW ?_|refine zX ?_|refine zY ?_|refine zL ?_);simp[g4,g3,g5,g25,g26,g27,b4,b3,b5,hlt,hw,he,k1,k2,k3,k4,k5])|(refine wIn ?_;refine And.intro (by kernel_rfl) ?_;try simp only[zZ])|refine zQ ?_|refine zS ?_|((first|refine zI ?_|refine zO ?_|refine zP ?_);try simp)|((first|refine zR ?_|refine wOn ?_|refine wQn ?_);try simp only[zZ])
   refine hL _ (N-1) (by omega) ⟨k+1,by omega,?_⟩
   simp[g4,g3,g5,g25,g26,g27,b4,b3,b5,hw,hs,hs']
 ·rw[List.take_of_length_le (by omega)] at b5
  unfold doS lateS at hr
  simp only[last2] at hr
  generalize yU s t.ps=q at hr b5
  have c:=cmp02_con t.e t.n q.ae q.an
  by_cases o:0<zcmp t.e t.n q.ae q.an
  ·simp only[if_pos o] at hr
   repeat' first|((first|refine O _ ?_|refine O _ _ ?_|(clear O;refine O _ ?_));clear O)|(refine zJ fun K O=>?_)|((first|refine zH ?_|refine zN rfl (by kernel_rfl) ?_|refine zM ?_|refine zK (by kernel_rfl) ?_);simp only[vZ,vY,strip])|((first|refine wIs fun K O=>?_|refine wOs fun K O=>?_|refine wQs fun K O=>?_|refine zW ?_|refine zX ?_|refine zY ?_|refine zL ?_);simp[g4,g3,g5,g25,g26,g27,b4,b3,b5,hlt,o])|(refine wIn ?_;refine And.intro (by kernel_rfl) ?_;try simp only[zZ])|refine zQ ?_|refine zS ?_|((first|refine zI ?_|refine zO ?_|refine zP ?_);try simp)|((first|refine zR ?_|refine wOn ?_|refine wQn ?_);try simp only[zZ])|refine zU.p c rfl ?_|refine zU.l c rfl ?_|refine zT.p c rfl ?_|refine zT.l c rfl ?_|refine zU.o c ?_|refine zV.p c rfl ?_|refine zV.l c rfl ?_|refine zV.o c ?_
   all_goals apply hr
   all_goals simp[Tryz.f13,g4,b4,b5]
  ·simp only[if_neg o] at hr
   repeat' first|((first|refine O _ ?_|refine O _ _ ?_|(clear O;refine O _ ?_));clear O)|(refine zJ fun K O=>?_)|((first|refine zH ?_|refine zN rfl (by kernel_rfl) ?_|refine zM ?_|refine zK (by kernel_rfl) ?_);simp only[vZ,vY,strip])|((first|refine wIs fun K O=>?_|refine wOs fun K O=>?_|refine wQs fun K O=>?_|refine zW ?_|refine zX ?_|refine zY ?_|refine zL ?_);simp[g4,g3,g5,g25,g26,g27,b4,b3,b5,hlt,o])|(refine wIn ?_;refine And.intro (by kernel_rfl) ?_;try simp only[zZ])|refine zQ ?_|refine zS ?_|((first|refine zI ?_|refine zO ?_|refine zP ?_);try simp)|((first|refine zR ?_|refine wOn ?_|refine wQn ?_);try simp only[zZ])|refine zU.p c rfl ?_|refine zU.l c rfl ?_|refine zT.p c rfl ?_|refine zT.l c rfl ?_|refine zU.o c ?_|refine zV.p c rfl ?_|refine zV.l c rfl ?_|refine zV.o c ?_
   all_goals apply hr
   all_goals simp[Tryz.f13,g4,b4,b5]
end Go.Proofs.YtedbbcmokbogpaaGreatDoor
namespace Go.Proofs.YtedbbcmokbogpaaGreatDoor
set_option linter.unusedSimpArgs false
set_option linter.unusedVariables false
set_option maxRecDepth 8000
open Go Go.Av
attribute [local irreducible] Go.Av.yP Go.Av.zU Go.Av.yN Go.Av.zT Go.Av.yO Go.Av.zV Go.Av.Con
def oSum (l:List Oq):Nat:=(l.map fun o=>o.pa.length+o.da.length).sum
theorem oSum_snoc {l:List Oq}{k:Nat}(h:k<l.length):oSum (l.take (k+1))=oSum (l.take k)+(l[k].pa.length+l[k].da.length):=by
 unfold oSum;rw[List.take_succ_eq_append_getElem h,List.map_append,List.sum_append];simp
def nSum (s:Sv)(r:Rp):Nat:=s.ns.length+s.ss.length+s.c.ms.length+r.ops.length+r.d.put.length+r.d.drop.length
def farP9 (s:Sv)(r:Rp):Bool:=decide (20<r.ops.length) || decide (5000<nSum s r+oSum r.ops)
structure Bd9 (s:Sv)(r:Rp):Prop where
 a:s.ns.length<=140737488355328
 b:s.ss.length<=140737488355328
 c:s.c.ms.length<=140737488355328
 d:r.ops.length<=140737488355328
 e:r.d.put.length<=140737488355328
 f:r.d.drop.length<=140737488355328
 o:∀o∈r.ops,o.pa.length<=140737488355328/\o.da.length<=140737488355328
theorem oSum_bdB {l:List Oq}(B:Nat)(h:∀o∈l,o.pa.length+o.da.length<=B):∀k,oSum (l.take k)<=k * B:=by
 intro k
 induction k with
 |zero=>simp[oSum]
 |succ k ih =>
  rw[Nat.succ_mul]
  by_cases hk:k<l.length
  ·rw[oSum_snoc hk]
   have:=h _ (List.getElem_mem hk)
   omega
  ·rw[List.take_of_length_le (by omega)] at ih ⊢
   omega
theorem oSum_bd {l:List Oq}(h:∀o∈l,o.pa.length<=140737488355328/\o.da.length<=140737488355328)(k:Nat)(hk:k<=20):oSum (l.take k)<=5629499534213120 :=
 Nat.le_trans (oSum_bdB 281474976710656 (fun o ho=>by have:=h o ho;omega) k) (Nat.mul_le_mul_right 281474976710656 hk)
set_option maxHeartbeats 4000000 in
theorem far9_con (s:Sv)(r:Rp)(hb:Bd9 s r):zD Tryz.prog 8 [.p (.agg s.cells),.p (.agg r.cells)] (.p (B (farP9 s r))):=by
 have b1:=hb.a;have b2:=hb.b;have b3:=hb.c;have b4:=hb.d;have b5:=hb.e;have b6:=hb.f;have b7:=hb.o
 unfold farP9
 clear hb
 have hn:nSum s r=s.ns.length+s.ss.length+s.c.ms.length+r.ops.length+r.d.put.length+r.d.drop.length:=rfl
 obtain⟨ns,ss,nx,⟨ep,n,kd,ms⟩,ae,an⟩:=s
 obtain⟨k,rs,x,ops,⟨dk,put,drop⟩,we,wn⟩:=r
 dsimp only at *
 generalize nSum ⟨ns,ss,nx,⟨ep,n,kd,ms⟩,ae,an⟩ ⟨k,rs,x,ops,⟨dk,put,drop⟩,we,wn⟩=M at *
 have w1:IntKind.i64.wrap ((ns.length:Int)+ss.length)=((ns.length+ss.length:Nat):Int):=by rw[zF] <;> omega
 have w2:IntKind.i64.wrap (((ns.length+ss.length:Nat):Int)+ms.length)=((ns.length+ss.length+ms.length:Nat):Int):=by rw[zF] <;> omega
 have w3:IntKind.i64.wrap (((ns.length+ss.length+ms.length:Nat):Int)+ops.length)=((ns.length+ss.length+ms.length+ops.length:Nat):Int):=by rw[zF] <;> omega
 have w4:IntKind.i64.wrap (((ns.length+ss.length+ms.length+ops.length:Nat):Int)+put.length)=((ns.length+ss.length+ms.length+ops.length+put.length:Nat):Int):=by rw[zF] <;> omega
 have w5:IntKind.i64.wrap (((ns.length+ss.length+ms.length+ops.length+put.length:Nat):Int)+drop.length)=(M:Int):=by rw[hn,zF] <;> omega
 have hMb:M<=844424930131968:=by omega
 generalize hA:ns.length+ss.length+ms.length+ops.length+put.length=t4 at *
 generalize hB:ns.length+ss.length+ms.length+ops.length=t3 at *
 generalize hC:ns.length+ss.length+ms.length=t2 at *
 generalize hD:ns.length+ss.length=t1 at *
 by_cases h20:20<ops.length
 ·rw[decide_eq_true h20,Bool.true_or]
  have h20':(20:Int)<ops.length:=by omega
  unfold Sv.cells Rp.cells
  refine zG Tryz.tab Tryz.mixed Tryz.func8 rfl rfl Tryz.ntmps8 (by simp) (by simp) fun Q hr hn=>?_
  repeat' first|((first|refine O _ ?_|refine O _ _ ?_|(clear O;refine O _ ?_));clear O)|(refine zJ fun K O=>?_)|((first|refine zH ?_|refine zN rfl (by kernel_rfl) ?_|refine zM ?_|refine zK (by kernel_rfl) ?_);simp only[vZ,vY,strip])|((first|refine wIs fun K O=>?_|refine wOs fun K O=>?_|refine wQs fun K O=>?_|refine zW ?_|refine zX ?_|refine zY ?_|refine zL ?_);simp[w1,w2,w3,w4,w5,h20,h20'])|(refine wIn ?_;refine And.intro (by kernel_rfl) ?_;try simp only[zZ])|refine zQ ?_|refine zS ?_|((first|refine zI ?_|refine zO ?_|refine zP ?_);try simp)|((first|refine zR ?_|refine wOn ?_|refine wQn ?_);try simp only[zZ])
  all_goals apply hr
  all_goals simp[Tryz.f8]
 have h20':¬ (20:Int)<ops.length:=by omega
 rw[decide_eq_false h20,Bool.false_or]
 unfold Sv.cells Rp.cells
 dsimp only
 refine zG Tryz.tab Tryz.mixed Tryz.func8 rfl rfl Tryz.ntmps8 (by simp) (by simp) fun Q hr hn=>?_
 repeat' first|((first|refine O _ ?_|refine O _ _ ?_|(clear O;refine O _ ?_));clear O)|(refine zJ fun K O=>?_)|((first|refine zH ?_|refine zN rfl (by kernel_rfl) ?_|refine zM ?_|refine zK (by kernel_rfl) ?_);simp only[vZ,vY,strip])|((first|refine wIs fun K O=>?_|refine wOs fun K O=>?_|refine wQs fun K O=>?_|refine zW ?_|refine zX ?_|refine zY ?_|refine zL ?_);simp[w1,w2,w3,w4,w5,h20,h20'])|(refine wIn ?_;refine And.intro (by kernel_rfl) ?_;try simp only[zZ])|refine zQ ?_|refine zS ?_|((first|refine zI ?_|refine zO ?_|refine zP ?_);try simp)|((first|refine zR ?_|refine wOn ?_|refine wQn ?_);try simp only[zZ])
 refine yT (fun N st=>∃ (j m:Nat),j+N=ops.length/\m=M+oSum (ops.take j)/\st.s 3=.ptr 3 0/\st.b 3=some (.box 36 [.p (I k),.p (I rs),.p (I x),.p (.sl 6 (oqs ops)),.p (I dk),.p (.sl 4 (mbs put)),.p (.sl 1 (ints drop)),.p (I we),.p (I wn)])/\st.s 5=.p (I m)/\st.s 6=.p (I j)) ops.length ⟨0,M,by simp[oSum,w1,w2,w3,w4,w5]⟩ fun K N st hL ⟨j,m,hj,hm,g3,b3',g5,g6⟩=>?_
 by_cases hlt:j<ops.length
 ·have hlt':(j:Int)<ops.length:=by omega
  have hw:=yA j _ hlt (by omega)
  have he:=oqs_get hlt
  have hs:=oSum_snoc hlt
  have hbs:=oSum_bd b7 j (by omega)
  have hbo:=b7 _ (List.getElem_mem hlt)
  have hcell:=Option.some.inj ((List.getElem?_eq_getElem (by simpa using hlt:j<(oqs ops).length)).symm.trans he)
  generalize ops[j]=o at he hcell hs hbo
  obtain⟨ok,opa,oda,ov,oow,osq⟩:=o
  dsimp only at he hcell hs hbo
  have v1:IntKind.i64.wrap ((opa.length:Int)+oda.length)=((opa.length+oda.length:Nat):Int):=by rw[zF] <;> omega
  have v2:IntKind.i64.wrap ((m:Int)+((opa.length+oda.length:Nat):Int))=((m+(opa.length+oda.length):Nat):Int):=by rw[zF] <;> omega
  generalize hE:opa.length+oda.length=q at *
  repeat' first|((first|refine O _ ?_|refine O _ _ ?_|(clear O;refine O _ ?_));clear O)|(refine zJ fun K O=>?_)|((first|refine zH ?_|refine zN rfl (by kernel_rfl) ?_|refine zM ?_|refine zK (by kernel_rfl) ?_);simp only[vZ,vY,strip])|((first|refine wIs fun K O=>?_|refine wOs fun K O=>?_|refine wQs fun K O=>?_|refine zW ?_|refine zX ?_|refine zY ?_|refine zL ?_);simp[g3,b3',g5,g6,hlt,hlt',hw,he,hcell,v1,v2])|(refine wIn ?_;refine And.intro (by kernel_rfl) ?_;try simp only[zZ])|refine zQ ?_|refine zS ?_|((first|refine zI ?_|refine zO ?_|refine zP ?_);try simp)|((first|refine zR ?_|refine wOn ?_|refine wQn ?_);try simp only[zZ])
  all_goals refine hL _ (N-1) (by omega) ⟨j+1,m+q,by omega,by omega,?_⟩
  all_goals simp[g3,b3',g5,g6,hw,v2]
 ·have hlt':¬ (j:Int)<ops.length:=by omega
  rw[List.take_of_length_le (by omega)] at hm
  rw[<- hm] at hr
  by_cases h5:5000<m
  ·have h5':(5000:Int)<m:=by omega
   repeat' first|((first|refine O _ ?_|refine O _ _ ?_|(clear O;refine O _ ?_));clear O)|(refine zJ fun K O=>?_)|((first|refine zH ?_|refine zN rfl (by kernel_rfl) ?_|refine zM ?_|refine zK (by kernel_rfl) ?_);simp only[vZ,vY,strip])|((first|refine wIs fun K O=>?_|refine wOs fun K O=>?_|refine wQs fun K O=>?_|refine zW ?_|refine zX ?_|refine zY ?_|refine zL ?_);simp[g3,b3',g5,g6,hlt,hlt',h5,h5'])|(refine wIn ?_;refine And.intro (by kernel_rfl) ?_;try simp only[zZ])|refine zQ ?_|refine zS ?_|((first|refine zI ?_|refine zO ?_|refine zP ?_);try simp)|((first|refine zR ?_|refine wOn ?_|refine wQn ?_);try simp only[zZ])
   all_goals apply hr
   all_goals simp[Tryz.f8,h5]
  ·have h5':¬ (5000:Int)<m:=by omega
   repeat' first|((first|refine O _ ?_|refine O _ _ ?_|(clear O;refine O _ ?_));clear O)|(refine zJ fun K O=>?_)|((first|refine zH ?_|refine zN rfl (by kernel_rfl) ?_|refine zM ?_|refine zK (by kernel_rfl) ?_);simp only[vZ,vY,strip])|((first|refine wIs fun K O=>?_|refine wOs fun K O=>?_|refine wQs fun K O=>?_|refine zW ?_|refine zX ?_|refine zY ?_|refine zL ?_);simp[g3,b3',g5,g6,hlt,hlt',h5,h5'])|(refine wIn ?_;refine And.intro (by kernel_rfl) ?_;try simp only[zZ])|refine zQ ?_|refine zS ?_|((first|refine zI ?_|refine zO ?_|refine zP ?_);try simp)|((first|refine zR ?_|refine wOn ?_|refine wQn ?_);try simp only[zZ])
   all_goals apply hr
   all_goals simp[Tryz.f8,h5]
def cA:Cf:=⟨0,0,1,[⟨1,1,0,0⟩]⟩
def sA:Sv:=⟨[⟨[47],[],0,0,0⟩],[1],2,cA,0,0⟩
def rA:Rp:=⟨1,1,4,[⟨1,[47,113,45],[],0,false,true⟩],⟨0,[],[]⟩,0,0⟩
theorem sA_eq:doS (startS cA) (txP [opPt 1])=sA:=by decide +kernel
theorem tA_eq:makT sA rA 1 2=⟨1,2,1,4,0,0,[47,113,45,48,48,48,48,48,48,48,48,48,48],[putPt ⟨[47],[],0,1,0⟩,putPt ⟨[47,113,45,48,48,48,48,48,48,48,48,48,48],[],0,0,0⟩]⟩:=by decide +kernel
theorem rgA:rgtS sA=true:=by decide +kernel
theorem okC1 (c:Cf)(h:c.ms.length<=1):okC c:=Nat.le_trans h (by decide)
theorem sA_ok:OkSv sA:=⟨⟨by decide,by decide,okC1 _ (by decide)⟩,by intro z hz;simp[sA] at hz;subst hz;exact⟨by decide,by decide,by decide,by decide⟩,by decide⟩
set_option maxHeartbeats 4000000 in
theorem zE:zD Tryz.prog 11 [] (.p (B true)):=by
 have c1:=start08_con cA (okC1 _ (by decide))
 have c2:=apply08_con (startS cA) (txP [opPt 1]) ⟨by decide,by decide,okC1 _ (by decide)⟩ (by intro p hp;simp[txP] at hp;subst hp;exact okC1 _ (by decide))
 rw[sA_eq] at c2
 have c3:=make_con sA rA 1 2 sA_ok ⟨by intro o ho;simp[rA] at ho;subst ho;exact⟨by decide,by decide⟩,by decide⟩ (by intro h;simp[rA] at h)
 rw[tA_eq] at c3
 have c4:=rightP_con sA (fun z hz=>(sA_ok.N z hz).2.2) (by decide)
 rw[rgA] at c4
 generalize hS:(startS cA).cells=S at *
 simp only[cA,sA,rA,opPt,txP,zz,cf0,putPt,Sv.cells,Tx.cells,Rp.cells,Cf.cells,oqs,Oq.cells,pts,Pt.cells,mbs,Mb.cells,ints,zns,Zn.c,vZ,vY] at c1 c2 c3 c4
 refine zG Tryz.tab Tryz.mixed Tryz.func11 rfl rfl Tryz.ntmps11 (by simp) (by simp) fun Q hr hn=>?_
 repeat' first|((first|refine O _ ?_|refine O _ _ ?_|(clear O;refine O _ ?_));clear O)|(refine zJ fun K O=>?_)|((first|refine zH ?_|refine zN rfl (by kernel_rfl) ?_|refine zM ?_|refine zK (by kernel_rfl) ?_);simp only[vZ,vY,strip])|((first|refine wIs fun K O=>?_|refine wOs fun K O=>?_|refine wQs fun K O=>?_|refine zW ?_|refine zX ?_|refine zY ?_|refine zL ?_);simp[show ByteArray.empty = bs [] from rfl])|(refine wIn ?_;refine And.intro (by kernel_rfl) ?_;try simp only[zZ])|refine zQ ?_|refine zS ?_|((first|refine zI ?_|refine zO ?_|refine zP ?_);try simp)|((first|refine zR ?_|refine wOn ?_|refine wQn ?_);try simp only[zZ])|refine zU.p c1 rfl ?_|refine zU.l c1 rfl ?_|refine zT.p c1 rfl ?_|refine zT.l c1 rfl ?_|refine zU.o c1 ?_|refine zV.p c1 rfl ?_|refine zV.l c1 rfl ?_|refine zV.o c1 ?_|refine zU.p c2 rfl ?_|refine zU.l c2 rfl ?_|refine zT.p c2 rfl ?_|refine zT.l c2 rfl ?_|refine zU.o c2 ?_|refine zV.p c2 rfl ?_|refine zV.l c2 rfl ?_|refine zV.o c2 ?_|refine zU.p c3 rfl ?_|refine zU.l c3 rfl ?_|refine zT.p c3 rfl ?_|refine zT.l c3 rfl ?_|refine zU.o c3 ?_|refine zV.p c3 rfl ?_|refine zV.l c3 rfl ?_|refine zV.o c3 ?_|refine zU.p c4 rfl ?_|refine zU.l c4 rfl ?_|refine zT.p c4 rfl ?_|refine zT.l c4 rfl ?_|refine zU.o c4 ?_|refine zV.p c4 rfl ?_|refine zV.l c4 rfl ?_|refine zV.o c4 ?_
 all_goals apply hr
 all_goals simp[Tryz.f11]
theorem farP9_not {s:Sv}{r:Rp}(h:farP9 s r=false):r.ops.length<=20/\nSum s r<=5000:=by
 unfold farP9 at h
 simp only[Bool.or_eq_false_iff,decide_eq_false_iff_not] at h
 omega
end Go.Proofs.YtedbbcmokbogpaaGreatDoor
namespace Go.Proofs.YtedbbcmokbogpaaGreatDoor
set_option linter.unusedSimpArgs false
set_option linter.unusedVariables false
set_option maxRecDepth 8000
open Go Go.Av
structure EqA (x y:Sv):Prop where
 ns:x.ns=y.ns
 ss:x.ss=y.ss
 nx:x.nx=y.nx
 c:x.c=y.c
theorem EqA.refl (x:Sv):EqA x x:=⟨rfl,rfl,rfl,rfl⟩
theorem EqA.trans {x y z:Sv}(h:EqA x y)(k:EqA y z):EqA x z:=⟨h.ns.trans k.ns,h.ss.trans k.ss,h.nx.trans k.nx,h.c.trans k.c⟩
theorem EqA.step {x y:Sv}(h:EqA x y)(p:Pt):EqA (yS x p) (yS y p):=by
 obtain⟨h1,h2,h3,h4⟩:=h
 unfold yS
 split
 ·exact⟨by show xT x.ns p.z=xT y.ns p.z;rw[h1],h2,h3,h4⟩
 split
 ·exact⟨by show gone x.ns p.z.p=gone y.ns p.z.p;rw[h1],h2,h3,h4⟩
 split
 ·exact⟨h1,by show opnL x.ss p.s=opnL y.ss p.s;rw[h2],by show opnN x.nx p.s=opnN y.nx p.s;rw[h3],h4⟩
 split
 ·exact⟨h1,by show but x.ss p.s=but y.ss p.s;rw[h2],h3,h4⟩
 split
 ·exact⟨h1,h2,h3,rfl⟩
 ·exact⟨h1,h2,h3,h4⟩
theorem EqA.run:∀ (l:List Pt){x y:Sv},EqA x y->EqA (yU x l) (yU y l)
 |[],_,_,h=>h
 |p::l,x,y,h=>EqA.run l (h.step p)
theorem EqA.late (x:Sv)(e n:Int):EqA (lateS x e n) x:=⟨rfl,rfl,rfl,rfl⟩
theorem EqA.doS (x:Sv)(t:Tx):EqA (doS x t) (yU x t.ps):=EqA.late _ _ _
theorem runP_app (s:Sv)(a b:List Pt):yU s (a++b)=yU (yU s a) b:=List.foldl_append
def kd3 (p:Pt):Prop:=p.k=0\/p.k=1\/p.k=2
theorem stepP_kd {s:Sv}{p:Pt}(h:kd3 p):(yS s p).ss=s.ss/\(yS s p).nx=s.nx/\(yS s p).c=s.c:=by
 unfold yS
 rcases h with h|h|h <;> rw[h] <;> exact⟨rfl,rfl,rfl⟩
theorem runP_kd:∀ (l:List Pt){s:Sv},(∀p∈l,kd3 p)->(yU s l).ss=s.ss/\(yU s l).nx=s.nx/\(yU s l).c=s.c
 |[],s,_=>⟨rfl,rfl,rfl⟩
 |p::l,s,h=>by
  have h1:=stepP_kd (s:=s) (h p List.mem_cons_self)
  have h2:=runP_kd l (s:=yS s p) fun q hq=>h q (List.mem_cons_of_mem _ hq)
  exact⟨h2.1.trans h1.1,h2.2.1.trans h1.2.1,h2.2.2.trans h1.2.2⟩
theorem turnP_kd (z:Zn):kd3 (turnP z):=by unfold turnP;split;exact .inl rfl;exact .inr (.inl rfl)
theorem gonL_kd (ns:List Zn)(p:List UInt8):∀q∈(wU ns p).1,kd3 q:=by
 unfold wU
 split
 ·intro q hq
  simp at hq
  rcases hq with rfl|rfl
  ·exact .inr (.inr rfl)
  ·exact turnP_kd _
 ·simp
theorem tchL_kd (ns:List Zn)(o:Oq):∀q∈(tchL ns o).1,kd3 q:=by
 unfold tchL remL
 split
 ·split
  ·simp
  split
  ·split
   ·split
    ·exact gonL_kd _ _
    ·simp
   ·simp
  split
  ·simp
  split
  ·simp
  ·intro q hq;simp at hq;subst hq;exact .inr (.inl rfl)
 ·simp
theorem oneM_kd (ns:List Zn)(o:Oq)(ses:Int):∀q∈(xP ns o ses).1,kd3 q:=by
 unfold xP crtM
 split
 ·split
  ·simp
  split
  ·simp
  split
  ·simp
  split
  ·simp
  split
  ·simp
  split
  ·simp
  ·intro q hq
   simp at hq
   rcases hq with rfl|rfl
   ·exact turnP_kd _
   ·exact .inr (.inl rfl)
 split
 ·simp
 split
 ·exact tchL_kd ns o
 ·simp
theorem rgt_of {s:Sv}(h:rgtS s=true):tre s.ns=true/\check s.c=0/\1<=s.nx/\s.nx<=1099511627776/\s.ss.length<=20/\rsS s.nx 0 s.ss=true:=by
 unfold rgtS at h
 simp only[Bool.and_eq_true,decide_eq_true_eq] at h
 exact⟨h.1,h.2.1.1,h.2.1.2.1,h.2.1.2.2.1,h.2.1.2.2.2,h.2.2⟩
theorem rgz_of {z:Zn}(h:rgz z=true):chk z.p=0/\z.d.length<=128/\0<=z.v/\z.v<=1099511627776/\0<=z.k/\z.k<=1099511627776/\0<=z.o:=by
 unfold rgz at h
 simp only[decide_eq_true_eq] at h
 omega
theorem tre_okN {ns:List Zn}(h:tre ns=true):okN ns:=fun z hz=>by
 have h1:=rgz_of ((wL h).2.2.1 z hz)
 have h2:=chk_len h1.1
 exact⟨h1.2.2.2.2.1,h1.2.2.1,by omega,by omega⟩
theorem rgt_ok {s:Sv}(h:rgtS s=true)(hc:okC s.c):OkSv s:=by
 have h1:=rgt_of h
 have h2:=tre_len h1.1
 exact⟨⟨by omega,by omega,hc⟩,tre_okN h1.1,by omega⟩
theorem chgT_one (x:Sv)(o:Oq)(e n ses xx:Int):chgT x [o] e n ses xx=if (xP x.ns o ses).2.2=0 then ⟨e,n,ses,xx,0,0,(xP x.ns o ses).2.1,(xP x.ns o ses).1⟩ else ⟨e,n,ses,xx,(xP x.ns o ses).2.2,0,[],[]⟩:=by
 unfold chgT
 rw[if_neg (by simp)]
 rw[xJ,xJ]
 by_cases h:(xP x.ns o ses).2.2=0
 ·rw[if_pos h,if_pos h];simp
 ·rw[if_neg h,if_neg h,if_neg h];rfl
def ky (z:Zn):List UInt8 × List UInt8 × Int × Int:=(z.p,z.d,z.v,z.o)
def ow (ses:Int)(z:Zn):Bool := !decide (z.o=ses)
structure Gk (s S:Sv)(ses:Int)(k:Nat)(ps:List Pt):Prop where
 r:ris S.ns
 m:S.ns.map ky=((s.ns.take k).filter (ow ses)++s.ns.drop k).map ky
 e:EqA S (yU s ps)
 ss:S.ss=s.ss
theorem cls_ok (ses:Int):∀ (l:List Zn)(S:Sv)(ps:List Pt),okN S.ns->(∀z∈l,z.p.length<=9223372036854775807)->(∀p∈ps,okP p)->(∀p∈(wT S ses l ps).2,okP p)/\(wT S ses l ps).2.length<=ps.length+2 * l.length
 |[],S,ps,_,_,h=>⟨h,by simp[wT]⟩
 |z::l,S,ps,hn,hl,h=>by
  obtain⟨h1,h2⟩:=gonL_ok hn (hl z List.mem_cons_self)
  have hl':∀z∈l,z.p.length<=9223372036854775807:=fun y hy=>hl y (List.mem_cons_of_mem _ hy)
  rw[wT]
  split
  ·split
   ·have ih:=cls_ok ses l (doS S (txP (wU S.ns z.p).1)) (ps++(wU S.ns z.p).1) (doS_okN hn h1) hl' (fun p hp=>by
     rcases List.mem_append.1 hp with hp|hp
     ·exact h p hp
     ·exact h1 p hp)
    refine⟨ih.1,?_⟩
    have:=ih.2
    simp only[List.length_append,List.length_cons] at this ⊢
    omega
   ·exact⟨h,by show ps.length<=_;omega⟩
  ·have ih:=cls_ok ses l S ps hn hl' h
   refine⟨ih.1,?_⟩
   have:=ih.2
   simp only[List.length_cons];omega
structure Ended (s X:Sv)(ses:Int):Prop where
 r:ris X.ns
 m:X.ns.map ky=(s.ns.filter (ow ses)).map ky
 ss:X.ss=but s.ss ses
end Go.Proofs.YtedbbcmokbogpaaGreatDoor
namespace Go.Proofs.YtedbbcmokbogpaaGreatDoor
set_option linter.unusedSimpArgs false
set_option linter.unusedVariables false
open Go Go.Av
attribute [local irreducible] Go.Av.yP Go.Av.zU Go.Av.yN Go.Av.zT Go.Av.yO Go.Av.zV Go.Av.Con
theorem clone72 (l:List (List PV))(hl:l.length<=1000000):RCon 72 [.p (.sl 5 l)] 52 5 l:=by
 refine wBodyR Tryz.tab Tryz.mixed Tryz.func72 rfl rfl Tryz.ntmps72 rfl (by simp) (by simp) fun Q hr hn=>?_
 repeat' first|(refine wRetG [.row 2 52 5] ?_)|(refine And.intro (by omega) (Or.inl ?_))|(refine And.intro ?_ (fun hnil=>?_))|((first|refine O _ ?_|refine O _ _ ?_|(clear O;refine O _ ?_));clear O)|(refine zJ fun K O=>?_)|((first|refine zH ?_|refine zN rfl (by kernel_rfl) ?_|refine zM ?_|refine zK (by kernel_rfl) ?_);simp only[vZ,vY,strip])|((first|refine wIs fun K O=>?_|refine wOs fun K O=>?_|refine wQs fun K O=>?_|refine zW ?_|refine zX ?_|refine zY ?_|refine zL ?_);simp)|(refine wIn ?_;refine And.intro (by kernel_rfl) ?_;try simp only[zZ])|refine zQ ?_|refine zS ?_|((first|refine zI ?_|refine zO ?_|refine zP ?_);try simp)|((first|refine zR ?_|refine wOn ?_|refine wQn ?_);try simp only[zZ])
 ·refine hr _ 7 (by simp) (by simp) (by omega)
 ·subst hnil
  simp only[thenA_r]
  refine hr _ 2 (by simp) (by simp) (by omega)
theorem clone73 (l:List (List PV))(hl:l.length<=1000000):RCon 73 [.p (.sl 1 l)] 3 1 l:=by
 refine wBodyR Tryz.tab Tryz.mixed Tryz.func73 rfl rfl Tryz.ntmps73 rfl (by simp) (by simp) fun Q hr hn=>?_
 repeat' first|(refine wRetG [.row 2 3 1] ?_)|(refine And.intro (by omega) (Or.inl ?_))|(refine And.intro ?_ (fun hnil=>?_))|((first|refine O _ ?_|refine O _ _ ?_|(clear O;refine O _ ?_));clear O)|(refine zJ fun K O=>?_)|((first|refine zH ?_|refine zN rfl (by kernel_rfl) ?_|refine zM ?_|refine zK (by kernel_rfl) ?_);simp only[vZ,vY,strip])|((first|refine wIs fun K O=>?_|refine wOs fun K O=>?_|refine wQs fun K O=>?_|refine zW ?_|refine zX ?_|refine zY ?_|refine zL ?_);simp)|(refine wIn ?_;refine And.intro (by kernel_rfl) ?_;try simp only[zZ])|refine zQ ?_|refine zS ?_|((first|refine zI ?_|refine zO ?_|refine zP ?_);try simp)|((first|refine zR ?_|refine wOn ?_|refine wQn ?_);try simp only[zZ])
 ·refine hr _ 7 (by simp) (by simp) (by omega)
 ·subst hnil
  simp only[thenA_r]
  refine hr _ 2 (by simp) (by simp) (by omega)
theorem clone79 (l:List (List PV))(hl:l.length<=1000000):RCon 79 [.p (.sl 4 l)] 61 4 l:=by
 refine wBodyR Tryz.tab Tryz.mixed Tryz.func79 rfl rfl Tryz.ntmps79 rfl (by simp) (by simp) fun Q hr hn=>?_
 repeat' first|(refine wRetG [.row 2 61 4] ?_)|(refine And.intro (by omega) (Or.inl ?_))|(refine And.intro ?_ (fun hnil=>?_))|((first|refine O _ ?_|refine O _ _ ?_|(clear O;refine O _ ?_));clear O)|(refine zJ fun K O=>?_)|((first|refine zH ?_|refine zN rfl (by kernel_rfl) ?_|refine zM ?_|refine zK (by kernel_rfl) ?_);simp only[vZ,vY,strip])|((first|refine wIs fun K O=>?_|refine wOs fun K O=>?_|refine wQs fun K O=>?_|refine zW ?_|refine zX ?_|refine zY ?_|refine zL ?_);simp)|(refine wIn ?_;refine And.intro (by kernel_rfl) ?_;try simp only[zZ])|refine zQ ?_|refine zS ?_|((first|refine zI ?_|refine zO ?_|refine zP ?_);try simp)|((first|refine zR ?_|refine wOn ?_|refine wQn ?_);try simp only[zZ])
 ·refine hr _ 7 (by simp) (by simp) (by omega)
 ·subst hnil
  simp only[thenA_r]
  refine hr _ 2 (by simp) (by simp) (by omega)
def cloneT:Nat->Option (Nat × Nat)
 |72=>some (52,5)
 |73=>some (3,1)
 |79=>some (61,4)
 |_=>none
theorem clone_ok {g e c:Nat}(h:cloneT g=some (e,c))(l:List (List PV))(hl:l.length<=1000000):RCon g [.p (.sl c l)] e c l:=by
 unfold cloneT at h
 split at h
 ·simp only[vX,Prod.mk.injEq] at h;obtain⟨rfl,rfl⟩:=h;exact clone72 l hl
 ·simp only[vX,Prod.mk.injEq] at h;obtain⟨rfl,rfl⟩:=h;exact clone73 l hl
 ·simp only[vX,Prod.mk.injEq] at h;obtain⟨rfl,rfl⟩:=h;exact clone79 l hl
 ·simp at h
def base:yF:=fun g args β=>match args,β with
 |[.p (.sl c' l)],[]=>match cloneT g with
  |some (e,c)=>if c'=c/\l.length<=1000000 then some (.ret (.row 2048) [.row e c l] []) else none
  |none=>none
 |_,_=>none
end Go.Proofs.YtedbbcmokbogpaaGreatDoor
