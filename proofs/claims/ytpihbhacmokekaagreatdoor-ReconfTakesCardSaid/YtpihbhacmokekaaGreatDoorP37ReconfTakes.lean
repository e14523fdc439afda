/- Texts that the proof needs: PRZ KF QD QE. -/
import Derived.Test.YtpihbhacmokekaaGreatDoorP30ReconfTakes
import Derived.Test.YtpihbhacmokekaaGreatDoorP35ReconfTakes
import Derived.Test.YtpihbhacmokekaaGreatDoorP36ReconfTakes
import Derived.Test.YtpihbhacmokekaaGreatDoorP28ReconfTakes
import Derived.Test.YtpihbhacmokekaaGreatDoorP31ReconfTakes
namespace Go.Proofs.YtpihbhacmokekaaGreatDoor
set_option linter.unusedSimpArgs false
set_option linter.unusedVariables false
set_option maxRecDepth 8000
open Go Go.Av
attribute [local irreducible] Go.Av.yJ Go.Av.zU Go.Av.yC Go.Av.zQ Go.Av.yG Go.Av.zV Go.Av.Con
def cf0:Cf:=⟨0,0,0,[]⟩
structure Oq where
 (k:Int)
 (pa da:List UInt8)
 (v:Int)
 (ow sq:Bool)
def Oq.cells (o:Oq):List PV:=[I o.k,SB o.pa,SB o.da,I o.v,B o.ow,B o.sq]
def oqs (l:List Oq):List (List PV):=l.map Oq.cells
@[simp] theorem oqs_len (l:List Oq):(oqs l).length=l.length:=by simp[oqs]
structure Rp where
 (k s x:Int)
 (ops:List Oq)
 (d:Dl)
 (we wn:Int)
def Rp.cells (r:Rp):List PV:=[I r.k,I r.s,I r.x,.sl 6 (oqs r.ops),I r.d.kind,.sl 4 (mbs r.d.put),.sl 1 (ints r.d.drop),I r.we,I r.wn]
abbrev nilS:PV := .v (.slice none 0 0)
theorem refusedX_con (e n ses x r b:Int)(m:List UInt8)(q:PV)(hq:q.one=true)(er:Int):zE Tryz.prog 55 [.p (.agg [I e,I n,I ses,I x,I r,I b,SB m,q]),.p (I er)] (.p (.agg [I e,I n,I ses,I x,I er,I 0,SB [],.v (.slice none 0 0)])):=by
 refine zG Tryz.tab Tryz.mixed Tryz.func55 rfl rfl Tryz.ntmps55 (by simp) (by simp) fun Q hr hn=>?_
 repeat' first|((first|refine O _ ?_|refine O _ _ ?_|(clear O;refine O _ ?_));clear O)|(refine zJ fun K O=>?_)|((first|refine zH ?_|refine zN rfl (by kernel_rfl) ?_|refine zM ?_|refine zK (by kernel_rfl) ?_);simp only[vS,vR,strip])|((first|refine wIs fun K O=>?_|refine wOs fun K O=>?_|refine wQs fun K O=>?_|refine zW ?_|refine zX ?_|refine zY ?_|refine zL ?_);simp[hq])|(refine wIn ?_;refine And.intro (by kernel_rfl) ?_;try simp only[zZ])|refine zR ?_|refine zT ?_|((first|refine zI ?_|refine zO ?_|refine zP ?_);try simp)|((first|refine zS ?_|refine wOn ?_|refine wQn ?_);try simp only[zZ])
 all_goals apply hr
 all_goals simp[Tryz.f55,show ByteArray.empty=bs [] from rfl]
theorem wkT (e n ses x er b:Int)(m:List UInt8):Wk (.p (.agg [I e,I n,I ses,I x,I er,I b,SB m,.v (.slice none 0 0)])) (.p (.agg (Tx.cells ⟨e,n,ses,x,er,b,m,[]⟩))) :=
 .agg _ _ ⟨.same _,.same _,.same _,.same _,.same _,.same _,.same _,.nil 11,trivial⟩
theorem refused_con (e n ses x r b:Int)(m:List UInt8)(q:PV)(hq:q.one=true)(er:Int):zE Tryz.prog 55 [.p (.agg [I e,I n,I ses,I x,I r,I b,SB m,q]),.p (I er)] (.p (.agg (Tx.cells ⟨e,n,ses,x,er,0,[],[]⟩))) :=
 (refusedX_con e n ses x r b m q hq er).wkR (wkT ..)
def cfgPt (c:Cf):Pt:=⟨5,zz,0,c⟩
def cfgT (s:Sv)(r:Rp)(e n:Int):Tx :=
 if r.we=s.c.ep/\r.wn=s.c.n then (if appE s.c r.d e n=0 then ⟨e,n,r.s,r.x,0,0,[],[cfgPt (appC s.c r.d e n)]⟩ else ⟨e,n,r.s,r.x,appE s.c r.d e n,0,[],[]⟩)
 else ⟨e,n,r.s,r.x,10,0,[],[]⟩
set_option maxHeartbeats 4000000 in
theorem configured_con (s:Sv)(r:Rp)(e n:Int)(hc:s.c.ms.length<=100000)(hp:r.d.put.length<=100000)(hd:r.d.drop.length<=100000):zE Tryz.prog 58 [.p (.agg s.cells),.p (.agg r.cells),.p (.agg [I e,I n,I r.s,I r.x,I 0,I 0,SB [],nilS])] (.p (.agg (cfgT s r e n).cells)):=by
 have c1:=applyD_con s.c r.d e n (fun _ _=>by have:=keepM_len s.c r.d;rw[List.length_append];omega) (by omega) (by omega) (by omega)
 have c3:=fun er=>refused_con e n r.s r.x 0 0 [] nilS rfl er
 unfold cfgT
 generalize appE s.c r.d e n=ae at *
 generalize appC s.c r.d e n=ac at *
 obtain⟨ns,ss,nx,⟨ep,cn,kd,ms⟩,ae0,an⟩:=s
 obtain⟨k,rs,x,ops,⟨dk,put,drop⟩,we,wn⟩:=r
 obtain⟨aep,acn,akd,ams⟩:=ac
 dsimp only at *
 by_cases h1:we=ep/\wn=cn
 case neg =>
  rw[if_neg h1]
  have c4:=c3 10
  unfold Tx.cells Sv.cells Rp.cells at *
  dsimp only at *
  by_cases h2:we=ep
  ·have h2':=eq_true h2
   have h3':(wn=cn)=False:=eq_false fun h=>h1 ⟨h2,h⟩
   refine zG Tryz.tab Tryz.mixed Tryz.func58 rfl rfl Tryz.ntmps58 (by simp) (by simp) fun Q hr hn=>?_
   repeat' first|((first|refine O _ ?_|refine O _ _ ?_|(clear O;refine O _ ?_));clear O)|(refine zJ fun K O=>?_)|((first|refine zH ?_|refine zN rfl (by kernel_rfl) ?_|refine zM ?_|refine zK (by kernel_rfl) ?_);simp only[vS,vR,strip])|((first|refine wIs fun K O=>?_|refine wOs fun K O=>?_|refine wQs fun K O=>?_|refine zW ?_|refine zX ?_|refine zY ?_|refine zL ?_);simp[h2',h3'])|(refine wIn ?_;refine And.intro (by kernel_rfl) ?_;try simp only[zZ])|refine zR ?_|refine zT ?_|((first|refine zI ?_|refine zO ?_|refine zP ?_);try simp)|((first|refine zS ?_|refine wOn ?_|refine wQn ?_);try simp only[zZ])|refine zU.p c4 rfl ?_|refine zU.l c4 rfl ?_|refine zQ.pure c4 rfl ?_|refine zQ.lent c4 rfl ?_|refine zU.o c4 ?_|refine zV.p c4 rfl ?_|refine zV.l c4 rfl ?_|refine zV.o c4 ?_
   all_goals apply hr
   all_goals simp[Tryz.f58]
  ·have h2':=eq_false h2
   refine zG Tryz.tab Tryz.mixed Tryz.func58 rfl rfl Tryz.ntmps58 (by simp) (by simp) fun Q hr hn=>?_
   repeat' first|((first|refine O _ ?_|refine O _ _ ?_|(clear O;refine O _ ?_));clear O)|(refine zJ fun K O=>?_)|((first|refine zH ?_|refine zN rfl (by kernel_rfl) ?_|refine zM ?_|refine zK (by kernel_rfl) ?_);simp only[vS,vR,strip])|((first|refine wIs fun K O=>?_|refine wOs fun K O=>?_|refine wQs fun K O=>?_|refine zW ?_|refine zX ?_|refine zY ?_|refine zL ?_);simp[h2'])|(refine wIn ?_;refine And.intro (by kernel_rfl) ?_;try simp only[zZ])|refine zR ?_|refine zT ?_|((first|refine zI ?_|refine zO ?_|refine zP ?_);try simp)|((first|refine zS ?_|refine wOn ?_|refine wQn ?_);try simp only[zZ])|refine zU.p c4 rfl ?_|refine zU.l c4 rfl ?_|refine zQ.pure c4 rfl ?_|refine zQ.lent c4 rfl ?_|refine zU.o c4 ?_|refine zV.p c4 rfl ?_|refine zV.l c4 rfl ?_|refine zV.o c4 ?_
   all_goals apply hr
   all_goals simp[Tryz.f58]
 rw[if_pos h1]
 obtain⟨rfl,rfl⟩:=h1
 by_cases h2:ae=0
 ·subst h2
  rw[if_pos rfl]
  clear c3
  unfold Tx.cells Sv.cells Rp.cells cfgPt zz Cf.cells Dl.cells pts at *
  simp only[vS,vR]
  unfold Pt.cells
  dsimp only at *
  refine zG Tryz.tab Tryz.mixed Tryz.func58 rfl rfl Tryz.ntmps58 (by simp) (by simp) fun Q hr hn=>?_
  repeat' first|((first|refine O _ ?_|refine O _ _ ?_|(clear O;refine O _ ?_));clear O)|(refine zJ fun K O=>?_)|((first|refine zH ?_|refine zN rfl (by kernel_rfl) ?_|refine zM ?_|refine zK (by kernel_rfl) ?_);simp only[vS,vR,strip])|((first|refine wIs fun K O=>?_|refine wOs fun K O=>?_|refine wQs fun K O=>?_|refine zW ?_|refine zX ?_|refine zY ?_|refine zL ?_);simp)|(refine wIn ?_;refine And.intro (by kernel_rfl) ?_;try simp only[zZ])|refine zR ?_|refine zT ?_|((first|refine zI ?_|refine zO ?_|refine zP ?_);try simp)|((first|refine zS ?_|refine wOn ?_|refine wQn ?_);try simp only[zZ])|refine zU.p c1 rfl ?_|refine zU.l c1 rfl ?_|refine zQ.pure c1 rfl ?_|refine zQ.lent c1 rfl ?_|refine zU.o c1 ?_|refine zV.p c1 rfl ?_|refine zV.l c1 rfl ?_|refine zV.o c1 ?_
  all_goals apply hr
  all_goals simp[Tryz.f58,mbs,show ByteArray.empty=bs [] from rfl]
 ·rw[if_neg h2]
  have h2':=eq_false h2
  have c4:=c3 ae
  unfold Tx.cells Sv.cells Rp.cells Cf.cells Dl.cells at *
  dsimp only at *
  refine zG Tryz.tab Tryz.mixed Tryz.func58 rfl rfl Tryz.ntmps58 (by simp) (by simp) fun Q hr hn=>?_
  repeat' first|((first|refine O _ ?_|refine O _ _ ?_|(clear O;refine O _ ?_));clear O)|(refine zJ fun K O=>?_)|((first|refine zH ?_|refine zN rfl (by kernel_rfl) ?_|refine zM ?_|refine zK (by kernel_rfl) ?_);simp only[vS,vR,strip])|((first|refine wIs fun K O=>?_|refine wOs fun K O=>?_|refine wQs fun K O=>?_|refine zW ?_|refine zX ?_|refine zY ?_|refine zL ?_);simp[h2'])|(refine wIn ?_;refine And.intro (by kernel_rfl) ?_;try simp only[zZ])|refine zR ?_|refine zT ?_|((first|refine zI ?_|refine zO ?_|refine zP ?_);try simp)|((first|refine zS ?_|refine wOn ?_|refine wQn ?_);try simp only[zZ])|refine zU.p c1 rfl ?_|refine zU.l c1 rfl ?_|refine zQ.pure c1 rfl ?_|refine zQ.lent c1 rfl ?_|refine zU.o c1 ?_|refine zV.p c1 rfl ?_|refine zV.l c1 rfl ?_|refine zV.o c1 ?_|refine zU.p c4 rfl ?_|refine zU.l c4 rfl ?_|refine zQ.pure c4 rfl ?_|refine zQ.lent c4 rfl ?_|refine zU.o c4 ?_|refine zV.p c4 rfl ?_|refine zV.l c4 rfl ?_|refine zV.o c4 ?_
  all_goals apply hr
  all_goals simp[Tryz.f58]
def mk4 (s:Sv)(r:Rp)(e n:Int):Tx:=if r.s∈s.ss then cfgT s r e n else ⟨e,n,r.s,r.x,13,0,[],[]⟩
set_option maxHeartbeats 4000000 in
theorem make4_con (s:Sv)(r:Rp)(e n:Int)(h4:r.k=4)(hc:s.c.ms.length<=100000)(hp:r.d.put.length<=100000)(hd:r.d.drop.length<=100000):zE Tryz.prog 27 [.p (.agg s.cells),.p (.agg r.cells),.p (.agg [I e,I n])] (.p (.agg (mk4 s r e n).cells)):=by
 unfold mk4
 have c2:=wO s.ss r.s
 by_cases h:r.s∈s.ss
 ·rw[if_pos h]
  rw[decide_eq_true h] at c2
  have c4:=configured_con s r e n hc hp hd
  generalize cfgT s r e n=t1 at *
  clear hc hp hd h
  obtain⟨k,rs,x,ops,⟨dk,put,drop⟩,we,wn⟩:=r
  dsimp only at *
  subst h4
  unfold Tx.cells Rp.cells Sv.cells at *
  dsimp only at *
  refine zG Tryz.tab Tryz.mixed Tryz.func27 rfl rfl Tryz.ntmps27 (by simp) (by simp) fun Q hr hn=>?_
  repeat' first|((first|refine O _ ?_|refine O _ _ ?_|(clear O;(first|refine O _ ?_|(clear O;(first|refine O _ ?_|(clear O;(first|refine O _ ?_|(clear O;refine O _ ?_))))))));clear O)|(refine zJ fun K O=>?_)|((first|refine zH ?_|refine zN rfl (by kernel_rfl) ?_|refine zM ?_|refine zK (by kernel_rfl) ?_);simp only[vS,vR,strip])|((first|refine wIs fun K O=>?_|refine wOs fun K O=>?_|refine wQs fun K O=>?_|refine zW ?_|refine zX ?_|refine zY ?_|refine zL ?_);simp[show ByteArray.empty = bs [] from rfl])|(refine wIn ?_;refine And.intro (by kernel_rfl) ?_;try simp only[zZ])|refine zR ?_|refine zT ?_|((first|refine zI ?_|refine zO ?_|refine zP ?_);try simp)|((first|refine zS ?_|refine wOn ?_|refine wQn ?_);try simp only[zZ])|refine zU.p c2 rfl ?_|refine zU.l c2 rfl ?_|refine zQ.pure c2 rfl ?_|refine zQ.lent c2 rfl ?_|refine zU.o c2 ?_|refine zV.p c2 rfl ?_|refine zV.l c2 rfl ?_|refine zV.o c2 ?_|refine zU.p c4 rfl ?_|refine zU.l c4 rfl ?_|refine zQ.pure c4 rfl ?_|refine zQ.lent c4 rfl ?_|refine zU.o c4 ?_|refine zV.p c4 rfl ?_|refine zV.l c4 rfl ?_|refine zV.o c4 ?_
  all_goals apply hr
  all_goals simp[Tryz.f27]
 ·rw[if_neg h]
  rw[decide_eq_false h] at c2
  have c3:=refused_con e n r.s r.x 0 0 [] nilS rfl 13
  clear hc hp hd h
  obtain⟨k,rs,x,ops,⟨dk,put,drop⟩,we,wn⟩:=r
  dsimp only at *
  subst h4
  unfold Tx.cells Rp.cells Sv.cells at *
  dsimp only at *
  refine zG Tryz.tab Tryz.mixed Tryz.func27 rfl rfl Tryz.ntmps27 (by simp) (by simp) fun Q hr hn=>?_
  repeat' first|((first|refine O _ ?_|refine O _ _ ?_|(clear O;(first|refine O _ ?_|(clear O;(first|refine O _ ?_|(clear O;(first|refine O _ ?_|(clear O;refine O _ ?_))))))));clear O)|(refine zJ fun K O=>?_)|((first|refine zH ?_|refine zN rfl (by kernel_rfl) ?_|refine zM ?_|refine zK (by kernel_rfl) ?_);simp only[vS,vR,strip])|((first|refine wIs fun K O=>?_|refine wOs fun K O=>?_|refine wQs fun K O=>?_|refine zW ?_|refine zX ?_|refine zY ?_|refine zL ?_);simp[show ByteArray.empty = bs [] from rfl])|(refine wIn ?_;refine And.intro (by kernel_rfl) ?_;try simp only[zZ])|refine zR ?_|refine zT ?_|((first|refine zI ?_|refine zO ?_|refine zP ?_);try simp)|((first|refine zS ?_|refine wOn ?_|refine wQn ?_);try simp only[zZ])|refine zU.p c2 rfl ?_|refine zU.l c2 rfl ?_|refine zQ.pure c2 rfl ?_|refine zQ.lent c2 rfl ?_|refine zU.o c2 ?_|refine zV.p c2 rfl ?_|refine zV.l c2 rfl ?_|refine zV.o c2 ?_|refine zU.p c3 rfl ?_|refine zU.l c3 rfl ?_|refine zQ.pure c3 rfl ?_|refine zQ.lent c3 rfl ?_|refine zU.o c3 ?_|refine zV.p c3 rfl ?_|refine zV.l c3 rfl ?_|refine zV.o c3 ?_
  all_goals apply hr
  all_goals simp[Tryz.f27]
end Go.Proofs.YtpihbhacmokekaaGreatDoor
namespace Go.Proofs.YtpihbhacmokekaaGreatDoor
set_option linter.unusedSimpArgs false
set_option linter.unusedVariables false
open Go Go.Av
attribute [local irreducible] Go.Av.yJ Go.Av.zU Go.Av.yC Go.Av.zQ Go.Av.yG Go.Av.zV Go.Av.Con
structure Hy where
 (im:Sv)
 (lg:List Tx)
 deriving DecidableEq
def Hy.cells (h:Hy):List PV:=[.sl 5 (zns h.im.ns),.sl 1 (ints h.im.ss),I h.im.nx,I h.im.c.ep,I h.im.c.n,I h.im.c.kind,.sl 4 (mbs h.im.c.ms),I h.im.ae,I h.im.an,.sl 8 (xH h.lg)]
def wT (t:Tx):Nat:=t.ps.length+(t.ps.map fun p=>p.c.ms.length).sum
def wH (h:Hy):Nat:=h.im.ns.length+h.im.c.ms.length+h.im.ss.length+(h.lg.map wT).sum
def wL (l:List Lr):Nat:=(l.map fun x=>x.ms.length).sum
def wR (r:Rp):Nat:=r.ops.length+r.d.put.length+r.d.drop.length
def nearK (h:Hy)(l:List Lr)(r:Rp):Prop:=h.lg.length<=50/\(∀t∈h.lg,t.ps.length<=50)/\l.length<=40/\wH h+wL l+wR r<=300
instance (h:Hy)(l:List Lr)(r:Rp):Decidable (nearK h l r):=by unfold nearK;infer_instance
structure SmallH (h:Hy):Prop where
 ns:h.im.ns.length<=140737488355328
 ss:h.im.ss.length<=140737488355328
 ms:h.im.c.ms.length<=140737488355328
 ps:∀t∈h.lg,t.ps.length<=140737488355328/\∀p∈t.ps,p.c.ms.length<=140737488355328
def SmallR (r:Rp):Prop:=r.ops.length<=140737488355328/\r.d.put.length<=140737488355328/\r.d.drop.length<=140737488355328
def SmallL (l:List Lr):Prop:=∀x∈l,x.ms.length<=140737488355328
theorem sum_snoc {α:Type}(f:α->Nat){l:List α}{k:Nat}(h:k<l.length):((l.take (k+1)).map f).sum=((l.take k).map f).sum+f l[k]:=by
 rw[List.take_succ_eq_append_getElem h,List.map_append,List.sum_append];simp
theorem wrapN (a b:Nat)(h:a+b<=9223372036854775807):IntKind.i64.wrap ((a:Int)+(b:Int))=(a:Int)+(b:Int):=by
 rw[zF] <;> omega
set_option maxHeartbeats 8000000 in
theorem far20_con (h:Hy)(l:List Lr)(r:Rp)(hs:SmallH h)(hl:SmallL l)(hrq:SmallR r):zE Tryz.prog 5 [.p (.agg h.cells),.p (.sl 8 (lrs l)),.p (.agg r.cells)] (.p (B (decide (¬ nearK h l r)))):=by
 obtain⟨⟨ns,ss,nx,⟨ep,n,kind,ms⟩,ae,an⟩,lg⟩:=h
 obtain⟨rk,rs,rx,ops,⟨dk,put,drop⟩,we,wn⟩:=r
 obtain⟨h1,h2,h3,h4⟩:=hs
 obtain⟨r1,r2,r3⟩:=hrq
 simp only at h1 h2 h3 h4 r1 r2 r3
 unfold Hy.cells Rp.cells
 refine zE.len ⟨Tryz.f5,Tryz.func5,rfl,rfl⟩ 1 _ _ rfl fun hll=>?_
 simp only[lrs_len] at hll
 refine zE.lenA ⟨Tryz.f5,Tryz.func5,rfl,rfl⟩ 0 9 8 (xH lg) _ rfl rfl fun hlg=>?_
 simp only[txns_len] at hlg
 dsimp only
 by_cases q1:60<lg.length
 ·have q1':(60:Int)<lg.length:=by omega
  rw[show decide (¬ nearK ⟨⟨ns,ss,nx,⟨ep,n,kind,ms⟩,ae,an⟩,lg⟩ l ⟨rk,rs,rx,ops,⟨dk,put,drop⟩,we,wn⟩)=true from decide_eq_true fun h=>by have:=h.1;simp only at this;omega]
  refine zG Tryz.tab Tryz.mixed Tryz.func5 rfl rfl Tryz.ntmps5 (by simp) (by simp) fun Q hr hn=>?_
  repeat' first|((first|refine O _ ?_|refine O _ _ ?_|(clear O;refine O _ ?_));clear O)|(refine zJ fun K O=>?_)|((first|refine zH ?_|refine zN rfl (by kernel_rfl) ?_|refine zM ?_|refine zK (by kernel_rfl) ?_);simp only[vS,vR,strip])|((first|refine wIs fun K O=>?_|refine wOs fun K O=>?_|refine wQs fun K O=>?_|refine zW ?_|refine zX ?_|refine zY ?_|refine zL ?_);simp[q1,q1'])|(refine wIn ?_;refine And.intro (by kernel_rfl) ?_;try simp only[zZ])|refine zR ?_|refine zT ?_|((first|refine zI ?_|refine zO ?_|refine zP ?_);try simp)|((first|refine zS ?_|refine wOn ?_|refine wQn ?_);try simp only[zZ])
  all_goals apply hr
  all_goals simp[Tryz.f5]
 have q1':¬ (60:Int)<lg.length:=by omega
 have w1:=wrapN ns.length ms.length (by omega)
 have w2:IntKind.i64.wrap ((ns.length:Int)+(ms.length:Int)+(ss.length:Int))=(ns.length:Int)+(ms.length:Int)+(ss.length:Int):=by rw[zF] <;> omega
 have w3:IntKind.i64.wrap ((ns.length:Int)+(ms.length:Int)+(ss.length:Int)+(ops.length:Int))=(ns.length:Int)+(ms.length:Int)+(ss.length:Int)+(ops.length:Int):=by rw[zF] <;> omega
 have w4:IntKind.i64.wrap ((ns.length:Int)+(ms.length:Int)+(ss.length:Int)+(ops.length:Int)+(put.length:Int))=(ns.length:Int)+(ms.length:Int)+(ss.length:Int)+(ops.length:Int)+(put.length:Int):=by rw[zF] <;> omega
 have w5:IntKind.i64.wrap ((ns.length:Int)+(ms.length:Int)+(ss.length:Int)+(ops.length:Int)+(put.length:Int)+(drop.length:Int))=((ns.length+ms.length+ss.length+(ops.length+put.length+drop.length):Nat):Int):=by rw[zF] <;> omega
 generalize hn0:ns.length+ms.length+ss.length+(ops.length+put.length+drop.length)=n0 at w5
 have hn0':n0<=6 * 140737488355328:=by omega
 refine zG Tryz.tab Tryz.mixed Tryz.func5 rfl rfl Tryz.ntmps5 (by simp) (by simp) fun Q hr hn=>?_
 repeat' first|((first|refine O _ ?_|refine O _ _ ?_|(clear O;refine O _ ?_));clear O)|(refine zJ fun K O=>?_)|((first|refine zH ?_|refine zN rfl (by kernel_rfl) ?_|refine zM ?_|refine zK (by kernel_rfl) ?_);simp only[vS,vR,strip])|((first|refine wIs fun K O=>?_|refine wOs fun K O=>?_|refine wQs fun K O=>?_|refine zW ?_|refine zX ?_|refine zY ?_|refine zL ?_);simp[q1,q1',w1,w2,w3,w4,w5])|(refine wIn ?_;refine And.intro (by kernel_rfl) ?_;try simp only[zZ])|refine zR ?_|refine zT ?_|((first|refine zI ?_|refine zO ?_|refine zP ?_);try simp)|((first|refine zS ?_|refine wOn ?_|refine wQn ?_);try simp only[zZ])
 refine zC (fun N st=>∃ (k m:Nat),k+N=lg.length/\m=n0+((lg.take k).map wT).sum/\m<=6 * 140737488355328+k * (50 * 140737488355328+50)/\(∀t∈lg.take k,t.ps.length<=50)/\st.s 1=.p (.sl 8 (lrs l))/\st.s 3=.ptr 3 0/\st.b 3=some (.box 33 [.p (.sl 5 (zns ns)),.p (.sl 1 (ints ss)),.p (I nx),.p (I ep),.p (I n),.p (I kind),.p (.sl 4 (mbs ms)),.p (I ae),.p (I an),.p (.sl 8 (xH lg))])/\st.s 7=.p (I m)/\st.s 8=.p (I k)) lg.length ⟨0,n0,by simp;omega⟩ fun K N st hL ⟨k,m,hk,hm,hmb,hps,g1,g2,b2,g5,g6⟩=>?_
 by_cases hlt:k<lg.length
 ·have hlt':(k:Int)<lg.length:=by omega
  have hw:=yU k _ hlt (by omega)
  have he:=wN hlt
  obtain⟨hp1,hp2⟩:=h4 lg[k] (List.getElem_mem hlt)
  have wm:=wrapN m lg[k].ps.length (by omega)
  by_cases q2:50<lg[k].ps.length
  ·have q2':(50:Int)<lg[k].ps.length:=by omega
   rw[show decide (¬ nearK ⟨⟨ns,ss,nx,⟨ep,n,kind,ms⟩,ae,an⟩,lg⟩ l ⟨rk,rs,rx,ops,⟨dk,put,drop⟩,we,wn⟩)=true from decide_eq_true fun h=>by have:=h.2.1 lg[k] (List.getElem_mem hlt);omega] at hr
   repeat' first|((first|refine O _ ?_|refine O _ _ ?_|(clear O;refine O _ ?_));clear O)|(refine zJ fun K O=>?_)|((first|refine zH ?_|refine zN rfl (by kernel_rfl) ?_|refine zM ?_|refine zK (by kernel_rfl) ?_);simp only[vS,vR,strip])|((first|refine wIs fun K O=>?_|refine wOs fun K O=>?_|refine wQs fun K O=>?_|refine zW ?_|refine zX ?_|refine zY ?_|refine zL ?_);simp[g1,g2,b2,g5,g6,hlt,hlt',hw,he,wm,q2,q2'])|(refine wIn ?_;refine And.intro (by kernel_rfl) ?_;try simp only[zZ])|refine zR ?_|refine zT ?_|((first|refine zI ?_|refine zO ?_|refine zP ?_);try simp)|((first|refine zS ?_|refine wOn ?_|refine wQn ?_);try simp only[zZ])
   all_goals apply hr
   all_goals simp[Tryz.f5]
  ·have q2':¬ (50:Int)<lg[k].ps.length:=by omega
   repeat' first|((first|refine O _ ?_|refine O _ _ ?_|(clear O;refine O _ ?_));clear O)|(refine zJ fun K O=>?_)|((first|refine zH ?_|refine zN rfl (by kernel_rfl) ?_|refine zM ?_|refine zK (by kernel_rfl) ?_);simp only[vS,vR,strip])|((first|refine wIs fun K O=>?_|refine wOs fun K O=>?_|refine wQs fun K O=>?_|refine zW ?_|refine zX ?_|refine zY ?_|refine zL ?_);simp[g1,g2,b2,g5,g6,hlt,hlt',hw,he,wm,q2,q2'])|(refine wIn ?_;refine And.intro (by kernel_rfl) ?_;try simp only[zZ])|refine zR ?_|refine zT ?_|((first|refine zI ?_|refine zO ?_|refine zP ?_);try simp)|((first|refine zS ?_|refine wOn ?_|refine wQn ?_);try simp only[zZ])
   refine zC (fun N' st=>∃ (q z:Nat),q+N'=lg[k].ps.length/\z=m+lg[k].ps.length+((lg[k].ps.take q).map fun p=>p.c.ms.length).sum/\z<=m+lg[k].ps.length+q * 140737488355328/\st.s 1=.p (.sl 8 (lrs l))/\st.s 3=.ptr 3 0/\st.b 3=some (.box 33 [.p (.sl 5 (zns ns)),.p (.sl 1 (ints ss)),.p (I nx),.p (I ep),.p (I n),.p (I kind),.p (.sl 4 (mbs ms)),.p (I ae),.p (I an),.p (.sl 8 (xH lg))])/\st.s 7=.p (I z)/\st.s 8=.p (I k)/\st.s 9=.p (I q)) lg[k].ps.length ⟨0,m+lg[k].ps.length,by simp[g1,g2,b2,g6]⟩ fun K' N' st hL' ⟨q,z,hq,hz,hzb,e1,e2,d2,e5,e6,e7⟩=>?_
   by_cases hlq:q<lg[k].ps.length
   ·have hlq':(q:Int)<lg[k].ps.length:=by omega
    have hwq:=yU q _ hlq (by omega)
    have heq:=pts_get hlq
    have hpq:=hp2 lg[k].ps[q] (List.getElem_mem hlq)
    have wz:=wrapN z lg[k].ps[q].c.ms.length (by omega)
    repeat' first|((first|refine O _ ?_|refine O _ _ ?_|(clear O;refine O _ ?_));clear O)|(refine zJ fun K O=>?_)|((first|refine zH ?_|refine zN rfl (by kernel_rfl) ?_|refine zM ?_|refine zK (by kernel_rfl) ?_);simp only[vS,vR,strip])|((first|refine wIs fun K O=>?_|refine wOs fun K O=>?_|refine wQs fun K O=>?_|refine zW ?_|refine zX ?_|refine zY ?_|refine zL ?_);simp[e1,e2,d2,e5,e6,e7,hlt,hlt',he,hlq,hlq',hwq,heq,wz])|(refine wIn ?_;refine And.intro (by kernel_rfl) ?_;try simp only[zZ])|refine zR ?_|refine zT ?_|((first|refine zI ?_|refine zO ?_|refine zP ?_);try simp)|((first|refine zS ?_|refine wOn ?_|refine wQn ?_);try simp only[zZ])
    refine hL' _ (N'-1) (by omega) ⟨q+1,z+lg[k].ps[q].c.ms.length,by omega,?_,by omega,?_⟩
    ·rw[sum_snoc _ hlq,hz];omega
    ·simp[e1,e2,d2,e5,e6,e7,hwq,wz]
   ·have hlq':¬ (q:Int)<lg[k].ps.length:=by omega
    rw[List.take_of_length_le (by omega)] at hz
    repeat' first|((first|refine O _ ?_|refine O _ _ ?_|(clear O;refine O _ ?_));clear O)|(refine zJ fun K O=>?_)|((first|refine zH ?_|refine zN rfl (by kernel_rfl) ?_|refine zM ?_|refine zK (by kernel_rfl) ?_);simp only[vS,vR,strip])|((first|refine wIs fun K O=>?_|refine wOs fun K O=>?_|refine wQs fun K O=>?_|refine zW ?_|refine zX ?_|refine zY ?_|refine zL ?_);simp[e1,e2,d2,e5,e6,e7,hlt,hlt',he,hlq,hlq',hw])|(refine wIn ?_;refine And.intro (by kernel_rfl) ?_;try simp only[zZ])|refine zR ?_|refine zT ?_|((first|refine zI ?_|refine zO ?_|refine zP ?_);try simp)|((first|refine zS ?_|refine wOn ?_|refine wQn ?_);try simp only[zZ])
    refine hL _ (N-1) (by omega) ⟨k+1,z,by omega,?_,by omega,fun t ht=>?_,?_⟩
    ·rw[sum_snoc _ hlt,hz,hm];unfold wT;omega
    ·rw[List.take_succ_eq_append_getElem hlt] at ht
     rcases List.mem_append.1 ht with ht|ht
     ·exact hps t ht
     ·rw[List.mem_singleton.1 ht];omega
    ·simp[e1,e2,d2,e5,e6,e7,hw]
 ·have hlt':¬ (k:Int)<lg.length:=by omega
  rw[List.take_of_length_le (by omega)] at hm hps
  have hmH:m=wH ⟨⟨ns,ss,nx,⟨ep,n,kind,ms⟩,ae,an⟩,lg⟩+wR ⟨rk,rs,rx,ops,⟨dk,put,drop⟩,we,wn⟩:=by unfold wH wR;simp only;omega
  by_cases q3:50<l.length
  ·have q3':(50:Int)<l.length:=by omega
   rw[show decide (¬ nearK ⟨⟨ns,ss,nx,⟨ep,n,kind,ms⟩,ae,an⟩,lg⟩ l ⟨rk,rs,rx,ops,⟨dk,put,drop⟩,we,wn⟩)=true from decide_eq_true fun h=>by have:=h.2.2.1;omega] at hr
   repeat' first|((first|refine O _ ?_|refine O _ _ ?_|(clear O;refine O _ ?_));clear O)|(refine zJ fun K O=>?_)|((first|refine zH ?_|refine zN rfl (by kernel_rfl) ?_|refine zM ?_|refine zK (by kernel_rfl) ?_);simp only[vS,vR,strip])|((first|refine wIs fun K O=>?_|refine wOs fun K O=>?_|refine wQs fun K O=>?_|refine zW ?_|refine zX ?_|refine zY ?_|refine zL ?_);simp[g1,g2,b2,g5,g6,hlt,hlt',q3,q3'])|(refine wIn ?_;refine And.intro (by kernel_rfl) ?_;try simp only[zZ])|refine zR ?_|refine zT ?_|((first|refine zI ?_|refine zO ?_|refine zP ?_);try simp)|((first|refine zS ?_|refine wOn ?_|refine wQn ?_);try simp only[zZ])
   all_goals apply hr
   all_goals simp[Tryz.f5]
  ·have q3':¬ (50:Int)<l.length:=by omega
   repeat' first|((first|refine O _ ?_|refine O _ _ ?_|(clear O;refine O _ ?_));clear O)|(refine zJ fun K O=>?_)|((first|refine zH ?_|refine zN rfl (by kernel_rfl) ?_|refine zM ?_|refine zK (by kernel_rfl) ?_);simp only[vS,vR,strip])|((first|refine wIs fun K O=>?_|refine wOs fun K O=>?_|refine wQs fun K O=>?_|refine zW ?_|refine zX ?_|refine zY ?_|refine zL ?_);simp[g1,g2,b2,g5,g6,hlt,hlt',q3,q3'])|(refine wIn ?_;refine And.intro (by kernel_rfl) ?_;try simp only[zZ])|refine zR ?_|refine zT ?_|((first|refine zI ?_|refine zO ?_|refine zP ?_);try simp)|((first|refine zS ?_|refine wOn ?_|refine wQn ?_);try simp only[zZ])
   refine zC (fun N st=>∃ (q z:Nat),q+N=l.length/\z=m+((l.take q).map fun x=>x.ms.length).sum/\z<=m+q * 140737488355328/\st.s 1=.p (.sl 8 (lrs l))/\st.s 3=.ptr 3 0/\st.b 3=some (.box 33 [.p (.sl 5 (zns ns)),.p (.sl 1 (ints ss)),.p (I nx),.p (I ep),.p (I n),.p (I kind),.p (.sl 4 (mbs ms)),.p (I ae),.p (I an),.p (.sl 8 (xH lg))])/\st.s 7=.p (I z)/\st.s 10=.p (I q)) l.length ⟨0,m,by simp[g1,g2,b2,g5]⟩ fun K' N' st hL' ⟨q,z,hq,hz,hzb,e1,e2,d2,e5,e8⟩=>?_
   by_cases hlq:q<l.length
   ·have hlq':(q:Int)<l.length:=by omega
    have hwq:=yU q _ hlq (by omega)
    have heq:=lrs_get hlq
    have hpq:=hl l[q] (List.getElem_mem hlq)
    have wz:=wrapN z l[q].ms.length (by omega)
    repeat' first|((first|refine O _ ?_|refine O _ _ ?_|(clear O;refine O _ ?_));clear O)|(refine zJ fun K O=>?_)|((first|refine zH ?_|refine zN rfl (by kernel_rfl) ?_|refine zM ?_|refine zK (by kernel_rfl) ?_);simp only[vS,vR,strip])|((first|refine wIs fun K O=>?_|refine wOs fun K O=>?_|refine wQs fun K O=>?_|refine zW ?_|refine zX ?_|refine zY ?_|refine zL ?_);simp[e1,e2,d2,e5,e8,hlq,hlq',hwq,heq,wz])|(refine wIn ?_;refine And.intro (by kernel_rfl) ?_;try simp only[zZ])|refine zR ?_|refine zT ?_|((first|refine zI ?_|refine zO ?_|refine zP ?_);try simp)|((first|refine zS ?_|refine wOn ?_|refine wQn ?_);try simp only[zZ])
    refine hL' _ (N'-1) (by omega) ⟨q+1,z+l[q].ms.length,by omega,?_,by omega,?_⟩
    ·rw[sum_snoc _ hlq,hz];omega
    ·simp[e1,e2,d2,e5,e8,hwq,wz]
   ·have hlq':¬ (q:Int)<l.length:=by omega
    rw[List.take_of_length_le (by omega)] at hz
    have hd:decide (¬ nearK ⟨⟨ns,ss,nx,⟨ep,n,kind,ms⟩,ae,an⟩,lg⟩ l ⟨rk,rs,rx,ops,⟨dk,put,drop⟩,we,wn⟩)=(decide (300<(z:Int)) || (decide ((50:Int)<lg.length) || decide ((40:Int)<l.length))):=by
     rw[Bool.eq_iff_iff]
     simp only[decide_eq_true_eq,Bool.or_eq_true]
     unfold nearK wL
     generalize wH ⟨⟨ns,ss,nx,⟨ep,n,kind,ms⟩,ae,an⟩,lg⟩=hw1 at *
     generalize wR ⟨rk,rs,rx,ops,⟨dk,put,drop⟩,we,wn⟩=hw2 at *
     simp only
     constructor
     ·intro h
      by_cases p1:50<lg.length
      ·exact .inr (.inl (by omega))
      by_cases p2:40<l.length
      ·exact .inr (.inr (by omega))
      refine .inl ?_
      by_cases p3:300<z
      ·omega
      ·exact absurd ⟨by omega,hps,by omega,by omega⟩ h
     ·rintro (h|h|h) ⟨a,b,c,d⟩ <;> omega
    rw[hd] at hr
    by_cases p1:(300:Int)<z
    ·rw[decide_eq_true p1,Bool.true_or] at hr
     repeat' first|((first|refine O _ ?_|refine O _ _ ?_|(clear O;refine O _ ?_));clear O)|(refine zJ fun K O=>?_)|((first|refine zH ?_|refine zN rfl (by kernel_rfl) ?_|refine zM ?_|refine zK (by kernel_rfl) ?_);simp only[vS,vR,strip])|((first|refine wIs fun K O=>?_|refine wOs fun K O=>?_|refine wQs fun K O=>?_|refine zW ?_|refine zX ?_|refine zY ?_|refine zL ?_);simp[e1,e2,d2,e5,e8,hlq,hlq',p1])|(refine wIn ?_;refine And.intro (by kernel_rfl) ?_;try simp only[zZ])|refine zR ?_|refine zT ?_|((first|refine zI ?_|refine zO ?_|refine zP ?_);try simp)|((first|refine zS ?_|refine wOn ?_|refine wQn ?_);try simp only[zZ])
     all_goals apply hr
     all_goals simp[Tryz.f5]
    rw[decide_eq_false p1,Bool.false_or] at hr
    by_cases p2:(50:Int)<lg.length
    ·rw[decide_eq_true p2,Bool.true_or] at hr
     repeat' first|((first|refine O _ ?_|refine O _ _ ?_|(clear O;refine O _ ?_));clear O)|(refine zJ fun K O=>?_)|((first|refine zH ?_|refine zN rfl (by kernel_rfl) ?_|refine zM ?_|refine zK (by kernel_rfl) ?_);simp only[vS,vR,strip])|((first|refine wIs fun K O=>?_|refine wOs fun K O=>?_|refine wQs fun K O=>?_|refine zW ?_|refine zX ?_|refine zY ?_|refine zL ?_);simp[e1,e2,d2,e5,e8,hlq,hlq',p1,p2])|(refine wIn ?_;refine And.intro (by kernel_rfl) ?_;try simp only[zZ])|refine zR ?_|refine zT ?_|((first|refine zI ?_|refine zO ?_|refine zP ?_);try simp)|((first|refine zS ?_|refine wOn ?_|refine wQn ?_);try simp only[zZ])
     all_goals apply hr
     all_goals simp[Tryz.f5]
    rw[decide_eq_false p2,Bool.false_or] at hr
    by_cases p3:(40:Int)<l.length
    ·rw[decide_eq_true p3] at hr
     repeat' first|((first|refine O _ ?_|refine O _ _ ?_|(clear O;refine O _ ?_));clear O)|(refine zJ fun K O=>?_)|((first|refine zH ?_|refine zN rfl (by kernel_rfl) ?_|refine zM ?_|refine zK (by kernel_rfl) ?_);simp only[vS,vR,strip])|((first|refine wIs fun K O=>?_|refine wOs fun K O=>?_|refine wQs fun K O=>?_|refine zW ?_|refine zX ?_|refine zY ?_|refine zL ?_);simp[e1,e2,d2,e5,e8,hlq,hlq',p1,p2,p3])|(refine wIn ?_;refine And.intro (by kernel_rfl) ?_;try simp only[zZ])|refine zR ?_|refine zT ?_|((first|refine zI ?_|refine zO ?_|refine zP ?_);try simp)|((first|refine zS ?_|refine wOn ?_|refine wQn ?_);try simp only[zZ])
     all_goals apply hr
     all_goals simp[Tryz.f5]
    ·rw[decide_eq_false p3] at hr
     repeat' first|((first|refine O _ ?_|refine O _ _ ?_|(clear O;refine O _ ?_));clear O)|(refine zJ fun K O=>?_)|((first|refine zH ?_|refine zN rfl (by kernel_rfl) ?_|refine zM ?_|refine zK (by kernel_rfl) ?_);simp only[vS,vR,strip])|((first|refine wIs fun K O=>?_|refine wOs fun K O=>?_|refine wQs fun K O=>?_|refine zW ?_|refine zX ?_|refine zY ?_|refine zL ?_);simp[e1,e2,d2,e5,e8,hlq,hlq',p1,p2,p3])|(refine wIn ?_;refine And.intro (by kernel_rfl) ?_;try simp only[zZ])|refine zR ?_|refine zT ?_|((first|refine zI ?_|refine zO ?_|refine zP ?_);try simp)|((first|refine zS ?_|refine wOn ?_|refine wQn ?_);try simp only[zZ])
     all_goals apply hr
     all_goals simp[Tryz.f5]
def tot (f:Mb->Int)(p:Mb->Bool):List Mb->Int
 |[]=>0
 |m::l=>(if m.r=1/\p m=true then f m else 0)+tot f p l
def inS (set:List Int)(m:Mb):Bool:=decide (m.i∈set)
def yes (_:Mb):Bool:=true
def one (_:Mb):Int:=1
def okL (l:List Mb):Prop:=∀m∈l,okM m
theorem fine_ok:∀ (l:List Mb)(p:Int),fine p l=true->okL l
 |[],_,_=>fun m hm=>by simp at hm
 |m::l,p,h=>fun x hx=>by
  simp only[fine,Bool.and_eq_true,decide_eq_true_eq] at h
  rcases List.mem_cons.1 hx with rfl|hx
  ·exact h.1.1
  ·exact fine_ok l _ h.2 x hx
theorem okL_get {l:List Mb}(h:okL l)(k:Nat)(hk:k<l.length):okM l[k]:=h _ (List.getElem_mem hk)
theorem is1_con (m:Mb):zE Tryz.prog 63 [.p (.agg m.cells)] (.p (I (one m))):=by
 obtain⟨i,r,w,g⟩:=m
 simp only[Mb.cells,one]
 refine zG Tryz.tab Tryz.mixed Tryz.func63 rfl rfl Tryz.ntmps63 (by simp) (by simp) fun Q hr hn=>?_
 repeat' first|((first|refine O _ ?_|refine O _ _ ?_|(clear O;refine O _ ?_));clear O)|(refine zJ fun K O=>?_)|((first|refine zH ?_|refine zN rfl (by kernel_rfl) ?_|refine zM ?_|refine zK (by kernel_rfl) ?_);simp only[vS,vR,strip])|((first|refine wIs fun K O=>?_|refine wOs fun K O=>?_|refine wQs fun K O=>?_|refine zW ?_|refine zX ?_|refine zY ?_|refine zL ?_);simp)|(refine wIn ?_;refine And.intro (by kernel_rfl) ?_;try simp only[zZ])|refine zR ?_|refine zT ?_|((first|refine zI ?_|refine zO ?_|refine zP ?_);try simp)|((first|refine zS ?_|refine wOn ?_|refine wQn ?_);try simp only[zZ])
 all_goals apply hr
 all_goals simp[Tryz.f63]
theorem is2_con (m:Mb):zE Tryz.prog 64 [.p (.agg m.cells)] (.p (I m.w)):=by
 obtain⟨i,r,w,g⟩:=m
 simp only[Mb.cells]
 refine zG Tryz.tab Tryz.mixed Tryz.func64 rfl rfl Tryz.ntmps64 (by simp) (by simp) fun Q hr hn=>?_
 repeat' first|((first|refine O _ ?_|refine O _ _ ?_|(clear O;refine O _ ?_));clear O)|(refine zJ fun K O=>?_)|((first|refine zH ?_|refine zN rfl (by kernel_rfl) ?_|refine zM ?_|refine zK (by kernel_rfl) ?_);simp only[vS,vR,strip])|((first|refine wIs fun K O=>?_|refine wOs fun K O=>?_|refine wQs fun K O=>?_|refine zW ?_|refine zX ?_|refine zY ?_|refine zL ?_);simp)|(refine wIn ?_;refine And.intro (by kernel_rfl) ?_;try simp only[zZ])|refine zR ?_|refine zT ?_|((first|refine zI ?_|refine zO ?_|refine zP ?_);try simp)|((first|refine zS ?_|refine wOn ?_|refine wQn ?_);try simp only[zZ])
 all_goals apply hr
 all_goals simp[Tryz.f64]
set_option maxHeartbeats 2000000 in
theorem most_con (c:Cf)(set:List Int)(h:Nat)(f:Mb->Int)(hl:c.ms.length<=1000000)(hf:∀m,zE Tryz.prog h [.p (.agg m.cells)] (.p (I (f m))))(hb:∀m∈c.ms,0<=f m/\f m<=100) :
 zE Tryz.prog 62 [.p (.agg c.cells),.p (.sl 1 (ints set)),.p (.v (.func (.func h) #[] #[]))] (.p (B (decide (tot f yes c.ms<2 * tot f (inS set) c.ms)))):=by
 obtain⟨ep,n,kind,l⟩:=c
 simp only[Cf.cells] at hl hb ⊢
 refine zG Tryz.tab Tryz.mixed Tryz.func62 rfl rfl Tryz.ntmps62 (by simp) (by simp) fun Q hr hn=>?_
 repeat' first|((first|refine O _ ?_|refine O _ _ ?_|(clear O;refine O _ ?_));clear O)|(refine zJ fun K O=>?_)|((first|refine zH ?_|refine zN rfl (by kernel_rfl) ?_|refine zM ?_|refine zK (by kernel_rfl) ?_);simp only[vS,vR,strip])|((first|refine wIs fun K O=>?_|refine wOs fun K O=>?_|refine wQs fun K O=>?_|refine zW ?_|refine zX ?_|refine zY ?_|refine zL ?_);simp)|(refine wIn ?_;refine And.intro (by kernel_rfl) ?_;try simp only[zZ])|refine zR ?_|refine zT ?_|((first|refine zI ?_|refine zO ?_|refine zP ?_);try simp)|((first|refine zS ?_|refine wOn ?_|refine wQn ?_);try simp only[zZ])
 refine zC (fun N st=>∃ (k:Nat)(a b:Int),k+N=l.length/\st.s 1=.p (.sl 1 (ints set))/\st.s 2=.p (.v (.func (.func h) #[] #[]))/\st.s 3=.ptr 3 0/\st.b 3=some (.box 28 [.p (I ep),.p (I n),.p (I kind),.p (.sl 4 (mbs l))])/\st.s 12=.p (.sl 4 (mbs l))/\st.s 13=.p (I l.length)/\st.s 14=.p (I k)/\st.s 8=.p (I a)/\st.s 7=.p (I b) ∧
  (0<=a/\a<=100 * k/\a+tot f yes (l.drop k)=tot f yes l)/\(0<=b/\b<=100 * k/\b+tot f (inS set) (l.drop k)=tot f (inS set) l)) l.length ⟨0,0,0,by simp⟩ fun K N st hL ⟨k,a,b,hk,h1,h2,h3,b3,h12,h13,h14,h8,h7,⟨ha0,ha1,ha⟩,⟨hb0,hb1,hbb⟩⟩=>?_
 by_cases hlt:k<l.length
 ·have hw:=yU k _ hlt (by omega)
  rw[List.drop_eq_getElem_cons hlt,tot] at ha hbb
  have hx:=hf l[k]
  obtain⟨w0,w1⟩:=hb _ (List.getElem_mem hlt)
  simp only[Mb.cells] at hx
  by_cases o4:l[k].r=1
  ·have hwa:IntKind.i64.wrap (a+f l[k])=a+f l[k]:=by rw[zF] <;> omega
   have hwb:IntKind.i64.wrap (b+f l[k])=b+f l[k]:=by rw[zF] <;> omega
   have hcall:=wO set l[k].i
   rw[o4] at hx
   simp only[o4,yes,inS,true_and,if_true] at ha hbb
   by_cases o5:l[k].i∈set
   ·rw[decide_eq_true o5] at hcall hbb
    repeat' first|((first|refine O _ ?_|refine O _ _ ?_|(clear O;refine O _ ?_));clear O)|(refine zJ fun K O=>?_)|((first|refine zH ?_|refine zN rfl (by kernel_rfl) ?_|refine zM ?_|refine zK (by kernel_rfl) ?_);simp only[vS,vR,strip])|((first|refine wIs fun K O=>?_|refine wOs fun K O=>?_|refine wQs fun K O=>?_|refine zW ?_|refine zX ?_|refine zY ?_|refine zL ?_);simp[h1,h2,h3,b3,h12,h13,h14,h8,h7,hlt,hw,o4,hwa,hwb])|(refine wIn ?_;refine And.intro (by kernel_rfl) ?_;try simp only[zZ])|refine zR ?_|refine zT ?_|((first|refine zI ?_|refine zO ?_|refine zP ?_);try simp)|((first|refine zS ?_|refine wOn ?_|refine wQn ?_);try simp only[zZ])|refine zU.p hx rfl ?_|refine zU.l hx rfl ?_|refine zQ.pure hx rfl ?_|refine zQ.lent hx rfl ?_|refine zU.o hx ?_|refine zV.p hx rfl ?_|refine zV.l hx rfl ?_|refine zV.o hx ?_|refine zU.p hcall rfl ?_|refine zU.l hcall rfl ?_|refine zQ.pure hcall rfl ?_|refine zQ.lent hcall rfl ?_|refine zU.o hcall ?_|refine zV.p hcall rfl ?_|refine zV.l hcall rfl ?_|refine zV.o hcall ?_
    refine hL _ (N-1) (by omega) ⟨k+1,a+f l[k],b+f l[k],by omega,?_⟩
    simp[h1,h2,h3,b3,h12,h13,hw,hwa,hwb]
    simp only[if_true] at hbb
    refine⟨⟨by omega,by omega,?_⟩,by omega,by omega,?_⟩
    ·rw[Int.add_assoc];exact ha
    ·rw[Int.add_assoc];exact hbb
   ·rw[decide_eq_false o5] at hcall hbb
    repeat' first|((first|refine O _ ?_|refine O _ _ ?_|(clear O;refine O _ ?_));clear O)|(refine zJ fun K O=>?_)|((first|refine zH ?_|refine zN rfl (by kernel_rfl) ?_|refine zM ?_|refine zK (by kernel_rfl) ?_);simp only[vS,vR,strip])|((first|refine wIs fun K O=>?_|refine wOs fun K O=>?_|refine wQs fun K O=>?_|refine zW ?_|refine zX ?_|refine zY ?_|refine zL ?_);simp[h1,h2,h3,b3,h12,h13,h14,h8,h7,hlt,hw,o4,hwa])|(refine wIn ?_;refine And.intro (by kernel_rfl) ?_;try simp only[zZ])|refine zR ?_|refine zT ?_|((first|refine zI ?_|refine zO ?_|refine zP ?_);try simp)|((first|refine zS ?_|refine wOn ?_|refine wQn ?_);try simp only[zZ])|refine zU.p hx rfl ?_|refine zU.l hx rfl ?_|refine zQ.pure hx rfl ?_|refine zQ.lent hx rfl ?_|refine zU.o hx ?_|refine zV.p hx rfl ?_|refine zV.l hx rfl ?_|refine zV.o hx ?_|refine zU.p hcall rfl ?_|refine zU.l hcall rfl ?_|refine zQ.pure hcall rfl ?_|refine zQ.lent hcall rfl ?_|refine zU.o hcall ?_|refine zV.p hcall rfl ?_|refine zV.l hcall rfl ?_|refine zV.o hcall ?_
    refine hL _ (N-1) (by omega) ⟨k+1,a+f l[k],b,by omega,?_⟩
    simp[h1,h2,h3,b3,h7,h12,h13,hw,hwa]
    simp at hbb
    refine⟨⟨by omega,by omega,?_⟩,by omega,by omega,?_⟩
    ·rw[Int.add_assoc];exact ha
    ·exact hbb
  ·simp only[o4,false_and,if_false,Int.zero_add] at ha hbb
   repeat' first|((first|refine O _ ?_|refine O _ _ ?_|(clear O;refine O _ ?_));clear O)|(refine zJ fun K O=>?_)|((first|refine zH ?_|refine zN rfl (by kernel_rfl) ?_|refine zM ?_|refine zK (by kernel_rfl) ?_);simp only[vS,vR,strip])|((first|refine wIs fun K O=>?_|refine wOs fun K O=>?_|refine wQs fun K O=>?_|refine zW ?_|refine zX ?_|refine zY ?_|refine zL ?_);simp[h1,h2,h3,b3,h12,h13,h14,h8,h7,hlt,hw,o4])|(refine wIn ?_;refine And.intro (by kernel_rfl) ?_;try simp only[zZ])|refine zR ?_|refine zT ?_|((first|refine zI ?_|refine zO ?_|refine zP ?_);try simp)|((first|refine zS ?_|refine wOn ?_|refine wQn ?_);try simp only[zZ])
   refine hL _ (N-1) (by omega) ⟨k+1,a,b,by omega,?_⟩
   simp[h1,h2,h3,b3,h12,h13,h7,h8,hw]
   refine⟨⟨by omega,by omega,?_⟩,by omega,by omega,?_⟩
   ·exact ha
   ·exact hbb
 ·rw[List.drop_of_length_le (by omega)] at ha hbb
  simp only[tot,Int.add_zero] at ha hbb
  subst ha hbb
  have hw2:IntKind.i64.wrap (2 * tot f (inS set) l)=2 * tot f (inS set) l:=by rw[zF] <;> omega
  repeat' first|((first|refine O _ ?_|refine O _ _ ?_|(clear O;refine O _ ?_));clear O)|(refine zJ fun K O=>?_)|((first|refine zH ?_|refine zN rfl (by kernel_rfl) ?_|refine zM ?_|refine zK (by kernel_rfl) ?_);simp only[vS,vR,strip])|((first|refine wIs fun K O=>?_|refine wOs fun K O=>?_|refine wQs fun K O=>?_|refine zW ?_|refine zX ?_|refine zY ?_|refine zL ?_);simp[h1,h2,h3,b3,h12,h13,h14,h8,h7,hlt,hw2])|(refine wIn ?_;refine And.intro (by kernel_rfl) ?_;try simp only[zZ])|refine zR ?_|refine zT ?_|((first|refine zI ?_|refine zO ?_|refine zP ?_);try simp)|((first|refine zS ?_|refine wOn ?_|refine wQn ?_);try simp only[zZ])
  apply hr
  simp[Tryz.f62]
def bx (z:List Int):List V:=z.map fun n => .p (I n)
@[simp] theorem bx_len (z:List Int):(bx z).length=z.length:=by simp[bx]
@[simp] theorem bx_get (z:List Int)(k:Nat)(h:k<(bx z).length):(bx z)[k]=.p (I (z[k]'(by simpa using h))):=by simp[bx]
@[simp] theorem bx_scr (z:List Int)(n:Nat):(bx z).map (yW n)=bx z:=by
 unfold bx;rw[List.map_map];rfl
def ixs (z:List Int):List PV:=z.map fun n=>I n
@[simp] theorem ixs_len (z:List Int):(ixs z).length=z.length:=by simp[ixs]
@[simp] theorem ixs_get (z:List Int)(k:Nat)(h:k<(ixs z).length):(ixs z)[k]=I (z[k]'(by simpa using h)):=by simp[ixs]
@[simp] theorem toPs_bx:∀z:List Int,toPs (bx z)=some (ixs z)
 |[]=>rfl
 |a::z=>by
  show (match toP (.p (I a)),toPs (bx z) with|some p,some r=>some (p::r)|_,_=>none)=_
  rw[toPs_bx z];rfl
theorem bx_take (z:List Int)(n:Nat)(h:z.length<=n):(bx z).take n=bx z:=List.take_of_length_le (by simpa using h)
theorem bx_put (z:List Int)(k:Nat)(x:Int)(h:k<z.length):(bx z).take k ++ .p (I x)::(bx z).drop (k+1)=bx (z.set k x):=by
 unfold bx
 rw[<- List.map_take,<- List.map_drop,<- vS (f:=fun n=>V.p (I n)),<- List.map_append,List.set_eq_take_append_cons_drop,if_pos h]
def inG (p:Mb->Bool)(g:Nat)(m:Mb):Bool:=decide (m.g=g) && p m
def gs (p:Mb->Bool)(l:List Mb):List Int:=(List.range 8).map fun g=>tot Mb.w (inG p g) l
@[simp] theorem gs_len (p:Mb->Bool)(l:List Mb):(gs p l).length=8:=by simp[gs]
@[simp] theorem gs_get (p:Mb->Bool)(l:List Mb)(g:Nat)(h:g<(gs p l).length):(gs p l)[g]=tot Mb.w (inG p g) l:=by simp[gs]
theorem tot_append (f:Mb->Int)(p:Mb->Bool):∀a b:List Mb,tot f p (a++b)=tot f p a+tot f p b
 |[],b=>by simp[tot]
 |m::a,b=>by simp only[List.cons_append,tot,tot_append f p a b,Int.add_assoc]
theorem tot_snoc (f:Mb->Int)(p:Mb->Bool)(l:List Mb)(k:Nat)(h:k<l.length):tot f p (l.take (k+1))=tot f p (l.take k)+(if l[k].r=1/\p l[k]=true then f l[k] else 0):=by
 rw[take_snoc _ k h,tot_append];simp[tot]
theorem yQ (f:Mb->Int)(p:Mb->Bool):∀l:List Mb,(∀m∈l,0<=f m/\f m<=100)->0<=tot f p l/\tot f p l<=100 * l.length
 |[],_=>by simp[tot]
 |m::l,h=>by
  have h1:=yQ f p l fun x hx=>h x (List.mem_cons_of_mem _ hx)
  have h2:=h m (by simp)
  simp only[tot,List.length_cons]
  split <;> omega
theorem okL_w {l:List Mb}(h:okL l):∀m∈l,0<=m.w/\m.w<=100:=fun m hm=>(h m hm).2.2.1
theorem okL_take {l:List Mb}(h:okL l)(k:Nat):okL (l.take k):=fun m hm=>h m (List.mem_of_mem_take hm)
theorem gs_snoc (p:Mb->Bool)(l:List Mb)(k:Nat)(h:k<l.length)(ho:okM l[k])(hr:l[k].r=1)(hp:p l[k]=true) :
 (gs p (l.take k)).set l[k].g.toNat (tot Mb.w (inG p l[k].g.toNat) (l.take k)+l[k].w)=gs p (l.take (k+1)):=by
 have hg:=ho.2.2.2
 apply List.ext_getElem (by simp)
 intro g h1 h2
 rw[List.getElem_set]
 simp only[gs_get,tot_snoc _ _ l k h,hr,inG,hp,Bool.and_true,decide_eq_true_eq,true_and]
 by_cases e:l[k].g.toNat=g
 ·rw[if_pos e,if_pos (by omega)];subst e;rfl
 ·rw[if_neg e,if_neg (by omega),Int.add_zero]
theorem gs_skip (p:Mb->Bool)(l:List Mb)(k:Nat)(h:k<l.length)(hp:¬ (l[k].r=1/\p l[k]=true)):gs p (l.take (k+1))=gs p (l.take k):=by
 apply List.ext_getElem (by simp)
 intro g h1 h2
 simp only[gs_get,tot_snoc _ _ l k h,inG,Bool.and_eq_true,decide_eq_true_eq]
 rw[if_neg (fun x=>hp ⟨x.1,x.2.2⟩),Int.add_zero]
def num (q:Nat->Bool):Nat->Int
 |0=>0
 |k+1=>num q k+(if q k=true then 1 else 0)
theorem num_bound (q:Nat->Bool):∀k,0<=num q k/\num q k<=k
 |0=>by simp[num]
 |k+1=>by have:=num_bound q k;simp only[num];split <;> omega
def hasG (l:List Mb)(g:Nat):Bool:=decide (0<tot Mb.w (inG yes g) l)
def wonG (set:List Int)(l:List Mb)(g:Nat):Bool:=decide (tot Mb.w (inG yes g) l<2 * tot Mb.w (inG (inS set) g) l)
set_option maxHeartbeats 4000000 in
theorem groups_con (c:Cf)(set:List Int)(hl:c.ms.length<=1000000)(ho:okL c.ms) :
 zE Tryz.prog 65 [.p (.agg c.cells),.p (.sl 1 (ints set))] (.p (B (decide (num (hasG c.ms) 8<2 * num (wonG set c.ms) 8)))):=by
 obtain⟨ep,n,kind,l⟩:=c
 simp only[Cf.cells] at hl ho ⊢
 refine zG Tryz.tab Tryz.mixed Tryz.func65 rfl rfl Tryz.ntmps65 (by simp) (by simp) fun Q hr hn=>?_
 repeat' first|((first|refine O _ ?_|refine O _ _ ?_|(clear O;refine O _ ?_));clear O)|(refine zJ fun K O=>?_)|((first|refine zH ?_|refine zN rfl (by kernel_rfl) ?_|refine zM ?_|refine zK (by kernel_rfl) ?_);simp only[vS,vR,strip])|((first|refine wIs fun K O=>?_|refine wOs fun K O=>?_|refine wQs fun K O=>?_|refine zW ?_|refine zX ?_|refine zY ?_|refine zL ?_);simp)|(refine wIn ?_;refine And.intro (by kernel_rfl) ?_;try simp only[zZ])|refine zR ?_|refine zT ?_|((first|refine zI ?_|refine zO ?_|refine zP ?_);try simp)|((first|refine zS ?_|refine wOn ?_|refine wQn ?_);try simp only[zZ])
 refine zC (fun N st=>∃ (k:Nat),k+N=l.length/\st.s 1=.p (.sl 1 (ints set))/\st.s 2=.ptr 2 0/\st.s 5=.ptr 5 0/\st.s 6=.ptr 6 0/\st.b 2=some (.box 28 [.p (I ep),.p (I n),.p (I kind),.p (.sl 4 (mbs l))])/\st.s 14=.p (.sl 4 (mbs l))/\st.s 15=.p (I l.length)/\st.s 16=.p (I k) ∧
  st.b 5=some (.box 92 (bx (gs (inS set) (l.take k))))/\st.b 6=some (.box 92 (bx (gs yes (l.take k))))) l.length ⟨0,by simp[bx,gs,List.range,List.range.loop,tot]⟩ fun K N st hL ⟨k,hk,h1,h2,h5,h6,b2,h14,h15,h16,b5,b6⟩=>?_
 by_cases hlt:k<l.length
 ·have hw:=yU k _ hlt (by omega)
  have okk:=okL_get ho k hlt
  obtain⟨w0,w1⟩:=okk.2.2.1
  obtain⟨g0,g1⟩:=okk.2.2.2
  have g2:l[k].g.toNat<8:=by omega
  have g1':l[k].g<8:=by omega
  by_cases o4:l[k].r=1
  ·have hcall:=wO set l[k].i
   have t1:=yQ Mb.w (inG yes l[k].g.toNat) (l.take k) (okL_w (okL_take ho k))
   have t2:=yQ Mb.w (inG (inS set) l[k].g.toNat) (l.take k) (okL_w (okL_take ho k))
   have hlk:(l.take k).length<=1000000:=by simp;omega
   have hwa:IntKind.i64.wrap (tot Mb.w (inG yes l[k].g.toNat) (l.take k)+l[k].w)=tot Mb.w (inG yes l[k].g.toNat) (l.take k)+l[k].w:=by rw[zF] <;> omega
   have hwb:IntKind.i64.wrap (tot Mb.w (inG (inS set) l[k].g.toNat) (l.take k)+l[k].w)=tot Mb.w (inG (inS set) l[k].g.toNat) (l.take k)+l[k].w:=by rw[zF] <;> omega
   by_cases o5:l[k].i∈set
   ·rw[decide_eq_true o5] at hcall
    repeat' first|(refine wDrwT 8 (by kernel_rfl) ?_;simp only[vS,vR,strip,List.take,List.drop])|((first|refine O _ ?_|refine O _ _ ?_|(clear O;refine O _ ?_));clear O)|(refine zJ fun K O=>?_)|((first|refine zH ?_|refine zN rfl (by kernel_rfl) ?_|refine zM ?_|refine zK (by kernel_rfl) ?_);simp only[vS,vR,strip])|((first|refine wIs fun K O=>?_|refine wOs fun K O=>?_|refine wQs fun K O=>?_|refine zW ?_|refine zX ?_|refine zY ?_|refine zL ?_);simp[h1,h2,h5,h6,b2,h14,h15,h16,b5,b6,hlt,hw,o4,g0,g1,g1',g2,hwa,hwb,PV.one])|(refine wIn ?_;refine And.intro (by kernel_rfl) ?_;try simp only[zZ])|refine zR ?_|refine zT ?_|((first|refine zI ?_|refine zO ?_|refine zP ?_);try simp)|((first|refine zS ?_|refine wOn ?_|refine wQn ?_);try simp only[zZ])|refine zU.p hcall rfl ?_|refine zU.l hcall rfl ?_|refine zQ.pure hcall rfl ?_|refine zQ.lent hcall rfl ?_|refine zU.o hcall ?_|refine zV.p hcall rfl ?_|refine zV.l hcall rfl ?_|refine zV.o hcall ?_
    refine hL _ (N-1) (by omega) ⟨k+1,by omega,?_⟩
    simp[h1,h2,h5,h6,b2,h14,h15,hw]
    rw[bx_put _ _ _ (by simpa using g2),bx_put _ _ _ (by simpa using g2),gs_snoc yes l k hlt okk o4 rfl,gs_snoc (inS set) l k hlt okk o4 (by simp[inS,o5])]
    exact⟨rfl,rfl⟩
   ·rw[decide_eq_false o5] at hcall
    repeat' first|(refine wDrwT 8 (by kernel_rfl) ?_;simp only[vS,vR,strip,List.take,List.drop])|((first|refine O _ ?_|refine O _ _ ?_|(clear O;refine O _ ?_));clear O)|(refine zJ fun K O=>?_)|((first|refine zH ?_|refine zN rfl (by kernel_rfl) ?_|refine zM ?_|refine zK (by kernel_rfl) ?_);simp only[vS,vR,strip])|((first|refine wIs fun K O=>?_|refine wOs fun K O=>?_|refine wQs fun K O=>?_|refine zW ?_|refine zX ?_|refine zY ?_|refine zL ?_);simp[h1,h2,h5,h6,b2,h14,h15,h16,b5,b6,hlt,hw,o4,g0,g1,g1',g2,hwa,hwb,PV.one])|(refine wIn ?_;refine And.intro (by kernel_rfl) ?_;try simp only[zZ])|refine zR ?_|refine zT ?_|((first|refine zI ?_|refine zO ?_|refine zP ?_);try simp)|((first|refine zS ?_|refine wOn ?_|refine wQn ?_);try simp only[zZ])|refine zU.p hcall rfl ?_|refine zU.l hcall rfl ?_|refine zQ.pure hcall rfl ?_|refine zQ.lent hcall rfl ?_|refine zU.o hcall ?_|refine zV.p hcall rfl ?_|refine zV.l hcall rfl ?_|refine zV.o hcall ?_
    refine hL _ (N-1) (by omega) ⟨k+1,by omega,?_⟩
    simp[h1,h2,h5,h6,b2,b5,h14,h15,hw]
    rw[bx_put _ _ _ (by simpa using g2),gs_snoc yes l k hlt okk o4 rfl,gs_skip (inS set) l k hlt (by simp[inS,o5])]
    exact⟨rfl,rfl⟩
  ·repeat' first|(refine O _ ?_;clear O)|(refine O _ _ ?_;clear O)|(clear O;refine O _ ?_;clear O)|(clear O;clear O;refine O _ ?_;clear O)|(clear O;clear O;clear O;refine O _ ?_;clear O)|(clear O;clear O;clear O;clear O;refine O _ ?_;clear O)|(refine zJ fun K O=>?_)|((first|refine zH ?_|refine zN rfl (by kernel_rfl) ?_|refine zM ?_|refine zK (by kernel_rfl) ?_);simp only[vS,vR,strip])|((first|refine wIs fun K O=>?_|refine wOs fun K O=>?_|refine wQs fun K O=>?_|refine zW ?_|refine zX ?_|refine zY ?_|refine zL ?_);simp[h1,h2,h5,h6,b2,h14,h15,h16,b5,b6,hlt,hw,o4])|(refine wIn ?_;refine And.intro (by kernel_rfl) ?_;try simp only[zZ])|(first|refine zR ?_|refine zT ?_)|((first|refine zI ?_|refine zO ?_|refine zP ?_);try simp)|((first|refine zS ?_|refine wOn ?_|refine wQn ?_);try simp only[zZ])
   refine hL _ (N-1) (by omega) ⟨k+1,by omega,?_⟩
   simp[h1,h2,h5,h6,b2,b5,b6,h14,h15,hw]
   rw[gs_skip (inS set) l k hlt (fun x=>o4 x.1),gs_skip yes l k hlt (fun x=>o4 x.1)]
   exact⟨rfl,rfl⟩
 ·rw[List.take_of_length_le (by omega)] at b5 b6
  have hlong:8<=(bx (gs yes l)).length:=by simp
  have htk:(bx (gs yes l)).take 8=bx (gs yes l):=bx_take _ _ (by simp)
  repeat' first|((first|refine O _ ?_|refine O _ _ ?_|(clear O;refine O _ ?_));clear O)|(refine zJ fun K O=>?_)|((first|refine zH ?_|refine zN rfl (by kernel_rfl) ?_|refine zM ?_|refine zK (by kernel_rfl) ?_);simp only[vS,vR,strip])|((first|refine wIs fun K O=>?_|refine wOs fun K O=>?_|refine wQs fun K O=>?_|refine zW ?_|refine zX ?_|refine zY ?_|refine zL ?_);simp[h1,h2,h5,h6,b2,h14,h15,h16,b5,b6,hlt,htk])|(refine wIn ?_;refine And.intro (by kernel_rfl) ?_;try simp only[zZ])|refine zR ?_|refine zT ?_|((first|refine zI ?_|refine zO ?_|refine zP ?_);try simp)|((first|refine zS ?_|refine wOn ?_|refine wQn ?_);try simp only[zZ])
  refine zC (fun N st=>∃ (k:Nat),k+N=8/\st.s 5=.ptr 5 0/\st.b 5=some (.box 92 (bx (gs (inS set) l)))/\st.s 44=.p (.agg (ixs (gs yes l)))/\st.s 45=.p (I k)/\st.s 9=.p (I (num (wonG set l) k))/\st.s 10=.p (I (num (hasG l) k))) 8 ⟨0,by simp[h5,b5,num]⟩ fun K' N' st' hL' ⟨j,hj,g5,c5,g44,g45,g9,g10⟩=>?_
  have nb1:=num_bound (wonG set l) j
  have nb2:=num_bound (hasG l) j
  by_cases hjl:j<8
  ·have hw:=yU j 8 hjl (by omega)
   have hjI:(j:Int)<8:=by omega
   have hwa:IntKind.i64.wrap (num (wonG set l) j+1)=num (wonG set l) j+1:=by rw[zF] <;> omega
   have hwb:IntKind.i64.wrap (num (hasG l) j+1)=num (hasG l) j+1:=by rw[zF] <;> omega
   have t1:=yQ Mb.w (inG yes j) l (okL_w ho)
   have t2:=yQ Mb.w (inG (inS set) j) l (okL_w ho)
   have hwc:IntKind.i64.wrap (2 * tot Mb.w (inG (inS set) j) l)=2 * tot Mb.w (inG (inS set) j) l:=by rw[zF] <;> omega
   by_cases q1:0<tot Mb.w (inG yes j) l
   ·by_cases q2:tot Mb.w (inG yes j) l<2 * tot Mb.w (inG (inS set) j) l
    ·repeat' first|(refine O _ ?_;clear O)|(refine O _ _ ?_;clear O)|(clear O;refine O _ ?_;clear O)|(clear O;clear O;refine O _ ?_;clear O)|(clear O;clear O;clear O;refine O _ ?_;clear O)|(clear O;clear O;clear O;clear O;refine O _ ?_;clear O)|(refine zJ fun K O=>?_)|((first|refine zH ?_|refine zN rfl (by kernel_rfl) ?_|refine zM ?_|refine zK (by kernel_rfl) ?_);simp only[vS,vR,strip])|((first|refine wIs fun K O=>?_|refine wOs fun K O=>?_|refine wQs fun K O=>?_|refine zW ?_|refine zX ?_|refine zY ?_|refine zL ?_);simp[g5,c5,g44,g45,g9,g10,hjl,hjI,hw,hwa,hwb,hwc,q1,q2,PV.one])|(refine wIn ?_;refine And.intro (by kernel_rfl) ?_;try simp only[zZ])|(first|refine zR ?_|refine zT ?_)|((first|refine zI ?_|refine zO ?_|refine zP ?_);try simp)|((first|refine zS ?_|refine wOn ?_|refine wQn ?_);try simp only[zZ])
     refine hL' _ (N'-1) (by omega) ⟨j+1,by omega,?_⟩
     simp[g5,c5,g44,hw,g9,g10,hwa,hwb]
     simp[num,hasG,wonG,q1,q2]
    ·repeat' first|(refine O _ ?_;clear O)|(refine O _ _ ?_;clear O)|(clear O;refine O _ ?_;clear O)|(clear O;clear O;refine O _ ?_;clear O)|(clear O;clear O;clear O;refine O _ ?_;clear O)|(clear O;clear O;clear O;clear O;refine O _ ?_;clear O)|(refine zJ fun K O=>?_)|((first|refine zH ?_|refine zN rfl (by kernel_rfl) ?_|refine zM ?_|refine zK (by kernel_rfl) ?_);simp only[vS,vR,strip])|((first|refine wIs fun K O=>?_|refine wOs fun K O=>?_|refine wQs fun K O=>?_|refine zW ?_|refine zX ?_|refine zY ?_|refine zL ?_);simp[g5,c5,g44,g45,g9,g10,hjl,hjI,hw,hwa,hwb,hwc,q1,q2,PV.one])|(refine wIn ?_;refine And.intro (by kernel_rfl) ?_;try simp only[zZ])|(first|refine zR ?_|refine zT ?_)|((first|refine zI ?_|refine zO ?_|refine zP ?_);try simp)|((first|refine zS ?_|refine wOn ?_|refine wQn ?_);try simp only[zZ])
     refine hL' _ (N'-1) (by omega) ⟨j+1,by omega,?_⟩
     simp[g5,c5,g44,hw,g9,g10,hwa,hwb]
     simp[num,hasG,wonG,q1,q2]
   ·by_cases q2:tot Mb.w (inG yes j) l<2 * tot Mb.w (inG (inS set) j) l
    ·repeat' first|(refine O _ ?_;clear O)|(refine O _ _ ?_;clear O)|(clear O;refine O _ ?_;clear O)|(clear O;clear O;refine O _ ?_;clear O)|(clear O;clear O;clear O;refine O _ ?_;clear O)|(clear O;clear O;clear O;clear O;refine O _ ?_;clear O)|(refine zJ fun K O=>?_)|((first|refine zH ?_|refine zN rfl (by kernel_rfl) ?_|refine zM ?_|refine zK (by kernel_rfl) ?_);simp only[vS,vR,strip])|((first|refine wIs fun K O=>?_|refine wOs fun K O=>?_|refine wQs fun K O=>?_|refine zW ?_|refine zX ?_|refine zY ?_|refine zL ?_);simp[g5,c5,g44,g45,g9,g10,hjl,hjI,hw,hwa,hwb,hwc,q1,q2,PV.one])|(refine wIn ?_;refine And.intro (by kernel_rfl) ?_;try simp only[zZ])|(first|refine zR ?_|refine zT ?_)|((first|refine zI ?_|refine zO ?_|refine zP ?_);try simp)|((first|refine zS ?_|refine wOn ?_|refine wQn ?_);try simp only[zZ])
     refine hL' _ (N'-1) (by omega) ⟨j+1,by omega,?_⟩
     simp[g5,c5,g44,hw,g9,g10,hwa,hwb]
     simp[num,hasG,wonG,q1,q2]
    ·repeat' first|(refine O _ ?_;clear O)|(refine O _ _ ?_;clear O)|(clear O;refine O _ ?_;clear O)|(clear O;clear O;refine O _ ?_;clear O)|(clear O;clear O;clear O;refine O _ ?_;clear O)|(clear O;clear O;clear O;clear O;refine O _ ?_;clear O)|(refine zJ fun K O=>?_)|((first|refine zH ?_|refine zN rfl (by kernel_rfl) ?_|refine zM ?_|refine zK (by kernel_rfl) ?_);simp only[vS,vR,strip])|((first|refine wIs fun K O=>?_|refine wOs fun K O=>?_|refine wQs fun K O=>?_|refine zW ?_|refine zX ?_|refine zY ?_|refine zL ?_);simp[g5,c5,g44,g45,g9,g10,hjl,hjI,hw,hwa,hwb,hwc,q1,q2,PV.one])|(refine wIn ?_;refine And.intro (by kernel_rfl) ?_;try simp only[zZ])|(first|refine zR ?_|refine zT ?_)|((first|refine zI ?_|refine zO ?_|refine zP ?_);try simp)|((first|refine zS ?_|refine wOn ?_|refine wQn ?_);try simp only[zZ])
     refine hL' _ (N'-1) (by omega) ⟨j+1,by omega,?_⟩
     simp[g5,c5,g44,hw,g9,g10,hwa,hwb]
     simp[num,hasG,wonG,q1,q2]
  ·obtain rfl:j=8:=by omega
   simp at g45
   have hwc:IntKind.i64.wrap (2 * num (wonG set l) 8)=2 * num (wonG set l) 8:=by rw[zF] <;> omega
   repeat' first|((first|refine O _ ?_|refine O _ _ ?_|(clear O;refine O _ ?_));clear O)|(refine zJ fun K O=>?_)|((first|refine zH ?_|refine zN rfl (by kernel_rfl) ?_|refine zM ?_|refine zK (by kernel_rfl) ?_);simp only[vS,vR,strip])|((first|refine wIs fun K O=>?_|refine wOs fun K O=>?_|refine wQs fun K O=>?_|refine zW ?_|refine zX ?_|refine zY ?_|refine zL ?_);simp[g5,c5,g44,g45,g9,g10,hwc])|(refine wIn ?_;refine And.intro (by kernel_rfl) ?_;try simp only[zZ])|refine zR ?_|refine zT ?_|((first|refine zI ?_|refine zO ?_|refine zP ?_);try simp)|((first|refine zS ?_|refine wOn ?_|refine wQn ?_);try simp only[zZ])
   apply hr
   simp[Tryz.f65]
end Go.Proofs.YtpihbhacmokekaaGreatDoor
