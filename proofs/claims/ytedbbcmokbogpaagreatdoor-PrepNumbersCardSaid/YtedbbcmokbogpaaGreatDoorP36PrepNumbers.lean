/- Texts that the proof needs: PR1 PR2. -/
import Derived.Test.YtedbbcmokbogpaaGreatDoorP32PrepNumbers
import Derived.Test.YtedbbcmokbogpaaGreatDoorP34PrepNumbers
import Derived.Test.YtedbbcmokbogpaaGreatDoorP35PrepNumbers
namespace Go.Proofs.YtedbbcmokbogpaaGreatDoor
set_option linter.unusedSimpArgs false
set_option linter.unusedVariables false
set_option maxRecDepth 8000
open Go Go.Av
attribute [local irreducible] Go.Av.yP Go.Av.zU Go.Av.yN Go.Av.zT Go.Av.yO Go.Av.zV Go.Av.Con
def cf0:Cf:=⟨0,0,0,[]⟩
def ptZ:Pt:=⟨0,zz,0,cf0⟩
def putPt (z:Zn):Pt:=⟨1,z,0,cf0⟩
def gonPt (p:List UInt8):Pt:=⟨2,⟨p,[],0,0,0⟩,0,cf0⟩
def okN (ns:List Zn):Prop:=∀z∈ns,0<=z.k/\0<=z.v/\long z
theorem zz_ok:0<=zz.k/\0<=zz.v/\long zz:=⟨by decide,by decide,by decide,by decide⟩
theorem fnd_okN {ns:List Zn}(h:okN ns)(p:List UInt8):0<=(fnd ns p).1.k/\0<=(fnd ns p).1.v/\long (fnd ns p).1:=by
 cases hb:(fnd ns p).2 with
 |true=>exact h _ (fnd_mem hb).1
 |false=>rw[fnd_false hb];exact zz_ok
def turnE (z:Zn):Int:=if 1099511627776<=z.k then 5 else 0
def turnP (z:Zn):Pt:=if 1099511627776<=z.k then ptZ else putPt { z with k:=z.k+1 }
theorem turned_con (z:Zn)(hk:0<=z.k):zD Tryz.prog 61 [.p (.agg z.c)] (.tup [.p (.agg (turnP z).cells),.p (I (turnE z))]):=by
 obtain⟨zp,zd,zv,zk,zo⟩:=z
 unfold turnP turnE
 dsimp only at hk ⊢
 by_cases h:1099511627776<=zk
 ·rw[if_pos h,if_pos h]
  unfold ptZ zz cf0 Zn.c Pt.cells
  dsimp only
  refine zG Tryz.tab Tryz.mixed Tryz.func61 rfl rfl Tryz.ntmps61 (by simp) (by simp) fun Q hr hn=>?_
  repeat' first|((first|refine O _ ?_|refine O _ _ ?_|(clear O;refine O _ ?_));clear O)|(refine zJ fun K O=>?_)|((first|refine zH ?_|refine zN rfl (by kernel_rfl) ?_|refine zM ?_|refine zK (by kernel_rfl) ?_);simp only[vZ,vY,strip])|((first|refine wIs fun K O=>?_|refine wOs fun K O=>?_|refine wQs fun K O=>?_|refine zW ?_|refine zX ?_|refine zY ?_|refine zL ?_);simp[h])|(refine wIn ?_;refine And.intro (by kernel_rfl) ?_;try simp only[zZ])|refine zQ ?_|refine zS ?_|((first|refine zI ?_|refine zO ?_|refine zP ?_);try simp)|((first|refine zR ?_|refine wOn ?_|refine wQn ?_);try simp only[zZ])
  all_goals apply hr
  all_goals simp[Tryz.f61,mbs,show ByteArray.empty=bs [] from rfl]
 ·rw[if_neg h,if_neg h]
  have hw:IntKind.i64.wrap (zk+1)=zk+1:=by rw[zF] <;> omega
  unfold putPt cf0 Zn.c Pt.cells
  dsimp only
  refine zG Tryz.tab Tryz.mixed Tryz.func61 rfl rfl Tryz.ntmps61 (by simp) (by simp) fun Q hr hn=>?_
  repeat' first|((first|refine O _ ?_|refine O _ _ ?_|(clear O;refine O _ ?_));clear O)|(refine zJ fun K O=>?_)|((first|refine zH ?_|refine zN rfl (by kernel_rfl) ?_|refine zM ?_|refine zK (by kernel_rfl) ?_);simp only[vZ,vY,strip])|((first|refine wIs fun K O=>?_|refine wOs fun K O=>?_|refine wQs fun K O=>?_|refine zW ?_|refine zX ?_|refine zY ?_|refine zL ?_);simp[h,hw])|(refine wIn ?_;refine And.intro (by kernel_rfl) ?_;try simp only[zZ])|refine zQ ?_|refine zS ?_|((first|refine zI ?_|refine zO ?_|refine zP ?_);try simp)|((first|refine zR ?_|refine wOn ?_|refine wQn ?_);try simp only[zZ])
  all_goals apply hr
  all_goals simp[Tryz.f61,mbs,hw,show ByteArray.empty=bs [] from rfl]
theorem par_con (l:List UInt8)(hl:l.length<=9223372036854775807):zD Tryz.prog 55 [.p (SB l)] (.tup [.p (SB (par l).1),.p (B (par l).2)]):=by
 have c:=parent_con l hl
 rw[parV_par] at c
 exact c
def wU (ns:List Zn)(p:List UInt8):List Pt × Int:=if turnE (fnd ns (par p).1).1=0 then ([gonPt p,turnP (fnd ns (par p).1).1],0) else ([],turnE (fnd ns (par p).1).1)
theorem goneP_con (s:Sv)(p:List UInt8)(hp:p.length<=9223372036854775807)(hn:okN s.ns):zD Tryz.prog 50 [.p (.agg s.cells),.p (SB p)] (.tup [.p (.sl 11 (pts (wU s.ns p).1)),.p (I (wU s.ns p).2)]):=by
 have c1:=par_con p hp
 have c2:=find_con s.ns (par p).1
 have c3:=turned_con (fnd s.ns (par p).1).1 (fnd_okN hn _).1
 unfold wU
 generalize par p=q at *
 generalize fnd s.ns q.1=r at *
 obtain⟨⟨zp,zd,zv,zk,zo⟩,b⟩:=r
 by_cases h:turnE ⟨zp,zd,zv,zk,zo⟩=0
 ·rw[if_pos h]
  rw[h] at c3
  generalize turnP ⟨zp,zd,zv,zk,zo⟩=t at *
  obtain⟨tk,⟨tp,td,tv,tk2,to⟩,ts,⟨te,tn,tkd,tms⟩⟩:=t
  unfold pts gonPt cf0
  simp only[vZ,vY]
  unfold Zn.c Pt.cells Sv.cells at *
  dsimp only at *
  refine zG Tryz.tab Tryz.mixed Tryz.func50 rfl rfl Tryz.ntmps50 (by simp) (by simp) fun Q hr hn=>?_
  repeat' first|((first|refine O _ ?_|refine O _ _ ?_|(clear O;refine O _ ?_));clear O)|(refine zJ fun K O=>?_)|((first|refine zH ?_|refine zN rfl (by kernel_rfl) ?_|refine zM ?_|refine zK (by kernel_rfl) ?_);simp only[vZ,vY,strip])|((first|refine wIs fun K O=>?_|refine wOs fun K O=>?_|refine wQs fun K O=>?_|refine zW ?_|refine zX ?_|refine zY ?_|refine zL ?_);simp)|(refine wIn ?_;refine And.intro (by kernel_rfl) ?_;try simp only[zZ])|refine zQ ?_|refine zS ?_|((first|refine zI ?_|refine zO ?_|refine zP ?_);try simp)|((first|refine zR ?_|refine wOn ?_|refine wQn ?_);try simp only[zZ])|refine zU.p c1 rfl ?_|refine zU.l c1 rfl ?_|refine zT.p c1 rfl ?_|refine zT.l c1 rfl ?_|refine zU.o c1 ?_|refine zV.p c1 rfl ?_|refine zV.l c1 rfl ?_|refine zV.o c1 ?_|refine zU.p c2 rfl ?_|refine zU.l c2 rfl ?_|refine zT.p c2 rfl ?_|refine zT.l c2 rfl ?_|refine zU.o c2 ?_|refine zV.p c2 rfl ?_|refine zV.l c2 rfl ?_|refine zV.o c2 ?_|refine zU.p c3 rfl ?_|refine zU.l c3 rfl ?_|refine zT.p c3 rfl ?_|refine zT.l c3 rfl ?_|refine zU.o c3 ?_|refine zV.p c3 rfl ?_|refine zV.l c3 rfl ?_|refine zV.o c3 ?_
  all_goals apply hr
  all_goals simp[Tryz.f50,mbs,show ByteArray.empty=bs [] from rfl]
 ·rw[if_neg h]
  generalize turnE ⟨zp,zd,zv,zk,zo⟩=e at *
  generalize turnP ⟨zp,zd,zv,zk,zo⟩=t at *
  have h':(e=0)=False:=eq_false h
  unfold pts
  simp only[vY]
  unfold Zn.c Pt.cells Sv.cells at *
  dsimp only at *
  refine zG Tryz.tab Tryz.mixed Tryz.func50 rfl rfl Tryz.ntmps50 (by simp) (by simp) fun Q hr hn=>?_
  repeat' first|((first|refine O _ ?_|refine O _ _ ?_|(clear O;refine O _ ?_));clear O)|(refine zJ fun K O=>?_)|((first|refine zH ?_|refine zN rfl (by kernel_rfl) ?_|refine zM ?_|refine zK (by kernel_rfl) ?_);simp only[vZ,vY,strip])|((first|refine wIs fun K O=>?_|refine wOs fun K O=>?_|refine wQs fun K O=>?_|refine zW ?_|refine zX ?_|refine zY ?_|refine zL ?_);simp[h'])|(refine wIn ?_;refine And.intro (by kernel_rfl) ?_;try simp only[zZ])|refine zQ ?_|refine zS ?_|((first|refine zI ?_|refine zO ?_|refine zP ?_);try simp)|((first|refine zR ?_|refine wOn ?_|refine wQn ?_);try simp only[zZ])|refine zU.p c1 rfl ?_|refine zU.l c1 rfl ?_|refine zT.p c1 rfl ?_|refine zT.l c1 rfl ?_|refine zU.o c1 ?_|refine zV.p c1 rfl ?_|refine zV.l c1 rfl ?_|refine zV.o c1 ?_|refine zU.p c2 rfl ?_|refine zU.l c2 rfl ?_|refine zT.p c2 rfl ?_|refine zT.l c2 rfl ?_|refine zU.o c2 ?_|refine zV.p c2 rfl ?_|refine zV.l c2 rfl ?_|refine zV.o c2 ?_|refine zU.p c3 rfl ?_|refine zU.l c3 rfl ?_|refine zT.p c3 rfl ?_|refine zT.l c3 rfl ?_|refine zU.o c3 ?_|refine zV.p c3 rfl ?_|refine zV.l c3 rfl ?_|refine zV.o c3 ?_
  all_goals apply hr
  all_goals simp[Tryz.f50]
def remL (ns:List Zn)(p:List UInt8):List Pt × Int:=if (par p).2=true then (if kds ns p=[] then wU ns p else ([],11)) else ([],1)
theorem remove_con (s:Sv)(z:Zn)(hl:s.ns.length<=1000000)(hp:z.p.length<=9223372036854775807)(hn:okN s.ns):zD Tryz.prog 71 [.p (.agg s.cells),.p (.agg z.c)] (.tup [.p (.sl 11 (pts (remL s.ns z.p).1)),.p (I (remL s.ns z.p).2)]):=by
 have c1:=par_con z.p hp
 have c2:=kids_con s.ns z.p hl fun z hz=>(hn z hz).2.2
 have c3:=goneP_con s z.p hp hn
 have hk:=kds_len s.ns z.p s.ns.length
 rw[List.take_length] at hk
 unfold remL
 obtain⟨zp,zd,zv,zk,zo⟩:=z
 dsimp only at *
 generalize hq:par zp=q at *
 clear hq
 obtain⟨qa,qb⟩:=q
 cases qb with
 |false =>
  rw[if_neg (by simp)]
  unfold pts
  simp only[vY]
  unfold Zn.c Sv.cells at *
  dsimp only at *
  refine zG Tryz.tab Tryz.mixed Tryz.func71 rfl rfl Tryz.ntmps71 (by simp) (by simp) fun Q hr hn=>?_
  repeat' first|((first|refine O _ ?_|refine O _ _ ?_|(clear O;refine O _ ?_));clear O)|(refine zJ fun K O=>?_)|((first|refine zH ?_|refine zN rfl (by kernel_rfl) ?_|refine zM ?_|refine zK (by kernel_rfl) ?_);simp only[vZ,vY,strip])|((first|refine wIs fun K O=>?_|refine wOs fun K O=>?_|refine wQs fun K O=>?_|refine zW ?_|refine zX ?_|refine zY ?_|refine zL ?_);simp)|(refine wIn ?_;refine And.intro (by kernel_rfl) ?_;try simp only[zZ])|refine zQ ?_|refine zS ?_|((first|refine zI ?_|refine zO ?_|refine zP ?_);try simp)|((first|refine zR ?_|refine wOn ?_|refine wQn ?_);try simp only[zZ])|refine zU.p c1 rfl ?_|refine zU.l c1 rfl ?_|refine zT.p c1 rfl ?_|refine zT.l c1 rfl ?_|refine zU.o c1 ?_|refine zV.p c1 rfl ?_|refine zV.l c1 rfl ?_|refine zV.o c1 ?_
  all_goals apply hr
  all_goals simp[Tryz.f71]
 |true =>
  rw[if_pos rfl]
  by_cases h:kds s.ns zp=[]
  ·rw[if_pos h]
   rw[h] at c2
   generalize wU s.ns zp=r at *
   obtain⟨rl,re⟩:=r
   unfold txs at c2
   simp only[vY] at c2
   unfold Zn.c Sv.cells at *
   dsimp only at *
   refine zG Tryz.tab Tryz.mixed Tryz.func71 rfl rfl Tryz.ntmps71 (by simp) (by simp) fun Q hr hn=>?_
   repeat' first|((first|refine O _ ?_|refine O _ _ ?_|(clear O;refine O _ ?_));clear O)|(refine zJ fun K O=>?_)|((first|refine zH ?_|refine zN rfl (by kernel_rfl) ?_|refine zM ?_|refine zK (by kernel_rfl) ?_);simp only[vZ,vY,strip])|((first|refine wIs fun K O=>?_|refine wOs fun K O=>?_|refine wQs fun K O=>?_|refine zW ?_|refine zX ?_|refine zY ?_|refine zL ?_);simp)|(refine wIn ?_;refine And.intro (by kernel_rfl) ?_;try simp only[zZ])|refine zQ ?_|refine zS ?_|((first|refine zI ?_|refine zO ?_|refine zP ?_);try simp)|((first|refine zR ?_|refine wOn ?_|refine wQn ?_);try simp only[zZ])|refine zU.p c1 rfl ?_|refine zU.l c1 rfl ?_|refine zT.p c1 rfl ?_|refine zT.l c1 rfl ?_|refine zU.o c1 ?_|refine zV.p c1 rfl ?_|refine zV.l c1 rfl ?_|refine zV.o c1 ?_|refine zU.p c2 rfl ?_|refine zU.l c2 rfl ?_|refine zT.p c2 rfl ?_|refine zT.l c2 rfl ?_|refine zU.o c2 ?_|refine zV.p c2 rfl ?_|refine zV.l c2 rfl ?_|refine zV.o c2 ?_|refine zU.p c3 rfl ?_|refine zU.l c3 rfl ?_|refine zT.p c3 rfl ?_|refine zT.l c3 rfl ?_|refine zU.o c3 ?_|refine zV.p c3 rfl ?_|refine zV.l c3 rfl ?_|refine zV.o c3 ?_
   all_goals apply hr
   all_goals simp[Tryz.f71]
  ·rw[if_neg h]
   have hl0:0<(kds s.ns zp).length:=List.length_pos_iff.2 h
   have hl1:(0:Int)<(kds s.ns zp).length:=by omega
   generalize kds s.ns zp=ks at *
   unfold pts
   simp only[vY]
   unfold Zn.c Sv.cells at *
   dsimp only at *
   refine zG Tryz.tab Tryz.mixed Tryz.func71 rfl rfl Tryz.ntmps71 (by simp) (by simp) fun Q hr hn=>?_
   repeat' first|((first|refine O _ ?_|refine O _ _ ?_|(clear O;refine O _ ?_));clear O)|(refine zJ fun K O=>?_)|((first|refine zH ?_|refine zN rfl (by kernel_rfl) ?_|refine zM ?_|refine zK (by kernel_rfl) ?_);simp only[vZ,vY,strip])|((first|refine wIs fun K O=>?_|refine wOs fun K O=>?_|refine wQs fun K O=>?_|refine zW ?_|refine zX ?_|refine zY ?_|refine zL ?_);simp[hl0,hl1])|(refine wIn ?_;refine And.intro (by kernel_rfl) ?_;try simp only[zZ])|refine zQ ?_|refine zS ?_|((first|refine zI ?_|refine zO ?_|refine zP ?_);try simp)|((first|refine zR ?_|refine wOn ?_|refine wQn ?_);try simp only[zZ])|refine zU.p c1 rfl ?_|refine zU.l c1 rfl ?_|refine zT.p c1 rfl ?_|refine zT.l c1 rfl ?_|refine zU.o c1 ?_|refine zV.p c1 rfl ?_|refine zV.l c1 rfl ?_|refine zV.o c1 ?_|refine zU.p c2 rfl ?_|refine zU.l c2 rfl ?_|refine zT.p c2 rfl ?_|refine zT.l c2 rfl ?_|refine zU.o c2 ?_|refine zV.p c2 rfl ?_|refine zV.l c2 rfl ?_|refine zV.o c2 ?_
   all_goals apply hr
   all_goals simp[Tryz.f71]
structure Oq where
 (k:Int)
 (pa da:List UInt8)
 (v:Int)
 (ow sq:Bool)
def Oq.cells (o:Oq):List PV:=[I o.k,SB o.pa,SB o.da,I o.v,B o.ow,B o.sq]
def oqs (l:List Oq):List (List PV):=l.map Oq.cells
@[simp] theorem oqs_len (l:List Oq):(oqs l).length=l.length:=by simp[oqs]
theorem oqs_get {l:List Oq}{k:Nat}(h:k<l.length):(oqs l)[k]?=some [I l[k].k,SB l[k].pa,SB l[k].da,I l[k].v,B l[k].ow,B l[k].sq]:=by simp[oqs,h,Oq.cells]
def tchL (ns:List Zn)(o:Oq):List Pt × Int :=
 if (getZ ns o.pa).2=0 then
  (if ¬ o.v = -1/\¬ o.v=(getZ ns o.pa).1.v then ([],10) else if o.k=2 then remL ns (getZ ns o.pa).1.p else if o.k=4 then ([],0)
   else if 1099511627776<=(getZ ns o.pa).1.v then ([],5) else ([putPt { (getZ ns o.pa).1 with d:=o.da,v:=(getZ ns o.pa).1.v+1 }],0))
 else ([],(getZ ns o.pa).2)
theorem getZ_okN {ns:List Zn}(h:okN ns)(p:List UInt8):0<=(getZ ns p).1.k/\0<=(getZ ns p).1.v/\long (getZ ns p).1:=by
 unfold getZ
 split
 ·split
  ·exact fnd_okN h p
  ·exact zz_ok
 ·exact zz_ok
set_option maxHeartbeats 2000000 in
theorem touch_con (s:Sv)(o:Oq)(hl:s.ns.length<=1000000)(hp:o.pa.length<=9223372036854775807)(hn:okN s.ns):zD Tryz.prog 58 [.p (.agg s.cells),.p (.agg o.cells)] (.tup [.p (.sl 11 (pts (tchL s.ns o).1)),.p (I (tchL s.ns o).2)]):=by
 have c1:=get_con s.ns (ints s.ss) (mbs s.c.ms) s.nx s.c.ep s.c.n s.c.kind s.ae s.an o.pa hp
 have c2:=remove_con s (getZ s.ns o.pa).1 hl (getZ_okN hn _).2.2.1 hn
 have hv:=(getZ_okN hn o.pa).2.1
 unfold tchL
 generalize getZ s.ns o.pa=g at *
 obtain⟨⟨zp,zd,zv,zk,zo⟩,e⟩:=g
 obtain⟨ok,opa,oda,ov,oow,osq⟩:=o
 dsimp only at *
 by_cases he:e=0
 case neg =>
  rw[if_neg he]
  have he':(e=0)=False:=eq_false he
  unfold pts
  simp only[vY]
  unfold Zn.c Oq.cells Sv.cells at *
  dsimp only at *
  refine zG Tryz.tab Tryz.mixed Tryz.func58 rfl rfl Tryz.ntmps58 (by simp) (by simp) fun Q hr hn=>?_
  repeat' first|((first|refine O _ ?_|refine O _ _ ?_|(clear O;refine O _ ?_));clear O)|(refine zJ fun K O=>?_)|((first|refine zH ?_|refine zN rfl (by kernel_rfl) ?_|refine zM ?_|refine zK (by kernel_rfl) ?_);simp only[vZ,vY,strip])|((first|refine wIs fun K O=>?_|refine wOs fun K O=>?_|refine wQs fun K O=>?_|refine zW ?_|refine zX ?_|refine zY ?_|refine zL ?_);simp[he'])|(refine wIn ?_;refine And.intro (by kernel_rfl) ?_;try simp only[zZ])|refine zQ ?_|refine zS ?_|((first|refine zI ?_|refine zO ?_|refine zP ?_);try simp)|((first|refine zR ?_|refine wOn ?_|refine wQn ?_);try simp only[zZ])|refine zU.p c1 rfl ?_|refine zU.l c1 rfl ?_|refine zT.p c1 rfl ?_|refine zT.l c1 rfl ?_|refine zU.o c1 ?_|refine zV.p c1 rfl ?_|refine zV.l c1 rfl ?_|refine zV.o c1 ?_
  all_goals apply hr
  all_goals simp[Tryz.f58]
 subst he
 rw[if_pos rfl]
 by_cases h10:¬ ov = -1/\¬ ov=zv
 ·rw[if_pos h10]
  have ha:(ov = -1)=False:=eq_false h10.1
  have hb:(ov=zv)=False:=eq_false h10.2
  unfold pts
  simp only[vY]
  unfold Zn.c Oq.cells Sv.cells at *
  dsimp only at *
  refine zG Tryz.tab Tryz.mixed Tryz.func58 rfl rfl Tryz.ntmps58 (by simp) (by simp) fun Q hr hn=>?_
  repeat' first|((first|refine O _ ?_|refine O _ _ ?_|(clear O;refine O _ ?_));clear O)|(refine zJ fun K O=>?_)|((first|refine zH ?_|refine zN rfl (by kernel_rfl) ?_|refine zM ?_|refine zK (by kernel_rfl) ?_);simp only[vZ,vY,strip])|((first|refine wIs fun K O=>?_|refine wOs fun K O=>?_|refine wQs fun K O=>?_|refine zW ?_|refine zX ?_|refine zY ?_|refine zL ?_);simp[ha,hb])|(refine wIn ?_;refine And.intro (by kernel_rfl) ?_;try simp only[zZ])|refine zQ ?_|refine zS ?_|((first|refine zI ?_|refine zO ?_|refine zP ?_);try simp)|((first|refine zR ?_|refine wOn ?_|refine wQn ?_);try simp only[zZ])|refine zU.p c1 rfl ?_|refine zU.l c1 rfl ?_|refine zT.p c1 rfl ?_|refine zT.l c1 rfl ?_|refine zU.o c1 ?_|refine zV.p c1 rfl ?_|refine zV.l c1 rfl ?_|refine zV.o c1 ?_
  all_goals apply hr
  all_goals simp[Tryz.f58]
 rw[if_neg h10]
 have hv10:(ov = -1)=True\/((ov = -1)=False/\(ov=zv)=True):=by
  by_cases ha:ov = -1
  ·exact .inl (eq_true ha)
  ·exact .inr ⟨eq_false ha,eq_true (Decidable.byContradiction fun hb=>h10 ⟨ha,hb⟩)⟩
 by_cases h2:ok=2
 ·rw[if_pos h2]
  have h2':(ok=2)=True:=eq_true h2
  generalize remL s.ns zp=r at *
  obtain⟨rl,re⟩:=r
  unfold Zn.c Oq.cells Sv.cells at *
  dsimp only at *
  rcases hv10 with ha|⟨ha,hb⟩
  ·refine zG Tryz.tab Tryz.mixed Tryz.func58 rfl rfl Tryz.ntmps58 (by simp) (by simp) fun Q hr hn=>?_
   repeat' first|((first|refine O _ ?_|refine O _ _ ?_|(clear O;refine O _ ?_));clear O)|(refine zJ fun K O=>?_)|((first|refine zH ?_|refine zN rfl (by kernel_rfl) ?_|refine zM ?_|refine zK (by kernel_rfl) ?_);simp only[vZ,vY,strip])|((first|refine wIs fun K O=>?_|refine wOs fun K O=>?_|refine wQs fun K O=>?_|refine zW ?_|refine zX ?_|refine zY ?_|refine zL ?_);simp[ha,h2'])|(refine wIn ?_;refine And.intro (by kernel_rfl) ?_;try simp only[zZ])|refine zQ ?_|refine zS ?_|((first|refine zI ?_|refine zO ?_|refine zP ?_);try simp)|((first|refine zR ?_|refine wOn ?_|refine wQn ?_);try simp only[zZ])|refine zU.p c1 rfl ?_|refine zU.l c1 rfl ?_|refine zT.p c1 rfl ?_|refine zT.l c1 rfl ?_|refine zU.o c1 ?_|refine zV.p c1 rfl ?_|refine zV.l c1 rfl ?_|refine zV.o c1 ?_|refine zU.p c2 rfl ?_|refine zU.l c2 rfl ?_|refine zT.p c2 rfl ?_|refine zT.l c2 rfl ?_|refine zU.o c2 ?_|refine zV.p c2 rfl ?_|refine zV.l c2 rfl ?_|refine zV.o c2 ?_
   all_goals apply hr
   all_goals simp[Tryz.f58]
  ·refine zG Tryz.tab Tryz.mixed Tryz.func58 rfl rfl Tryz.ntmps58 (by simp) (by simp) fun Q hr hn=>?_
   repeat' first|((first|refine O _ ?_|refine O _ _ ?_|(clear O;refine O _ ?_));clear O)|(refine zJ fun K O=>?_)|((first|refine zH ?_|refine zN rfl (by kernel_rfl) ?_|refine zM ?_|refine zK (by kernel_rfl) ?_);simp only[vZ,vY,strip])|((first|refine wIs fun K O=>?_|refine wOs fun K O=>?_|refine wQs fun K O=>?_|refine zW ?_|refine zX ?_|refine zY ?_|refine zL ?_);simp[ha,hb,h2'])|(refine wIn ?_;refine And.intro (by kernel_rfl) ?_;try simp only[zZ])|refine zQ ?_|refine zS ?_|((first|refine zI ?_|refine zO ?_|refine zP ?_);try simp)|((first|refine zR ?_|refine wOn ?_|refine wQn ?_);try simp only[zZ])|refine zU.p c1 rfl ?_|refine zU.l c1 rfl ?_|refine zT.p c1 rfl ?_|refine zT.l c1 rfl ?_|refine zU.o c1 ?_|refine zV.p c1 rfl ?_|refine zV.l c1 rfl ?_|refine zV.o c1 ?_|refine zU.p c2 rfl ?_|refine zU.l c2 rfl ?_|refine zT.p c2 rfl ?_|refine zT.l c2 rfl ?_|refine zU.o c2 ?_|refine zV.p c2 rfl ?_|refine zV.l c2 rfl ?_|refine zV.o c2 ?_
   all_goals apply hr
   all_goals simp[Tryz.f58]
 rw[if_neg h2]
 have h2':(ok=2)=False:=eq_false h2
 clear c2
 by_cases h4:ok=4
 ·rw[if_pos h4]
  have h4':(ok=4)=True:=eq_true h4
  unfold pts
  simp only[vY]
  unfold Zn.c Oq.cells Sv.cells at *
  dsimp only at *
  rcases hv10 with ha|⟨ha,hb⟩
  ·refine zG Tryz.tab Tryz.mixed Tryz.func58 rfl rfl Tryz.ntmps58 (by simp) (by simp) fun Q hr hn=>?_
   repeat' first|((first|refine O _ ?_|refine O _ _ ?_|(clear O;refine O _ ?_));clear O)|(refine zJ fun K O=>?_)|((first|refine zH ?_|refine zN rfl (by kernel_rfl) ?_|refine zM ?_|refine zK (by kernel_rfl) ?_);simp only[vZ,vY,strip])|((first|refine wIs fun K O=>?_|refine wOs fun K O=>?_|refine wQs fun K O=>?_|refine zW ?_|refine zX ?_|refine zY ?_|refine zL ?_);simp[ha,h2',h4'])|(refine wIn ?_;refine And.intro (by kernel_rfl) ?_;try simp only[zZ])|refine zQ ?_|refine zS ?_|((first|refine zI ?_|refine zO ?_|refine zP ?_);try simp)|((first|refine zR ?_|refine wOn ?_|refine wQn ?_);try simp only[zZ])|refine zU.p c1 rfl ?_|refine zU.l c1 rfl ?_|refine zT.p c1 rfl ?_|refine zT.l c1 rfl ?_|refine zU.o c1 ?_|refine zV.p c1 rfl ?_|refine zV.l c1 rfl ?_|refine zV.o c1 ?_
   all_goals apply hr
   all_goals simp[Tryz.f58]
  ·refine zG Tryz.tab Tryz.mixed Tryz.func58 rfl rfl Tryz.ntmps58 (by simp) (by simp) fun Q hr hn=>?_
   repeat' first|((first|refine O _ ?_|refine O _ _ ?_|(clear O;refine O _ ?_));clear O)|(refine zJ fun K O=>?_)|((first|refine zH ?_|refine zN rfl (by kernel_rfl) ?_|refine zM ?_|refine zK (by kernel_rfl) ?_);simp only[vZ,vY,strip])|((first|refine wIs fun K O=>?_|refine wOs fun K O=>?_|refine wQs fun K O=>?_|refine zW ?_|refine zX ?_|refine zY ?_|refine zL ?_);simp[ha,hb,h2',h4'])|(refine wIn ?_;refine And.intro (by kernel_rfl) ?_;try simp only[zZ])|refine zQ ?_|refine zS ?_|((first|refine zI ?_|refine zO ?_|refine zP ?_);try simp)|((first|refine zR ?_|refine wOn ?_|refine wQn ?_);try simp only[zZ])|refine zU.p c1 rfl ?_|refine zU.l c1 rfl ?_|refine zT.p c1 rfl ?_|refine zT.l c1 rfl ?_|refine zU.o c1 ?_|refine zV.p c1 rfl ?_|refine zV.l c1 rfl ?_|refine zV.o c1 ?_
   all_goals apply hr
   all_goals simp[Tryz.f58]
 rw[if_neg h4]
 have h4':(ok=4)=False:=eq_false h4
 by_cases h5:1099511627776<=zv
 ·rw[if_pos h5]
  unfold pts
  simp only[vY]
  unfold Zn.c Oq.cells Sv.cells at *
  dsimp only at *
  rcases hv10 with ha|⟨ha,hb⟩
  ·refine zG Tryz.tab Tryz.mixed Tryz.func58 rfl rfl Tryz.ntmps58 (by simp) (by simp) fun Q hr hn=>?_
   repeat' first|((first|refine O _ ?_|refine O _ _ ?_|(clear O;refine O _ ?_));clear O)|(refine zJ fun K O=>?_)|((first|refine zH ?_|refine zN rfl (by kernel_rfl) ?_|refine zM ?_|refine zK (by kernel_rfl) ?_);simp only[vZ,vY,strip])|((first|refine wIs fun K O=>?_|refine wOs fun K O=>?_|refine wQs fun K O=>?_|refine zW ?_|refine zX ?_|refine zY ?_|refine zL ?_);simp[ha,h2',h4',h5])|(refine wIn ?_;refine And.intro (by kernel_rfl) ?_;try simp only[zZ])|refine zQ ?_|refine zS ?_|((first|refine zI ?_|refine zO ?_|refine zP ?_);try simp)|((first|refine zR ?_|refine wOn ?_|refine wQn ?_);try simp only[zZ])|refine zU.p c1 rfl ?_|refine zU.l c1 rfl ?_|refine zT.p c1 rfl ?_|refine zT.l c1 rfl ?_|refine zU.o c1 ?_|refine zV.p c1 rfl ?_|refine zV.l c1 rfl ?_|refine zV.o c1 ?_
   all_goals apply hr
   all_goals simp[Tryz.f58]
  ·refine zG Tryz.tab Tryz.mixed Tryz.func58 rfl rfl Tryz.ntmps58 (by simp) (by simp) fun Q hr hn=>?_
   repeat' first|((first|refine O _ ?_|refine O _ _ ?_|(clear O;refine O _ ?_));clear O)|(refine zJ fun K O=>?_)|((first|refine zH ?_|refine zN rfl (by kernel_rfl) ?_|refine zM ?_|refine zK (by kernel_rfl) ?_);simp only[vZ,vY,strip])|((first|refine wIs fun K O=>?_|refine wOs fun K O=>?_|refine wQs fun K O=>?_|refine zW ?_|refine zX ?_|refine zY ?_|refine zL ?_);simp[ha,hb,h2',h4',h5])|(refine wIn ?_;refine And.intro (by kernel_rfl) ?_;try simp only[zZ])|refine zQ ?_|refine zS ?_|((first|refine zI ?_|refine zO ?_|refine zP ?_);try simp)|((first|refine zR ?_|refine wOn ?_|refine wQn ?_);try simp only[zZ])|refine zU.p c1 rfl ?_|refine zU.l c1 rfl ?_|refine zT.p c1 rfl ?_|refine zT.l c1 rfl ?_|refine zU.o c1 ?_|refine zV.p c1 rfl ?_|refine zV.l c1 rfl ?_|refine zV.o c1 ?_
   all_goals apply hr
   all_goals simp[Tryz.f58]
 rw[if_neg h5]
 have hw:IntKind.i64.wrap (zv+1)=zv+1:=by rw[zF] <;> omega
 unfold pts putPt cf0
 simp only[vZ,vY]
 unfold Pt.cells Zn.c Oq.cells Sv.cells at *
 dsimp only at *
 rcases hv10 with ha|⟨ha,hb⟩
 ·refine zG Tryz.tab Tryz.mixed Tryz.func58 rfl rfl Tryz.ntmps58 (by simp) (by simp) fun Q hr hn=>?_
  repeat' first|((first|refine O _ ?_|refine O _ _ ?_|(clear O;refine O _ ?_));clear O)|(refine zJ fun K O=>?_)|((first|refine zH ?_|refine zN rfl (by kernel_rfl) ?_|refine zM ?_|refine zK (by kernel_rfl) ?_);simp only[vZ,vY,strip])|((first|refine wIs fun K O=>?_|refine wOs fun K O=>?_|refine wQs fun K O=>?_|refine zW ?_|refine zX ?_|refine zY ?_|refine zL ?_);simp[ha,h2',h4',h5,hw])|(refine wIn ?_;refine And.intro (by kernel_rfl) ?_;try simp only[zZ])|refine zQ ?_|refine zS ?_|((first|refine zI ?_|refine zO ?_|refine zP ?_);try simp)|((first|refine zR ?_|refine wOn ?_|refine wQn ?_);try simp only[zZ])|refine zU.p c1 rfl ?_|refine zU.l c1 rfl ?_|refine zT.p c1 rfl ?_|refine zT.l c1 rfl ?_|refine zU.o c1 ?_|refine zV.p c1 rfl ?_|refine zV.l c1 rfl ?_|refine zV.o c1 ?_
  all_goals apply hr
  all_goals simp[Tryz.f58,mbs,hw,show ByteArray.empty=bs [] from rfl]
 ·refine zG Tryz.tab Tryz.mixed Tryz.func58 rfl rfl Tryz.ntmps58 (by simp) (by simp) fun Q hr hn=>?_
  repeat' first|((first|refine O _ ?_|refine O _ _ ?_|(clear O;refine O _ ?_));clear O)|(refine zJ fun K O=>?_)|((first|refine zH ?_|refine zN rfl (by kernel_rfl) ?_|refine zM ?_|refine zK (by kernel_rfl) ?_);simp only[vZ,vY,strip])|((first|refine wIs fun K O=>?_|refine wOs fun K O=>?_|refine wQs fun K O=>?_|refine zW ?_|refine zX ?_|refine zY ?_|refine zL ?_);simp[ha,hb,h2',h4',h5,hw])|(refine wIn ?_;refine And.intro (by kernel_rfl) ?_;try simp only[zZ])|refine zQ ?_|refine zS ?_|((first|refine zI ?_|refine zO ?_|refine zP ?_);try simp)|((first|refine zR ?_|refine wOn ?_|refine wQn ?_);try simp only[zZ])|refine zU.p c1 rfl ?_|refine zU.l c1 rfl ?_|refine zT.p c1 rfl ?_|refine zT.l c1 rfl ?_|refine zU.o c1 ?_|refine zV.p c1 rfl ?_|refine zV.l c1 rfl ?_|refine zV.o c1 ?_
  all_goals apply hr
  all_goals simp[Tryz.f58,mbs,hw,show ByteArray.empty=bs [] from rfl]
def hdP (o:Oq):List UInt8 × Int:=if o.sq=true then nmb o.pa 0 else (o.pa,chk o.pa)
def xC (ns:List Zn)(o:Oq):Zn × Int :=
 if (hdP o).2=0 then
  (if (par (hdP o).1).2=true then
   (if (fnd ns (par (hdP o).1).1).2=true then (if (fnd ns (par (hdP o).1).1).1.o=0 then ((fnd ns (par (hdP o).1).1).1,0) else (zz,12)) else (zz,6))
  else (zz,7))
 else (zz,(hdP o).2)
theorem hdP_len (o:Oq)(hp:o.pa.length<=9223372036854775807):(hdP o).1.length<=9223372036854775807:=by
 unfold hdP;split
 ·have:=nmb_len (p:=o.pa) (n:=0);omega
 ·exact hp
set_option maxHeartbeats 2000000 in
theorem holder_con (s:Sv)(o:Oq)(hp:o.pa.length<=9223372036854775807):zD Tryz.prog 68 [.p (.agg s.cells),.p (.agg o.cells)] (.tup [.p (.agg (xC s.ns o).1.c),.p (I (xC s.ns o).2)]):=by
 have c1:=check_con o.pa hp
 have c2:=numbered_con o.pa 0 hp
 have c3:=par_con (hdP o).1 (hdP_len o hp)
 have c4:=find_con s.ns (par (hdP o).1).1
 unfold xC
 generalize hq:par (hdP o).1=q at *
 clear hq
 generalize fnd s.ns q.1=r at *
 obtain⟨⟨zp,zd,zv,zk,zo⟩,b⟩:=r
 obtain⟨qa,qb⟩:=q
 unfold hdP at *
 generalize nmb o.pa 0=m at *
 obtain⟨ma,me⟩:=m
 generalize chk o.pa=ce at *
 obtain⟨ok,opa,oda,ov,oow,osq⟩:=o
 dsimp only at *
 have fin:∀ (pa:List UInt8)(e:Int),(if osq=true then (ma,me) else (opa,ce))=(pa,e)->zD Tryz.prog 68 [.p (.agg s.cells),.p (.agg (⟨ok,opa,oda,ov,oow,osq⟩:Oq).cells)] (.tup [.p (.agg (if e=0 then (if qb=true then (if b=true then (if zo=0 then ((⟨zp,zd,zv,zk,zo⟩:Zn),(0:Int)) else (zz,12)) else (zz,6)) else (zz,7)) else (zz,e)).1.c),.p (I (if e=0 then (if qb=true then (if b=true then (if zo=0 then ((⟨zp,zd,zv,zk,zo⟩:Zn),(0:Int)) else (zz,12)) else (zz,6)) else (zz,7)) else (zz,e)).2)]):=by
  intro pa e hpe
  rw[hpe] at c3
  dsimp only at c3
  by_cases he:e=0
  ·subst he
   rw[if_pos rfl]
   cases qb with
   |false =>
    rw[if_neg (by simp)]
    cases osq with
    |true =>
     simp only[if_true,Prod.mk.injEq] at hpe
     obtain⟨rfl,rfl⟩:=hpe
     unfold zz Zn.c Oq.cells Sv.cells at *
     dsimp only at *
     refine zG Tryz.tab Tryz.mixed Tryz.func68 rfl rfl Tryz.ntmps68 (by simp) (by simp) fun Q hr hn=>?_
     repeat' first|((first|refine O _ ?_|refine O _ _ ?_|(clear O;refine O _ ?_));clear O)|(refine zJ fun K O=>?_)|((first|refine zH ?_|refine zN rfl (by kernel_rfl) ?_|refine zM ?_|refine zK (by kernel_rfl) ?_);simp only[vZ,vY,strip])|((first|refine wIs fun K O=>?_|refine wOs fun K O=>?_|refine wQs fun K O=>?_|refine zW ?_|refine zX ?_|refine zY ?_|refine zL ?_);simp)|(refine wIn ?_;refine And.intro (by kernel_rfl) ?_;try simp only[zZ])|refine zQ ?_|refine zS ?_|((first|refine zI ?_|refine zO ?_|refine zP ?_);try simp)|((first|refine zR ?_|refine wOn ?_|refine wQn ?_);try simp only[zZ])|refine zU.p c1 rfl ?_|refine zU.l c1 rfl ?_|refine zT.p c1 rfl ?_|refine zT.l c1 rfl ?_|refine zU.o c1 ?_|refine zV.p c1 rfl ?_|refine zV.l c1 rfl ?_|refine zV.o c1 ?_|refine zU.p c2 rfl ?_|refine zU.l c2 rfl ?_|refine zT.p c2 rfl ?_|refine zT.l c2 rfl ?_|refine zU.o c2 ?_|refine zV.p c2 rfl ?_|refine zV.l c2 rfl ?_|refine zV.o c2 ?_|refine zU.p c3 rfl ?_|refine zU.l c3 rfl ?_|refine zT.p c3 rfl ?_|refine zT.l c3 rfl ?_|refine zU.o c3 ?_|refine zV.p c3 rfl ?_|refine zV.l c3 rfl ?_|refine zV.o c3 ?_
     all_goals apply hr
     all_goals simp[Tryz.f68,show ByteArray.empty=bs [] from rfl]
    |false =>
     simp only[Bool.false_eq_true,if_false,Prod.mk.injEq] at hpe
     obtain⟨rfl,rfl⟩:=hpe
     unfold zz Zn.c Oq.cells Sv.cells at *
     dsimp only at *
     refine zG Tryz.tab Tryz.mixed Tryz.func68 rfl rfl Tryz.ntmps68 (by simp) (by simp) fun Q hr hn=>?_
     repeat' first|((first|refine O _ ?_|refine O _ _ ?_|(clear O;refine O _ ?_));clear O)|(refine zJ fun K O=>?_)|((first|refine zH ?_|refine zN rfl (by kernel_rfl) ?_|refine zM ?_|refine zK (by kernel_rfl) ?_);simp only[vZ,vY,strip])|((first|refine wIs fun K O=>?_|refine wOs fun K O=>?_|refine wQs fun K O=>?_|refine zW ?_|refine zX ?_|refine zY ?_|refine zL ?_);simp)|(refine wIn ?_;refine And.intro (by kernel_rfl) ?_;try simp only[zZ])|refine zQ ?_|refine zS ?_|((first|refine zI ?_|refine zO ?_|refine zP ?_);try simp)|((first|refine zR ?_|refine wOn ?_|refine wQn ?_);try simp only[zZ])|refine zU.p c1 rfl ?_|refine zU.l c1 rfl ?_|refine zT.p c1 rfl ?_|refine zT.l c1 rfl ?_|refine zU.o c1 ?_|refine zV.p c1 rfl ?_|refine zV.l c1 rfl ?_|refine zV.o c1 ?_|refine zU.p c3 rfl ?_|refine zU.l c3 rfl ?_|refine zT.p c3 rfl ?_|refine zT.l c3 rfl ?_|refine zU.o c3 ?_|refine zV.p c3 rfl ?_|refine zV.l c3 rfl ?_|refine zV.o c3 ?_
     all_goals apply hr
     all_goals simp[Tryz.f68,show ByteArray.empty=bs [] from rfl]
   |true =>
    rw[if_pos rfl]
    cases b with
    |false =>
     rw[if_neg (by simp)]
     cases osq with
     |true =>
      simp only[if_true,Prod.mk.injEq] at hpe
      obtain⟨rfl,rfl⟩:=hpe
      unfold zz Zn.c Oq.cells Sv.cells at *
      dsimp only at *
      refine zG Tryz.tab Tryz.mixed Tryz.func68 rfl rfl Tryz.ntmps68 (by simp) (by simp) fun Q hr hn=>?_
      repeat' first|((first|refine O _ ?_|refine O _ _ ?_|(clear O;refine O _ ?_));clear O)|(refine zJ fun K O=>?_)|((first|refine zH ?_|refine zN rfl (by kernel_rfl) ?_|refine zM ?_|refine zK (by kernel_rfl) ?_);simp only[vZ,vY,strip])|((first|refine wIs fun K O=>?_|refine wOs fun K O=>?_|refine wQs fun K O=>?_|refine zW ?_|refine zX ?_|refine zY ?_|refine zL ?_);simp)|(refine wIn ?_;refine And.intro (by kernel_rfl) ?_;try simp only[zZ])|refine zQ ?_|refine zS ?_|((first|refine zI ?_|refine zO ?_|refine zP ?_);try simp)|((first|refine zR ?_|refine wOn ?_|refine wQn ?_);try simp only[zZ])|refine zU.p c1 rfl ?_|refine zU.l c1 rfl ?_|refine zT.p c1 rfl ?_|refine zT.l c1 rfl ?_|refine zU.o c1 ?_|refine zV.p c1 rfl ?_|refine zV.l c1 rfl ?_|refine zV.o c1 ?_|refine zU.p c2 rfl ?_|refine zU.l c2 rfl ?_|refine zT.p c2 rfl ?_|refine zT.l c2 rfl ?_|refine zU.o c2 ?_|refine zV.p c2 rfl ?_|refine zV.l c2 rfl ?_|refine zV.o c2 ?_|refine zU.p c3 rfl ?_|refine zU.l c3 rfl ?_|refine zT.p c3 rfl ?_|refine zT.l c3 rfl ?_|refine zU.o c3 ?_|refine zV.p c3 rfl ?_|refine zV.l c3 rfl ?_|refine zV.o c3 ?_|refine zU.p c4 rfl ?_|refine zU.l c4 rfl ?_|refine zT.p c4 rfl ?_|refine zT.l c4 rfl ?_|refine zU.o c4 ?_|refine zV.p c4 rfl ?_|refine zV.l c4 rfl ?_|refine zV.o c4 ?_
      all_goals apply hr
      all_goals simp[Tryz.f68,show ByteArray.empty=bs [] from rfl]
     |false =>
      simp only[Bool.false_eq_true,if_false,Prod.mk.injEq] at hpe
      obtain⟨rfl,rfl⟩:=hpe
      unfold zz Zn.c Oq.cells Sv.cells at *
      dsimp only at *
      refine zG Tryz.tab Tryz.mixed Tryz.func68 rfl rfl Tryz.ntmps68 (by simp) (by simp) fun Q hr hn=>?_
      repeat' first|((first|refine O _ ?_|refine O _ _ ?_|(clear O;refine O _ ?_));clear O)|(refine zJ fun K O=>?_)|((first|refine zH ?_|refine zN rfl (by kernel_rfl) ?_|refine zM ?_|refine zK (by kernel_rfl) ?_);simp only[vZ,vY,strip])|((first|refine wIs fun K O=>?_|refine wOs fun K O=>?_|refine wQs fun K O=>?_|refine zW ?_|refine zX ?_|refine zY ?_|refine zL ?_);simp)|(refine wIn ?_;refine And.intro (by kernel_rfl) ?_;try simp only[zZ])|refine zQ ?_|refine zS ?_|((first|refine zI ?_|refine zO ?_|refine zP ?_);try simp)|((first|refine zR ?_|refine wOn ?_|refine wQn ?_);try simp only[zZ])|refine zU.p c1 rfl ?_|refine zU.l c1 rfl ?_|refine zT.p c1 rfl ?_|refine zT.l c1 rfl ?_|refine zU.o c1 ?_|refine zV.p c1 rfl ?_|refine zV.l c1 rfl ?_|refine zV.o c1 ?_|refine zU.p c3 rfl ?_|refine zU.l c3 rfl ?_|refine zT.p c3 rfl ?_|refine zT.l c3 rfl ?_|refine zU.o c3 ?_|refine zV.p c3 rfl ?_|refine zV.l c3 rfl ?_|refine zV.o c3 ?_|refine zU.p c4 rfl ?_|refine zU.l c4 rfl ?_|refine zT.p c4 rfl ?_|refine zT.l c4 rfl ?_|refine zU.o c4 ?_|refine zV.p c4 rfl ?_|refine zV.l c4 rfl ?_|refine zV.o c4 ?_
      all_goals apply hr
      all_goals simp[Tryz.f68,show ByteArray.empty=bs [] from rfl]
    |true =>
     rw[if_pos rfl]
     by_cases ho:zo=0
     ·subst ho
      rw[if_pos rfl]
      cases osq with
      |true =>
       simp only[if_true,Prod.mk.injEq] at hpe
       obtain⟨rfl,rfl⟩:=hpe
       unfold Zn.c Oq.cells Sv.cells at *
       dsimp only at *
       refine zG Tryz.tab Tryz.mixed Tryz.func68 rfl rfl Tryz.ntmps68 (by simp) (by simp) fun Q hr hn=>?_
       repeat' first|((first|refine O _ ?_|refine O _ _ ?_|(clear O;refine O _ ?_));clear O)|(refine zJ fun K O=>?_)|((first|refine zH ?_|refine zN rfl (by kernel_rfl) ?_|refine zM ?_|refine zK (by kernel_rfl) ?_);simp only[vZ,vY,strip])|((first|refine wIs fun K O=>?_|refine wOs fun K O=>?_|refine wQs fun K O=>?_|refine zW ?_|refine zX ?_|refine zY ?_|refine zL ?_);simp)|(refine wIn ?_;refine And.intro (by kernel_rfl) ?_;try simp only[zZ])|refine zQ ?_|refine zS ?_|((first|refine zI ?_|refine zO ?_|refine zP ?_);try simp)|((first|refine zR ?_|refine wOn ?_|refine wQn ?_);try simp only[zZ])|refine zU.p c1 rfl ?_|refine zU.l c1 rfl ?_|refine zT.p c1 rfl ?_|refine zT.l c1 rfl ?_|refine zU.o c1 ?_|refine zV.p c1 rfl ?_|refine zV.l c1 rfl ?_|refine zV.o c1 ?_|refine zU.p c2 rfl ?_|refine zU.l c2 rfl ?_|refine zT.p c2 rfl ?_|refine zT.l c2 rfl ?_|refine zU.o c2 ?_|refine zV.p c2 rfl ?_|refine zV.l c2 rfl ?_|refine zV.o c2 ?_|refine zU.p c3 rfl ?_|refine zU.l c3 rfl ?_|refine zT.p c3 rfl ?_|refine zT.l c3 rfl ?_|refine zU.o c3 ?_|refine zV.p c3 rfl ?_|refine zV.l c3 rfl ?_|refine zV.o c3 ?_|refine zU.p c4 rfl ?_|refine zU.l c4 rfl ?_|refine zT.p c4 rfl ?_|refine zT.l c4 rfl ?_|refine zU.o c4 ?_|refine zV.p c4 rfl ?_|refine zV.l c4 rfl ?_|refine zV.o c4 ?_
       all_goals apply hr
       all_goals simp[Tryz.f68]
      |false =>
       simp only[Bool.false_eq_true,if_false,Prod.mk.injEq] at hpe
       obtain⟨rfl,rfl⟩:=hpe
       unfold Zn.c Oq.cells Sv.cells at *
       dsimp only at *
       refine zG Tryz.tab Tryz.mixed Tryz.func68 rfl rfl Tryz.ntmps68 (by simp) (by simp) fun Q hr hn=>?_
       repeat' first|((first|refine O _ ?_|refine O _ _ ?_|(clear O;refine O _ ?_));clear O)|(refine zJ fun K O=>?_)|((first|refine zH ?_|refine zN rfl (by kernel_rfl) ?_|refine zM ?_|refine zK (by kernel_rfl) ?_);simp only[vZ,vY,strip])|((first|refine wIs fun K O=>?_|refine wOs fun K O=>?_|refine wQs fun K O=>?_|refine zW ?_|refine zX ?_|refine zY ?_|refine zL ?_);simp)|(refine wIn ?_;refine And.intro (by kernel_rfl) ?_;try simp only[zZ])|refine zQ ?_|refine zS ?_|((first|refine zI ?_|refine zO ?_|refine zP ?_);try simp)|((first|refine zR ?_|refine wOn ?_|refine wQn ?_);try simp only[zZ])|refine zU.p c1 rfl ?_|refine zU.l c1 rfl ?_|refine zT.p c1 rfl ?_|refine zT.l c1 rfl ?_|refine zU.o c1 ?_|refine zV.p c1 rfl ?_|refine zV.l c1 rfl ?_|refine zV.o c1 ?_|refine zU.p c3 rfl ?_|refine zU.l c3 rfl ?_|refine zT.p c3 rfl ?_|refine zT.l c3 rfl ?_|refine zU.o c3 ?_|refine zV.p c3 rfl ?_|refine zV.l c3 rfl ?_|refine zV.o c3 ?_|refine zU.p c4 rfl ?_|refine zU.l c4 rfl ?_|refine zT.p c4 rfl ?_|refine zT.l c4 rfl ?_|refine zU.o c4 ?_|refine zV.p c4 rfl ?_|refine zV.l c4 rfl ?_|refine zV.o c4 ?_
       all_goals apply hr
       all_goals simp[Tryz.f68]
     ·rw[if_neg ho]
      have ho':(zo=0)=False:=eq_false ho
      cases osq with
      |true =>
       simp only[if_true,Prod.mk.injEq] at hpe
       obtain⟨rfl,rfl⟩:=hpe
       unfold zz Zn.c Oq.cells Sv.cells at *
       dsimp only at *
       refine zG Tryz.tab Tryz.mixed Tryz.func68 rfl rfl Tryz.ntmps68 (by simp) (by simp) fun Q hr hn=>?_
       repeat' first|((first|refine O _ ?_|refine O _ _ ?_|(clear O;refine O _ ?_));clear O)|(refine zJ fun K O=>?_)|((first|refine zH ?_|refine zN rfl (by kernel_rfl) ?_|refine zM ?_|refine zK (by kernel_rfl) ?_);simp only[vZ,vY,strip])|((first|refine wIs fun K O=>?_|refine wOs fun K O=>?_|refine wQs fun K O=>?_|refine zW ?_|refine zX ?_|refine zY ?_|refine zL ?_);simp[ho'])|(refine wIn ?_;refine And.intro (by kernel_rfl) ?_;try simp only[zZ])|refine zQ ?_|refine zS ?_|((first|refine zI ?_|refine zO ?_|refine zP ?_);try simp)|((first|refine zR ?_|refine wOn ?_|refine wQn ?_);try simp only[zZ])|refine zU.p c1 rfl ?_|refine zU.l c1 rfl ?_|refine zT.p c1 rfl ?_|refine zT.l c1 rfl ?_|refine zU.o c1 ?_|refine zV.p c1 rfl ?_|refine zV.l c1 rfl ?_|refine zV.o c1 ?_|refine zU.p c2 rfl ?_|refine zU.l c2 rfl ?_|refine zT.p c2 rfl ?_|refine zT.l c2 rfl ?_|refine zU.o c2 ?_|refine zV.p c2 rfl ?_|refine zV.l c2 rfl ?_|refine zV.o c2 ?_|refine zU.p c3 rfl ?_|refine zU.l c3 rfl ?_|refine zT.p c3 rfl ?_|refine zT.l c3 rfl ?_|refine zU.o c3 ?_|refine zV.p c3 rfl ?_|refine zV.l c3 rfl ?_|refine zV.o c3 ?_|refine zU.p c4 rfl ?_|refine zU.l c4 rfl ?_|refine zT.p c4 rfl ?_|refine zT.l c4 rfl ?_|refine zU.o c4 ?_|refine zV.p c4 rfl ?_|refine zV.l c4 rfl ?_|refine zV.o c4 ?_
       all_goals apply hr
       all_goals simp[Tryz.f68,show ByteArray.empty=bs [] from rfl]
      |false =>
       simp only[Bool.false_eq_true,if_false,Prod.mk.injEq] at hpe
       obtain⟨rfl,rfl⟩:=hpe
       unfold zz Zn.c Oq.cells Sv.cells at *
       dsimp only at *
       refine zG Tryz.tab Tryz.mixed Tryz.func68 rfl rfl Tryz.ntmps68 (by simp) (by simp) fun Q hr hn=>?_
       repeat' first|((first|refine O _ ?_|refine O _ _ ?_|(clear O;refine O _ ?_));clear O)|(refine zJ fun K O=>?_)|((first|refine zH ?_|refine zN rfl (by kernel_rfl) ?_|refine zM ?_|refine zK (by kernel_rfl) ?_);simp only[vZ,vY,strip])|((first|refine wIs fun K O=>?_|refine wOs fun K O=>?_|refine wQs fun K O=>?_|refine zW ?_|refine zX ?_|refine zY ?_|refine zL ?_);simp[ho'])|(refine wIn ?_;refine And.intro (by kernel_rfl) ?_;try simp only[zZ])|refine zQ ?_|refine zS ?_|((first|refine zI ?_|refine zO ?_|refine zP ?_);try simp)|((first|refine zR ?_|refine wOn ?_|refine wQn ?_);try simp only[zZ])|refine zU.p c1 rfl ?_|refine zU.l c1 rfl ?_|refine zT.p c1 rfl ?_|refine zT.l c1 rfl ?_|refine zU.o c1 ?_|refine zV.p c1 rfl ?_|refine zV.l c1 rfl ?_|refine zV.o c1 ?_|refine zU.p c3 rfl ?_|refine zU.l c3 rfl ?_|refine zT.p c3 rfl ?_|refine zT.l c3 rfl ?_|refine zU.o c3 ?_|refine zV.p c3 rfl ?_|refine zV.l c3 rfl ?_|refine zV.o c3 ?_|refine zU.p c4 rfl ?_|refine zU.l c4 rfl ?_|refine zT.p c4 rfl ?_|refine zT.l c4 rfl ?_|refine zU.o c4 ?_|refine zV.p c4 rfl ?_|refine zV.l c4 rfl ?_|refine zV.o c4 ?_
       all_goals apply hr
       all_goals simp[Tryz.f68,show ByteArray.empty=bs [] from rfl]
  ·rw[if_neg he]
   have he':(e=0)=False:=eq_false he
   cases osq with
   |true =>
    simp only[if_true,Prod.mk.injEq] at hpe
    obtain⟨rfl,rfl⟩:=hpe
    unfold zz Zn.c Oq.cells Sv.cells at *
    dsimp only at *
    refine zG Tryz.tab Tryz.mixed Tryz.func68 rfl rfl Tryz.ntmps68 (by simp) (by simp) fun Q hr hn=>?_
    repeat' first|((first|refine O _ ?_|refine O _ _ ?_|(clear O;refine O _ ?_));clear O)|(refine zJ fun K O=>?_)|((first|refine zH ?_|refine zN rfl (by kernel_rfl) ?_|refine zM ?_|refine zK (by kernel_rfl) ?_);simp only[vZ,vY,strip])|((first|refine wIs fun K O=>?_|refine wOs fun K O=>?_|refine wQs fun K O=>?_|refine zW ?_|refine zX ?_|refine zY ?_|refine zL ?_);simp[he'])|(refine wIn ?_;refine And.intro (by kernel_rfl) ?_;try simp only[zZ])|refine zQ ?_|refine zS ?_|((first|refine zI ?_|refine zO ?_|refine zP ?_);try simp)|((first|refine zR ?_|refine wOn ?_|refine wQn ?_);try simp only[zZ])|refine zU.p c1 rfl ?_|refine zU.l c1 rfl ?_|refine zT.p c1 rfl ?_|refine zT.l c1 rfl ?_|refine zU.o c1 ?_|refine zV.p c1 rfl ?_|refine zV.l c1 rfl ?_|refine zV.o c1 ?_|refine zU.p c2 rfl ?_|refine zU.l c2 rfl ?_|refine zT.p c2 rfl ?_|refine zT.l c2 rfl ?_|refine zU.o c2 ?_|refine zV.p c2 rfl ?_|refine zV.l c2 rfl ?_|refine zV.o c2 ?_
    all_goals apply hr
    all_goals simp[Tryz.f68,show ByteArray.empty=bs [] from rfl]
   |false =>
    simp only[Bool.false_eq_true,if_false,Prod.mk.injEq] at hpe
    obtain⟨rfl,rfl⟩:=hpe
    unfold zz Zn.c Oq.cells Sv.cells at *
    dsimp only at *
    refine zG Tryz.tab Tryz.mixed Tryz.func68 rfl rfl Tryz.ntmps68 (by simp) (by simp) fun Q hr hn=>?_
    repeat' first|((first|refine O _ ?_|refine O _ _ ?_|(clear O;refine O _ ?_));clear O)|(refine zJ fun K O=>?_)|((first|refine zH ?_|refine zN rfl (by kernel_rfl) ?_|refine zM ?_|refine zK (by kernel_rfl) ?_);simp only[vZ,vY,strip])|((first|refine wIs fun K O=>?_|refine wOs fun K O=>?_|refine wQs fun K O=>?_|refine zW ?_|refine zX ?_|refine zY ?_|refine zL ?_);simp[he'])|(refine wIn ?_;refine And.intro (by kernel_rfl) ?_;try simp only[zZ])|refine zQ ?_|refine zS ?_|((first|refine zI ?_|refine zO ?_|refine zP ?_);try simp)|((first|refine zR ?_|refine wOn ?_|refine wQn ?_);try simp only[zZ])|refine zU.p c1 rfl ?_|refine zU.l c1 rfl ?_|refine zT.p c1 rfl ?_|refine zT.l c1 rfl ?_|refine zU.o c1 ?_|refine zV.p c1 rfl ?_|refine zV.l c1 rfl ?_|refine zV.o c1 ?_
    all_goals apply hr
    all_goals simp[Tryz.f68,show ByteArray.empty=bs [] from rfl]
 exact fin _ _ rfl
end Go.Proofs.YtedbbcmokbogpaaGreatDoor
