/- Texts that the proof needs: PR3. -/
import Derived.Test.YtedbbcmokbogpaaGreatDoorP36PrepNumbers
namespace Go.Proofs.YtedbbcmokbogpaaGreatDoor
set_option linter.unusedSimpArgs false
set_option linter.unusedVariables false
set_option maxRecDepth 8000
open Go Go.Av
attribute [local irreducible] Go.Av.yP Go.Av.zU Go.Av.yN Go.Av.zT Go.Av.yO Go.Av.zV Go.Av.Con
def crP (o:Oq)(z:Zn):List UInt8 × Int:=if o.sq=true then nmb o.pa z.k else (o.pa,0)
def newZ (o:Oq)(p:List UInt8)(ses:Int):Zn:=⟨p,o.da,0,0,if o.ow=true then ses else 0⟩
def crtM (ns:List Zn)(o:Oq)(ses:Int):List Pt × List UInt8 × Int :=
 if 128<o.da.length then ([],[],5) else if ¬ (xC ns o).2=0 then ([],[],(xC ns o).2)
 else if ¬ (crP o (xC ns o).1).2=0 then ([],[],(crP o (xC ns o).1).2)
 else if (fnd ns (crP o (xC ns o).1).1).2=true then ([],[],7)
 else if 60<=ns.length then ([],[],8)
 else if ¬ turnE (xC ns o).1=0 then ([],[],turnE (xC ns o).1)
 else ([turnP (xC ns o).1,putPt (newZ o (crP o (xC ns o).1).1 ses)],(crP o (xC ns o).1).1,0)
theorem hldM_okN {ns:List Zn}(h:okN ns)(o:Oq):0<=(xC ns o).1.k:=by
 unfold xC
 split
 ·split
  ·split
   ·split
    ·exact (fnd_okN h _).1
    ·exact zz_ok.1
   ·exact zz_ok.1
  ·exact zz_ok.1
 ·exact zz_ok.1
set_option maxHeartbeats 8000000 in
theorem create_con (s:Sv)(o:Oq)(ses:Int)(hl:s.ns.length<=1000000)(hp:o.pa.length<=9223372036854775807)(hd:o.da.length<=9223372036854775807)(hn:okN s.ns):zD Tryz.prog 57 [.p (.agg s.cells),.p (.agg o.cells),.p (I ses)] (.tup [.p (.sl 11 (pts (crtM s.ns o ses).1)),.p (SB (crtM s.ns o ses).2.1),.p (I (crtM s.ns o ses).2.2)]):=by
 have c1:=holder_con s o hp
 have c2:=numbered_con o.pa (xC s.ns o).1.k hp
 have c3:=find_con s.ns (crP o (xC s.ns o).1).1
 have c4:=turned_con (xC s.ns o).1 (hldM_okN hn o)
 unfold crtM
 by_cases h128:128<o.da.length
 ·rw[if_pos h128]
  have h128':(128:Int)<o.da.length:=by omega
  clear c1 c2 c3 c4
  obtain⟨ok,opa,oda,ov,oow,osq⟩:=o
  unfold pts
  simp only[vY]
  unfold Oq.cells Sv.cells
  dsimp only at *
  refine zG Tryz.tab Tryz.mixed Tryz.func57 rfl rfl Tryz.ntmps57 (by simp) (by simp) fun Q hr hn=>?_
  repeat' first|((first|refine O _ ?_|refine O _ _ ?_|(clear O;refine O _ ?_));clear O)|(refine zJ fun K O=>?_)|((first|refine zH ?_|refine zN rfl (by kernel_rfl) ?_|refine zM ?_|refine zK (by kernel_rfl) ?_);simp only[vZ,vY,strip])|((first|refine wIs fun K O=>?_|refine wOs fun K O=>?_|refine wQs fun K O=>?_|refine zW ?_|refine zX ?_|refine zY ?_|refine zL ?_);simp[h128,h128'])|(refine wIn ?_;refine And.intro (by kernel_rfl) ?_;try simp only[zZ])|refine zQ ?_|refine zS ?_|((first|refine zI ?_|refine zO ?_|refine zP ?_);try simp)|((first|refine zR ?_|refine wOn ?_|refine wQn ?_);try simp only[zZ])
  all_goals apply hr
  all_goals simp[Tryz.f57,show ByteArray.empty=bs [] from rfl]
 rw[if_neg h128]
 have h128':¬ (128:Int)<o.da.length:=by omega
 unfold crP at *
 generalize xC s.ns o=hh at *
 obtain⟨⟨zp,zd,zv,zk,zo⟩,he⟩:=hh
 dsimp only at *
 by_cases he0:he=0
 case neg =>
  rw[if_pos he0]
  have he':(he=0)=False:=eq_false he0
  clear c2 c3 c4
  obtain⟨ok,opa,oda,ov,oow,osq⟩:=o
  unfold pts
  simp only[vY]
  unfold Zn.c Oq.cells Sv.cells at *
  dsimp only at *
  refine zG Tryz.tab Tryz.mixed Tryz.func57 rfl rfl Tryz.ntmps57 (by simp) (by simp) fun Q hr hn=>?_
  repeat' first|((first|refine O _ ?_|refine O _ _ ?_|(clear O;refine O _ ?_));clear O)|(refine zJ fun K O=>?_)|((first|refine zH ?_|refine zN rfl (by kernel_rfl) ?_|refine zM ?_|refine zK (by kernel_rfl) ?_);simp only[vZ,vY,strip])|((first|refine wIs fun K O=>?_|refine wOs fun K O=>?_|refine wQs fun K O=>?_|refine zW ?_|refine zX ?_|refine zY ?_|refine zL ?_);simp[h128,h128',he'])|(refine wIn ?_;refine And.intro (by kernel_rfl) ?_;try simp only[zZ])|refine zQ ?_|refine zS ?_|((first|refine zI ?_|refine zO ?_|refine zP ?_);try simp)|((first|refine zR ?_|refine wOn ?_|refine wQn ?_);try simp only[zZ])|refine zU.p c1 rfl ?_|refine zU.l c1 rfl ?_|refine zT.p c1 rfl ?_|refine zT.l c1 rfl ?_|refine zU.o c1 ?_|refine zV.p c1 rfl ?_|refine zV.l c1 rfl ?_|refine zV.o c1 ?_
  all_goals apply hr
  all_goals simp[Tryz.f57,show ByteArray.empty=bs [] from rfl]
 subst he0
 rw[if_neg (by simp)]
 generalize hF:fnd s.ns (if o.sq=true then nmb o.pa zk else (o.pa,0)).1=fr at *
 clear hF
 obtain⟨fz,fb⟩:=fr
 obtain⟨fp,fd,fv,fk,fo⟩:=fz
 generalize nmb o.pa zk=m at *
 obtain⟨ma,me⟩:=m
 obtain⟨ok,opa,oda,ov,oow,osq⟩:=o
 dsimp only at *
 generalize turnE ⟨zp,zd,zv,zk,zo⟩=te at *
 generalize turnP ⟨zp,zd,zv,zk,zo⟩=tp at *
 obtain⟨tk,⟨tpp,tpd,tpv,tpk,tpo⟩,tps,⟨tce,tcn,tck,tcm⟩⟩:=tp
 have go:∀ (pa:List UInt8)(e:Int),(if osq=true then (ma,me) else (opa,0))=(pa,e)->zD Tryz.prog 57 [.p (.agg s.cells),.p (.agg (⟨ok,opa,oda,ov,oow,osq⟩:Oq).cells),.p (I ses)]
  (.tup [.p (.sl 11 (pts (if ¬ e=0 then (([]:List Pt),([]:List UInt8),e) else if fb=true then ([],[],7) else if 60<=s.ns.length then ([],[],8) else if ¬ te=0 then ([],[],te) else ([⟨tk,⟨tpp,tpd,tpv,tpk,tpo⟩,tps,⟨tce,tcn,tck,tcm⟩⟩,putPt (newZ ⟨ok,opa,oda,ov,oow,osq⟩ pa ses)],pa,0)).1)),
   .p (SB (if ¬ e=0 then (([]:List Pt),([]:List UInt8),e) else if fb=true then ([],[],7) else if 60<=s.ns.length then ([],[],8) else if ¬ te=0 then ([],[],te) else ([⟨tk,⟨tpp,tpd,tpv,tpk,tpo⟩,tps,⟨tce,tcn,tck,tcm⟩⟩,putPt (newZ ⟨ok,opa,oda,ov,oow,osq⟩ pa ses)],pa,0)).2.1),
   .p (I (if ¬ e=0 then (([]:List Pt),([]:List UInt8),e) else if fb=true then ([],[],7) else if 60<=s.ns.length then ([],[],8) else if ¬ te=0 then ([],[],te) else ([⟨tk,⟨tpp,tpd,tpv,tpk,tpo⟩,tps,⟨tce,tcn,tck,tcm⟩⟩,putPt (newZ ⟨ok,opa,oda,ov,oow,osq⟩ pa ses)],pa,0)).2.2)]):=by
  intro pa e hpe
  rw[hpe] at c3
  dsimp only at c3
  by_cases he:e=0
  case neg =>
   rw[if_pos he]
   have he':(e=0)=False:=eq_false he
   cases osq with
   |false=>simp only[Bool.false_eq_true,if_false,Prod.mk.injEq] at hpe;exact absurd hpe.2.symm he
   |true =>
    simp only[if_true,Prod.mk.injEq] at hpe
    obtain⟨rfl,rfl⟩:=hpe
    unfold pts
    simp only[vY]
    unfold Zn.c Oq.cells Sv.cells at *
    dsimp only at *
    refine zG Tryz.tab Tryz.mixed Tryz.func57 rfl rfl Tryz.ntmps57 (by simp) (by simp) fun Q hr hn=>?_
    repeat' first|((first|refine O _ ?_|refine O _ _ ?_|(clear O;refine O _ ?_));clear O)|(refine zJ fun K O=>?_)|((first|refine zH ?_|refine zN rfl (by kernel_rfl) ?_|refine zM ?_|refine zK (by kernel_rfl) ?_);simp only[vZ,vY,strip])|((first|refine wIs fun K O=>?_|refine wOs fun K O=>?_|refine wQs fun K O=>?_|refine zW ?_|refine zX ?_|refine zY ?_|refine zL ?_);simp[h128,h128',he'])|(refine wIn ?_;refine And.intro (by kernel_rfl) ?_;try simp only[zZ])|refine zQ ?_|refine zS ?_|((first|refine zI ?_|refine zO ?_|refine zP ?_);try simp)|((first|refine zR ?_|refine wOn ?_|refine wQn ?_);try simp only[zZ])|refine zU.p c1 rfl ?_|refine zU.l c1 rfl ?_|refine zT.p c1 rfl ?_|refine zT.l c1 rfl ?_|refine zU.o c1 ?_|refine zV.p c1 rfl ?_|refine zV.l c1 rfl ?_|refine zV.o c1 ?_|refine zU.p c2 rfl ?_|refine zU.l c2 rfl ?_|refine zT.p c2 rfl ?_|refine zT.l c2 rfl ?_|refine zU.o c2 ?_|refine zV.p c2 rfl ?_|refine zV.l c2 rfl ?_|refine zV.o c2 ?_
    all_goals apply hr
    all_goals simp[Tryz.f57,show ByteArray.empty=bs [] from rfl]
  subst he
  rw[if_neg (by simp)]
  cases fb with
  |true =>
   rw[if_pos rfl]
   unfold pts
   simp only[vY]
   cases osq with
   |false =>
    simp only[Bool.false_eq_true,if_false,Prod.mk.injEq] at hpe
    obtain⟨rfl,-⟩:=hpe
    unfold Zn.c Oq.cells Sv.cells at *
    dsimp only at *
    refine zG Tryz.tab Tryz.mixed Tryz.func57 rfl rfl Tryz.ntmps57 (by simp) (by simp) fun Q hr hn=>?_
    repeat' first|((first|refine O _ ?_|refine O _ _ ?_|(clear O;refine O _ ?_));clear O)|(refine zJ fun K O=>?_)|((first|refine zH ?_|refine zN rfl (by kernel_rfl) ?_|refine zM ?_|refine zK (by kernel_rfl) ?_);simp only[vZ,vY,strip])|((first|refine wIs fun K O=>?_|refine wOs fun K O=>?_|refine wQs fun K O=>?_|refine zW ?_|refine zX ?_|refine zY ?_|refine zL ?_);simp[h128,h128'])|(refine wIn ?_;refine And.intro (by kernel_rfl) ?_;try simp only[zZ])|refine zQ ?_|refine zS ?_|((first|refine zI ?_|refine zO ?_|refine zP ?_);try simp)|((first|refine zR ?_|refine wOn ?_|refine wQn ?_);try simp only[zZ])|refine zU.p c1 rfl ?_|refine zU.l c1 rfl ?_|refine zT.p c1 rfl ?_|refine zT.l c1 rfl ?_|refine zU.o c1 ?_|refine zV.p c1 rfl ?_|refine zV.l c1 rfl ?_|refine zV.o c1 ?_|refine zU.p c3 rfl ?_|refine zU.l c3 rfl ?_|refine zT.p c3 rfl ?_|refine zT.l c3 rfl ?_|refine zU.o c3 ?_|refine zV.p c3 rfl ?_|refine zV.l c3 rfl ?_|refine zV.o c3 ?_
    all_goals apply hr
    all_goals simp[Tryz.f57,show ByteArray.empty=bs [] from rfl]
   |true =>
    simp only[if_true,Prod.mk.injEq] at hpe
    obtain⟨rfl,rfl⟩:=hpe
    unfold Zn.c Oq.cells Sv.cells at *
    dsimp only at *
    refine zG Tryz.tab Tryz.mixed Tryz.func57 rfl rfl Tryz.ntmps57 (by simp) (by simp) fun Q hr hn=>?_
    repeat' first|((first|refine O _ ?_|refine O _ _ ?_|(clear O;refine O _ ?_));clear O)|(refine zJ fun K O=>?_)|((first|refine zH ?_|refine zN rfl (by kernel_rfl) ?_|refine zM ?_|refine zK (by kernel_rfl) ?_);simp only[vZ,vY,strip])|((first|refine wIs fun K O=>?_|refine wOs fun K O=>?_|refine wQs fun K O=>?_|refine zW ?_|refine zX ?_|refine zY ?_|refine zL ?_);simp[h128,h128'])|(refine wIn ?_;refine And.intro (by kernel_rfl) ?_;try simp only[zZ])|refine zQ ?_|refine zS ?_|((first|refine zI ?_|refine zO ?_|refine zP ?_);try simp)|((first|refine zR ?_|refine wOn ?_|refine wQn ?_);try simp only[zZ])|refine zU.p c1 rfl ?_|refine zU.l c1 rfl ?_|refine zT.p c1 rfl ?_|refine zT.l c1 rfl ?_|refine zU.o c1 ?_|refine zV.p c1 rfl ?_|refine zV.l c1 rfl ?_|refine zV.o c1 ?_|refine zU.p c2 rfl ?_|refine zU.l c2 rfl ?_|refine zT.p c2 rfl ?_|refine zT.l c2 rfl ?_|refine zU.o c2 ?_|refine zV.p c2 rfl ?_|refine zV.l c2 rfl ?_|refine zV.o c2 ?_|refine zU.p c3 rfl ?_|refine zU.l c3 rfl ?_|refine zT.p c3 rfl ?_|refine zT.l c3 rfl ?_|refine zU.o c3 ?_|refine zV.p c3 rfl ?_|refine zV.l c3 rfl ?_|refine zV.o c3 ?_
    all_goals apply hr
    all_goals simp[Tryz.f57,show ByteArray.empty=bs [] from rfl]
  |false =>
  rw[if_neg (by simp)]
  by_cases h60:60<=s.ns.length
  ·rw[if_pos h60]
   have h60':(60:Int)<=s.ns.length:=by omega
   unfold pts
   simp only[vY]
   cases osq with
   |false =>
    simp only[Bool.false_eq_true,if_false,Prod.mk.injEq] at hpe
    obtain⟨rfl,-⟩:=hpe
    unfold Zn.c Oq.cells Sv.cells at *
    dsimp only at *
    refine zG Tryz.tab Tryz.mixed Tryz.func57 rfl rfl Tryz.ntmps57 (by simp) (by simp) fun Q hr hn=>?_
    repeat' first|((first|refine O _ ?_|refine O _ _ ?_|(clear O;refine O _ ?_));clear O)|(refine zJ fun K O=>?_)|((first|refine zH ?_|refine zN rfl (by kernel_rfl) ?_|refine zM ?_|refine zK (by kernel_rfl) ?_);simp only[vZ,vY,strip])|((first|refine wIs fun K O=>?_|refine wOs fun K O=>?_|refine wQs fun K O=>?_|refine zW ?_|refine zX ?_|refine zY ?_|refine zL ?_);simp[h128,h128',h60,h60'])|(refine wIn ?_;refine And.intro (by kernel_rfl) ?_;try simp only[zZ])|refine zQ ?_|refine zS ?_|((first|refine zI ?_|refine zO ?_|refine zP ?_);try simp)|((first|refine zR ?_|refine wOn ?_|refine wQn ?_);try simp only[zZ])|refine zU.p c1 rfl ?_|refine zU.l c1 rfl ?_|refine zT.p c1 rfl ?_|refine zT.l c1 rfl ?_|refine zU.o c1 ?_|refine zV.p c1 rfl ?_|refine zV.l c1 rfl ?_|refine zV.o c1 ?_|refine zU.p c3 rfl ?_|refine zU.l c3 rfl ?_|refine zT.p c3 rfl ?_|refine zT.l c3 rfl ?_|refine zU.o c3 ?_|refine zV.p c3 rfl ?_|refine zV.l c3 rfl ?_|refine zV.o c3 ?_
    all_goals apply hr
    all_goals simp[Tryz.f57,show ByteArray.empty=bs [] from rfl]
   |true =>
    simp only[if_true,Prod.mk.injEq] at hpe
    obtain⟨rfl,rfl⟩:=hpe
    unfold Zn.c Oq.cells Sv.cells at *
    dsimp only at *
    refine zG Tryz.tab Tryz.mixed Tryz.func57 rfl rfl Tryz.ntmps57 (by simp) (by simp) fun Q hr hn=>?_
    repeat' first|((first|refine O _ ?_|refine O _ _ ?_|(clear O;refine O _ ?_));clear O)|(refine zJ fun K O=>?_)|((first|refine zH ?_|refine zN rfl (by kernel_rfl) ?_|refine zM ?_|refine zK (by kernel_rfl) ?_);simp only[vZ,vY,strip])|((first|refine wIs fun K O=>?_|refine wOs fun K O=>?_|refine wQs fun K O=>?_|refine zW ?_|refine zX ?_|refine zY ?_|refine zL ?_);simp[h128,h128',h60,h60'])|(refine wIn ?_;refine And.intro (by kernel_rfl) ?_;try simp only[zZ])|refine zQ ?_|refine zS ?_|((first|refine zI ?_|refine zO ?_|refine zP ?_);try simp)|((first|refine zR ?_|refine wOn ?_|refine wQn ?_);try simp only[zZ])|refine zU.p c1 rfl ?_|refine zU.l c1 rfl ?_|refine zT.p c1 rfl ?_|refine zT.l c1 rfl ?_|refine zU.o c1 ?_|refine zV.p c1 rfl ?_|refine zV.l c1 rfl ?_|refine zV.o c1 ?_|refine zU.p c2 rfl ?_|refine zU.l c2 rfl ?_|refine zT.p c2 rfl ?_|refine zT.l c2 rfl ?_|refine zU.o c2 ?_|refine zV.p c2 rfl ?_|refine zV.l c2 rfl ?_|refine zV.o c2 ?_|refine zU.p c3 rfl ?_|refine zU.l c3 rfl ?_|refine zT.p c3 rfl ?_|refine zT.l c3 rfl ?_|refine zU.o c3 ?_|refine zV.p c3 rfl ?_|refine zV.l c3 rfl ?_|refine zV.o c3 ?_
    all_goals apply hr
    all_goals simp[Tryz.f57,show ByteArray.empty=bs [] from rfl]
  rw[if_neg h60]
  have h60':¬ (60:Int)<=s.ns.length:=by omega
  by_cases ht:te=0
  case neg =>
   rw[if_pos ht]
   have ht':(te=0)=False:=eq_false ht
   unfold pts
   simp only[vY]
   cases osq with
   |false =>
    simp only[Bool.false_eq_true,if_false,Prod.mk.injEq] at hpe
    obtain⟨rfl,-⟩:=hpe
    unfold Pt.cells Zn.c Oq.cells Sv.cells at *
    dsimp only at *
    refine zG Tryz.tab Tryz.mixed Tryz.func57 rfl rfl Tryz.ntmps57 (by simp) (by simp) fun Q hr hn=>?_
    repeat' first|((first|refine O _ ?_|refine O _ _ ?_|(clear O;refine O _ ?_));clear O)|(refine zJ fun K O=>?_)|((first|refine zH ?_|refine zN rfl (by kernel_rfl) ?_|refine zM ?_|refine zK (by kernel_rfl) ?_);simp only[vZ,vY,strip])|((first|refine wIs fun K O=>?_|refine wOs fun K O=>?_|refine wQs fun K O=>?_|refine zW ?_|refine zX ?_|refine zY ?_|refine zL ?_);simp[h128,h128',h60,h60',ht'])|(refine wIn ?_;refine And.intro (by kernel_rfl) ?_;try simp only[zZ])|refine zQ ?_|refine zS ?_|((first|refine zI ?_|refine zO ?_|refine zP ?_);try simp)|((first|refine zR ?_|refine wOn ?_|refine wQn ?_);try simp only[zZ])|refine zU.p c1 rfl ?_|refine zU.l c1 rfl ?_|refine zT.p c1 rfl ?_|refine zT.l c1 rfl ?_|refine zU.o c1 ?_|refine zV.p c1 rfl ?_|refine zV.l c1 rfl ?_|refine zV.o c1 ?_|refine zU.p c3 rfl ?_|refine zU.l c3 rfl ?_|refine zT.p c3 rfl ?_|refine zT.l c3 rfl ?_|refine zU.o c3 ?_|refine zV.p c3 rfl ?_|refine zV.l c3 rfl ?_|refine zV.o c3 ?_|refine zU.p c4 rfl ?_|refine zU.l c4 rfl ?_|refine zT.p c4 rfl ?_|refine zT.l c4 rfl ?_|refine zU.o c4 ?_|refine zV.p c4 rfl ?_|refine zV.l c4 rfl ?_|refine zV.o c4 ?_
    all_goals apply hr
    all_goals simp[Tryz.f57,show ByteArray.empty=bs [] from rfl]
   |true =>
    simp only[if_true,Prod.mk.injEq] at hpe
    obtain⟨rfl,rfl⟩:=hpe
    unfold Pt.cells Zn.c Oq.cells Sv.cells at *
    dsimp only at *
    refine zG Tryz.tab Tryz.mixed Tryz.func57 rfl rfl Tryz.ntmps57 (by simp) (by simp) fun Q hr hn=>?_
    repeat' first|((first|refine O _ ?_|refine O _ _ ?_|(clear O;refine O _ ?_));clear O)|(refine zJ fun K O=>?_)|((first|refine zH ?_|refine zN rfl (by kernel_rfl) ?_|refine zM ?_|refine zK (by kernel_rfl) ?_);simp only[vZ,vY,strip])|((first|refine wIs fun K O=>?_|refine wOs fun K O=>?_|refine wQs fun K O=>?_|refine zW ?_|refine zX ?_|refine zY ?_|refine zL ?_);simp[h128,h128',h60,h60',ht'])|(refine wIn ?_;refine And.intro (by kernel_rfl) ?_;try simp only[zZ])|refine zQ ?_|refine zS ?_|((first|refine zI ?_|refine zO ?_|refine zP ?_);try simp)|((first|refine zR ?_|refine wOn ?_|refine wQn ?_);try simp only[zZ])|refine zU.p c1 rfl ?_|refine zU.l c1 rfl ?_|refine zT.p c1 rfl ?_|refine zT.l c1 rfl ?_|refine zU.o c1 ?_|refine zV.p c1 rfl ?_|refine zV.l c1 rfl ?_|refine zV.o c1 ?_|refine zU.p c2 rfl ?_|refine zU.l c2 rfl ?_|refine zT.p c2 rfl ?_|refine zT.l c2 rfl ?_|refine zU.o c2 ?_|refine zV.p c2 rfl ?_|refine zV.l c2 rfl ?_|refine zV.o c2 ?_|refine zU.p c3 rfl ?_|refine zU.l c3 rfl ?_|refine zT.p c3 rfl ?_|refine zT.l c3 rfl ?_|refine zU.o c3 ?_|refine zV.p c3 rfl ?_|refine zV.l c3 rfl ?_|refine zV.o c3 ?_|refine zU.p c4 rfl ?_|refine zU.l c4 rfl ?_|refine zT.p c4 rfl ?_|refine zT.l c4 rfl ?_|refine zU.o c4 ?_|refine zV.p c4 rfl ?_|refine zV.l c4 rfl ?_|refine zV.o c4 ?_
    all_goals apply hr
    all_goals simp[Tryz.f57,show ByteArray.empty=bs [] from rfl]
  subst ht
  rw[if_neg (by simp)]
  unfold pts putPt newZ cf0
  simp only[vZ,vY]
  cases osq with
  |false =>
   simp only[Bool.false_eq_true,if_false,Prod.mk.injEq] at hpe
   obtain⟨rfl,-⟩:=hpe
   cases oow
   all_goals
    unfold Pt.cells Zn.c Oq.cells Sv.cells at *
    dsimp only at *
    refine zG Tryz.tab Tryz.mixed Tryz.func57 rfl rfl Tryz.ntmps57 (by simp) (by simp) fun Q hr hn=>?_
    repeat' first|((first|refine O _ ?_|refine O _ _ ?_|(clear O;refine O _ ?_));clear O)|(refine zJ fun K O=>?_)|((first|refine zH ?_|refine zN rfl (by kernel_rfl) ?_|refine zM ?_|refine zK (by kernel_rfl) ?_);simp only[vZ,vY,strip])|((first|refine wIs fun K O=>?_|refine wOs fun K O=>?_|refine wQs fun K O=>?_|refine zW ?_|refine zX ?_|refine zY ?_|refine zL ?_);simp[h128,h128',h60,h60'])|(refine wIn ?_;refine And.intro (by kernel_rfl) ?_;try simp only[zZ])|refine zQ ?_|refine zS ?_|((first|refine zI ?_|refine zO ?_|refine zP ?_);try simp)|((first|refine zR ?_|refine wOn ?_|refine wQn ?_);try simp only[zZ])|refine zU.p c1 rfl ?_|refine zU.l c1 rfl ?_|refine zT.p c1 rfl ?_|refine zT.l c1 rfl ?_|refine zU.o c1 ?_|refine zV.p c1 rfl ?_|refine zV.l c1 rfl ?_|refine zV.o c1 ?_|refine zU.p c3 rfl ?_|refine zU.l c3 rfl ?_|refine zT.p c3 rfl ?_|refine zT.l c3 rfl ?_|refine zU.o c3 ?_|refine zV.p c3 rfl ?_|refine zV.l c3 rfl ?_|refine zV.o c3 ?_|refine zU.p c4 rfl ?_|refine zU.l c4 rfl ?_|refine zT.p c4 rfl ?_|refine zT.l c4 rfl ?_|refine zU.o c4 ?_|refine zV.p c4 rfl ?_|refine zV.l c4 rfl ?_|refine zV.o c4 ?_
    all_goals apply hr
    all_goals simp[Tryz.f57,mbs,show ByteArray.empty=bs [] from rfl]
  |true =>
   simp only[if_true,Prod.mk.injEq] at hpe
   obtain⟨rfl,rfl⟩:=hpe
   cases oow
   all_goals
    unfold Pt.cells Zn.c Oq.cells Sv.cells at *
    dsimp only at *
    refine zG Tryz.tab Tryz.mixed Tryz.func57 rfl rfl Tryz.ntmps57 (by simp) (by simp) fun Q hr hn=>?_
    repeat' first|((first|refine O _ ?_|refine O _ _ ?_|(clear O;refine O _ ?_));clear O)|(refine zJ fun K O=>?_)|((first|refine zH ?_|refine zN rfl (by kernel_rfl) ?_|refine zM ?_|refine zK (by kernel_rfl) ?_);simp only[vZ,vY,strip])|((first|refine wIs fun K O=>?_|refine wOs fun K O=>?_|refine wQs fun K O=>?_|refine zW ?_|refine zX ?_|refine zY ?_|refine zL ?_);simp[h128,h128',h60,h60'])|(refine wIn ?_;refine And.intro (by kernel_rfl) ?_;try simp only[zZ])|refine zQ ?_|refine zS ?_|((first|refine zI ?_|refine zO ?_|refine zP ?_);try simp)|((first|refine zR ?_|refine wOn ?_|refine wQn ?_);try simp only[zZ])|refine zU.p c1 rfl ?_|refine zU.l c1 rfl ?_|refine zT.p c1 rfl ?_|refine zT.l c1 rfl ?_|refine zU.o c1 ?_|refine zV.p c1 rfl ?_|refine zV.l c1 rfl ?_|refine zV.o c1 ?_|refine zU.p c2 rfl ?_|refine zU.l c2 rfl ?_|refine zT.p c2 rfl ?_|refine zT.l c2 rfl ?_|refine zU.o c2 ?_|refine zV.p c2 rfl ?_|refine zV.l c2 rfl ?_|refine zV.o c2 ?_|refine zU.p c3 rfl ?_|refine zU.l c3 rfl ?_|refine zT.p c3 rfl ?_|refine zT.l c3 rfl ?_|refine zU.o c3 ?_|refine zV.p c3 rfl ?_|refine zV.l c3 rfl ?_|refine zV.o c3 ?_|refine zU.p c4 rfl ?_|refine zU.l c4 rfl ?_|refine zT.p c4 rfl ?_|refine zT.l c4 rfl ?_|refine zU.o c4 ?_|refine zV.p c4 rfl ?_|refine zV.l c4 rfl ?_|refine zV.o c4 ?_
    all_goals apply hr
    all_goals simp[Tryz.f57,mbs,show ByteArray.empty=bs [] from rfl]
 exact go _ _ rfl
def xP (ns:List Zn)(o:Oq)(ses:Int):List Pt × List UInt8 × Int :=
 if o.k=1 then crtM ns o ses
 else if o.k=3/\128<o.da.length then ([],[],5)
 else if o.k=2\/o.k=3\/o.k=4 then ((tchL ns o).1,[],(tchL ns o).2)
 else ([],[],1)
set_option maxHeartbeats 2000000 in
theorem one_con (s:Sv)(o:Oq)(ses:Int)(hl:s.ns.length<=1000000)(hp:o.pa.length<=9223372036854775807)(hd:o.da.length<=9223372036854775807)(hn:okN s.ns):zD Tryz.prog 48 [.p (.agg s.cells),.p (.agg o.cells),.p (I ses)] (.tup [.p (.sl 11 (pts (xP s.ns o ses).1)),.p (SB (xP s.ns o ses).2.1),.p (I (xP s.ns o ses).2.2)]):=by
 have c1:=create_con s o ses hl hp hd hn
 have c2:=touch_con s o hl hp hn
 unfold xP
 generalize crtM s.ns o ses=r at *
 generalize tchL s.ns o=t at *
 obtain⟨ok,opa,oda,ov,oow,osq⟩:=o
 dsimp only at *
 by_cases h1:ok=1
 ·subst h1
  rw[if_pos rfl]
  unfold Oq.cells Sv.cells at *
  dsimp only at *
  refine zG Tryz.tab Tryz.mixed Tryz.func48 rfl rfl Tryz.ntmps48 (by simp) (by simp) fun Q hr hn=>?_
  repeat' first|((first|refine O _ ?_|refine O _ _ ?_|(clear O;(first|refine O _ ?_|(clear O;(first|refine O _ ?_|(clear O;(first|refine O _ ?_|(clear O;refine O _ ?_))))))));clear O)|(refine zJ fun K O=>?_)|((first|refine zH ?_|refine zN rfl (by kernel_rfl) ?_|refine zM ?_|refine zK (by kernel_rfl) ?_);simp only[vZ,vY,strip])|((first|refine wIs fun K O=>?_|refine wOs fun K O=>?_|refine wQs fun K O=>?_|refine zW ?_|refine zX ?_|refine zY ?_|refine zL ?_);simp)|(refine wIn ?_;refine And.intro (by kernel_rfl) ?_;try simp only[zZ])|refine zQ ?_|refine zS ?_|((first|refine zI ?_|refine zO ?_|refine zP ?_);try simp)|((first|refine zR ?_|refine wOn ?_|refine wQn ?_);try simp only[zZ])|refine zU.p c1 rfl ?_|refine zU.l c1 rfl ?_|refine zT.p c1 rfl ?_|refine zT.l c1 rfl ?_|refine zU.o c1 ?_|refine zV.p c1 rfl ?_|refine zV.l c1 rfl ?_|refine zV.o c1 ?_
  all_goals apply hr
  all_goals simp[Tryz.f48]
 rw[if_neg h1]
 have h1':(ok=1)=False:=eq_false h1
 by_cases h3:ok=3
 ·subst h3
  by_cases h128:128<oda.length
  ·rw[if_pos ⟨rfl,h128⟩]
   have h128':(128:Int)<oda.length:=by omega
   unfold pts
   simp only[vY]
   unfold Oq.cells Sv.cells at *
   dsimp only at *
   refine zG Tryz.tab Tryz.mixed Tryz.func48 rfl rfl Tryz.ntmps48 (by simp) (by simp) fun Q hr hn=>?_
   repeat' first|((first|refine O _ ?_|refine O _ _ ?_|(clear O;(first|refine O _ ?_|(clear O;(first|refine O _ ?_|(clear O;(first|refine O _ ?_|(clear O;refine O _ ?_))))))));clear O)|(refine zJ fun K O=>?_)|((first|refine zH ?_|refine zN rfl (by kernel_rfl) ?_|refine zM ?_|refine zK (by kernel_rfl) ?_);simp only[vZ,vY,strip])|((first|refine wIs fun K O=>?_|refine wOs fun K O=>?_|refine wQs fun K O=>?_|refine zW ?_|refine zX ?_|refine zY ?_|refine zL ?_);simp[h128,h128'])|(refine wIn ?_;refine And.intro (by kernel_rfl) ?_;try simp only[zZ])|refine zQ ?_|refine zS ?_|((first|refine zI ?_|refine zO ?_|refine zP ?_);try simp)|((first|refine zR ?_|refine wOn ?_|refine wQn ?_);try simp only[zZ])
   all_goals apply hr
   all_goals simp[Tryz.f48,show ByteArray.empty=bs [] from rfl]
  ·rw[if_neg (fun h=>h128 h.2),if_pos (.inr (.inl rfl))]
   have h128':¬ (128:Int)<oda.length:=by omega
   unfold Oq.cells Sv.cells at *
   dsimp only at *
   refine zG Tryz.tab Tryz.mixed Tryz.func48 rfl rfl Tryz.ntmps48 (by simp) (by simp) fun Q hr hn=>?_
   repeat' first|((first|refine O _ ?_|refine O _ _ ?_|(clear O;(first|refine O _ ?_|(clear O;(first|refine O _ ?_|(clear O;(first|refine O _ ?_|(clear O;refine O _ ?_))))))));clear O)|(refine zJ fun K O=>?_)|((first|refine zH ?_|refine zN rfl (by kernel_rfl) ?_|refine zM ?_|refine zK (by kernel_rfl) ?_);simp only[vZ,vY,strip])|((first|refine wIs fun K O=>?_|refine wOs fun K O=>?_|refine wQs fun K O=>?_|refine zW ?_|refine zX ?_|refine zY ?_|refine zL ?_);simp[h128,h128'])|(refine wIn ?_;refine And.intro (by kernel_rfl) ?_;try simp only[zZ])|refine zQ ?_|refine zS ?_|((first|refine zI ?_|refine zO ?_|refine zP ?_);try simp)|((first|refine zR ?_|refine wOn ?_|refine wQn ?_);try simp only[zZ])|refine zU.p c2 rfl ?_|refine zU.l c2 rfl ?_|refine zT.p c2 rfl ?_|refine zT.l c2 rfl ?_|refine zU.o c2 ?_|refine zV.p c2 rfl ?_|refine zV.l c2 rfl ?_|refine zV.o c2 ?_
   all_goals apply hr
   all_goals simp[Tryz.f48,show ByteArray.empty=bs [] from rfl]
 rw[if_neg (fun h=>h3 h.1)]
 have h3':(ok=3)=False:=eq_false h3
 by_cases h2:ok=2
 ·subst h2
  rw[if_pos (.inl rfl)]
  unfold Oq.cells Sv.cells at *
  dsimp only at *
  refine zG Tryz.tab Tryz.mixed Tryz.func48 rfl rfl Tryz.ntmps48 (by simp) (by simp) fun Q hr hn=>?_
  repeat' first|((first|refine O _ ?_|refine O _ _ ?_|(clear O;(first|refine O _ ?_|(clear O;(first|refine O _ ?_|(clear O;(first|refine O _ ?_|(clear O;refine O _ ?_))))))));clear O)|(refine zJ fun K O=>?_)|((first|refine zH ?_|refine zN rfl (by kernel_rfl) ?_|refine zM ?_|refine zK (by kernel_rfl) ?_);simp only[vZ,vY,strip])|((first|refine wIs fun K O=>?_|refine wOs fun K O=>?_|refine wQs fun K O=>?_|refine zW ?_|refine zX ?_|refine zY ?_|refine zL ?_);simp)|(refine wIn ?_;refine And.intro (by kernel_rfl) ?_;try simp only[zZ])|refine zQ ?_|refine zS ?_|((first|refine zI ?_|refine zO ?_|refine zP ?_);try simp)|((first|refine zR ?_|refine wOn ?_|refine wQn ?_);try simp only[zZ])|refine zU.p c2 rfl ?_|refine zU.l c2 rfl ?_|refine zT.p c2 rfl ?_|refine zT.l c2 rfl ?_|refine zU.o c2 ?_|refine zV.p c2 rfl ?_|refine zV.l c2 rfl ?_|refine zV.o c2 ?_
  all_goals apply hr
  all_goals simp[Tryz.f48,show ByteArray.empty=bs [] from rfl]
 have h2':(ok=2)=False:=eq_false h2
 by_cases h4:ok=4
 ·subst h4
  rw[if_pos (.inr (.inr rfl))]
  unfold Oq.cells Sv.cells at *
  dsimp only at *
  refine zG Tryz.tab Tryz.mixed Tryz.func48 rfl rfl Tryz.ntmps48 (by simp) (by simp) fun Q hr hn=>?_
  repeat' first|((first|refine O _ ?_|refine O _ _ ?_|(clear O;(first|refine O _ ?_|(clear O;(first|refine O _ ?_|(clear O;(first|refine O _ ?_|(clear O;refine O _ ?_))))))));clear O)|(refine zJ fun K O=>?_)|((first|refine zH ?_|refine zN rfl (by kernel_rfl) ?_|refine zM ?_|refine zK (by kernel_rfl) ?_);simp only[vZ,vY,strip])|((first|refine wIs fun K O=>?_|refine wOs fun K O=>?_|refine wQs fun K O=>?_|refine zW ?_|refine zX ?_|refine zY ?_|refine zL ?_);simp)|(refine wIn ?_;refine And.intro (by kernel_rfl) ?_;try simp only[zZ])|refine zQ ?_|refine zS ?_|((first|refine zI ?_|refine zO ?_|refine zP ?_);try simp)|((first|refine zR ?_|refine wOn ?_|refine wQn ?_);try simp only[zZ])|refine zU.p c2 rfl ?_|refine zU.l c2 rfl ?_|refine zT.p c2 rfl ?_|refine zT.l c2 rfl ?_|refine zU.o c2 ?_|refine zV.p c2 rfl ?_|refine zV.l c2 rfl ?_|refine zV.o c2 ?_
  all_goals apply hr
  all_goals simp[Tryz.f48,show ByteArray.empty=bs [] from rfl]
 have h4':(ok=4)=False:=eq_false h4
 rw[if_neg (by rintro (h|h|h) <;> contradiction)]
 unfold pts
 simp only[vY]
 unfold Oq.cells Sv.cells at *
 dsimp only at *
 refine zG Tryz.tab Tryz.mixed Tryz.func48 rfl rfl Tryz.ntmps48 (by simp) (by simp) fun Q hr hn=>?_
 repeat' first|((first|refine O _ ?_|refine O _ _ ?_|(clear O;(first|refine O _ ?_|(clear O;(first|refine O _ ?_|(clear O;(first|refine O _ ?_|(clear O;refine O _ ?_))))))));clear O)|(refine zJ fun K O=>?_)|((first|refine zH ?_|refine zN rfl (by kernel_rfl) ?_|refine zM ?_|refine zK (by kernel_rfl) ?_);simp only[vZ,vY,strip])|((first|refine wIs fun K O=>?_|refine wOs fun K O=>?_|refine wQs fun K O=>?_|refine zW ?_|refine zX ?_|refine zY ?_|refine zL ?_);simp[h1',h2',h3',h4'])|(refine wIn ?_;refine And.intro (by kernel_rfl) ?_;try simp only[zZ])|refine zQ ?_|refine zS ?_|((first|refine zI ?_|refine zO ?_|refine zP ?_);try simp)|((first|refine zR ?_|refine wOn ?_|refine wQn ?_);try simp only[zZ])
 all_goals apply hr
 all_goals simp[Tryz.f48,show ByteArray.empty=bs [] from rfl]
end Go.Proofs.YtedbbcmokbogpaaGreatDoor
