/- Texts that the proof needs: PR4. -/
import Derived.Test.YtedbbcmokbogpaaGreatDoorP37PrepNumbers
import Derived.Test.YtedbbcmokbogpaaGreatDoorP38PrepNumbers
namespace Go.Proofs.YtedbbcmokbogpaaGreatDoor
set_option linter.unusedSimpArgs false
set_option linter.unusedVariables false
set_option maxRecDepth 8000
open Go Go.Av
attribute [local irreducible] Go.Av.yP Go.Av.zU Go.Av.yN Go.Av.zT Go.Av.yO Go.Av.zV Go.Av.Con
theorem wFrzRp [Glob]{P:Program}{T:TypeId->Option Ty}{N:Nat}{ops:Array Oper}{o:Oper}{rest:List Oper}{st:St}{K:St->Prop}{Z:Value->St->Prop}(b:Nat){e c:Nat}(X:List (List PV))(hb:st.b b=some (.row e c X))(h:WO P T N ops (o::rest) (Av.frz st b c X) K Z):WO P T N ops (o::rest) st K Z:=by
 refine wFrz [.frz b] ?_
 have e0:wY st [.frz b]=Av.frz st b c X:=by simp only[wY,gh1,hb]
 rw[e0]
 exact h
theorem refusedX_con (e n ses x r b:Int)(m:List UInt8)(q:PV)(hq:q.one=true)(er:Int):zD Tryz.prog 24 [.p (.agg [I e,I n,I ses,I x,I r,I b,SB m,q]),.p (I er)] (.p (.agg [I e,I n,I ses,I x,I er,I 0,SB [],.v (.slice none 0 0)])):=by
 refine zG Tryz.tab Tryz.mixed Tryz.func24 rfl rfl Tryz.ntmps24 (by simp) (by simp) fun Q hr hn=>?_
 repeat' first|((first|refine O _ ?_|refine O _ _ ?_|(clear O;refine O _ ?_));clear O)|(refine zJ fun K O=>?_)|((first|refine zH ?_|refine zN rfl (by kernel_rfl) ?_|refine zM ?_|refine zK (by kernel_rfl) ?_);simp only[vZ,vY,strip])|((first|refine wIs fun K O=>?_|refine wOs fun K O=>?_|refine wQs fun K O=>?_|refine zW ?_|refine zX ?_|refine zY ?_|refine zL ?_);simp[hq])|(refine wIn ?_;refine And.intro (by kernel_rfl) ?_;try simp only[zZ])|refine zQ ?_|refine zS ?_|((first|refine zI ?_|refine zO ?_|refine zP ?_);try simp)|((first|refine zR ?_|refine wOn ?_|refine wQn ?_);try simp only[zZ])
 all_goals apply hr
 all_goals simp[Tryz.f24,show ByteArray.empty=bs [] from rfl]
theorem wkT (e n ses x er b:Int)(m:List UInt8):Wk (.p (.agg [I e,I n,I ses,I x,I er,I b,SB m,.v (.slice none 0 0)])) (.p (.agg (Tx.cells ⟨e,n,ses,x,er,b,m,[]⟩))) :=
 .agg _ _ ⟨.same _,.same _,.same _,.same _,.same _,.same _,.same _,.nil 11,trivial⟩
theorem refused_con (e n ses x r b:Int)(m:List UInt8)(q:PV)(hq:q.one=true)(er:Int):zD Tryz.prog 24 [.p (.agg [I e,I n,I ses,I x,I r,I b,SB m,q]),.p (I er)] (.p (.agg (Tx.cells ⟨e,n,ses,x,er,0,[],[]⟩))) :=
 (refusedX_con e n ses x r b m q hq er).wkR (wkT ..)
def okP (p:Pt):Prop:=0<=p.z.k/\0<=p.z.v/\long p.z/\p.c=cf0
theorem stepP_okN {s:Sv}(h:okN s.ns){p:Pt}(hp:okP p):okN (yS s p).ns:=by
 unfold yS
 split
 ·intro z hz
  rcases put_mem hz with rfl|hz
  ·exact⟨hp.1,hp.2.1,hp.2.2.1⟩
  ·exact h z hz
 split
 ·intro z hz
  exact h z (List.mem_filter.1 hz).1
 split
 ·exact h
 split
 ·exact h
 split <;> exact h
theorem runP_okN:∀ (l:List Pt){s:Sv},okN s.ns->(∀p∈l,okP p)->okN (yU s l).ns
 |[],s,h,_=>h
 |p::l,s,h,hp=>runP_okN l (stepP_okN h (hp p List.mem_cons_self)) fun q hq=>hp q (List.mem_cons_of_mem _ hq)
theorem doS_okN {s:Sv}{t:Tx}(h:okN s.ns)(hp:∀p∈t.ps,okP p):okN (doS s t).ns:=runP_okN t.ps h hp
theorem okP_T {t:Tx}(h:∀p∈t.ps,okP p):okT t:=fun p hp=>by
 rw[(h p hp).2.2.2];exact (show (0:Nat)<=4398046510976 by decide)
theorem turnP_ok {z:Zn}(h:0<=z.k/\0<=z.v/\long z):okP (turnP z):=by
 unfold turnP
 split
 ·exact⟨by decide,by decide,⟨by decide,by decide⟩,rfl⟩
 ·exact⟨by show 0<=z.k+1;omega,h.2.1,h.2.2,rfl⟩
theorem gonPt_ok (p:List UInt8)(h:p.length<=9223372036854775807):okP (gonPt p):=⟨Int.le_refl 0,Int.le_refl 0,⟨h,Nat.zero_le _⟩,rfl⟩
theorem gonL_ok {ns:List Zn}(h:okN ns){p:List UInt8}(hp:p.length<=9223372036854775807):(∀q∈(wU ns p).1,okP q)/\(wU ns p).1.length<=2:=by
 unfold wU
 split
 ·refine⟨fun q hq=>?_,by simp⟩
  simp at hq
  rcases hq with rfl|rfl
  ·exact gonPt_ok p hp
  ·exact turnP_ok (fnd_okN h _)
 ·exact⟨by simp,by simp⟩
theorem tchL_ok {ns:List Zn}(h:okN ns){o:Oq}(hp:o.pa.length<=9223372036854775807)(hd:o.da.length<=9223372036854775807):(∀q∈(tchL ns o).1,okP q)/\(tchL ns o).1.length<=2:=by
 unfold tchL
 have hg:=getZ_okN h o.pa
 split
 ·split
  ·exact⟨by simp,by simp⟩
  split
  ·unfold remL
   split
   ·split
    ·exact gonL_ok h hg.2.2.1
    ·exact⟨by simp,by simp⟩
   ·exact⟨by simp,by simp⟩
  split
  ·exact⟨by simp,by simp⟩
  split
  ·exact⟨by simp,by simp⟩
  ·refine⟨fun q hq=>?_,by simp⟩
   simp at hq
   subst hq
   exact⟨hg.1,by show 0<=(getZ ns o.pa).1.v+1;omega,⟨hg.2.2.1,hd⟩,rfl⟩
 ·exact⟨by simp,by simp⟩
theorem crP_len (o:Oq)(z:Zn)(hp:o.pa.length<=9223372036854775807):(crP o z).1.length<=9223372036854775807:=by
 unfold crP;split
 ·have:=nmb_len (p:=o.pa) (n:=z.k);omega
 ·exact hp
theorem hldM_ok {ns:List Zn}(h:okN ns)(o:Oq):0<=(xC ns o).1.k/\0<=(xC ns o).1.v/\long (xC ns o).1:=by
 have z0:=zz_ok
 unfold xC
 split
 ·split
  ·split
   ·split
    ·exact fnd_okN h _
    ·exact z0
   ·exact z0
  ·exact z0
 ·exact z0
theorem oneM_ok {ns:List Zn}(h:okN ns){o:Oq}(ses:Int)(hp:o.pa.length<=9223372036854775807)(hd:o.da.length<=9223372036854775807):(∀q∈(xP ns o ses).1,okP q)/\(xP ns o ses).1.length<=2:=by
 have no:(∀q∈([]:List Pt),okP q)/\([]:List Pt).length<=2:=⟨by simp,by simp⟩
 unfold xP
 split
 ·unfold crtM
  split
  ·exact no
  split
  ·exact no
  split
  ·exact no
  split
  ·exact no
  split
  ·exact no
  split
  ·exact no
  ·refine⟨fun q hq=>?_,by simp⟩
   simp at hq
   rcases hq with rfl|rfl
   ·exact turnP_ok (hldM_ok h o)
   ·exact⟨by show (0:Int)<=0;decide,by show (0:Int)<=0;decide,⟨crP_len o _ hp,hd⟩,rfl⟩
 split
 ·exact no
 split
 ·exact tchL_ok h hp hd
 ·exact no
def txP (ps:List Pt):Tx:=⟨0,0,0,0,0,0,[],ps⟩
def xJ (s:Sv)(ses:Int):List Oq->Nat->List UInt8->List Pt->Int × Nat × List UInt8 × List Pt
 |[],i,m,ps=>(0,i,m,ps)
 |o::l,i,m,ps =>
  if (xP s.ns o ses).2.2=0 then xJ (doS s (txP (xP s.ns o ses).1)) ses l (i+1) (if m=[] then (xP s.ns o ses).2.1 else m) (ps++(xP s.ns o ses).1)
  else ((xP s.ns o ses).2.2,i,m,ps)
def chgT (s:Sv)(ops:List Oq)(e n ses x:Int):Tx :=
 if ops.length=0\/8<ops.length then ⟨e,n,ses,x,1,0,[],[]⟩
 else if (xJ s ses ops 0 [] []).1=0 then ⟨e,n,ses,x,0,0,(xJ s ses ops 0 [] []).2.2.1,(xJ s ses ops 0 [] []).2.2.2⟩
 else ⟨e,n,ses,x,(xJ s ses ops 0 [] []).1,(xJ s ses ops 0 [] []).2.1,[],[]⟩
theorem chgM_step {s:Sv}{ses:Int}{ops:List Oq}{k:Nat}(h:k<ops.length)(m:List UInt8)(ps:List Pt) :
 xJ s ses (ops.drop k) k m ps=if (xP s.ns ops[k] ses).2.2=0 then xJ (doS s (txP (xP s.ns ops[k] ses).1)) ses (ops.drop (k+1)) (k+1) (if m=[] then (xP s.ns ops[k] ses).2.1 else m) (ps++(xP s.ns ops[k] ses).1) else ((xP s.ns ops[k] ses).2.2,k,m,ps):=by
 rw[List.drop_eq_getElem_cons h,xJ]
theorem pts_app (a b:List Pt):pts a++pts b=pts (a++b):=by simp[pts]
abbrev nilS:PV := .v (.slice none 0 0)
set_option maxHeartbeats 16000000 in
theorem changedR_con (s:Sv)(ops:List Oq)(e n ses x:Int)(R:List PV)(hF:Fits s 100)(hN:okN s.ns)(ho:∀o∈ops,o.pa.length<=9223372036854775807/\o.da.length<=9223372036854775807)(hol:ops.length<=9223372036854775807)(h0:¬ ops.length=0)(h8:¬ 8<ops.length)
 (hR0:(xJ s ses ops 0 [] []).1=0->R=Tx.cells ⟨e,n,ses,x,0,0,(xJ s ses ops 0 [] []).2.2.1,(xJ s ses ops 0 [] []).2.2.2⟩)(hR1:¬ (xJ s ses ops 0 [] []).1=0->R=[I e,I n,I ses,I x,I (xJ s ses ops 0 [] []).1,I (xJ s ses ops 0 [] []).2.1,SB [],nilS]) :
 zD Tryz.prog 25 [.p (.agg s.cells),.p (.sl 6 (oqs ops)),.p (.agg [I e,I n,I ses,I x,I 0,I 0,SB [],nilS])] (.p (.agg R)):=by
 have h0':¬ (ops.length:Int)=0:=by omega
 have h8':¬ (8:Int)<ops.length:=by omega
 unfold Sv.cells
 refine zG Tryz.tab Tryz.mixed Tryz.func25 rfl rfl Tryz.ntmps25 (by simp) (by simp) fun Q hr hn=>?_
 repeat' first|((first|refine O _ ?_|refine O _ _ ?_|(clear O;refine O _ ?_));clear O)|(refine zJ fun K O=>?_)|((first|refine zH ?_|refine zN rfl (by kernel_rfl) ?_|refine zM ?_|refine zK (by kernel_rfl) ?_);simp only[vZ,vY,strip])|((first|refine wIs fun K O=>?_|refine wOs fun K O=>?_|refine wQs fun K O=>?_|refine zW ?_|refine zX ?_|refine zY ?_|refine zL ?_);simp[h0,h0',h8,h8'])|(refine wIn ?_;refine And.intro (by kernel_rfl) ?_;try simp only[zZ])|refine zQ ?_|refine zS ?_|((first|refine zI ?_|refine zO ?_|refine zP ?_);try simp)|((first|refine zR ?_|refine wOn ?_|refine wQn ?_);try simp only[zZ])
 refine wLoopG [.cel 5 7 58 63 11] (fun N st=>∃ (k:Nat)(S:Sv)(m:List UInt8)(ps:List Pt),k+N=ops.length/\(Fits S (100-2 * k)/\okN S.ns/\ps.length<=2 * k/\xJ S ses (ops.drop k) k m ps=xJ s ses ops 0 [] []) ∧
  st.s 3=.ptr 3 0/\st.b 3=some (.box 30 [.p (.sl 5 (zns S.ns)),.p (.sl 1 (ints S.ss)),.p (I S.nx),.p (I S.c.ep),.p (I S.c.n),.p (I S.c.kind),.p (.sl 4 (mbs S.c.ms)),.p (I S.ae),.p (I S.an)]) ∧
  st.s 5=.ptr 5 0/\st.b 5=some (.box 42 [.p (I e),.p (I n),.p (I ses),.p (I x),.p (I 0),.p (I 0),.p (SB m),.row 58])/\st.b 58=some (.row 63 11 (pts ps)) ∧
  st.s 6=.ptr 6 0/\st.b 6=some (.box 42 [.p (I 0),.p (I 0),.p (I 0),.p (I 0),.p (I 0),.p (I 0),.p (SB []),.p nilS]) ∧
  st.s 22=.p (.sl 6 (oqs ops))/\st.s 23=.p (I ops.length)/\st.s 24=.p (I k)) ops.length ⟨0,s,[],[],by simp,⟨hF,hN,by simp,by simp⟩,by simp[wY,gh1,pts,show ByteArray.empty=bs [] from rfl]⟩ fun K N st hL ⟨k,S,m,ps,hk,⟨hF1,hn1,hpl,hg⟩,g3,b3,g5,b5,b58,g6,b6,g22,g23,g24⟩=>?_
 by_cases hlt:k<ops.length
 case neg =>
  have hlt':¬ (k:Int)<ops.length:=by omega
  rw[List.drop_of_length_le (by omega),xJ] at hg
  rw[<- hg] at hR0
  obtain rfl:=hR0 rfl
  repeat' first|((first|refine O _ ?_|refine O _ _ ?_|(clear O;refine O _ ?_));clear O)|(refine zJ fun K O=>?_)|((first|refine zH ?_|refine zN rfl (by kernel_rfl) ?_|refine zM ?_|refine zK (by kernel_rfl) ?_);simp only[vZ,vY,strip])|((first|refine wIs fun K O=>?_|refine wOs fun K O=>?_|refine wQs fun K O=>?_|refine zW ?_|refine zX ?_|refine zY ?_|refine zL ?_);simp[g3,b3,g5,b5,b58,g6,b6,g22,g23,g24,hlt,hlt'])|(refine wIn ?_;refine And.intro (by kernel_rfl) ?_;try simp only[zZ])|refine zQ ?_|refine zS ?_|((first|refine zI ?_|refine zO ?_|refine zP ?_);try simp)|((first|refine zR ?_|refine wOn ?_|refine wQn ?_);try simp only[zZ])
  all_goals apply hr
  all_goals simp[Tryz.f25,Tx.cells,g3,b3,g5,b5,b58,g6,b6]
 have hlt':(k:Int)<ops.length:=by omega
 have hw:=yA k _ hlt (by omega)
 have he:=oqs_get hlt
 have hoo:=ho _ (List.getElem_mem hlt)
 rw[chgM_step hlt] at hg
 have c1:=one_con S ops[k] ses (by have:=hF1.ns;omega) hoo.1 hoo.2 hn1
 obtain⟨ok1,ok2⟩:=oneM_ok hn1 ses hoo.1 hoo.2
 have c2:=apply_con S (txP (xP S.ns ops[k] ses).1) (hF1.le (by show (xP S.ns ops[k] ses).1.length<=_;omega)) (okP_T ok1)
 have hF2:Fits (doS S (txP (xP S.ns ops[k] ses).1)) (100-2 * (k+1)):=doS_fits (hF1.le (by show (xP S.ns ops[k] ses).1.length+_<=_;omega)) (okP_T ok1)
 have hn2:okN (doS S (txP (xP S.ns ops[k] ses).1)).ns:=doS_okN hn1 ok1
 generalize doS S (txP (xP S.ns ops[k] ses).1)=S2 at *
 have hcell:=Option.some.inj ((List.getElem?_eq_getElem (by simpa using hlt:k<(oqs ops).length)).symm.trans he)
 generalize xP S.ns ops[k] ses=r at *
 generalize ops[k]=o at he hcell c1
 obtain⟨rp,rm,re⟩:=r
 obtain⟨ok,opa,oda,ov,oow,osq⟩:=o
 dsimp only at he hcell c1 c2 hg ok1 ok2
 by_cases hre:re=0
 case neg =>
  rw[if_neg hre] at hg
  rw[<- hg] at hR1
  obtain rfl:=hR1 hre
  have hre':(re=0)=False:=eq_false hre
  have c3:=refusedX_con e n ses x 0 0 m (.sl 11 (pts ps)) rfl re
  unfold Tx.cells at *
  dsimp only at *
  unfold Sv.cells Oq.cells at c1
  repeat' first|(refine wFrzRp 58 (pts ps) b58 ?_;simp[frz,sub,xH,subB,g3,b3,g5,b5,g6,b6,g22,g23,g24])|((first|refine O _ ?_|refine O _ _ ?_|(clear O;refine O _ ?_));clear O)|(refine zJ fun K O=>?_)|((first|refine zH ?_|refine zN rfl (by kernel_rfl) ?_|refine zM ?_|refine zK (by kernel_rfl) ?_);simp only[vZ,vY,strip])|((first|refine wIs fun K O=>?_|refine wOs fun K O=>?_|refine wQs fun K O=>?_|refine zW ?_|refine zX ?_|refine zY ?_|refine zL ?_);simp[g3,b3,g5,b5,b58,g6,b6,g22,g23,g24,hlt,hlt',he,hcell,hre'])|(refine wIn ?_;refine And.intro (by kernel_rfl) ?_;try simp only[zZ])|refine zQ ?_|refine zS ?_|((first|refine zI ?_|refine zO ?_|refine zP ?_);try simp)|((first|refine zR ?_|refine wOn ?_|refine wQn ?_);try simp only[zZ])|refine zU.p c1 rfl ?_|refine zU.l c1 rfl ?_|refine zT.p c1 rfl ?_|refine zT.l c1 rfl ?_|refine zU.o c1 ?_|refine zV.p c1 rfl ?_|refine zV.l c1 rfl ?_|refine zV.o c1 ?_|refine zU.p c3 rfl ?_|refine zU.l c3 rfl ?_|refine zT.p c3 rfl ?_|refine zT.l c3 rfl ?_|refine zU.o c3 ?_|refine zV.p c3 rfl ?_|refine zV.l c3 rfl ?_|refine zV.o c3 ?_
  all_goals apply hr
  all_goals simp[Tryz.f25,g3,b3,g5,b5,b58,g6,b6]
 subst hre
 rw[if_pos rfl] at hg
 unfold txP Tx.cells Sv.cells at c2
 dsimp only at c2
 unfold Sv.cells Oq.cells at c1
 dsimp only at c1
 have hlen:(pts ps).length+(pts rp).length<=1000000:=by simp[pts];omega
 have hmm:m=[]\/¬ m=[]:=Decidable.em _
 rcases hmm with hm|hm
 ·subst hm
  rw[if_pos rfl] at hg
  repeat' first|(refine And.intro (by simp[pts] at hlen ⊢;omega) (Or.inl ?_))|(refine And.intro (by simp[pts] at hlen ⊢;omega) ?_)|((first|refine O _ ?_|refine O _ _ ?_|(clear O;refine O _ ?_));clear O)|(refine zJ fun K O=>?_)|((first|refine zH ?_|refine zN rfl (by kernel_rfl) ?_|refine zM ?_|refine zK (by kernel_rfl) ?_);simp only[vZ,vY,strip])|((first|refine wIs fun K O=>?_|refine wOs fun K O=>?_|refine wQs fun K O=>?_|refine zW ?_|refine zX ?_|refine zY ?_|refine zL ?_);simp[g3,b3,g5,b5,b58,g6,b6,g22,g23,g24,hlt,hlt',hw,he,hcell,pts_app])|(refine wIn ?_;refine And.intro (by kernel_rfl) ?_;try simp only[zZ])|refine zQ ?_|refine zS ?_|((first|refine zI ?_|refine zO ?_|refine zP ?_);try simp)|((first|refine zR ?_|refine wOn ?_|refine wQn ?_);try simp only[zZ])|refine zU.p c1 rfl ?_|refine zU.l c1 rfl ?_|refine zT.p c1 rfl ?_|refine zT.l c1 rfl ?_|refine zU.o c1 ?_|refine zV.p c1 rfl ?_|refine zV.l c1 rfl ?_|refine zV.o c1 ?_|refine zU.p c2 rfl ?_|refine zU.l c2 rfl ?_|refine zT.p c2 rfl ?_|refine zT.l c2 rfl ?_|refine zU.o c2 ?_|refine zV.p c2 rfl ?_|refine zV.l c2 rfl ?_|refine zV.o c2 ?_
  all_goals refine hL _ (N-1) (by omega) ⟨k+1,S2,rm,ps++rp,by omega,⟨hF2,hn2,by simp;omega,hg⟩,?_⟩
  all_goals simp[g3,b3,g5,b5,b58,g6,b6,g22,g23,g24,hw,pts_app]
 ·rw[if_neg hm] at hg
  have hm2:(m=[])=False:=eq_false hm
  repeat' first|(refine And.intro (by simp[pts] at hlen ⊢;omega) (Or.inl ?_))|(refine And.intro (by simp[pts] at hlen ⊢;omega) ?_)|((first|refine O _ ?_|refine O _ _ ?_|(clear O;refine O _ ?_));clear O)|(refine zJ fun K O=>?_)|((first|refine zH ?_|refine zN rfl (by kernel_rfl) ?_|refine zM ?_|refine zK (by kernel_rfl) ?_);simp only[vZ,vY,strip])|((first|refine wIs fun K O=>?_|refine wOs fun K O=>?_|refine wQs fun K O=>?_|refine zW ?_|refine zX ?_|refine zY ?_|refine zL ?_);simp[g3,b3,g5,b5,b58,g6,b6,g22,g23,g24,hlt,hlt',hw,he,hcell,pts_app,hm,hm2])|(refine wIn ?_;refine And.intro (by kernel_rfl) ?_;try simp only[zZ])|refine zQ ?_|refine zS ?_|((first|refine zI ?_|refine zO ?_|refine zP ?_);try simp)|((first|refine zR ?_|refine wOn ?_|refine wQn ?_);try simp only[zZ])|refine zU.p c1 rfl ?_|refine zU.l c1 rfl ?_|refine zT.p c1 rfl ?_|refine zT.l c1 rfl ?_|refine zU.o c1 ?_|refine zV.p c1 rfl ?_|refine zV.l c1 rfl ?_|refine zV.o c1 ?_|refine zU.p c2 rfl ?_|refine zU.l c2 rfl ?_|refine zT.p c2 rfl ?_|refine zT.l c2 rfl ?_|refine zU.o c2 ?_|refine zV.p c2 rfl ?_|refine zV.l c2 rfl ?_|refine zV.o c2 ?_
  all_goals refine hL _ (N-1) (by omega) ⟨k+1,S2,m,ps++rp,by omega,⟨hF2,hn2,by simp;omega,hg⟩,?_⟩
  all_goals simp[g3,b3,g5,b5,b58,g6,b6,g22,g23,g24,hw,pts_app]
set_option maxHeartbeats 16000000 in
theorem changed_con (s:Sv)(ops:List Oq)(e n ses x:Int)(hF:Fits s 100)(hN:okN s.ns)(ho:∀o∈ops,o.pa.length<=9223372036854775807/\o.da.length<=9223372036854775807)(hol:ops.length<=9223372036854775807) :
 zD Tryz.prog 25 [.p (.agg s.cells),.p (.sl 6 (oqs ops)),.p (.agg [I e,I n,I ses,I x,I 0,I 0,SB [],nilS])] (.p (.agg (chgT s ops e n ses x).cells)):=by
 unfold chgT
 have cr:=fun er=>refused_con e n ses x 0 0 [] nilS rfl er
 by_cases h0:ops.length=0
 ·rw[if_pos (.inl h0)]
  have c1:=cr 1
  have h0':(ops.length:Int)=0:=by omega
  unfold Tx.cells at *
  dsimp only at *
  unfold Sv.cells
  refine zG Tryz.tab Tryz.mixed Tryz.func25 rfl rfl Tryz.ntmps25 (by simp) (by simp) fun Q hr hn=>?_
  repeat' first|((first|refine O _ ?_|refine O _ _ ?_|(clear O;refine O _ ?_));clear O)|(refine zJ fun K O=>?_)|((first|refine zH ?_|refine zN rfl (by kernel_rfl) ?_|refine zM ?_|refine zK (by kernel_rfl) ?_);simp only[vZ,vY,strip])|((first|refine wIs fun K O=>?_|refine wOs fun K O=>?_|refine wQs fun K O=>?_|refine zW ?_|refine zX ?_|refine zY ?_|refine zL ?_);simp[h0,h0'])|(refine wIn ?_;refine And.intro (by kernel_rfl) ?_;try simp only[zZ])|refine zQ ?_|refine zS ?_|((first|refine zI ?_|refine zO ?_|refine zP ?_);try simp)|((first|refine zR ?_|refine wOn ?_|refine wQn ?_);try simp only[zZ])|refine zU.p c1 rfl ?_|refine zU.l c1 rfl ?_|refine zT.p c1 rfl ?_|refine zT.l c1 rfl ?_|refine zU.o c1 ?_|refine zV.p c1 rfl ?_|refine zV.l c1 rfl ?_|refine zV.o c1 ?_
  all_goals apply hr
  all_goals simp[Tryz.f25]
 have h0':¬ (ops.length:Int)=0:=by omega
 by_cases h8:8<ops.length
 ·rw[if_pos (.inr h8)]
  have c1:=cr 1
  have h8':(8:Int)<ops.length:=by omega
  unfold Tx.cells at *
  dsimp only at *
  unfold Sv.cells
  refine zG Tryz.tab Tryz.mixed Tryz.func25 rfl rfl Tryz.ntmps25 (by simp) (by simp) fun Q hr hn=>?_
  repeat' first|((first|refine O _ ?_|refine O _ _ ?_|(clear O;refine O _ ?_));clear O)|(refine zJ fun K O=>?_)|((first|refine zH ?_|refine zN rfl (by kernel_rfl) ?_|refine zM ?_|refine zK (by kernel_rfl) ?_);simp only[vZ,vY,strip])|((first|refine wIs fun K O=>?_|refine wOs fun K O=>?_|refine wQs fun K O=>?_|refine zW ?_|refine zX ?_|refine zY ?_|refine zL ?_);simp[h0,h0',h8,h8'])|(refine wIn ?_;refine And.intro (by kernel_rfl) ?_;try simp only[zZ])|refine zQ ?_|refine zS ?_|((first|refine zI ?_|refine zO ?_|refine zP ?_);try simp)|((first|refine zR ?_|refine wOn ?_|refine wQn ?_);try simp only[zZ])|refine zU.p c1 rfl ?_|refine zU.l c1 rfl ?_|refine zT.p c1 rfl ?_|refine zT.l c1 rfl ?_|refine zU.o c1 ?_|refine zV.p c1 rfl ?_|refine zV.l c1 rfl ?_|refine zV.o c1 ?_
  all_goals apply hr
  all_goals simp[Tryz.f25]
 have h8':¬ (8:Int)<ops.length:=by omega
 rw[if_neg (fun h=>h.elim h0 h8)]
 clear cr
 have key:∀R:List PV,((xJ s ses ops 0 [] []).1=0->R=Tx.cells ⟨e,n,ses,x,0,0,(xJ s ses ops 0 [] []).2.2.1,(xJ s ses ops 0 [] []).2.2.2⟩)->(¬ (xJ s ses ops 0 [] []).1=0->R=[I e,I n,I ses,I x,I (xJ s ses ops 0 [] []).1,I (xJ s ses ops 0 [] []).2.1,SB [],nilS]) →
  zD Tryz.prog 25 [.p (.agg s.cells),.p (.sl 6 (oqs ops)),.p (.agg [I e,I n,I ses,I x,I 0,I 0,SB [],nilS])] (.p (.agg R)):=by
  intro R hR0 hR1
  exact changedR_con s ops e n ses x R hF hN ho hol h0 h8 hR0 hR1
 by_cases hc:(xJ s ses ops 0 [] []).1=0
 ·rw[if_pos hc]
  exact key _ (fun _=>rfl) (fun h=>absurd hc h)
 ·rw[if_neg hc]
  exact (key _ (fun h=>absurd h hc) (fun _=>rfl)).wkR (wkT ..)
end Go.Proofs.YtedbbcmokbogpaaGreatDoor
