/- Texts that the proof needs: PR5. -/
import Derived.Test.YtedbbcmokbogpaaGreatDoorP39PrepNumbers
namespace Go.Proofs.YtedbbcmokbogpaaGreatDoor
set_option linter.unusedSimpArgs false
set_option linter.unusedVariables false
set_option maxRecDepth 8000
open Go Go.Av
attribute [local irreducible] Go.Av.yP Go.Av.zU Go.Av.yN Go.Av.zT Go.Av.yO Go.Av.zV Go.Av.Con
def clPt (ses:Int):Pt:=⟨4,zz,ses,cf0⟩
def wT (S:Sv)(ses:Int):List Zn->List Pt->Int × List Pt
 |[],ps=>(0,ps)
 |z::l,ps=>if z.o=ses then (if (wU S.ns z.p).2=0 then wT (doS S (txP (wU S.ns z.p).1)) ses l (ps++(wU S.ns z.p).1) else ((wU S.ns z.p).2,ps)) else wT S ses l ps
theorem clsM_step {S:Sv}{ses:Int}{l:List Zn}{k:Nat}(h:k<l.length)(ps:List Pt) :
 wT S ses (l.drop k) ps=if l[k].o=ses then (if (wU S.ns l[k].p).2=0 then wT (doS S (txP (wU S.ns l[k].p).1)) ses (l.drop (k+1)) (ps++(wU S.ns l[k].p).1) else ((wU S.ns l[k].p).2,ps)) else wT S ses (l.drop (k+1)) ps:=by
 rw[List.drop_eq_getElem_cons h,wT]
def clsT (s:Sv)(e n ses x:Int):Tx :=
 if (wT s ses s.ns []).1=0 then ⟨e,n,ses,x,0,0,[],(wT s ses s.ns []).2++[clPt ses]⟩ else ⟨e,n,ses,x,(wT s ses s.ns []).1,0,[],[]⟩
theorem clPt_pts (ps:List Pt)(ses:Int):pts ps++[[I 4,SB [],SB [],I 0,I 0,I 0,I ses,I 0,I 0,I 0,.sl 4 []]]=pts (ps++[clPt ses]):=by simp[pts,clPt,zz,cf0,Pt.cells,mbs]
set_option maxHeartbeats 16000000 in
theorem closedR_con (s:Sv)(e n ses x:Int)(R:List PV)(hF:Fits s 1000)(hN:okN s.ns)(hl:s.ns.length<=100)
 (hR0:(wT s ses s.ns []).1=0->R=Tx.cells ⟨e,n,ses,x,0,0,[],(wT s ses s.ns []).2++[clPt ses]⟩)(hR1:¬ (wT s ses s.ns []).1=0->R=[I e,I n,I ses,I x,I (wT s ses s.ns []).1,I 0,SB [],nilS]) :
 zD Tryz.prog 26 [.p (.agg s.cells),.p (.agg [I e,I n,I ses,I x,I 0,I 0,SB [],nilS])] (.p (.agg R)):=by
 unfold Sv.cells
 refine zG Tryz.tab Tryz.mixed Tryz.func26 rfl rfl Tryz.ntmps26 (by simp) (by simp) fun Q hr hn=>?_
 repeat' first|((first|refine O _ ?_|refine O _ _ ?_|(clear O;refine O _ ?_));clear O)|(refine zJ fun K O=>?_)|((first|refine zH ?_|refine zN rfl (by kernel_rfl) ?_|refine zM ?_|refine zK (by kernel_rfl) ?_);simp only[vZ,vY,strip])|((first|refine wIs fun K O=>?_|refine wOs fun K O=>?_|refine wQs fun K O=>?_|refine zW ?_|refine zX ?_|refine zY ?_|refine zL ?_);simp)|(refine wIn ?_;refine And.intro (by kernel_rfl) ?_;try simp only[zZ])|refine zQ ?_|refine zS ?_|((first|refine zI ?_|refine zO ?_|refine zP ?_);try simp)|((first|refine zR ?_|refine wOn ?_|refine wQn ?_);try simp only[zZ])
 refine wLoopG [.cel 3 7 40 63 11] (fun N st=>∃ (k:Nat)(S:Sv)(ps:List Pt),k+N=s.ns.length/\(Fits S (1000-2 * k)/\okN S.ns/\ps.length<=2 * k/\wT S ses (s.ns.drop k) ps=wT s ses s.ns []) ∧
  st.s 2=.ptr 2 0/\st.b 2=some (.box 30 [.p (.sl 5 (zns S.ns)),.p (.sl 1 (ints S.ss)),.p (I S.nx),.p (I S.c.ep),.p (I S.c.n),.p (I S.c.kind),.p (.sl 4 (mbs S.c.ms)),.p (I S.ae),.p (I S.an)]) ∧
  st.s 3=.ptr 3 0/\st.b 3=some (.box 42 [.p (I e),.p (I n),.p (I ses),.p (I x),.p (I 0),.p (I 0),.p (SB []),.row 40])/\st.b 40=some (.row 63 11 (pts ps)) ∧
  st.s 4=.ptr 4 0/\st.b 4=some (.box 42 [.p (I 0),.p (I 0),.p (I 0),.p (I 0),.p (I 0),.p (I 0),.p (SB []),.p nilS]) ∧
  st.s 10=.p (.sl 5 (zns s.ns))/\st.s 11=.p (I s.ns.length)/\st.s 12=.p (I k)) s.ns.length ⟨0,s,[],by simp,⟨hF,hN,by simp,by simp⟩,by simp[wY,gh1,pts,show ByteArray.empty=bs [] from rfl]⟩ fun K N st hL ⟨k,S,ps,hk,⟨hF1,hn1,hpl,hg⟩,g2,b2,g3,b3,b40,g4,b4,g10,g11,g12⟩=>?_
 have hlen:(pts ps).length<=1000:=by simp[pts];omega
 by_cases hlt:k<s.ns.length
 case neg =>
  have hlt':¬ (k:Int)<s.ns.length:=by omega
  rw[List.drop_of_length_le (by omega),wT] at hg
  rw[<- hg] at hR0
  obtain rfl:=hR0 rfl
  have e40:=clPt_pts ps ses
  repeat' first|(refine And.intro (by simp[pts] at hlen ⊢;omega) (Or.inl ?_))|(refine And.intro (by simp[pts] at hlen ⊢;omega) ?_)|((first|refine O _ ?_|refine O _ _ ?_|(clear O;refine O _ ?_));clear O)|(refine zJ fun K O=>?_)|((first|refine zH ?_|refine zN rfl (by kernel_rfl) ?_|refine zM ?_|refine zK (by kernel_rfl) ?_);simp only[vZ,vY,strip])|((first|refine wIs fun K O=>?_|refine wOs fun K O=>?_|refine wQs fun K O=>?_|refine zW ?_|refine zX ?_|refine zY ?_|refine zL ?_);simp[g2,b2,g3,b3,b40,g4,b4,g10,g11,g12,hlt,hlt',e40,show ByteArray.empty = bs [] from rfl])|(refine wIn ?_;refine And.intro (by kernel_rfl) ?_;try simp only[zZ])|refine zQ ?_|refine zS ?_|((first|refine zI ?_|refine zO ?_|refine zP ?_);try simp)|((first|refine zR ?_|refine wOn ?_|refine wQn ?_);try simp only[zZ])
  all_goals apply hr
  all_goals simp[Tryz.f26,Tx.cells,g2,b2,g3,b3,b40,g4,b4,e40,show ByteArray.empty=bs [] from rfl]
 have hlt':(k:Int)<s.ns.length:=by omega
 have hw:=yA k _ hlt (by omega)
 have he:=xG hlt
 have hoo:=hN _ (List.getElem_mem hlt)
 rw[clsM_step hlt] at hg
 have c1:=goneP_con S s.ns[k].p hoo.2.2.1 hn1
 obtain⟨ok1,ok2⟩:=gonL_ok hn1 hoo.2.2.1
 have c2:=apply_con S (txP (wU S.ns s.ns[k].p).1) (hF1.le (by show (wU S.ns s.ns[k].p).1.length<=_;omega)) (okP_T ok1)
 have hF2:Fits (doS S (txP (wU S.ns s.ns[k].p).1)) (1000-2 * (k+1)):=doS_fits (hF1.le (by show (wU S.ns s.ns[k].p).1.length+_<=_;omega)) (okP_T ok1)
 have hn2:okN (doS S (txP (wU S.ns s.ns[k].p).1)).ns:=doS_okN hn1 ok1
 generalize doS S (txP (wU S.ns s.ns[k].p).1)=S2 at *
 have hcell:=Option.some.inj ((List.getElem?_eq_getElem (by simpa using hlt:k<(zns s.ns).length)).symm.trans he)
 generalize wU S.ns s.ns[k].p=r at *
 generalize s.ns[k]=z at he hcell c1 hg
 obtain⟨rp,re⟩:=r
 obtain⟨zp,zd,zv,zk,zo⟩:=z
 dsimp only at he hcell c1 c2 hg ok1 ok2
 by_cases ho:zo=ses
 case neg =>
  rw[if_neg ho] at hg
  have ho':(zo=ses)=False:=eq_false ho
  repeat' first|((first|refine O _ ?_|refine O _ _ ?_|(clear O;refine O _ ?_));clear O)|(refine zJ fun K O=>?_)|((first|refine zH ?_|refine zN rfl (by kernel_rfl) ?_|refine zM ?_|refine zK (by kernel_rfl) ?_);simp only[vZ,vY,strip])|((first|refine wIs fun K O=>?_|refine wOs fun K O=>?_|refine wQs fun K O=>?_|refine zW ?_|refine zX ?_|refine zY ?_|refine zL ?_);simp[g2,b2,g3,b3,b40,g4,b4,g10,g11,g12,hlt,hlt',hw,he,hcell,ho'])|(refine wIn ?_;refine And.intro (by kernel_rfl) ?_;try simp only[zZ])|refine zQ ?_|refine zS ?_|((first|refine zI ?_|refine zO ?_|refine zP ?_);try simp)|((first|refine zR ?_|refine wOn ?_|refine wQn ?_);try simp only[zZ])
  all_goals refine hL _ (N-1) (by omega) ⟨k+1,S,ps,by omega,⟨hF1.le (by omega),hn1,by omega,hg⟩,?_⟩
  all_goals simp[g2,b2,g3,b3,b40,g4,b4,g10,g11,g12,hw]
 rw[if_pos ho] at hg
 have ho':(zo=ses)=True:=eq_true ho
 by_cases hre:re=0
 case neg =>
  rw[if_neg hre] at hg
  rw[<- hg] at hR1
  obtain rfl:=hR1 hre
  have hre':(re=0)=False:=eq_false hre
  have c3:=refusedX_con e n ses x 0 0 [] (.sl 11 (pts ps)) rfl re
  unfold Sv.cells at c1
  repeat' first|(refine wFrzRp 40 (pts ps) b40 ?_;simp[frz,sub,xH,subB,g2,b2,g3,b3,g4,b4,g10,g11,g12])|((first|refine O _ ?_|refine O _ _ ?_|(clear O;refine O _ ?_));clear O)|(refine zJ fun K O=>?_)|((first|refine zH ?_|refine zN rfl (by kernel_rfl) ?_|refine zM ?_|refine zK (by kernel_rfl) ?_);simp only[vZ,vY,strip])|((first|refine wIs fun K O=>?_|refine wOs fun K O=>?_|refine wQs fun K O=>?_|refine zW ?_|refine zX ?_|refine zY ?_|refine zL ?_);simp[g2,b2,g3,b3,b40,g4,b4,g10,g11,g12,hlt,hlt',he,hcell,hre',ho'])|(refine wIn ?_;refine And.intro (by kernel_rfl) ?_;try simp only[zZ])|refine zQ ?_|refine zS ?_|((first|refine zI ?_|refine zO ?_|refine zP ?_);try simp)|((first|refine zR ?_|refine wOn ?_|refine wQn ?_);try simp only[zZ])|refine zU.p c1 rfl ?_|refine zU.l c1 rfl ?_|refine zT.p c1 rfl ?_|refine zT.l c1 rfl ?_|refine zU.o c1 ?_|refine zV.p c1 rfl ?_|refine zV.l c1 rfl ?_|refine zV.o c1 ?_|refine zU.p c3 rfl ?_|refine zU.l c3 rfl ?_|refine zT.p c3 rfl ?_|refine zT.l c3 rfl ?_|refine zU.o c3 ?_|refine zV.p c3 rfl ?_|refine zV.l c3 rfl ?_|refine zV.o c3 ?_
  all_goals apply hr
  all_goals simp[Tryz.f26,g2,b2,g3,b3,b40,g4,b4]
 subst hre
 rw[if_pos rfl] at hg
 unfold txP Tx.cells Sv.cells at c2
 dsimp only at c2
 unfold Sv.cells at c1
 repeat' first|(refine And.intro (by simp[pts] at hlen ⊢;omega) (Or.inl ?_))|(refine And.intro (by simp[pts] at hlen ⊢;omega) ?_)|((first|refine O _ ?_|refine O _ _ ?_|(clear O;refine O _ ?_));clear O)|(refine zJ fun K O=>?_)|((first|refine zH ?_|refine zN rfl (by kernel_rfl) ?_|refine zM ?_|refine zK (by kernel_rfl) ?_);simp only[vZ,vY,strip])|((first|refine wIs fun K O=>?_|refine wOs fun K O=>?_|refine wQs fun K O=>?_|refine zW ?_|refine zX ?_|refine zY ?_|refine zL ?_);simp[g2,b2,g3,b3,b40,g4,b4,g10,g11,g12,hlt,hlt',hw,he,hcell,pts_app,ho'])|(refine wIn ?_;refine And.intro (by kernel_rfl) ?_;try simp only[zZ])|refine zQ ?_|refine zS ?_|((first|refine zI ?_|refine zO ?_|refine zP ?_);try simp)|((first|refine zR ?_|refine wOn ?_|refine wQn ?_);try simp only[zZ])|refine zU.p c1 rfl ?_|refine zU.l c1 rfl ?_|refine zT.p c1 rfl ?_|refine zT.l c1 rfl ?_|refine zU.o c1 ?_|refine zV.p c1 rfl ?_|refine zV.l c1 rfl ?_|refine zV.o c1 ?_|refine zU.p c2 rfl ?_|refine zU.l c2 rfl ?_|refine zT.p c2 rfl ?_|refine zT.l c2 rfl ?_|refine zU.o c2 ?_|refine zV.p c2 rfl ?_|refine zV.l c2 rfl ?_|refine zV.o c2 ?_
 all_goals refine hL _ (N-1) (by omega) ⟨k+1,S2,ps++rp,by omega,⟨hF2,hn2,by simp;omega,hg⟩,?_⟩
 all_goals simp[g2,b2,g3,b3,b40,g4,b4,g10,g11,g12,hw,pts_app]
theorem closed_con (s:Sv)(e n ses x:Int)(hF:Fits s 1000)(hN:okN s.ns)(hl:s.ns.length<=100) :
 zD Tryz.prog 26 [.p (.agg s.cells),.p (.agg [I e,I n,I ses,I x,I 0,I 0,SB [],nilS])] (.p (.agg (clsT s e n ses x).cells)):=by
 unfold clsT
 by_cases hc:(wT s ses s.ns []).1=0
 ·rw[if_pos hc]
  exact closedR_con s e n ses x _ hF hN hl (fun _=>rfl) (fun h=>absurd hc h)
 ·rw[if_neg hc]
  exact (closedR_con s e n ses x _ hF hN hl (fun h=>absurd h hc) (fun _=>rfl)).wkR (wkT ..)
end Go.Proofs.YtedbbcmokbogpaaGreatDoor
