/- Texts that the proof needs: PRH PRI PRJ. -/
import Derived.Test.YtedbbcmokbogpaaGreatDoorP45PrepNumbers
namespace Go.Proofs.YtedbbcmokbogpaaGreatDoor
set_option linter.unusedSimpArgs false
set_option linter.unusedVariables false
set_option maxRecDepth 8000
open Go Go.Av
theorem rsS_iff (nx:Int):∀ (l:List Int)(p:Int),rsS nx p l=true ↔ (∀x∈l,1<=x/\x<nx/\p<x)/\l.Pairwise (· < ·)
 |[],p=>by simp[rsS]
 |n::l,p=>by
  rw[rsS,Bool.and_eq_true,decide_eq_true_eq,rsS_iff nx l n,List.pairwise_cons]
  constructor
  ·rintro ⟨h1,h2,h3⟩
   refine⟨fun x hx=>?_,fun x hx=>(h2 x hx).2.2,h3⟩
   rcases List.mem_cons.1 hx with rfl|hx
   ·exact h1
   ·have:=h2 x hx;omega
  ·rintro ⟨h1,h2,h3⟩
   refine⟨h1 n List.mem_cons_self,fun x hx=>?_,h3⟩
   have:=h1 x (List.mem_cons_of_mem _ hx)
   exact⟨this.1,this.2.1,h2 x hx⟩
theorem rgtS_eq {x y:Sv}(h:EqA x y):rgtS x=rgtS y:=by
 unfold rgtS
 rw[h.ns,h.ss,h.nx,h.c]
theorem rgtS_of {s:Sv}(h1:tre s.ns=true)(h2:check s.c=0)(h3:1<=s.nx)(h4:s.nx<=1099511627776)(h5:s.ss.length<=20)(h6:rsS s.nx 0 s.ss=true):rgtS s=true:=by
 unfold rgtS
 rw[h1,h6,decide_eq_true ⟨h2,h3,h4,h5⟩]
 rfl
theorem opn_rgt {s:Sv}(h:rgtS s=true)(h1:s.ss.length<20)(h2:¬ s.nx=1099511627776):rgtS (yS s (opPt s.nx))=true:=by
 obtain⟨a1,a2,a3,a4,a5,a6⟩:=rgt_of h
 have hk:okS s.nx=true:=by unfold okS;rw[decide_eq_true_eq];omega
 have e1:yS s (opPt s.nx)={ s with ss:=opnL s.ss s.nx,nx:=opnN s.nx s.nx }:=rfl
 rw[e1]
 unfold opnL opnN
 rw[if_pos hk,if_pos hk]
 have hmax:max s.nx (s.nx+1)=s.nx+1:=by omega
 rw[hmax]
 have hl:=insI_len s.ss s.nx
 obtain⟨b1,b2⟩:=(rsS_iff _ _ _).1 a6
 refine rgtS_of a1 a2 (by show 1<=s.nx+1;omega) (by show s.nx+1<=_;omega) (by show (insI s.ss s.nx).length<=20;omega) ?_
 show rsS (s.nx+1) 0 (insI s.ss s.nx)=true
 rw[rsS_iff]
 refine⟨fun x hx=>?_,up_insI b2⟩
 rcases mem_insI.1 hx with rfl|hx
 ·omega
 ·have:=b1 x hx;omega
theorem but_rgt {s X:Sv}(h:rgtS s=true){ses:Int}(h1:tre X.ns=true)(h2:X.ss=but s.ss ses)(h3:X.nx=s.nx)(h4:X.c=s.c):rgtS X=true:=by
 obtain⟨a1,a2,a3,a4,a5,a6⟩:=rgt_of h
 have hl:=but_len s.ss ses
 obtain⟨b1,b2⟩:=(rsS_iff _ _ _).1 a6
 refine rgtS_of h1 (by rw[h4];exact a2) (by omega) (by omega) (by rw[h2];omega) ?_
 rw[h3,h2,rsS_iff]
 exact⟨fun x hx=>b1 x (mem_but.1 hx).1,up_but b2 ses⟩
theorem cls_kd (ses:Int):∀ (l:List Zn)(S:Sv)(ps:List Pt),(∀p∈ps,kd3 p)->∀p∈(wT S ses l ps).2,kd3 p
 |[],_,_,h=>h
 |z::l,S,ps,h=>by
  rw[wT]
  split
  ·split
   ·exact cls_kd ses l _ _ fun p hp=>by
     rcases List.mem_append.1 hp with hp|hp
     ·exact h p hp
     ·exact gonL_kd _ _ p hp
   ·exact h
  ·exact cls_kd ses l _ _ h
structure MkOk (N:Nat)(s:Sv)(T:Tx):Prop where
 bad:T.r=0->T.b=0
 no:¬ T.r=0->T.ps=[]/\T.m=[]
 ok:T.r=0->rgtS (doS s T)=true
 len:T.ps.length<=200
 c:∀p∈T.ps,p.c.ms.length<=N
 okp:∀p∈T.ps,0<=p.z.k/\0<=p.z.v/\long p.z
theorem MkOk.err {N:Nat}{s:Sv}{e n ses x er b:Int}(h:¬ er=0):MkOk N s ⟨e,n,ses,x,er,b,[],[]⟩ :=
 ⟨fun h0=>absurd h0 h,fun _=>⟨rfl,rfl⟩,fun h0=>absurd h0 h,by simp,by intro p hp;simp at hp,by intro p hp;simp at hp⟩
theorem MkOk.all {N:Nat}{s:Sv}{T:Tx}(h:MkOk N s T)(hg:rgtS s=true):rgtS (doS s T)=true:=by
 by_cases h0:T.r=0
 ·exact h.ok h0
 ·rw[rgtS_eq (EqA.doS s T),(h.no h0).1];exact hg
theorem makW_ok (N:Nat){s:Sv}{r:Rp}(e n:Int)(hg:rgtS s=true)(hc:s.c.ms.length+r.d.put.length<=N)(ho:∀o∈r.ops,o.pa.length<=9223372036854775807/\o.da.length<=9223372036854775807):MkOk N s (makW s r e n):=by
 obtain⟨a1,a2,a3,a4,a5,a6⟩:=rgt_of hg
 have hl:=tre_len a1
 have hN:=tre_okN a1
 have hses:r.s∈s.ss->1<=r.s:=fun h=>(((rsS_iff _ _ _).1 a6).1 _ h).1
 have hz0:cf0.ms.length<=N:=by simp[cf0]
 have okP_T:∀ {l:List Pt},(∀p∈l,okP p)->∀p∈l,p.c.ms.length<=N:=fun h p hp=>by rw[(h p hp).2.2.2];exact hz0
 have hzz:0<=zz.k/\0<=zz.v/\long zz:=zz_ok
 unfold makW
 split
 ·rename_i h4
  unfold cfgT
  split
  ·split
   ·rename_i h5 h6
    have hl2:(appC s.c r.d e n).ms.length<=N:=by
     unfold appC
     rw[if_pos h6]
     have:=keepM_len s.c r.d
     show (stS _).length<=_
     rw[stS_len,List.length_append];omega
    refine⟨fun _=>rfl,fun h=>absurd rfl h,fun _=>?_,by simp,?_,?_⟩
    ·rw[rgtS_eq (EqA.doS s _)]
     have e1:yU s [cfgPt (appC s.c r.d e n)]={ s with c:=appC s.c r.d e n }:=rfl
     show rgtS (yU s [cfgPt (appC s.c r.d e n)])=true
     rw[e1]
     refine rgtS_of a1 ?_ a3 a4 a5 a6
     show check (appC s.c r.d e n)=0
     have h7:=h6
     unfold appE at h7
     rw[if_pos a2] at h7
     split at h7
     ·unfold appC;rw[if_pos h6];exact h7
     ·rename_i h9;exact absurd h7 h9
    ·intro p hp
     simp at hp
     subst hp
     show (appC s.c r.d e n).ms.length<=_
     omega
    ·intro p hp
     simp at hp
     subst hp
     exact hzz
   ·rename_i h5 h6
    exact MkOk.err h6
  ·exact MkOk.err (by decide)
 rename_i h4
 unfold makT
 split
 ·unfold opnT
  split
  ·exact MkOk.err (by decide)
  ·rename_i h5
   have h5':s.ss.length<20/\¬ s.nx=1099511627776:=⟨by omega,fun h=>h5 (.inr h)⟩
   refine⟨fun _=>rfl,fun h=>absurd rfl h,fun _=>?_,by simp,?_,?_⟩
   ·rw[rgtS_eq (EqA.doS s _)]
    exact opn_rgt hg h5'.1 h5'.2
   ·intro p hp
    simp at hp
    subst hp
    exact hz0
   ·intro p hp
    simp at hp
    subst hp
    exact hzz
 split
 ·exact MkOk.err (by decide)
 rename_i h2 h3
 split
 ·rename_i k1
  have hm:r.s∈s.ss:=Decidable.byContradiction fun hm=>h3 ⟨.inl k1,hm⟩
  unfold chgT
  split
  ·exact MkOk.err (by decide)
  rename_i h8
  split
  ·rename_i h0
   have ht:=chg_tre (s:=s) (ses:=r.s) (by have:=hses hm;omega) r.ops s 0 [] [] a1 (EqA.refl _) h0
   have hk:=chgM_ok r.s r.ops s 0 [] [] hN ho (by simp)
   have h5:=runP_kd (s:=s) _ fun p hp=>(hk.1 p hp).2
   refine⟨fun _=>rfl,fun h=>absurd rfl h,fun _=>?_,?_,?_,?_⟩
   ·rw[rgtS_eq (EqA.doS s _)]
    exact rgtS_of ht (by show check (yU s _).c=0;rw[h5.2.2];exact a2) (by show 1<=(yU s _).nx;rw[h5.2.1];exact a3) (by show (yU s _).nx<=_;rw[h5.2.1];exact a4) (by show (yU s _).ss.length<=_;rw[h5.1];exact a5) (by show rsS (yU s _).nx 0 (yU s _).ss=true;rw[h5.1,h5.2.1];exact a6)
   ·have:=hk.2
    simp only[List.length_nil] at this
    show (xJ s r.s r.ops 0 [] []).2.2.2.length<=200
    omega
   ·exact okP_T fun p hp=>(hk.1 p hp).1
   ·intro p hp
    have:=(hk.1 p hp).1
    exact⟨this.1,this.2.1,this.2.2.1⟩
  ·rename_i h0
   exact MkOk.err h0
 rename_i k1
 split
 ·rename_i k3
  have hm:r.s∈s.ss:=Decidable.byContradiction fun hm=>h3 ⟨.inr (.inl k3),hm⟩
  unfold clsT
  split
  ·rename_i h0
   obtain⟨t1,t2,t3,t4⟩:=wL a1
   have ht:=cls_tre (s:=s) (hses hm) s.ns s [] a1 (EqA.refl _) (ris_pw.1 t2) (fun z hz=>⟨(rgz_of (t3 z hz)).1,fun hz2=>⟨z,ris_fnd t2 hz,hz2⟩⟩) h0
   have hk:=cls_ok r.s s.ns s [] hN (fun z hz=>(hN z hz).2.2.1) (by simp)
   have hkd:=cls_kd r.s s.ns s [] (by simp)
   have h5:=runP_kd (s:=s) _ hkd
   have e1:yU s ((wT s r.s s.ns []).2++[clPt r.s])={ yU s (wT s r.s s.ns []).2 with ss:=but (yU s (wT s r.s s.ns []).2).ss r.s }:=by rw[runP_app];rfl
   have hall:∀p∈(wT s r.s s.ns []).2++[clPt r.s],okP p:=fun p hp=>by
    rcases List.mem_append.1 hp with hp|hp
    ·exact hk.1 p hp
    ·simp at hp
     subst hp
     exact⟨hzz.1,hzz.2.1,hzz.2.2,rfl⟩
   refine⟨fun _=>rfl,fun h=>absurd rfl h,fun _=>?_,?_,okP_T hall,fun p hp=>⟨(hall p hp).1,(hall p hp).2.1,(hall p hp).2.2.1⟩⟩
   ·rw[rgtS_eq (EqA.doS s _)]
    show rgtS (yU s ((wT s r.s s.ns []).2++[clPt r.s]))=true
    rw[e1]
    exact but_rgt hg (ses:=r.s) ht (by show but (yU s (wT s r.s s.ns []).2).ss r.s=_;rw[h5.1]) h5.2.1 h5.2.2
   ·have:=hk.2
    simp only[List.length_nil] at this
    show ((wT s r.s s.ns []).2++[clPt r.s]).length<=200
    rw[List.length_append]
    simp
    omega
  ·rename_i h0
   exact MkOk.err h0
 ·exact MkOk.err (by decide)
theorem stepP_cl {N:Nat}{s:Sv}{p:Pt}(h:s.c.ms.length<=N)(hp:p.c.ms.length<=N):(yS s p).c.ms.length<=N:=by
 unfold yS
 repeat' split
 all_goals first|exact h|exact hp
theorem runP_cl {N:Nat}:∀ (l:List Pt){s:Sv},s.c.ms.length<=N->(∀p∈l,p.c.ms.length<=N)->(yU s l).c.ms.length<=N
 |[],_,h,_=>h
 |p::l,s,h,hp=>runP_cl l (stepP_cl h (hp p List.mem_cons_self)) fun q hq=>hp q (List.mem_cons_of_mem _ hq)
theorem MkOk.okT {N:Nat}{s:Sv}{T:Tx}(h:MkOk N s T)(hN:N<=4398046510976):Go.Proofs.YtedbbcmokbogpaaGreatDoor.okT T:=fun p hp=>Nat.le_trans (h.c p hp) hN
theorem MkOk.cl {N:Nat}{s:Sv}{T:Tx}(h:MkOk N s T)(hc:s.c.ms.length<=N):(doS s T).c.ms.length<=N:=by
 rw[(EqA.doS s T).c];exact runP_cl _ hc h.c
end Go.Proofs.YtedbbcmokbogpaaGreatDoor
namespace Go.Proofs.YtedbbcmokbogpaaGreatDoor
set_option linter.unusedSimpArgs false
set_option linter.unusedVariables false
set_option maxRecDepth 8000
open Go Go.Av
attribute [local irreducible] Go.Av.yP Go.Av.zU Go.Av.yN Go.Av.zT Go.Av.yO Go.Av.zV Go.Av.Con
theorem farP9_ops {s:Sv}{r:Rp}(hb:Bd9 s r)(h:farP9 s r=false):s.c.ms.length<=10000/\r.d.put.length<=10000/\r.d.drop.length<=10000/\r.ops.length<=20/\∀o∈r.ops,o.pa.length<=9223372036854775807/\o.da.length<=9223372036854775807:=by
 have:=farP9_not h
 have h2:=this.2
 unfold nSum at h2
 exact⟨by omega,by omega,by omega,this.1,fun o ho=>by have:=hb.o o ho;omega⟩
def oN (p:List UInt8):Oq:=⟨1,p,[],0,false,true⟩
def rpN (ses:Int)(p:List UInt8):Rp:=⟨1,ses,0,[oN p],⟨0,[],[]⟩,0,0⟩
theorem num_of {s:Sv}{ses:Int}{p:List UInt8}(h0:(makW s (rpN ses p) 0 0).r=0):∃H:Zn,(nmb p 0).2=0/\(nmb p H.k).2=0/\fnd s.ns (par (nmb p 0).1).1=(H,true)/\(makW s (rpN ses p) 0 0).m=(nmb p H.k).1:=by
 have e1:makW s (rpN ses p) 0 0=(if ses ∉ s.ss then ⟨0,0,ses,0,13,0,[],[]⟩ else chgT s [oN p] 0 0 ses 0):=by
  unfold makW
  rw[if_neg (fun h=>by have:=h.1;simp[rpN] at this)]
  unfold makT
  rw[if_neg (by simp[rpN])]
  by_cases hm:ses∈s.ss
  ·rw[if_neg (fun h=>h.2 hm),if_pos (by rfl),if_neg (fun h=>h hm)];rfl
  ·rw[if_pos ⟨.inl rfl,hm⟩,if_pos hm];rfl
 rw[e1] at h0 ⊢
 split at h0
 ·simp at h0
 rename_i hm
 rw[if_neg hm]
 rw[chgT_one] at h0 ⊢
 split at h0
 case isFalse h1=>exact absurd h0 h1
 rename_i h1
 rw[if_pos h1]
 have e2:xP s.ns (oN p) ses=crtM s.ns (oN p) ses:=by unfold xP;rw[if_pos (show (oN p).k=1 from rfl)]
 rw[e2] at h1 ⊢
 obtain⟨a1,a2,a3,a4,a5,a6,a7⟩:=crt_ok h1
 obtain⟨b1,b2,b3,b4⟩:=hld_ok a2
 have e3:hdP (oN p)=nmb p 0:=by unfold hdP;rw[if_pos (show (oN p).sq=true from rfl)];rfl
 have e4:∀z,crP (oN p) z=nmb p z.k:=fun z=>by unfold crP;rw[if_pos (show (oN p).sq=true from rfl)];rfl
 rw[e3] at b1 b3
 rw[e4] at a3
 refine⟨(xC s.ns (oN p)).1,b1,a3,b3,?_⟩
 rw[a7,e4]
set_option maxHeartbeats 16000000 in
theorem prepNumbers_con (s:Sv)(r:Rp)(p:List UInt8)(hz:∀z∈s.ns,long z)(hb:Bd9 s r)(hp:p.length<=140737488355328):zD Tryz.prog 6 [.p (.agg s.cells),.p (.agg r.cells),.p (SB p)] (.p (B true)):=by
 have c1:=far9_con s r hb
 cases hf:farP9 s r with
 |true =>
  rw[hf] at c1
  unfold Sv.cells Rp.cells at *
  refine zG Tryz.tab Tryz.mixed Tryz.func6 rfl rfl Tryz.ntmps6 (by simp) (by simp) fun Q hr hn=>?_
  repeat' first|((first|refine O _ ?_|refine O _ _ ?_|(clear O;refine O _ ?_));clear O)|(refine zJ fun K O=>?_)|((first|refine zH ?_|refine zN rfl (by kernel_rfl) ?_|refine zM ?_|refine zK (by kernel_rfl) ?_);simp only[vZ,vY,strip])|((first|refine wIs fun K O=>?_|refine wOs fun K O=>?_|refine wQs fun K O=>?_|refine zW ?_|refine zX ?_|refine zY ?_|refine zL ?_);simp)|(refine wIn ?_;refine And.intro (by kernel_rfl) ?_;try simp only[zZ])|refine zQ ?_|refine zS ?_|((first|refine zI ?_|refine zO ?_|refine zP ?_);try simp)|((first|refine zR ?_|refine wOn ?_|refine wQn ?_);try simp only[zZ])|refine zU.p c1 rfl ?_|refine zU.l c1 rfl ?_|refine zT.p c1 rfl ?_|refine zT.l c1 rfl ?_|refine zU.o c1 ?_|refine zV.p c1 rfl ?_|refine zV.l c1 rfl ?_|refine zV.o c1 ?_|refine zU.p zE rfl ?_|refine zU.l zE rfl ?_|refine zT.p zE rfl ?_|refine zT.l zE rfl ?_|refine zU.o zE ?_|refine zV.p zE rfl ?_|refine zV.l zE rfl ?_|refine zV.o zE ?_
  all_goals apply hr
  all_goals simp[Tryz.f6]
 |false =>
 rw[hf] at c1
 obtain⟨m1,m2,m3,m4,m5⟩:=farP9_ops hb hf
 have c2:=rightP09_con s hz (by omega)
 cases hg:rgtS s with
 |false =>
  rw[hg] at c2
  unfold Sv.cells Rp.cells at *
  refine zG Tryz.tab Tryz.mixed Tryz.func6 rfl rfl Tryz.ntmps6 (by simp) (by simp) fun Q hr hn=>?_
  repeat' first|((first|refine O _ ?_|refine O _ _ ?_|(clear O;refine O _ ?_));clear O)|(refine zJ fun K O=>?_)|((first|refine zH ?_|refine zN rfl (by kernel_rfl) ?_|refine zM ?_|refine zK (by kernel_rfl) ?_);simp only[vZ,vY,strip])|((first|refine wIs fun K O=>?_|refine wOs fun K O=>?_|refine wQs fun K O=>?_|refine zW ?_|refine zX ?_|refine zY ?_|refine zL ?_);simp)|(refine wIn ?_;refine And.intro (by kernel_rfl) ?_;try simp only[zZ])|refine zQ ?_|refine zS ?_|((first|refine zI ?_|refine zO ?_|refine zP ?_);try simp)|((first|refine zR ?_|refine wOn ?_|refine wQn ?_);try simp only[zZ])|refine zU.p c1 rfl ?_|refine zU.l c1 rfl ?_|refine zT.p c1 rfl ?_|refine zT.l c1 rfl ?_|refine zU.o c1 ?_|refine zV.p c1 rfl ?_|refine zV.l c1 rfl ?_|refine zV.o c1 ?_|refine zU.p c2 rfl ?_|refine zU.l c2 rfl ?_|refine zT.p c2 rfl ?_|refine zT.l c2 rfl ?_|refine zU.o c2 ?_|refine zV.p c2 rfl ?_|refine zV.l c2 rfl ?_|refine zV.o c2 ?_|refine zU.p zE rfl ?_|refine zU.l zE rfl ?_|refine zT.p zE rfl ?_|refine zT.l zE rfl ?_|refine zU.o zE ?_|refine zV.p zE rfl ?_|refine zV.l zE rfl ?_|refine zV.o zE ?_
  all_goals apply hr
  all_goals simp[Tryz.f6]
 |true =>
 rw[hg] at c2
 by_cases h3:3000<p.length
 ·have h3':(3000:Int)<p.length:=by omega
  clear hz hb m5
  unfold Sv.cells Rp.cells at *
  refine zG Tryz.tab Tryz.mixed Tryz.func6 rfl rfl Tryz.ntmps6 (by simp) (by simp) fun Q hr hn=>?_
  repeat' first|((first|refine O _ ?_|refine O _ _ ?_|(clear O;refine O _ ?_));clear O)|(refine zJ fun K O=>?_)|((first|refine zH ?_|refine zN rfl (by kernel_rfl) ?_|refine zM ?_|refine zK (by kernel_rfl) ?_);simp only[vZ,vY,strip])|((first|refine wIs fun K O=>?_|refine wOs fun K O=>?_|refine wQs fun K O=>?_|refine zW ?_|refine zX ?_|refine zY ?_|refine zL ?_);simp[h3,h3'])|(refine wIn ?_;refine And.intro (by kernel_rfl) ?_;try simp only[zZ])|refine zQ ?_|refine zS ?_|((first|refine zI ?_|refine zO ?_|refine zP ?_);try simp)|((first|refine zR ?_|refine wOn ?_|refine wQn ?_);try simp only[zZ])|refine zU.p c1 rfl ?_|refine zU.l c1 rfl ?_|refine zT.p c1 rfl ?_|refine zT.l c1 rfl ?_|refine zU.o c1 ?_|refine zV.p c1 rfl ?_|refine zV.l c1 rfl ?_|refine zV.o c1 ?_|refine zU.p c2 rfl ?_|refine zU.l c2 rfl ?_|refine zT.p c2 rfl ?_|refine zT.l c2 rfl ?_|refine zU.o c2 ?_|refine zV.p c2 rfl ?_|refine zV.l c2 rfl ?_|refine zV.o c2 ?_|refine zU.p zE rfl ?_|refine zU.l zE rfl ?_|refine zT.p zE rfl ?_|refine zT.l zE rfl ?_|refine zU.o zE ?_|refine zV.p zE rfl ?_|refine zV.l zE rfl ?_|refine zV.o zE ?_
  all_goals apply hr
  all_goals simp[Tryz.f6]
 have h3':¬ (3000:Int)<p.length:=by omega
 have hoN:∀o∈(rpN r.s p).ops,o.pa.length<=9223372036854775807/\o.da.length<=9223372036854775807:=by
  intro o ho
  simp[rpN] at ho
  subst ho
  exact⟨by show p.length<=_;omega,by simp[oN]⟩
 have hRp:OkRp (rpN r.s p):=⟨hoN,by simp[rpN]⟩
 have hd0:(rpN r.s p).d.put.length=0/\(rpN r.s p).d.drop.length=0:=⟨rfl,rfl⟩
 have hS:=rgt_ok hg (show okC s.c by unfold okC;omega)
 have k1:=makW_ok 20000 (s:=s) (r:=rpN r.s p) 0 0 hg (by omega) hoN
 have n1:=fun h=>num_of (s:=s) (ses:=r.s) (p:=p) h
 have c3:=makeW_con s (rpN r.s p) 0 0 hS hRp (by omega) (by omega) (by omega)
 generalize makW s (rpN r.s p) 0 0=a at k1 n1 c3
 have c4:=apply08_con s a (hS.F.le (by have:=k1.len;omega)) (k1.okT (by decide))
 have gX:=k1.all hg
 have lX:=k1.cl (by omega)
 generalize doS s a=X at c4 gX lX
 have hX:=rgt_ok gX (Nat.le_trans lX (by decide))
 have k2:=makW_ok 30000 (s:=X) (r:=r) 0 0 gX (by omega) m5
 have c5:=makeW_con X r 0 0 hX ⟨m5,by omega⟩ (by omega) (by omega) (by omega)
 generalize makW X r 0 0=u at k2 c5
 have c6:=apply08_con X u (hX.F.le (by have:=k2.len;omega)) (k2.okT (by decide))
 have gY:=k2.all gX
 have lY:=k2.cl (by omega)
 generalize doS X u=Y at c6 gY lY
 have hY:=rgt_ok gY (Nat.le_trans lY (by decide))
 have k3:=makW_ok 40000 (s:=Y) (r:=rpN r.s p) 0 0 gY (by omega) hoN
 have n3:=fun h=>num_of (s:=Y) (ses:=r.s) (p:=p) h
 have c7:=makeW_con Y (rpN r.s p) 0 0 hY hRp (by omega) (by omega) (by omega)
 generalize makW Y (rpN r.s p) 0 0=b at k3 n3 c7
 clear k1 k2 k3 gX gY hX hY hS hRp hoN hd0 lX lY hb hz m5
 have c8:=fun hl=>parent03_con a.m hl
 simp only[parV_par] at c8
 have c9:=fun q=>find07_con s.ns q
 have d9:=fun q=>find07_con Y.ns q
 obtain⟨ae,an,as',ax,ar,ab,am,aps⟩:=a
 obtain⟨ue,un,us,ux,ur,ub,um,ups⟩:=u
 obtain⟨be,bn,bs',bx,br,bb,bm,bps⟩:=b
 simp only[rpN,oN,Rp.cells,oqs,Oq.cells,mbs,ints,vZ,vY] at c3 c7
 unfold Tx.cells at c3 c4 c5 c6 c7
 dsimp only at *
 by_cases h0:ar=0
 case neg =>
  have h0':(ar=0)=False:=eq_false h0
  clear n1 n3 c8 c9 d9
  unfold Sv.cells Rp.cells at *
  refine zG Tryz.tab Tryz.mixed Tryz.func6 rfl rfl Tryz.ntmps6 (by simp) (by simp) fun Q hr hn=>?_
  repeat' first|((first|refine O _ ?_|refine O _ _ ?_|(clear O;refine O _ ?_));clear O)|(refine zJ fun K O=>?_)|((first|refine zH ?_|refine zN rfl (by kernel_rfl) ?_|refine zM ?_|refine zK (by kernel_rfl) ?_);simp only[vZ,vY,strip])|((first|refine wIs fun K O=>?_|refine wOs fun K O=>?_|refine wQs fun K O=>?_|refine zW ?_|refine zX ?_|refine zY ?_|refine zL ?_);simp[h3,h3',h0',show ByteArray.empty = bs [] from rfl])|(refine wIn ?_;refine And.intro (by kernel_rfl) ?_;try simp only[zZ])|refine zQ ?_|refine zS ?_|((first|refine zI ?_|refine zO ?_|refine zP ?_);try simp)|((first|refine zR ?_|refine wOn ?_|refine wQn ?_);try simp only[zZ])|refine zU.p c1 rfl ?_|refine zU.l c1 rfl ?_|refine zT.p c1 rfl ?_|refine zT.l c1 rfl ?_|refine zU.o c1 ?_|refine zV.p c1 rfl ?_|refine zV.l c1 rfl ?_|refine zV.o c1 ?_|refine zU.p c2 rfl ?_|refine zU.l c2 rfl ?_|refine zT.p c2 rfl ?_|refine zT.l c2 rfl ?_|refine zU.o c2 ?_|refine zV.p c2 rfl ?_|refine zV.l c2 rfl ?_|refine zV.o c2 ?_|refine zU.p c3 rfl ?_|refine zU.l c3 rfl ?_|refine zT.p c3 rfl ?_|refine zT.l c3 rfl ?_|refine zU.o c3 ?_|refine zV.p c3 rfl ?_|refine zV.l c3 rfl ?_|refine zV.o c3 ?_|refine zU.p c4 rfl ?_|refine zU.l c4 rfl ?_|refine zT.p c4 rfl ?_|refine zT.l c4 rfl ?_|refine zU.o c4 ?_|refine zV.p c4 rfl ?_|refine zV.l c4 rfl ?_|refine zV.o c4 ?_|refine zU.p c5 rfl ?_|refine zU.l c5 rfl ?_|refine zT.p c5 rfl ?_|refine zT.l c5 rfl ?_|refine zU.o c5 ?_|refine zV.p c5 rfl ?_|refine zV.l c5 rfl ?_|refine zV.o c5 ?_|refine zU.p c6 rfl ?_|refine zU.l c6 rfl ?_|refine zT.p c6 rfl ?_|refine zT.l c6 rfl ?_|refine zU.o c6 ?_|refine zV.p c6 rfl ?_|refine zV.l c6 rfl ?_|refine zV.o c6 ?_|refine zU.p c7 rfl ?_|refine zU.l c7 rfl ?_|refine zT.p c7 rfl ?_|refine zT.l c7 rfl ?_|refine zU.o c7 ?_|refine zV.p c7 rfl ?_|refine zV.l c7 rfl ?_|refine zV.o c7 ?_|refine zU.p zE rfl ?_|refine zU.l zE rfl ?_|refine zT.p zE rfl ?_|refine zT.l zE rfl ?_|refine zU.o zE ?_|refine zV.p zE rfl ?_|refine zV.l zE rfl ?_|refine zV.o zE ?_
  all_goals apply hr
  all_goals simp[Tryz.f6]
 by_cases h1:br=0
 case neg =>
  have h1':(br=0)=False:=eq_false h1
  subst h0
  clear n1 n3 c8 c9 d9
  unfold Sv.cells Rp.cells at *
  refine zG Tryz.tab Tryz.mixed Tryz.func6 rfl rfl Tryz.ntmps6 (by simp) (by simp) fun Q hr hn=>?_
  repeat' first|((first|refine O _ ?_|refine O _ _ ?_|(clear O;refine O _ ?_));clear O)|(refine zJ fun K O=>?_)|((first|refine zH ?_|refine zN rfl (by kernel_rfl) ?_|refine zM ?_|refine zK (by kernel_rfl) ?_);simp only[vZ,vY,strip])|((first|refine wIs fun K O=>?_|refine wOs fun K O=>?_|refine wQs fun K O=>?_|refine zW ?_|refine zX ?_|refine zY ?_|refine zL ?_);simp[h3,h3',h1',show ByteArray.empty = bs [] from rfl])|(refine wIn ?_;refine And.intro (by kernel_rfl) ?_;try simp only[zZ])|refine zQ ?_|refine zS ?_|((first|refine zI ?_|refine zO ?_|refine zP ?_);try simp)|((first|refine zR ?_|refine wOn ?_|refine wQn ?_);try simp only[zZ])|refine zU.p c1 rfl ?_|refine zU.l c1 rfl ?_|refine zT.p c1 rfl ?_|refine zT.l c1 rfl ?_|refine zU.o c1 ?_|refine zV.p c1 rfl ?_|refine zV.l c1 rfl ?_|refine zV.o c1 ?_|refine zU.p c2 rfl ?_|refine zU.l c2 rfl ?_|refine zT.p c2 rfl ?_|refine zT.l c2 rfl ?_|refine zU.o c2 ?_|refine zV.p c2 rfl ?_|refine zV.l c2 rfl ?_|refine zV.o c2 ?_|refine zU.p c3 rfl ?_|refine zU.l c3 rfl ?_|refine zT.p c3 rfl ?_|refine zT.l c3 rfl ?_|refine zU.o c3 ?_|refine zV.p c3 rfl ?_|refine zV.l c3 rfl ?_|refine zV.o c3 ?_|refine zU.p c4 rfl ?_|refine zU.l c4 rfl ?_|refine zT.p c4 rfl ?_|refine zT.l c4 rfl ?_|refine zU.o c4 ?_|refine zV.p c4 rfl ?_|refine zV.l c4 rfl ?_|refine zV.o c4 ?_|refine zU.p c5 rfl ?_|refine zU.l c5 rfl ?_|refine zT.p c5 rfl ?_|refine zT.l c5 rfl ?_|refine zU.o c5 ?_|refine zV.p c5 rfl ?_|refine zV.l c5 rfl ?_|refine zV.o c5 ?_|refine zU.p c6 rfl ?_|refine zU.l c6 rfl ?_|refine zT.p c6 rfl ?_|refine zT.l c6 rfl ?_|refine zU.o c6 ?_|refine zV.p c6 rfl ?_|refine zV.l c6 rfl ?_|refine zV.o c6 ?_|refine zU.p c7 rfl ?_|refine zU.l c7 rfl ?_|refine zT.p c7 rfl ?_|refine zT.l c7 rfl ?_|refine zU.o c7 ?_|refine zV.p c7 rfl ?_|refine zV.l c7 rfl ?_|refine zV.o c7 ?_|refine zU.p zE rfl ?_|refine zU.l zE rfl ?_|refine zT.p zE rfl ?_|refine zT.l zE rfl ?_|refine zU.o zE ?_|refine zV.p zE rfl ?_|refine zV.l zE rfl ?_|refine zV.o zE ?_
  all_goals apply hr
  all_goals simp[Tryz.f6]
 subst h0 h1
 obtain⟨H,x1,x2,x3,x4⟩:=n1 rfl
 obtain⟨G,y1,y2,y3,y4⟩:=n3 rfl
 clear n1 n3
 have hup:=nmb_par x2 x1
 obtain⟨t1,t2,t3⟩:=nmb_two x2 y2
 have hl:=nmb_len (p:=p) (n:=H.k)
 have c8:=c8 (by rw[x4];omega)
 have c9:=c9 (par am).1
 have d9:=d9 (par am).1
 rw[<- x4] at hup t1 t3 hl
 rw[<- y4] at t1
 rw[hup] at c8 c9 d9
 rw[x3] at c9
 rw[y3] at d9
 clear x1 x2 x3 x4 y1 y2 y3 y4 hup t2
 generalize (par (nmb p 0).1).1=up at *
 generalize (par am).2=upb at *
 have t3':(am.length:Int)=(p.length:Int)+10:=by omega
 have hw:IntKind.i64.wrap ((p.length:Int)+10)=(p.length:Int)+10:=by rw[zF] <;> omega
 obtain⟨zp,zd,zv,zk,zo⟩:=H
 obtain⟨gp,gd,gv,gk,go⟩:=G
 unfold Zn.c at c9 d9
 dsimp only at *
 unfold Sv.cells Rp.cells at *
 by_cases hk:gk<=zk
 ·have hk':¬ zk<gk:=by omega
  rw[decide_eq_false hk'] at t1
  refine zG Tryz.tab Tryz.mixed Tryz.func6 rfl rfl Tryz.ntmps6 (by simp) (by simp) fun Q hr hn=>?_
  repeat' first|((first|refine O _ ?_|refine O _ _ ?_|(clear O;refine O _ ?_));clear O)|(refine zJ fun K O=>?_)|((first|refine zH ?_|refine zN rfl (by kernel_rfl) ?_|refine zM ?_|refine zK (by kernel_rfl) ?_);simp only[vZ,vY,strip])|((first|refine wIs fun K O=>?_|refine wOs fun K O=>?_|refine wQs fun K O=>?_|refine zW ?_|refine zX ?_|refine zY ?_|refine zL ?_);simp[h3,h3',hk,hk',t1,t3',hw,show ByteArray.empty = bs [] from rfl])|(refine wIn ?_;refine And.intro (by kernel_rfl) ?_;try simp only[zZ])|refine zQ ?_|refine zS ?_|((first|refine zI ?_|refine zO ?_|refine zP ?_);try simp)|((first|refine zR ?_|refine wOn ?_|refine wQn ?_);try simp only[zZ])|refine zU.p c1 rfl ?_|refine zU.l c1 rfl ?_|refine zT.p c1 rfl ?_|refine zT.l c1 rfl ?_|refine zU.o c1 ?_|refine zV.p c1 rfl ?_|refine zV.l c1 rfl ?_|refine zV.o c1 ?_|refine zU.p c2 rfl ?_|refine zU.l c2 rfl ?_|refine zT.p c2 rfl ?_|refine zT.l c2 rfl ?_|refine zU.o c2 ?_|refine zV.p c2 rfl ?_|refine zV.l c2 rfl ?_|refine zV.o c2 ?_|refine zU.p c3 rfl ?_|refine zU.l c3 rfl ?_|refine zT.p c3 rfl ?_|refine zT.l c3 rfl ?_|refine zU.o c3 ?_|refine zV.p c3 rfl ?_|refine zV.l c3 rfl ?_|refine zV.o c3 ?_|refine zU.p c4 rfl ?_|refine zU.l c4 rfl ?_|refine zT.p c4 rfl ?_|refine zT.l c4 rfl ?_|refine zU.o c4 ?_|refine zV.p c4 rfl ?_|refine zV.l c4 rfl ?_|refine zV.o c4 ?_|refine zU.p c5 rfl ?_|refine zU.l c5 rfl ?_|refine zT.p c5 rfl ?_|refine zT.l c5 rfl ?_|refine zU.o c5 ?_|refine zV.p c5 rfl ?_|refine zV.l c5 rfl ?_|refine zV.o c5 ?_|refine zU.p c6 rfl ?_|refine zU.l c6 rfl ?_|refine zT.p c6 rfl ?_|refine zT.l c6 rfl ?_|refine zU.o c6 ?_|refine zV.p c6 rfl ?_|refine zV.l c6 rfl ?_|refine zV.o c6 ?_|refine zU.p c7 rfl ?_|refine zU.l c7 rfl ?_|refine zT.p c7 rfl ?_|refine zT.l c7 rfl ?_|refine zU.o c7 ?_|refine zV.p c7 rfl ?_|refine zV.l c7 rfl ?_|refine zV.o c7 ?_|refine zU.p c8 rfl ?_|refine zU.l c8 rfl ?_|refine zT.p c8 rfl ?_|refine zT.l c8 rfl ?_|refine zU.o c8 ?_|refine zV.p c8 rfl ?_|refine zV.l c8 rfl ?_|refine zV.o c8 ?_|refine zU.p c9 rfl ?_|refine zU.l c9 rfl ?_|refine zT.p c9 rfl ?_|refine zT.l c9 rfl ?_|refine zU.o c9 ?_|refine zV.p c9 rfl ?_|refine zV.l c9 rfl ?_|refine zV.o c9 ?_|refine zU.p d9 rfl ?_|refine zU.l d9 rfl ?_|refine zT.p d9 rfl ?_|refine zT.l d9 rfl ?_|refine zU.o d9 ?_|refine zV.p d9 rfl ?_|refine zV.l d9 rfl ?_|refine zV.o d9 ?_|refine zU.p zE rfl ?_|refine zU.l zE rfl ?_|refine zT.p zE rfl ?_|refine zT.l zE rfl ?_|refine zU.o zE ?_|refine zV.p zE rfl ?_|refine zV.l zE rfl ?_|refine zV.o zE ?_
  all_goals apply hr
  all_goals simp[Tryz.f6]
 ·have hk':zk<gk:=by omega
  rw[decide_eq_true hk'] at t1
  refine zG Tryz.tab Tryz.mixed Tryz.func6 rfl rfl Tryz.ntmps6 (by simp) (by simp) fun Q hr hn=>?_
  repeat' first|((first|refine O _ ?_|refine O _ _ ?_|(clear O;refine O _ ?_));clear O)|(refine zJ fun K O=>?_)|((first|refine zH ?_|refine zN rfl (by kernel_rfl) ?_|refine zM ?_|refine zK (by kernel_rfl) ?_);simp only[vZ,vY,strip])|((first|refine wIs fun K O=>?_|refine wOs fun K O=>?_|refine wQs fun K O=>?_|refine zW ?_|refine zX ?_|refine zY ?_|refine zL ?_);simp[h3,h3',hk,hk',t1,t3',hw,show ByteArray.empty = bs [] from rfl])|(refine wIn ?_;refine And.intro (by kernel_rfl) ?_;try simp only[zZ])|refine zQ ?_|refine zS ?_|((first|refine zI ?_|refine zO ?_|refine zP ?_);try simp)|((first|refine zR ?_|refine wOn ?_|refine wQn ?_);try simp only[zZ])|refine zU.p c1 rfl ?_|refine zU.l c1 rfl ?_|refine zT.p c1 rfl ?_|refine zT.l c1 rfl ?_|refine zU.o c1 ?_|refine zV.p c1 rfl ?_|refine zV.l c1 rfl ?_|refine zV.o c1 ?_|refine zU.p c2 rfl ?_|refine zU.l c2 rfl ?_|refine zT.p c2 rfl ?_|refine zT.l c2 rfl ?_|refine zU.o c2 ?_|refine zV.p c2 rfl ?_|refine zV.l c2 rfl ?_|refine zV.o c2 ?_|refine zU.p c3 rfl ?_|refine zU.l c3 rfl ?_|refine zT.p c3 rfl ?_|refine zT.l c3 rfl ?_|refine zU.o c3 ?_|refine zV.p c3 rfl ?_|refine zV.l c3 rfl ?_|refine zV.o c3 ?_|refine zU.p c4 rfl ?_|refine zU.l c4 rfl ?_|refine zT.p c4 rfl ?_|refine zT.l c4 rfl ?_|refine zU.o c4 ?_|refine zV.p c4 rfl ?_|refine zV.l c4 rfl ?_|refine zV.o c4 ?_|refine zU.p c5 rfl ?_|refine zU.l c5 rfl ?_|refine zT.p c5 rfl ?_|refine zT.l c5 rfl ?_|refine zU.o c5 ?_|refine zV.p c5 rfl ?_|refine zV.l c5 rfl ?_|refine zV.o c5 ?_|refine zU.p c6 rfl ?_|refine zU.l c6 rfl ?_|refine zT.p c6 rfl ?_|refine zT.l c6 rfl ?_|refine zU.o c6 ?_|refine zV.p c6 rfl ?_|refine zV.l c6 rfl ?_|refine zV.o c6 ?_|refine zU.p c7 rfl ?_|refine zU.l c7 rfl ?_|refine zT.p c7 rfl ?_|refine zT.l c7 rfl ?_|refine zU.o c7 ?_|refine zV.p c7 rfl ?_|refine zV.l c7 rfl ?_|refine zV.o c7 ?_|refine zU.p c8 rfl ?_|refine zU.l c8 rfl ?_|refine zT.p c8 rfl ?_|refine zT.l c8 rfl ?_|refine zU.o c8 ?_|refine zV.p c8 rfl ?_|refine zV.l c8 rfl ?_|refine zV.o c8 ?_|refine zU.p c9 rfl ?_|refine zU.l c9 rfl ?_|refine zT.p c9 rfl ?_|refine zT.l c9 rfl ?_|refine zU.o c9 ?_|refine zV.p c9 rfl ?_|refine zV.l c9 rfl ?_|refine zV.o c9 ?_|refine zU.p d9 rfl ?_|refine zU.l d9 rfl ?_|refine zT.p d9 rfl ?_|refine zT.l d9 rfl ?_|refine zU.o d9 ?_|refine zV.p d9 rfl ?_|refine zV.l d9 rfl ?_|refine zV.o d9 ?_|refine zU.p zE rfl ?_|refine zU.l zE rfl ?_|refine zT.p zE rfl ?_|refine zT.l zE rfl ?_|refine zU.o zE ?_|refine zV.p zE rfl ?_|refine zV.l zE rfl ?_|refine zV.o zE ?_
  all_goals apply hr
  all_goals simp[Tryz.f6]
end Go.Proofs.YtedbbcmokbogpaaGreatDoor
