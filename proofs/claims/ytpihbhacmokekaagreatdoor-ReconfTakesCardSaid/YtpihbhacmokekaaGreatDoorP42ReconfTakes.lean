/- Texts that the proof needs: RK5. -/
import Derived.Test.YtpihbhacmokekaaGreatDoorP41ReconfTakes
namespace Go.Proofs.YtpihbhacmokekaaGreatDoor
set_option linter.unusedSimpArgs false
set_option linter.unusedVariables false
set_option maxRecDepth 8000
open Go Go.Av
attribute [local irreducible] Go.Av.yJ Go.Av.zU Go.Av.yC Go.Av.zQ Go.Av.yG Go.Av.zV Go.Av.Con
def hasT (e n:Int)(x:Lr):Prop:=4<=x.ph/\0<=xK x.ae x.an e n
instance (e n:Int)(x:Lr):Decidable (hasT e n x):=by unfold hasT;infer_instance
def setT (self e n:Int)(l:List Lr):List Int:=self::((l.filter fun x=>decide (hasT e n x)).map Lr.id)
theorem setT_snoc (self e n:Int){l:List Lr}{k:Nat}(h:k<l.length):setT self e n (l.take (k+1))=if 4<=l[k].ph/\0<=xK l[k].ae l[k].an e n then setT self e n (l.take k)++[l[k].id] else setT self e n (l.take k):=by
 rw[List.take_succ_eq_append_getElem h]
 unfold setT
 rw[List.filter_append]
 by_cases g:hasT e n l[k]
 ·have g':=g
  unfold hasT at g'
  rw[if_pos g']
  simp[g]
 ·have g':=g
  unfold hasT at g'
  rw[if_neg g']
  simp[g]
theorem setT_len (self e n:Int)(l:List Lr):(setT self e n l).length<=l.length+1:=by
 unfold setT
 rw[List.length_cons,List.length_map]
 have:=List.length_filter_le (fun x=>decide (hasT e n x)) l
 omega
theorem setS_T {self e n:Int}{l:List Lr}{i:Int}(h:i∈setS self 4 e n l):i∈setT self e n l:=by
 unfold setS at h
 unfold setT
 rcases List.mem_cons.1 h with rfl|h
 ·exact List.mem_cons_self
 ·obtain⟨x,hx,rfl⟩:=List.mem_map.1 h
  obtain⟨hx1,hx2⟩:=List.mem_filter.1 hx
  exact List.mem_cons_of_mem _ (List.mem_map.2 ⟨x,List.mem_filter.2 ⟨hx1,decide_eq_true (of_decide_eq_true hx2).2⟩,rfl⟩)
structure Tk (h:Hy)(de dn me:Int)(l:List Lr)(r:Rp)(c:Cf):Prop where
 one:(xG h de dn).length=1
 we:r.we=(stL h).c.ep
 wn:r.wn=(stL h).c.n
 ap:appE (stL h).c r.d c.ep c.n=0
 cc:c=app06 (stL h).c r.d c.ep c.n
 ck:check c=0
 q:isQ c (setT me de dn l)=true
 z:0<xK c.ep c.n (yT h).e (yT h).n
theorem needs_pos (h:Hy)(de dn:Int):1<=(xG h de dn).length:=by
 unfold xG endN
 split <;> simp
theorem ask_taken {h:Hy}{de dn self:Int}{l:List Lr}{r:Rp}(h0:(askC h de dn self l r).2=0):Tk h de dn self l r (askC h de dn self l r).1:=by
 unfold askC at h0 ⊢
 by_cases h1:1<(xG h de dn).length
 ·rw[if_pos h1] at h0;exact absurd h0 (by decide)
 rw[if_neg h1] at h0 ⊢
 by_cases h2:nextE (yT h).e (yT h).n=0
 case neg=>rw[if_neg h2] at h0;exact absurd h0 h2
 rw[if_pos h2] at h0 ⊢
 by_cases h3:askE (stL h) r (nxL h).1 (nxL h).2=0
 case neg=>rw[if_neg h3] at h0;exact absurd h0 h3
 rw[if_pos h3] at h0 ⊢
 by_cases h4:isQ (appC (stL h).c r.d (nxL h).1 (nxL h).2) (setS self 4 de dn l)=true
 case neg=>rw[if_neg h4] at h0;exact absurd h0 (by decide)
 rw[if_pos h4]
 dsimp only
 have hn:=needs_pos h de dn
 unfold askE at h3
 split at h3
 case isFalse=>exact absurd h3 (by decide)
 split at h3
 case isFalse=>exact absurd h3 (by decide)
 rename_i _ hw
 have e1:(appC (stL h).c r.d (nxL h).1 (nxL h).2).ep=(nxL h).1:=by unfold appC;rw[if_pos h3]
 have e2:(appC (stL h).c r.d (nxL h).1 (nxL h).2).n=(nxL h).2:=by unfold appC;rw[if_pos h3]
 have hck:check (appC (stL h).c r.d (nxL h).1 (nxL h).2)=0:=by
  unfold appC
  rw[if_pos h3]
  unfold appE at h3
  split at h3
  ·split at h3
   ·exact h3
   ·contradiction
  ·exact absurd h3 (by decide)
 refine⟨by omega,hw.1,hw.2,by rw[e1,e2];exact h3,by rw[e1,e2];exact (app06_eq h3).symm,hck,isQ_mono (fun m _ _ hm=>setS_T hm) h4,?_⟩
 rw[e1,e2]
 unfold nxL nextN
 rw[if_pos h2]
 exact (zcmp_pos _ _ _ _).2 (.inr ⟨rfl,Int.lt_succ _⟩)
theorem ask_err {h:Hy}{de dn self:Int}{l:List Lr}{r:Rp}(h0:¬ (askC h de dn self l r).2=0):(askC h de dn self l r).1=cf0:=by
 unfold askC at h0 ⊢
 split
 ·rfl
 rename_i h1
 rw[if_neg h1] at h0
 split
 ·rename_i h2
  rw[if_pos h2] at h0
  split
  ·rename_i h3
   rw[if_pos h3] at h0
   split
   ·rename_i h4
    rw[if_pos h4] at h0
    exact absurd rfl h0
   ·rfl
  ·rfl
 ·rfl
set_option maxHeartbeats 16000000 in
theorem reconfTakes_con (x:Ca)(r:Rp)(hs:SmallH x.h)(hl:SmallL x.l)(hR:SmallR r)(hL:LongH x.h):zE Tryz.prog 4 [.p (.agg x.cells),.p (.agg r.cells)] (.p (B true)):=by
 have c0:=far20_con x.h x.l r hs hl hR
 have ca:=awake20
 by_cases hn:nearK x.h x.l r
 rotate_left
 ·rw[decide_eq_true hn] at c0
  obtain⟨h,de,dn,self,l⟩:=x
  dsimp only at *
  clear hs hl hR hL hn
  unfold Hy.cells Ca.cells Rp.cells at *
  unfold Hy.cells
  simp only[List.cons_append,List.nil_append]
  refine zG Tryz.tab Tryz.mixed Tryz.func4 rfl rfl Tryz.ntmps4 (by simp) (by simp) fun Q hr hn=>?_
  repeat' first|((first|refine O _ ?_|refine O _ _ ?_|(clear O;refine O _ ?_));clear O)|(refine zJ fun K O=>?_)|((first|refine zH ?_|refine zN rfl (by kernel_rfl) ?_|refine zM ?_|refine zK (by kernel_rfl) ?_);simp only[vS,vR,strip])|((first|refine wIs fun K O=>?_|refine wOs fun K O=>?_|refine wQs fun K O=>?_|refine zW ?_|refine zX ?_|refine zY ?_|refine zL ?_);simp)|(refine wIn ?_;refine And.intro (by kernel_rfl) ?_;try simp only[zZ])|refine zR ?_|refine zT ?_|((first|refine zI ?_|refine zO ?_|refine zP ?_);try simp)|((first|refine zS ?_|refine wOn ?_|refine wQn ?_);try simp only[zZ])|refine zU.p c0 rfl ?_|refine zU.l c0 rfl ?_|refine zQ.pure c0 rfl ?_|refine zQ.lent c0 rfl ?_|refine zU.o c0 ?_|refine zV.p c0 rfl ?_|refine zV.l c0 rfl ?_|refine zV.o c0 ?_|refine zU.p ca rfl ?_|refine zU.l ca rfl ?_|refine zQ.pure ca rfl ?_|refine zQ.lent ca rfl ?_|refine zU.o ca ?_|refine zV.p ca rfl ?_|refine zV.l ca rfl ?_|refine zV.o ca ?_
  all_goals apply hr
  all_goals simp[Tryz.f4]
 rw[decide_eq_false (fun h=>h hn)] at c0
 have hk:=OkH.ofR hn
 have hcc:=stL_cc hk
 have hw:wR r<=300:=by have:=hn.2.2.2;omega
 have hll:=hn.2.2.1
 unfold wR at hw
 have c1:=right20_con x hk hL
 have c2:=ask_con x.h x.de x.dn x.self x.l r hk (by omega) hk.fitL hk.okTR (by omega) (by omega) (by omega)
 have c5:=last16_con x.h hk.lg
 have c6:=stateAt16_con x.h (yT x.h).e (yT x.h).n hk
 change zE _ _ _ (.p (.agg (stL x.h).cells)) at c6
 cases hg:rgtC x.h with
 |false =>
  rw[hg] at c1
  clear c2 c5 c6
  obtain⟨h,de,dn,self,l⟩:=x
  dsimp only at *
  clear hs hl hR hL hn hk hcc hw hg
  unfold Hy.cells Ca.cells Rp.cells at *
  unfold Hy.cells at *
  simp only[List.cons_append,List.nil_append] at *
  refine zG Tryz.tab Tryz.mixed Tryz.func4 rfl rfl Tryz.ntmps4 (by simp) (by simp) fun Q hr hn=>?_
  repeat' first|((first|refine O _ ?_|refine O _ _ ?_|(clear O;refine O _ ?_));clear O)|(refine zJ fun K O=>?_)|((first|refine zH ?_|refine zN rfl (by kernel_rfl) ?_|refine zM ?_|refine zK (by kernel_rfl) ?_);simp only[vS,vR,strip])|((first|refine wIs fun K O=>?_|refine wOs fun K O=>?_|refine wQs fun K O=>?_|refine zW ?_|refine zX ?_|refine zY ?_|refine zL ?_);simp)|(refine wIn ?_;refine And.intro (by kernel_rfl) ?_;try simp only[zZ])|refine zR ?_|refine zT ?_|((first|refine zI ?_|refine zO ?_|refine zP ?_);try simp)|((first|refine zS ?_|refine wOn ?_|refine wQn ?_);try simp only[zZ])|refine zU.p c0 rfl ?_|refine zU.l c0 rfl ?_|refine zQ.pure c0 rfl ?_|refine zQ.lent c0 rfl ?_|refine zU.o c0 ?_|refine zV.p c0 rfl ?_|refine zV.l c0 rfl ?_|refine zV.o c0 ?_|refine zU.p c1 rfl ?_|refine zU.l c1 rfl ?_|refine zQ.pure c1 rfl ?_|refine zQ.lent c1 rfl ?_|refine zU.o c1 ?_|refine zV.p c1 rfl ?_|refine zV.l c1 rfl ?_|refine zV.o c1 ?_|refine zU.p ca rfl ?_|refine zU.l ca rfl ?_|refine zQ.pure ca rfl ?_|refine zQ.lent ca rfl ?_|refine zU.o ca ?_|refine zV.p ca rfl ?_|refine zV.l ca rfl ?_|refine zV.o ca ?_
  all_goals apply hr
  all_goals simp[Tryz.f4]
 |true =>
 rw[hg] at c1
 by_cases h0:(askC x.h x.de x.dn x.self x.l r).2=0
 case neg =>
  rw[ask_err h0] at c2
  have h0':((askC x.h x.de x.dn x.self x.l r).2=0)=False:=eq_false h0
  generalize (askC x.h x.de x.dn x.self x.l r).2=ye at *
  generalize stL x.h=S at *
  obtain⟨h,de,dn,self,l⟩:=x
  dsimp only at *
  clear hs hl hR hL hn hk hcc hw hg h0
  generalize yT h=la at *
  unfold Hy.cells Ca.cells Rp.cells cf0 Cf.cells Sv.cells at *
  unfold Hy.cells at *
  simp only[List.cons_append,List.nil_append,mbs,vR] at *
  refine zG Tryz.tab Tryz.mixed Tryz.func4 rfl rfl Tryz.ntmps4 (by simp) (by simp) fun Q hr hn=>?_
  repeat' first|((first|refine O _ ?_|refine O _ _ ?_|(clear O;refine O _ ?_));clear O)|(refine zJ fun K O=>?_)|((first|refine zH ?_|refine zN rfl (by kernel_rfl) ?_|refine zM ?_|refine zK (by kernel_rfl) ?_);simp only[vS,vR,strip])|((first|refine wIs fun K O=>?_|refine wOs fun K O=>?_|refine wQs fun K O=>?_|refine zW ?_|refine zX ?_|refine zY ?_|refine zL ?_);simp[h0'])|(refine wIn ?_;refine And.intro (by kernel_rfl) ?_;try simp only[zZ])|refine zR ?_|refine zT ?_|((first|refine zI ?_|refine zO ?_|refine zP ?_);try simp)|((first|refine zS ?_|refine wOn ?_|refine wQn ?_);try simp only[zZ])|refine zU.p c0 rfl ?_|refine zU.l c0 rfl ?_|refine zQ.pure c0 rfl ?_|refine zQ.lent c0 rfl ?_|refine zU.o c0 ?_|refine zV.p c0 rfl ?_|refine zV.l c0 rfl ?_|refine zV.o c0 ?_|refine zU.p c1 rfl ?_|refine zU.l c1 rfl ?_|refine zQ.pure c1 rfl ?_|refine zQ.lent c1 rfl ?_|refine zU.o c1 ?_|refine zV.p c1 rfl ?_|refine zV.l c1 rfl ?_|refine zV.o c1 ?_|refine zU.p c2 rfl ?_|refine zU.l c2 rfl ?_|refine zQ.pure c2 rfl ?_|refine zQ.lent c2 rfl ?_|refine zU.o c2 ?_|refine zV.p c2 rfl ?_|refine zV.l c2 rfl ?_|refine zV.o c2 ?_|refine zU.p c5 rfl ?_|refine zU.l c5 rfl ?_|refine zQ.pure c5 rfl ?_|refine zQ.lent c5 rfl ?_|refine zU.o c5 ?_|refine zV.p c5 rfl ?_|refine zV.l c5 rfl ?_|refine zV.o c5 ?_|refine zU.p c6 rfl ?_|refine zU.l c6 rfl ?_|refine zQ.pure c6 rfl ?_|refine zQ.lent c6 rfl ?_|refine zU.o c6 ?_|refine zV.p c6 rfl ?_|refine zV.l c6 rfl ?_|refine zV.o c6 ?_|refine zU.p ca rfl ?_|refine zU.l ca rfl ?_|refine zQ.pure ca rfl ?_|refine zQ.lent ca rfl ?_|refine zU.o ca ?_|refine zV.p ca rfl ?_|refine zV.l ca rfl ?_|refine zV.o ca ?_
  all_goals apply hr
  all_goals simp[Tryz.f4]
 have ht:=ask_taken h0
 rw[h0] at c2
 generalize (askC x.h x.de x.dn x.self x.l r).1=C at *
 have hcl:C.ms.length<=1000000:=by
  rw[ht.cc]
  unfold app06
  split
  ·have:=keepM_len (stL x.h).c r.d
   simp only[chg,stS_len,List.length_append];omega
  ·simp
 have c7:=apply06_con (stL x.h).c r.d C.ep C.n (by omega) (by omega) (by omega)
 rw[ht.ap,<- ht.cc] at c7
 have c8:=needs16_con x.h x.de x.dn hk
 have c9:=cfSame04_con C C
 rw[decide_eq_true rfl] at c9
 have c10:=check04_con C hcl
 rw[ht.ck] at c10
 have c11:=is05_con C (setT x.self x.de x.dn x.l) hcl
 rw[ht.q] at c11
 have c12:=cmp02_con C.ep C.n (yT x.h).e (yT x.h).n
 have hz:=ht.z
 generalize xK C.ep C.n (yT x.h).e (yT x.h).n=zz12 at *
 have hone:=ht.one
 have hcl2:=cfs_lenA (xG x.h x.de x.dn)
 rw[hone] at hcl2
 generalize cfs (xG x.h x.de x.dn)=CF at *
 have hwe:=ht.we
 have hwn:=ht.wn
 have kT:=fun k hk=>@setT_snoc x.self x.de x.dn x.l k hk
 have kL:=fun k=>setT_len x.self x.de x.dn (x.l.take k)
 have cz:=fun a b=>cmp02_con a b x.de x.dn
 clear ht hg h0
 generalize stL x.h=S at *
 obtain⟨h,de,dn,self,l⟩:=x
 obtain⟨rk,rs,rx,ops,⟨dk,put,drop⟩,we,wn⟩:=r
 obtain⟨cep,cn,ckd,cms⟩:=C
 obtain⟨sns,sss,snx,⟨sep,scn,skd,sms⟩,sae,san⟩:=S
 dsimp only at *
 subst hwe hwn
 clear hs hl hR hL hn hk hcc hw hcl
 generalize yT h=la at *
 unfold Hy.cells Ca.cells Rp.cells Cf.cells Sv.cells Dl.cells at *
 unfold Hy.cells at *
 simp only[List.cons_append,List.nil_append] at *
 refine zG Tryz.tab Tryz.mixed Tryz.func4 rfl rfl Tryz.ntmps4 (by simp) (by simp) fun Q hr hn=>?_
 repeat' first|((first|refine O _ ?_|refine O _ _ ?_|(clear O;refine O _ ?_));clear O)|(refine zJ fun K O=>?_)|((first|refine zH ?_|refine zN rfl (by kernel_rfl) ?_|refine zM ?_|refine zK (by kernel_rfl) ?_);simp only[vS,vR,strip])|((first|refine wIs fun K O=>?_|refine wOs fun K O=>?_|refine wQs fun K O=>?_|refine zW ?_|refine zX ?_|refine zY ?_|refine zL ?_);simp)|(refine wIn ?_;refine And.intro (by kernel_rfl) ?_;try simp only[zZ])|refine zR ?_|refine zT ?_|((first|refine zI ?_|refine zO ?_|refine zP ?_);try simp)|((first|refine zS ?_|refine wOn ?_|refine wQn ?_);try simp only[zZ])|refine zU.p c0 rfl ?_|refine zU.l c0 rfl ?_|refine zQ.pure c0 rfl ?_|refine zQ.lent c0 rfl ?_|refine zU.o c0 ?_|refine zV.p c0 rfl ?_|refine zV.l c0 rfl ?_|refine zV.o c0 ?_|refine zU.p c1 rfl ?_|refine zU.l c1 rfl ?_|refine zQ.pure c1 rfl ?_|refine zQ.lent c1 rfl ?_|refine zU.o c1 ?_|refine zV.p c1 rfl ?_|refine zV.l c1 rfl ?_|refine zV.o c1 ?_|refine zU.p c2 rfl ?_|refine zU.l c2 rfl ?_|refine zQ.pure c2 rfl ?_|refine zQ.lent c2 rfl ?_|refine zU.o c2 ?_|refine zV.p c2 rfl ?_|refine zV.l c2 rfl ?_|refine zV.o c2 ?_|refine zU.p c5 rfl ?_|refine zU.l c5 rfl ?_|refine zQ.pure c5 rfl ?_|refine zQ.lent c5 rfl ?_|refine zU.o c5 ?_|refine zV.p c5 rfl ?_|refine zV.l c5 rfl ?_|refine zV.o c5 ?_|refine zU.p c6 rfl ?_|refine zU.l c6 rfl ?_|refine zQ.pure c6 rfl ?_|refine zQ.lent c6 rfl ?_|refine zU.o c6 ?_|refine zV.p c6 rfl ?_|refine zV.l c6 rfl ?_|refine zV.o c6 ?_|refine zU.p ca rfl ?_|refine zU.l ca rfl ?_|refine zQ.pure ca rfl ?_|refine zQ.lent ca rfl ?_|refine zU.o ca ?_|refine zV.p ca rfl ?_|refine zV.l ca rfl ?_|refine zV.o ca ?_
 refine zC (fun N st=>∃ (k:Nat),k+N=l.length/\st.s 2=.ptr 2 0/\st.b 2=some (.box 36 [.p (.sl 5 (zns h.im.ns)),.p (.sl 1 (ints h.im.ss)),.p (I h.im.nx),.p (I h.im.c.ep),.p (I h.im.c.n),.p (I h.im.c.kind),.p (.sl 4 (mbs h.im.c.ms)),.p (I h.im.ae),.p (I h.im.an),.p (.sl 8 (xH h.lg)),.p (I de),.p (I dn),.p (I self),.p (.sl 8 (lrs l))])/\st.s 3=.ptr 3 0/\st.b 3=some (.box 41 [.p (I rk),.p (I rs),.p (I rx),.p (.sl 6 (oqs ops)),.p (I dk),.p (.sl 4 (mbs put)),.p (.sl 1 (ints drop)),.p (I we),.p (I wn)])/\st.s 5=.ptr 5 0/\st.b 5=some (.box 28 [.p (I cep),.p (I cn),.p (I ckd),.p (.sl 4 (mbs cms))])/\st.s 7=.ptr 7 0/\st.b 7=some (.box 28 [.p (I we),.p (I wn),.p (I skd),.p (.sl 4 (mbs sms))])/\st.s 63=.p (.sl 8 (lrs l))/\st.s 64=.p (I l.length)/\st.s 65=.p (I k)/\((st.s 8=.full 1 [[I self]]/\setT self de dn (l.take k)=[self])\/(st.s 8=.row 84/\st.b 84=some (.row 3 1 (ints (setT self de dn (l.take k))))))) l.length ⟨0,by simp[setT]⟩ fun K N st hL ⟨k,hk,g2,b2,g3,b3,g5,b5,g7,b7,g63,g64,g65,h8⟩=>?_
 by_cases hlt:k<l.length
 ·have hlt':(k:Int)<l.length:=by omega
  have hw:=yU k _ hlt (by omega)
  have he:=lrs_get hlt
  have c:=cz l[k].ae l[k].an
  have hs:=kT k hlt
  have hsl:=kL k
  rw[List.length_take] at hsl
  clear c0 c1 c2 c5 c6 c7 c8 c9 c10 c11 c12 ca hr
  by_cases p2:4<=l[k].ph
  ·by_cases p3:0<=xK l[k].ae l[k].an de dn
   ·rw[if_pos ⟨p2,p3⟩] at hs
    rcases h8 with ⟨g8,h8⟩|⟨g8,b84⟩
    ·rw[h8] at hs
     repeat' first|(refine And.intro (by (try simp);omega) ?_)|(refine Or.inl ?_)|((first|refine O _ ?_|refine O _ _ ?_|(clear O;refine O _ ?_));clear O)|(refine zJ fun K O=>?_)|((first|refine zH ?_|refine zN rfl (by kernel_rfl) ?_|refine zM ?_|refine zK (by kernel_rfl) ?_);simp only[vS,vR,strip])|((first|refine wIs fun K O=>?_|refine wOs fun K O=>?_|refine wQs fun K O=>?_|refine zW ?_|refine zX ?_|refine zY ?_|refine zL ?_);simp[g2,b2,g3,b3,g5,b5,g7,b7,g63,g64,g65,g8,hlt,hlt',hw,he,p2,p3])|(refine wIn ?_;refine And.intro (by kernel_rfl) ?_;try simp only[zZ])|refine zR ?_|refine zT ?_|((first|refine zI ?_|refine zO ?_|refine zP ?_);try simp)|((first|refine zS ?_|refine wOn ?_|refine wQn ?_);try simp only[zZ])|refine zU.p c rfl ?_|refine zU.l c rfl ?_|refine zQ.pure c rfl ?_|refine zQ.lent c rfl ?_|refine zU.o c ?_|refine zV.p c rfl ?_|refine zV.l c rfl ?_|refine zV.o c ?_
     refine hL _ (N-1) (by omega) ⟨k+1,by omega,?_⟩
     simp[g2,b2,g3,b3,g5,b5,g7,b7,g63,g64,g65,hw,hs,ints]
    ·have hx:=ints_sn (setT self de dn (l.take k)) l[k].id
     rw[<- hs] at hx
     generalize setT self de dn (l.take k)=q at hsl b84 hx
     have hqi:(ints q).length=q.length:=by simp[ints]
     repeat' first|(refine And.intro (by (try simp only[hqi,List.length_append,List.length_cons,List.length_nil]);omega) ?_)|((first|refine O _ ?_|refine O _ _ ?_|(clear O;refine O _ ?_));clear O)|(refine zJ fun K O=>?_)|((first|refine zH ?_|refine zN rfl (by kernel_rfl) ?_|refine zM ?_|refine zK (by kernel_rfl) ?_);simp only[vS,vR,strip])|((first|refine wIs fun K O=>?_|refine wOs fun K O=>?_|refine wQs fun K O=>?_|refine zW ?_|refine zX ?_|refine zY ?_|refine zL ?_);simp[g2,b2,g3,b3,g5,b5,g7,b7,g63,g64,g65,g8,b84,hlt,hlt',hw,he,p2,p3])|(refine wIn ?_;refine And.intro (by kernel_rfl) ?_;try simp only[zZ])|refine zR ?_|refine zT ?_|((first|refine zI ?_|refine zO ?_|refine zP ?_);try simp)|((first|refine zS ?_|refine wOn ?_|refine wQn ?_);try simp only[zZ])|refine zU.p c rfl ?_|refine zU.l c rfl ?_|refine zQ.pure c rfl ?_|refine zQ.lent c rfl ?_|refine zU.o c ?_|refine zV.p c rfl ?_|refine zV.l c rfl ?_|refine zV.o c ?_
     refine hL _ (N-1) (by omega) ⟨k+1,by omega,?_⟩
     simp[g2,b2,g3,b3,g5,b5,g7,b7,g63,g64,g65,g8,b84,hw,hx]
   ·rw[if_neg (fun h=>p3 h.2)] at hs
    rcases h8 with ⟨g8,h8⟩|⟨g8,b84⟩
    ·repeat' first|(refine O _ ?_;clear O)|(refine O _ _ ?_;clear O)|(clear O;refine O _ ?_;clear O)|(clear O;clear O;refine O _ ?_;clear O)|(clear O;clear O;clear O;refine O _ ?_;clear O)|(clear O;clear O;clear O;clear O;refine O _ ?_;clear O)|(refine zJ fun K O=>?_)|((first|refine zH ?_|refine zN rfl (by kernel_rfl) ?_|refine zM ?_|refine zK (by kernel_rfl) ?_);simp only[vS,vR,strip])|((first|refine wIs fun K O=>?_|refine wOs fun K O=>?_|refine wQs fun K O=>?_|refine zW ?_|refine zX ?_|refine zY ?_|refine zL ?_);simp[g2,b2,g3,b3,g5,b5,g7,b7,g63,g64,g65,hlt,hlt',hw,he,p2,p3,g8])|(refine wIn ?_;refine And.intro (by kernel_rfl) ?_;try simp only[zZ])|(first|refine zR ?_|refine zT ?_)|((first|refine zI ?_|refine zO ?_|refine zP ?_);try simp)|((first|refine zS ?_|refine wOn ?_|refine wQn ?_);try simp only[zZ])|(refine zU.p (c) rfl ?_)|(refine zU.l (c) rfl ?_)|(refine zQ.pure (c) rfl ?_)|(refine zQ.lent (c) rfl ?_)|(refine zU.o (c) ?_)|(refine zV.p (c) rfl ?_)|(refine zV.l (c) rfl ?_)|(refine zV.o (c) ?_)
     refine hL _ (N-1) (by omega) ⟨k+1,by omega,?_⟩
     simp[g2,b2,g3,b3,g5,b5,g7,b7,g63,g64,g65,hw,hs,g8,h8]
    ·repeat' first|(refine O _ ?_;clear O)|(refine O _ _ ?_;clear O)|(clear O;refine O _ ?_;clear O)|(clear O;clear O;refine O _ ?_;clear O)|(clear O;clear O;clear O;refine O _ ?_;clear O)|(clear O;clear O;clear O;clear O;refine O _ ?_;clear O)|(refine zJ fun K O=>?_)|((first|refine zH ?_|refine zN rfl (by kernel_rfl) ?_|refine zM ?_|refine zK (by kernel_rfl) ?_);simp only[vS,vR,strip])|((first|refine wIs fun K O=>?_|refine wOs fun K O=>?_|refine wQs fun K O=>?_|refine zW ?_|refine zX ?_|refine zY ?_|refine zL ?_);simp[g2,b2,g3,b3,g5,b5,g7,b7,g63,g64,g65,hlt,hlt',hw,he,p2,p3,g8,b84])|(refine wIn ?_;refine And.intro (by kernel_rfl) ?_;try simp only[zZ])|(first|refine zR ?_|refine zT ?_)|((first|refine zI ?_|refine zO ?_|refine zP ?_);try simp)|((first|refine zS ?_|refine wOn ?_|refine wQn ?_);try simp only[zZ])|(refine zU.p (c) rfl ?_)|(refine zU.l (c) rfl ?_)|(refine zQ.pure (c) rfl ?_)|(refine zQ.lent (c) rfl ?_)|(refine zU.o (c) ?_)|(refine zV.p (c) rfl ?_)|(refine zV.l (c) rfl ?_)|(refine zV.o (c) ?_)
     refine hL _ (N-1) (by omega) ⟨k+1,by omega,?_⟩
     simp[g2,b2,g3,b3,g5,b5,g7,b7,g63,g64,g65,hw,hs,g8,b84]
  ·rw[if_neg (fun h=>p2 h.1)] at hs
   rcases h8 with ⟨g8,h8⟩|⟨g8,b84⟩
   ·repeat' first|(refine O _ ?_;clear O)|(refine O _ _ ?_;clear O)|(clear O;refine O _ ?_;clear O)|(clear O;clear O;refine O _ ?_;clear O)|(clear O;clear O;clear O;refine O _ ?_;clear O)|(clear O;clear O;clear O;clear O;refine O _ ?_;clear O)|(refine zJ fun K O=>?_)|((first|refine zH ?_|refine zN rfl (by kernel_rfl) ?_|refine zM ?_|refine zK (by kernel_rfl) ?_);simp only[vS,vR,strip])|((first|refine wIs fun K O=>?_|refine wOs fun K O=>?_|refine wQs fun K O=>?_|refine zW ?_|refine zX ?_|refine zY ?_|refine zL ?_);simp[g2,b2,g3,b3,g5,b5,g7,b7,g63,g64,g65,hlt,hlt',hw,he,p2,g8])|(refine wIn ?_;refine And.intro (by kernel_rfl) ?_;try simp only[zZ])|(first|refine zR ?_|refine zT ?_)|((first|refine zI ?_|refine zO ?_|refine zP ?_);try simp)|((first|refine zS ?_|refine wOn ?_|refine wQn ?_);try simp only[zZ])
    refine hL _ (N-1) (by omega) ⟨k+1,by omega,?_⟩
    simp[g2,b2,g3,b3,g5,b5,g7,b7,g63,g64,g65,hw,hs,g8,h8]
   ·repeat' first|(refine O _ ?_;clear O)|(refine O _ _ ?_;clear O)|(clear O;refine O _ ?_;clear O)|(clear O;clear O;refine O _ ?_;clear O)|(clear O;clear O;clear O;refine O _ ?_;clear O)|(clear O;clear O;clear O;clear O;refine O _ ?_;clear O)|(refine zJ fun K O=>?_)|((first|refine zH ?_|refine zN rfl (by kernel_rfl) ?_|refine zM ?_|refine zK (by kernel_rfl) ?_);simp only[vS,vR,strip])|((first|refine wIs fun K O=>?_|refine wOs fun K O=>?_|refine wQs fun K O=>?_|refine zW ?_|refine zX ?_|refine zY ?_|refine zL ?_);simp[g2,b2,g3,b3,g5,b5,g7,b7,g63,g64,g65,hlt,hlt',hw,he,p2,g8,b84])|(refine wIn ?_;refine And.intro (by kernel_rfl) ?_;try simp only[zZ])|(first|refine zR ?_|refine zT ?_)|((first|refine zI ?_|refine zO ?_|refine zP ?_);try simp)|((first|refine zS ?_|refine wOn ?_|refine wQn ?_);try simp only[zZ])
    refine hL _ (N-1) (by omega) ⟨k+1,by omega,?_⟩
    simp[g2,b2,g3,b3,g5,b5,g7,b7,g63,g64,g65,hw,hs,g8,b84]
 ·have hlt':¬ (k:Int)<l.length:=by omega
  rw[List.take_of_length_le (by omega)] at h8
  clear kT kL cz c0 c1 c2
  have hzz:(0<zz12)=True:=eq_true hz
  generalize setT self de dn l=q at *
  rcases h8 with ⟨g8,rfl⟩|⟨g8,b84⟩
  ·simp only[ints,vS,vR] at c11
   repeat' first|((first|refine O _ ?_|refine O _ _ ?_|(clear O;refine O _ ?_));clear O)|(refine zJ fun K O=>?_)|((first|refine zH ?_|refine zN rfl (by kernel_rfl) ?_|refine zM ?_|refine zK (by kernel_rfl) ?_);simp only[vS,vR,strip])|((first|refine wIs fun K O=>?_|refine wOs fun K O=>?_|refine wQs fun K O=>?_|refine zW ?_|refine zX ?_|refine zY ?_|refine zL ?_);simp[g2,b2,g3,b3,g5,b5,g7,b7,g63,g64,g65,g8,hlt,hlt',hzz,hcl2])|(refine wIn ?_;refine And.intro (by kernel_rfl) ?_;try simp only[zZ])|refine zR ?_|refine zT ?_|((first|refine zI ?_|refine zO ?_|refine zP ?_);try simp)|((first|refine zS ?_|refine wOn ?_|refine wQn ?_);try simp only[zZ])|refine zU.p c5 rfl ?_|refine zU.l c5 rfl ?_|refine zQ.pure c5 rfl ?_|refine zQ.lent c5 rfl ?_|refine zU.o c5 ?_|refine zV.p c5 rfl ?_|refine zV.l c5 rfl ?_|refine zV.o c5 ?_|refine zU.p c7 rfl ?_|refine zU.l c7 rfl ?_|refine zQ.pure c7 rfl ?_|refine zQ.lent c7 rfl ?_|refine zU.o c7 ?_|refine zV.p c7 rfl ?_|refine zV.l c7 rfl ?_|refine zV.o c7 ?_|refine zU.p c8 rfl ?_|refine zU.l c8 rfl ?_|refine zQ.pure c8 rfl ?_|refine zQ.lent c8 rfl ?_|refine zU.o c8 ?_|refine zV.p c8 rfl ?_|refine zV.l c8 rfl ?_|refine zV.o c8 ?_|refine zU.p c9 rfl ?_|refine zU.l c9 rfl ?_|refine zQ.pure c9 rfl ?_|refine zQ.lent c9 rfl ?_|refine zU.o c9 ?_|refine zV.p c9 rfl ?_|refine zV.l c9 rfl ?_|refine zV.o c9 ?_|refine zU.p c10 rfl ?_|refine zU.l c10 rfl ?_|refine zQ.pure c10 rfl ?_|refine zQ.lent c10 rfl ?_|refine zU.o c10 ?_|refine zV.p c10 rfl ?_|refine zV.l c10 rfl ?_|refine zV.o c10 ?_|refine zU.p c11 rfl ?_|refine zU.l c11 rfl ?_|refine zQ.pure c11 rfl ?_|refine zQ.lent c11 rfl ?_|refine zU.o c11 ?_|refine zV.p c11 rfl ?_|refine zV.l c11 rfl ?_|refine zV.o c11 ?_|refine zU.p c12 rfl ?_|refine zU.l c12 rfl ?_|refine zQ.pure c12 rfl ?_|refine zQ.lent c12 rfl ?_|refine zU.o c12 ?_|refine zV.p c12 rfl ?_|refine zV.l c12 rfl ?_|refine zV.o c12 ?_|refine zU.p ca rfl ?_|refine zU.l ca rfl ?_|refine zQ.pure ca rfl ?_|refine zQ.lent ca rfl ?_|refine zU.o ca ?_|refine zV.p ca rfl ?_|refine zV.l ca rfl ?_|refine zV.o ca ?_
   all_goals apply hr
   all_goals simp[Tryz.f4]
  ·repeat' first|(refine O _ ?_;clear O)|(refine O _ _ ?_;clear O)|(clear O;refine O _ ?_;clear O)|(clear O;clear O;refine O _ ?_;clear O)|(clear O;clear O;clear O;refine O _ ?_;clear O)|(clear O;clear O;clear O;clear O;refine O _ ?_;clear O)|(refine zJ fun K O=>?_)|((first|refine zH ?_|refine zN rfl (by kernel_rfl) ?_|refine zM ?_|refine zK (by kernel_rfl) ?_);simp only[vS,vR,strip])|((first|refine wIs fun K O=>?_|refine wOs fun K O=>?_|refine wQs fun K O=>?_|refine zW ?_|refine zX ?_|refine zY ?_|refine zL ?_);simp[g2,b2,g3,b3,g5,b5,g7,b7,g63,g64,g65,g8,b84,hlt,hlt',hzz,hcl2])|(refine wIn ?_;refine And.intro (by kernel_rfl) ?_;try simp only[zZ])|(first|refine zR ?_|refine zT ?_)|((first|refine zI ?_|refine zO ?_|refine zP ?_);try simp)|((first|refine zS ?_|refine wOn ?_|refine wQn ?_);try simp only[zZ])|(refine zU.p (c5) rfl ?_)|(refine zU.l (c5) rfl ?_)|(refine zQ.pure (c5) rfl ?_)|(refine zQ.lent (c5) rfl ?_)|(refine zU.o (c5) ?_)|(refine zV.p (c5) rfl ?_)|(refine zV.l (c5) rfl ?_)|(refine zV.o (c5) ?_)|(refine zU.p (c7) rfl ?_)|(refine zU.l (c7) rfl ?_)|(refine zQ.pure (c7) rfl ?_)|(refine zQ.lent (c7) rfl ?_)|(refine zU.o (c7) ?_)|(refine zV.p (c7) rfl ?_)|(refine zV.l (c7) rfl ?_)|(refine zV.o (c7) ?_)|(refine zU.p (c8) rfl ?_)|(refine zU.l (c8) rfl ?_)|(refine zQ.pure (c8) rfl ?_)|(refine zQ.lent (c8) rfl ?_)|(refine zU.o (c8) ?_)|(refine zV.p (c8) rfl ?_)|(refine zV.l (c8) rfl ?_)|(refine zV.o (c8) ?_)|(refine zU.p (c9) rfl ?_)|(refine zU.l (c9) rfl ?_)|(refine zQ.pure (c9) rfl ?_)|(refine zQ.lent (c9) rfl ?_)|(refine zU.o (c9) ?_)|(refine zV.p (c9) rfl ?_)|(refine zV.l (c9) rfl ?_)|(refine zV.o (c9) ?_)|(refine zU.p (c10) rfl ?_)|(refine zU.l (c10) rfl ?_)|(refine zQ.pure (c10) rfl ?_)|(refine zQ.lent (c10) rfl ?_)|(refine zU.o (c10) ?_)|(refine zV.p (c10) rfl ?_)|(refine zV.l (c10) rfl ?_)|(refine zV.o (c10) ?_)|(refine zU.p (c11) rfl ?_)|(refine zU.l (c11) rfl ?_)|(refine zQ.pure (c11) rfl ?_)|(refine zQ.lent (c11) rfl ?_)|(refine zU.o (c11) ?_)|(refine zV.p (c11) rfl ?_)|(refine zV.l (c11) rfl ?_)|(refine zV.o (c11) ?_)|(refine zU.p (c12) rfl ?_)|(refine zU.l (c12) rfl ?_)|(refine zQ.pure (c12) rfl ?_)|(refine zQ.lent (c12) rfl ?_)|(refine zU.o (c12) ?_)|(refine zV.p (c12) rfl ?_)|(refine zV.l (c12) rfl ?_)|(refine zV.o (c12) ?_)|(refine zU.p (ca) rfl ?_)|(refine zU.l (ca) rfl ?_)|(refine zQ.pure (ca) rfl ?_)|(refine zQ.lent (ca) rfl ?_)|(refine zU.o (ca) ?_)|(refine zV.p (ca) rfl ?_)|(refine zV.l (ca) rfl ?_)|(refine zV.o (ca) ?_)
   all_goals apply hr
   all_goals simp[Tryz.f4]
end Go.Proofs.YtpihbhacmokekaaGreatDoor
