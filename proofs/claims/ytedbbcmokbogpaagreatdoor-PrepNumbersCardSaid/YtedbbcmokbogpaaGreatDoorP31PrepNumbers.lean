/- Texts that the proof needs: XK NG NH XN QBQ QCQ. -/
import Derived.Test.YtedbbcmokbogpaaGreatDoorP30PrepNumbers
import Derived.Test.YtedbbcmokbogpaaGreatDoorP29PrepNumbers
import Derived.Test.YtedbbcmokbogpaaGreatDoorP21PrepNumbers
import Derived.Test.YtedbbcmokbogpaaGreatDoorP22PrepNumbers
namespace Go.Proofs.YtedbbcmokbogpaaGreatDoor
set_option linter.unusedSimpArgs false
set_option linter.unusedVariables false
open Go Go.Av
attribute [local irreducible] Go.Av.yP Go.Av.zU Go.Av.yN Go.Av.zT Go.Av.yO Go.Av.zV Go.Av.Con
end Go.Proofs.YtedbbcmokbogpaaGreatDoor
namespace Go.Proofs.YtedbbcmokbogpaaGreatDoor
set_option linter.unusedSimpArgs false
set_option linter.unusedVariables false
open Go Go.Av
theorem att_spec:∀ (l:List Zn)(q:List UInt8),(∀z∈l.take (att l q),z.p<q)/\(∀x r,l.drop (att l q)=x::r->¬ x.p<q)
 |[],q=>by simp[att]
 |x::l,q=>by
  obtain⟨h1,h2⟩:=att_spec l q
  unfold att
  cases h:lss x.p q
  ·rw[if_neg (by simp)]
   rw[lss_eq] at h
   refine⟨by simp,fun y r e=>?_⟩
   simp only[List.drop_zero,List.cons.injEq] at e
   rw[<- e.1]
   simpa using h
  ·rw[if_pos rfl]
   rw[lss_eq,decide_eq_true_eq] at h
   refine⟨fun z hz=>?_,fun y r e=>h2 y r (by simpa using e)⟩
   simp only[List.take_succ_cons,List.mem_cons] at hz
   rcases hz with rfl|hz
   ·exact h
   ·exact h1 z hz
theorem fnd_rst (l:List Zn)(q w:List UInt8)(h:¬ w=q):fnd (rst l q) w=fnd l w:=by
 cases l with
 |nil=>rfl
 |cons x r =>
  rw[rst]
  by_cases g:x.p=q
  ·rw[if_pos g,fnd,if_neg (by rw[g];exact fun e=>h e.symm)]
  ·rw[if_neg g]
theorem fnd_put (l:List Zn)(z:Zn)(w:List UInt8):fnd (xT l z) w=if z.p=w then (z,true) else fnd l w:=by
 unfold xT
 obtain⟨h1,h2⟩:=att_spec l z.p
 rw[fnd_app]
 by_cases g:z.p=w
 ·rw[if_pos g]
  have:fnd (l.take (att l z.p)) w=(zz,false):=fnd_none fun x hx e=>by
   have:=h1 x hx
   rw[e,g] at this
   exact lt_irr _ this
  rw[this,if_neg (by simp),fnd,if_pos g]
 ·rw[if_neg g,fnd,if_neg g,fnd_rst _ _ _ fun e=>g e.symm]
  conv=>rhs;rw[<- List.take_append_drop (att l z.p) l,fnd_app]
theorem fnd_gone:∀ (l:List Zn)(p w:List UInt8),fnd (gone l p) w=if w=p then (zz,false) else fnd l w
 |[],p,w=>by simp[gone,fnd]
 |x::l,p,w=>by
  have ih:=fnd_gone l p w
  unfold gone at ih ⊢
  by_cases g:x.p=p
  ·rw[List.filter_cons_of_neg (by simp[g]),ih]
   by_cases h:w=p
   ·rw[if_pos h,if_pos h]
   ·rw[if_neg h,if_neg h,fnd,if_neg (by rw[g];exact fun e=>h e.symm)]
  ·rw[List.filter_cons_of_pos (by simp[g]),fnd,ih]
   by_cases h:w=p
   ·rw[if_pos h,if_pos h,if_neg (by rw[h];exact g)]
   ·rw[if_neg h,if_neg h,fnd]
theorem ris_pw {l:List Zn}:ris l ↔ l.Pairwise fun a b=>a.p<b.p:=by
 rw[List.pairwise_iff_getElem];rfl
theorem ris_fnd {l:List Zn}(h:ris l){z:Zn}(hz:z∈l):fnd l z.p=(z,true):=by
 rw[ris_pw] at h
 induction l with
 |nil=>simp at hz
 |cons x l ih =>
  rw[List.pairwise_cons] at h
  rw[fnd]
  rcases List.mem_cons.1 hz with rfl|hz
  ·rw[if_pos rfl]
  ·have:=h.1 z hz
   rw[if_neg (fun e=>by rw[e] at this;exact lt_irr _ this)]
   exact ih h.2 hz
theorem ris_gone {l:List Zn}(h:ris l)(p:List UInt8):ris (gone l p):=by
 rw[ris_pw] at h ⊢
 exact h.filter _
theorem rst_sub (l:List Zn)(q:List UInt8):(rst l q).Sublist l:=by
 cases l with
 |nil=>exact .slnil
 |cons x r =>
  rw[rst];split
  ·exact List.sublist_cons_self x r
  ·exact List.Sublist.refl _
theorem rst_mem {l:List Zn}{q:List UInt8}(h:l.Pairwise fun a b=>a.p<b.p)(hx:∀x r,l=x::r->¬ x.p<q):∀z∈rst l q,q<z.p:=by
 intro z hz
 cases l with
 |nil=>simp[rst] at hz
 |cons x r =>
  rw[List.pairwise_cons] at h
  have h0:=hx x r rfl
  rw[rst] at hz
  by_cases g:x.p=q
  ·rw[if_pos g] at hz
   have:=h.1 z hz
   rw[g] at this;exact this
  ·rw[if_neg g] at hz
   have h1:q<x.p:=by
    rcases lt_tot x.p q with h|h|h
    ·exact absurd h h0
    ·exact absurd h g
    ·exact h
   rcases List.mem_cons.1 hz with rfl|hz
   ·exact h1
   ·exact lt_tr h1 (h.1 z hz)
theorem ris_put {l:List Zn}(h:ris l)(z:Zn):ris (xT l z):=by
 obtain⟨h1,h2⟩:=att_spec l z.p
 rw[ris_pw] at h ⊢
 have hs:=List.take_append_drop (att l z.p) l
 rw[<- hs,List.pairwise_append] at h
 obtain⟨p1,p2,p3⟩:=h
 have hm:=rst_mem p2 h2
 unfold xT
 rw[List.pairwise_append,List.pairwise_cons]
 refine⟨p1,⟨hm,p2.sublist (rst_sub _ _)⟩,fun a ha b hb=>?_⟩
 rcases List.mem_cons.1 hb with rfl|hb
 ·exact h1 a ha
 ·exact lt_tr (h1 a ha) (hm b hb)
theorem wL {l:List Zn}(h:tre l=true):hdo l=true/\ris l/\(∀z∈l,rgz z=true)/\(∀z∈l,¬ z.p=[47]->(fnd l (par z.p).1).2=true/\(fnd l (par z.p).1).1.o=0):=by
 unfold tre at h
 rw[Bool.and_eq_true,allr_iff] at h
 obtain⟨h1,h2⟩:=h
 refine⟨h1,ris_of fun i hi=>okR_B (h2 i hi),fun z hz=>?_,fun z hz hne=>?_⟩
 ·obtain⟨i,hi,rfl⟩:=List.getElem_of_mem hz
  exact (okR_B (h2 i hi) l[i] (List.getElem?_eq_getElem hi)).1
 ·obtain⟨i,hi,rfl⟩:=List.getElem_of_mem hz
  have h0:0<l.length:=by omega
  cases i with
  |zero =>
   exfalso
   unfold hdo at h1
   rw[List.getElem?_eq_getElem h0] at h1
   simp only[Bool.and_eq_true,decide_eq_true_eq] at h1
   exact hne h1.2.1
  |succ j =>
   have hj:j<l.length:=by omega
   have hk:=h2 (j+1) hi
   unfold okR at hk
   simp only[List.getElem?_eq_getElem hi,List.getElem?_eq_getElem hj,Bool.and_eq_true,decide_eq_true_eq] at hk
   exact hk.2.2
theorem tre_of {l:List Zn}(h1:hdo l=true)(hr:ris l)(h2:∀z∈l,rgz z=true)(h3:∀z∈l,¬ z.p=[47]->(fnd l (par z.p).1).2=true/\(fnd l (par z.p).1).1.o=0):tre l=true:=by
 unfold tre
 rw[h1,Bool.true_and,allr_iff]
 intro i hi
 have h0:0<l.length:=by omega
 have hroot:l[0].p=[47]:=by
  unfold hdo at h1
  rw[List.getElem?_eq_getElem h0] at h1
  simp only[Bool.and_eq_true,decide_eq_true_eq] at h1
  exact h1.2.1
 unfold okR
 cases i with
 |zero =>
  simp only[List.getElem?_eq_getElem hi,Bool.and_true]
  exact h2 _ (List.getElem_mem hi)
 |succ j =>
  have hj:j<l.length:=by omega
  have hlt:=hr j (j+1) hj hi (by omega)
  have hne:¬ l[j+1].p=[47]:=fun e=>by
   have:=hr 0 (j+1) h0 hi (by omega)
   rw[hroot,e] at this
   exact lt_irr _ this
  obtain⟨a,b⟩:=h3 _ (List.getElem_mem hi) hne
  simp only[List.getElem?_eq_getElem hi,List.getElem?_eq_getElem hj,Bool.and_eq_true,decide_eq_true_eq,lss_eq]
  exact⟨h2 _ (List.getElem_mem hi),hlt,a,b⟩
end Go.Proofs.YtedbbcmokbogpaaGreatDoor
namespace Go.Proofs.YtedbbcmokbogpaaGreatDoor
set_option linter.unusedSimpArgs false
set_option linter.unusedVariables false
open Go Go.Av
attribute [local irreducible] Go.Av.yP Go.Av.zU Go.Av.yN Go.Av.zT Go.Av.yO Go.Av.zV Go.Av.Con
theorem rst_len (l:List Zn)(q:List UInt8):(rst l q).length<=l.length:=(rst_sub l q).length_le
theorem putZ_len (l:List Zn)(z:Zn):(xT l z).length<=l.length+1:=by
 have:=rst_len (l.drop (att l z.p)) z.p
 have h2:=att_le l z.p
 unfold xT
 simp at this ⊢
 omega
theorem goneZ_len (l:List Zn)(p:List UInt8):(gone l p).length<=l.length:=List.length_filter_le _ _
theorem tre_len {l:List Zn}(h:tre l=true):1<=l.length/\l.length<=60:=by
 obtain⟨h1,-⟩:=wL h
 unfold hdo at h1
 simp only[Bool.and_eq_true,decide_eq_true_eq] at h1
 exact h1.1
theorem ints_zis (l:List Int):ints l=zis l:=rfl
def yS (s:Sv)(p:Pt):Sv :=
 if p.k=1 then { s with ns:=xT s.ns p.z } else if p.k=2 then { s with ns:=gone s.ns p.z.p }
 else if p.k=3 then { s with ss:=opnL s.ss p.s,nx:=opnN s.nx p.s } else if p.k=4 then { s with ss:=but s.ss p.s }
 else if p.k=5 then { s with c:=p.c } else s
def yU (s:Sv)(l:List Pt):Sv:=l.foldl yS s
theorem runP_snoc (s:Sv){l:List Pt}{k:Nat}(h:k<l.length):yU s (l.take (k+1))=yS (yU s (l.take k)) l[k]:=by
 rw[List.take_succ_eq_append_getElem h,yU,List.foldl_append];rfl
def lateS (s:Sv)(e n:Int):Sv:={ s with ae:=(lastZ [⟨s.ae,s.an⟩,⟨e,n⟩]).e,an:=(lastZ [⟨s.ae,s.an⟩,⟨e,n⟩]).n }
def doS (s:Sv)(t:Tx):Sv:=lateS (yU s t.ps) t.e t.n
theorem insI_len (l:List Int)(s:Int):(insI l s).length<=l.length+1:=by
 have h:=but_len l s
 unfold insI
 simp
 omega
theorem opnL_len (l:List Int)(s:Int):(opnL l s).length<=l.length+1:=by
 unfold opnL
 split
 ·exact insI_len l s
 ·omega
theorem stepP_len (s:Sv)(p:Pt):(yS s p).ns.length<=s.ns.length+1/\(yS s p).ss.length<=s.ss.length+1:=by
 have h1:=putZ_len s.ns p.z
 have h2:=goneZ_len s.ns p.z.p
 have h3:=opnL_len s.ss p.s
 have h4:=but_len s.ss p.s
 unfold yS
 split
 ·exact⟨h1,by simp⟩
 split
 ·exact⟨by show (gone s.ns p.z.p).length<=_;omega,by simp⟩
 split
 ·exact⟨by simp,h3⟩
 split
 ·exact⟨by simp,by show (but s.ss p.s).length<=_;omega⟩
 split <;> exact⟨by simp,by simp⟩
theorem runP_len:∀ (l:List Pt)(s:Sv),(yU s l).ns.length<=s.ns.length+l.length/\(yU s l).ss.length<=s.ss.length+l.length
 |[],s=>⟨by simp[yU],by simp[yU]⟩
 |p::l,s=>by
  have h:=stepP_len s p
  have ih:=runP_len l (yS s p)
  have e:yU s (p::l)=yU (yS s p) l:=rfl
  rw[e]
  simp only[List.length_cons]
  omega
theorem runP_take (s:Sv)(l:List Pt)(k:Nat):(yU s (l.take k)).ns.length<=s.ns.length+l.length/\(yU s (l.take k)).ss.length<=s.ss.length+l.length:=by
 have h:=runP_len (l.take k) s
 have:(l.take k).length<=l.length:=by simp;omega
 omega
def okC (c:Cf):Prop:=c.ms.length<=4398046510976
theorem stepP_c (s:Sv)(p:Pt)(hs:okC s.c)(hp:okC p.c):okC (yS s p).c:=by
 unfold yS
 split
 ·exact hs
 split
 ·exact hs
 split
 ·exact hs
 split
 ·exact hs
 split
 ·exact hp
 ·exact hs
theorem runP_c:∀ (l:List Pt)(s:Sv),okC s.c->(∀p∈l,okC p.c)->okC (yU s l).c
 |[],s,hs,_=>hs
 |p::l,s,hs,hp=>runP_c l (yS s p) (stepP_c s p hs (hp p (by simp))) fun q hq=>hp q (by simp[hq])
def sbox (s:Sv):Blk := .box 30 [.p (.sl 5 (zns s.ns)),.row 1025,.p (I s.nx),.p (I s.c.ep),.p (I s.c.n),.p (I s.c.kind),.p (.sl 4 (mbs s.c.ms)),.p (I s.ae),.p (I s.an)]
set_option maxHeartbeats 4000000 in
theorem do_con (s:Sv)(t:Tx)(h1:s.ns.length+t.ps.length<=1000000)(h2:s.ss.length+t.ps.length<=1000000)(hc:∀p∈t.ps,okC p.c) :
 Con Tryz.prog 60 [.ptr 1024 0,.p (.agg t.cells)] [sbox s,.row 3 1 (zis s.ss)] (.ret (.tup []) [] [sbox (doS s t),.row 3 1 (zis (doS s t).ss)]):=by
 unfold Tx.cells sbox
 refine wBodyG Tryz.tab Tryz.mixed Tryz.func60 rfl rfl Tryz.ntmps60 (by simp) (by simp) fun Q hr hn hp=>?_
 repeat' first|((first|refine O _ ?_|refine O _ _ ?_|(clear O;refine O _ ?_));clear O)|(refine zJ fun K O=>?_)|((first|refine zH ?_|refine zN rfl (by kernel_rfl) ?_|refine zM ?_|refine zK (by kernel_rfl) ?_);simp only[vZ,vY,strip])|((first|refine wIs fun K O=>?_|refine wOs fun K O=>?_|refine wQs fun K O=>?_|refine zW ?_|refine zX ?_|refine zY ?_|refine zL ?_);simp)|(refine wIn ?_;refine And.intro (by kernel_rfl) ?_;try simp only[zZ])|refine zQ ?_|refine zS ?_|((first|refine zI ?_|refine zO ?_|refine zP ?_);try simp)|((first|refine zR ?_|refine wOn ?_|refine wQn ?_);try simp only[zZ])
 refine yT (fun N st=>∃k,k+N=t.ps.length/\st.s 0=.ptr 1024 0/\st.s 7=.p (.sl 11 (pts t.ps))/\st.s 8=.p (I t.ps.length)/\st.s 9=.p (I k)/\st.s 3=.ptr 3 0/\st.b 3=some (.box 42 [.p (I t.e),.p (I t.n),.p (I t.s),.p (I t.x),.p (I t.r),.p (I t.b),.p (SB t.m),.p (.sl 11 (pts t.ps))])/\st.b 1024=some (sbox (yU s (t.ps.take k)))/\st.b 1025=some (.row 3 1 (zis (yU s (t.ps.take k)).ss))) t.ps.length ⟨0,by simp[yU,sbox]⟩ fun K N st hL ⟨k,hk,g0,g7,g8,g9,g3,b3,b0,b1⟩=>?_
 have hlen:=runP_take s t.ps k
 by_cases hlt:k<t.ps.length
 ·have hw:=wrapX k _ hlt (by omega)
  have he:=pts_get hlt
  have hs:=runP_snoc s hlt
  have hpc:=hc t.ps[k] (List.getElem_mem hlt)
  generalize yU s (t.ps.take k)=q at hs hlen b0 b1
  unfold sbox at b0
  unfold okC at hpc
  by_cases k1:t.ps[k].k=1
  ·have c:=put_con q.ns t.ps[k].z (by omega)
   unfold Zn.c at c
   have hs':yS q t.ps[k]={ q with ns:=xT q.ns t.ps[k].z }:=by unfold yS;rw[if_pos k1]
   generalize xT q.ns t.ps[k].z=n1 at c hs'
   repeat' first|((first|refine O _ ?_|refine O _ _ ?_|(clear O;refine O _ ?_));clear O)|(refine zJ fun K O=>?_)|((first|refine zH ?_|refine zN rfl (by kernel_rfl) ?_|refine zM ?_|refine zK (by kernel_rfl) ?_);simp only[vZ,vY,strip])|((first|refine wIs fun K O=>?_|refine wOs fun K O=>?_|refine wQs fun K O=>?_|refine zW ?_|refine zX ?_|refine zY ?_|refine zL ?_);simp[g0,g7,g8,g9,g3,b3,b0,b1,hlt,hw,he,k1])|(refine wIn ?_;refine And.intro (by kernel_rfl) ?_;try simp only[zZ])|refine zQ ?_|refine zS ?_|((first|refine zI ?_|refine zO ?_|refine zP ?_);try simp)|((first|refine zR ?_|refine wOn ?_|refine wQn ?_);try simp only[zZ])|refine zU.p c rfl ?_|refine zU.l c rfl ?_|refine zT.p c rfl ?_|refine zT.l c rfl ?_|refine zU.o c ?_|refine zV.p c rfl ?_|refine zV.l c rfl ?_|refine zV.o c ?_
   refine hL _ (N-1) (by omega) ⟨k+1,by omega,?_⟩
   simp[g0,g7,g8,g9,g3,b3,b0,b1,hw,hs,hs',sbox]
  by_cases k2:t.ps[k].k=2
  ·have c:=gone_con q.ns t.ps[k].z.p (by omega)
   have hs':yS q t.ps[k]={ q with ns:=gone q.ns t.ps[k].z.p }:=by unfold yS;rw[if_neg k1,if_pos k2]
   generalize gone q.ns t.ps[k].z.p=n1 at c hs'
   repeat' first|((first|refine O _ ?_|refine O _ _ ?_|(clear O;refine O _ ?_));clear O)|(refine zJ fun K O=>?_)|((first|refine zH ?_|refine zN rfl (by kernel_rfl) ?_|refine zM ?_|refine zK (by kernel_rfl) ?_);simp only[vZ,vY,strip])|((first|refine wIs fun K O=>?_|refine wOs fun K O=>?_|refine wQs fun K O=>?_|refine zW ?_|refine zX ?_|refine zY ?_|refine zL ?_);simp[g0,g7,g8,g9,g3,b3,b0,b1,hlt,hw,he,k1,k2])|(refine wIn ?_;refine And.intro (by kernel_rfl) ?_;try simp only[zZ])|refine zQ ?_|refine zS ?_|((first|refine zI ?_|refine zO ?_|refine zP ?_);try simp)|((first|refine zR ?_|refine wOn ?_|refine wQn ?_);try simp only[zZ])|refine zU.p c rfl ?_|refine zU.l c rfl ?_|refine zT.p c rfl ?_|refine zT.l c rfl ?_|refine zU.o c ?_|refine zV.p c rfl ?_|refine zV.l c rfl ?_|refine zV.o c ?_
   refine hL _ (N-1) (by omega) ⟨k+1,by omega,?_⟩
   simp[g0,g7,g8,g9,g3,b3,b0,b1,hw,hs,hs',sbox]
  by_cases k3:t.ps[k].k=3
  ·have c:=open_con (zns q.ns) (mbs q.c.ms) q.ss q.nx q.c.ep q.c.n q.c.kind q.ae q.an t.ps[k].s (by omega)
   have hs':yS q t.ps[k]={ q with ss:=opnL q.ss t.ps[k].s,nx:=opnN q.nx t.ps[k].s }:=by unfold yS;rw[if_neg k1,if_neg k2,if_pos k3]
   generalize opnL q.ss t.ps[k].s=n1 at c hs'
   generalize opnN q.nx t.ps[k].s=n2 at c hs'
   repeat' first|(refine wF [1024,1025] c (by decide) (by decide) (by simp[yI,inN,pos,yW,zC,b0,b1]) (by simp[yR,xB,zC,inN,pos,yY,yJ]) ⟨[],by simp,by simp,?_⟩;simp[lv,ouN,kpI,kpR,pos,ren,zC,yW,yJ,yY,g0,g7,g8,g3,b3,g9])|((first|refine O _ ?_|refine O _ _ ?_|(clear O;refine O _ ?_));clear O)|(refine zJ fun K O=>?_)|((first|refine zH ?_|refine zN rfl (by kernel_rfl) ?_|refine zM ?_|refine zK (by kernel_rfl) ?_);simp only[vZ,vY,strip])|((first|refine wIs fun K O=>?_|refine wOs fun K O=>?_|refine wQs fun K O=>?_|refine zW ?_|refine zX ?_|refine zY ?_|refine zL ?_);simp[g0,g7,g8,g9,g3,b3,b0,b1,hlt,hw,he,k1,k2,k3,lv,ouN,kpI,kpR,pos,ren,zC,yW,yJ,yY])|(refine wIn ?_;refine And.intro (by kernel_rfl) ?_;try simp only[zZ])|refine zQ ?_|refine zS ?_|((first|refine zI ?_|refine zO ?_|refine zP ?_);try simp)|((first|refine zR ?_|refine wOn ?_|refine wQn ?_);try simp only[zZ])
   refine hL _ (N-1) (by omega) ⟨k+1,by omega,?_⟩
   simp[g0,g7,g8,g9,g3,b3,b0,b1,hw,hs,hs',sbox,lv,ouN,kpI,kpR,pos,ren,zC]
  by_cases k4:t.ps[k].k=4
  ·have c:=without_con q.ss t.ps[k].s (by omega)
   have hs':yS q t.ps[k]={ q with ss:=but q.ss t.ps[k].s }:=by unfold yS;rw[if_neg k1,if_neg k2,if_neg k3,if_pos k4]
   generalize but q.ss t.ps[k].s=n1 at c hs'
   repeat' first|(refine CallR_row 1025 c (by simp[b1]) (by simp) (by simp[yR,xB,zC,inN,pos,yY,yJ]) ?_;simp[g0,g7,g8,g3,b3,g9,b0,b1])|((first|refine O _ ?_|refine O _ _ ?_|(clear O;refine O _ ?_));clear O)|(refine zJ fun K O=>?_)|((first|refine zH ?_|refine zN rfl (by kernel_rfl) ?_|refine zM ?_|refine zK (by kernel_rfl) ?_);simp only[vZ,vY,strip])|((first|refine wIs fun K O=>?_|refine wOs fun K O=>?_|refine wQs fun K O=>?_|refine zW ?_|refine zX ?_|refine zY ?_|refine zL ?_);simp[g0,g7,g8,g9,g3,b3,b0,b1,hlt,hw,he,k1,k2,k3,k4])|(refine wIn ?_;refine And.intro (by kernel_rfl) ?_;try simp only[zZ])|refine zQ ?_|refine zS ?_|((first|refine zI ?_|refine zO ?_|refine zP ?_);try simp)|((first|refine zR ?_|refine wOn ?_|refine wQn ?_);try simp only[zZ])
   refine hL _ (N-1) (by omega) ⟨k+1,by omega,?_⟩
   simp[g0,g7,g8,g9,g3,b3,b0,b1,hw,hs,hs',sbox]
  by_cases k5:t.ps[k].k=5
  ·have c:=ownConfig_con t.ps[k].c.ep t.ps[k].c.n t.ps[k].c.kind (mbs t.ps[k].c.ms) (by rw[mbs_len];exact hpc)
   have hs':yS q t.ps[k]={ q with c:=t.ps[k].c }:=by unfold yS;rw[if_neg k1,if_neg k2,if_neg k3,if_neg k4,if_pos k5]
   repeat' first|((first|refine O _ ?_|refine O _ _ ?_|(clear O;refine O _ ?_));clear O)|(refine zJ fun K O=>?_)|((first|refine zH ?_|refine zN rfl (by kernel_rfl) ?_|refine zM ?_|refine zK (by kernel_rfl) ?_);simp only[vZ,vY,strip])|((first|refine wIs fun K O=>?_|refine wOs fun K O=>?_|refine wQs fun K O=>?_|refine zW ?_|refine zX ?_|refine zY ?_|refine zL ?_);simp[g0,g7,g8,g9,g3,b3,b0,b1,hlt,hw,he,k1,k2,k3,k4,k5])|(refine wIn ?_;refine And.intro (by kernel_rfl) ?_;try simp only[zZ])|refine zQ ?_|refine zS ?_|((first|refine zI ?_|refine zO ?_|refine zP ?_);try simp)|((first|refine zR ?_|refine wOn ?_|refine wQn ?_);try simp only[zZ])|refine zU.p c rfl ?_|refine zU.l c rfl ?_|refine zT.p c rfl ?_|refine zT.l c rfl ?_|refine zU.o c ?_|refine zV.p c rfl ?_|refine zV.l c rfl ?_|refine zV.o c ?_
   refine hL _ (N-1) (by omega) ⟨k+1,by omega,?_⟩
   simp[g0,g7,g8,g9,g3,b3,b0,b1,hw,hs,hs',sbox]
  ·have hs':yS q t.ps[k]=q:=by unfold yS;rw[if_neg k1,if_neg k2,if_neg k3,if_neg k4,if_neg k5]
   repeat' first|((first|refine O _ ?_|refine O _ _ ?_|(clear O;refine O _ ?_));clear O)|(refine zJ fun K O=>?_)|((first|refine zH ?_|refine zN rfl (by kernel_rfl) ?_|refine zM ?_|refine zK (by kernel_rfl) ?_);simp only[vZ,vY,strip])|((first|refine wIs fun K O=>?_|refine wOs fun K O=>?_|refine wQs fun K O=>?_|refine zW ?_|refine zX ?_|refine zY ?_|refine zL ?_);simp[g0,g7,g8,g9,g3,b3,b0,b1,hlt,hw,he,k1,k2,k3,k4,k5])|(refine wIn ?_;refine And.intro (by kernel_rfl) ?_;try simp only[zZ])|refine zQ ?_|refine zS ?_|((first|refine zI ?_|refine zO ?_|refine zP ?_);try simp)|((first|refine zR ?_|refine wOn ?_|refine wQn ?_);try simp only[zZ])
   refine hL _ (N-1) (by omega) ⟨k+1,by omega,?_⟩
   simp[g0,g7,g8,g9,g3,b3,b0,b1,hw,hs,hs',sbox]
 ·rw[List.take_of_length_le (by omega)] at b0 b1
  unfold sbox doS lateS at hr
  unfold sbox doS lateS at hn
  generalize yU s t.ps=q at hr hn b0 b1
  unfold sbox at b0
  have c:=last_con [⟨q.ae,q.an⟩,⟨t.e,t.n⟩]
  simp only[zxs,vZ,vY] at c
  generalize lastZ [⟨q.ae,q.an⟩,⟨t.e,t.n⟩]=z at c hr hn
  repeat' first|((first|refine O _ ?_|refine O _ _ ?_|(clear O;refine O _ ?_));clear O)|(refine zJ fun K O=>?_)|((first|refine zH ?_|refine zN rfl (by kernel_rfl) ?_|refine zM ?_|refine zK (by kernel_rfl) ?_);simp only[vZ,vY,strip])|((first|refine wIs fun K O=>?_|refine wOs fun K O=>?_|refine wQs fun K O=>?_|refine zW ?_|refine zX ?_|refine zY ?_|refine zL ?_);simp[g0,g7,g8,g9,g3,b3,b0,b1,hlt])|(refine wIn ?_;refine And.intro (by kernel_rfl) ?_;try simp only[zZ])|refine zQ ?_|refine zS ?_|((first|refine zI ?_|refine zO ?_|refine zP ?_);try simp)|((first|refine zR ?_|refine wOn ?_|refine wQn ?_);try simp only[zZ])|refine zU.p c rfl ?_|refine zU.l c rfl ?_|refine zT.p c rfl ?_|refine zT.l c rfl ?_|refine zU.o c ?_|refine zV.p c rfl ?_|refine zV.l c rfl ?_|refine zV.o c ?_
  all_goals first|apply hr|apply hn
  all_goals refine⟨[],by simp,by simp,?_⟩
  all_goals simp[Tryz.f60,wK,wP,yW,gaN,b0,b1]
def carrier (kind:Int)(m:Mb):Bool:=decide (m.r=1) && (decide (kind=1) || decide (0<m.w))
def xD (kind:Int)(l:List Mb):Bool:=l.any (carrier kind)
def fine (p:Int):List Mb->Bool
 |[]=>true
 |m::l=>decide (okM m/\p<m.i) && fine m.i l
def ranged (c:Cf):Prop:=(1<=c.kind/\c.kind<=3)/\(0<=c.ep/\c.ep<=1099511627776)/\(0<=c.n/\c.n<=1099511627776)
instance (c:Cf):Decidable (ranged c):=by unfold ranged;infer_instance
def check (c:Cf):Int:=if ranged c then if fine (-1) c.ms=true then if xD c.kind c.ms=true then 0 else 15 else 1 else 1
theorem carried_con (c:Cf)(hl:c.ms.length<=1000000):zD Tryz.prog 43 [.p (.agg c.cells)] (.p (B (xD c.kind c.ms))):=by
 obtain⟨ep,n,kind,l⟩:=c
 simp only[Cf.cells] at hl ⊢
 refine zG Tryz.tab Tryz.mixed Tryz.func43 rfl rfl Tryz.ntmps43 (by simp) (by simp) fun Q hr hn=>?_
 repeat' first|((first|refine O _ ?_|refine O _ _ ?_|(clear O;refine O _ ?_));clear O)|(refine zJ fun K O=>?_)|((first|refine zH ?_|refine zN rfl (by kernel_rfl) ?_|refine zM ?_|refine zK (by kernel_rfl) ?_);simp only[vZ,vY,strip])|((first|refine wIs fun K O=>?_|refine wOs fun K O=>?_|refine wQs fun K O=>?_|refine zW ?_|refine zX ?_|refine zY ?_|refine zL ?_);simp)|(refine wIn ?_;refine And.intro (by kernel_rfl) ?_;try simp only[zZ])|refine zQ ?_|refine zS ?_|((first|refine zI ?_|refine zO ?_|refine zP ?_);try simp)|((first|refine zR ?_|refine wOn ?_|refine wQn ?_);try simp only[zZ])
 refine yT (fun N st=>∃k,k+N=l.length/\st.s 1=.ptr 1 0/\st.b 1=some (.box 28 [.p (I ep),.p (I n),.p (I kind),.p (.sl 4 (mbs l))])/\st.s 6=.p (.sl 4 (mbs l))/\st.s 7=.p (I l.length)/\st.s 8=.p (I k)/\xD kind (l.drop k)=xD kind l) l.length ⟨0,by simp⟩ fun K N st hL ⟨k,hk,h1,b1,h6,h7,h8,hi⟩=>?_
 by_cases hlt:k<l.length
 ·have hw:=yA k _ hlt (by omega)
  rw[List.drop_eq_getElem_cons hlt] at hi
  simp only[xD,List.any_cons] at hi
  by_cases g1:l[k].r=1
  ·by_cases g2:kind=1
   ·repeat' first|(refine O _ ?_;clear O)|(refine O _ _ ?_;clear O)|(clear O;refine O _ ?_;clear O)|(clear O;clear O;refine O _ ?_;clear O)|(clear O;clear O;clear O;refine O _ ?_;clear O)|(clear O;clear O;clear O;clear O;refine O _ ?_;clear O)|(refine zJ fun K O=>?_)|((first|refine zH ?_|refine zN rfl (by kernel_rfl) ?_|refine zM ?_|refine zK (by kernel_rfl) ?_);simp only[vZ,vY,strip])|((first|refine wIs fun K O=>?_|refine wOs fun K O=>?_|refine wQs fun K O=>?_|refine zW ?_|refine zX ?_|refine zY ?_|refine zL ?_);simp[h1,b1,h6,h7,h8,hlt,hw,g1,g2])|(refine wIn ?_;refine And.intro (by kernel_rfl) ?_;try simp only[zZ])|(first|refine zQ ?_|refine zS ?_)|((first|refine zI ?_|refine zO ?_|refine zP ?_);try simp)|((first|refine zR ?_|refine wOn ?_|refine wQn ?_);try simp only[zZ])
    all_goals apply hr
    all_goals simp[Tryz.f43]
    all_goals simp[carrier,g1,g2] at hi
    all_goals simp[xD,carrier,g2]
    all_goals exact hi
   ·by_cases g3:0<l[k].w
    ·repeat' first|(refine O _ ?_;clear O)|(refine O _ _ ?_;clear O)|(clear O;refine O _ ?_;clear O)|(clear O;clear O;refine O _ ?_;clear O)|(clear O;clear O;clear O;refine O _ ?_;clear O)|(clear O;clear O;clear O;clear O;refine O _ ?_;clear O)|(refine zJ fun K O=>?_)|((first|refine zH ?_|refine zN rfl (by kernel_rfl) ?_|refine zM ?_|refine zK (by kernel_rfl) ?_);simp only[vZ,vY,strip])|((first|refine wIs fun K O=>?_|refine wOs fun K O=>?_|refine wQs fun K O=>?_|refine zW ?_|refine zX ?_|refine zY ?_|refine zL ?_);simp[h1,b1,h6,h7,h8,hlt,hw,g1,g2,g3])|(refine wIn ?_;refine And.intro (by kernel_rfl) ?_;try simp only[zZ])|(first|refine zQ ?_|refine zS ?_)|((first|refine zI ?_|refine zO ?_|refine zP ?_);try simp)|((first|refine zR ?_|refine wOn ?_|refine wQn ?_);try simp only[zZ])
     all_goals apply hr
     all_goals simp[Tryz.f43]
     all_goals simp[carrier,g1,g2,g3] at hi
     all_goals simp[xD,carrier,g2]
     all_goals exact hi
    ·repeat' first|(refine O _ ?_;clear O)|(refine O _ _ ?_;clear O)|(clear O;refine O _ ?_;clear O)|(clear O;clear O;refine O _ ?_;clear O)|(clear O;clear O;clear O;refine O _ ?_;clear O)|(clear O;clear O;clear O;clear O;refine O _ ?_;clear O)|(refine zJ fun K O=>?_)|((first|refine zH ?_|refine zN rfl (by kernel_rfl) ?_|refine zM ?_|refine zK (by kernel_rfl) ?_);simp only[vZ,vY,strip])|((first|refine wIs fun K O=>?_|refine wOs fun K O=>?_|refine wQs fun K O=>?_|refine zW ?_|refine zX ?_|refine zY ?_|refine zL ?_);simp[h1,b1,h6,h7,h8,hlt,hw,g1,g2,g3])|(refine wIn ?_;refine And.intro (by kernel_rfl) ?_;try simp only[zZ])|(first|refine zQ ?_|refine zS ?_)|((first|refine zI ?_|refine zO ?_|refine zP ?_);try simp)|((first|refine zR ?_|refine wOn ?_|refine wQn ?_);try simp only[zZ])
     refine hL _ (N-1) (by omega) ⟨k+1,by omega,?_⟩
     simp[h1,b1,h6,h7,hw]
     simp[xD,<- hi,carrier,g1,g2,g3]
  ·repeat' first|(refine O _ ?_;clear O)|(refine O _ _ ?_;clear O)|(clear O;refine O _ ?_;clear O)|(clear O;clear O;refine O _ ?_;clear O)|(clear O;clear O;clear O;refine O _ ?_;clear O)|(clear O;clear O;clear O;clear O;refine O _ ?_;clear O)|(refine zJ fun K O=>?_)|((first|refine zH ?_|refine zN rfl (by kernel_rfl) ?_|refine zM ?_|refine zK (by kernel_rfl) ?_);simp only[vZ,vY,strip])|((first|refine wIs fun K O=>?_|refine wOs fun K O=>?_|refine wQs fun K O=>?_|refine zW ?_|refine zX ?_|refine zY ?_|refine zL ?_);simp[h1,b1,h6,h7,h8,hlt,hw,g1])|(refine wIn ?_;refine And.intro (by kernel_rfl) ?_;try simp only[zZ])|(first|refine zQ ?_|refine zS ?_)|((first|refine zI ?_|refine zO ?_|refine zP ?_);try simp)|((first|refine zR ?_|refine wOn ?_|refine wQn ?_);try simp only[zZ])
   refine hL _ (N-1) (by omega) ⟨k+1,by omega,?_⟩
   simp[h1,b1,h6,h7,hw]
   simp[xD,<- hi,carrier,g1]
 ·rw[List.drop_of_length_le (by omega)] at hi
  repeat' first|((first|refine O _ ?_|refine O _ _ ?_|(clear O;refine O _ ?_));clear O)|(refine zJ fun K O=>?_)|((first|refine zH ?_|refine zN rfl (by kernel_rfl) ?_|refine zM ?_|refine zK (by kernel_rfl) ?_);simp only[vZ,vY,strip])|((first|refine wIs fun K O=>?_|refine wOs fun K O=>?_|refine wQs fun K O=>?_|refine zW ?_|refine zX ?_|refine zY ?_|refine zL ?_);simp[h1,b1,h6,h7,h8,hlt])|(refine wIn ?_;refine And.intro (by kernel_rfl) ?_;try simp only[zZ])|refine zQ ?_|refine zS ?_|((first|refine zI ?_|refine zO ?_|refine zP ?_);try simp)|((first|refine zR ?_|refine wOn ?_|refine wQn ?_);try simp only[zZ])
  apply hr
  rw[<- hi]
  simp[Tryz.f43]
  rfl
def prevI (l:List Mb)(k:Nat):Int:=if h:0<k/\k<=l.length then (l[k-1]'(by omega)).i else -1
theorem prevI_succ (l:List Mb)(k:Nat)(h:k<l.length):prevI l (k+1)=l[k].i:=by
 unfold prevI;rw[dif_pos ⟨by omega,by omega⟩];rfl
theorem prevI_pos (l:List Mb)(k:Nat)(h0:0<k)(h:k<l.length):prevI l k=(l[k-1]'(by omega)).i:=by
 unfold prevI;rw[dif_pos ⟨by omega,by omega⟩]
theorem prevI_zero (l:List Mb):prevI l 0 = -1:=by unfold prevI;rw[dif_neg (by omega)]
set_option maxHeartbeats 8000000 in
theorem checkM_con (c:Cf)(hl:c.ms.length<=1000000):zD Tryz.prog 18 [.p (.agg c.cells)] (.p (I (check c))):=by
 have cc:=carried_con c hl
 obtain⟨ep,n,kind,l⟩:=c
 simp only[Cf.cells,check,ranged] at hl cc ⊢
 have c1:=within_con ep 1099511627776
 have c2:=within_con n 1099511627776
 by_cases g1:kind<1
 ·have g1':¬ 1<=kind:=by omega
  refine zG Tryz.tab Tryz.mixed Tryz.func18 rfl rfl Tryz.ntmps18 (by simp) (by simp) fun Q hr hn=>?_
  repeat' first|((first|refine O _ ?_|refine O _ _ ?_|(clear O;refine O _ ?_));clear O)|(refine zJ fun K O=>?_)|((first|refine zH ?_|refine zN rfl (by kernel_rfl) ?_|refine zM ?_|refine zK (by kernel_rfl) ?_);simp only[vZ,vY,strip])|((first|refine wIs fun K O=>?_|refine wOs fun K O=>?_|refine wQs fun K O=>?_|refine zW ?_|refine zX ?_|refine zY ?_|refine zL ?_);simp[g1])|(refine wIn ?_;refine And.intro (by kernel_rfl) ?_;try simp only[zZ])|refine zQ ?_|refine zS ?_|((first|refine zI ?_|refine zO ?_|refine zP ?_);try simp)|((first|refine zR ?_|refine wOn ?_|refine wQn ?_);try simp only[zZ])
  all_goals apply hr
  all_goals simp[Tryz.f18,g1']
 by_cases g2:3<kind
 ·have g2':¬ kind<=3:=by omega
  refine zG Tryz.tab Tryz.mixed Tryz.func18 rfl rfl Tryz.ntmps18 (by simp) (by simp) fun Q hr hn=>?_
  repeat' first|((first|refine O _ ?_|refine O _ _ ?_|(clear O;refine O _ ?_));clear O)|(refine zJ fun K O=>?_)|((first|refine zH ?_|refine zN rfl (by kernel_rfl) ?_|refine zM ?_|refine zK (by kernel_rfl) ?_);simp only[vZ,vY,strip])|((first|refine wIs fun K O=>?_|refine wOs fun K O=>?_|refine wQs fun K O=>?_|refine zW ?_|refine zX ?_|refine zY ?_|refine zL ?_);simp[g1,g2])|(refine wIn ?_;refine And.intro (by kernel_rfl) ?_;try simp only[zZ])|refine zQ ?_|refine zS ?_|((first|refine zI ?_|refine zO ?_|refine zP ?_);try simp)|((first|refine zR ?_|refine wOn ?_|refine wQn ?_);try simp only[zZ])
  all_goals apply hr
  all_goals simp[Tryz.f18,g2']
 by_cases g3:0<=ep/\ep<=1099511627776
 rotate_left
 ·rw[decide_eq_false g3] at c1
  refine zG Tryz.tab Tryz.mixed Tryz.func18 rfl rfl Tryz.ntmps18 (by simp) (by simp) fun Q hr hn=>?_
  repeat' first|((first|refine O _ ?_|refine O _ _ ?_|(clear O;refine O _ ?_));clear O)|(refine zJ fun K O=>?_)|((first|refine zH ?_|refine zN rfl (by kernel_rfl) ?_|refine zM ?_|refine zK (by kernel_rfl) ?_);simp only[vZ,vY,strip])|((first|refine wIs fun K O=>?_|refine wOs fun K O=>?_|refine wQs fun K O=>?_|refine zW ?_|refine zX ?_|refine zY ?_|refine zL ?_);simp[g1,g2])|(refine wIn ?_;refine And.intro (by kernel_rfl) ?_;try simp only[zZ])|refine zQ ?_|refine zS ?_|((first|refine zI ?_|refine zO ?_|refine zP ?_);try simp)|((first|refine zR ?_|refine wOn ?_|refine wQn ?_);try simp only[zZ])|refine zU.p c1 rfl ?_|refine zU.l c1 rfl ?_|refine zT.p c1 rfl ?_|refine zT.l c1 rfl ?_|refine zU.o c1 ?_|refine zV.p c1 rfl ?_|refine zV.l c1 rfl ?_|refine zV.o c1 ?_
  all_goals apply hr
  all_goals simp[Tryz.f18,g3]
 rw[decide_eq_true g3] at c1
 by_cases g4:0<=n/\n<=1099511627776
 rotate_left
 ·rw[decide_eq_false g4] at c2
  refine zG Tryz.tab Tryz.mixed Tryz.func18 rfl rfl Tryz.ntmps18 (by simp) (by simp) fun Q hr hn=>?_
  repeat' first|((first|refine O _ ?_|refine O _ _ ?_|(clear O;refine O _ ?_));clear O)|(refine zJ fun K O=>?_)|((first|refine zH ?_|refine zN rfl (by kernel_rfl) ?_|refine zM ?_|refine zK (by kernel_rfl) ?_);simp only[vZ,vY,strip])|((first|refine wIs fun K O=>?_|refine wOs fun K O=>?_|refine wQs fun K O=>?_|refine zW ?_|refine zX ?_|refine zY ?_|refine zL ?_);simp[g1,g2])|(refine wIn ?_;refine And.intro (by kernel_rfl) ?_;try simp only[zZ])|refine zQ ?_|refine zS ?_|((first|refine zI ?_|refine zO ?_|refine zP ?_);try simp)|((first|refine zR ?_|refine wOn ?_|refine wQn ?_);try simp only[zZ])|refine zU.p c1 rfl ?_|refine zU.l c1 rfl ?_|refine zT.p c1 rfl ?_|refine zT.l c1 rfl ?_|refine zU.o c1 ?_|refine zV.p c1 rfl ?_|refine zV.l c1 rfl ?_|refine zV.o c1 ?_|refine zU.p c2 rfl ?_|refine zU.l c2 rfl ?_|refine zT.p c2 rfl ?_|refine zT.l c2 rfl ?_|refine zU.o c2 ?_|refine zV.p c2 rfl ?_|refine zV.l c2 rfl ?_|refine zV.o c2 ?_
  all_goals apply hr
  all_goals simp[Tryz.f18,g4]
 rw[decide_eq_true g4] at c2
 rw[if_pos ⟨⟨by omega,by omega⟩,g3,g4⟩]
 refine zG Tryz.tab Tryz.mixed Tryz.func18 rfl rfl Tryz.ntmps18 (by simp) (by simp) fun Q hr hn=>?_
 repeat' first|((first|refine O _ ?_|refine O _ _ ?_|(clear O;refine O _ ?_));clear O)|(refine zJ fun K O=>?_)|((first|refine zH ?_|refine zN rfl (by kernel_rfl) ?_|refine zM ?_|refine zK (by kernel_rfl) ?_);simp only[vZ,vY,strip])|((first|refine wIs fun K O=>?_|refine wOs fun K O=>?_|refine wQs fun K O=>?_|refine zW ?_|refine zX ?_|refine zY ?_|refine zL ?_);simp[g1,g2])|(refine wIn ?_;refine And.intro (by kernel_rfl) ?_;try simp only[zZ])|refine zQ ?_|refine zS ?_|((first|refine zI ?_|refine zO ?_|refine zP ?_);try simp)|((first|refine zR ?_|refine wOn ?_|refine wQn ?_);try simp only[zZ])|refine zU.p c1 rfl ?_|refine zU.l c1 rfl ?_|refine zT.p c1 rfl ?_|refine zT.l c1 rfl ?_|refine zU.o c1 ?_|refine zV.p c1 rfl ?_|refine zV.l c1 rfl ?_|refine zV.o c1 ?_|refine zU.p c2 rfl ?_|refine zU.l c2 rfl ?_|refine zT.p c2 rfl ?_|refine zT.l c2 rfl ?_|refine zU.o c2 ?_|refine zV.p c2 rfl ?_|refine zV.l c2 rfl ?_|refine zV.o c2 ?_
 refine yT (fun N st=>∃k,k+N=l.length/\st.s 1=.ptr 1 0/\st.b 1=some (.box 28 [.p (I ep),.p (I n),.p (I kind),.p (.sl 4 (mbs l))])/\st.s 28=.p (.sl 4 (mbs l))/\st.s 29=.p (I l.length)/\st.s 30=.p (I k)/\fine (prevI l k) (l.drop k)=fine (-1) l) l.length ⟨0,by simp[prevI_zero]⟩ fun K N st hL ⟨k,hk,h1,b1,h28,h29,h30,hi⟩=>?_
 by_cases hlt:k<l.length
 ·have hw:=yA k _ hlt (by omega)
  rw[List.drop_eq_getElem_cons hlt,fine] at hi
  have cr:=rightM_con l[k]
  simp only[Mb.cells] at cr
  by_cases o1:okM l[k]
  ·rw[decide_eq_true o1] at cr
   by_cases o2:0<k
   ·have o2':(0:Int)<k:=by omega
    have hw1:IntKind.i64.wrap ((k:Int)-1)=((k-1:Nat):Int):=by rw[zF] <;> omega
    have hk1:k-1<l.length:=by omega
    rw[prevI_pos l k o2 hlt] at hi
    by_cases o3:l[k].i<=l[k-1].i
    ·repeat' first|(refine O _ ?_;clear O)|(refine O _ _ ?_;clear O)|(clear O;refine O _ ?_;clear O)|(clear O;clear O;refine O _ ?_;clear O)|(clear O;clear O;clear O;refine O _ ?_;clear O)|(clear O;clear O;clear O;clear O;refine O _ ?_;clear O)|(refine zJ fun K O=>?_)|((first|refine zH ?_|refine zN rfl (by kernel_rfl) ?_|refine zM ?_|refine zK (by kernel_rfl) ?_);simp only[vZ,vY,strip])|((first|refine wIs fun K O=>?_|refine wOs fun K O=>?_|refine wQs fun K O=>?_|refine zW ?_|refine zX ?_|refine zY ?_|refine zL ?_);simp[h1,b1,h28,h29,h30,hlt,hw,o2,o2',hw1,hk1,o3])|(refine wIn ?_;refine And.intro (by kernel_rfl) ?_;try simp only[zZ])|(first|refine zQ ?_|refine zS ?_)|((first|refine zI ?_|refine zO ?_|refine zP ?_);try simp)|((first|refine zR ?_|refine wOn ?_|refine wQn ?_);try simp only[zZ])|(refine zU.p (cr) rfl ?_)|(refine zU.l (cr) rfl ?_)|(refine zT.p (cr) rfl ?_)|(refine zT.l (cr) rfl ?_)|(refine zU.o (cr) ?_)|(refine zV.p (cr) rfl ?_)|(refine zV.l (cr) rfl ?_)|(refine zV.o (cr) ?_)
     all_goals apply hr
     all_goals simp[Tryz.f18]
     all_goals rw[decide_eq_false (by omega)] at hi
     all_goals simp[<- hi]
    ·repeat' first|(refine O _ ?_;clear O)|(refine O _ _ ?_;clear O)|(clear O;refine O _ ?_;clear O)|(clear O;clear O;refine O _ ?_;clear O)|(clear O;clear O;clear O;refine O _ ?_;clear O)|(clear O;clear O;clear O;clear O;refine O _ ?_;clear O)|(refine zJ fun K O=>?_)|((first|refine zH ?_|refine zN rfl (by kernel_rfl) ?_|refine zM ?_|refine zK (by kernel_rfl) ?_);simp only[vZ,vY,strip])|((first|refine wIs fun K O=>?_|refine wOs fun K O=>?_|refine wQs fun K O=>?_|refine zW ?_|refine zX ?_|refine zY ?_|refine zL ?_);simp[h1,b1,h28,h29,h30,hlt,hw,o2,o2',hw1,hk1,o3])|(refine wIn ?_;refine And.intro (by kernel_rfl) ?_;try simp only[zZ])|(first|refine zQ ?_|refine zS ?_)|((first|refine zI ?_|refine zO ?_|refine zP ?_);try simp)|((first|refine zR ?_|refine wOn ?_|refine wQn ?_);try simp only[zZ])|(refine zU.p (cr) rfl ?_)|(refine zU.l (cr) rfl ?_)|(refine zT.p (cr) rfl ?_)|(refine zT.l (cr) rfl ?_)|(refine zU.o (cr) ?_)|(refine zV.p (cr) rfl ?_)|(refine zV.l (cr) rfl ?_)|(refine zV.o (cr) ?_)
     refine hL _ (N-1) (by omega) ⟨k+1,by omega,?_⟩
     simp[h1,b1,h28,h29,hw]
     rw[decide_eq_true ⟨o1,by omega⟩,Bool.true_and] at hi
     rw[prevI_succ l k hlt];exact hi
   ·obtain rfl:k=0:=by omega
    simp at h30 hw
    repeat' first|((first|refine O _ ?_|refine O _ _ ?_|(clear O;refine O _ ?_));clear O)|(refine zJ fun K O=>?_)|((first|refine zH ?_|refine zN rfl (by kernel_rfl) ?_|refine zM ?_|refine zK (by kernel_rfl) ?_);simp only[vZ,vY,strip])|((first|refine wIs fun K O=>?_|refine wOs fun K O=>?_|refine wQs fun K O=>?_|refine zW ?_|refine zX ?_|refine zY ?_|refine zL ?_);simp[h1,b1,h28,h29,h30,hlt,hw])|(refine wIn ?_;refine And.intro (by kernel_rfl) ?_;try simp only[zZ])|refine zQ ?_|refine zS ?_|((first|refine zI ?_|refine zO ?_|refine zP ?_);try simp)|((first|refine zR ?_|refine wOn ?_|refine wQn ?_);try simp only[zZ])|refine zU.p cr rfl ?_|refine zU.l cr rfl ?_|refine zT.p cr rfl ?_|refine zT.l cr rfl ?_|refine zU.o cr ?_|refine zV.p cr rfl ?_|refine zV.l cr rfl ?_|refine zV.o cr ?_
    refine hL _ (N-1) (by omega) ⟨1,by omega,?_⟩
    simp[h1,b1,h28,h29,hw]
    have:=o1.1.1
    rw[prevI_zero,decide_eq_true ⟨o1,by omega⟩,Bool.true_and] at hi
    rw[show (1:Nat)=0+1 from rfl,prevI_succ l 0 hlt,<- List.drop_one];exact hi
  ·rw[decide_eq_false o1] at cr
   repeat' first|((first|refine O _ ?_|refine O _ _ ?_|(clear O;refine O _ ?_));clear O)|(refine zJ fun K O=>?_)|((first|refine zH ?_|refine zN rfl (by kernel_rfl) ?_|refine zM ?_|refine zK (by kernel_rfl) ?_);simp only[vZ,vY,strip])|((first|refine wIs fun K O=>?_|refine wOs fun K O=>?_|refine wQs fun K O=>?_|refine zW ?_|refine zX ?_|refine zY ?_|refine zL ?_);simp[h1,b1,h28,h29,h30,hlt,hw])|(refine wIn ?_;refine And.intro (by kernel_rfl) ?_;try simp only[zZ])|refine zQ ?_|refine zS ?_|((first|refine zI ?_|refine zO ?_|refine zP ?_);try simp)|((first|refine zR ?_|refine wOn ?_|refine wQn ?_);try simp only[zZ])|refine zU.p cr rfl ?_|refine zU.l cr rfl ?_|refine zT.p cr rfl ?_|refine zT.l cr rfl ?_|refine zU.o cr ?_|refine zV.p cr rfl ?_|refine zV.l cr rfl ?_|refine zV.o cr ?_
   all_goals apply hr
   all_goals simp[Tryz.f18]
   all_goals simp[<- hi,o1]
 ·rw[List.drop_of_length_le (by omega)] at hi
  have hi':fine (-1) l=true:=hi ▸ rfl
  by_cases g5:xD kind l=true
  ·rw[g5] at cc
   repeat' first|((first|refine O _ ?_|refine O _ _ ?_|(clear O;refine O _ ?_));clear O)|(refine zJ fun K O=>?_)|((first|refine zH ?_|refine zN rfl (by kernel_rfl) ?_|refine zM ?_|refine zK (by kernel_rfl) ?_);simp only[vZ,vY,strip])|((first|refine wIs fun K O=>?_|refine wOs fun K O=>?_|refine wQs fun K O=>?_|refine zW ?_|refine zX ?_|refine zY ?_|refine zL ?_);simp[h1,b1,h28,h29,h30,hlt])|(refine wIn ?_;refine And.intro (by kernel_rfl) ?_;try simp only[zZ])|refine zQ ?_|refine zS ?_|((first|refine zI ?_|refine zO ?_|refine zP ?_);try simp)|((first|refine zR ?_|refine wOn ?_|refine wQn ?_);try simp only[zZ])|refine zU.p cc rfl ?_|refine zU.l cc rfl ?_|refine zT.p cc rfl ?_|refine zT.l cc rfl ?_|refine zU.o cc ?_|refine zV.p cc rfl ?_|refine zV.l cc rfl ?_|refine zV.o cc ?_
   all_goals apply hr
   all_goals simp[Tryz.f18,hi',g5]
  ·rw[Bool.not_eq_true] at g5
   rw[g5] at cc
   repeat' first|((first|refine O _ ?_|refine O _ _ ?_|(clear O;refine O _ ?_));clear O)|(refine zJ fun K O=>?_)|((first|refine zH ?_|refine zN rfl (by kernel_rfl) ?_|refine zM ?_|refine zK (by kernel_rfl) ?_);simp only[vZ,vY,strip])|((first|refine wIs fun K O=>?_|refine wOs fun K O=>?_|refine wQs fun K O=>?_|refine zW ?_|refine zX ?_|refine zY ?_|refine zL ?_);simp[h1,b1,h28,h29,h30,hlt])|(refine wIn ?_;refine And.intro (by kernel_rfl) ?_;try simp only[zZ])|refine zQ ?_|refine zS ?_|((first|refine zI ?_|refine zO ?_|refine zP ?_);try simp)|((first|refine zR ?_|refine wOn ?_|refine wQn ?_);try simp only[zZ])|refine zU.p cc rfl ?_|refine zU.l cc rfl ?_|refine zT.p cc rfl ?_|refine zT.l cc rfl ?_|refine zU.o cc ?_|refine zV.p cc rfl ?_|refine zV.l cc rfl ?_|refine zV.o cc ?_
   all_goals apply hr
   all_goals simp[Tryz.f18,hi',g5]
def wsum:List Mb->Int
 |[]=>0
 |m::l=>(if m.r=1 then m.w else 0)+wsum l
def cnt:List Mb->Int
 |[]=>0
 |m::l=>(if m.r=1 then 1 else 0)+cnt l
theorem sums (kind:Int)(l:List Mb):∀p,fine p l=true->0<=wsum l/\0<=cnt l/\(cnt l=0->wsum l=0)/\(kind=1->xD kind l=decide (0<cnt l))/\(kind ≠ 1->xD kind l=decide (0<wsum l)):=by
 induction l with
 |nil=>intro p h;simp[wsum,cnt,xD]
 |cons m l ih =>
  intro p h
  simp only[fine,Bool.and_eq_true,decide_eq_true_eq] at h
  obtain⟨⟨ho,hp⟩,hf⟩:=h
  obtain⟨e1,e2,e3,e4,e5⟩:=ih _ hf
  have hw:=ho.2.2.1
  simp only[wsum,cnt,xD,List.any_cons,carrier] at *
  by_cases hr:m.r=1
  ·simp only[hr,if_true,decide_true,Bool.true_and]
   refine⟨by omega,by omega,by omega,fun hk=>?_,fun hk=>?_⟩
   ·simp[hk];omega
   ·rw[e5 hk]
    by_cases g:0<m.w
    ·simp[hk,g];omega
    ·simp[hk,g,show m.w=0 by omega]
  ·simp only[hr,if_false,decide_false,Bool.false_and,Bool.false_or,Int.zero_add]
   exact⟨e1,e2,e3,e4,e5⟩
set_option maxHeartbeats 8000000 in
theorem check04_con (c:Cf)(hl:c.ms.length<=1000000):zD Tryz.prog 20 [.p (.agg c.cells)] (.p (I (check c))):=by
 obtain⟨ep,n,kind,l⟩:=c
 simp only[Cf.cells,check,ranged] at hl ⊢
 by_cases g1:kind<1
 ·have g1':¬ 1<=kind:=by omega
  refine zG Tryz.tab Tryz.mixed Tryz.func20 rfl rfl Tryz.ntmps20 (by simp) (by simp) fun Q hr hn=>?_
  repeat' first|((first|refine O _ ?_|refine O _ _ ?_|(clear O;refine O _ ?_));clear O)|(refine zJ fun K O=>?_)|((first|refine zH ?_|refine zN rfl (by kernel_rfl) ?_|refine zM ?_|refine zK (by kernel_rfl) ?_);simp only[vZ,vY,strip])|((first|refine wIs fun K O=>?_|refine wOs fun K O=>?_|refine wQs fun K O=>?_|refine zW ?_|refine zX ?_|refine zY ?_|refine zL ?_);simp[g1])|(refine wIn ?_;refine And.intro (by kernel_rfl) ?_;try simp only[zZ])|refine zQ ?_|refine zS ?_|((first|refine zI ?_|refine zO ?_|refine zP ?_);try simp)|((first|refine zR ?_|refine wOn ?_|refine wQn ?_);try simp only[zZ])
  all_goals apply hr
  all_goals simp[Tryz.f20,g1']
 by_cases g2:3<kind
 ·have g2':¬ kind<=3:=by omega
  refine zG Tryz.tab Tryz.mixed Tryz.func20 rfl rfl Tryz.ntmps20 (by simp) (by simp) fun Q hr hn=>?_
  repeat' first|((first|refine O _ ?_|refine O _ _ ?_|(clear O;refine O _ ?_));clear O)|(refine zJ fun K O=>?_)|((first|refine zH ?_|refine zN rfl (by kernel_rfl) ?_|refine zM ?_|refine zK (by kernel_rfl) ?_);simp only[vZ,vY,strip])|((first|refine wIs fun K O=>?_|refine wOs fun K O=>?_|refine wQs fun K O=>?_|refine zW ?_|refine zX ?_|refine zY ?_|refine zL ?_);simp[g1,g2])|(refine wIn ?_;refine And.intro (by kernel_rfl) ?_;try simp only[zZ])|refine zQ ?_|refine zS ?_|((first|refine zI ?_|refine zO ?_|refine zP ?_);try simp)|((first|refine zR ?_|refine wOn ?_|refine wQn ?_);try simp only[zZ])
  all_goals apply hr
  all_goals simp[Tryz.f20,g2']
 by_cases g3:ep<0
 ·have g3':¬ 0<=ep:=by omega
  refine zG Tryz.tab Tryz.mixed Tryz.func20 rfl rfl Tryz.ntmps20 (by simp) (by simp) fun Q hr hn=>?_
  repeat' first|((first|refine O _ ?_|refine O _ _ ?_|(clear O;refine O _ ?_));clear O)|(refine zJ fun K O=>?_)|((first|refine zH ?_|refine zN rfl (by kernel_rfl) ?_|refine zM ?_|refine zK (by kernel_rfl) ?_);simp only[vZ,vY,strip])|((first|refine wIs fun K O=>?_|refine wOs fun K O=>?_|refine wQs fun K O=>?_|refine zW ?_|refine zX ?_|refine zY ?_|refine zL ?_);simp[g1,g2,g3])|(refine wIn ?_;refine And.intro (by kernel_rfl) ?_;try simp only[zZ])|refine zQ ?_|refine zS ?_|((first|refine zI ?_|refine zO ?_|refine zP ?_);try simp)|((first|refine zR ?_|refine wOn ?_|refine wQn ?_);try simp only[zZ])
  all_goals apply hr
  all_goals simp[Tryz.f20,g3']
 by_cases g4:1099511627776<ep
 ·have g4':¬ ep<=1099511627776:=by omega
  refine zG Tryz.tab Tryz.mixed Tryz.func20 rfl rfl Tryz.ntmps20 (by simp) (by simp) fun Q hr hn=>?_
  repeat' first|((first|refine O _ ?_|refine O _ _ ?_|(clear O;refine O _ ?_));clear O)|(refine zJ fun K O=>?_)|((first|refine zH ?_|refine zN rfl (by kernel_rfl) ?_|refine zM ?_|refine zK (by kernel_rfl) ?_);simp only[vZ,vY,strip])|((first|refine wIs fun K O=>?_|refine wOs fun K O=>?_|refine wQs fun K O=>?_|refine zW ?_|refine zX ?_|refine zY ?_|refine zL ?_);simp[g1,g2,g3,g4])|(refine wIn ?_;refine And.intro (by kernel_rfl) ?_;try simp only[zZ])|refine zQ ?_|refine zS ?_|((first|refine zI ?_|refine zO ?_|refine zP ?_);try simp)|((first|refine zR ?_|refine wOn ?_|refine wQn ?_);try simp only[zZ])
  all_goals apply hr
  all_goals simp[Tryz.f20,g4']
 by_cases g5:n<0
 ·have g5':¬ 0<=n:=by omega
  refine zG Tryz.tab Tryz.mixed Tryz.func20 rfl rfl Tryz.ntmps20 (by simp) (by simp) fun Q hr hn=>?_
  repeat' first|((first|refine O _ ?_|refine O _ _ ?_|(clear O;refine O _ ?_));clear O)|(refine zJ fun K O=>?_)|((first|refine zH ?_|refine zN rfl (by kernel_rfl) ?_|refine zM ?_|refine zK (by kernel_rfl) ?_);simp only[vZ,vY,strip])|((first|refine wIs fun K O=>?_|refine wOs fun K O=>?_|refine wQs fun K O=>?_|refine zW ?_|refine zX ?_|refine zY ?_|refine zL ?_);simp[g1,g2,g3,g4,g5])|(refine wIn ?_;refine And.intro (by kernel_rfl) ?_;try simp only[zZ])|refine zQ ?_|refine zS ?_|((first|refine zI ?_|refine zO ?_|refine zP ?_);try simp)|((first|refine zR ?_|refine wOn ?_|refine wQn ?_);try simp only[zZ])
  all_goals apply hr
  all_goals simp[Tryz.f20,g5']
 by_cases g6:1099511627776<n
 ·have g6':¬ n<=1099511627776:=by omega
  refine zG Tryz.tab Tryz.mixed Tryz.func20 rfl rfl Tryz.ntmps20 (by simp) (by simp) fun Q hr hn=>?_
  repeat' first|((first|refine O _ ?_|refine O _ _ ?_|(clear O;refine O _ ?_));clear O)|(refine zJ fun K O=>?_)|((first|refine zH ?_|refine zN rfl (by kernel_rfl) ?_|refine zM ?_|refine zK (by kernel_rfl) ?_);simp only[vZ,vY,strip])|((first|refine wIs fun K O=>?_|refine wOs fun K O=>?_|refine wQs fun K O=>?_|refine zW ?_|refine zX ?_|refine zY ?_|refine zL ?_);simp[g1,g2,g3,g4,g5,g6])|(refine wIn ?_;refine And.intro (by kernel_rfl) ?_;try simp only[zZ])|refine zQ ?_|refine zS ?_|((first|refine zI ?_|refine zO ?_|refine zP ?_);try simp)|((first|refine zR ?_|refine wOn ?_|refine wQn ?_);try simp only[zZ])
  all_goals apply hr
  all_goals simp[Tryz.f20,g6']
 rw[if_pos ⟨⟨by omega,by omega⟩,⟨by omega,by omega⟩,⟨by omega,by omega⟩⟩]
 refine zG Tryz.tab Tryz.mixed Tryz.func20 rfl rfl Tryz.ntmps20 (by simp) (by simp) fun Q hr hn=>?_
 repeat' first|((first|refine O _ ?_|refine O _ _ ?_|(clear O;refine O _ ?_));clear O)|(refine zJ fun K O=>?_)|((first|refine zH ?_|refine zN rfl (by kernel_rfl) ?_|refine zM ?_|refine zK (by kernel_rfl) ?_);simp only[vZ,vY,strip])|((first|refine wIs fun K O=>?_|refine wOs fun K O=>?_|refine wQs fun K O=>?_|refine zW ?_|refine zX ?_|refine zY ?_|refine zL ?_);simp[g1,g2,g3,g4,g5,g6])|(refine wIn ?_;refine And.intro (by kernel_rfl) ?_;try simp only[zZ])|refine zQ ?_|refine zS ?_|((first|refine zI ?_|refine zO ?_|refine zP ?_);try simp)|((first|refine zR ?_|refine wOn ?_|refine wQn ?_);try simp only[zZ])
 refine yT (fun N st=>∃ (k:Nat)(a b:Int),k+N=l.length/\st.s 1=.ptr 1 0/\st.b 1=some (.box 28 [.p (I ep),.p (I n),.p (I kind),.p (.sl 4 (mbs l))])/\st.s 40=.p (.sl 4 (mbs l))/\st.s 41=.p (I l.length)/\st.s 42=.p (I k)/\st.s 3=.p (I a)/\st.s 4=.p (I b)/\fine (prevI l k) (l.drop k)=fine (-1) l ∧
  (0<=a/\a<=100 * k/\a+wsum (l.drop k)=wsum l)/\(0<=b/\b<=k/\b+cnt (l.drop k)=cnt l)) l.length ⟨0,0,0,by simp[prevI_zero]⟩ fun K N st hL ⟨k,a,b,hk,h1,b1,h40,h41,h42,h3,h4,hi,⟨ha0,ha1,ha⟩,⟨hb0,hb1,hb⟩⟩=>?_
 by_cases hlt:k<l.length
 ·have hw:=yA k _ hlt (by omega)
  have hwb:IntKind.i64.wrap (b+1)=b+1:=by rw[zF] <;> omega
  rw[List.drop_eq_getElem_cons hlt,fine] at hi
  rw[List.drop_eq_getElem_cons hlt,wsum] at ha
  rw[List.drop_eq_getElem_cons hlt,cnt] at hb
  have cr:=ok04_con l[k]
  simp only[Mb.cells] at cr
  by_cases o1:okM l[k]
  ·rw[decide_eq_true o1] at cr
   have hw0:=o1.2.2.1
   have hwa:IntKind.i64.wrap (a+l[k].w)=a+l[k].w:=by rw[zF] <;> omega
   by_cases o2:0<k
   ·have o2':(0:Int)<k:=by omega
    have hw1:IntKind.i64.wrap ((k:Int)-1)=((k-1:Nat):Int):=by rw[zF] <;> omega
    have hk1:k-1<l.length:=by omega
    rw[prevI_pos l k o2 hlt] at hi
    by_cases o3:l[k].i<=l[k-1].i
    ·repeat' first|(refine O _ ?_;clear O)|(refine O _ _ ?_;clear O)|(clear O;refine O _ ?_;clear O)|(clear O;clear O;refine O _ ?_;clear O)|(clear O;clear O;clear O;refine O _ ?_;clear O)|(clear O;clear O;clear O;clear O;refine O _ ?_;clear O)|(refine zJ fun K O=>?_)|((first|refine zH ?_|refine zN rfl (by kernel_rfl) ?_|refine zM ?_|refine zK (by kernel_rfl) ?_);simp only[vZ,vY,strip])|((first|refine wIs fun K O=>?_|refine wOs fun K O=>?_|refine wQs fun K O=>?_|refine zW ?_|refine zX ?_|refine zY ?_|refine zL ?_);simp[h1,b1,h40,h41,h42,h3,h4,hlt,hw,o2,o2',hw1,hk1,o3])|(refine wIn ?_;refine And.intro (by kernel_rfl) ?_;try simp only[zZ])|(first|refine zQ ?_|refine zS ?_)|((first|refine zI ?_|refine zO ?_|refine zP ?_);try simp)|((first|refine zR ?_|refine wOn ?_|refine wQn ?_);try simp only[zZ])|(refine zU.p (cr) rfl ?_)|(refine zU.l (cr) rfl ?_)|(refine zT.p (cr) rfl ?_)|(refine zT.l (cr) rfl ?_)|(refine zU.o (cr) ?_)|(refine zV.p (cr) rfl ?_)|(refine zV.l (cr) rfl ?_)|(refine zV.o (cr) ?_)
     all_goals apply hr
     all_goals simp[Tryz.f20]
     all_goals rw[decide_eq_false (by omega)] at hi
     all_goals simp[<- hi]
    ·rw[decide_eq_true ⟨o1,by omega⟩,Bool.true_and] at hi
     by_cases o4:l[k].r=1
     ·rw[o4] at cr
      repeat' first|((first|refine O _ ?_|refine O _ _ ?_|(clear O;refine O _ ?_));clear O)|(refine zJ fun K O=>?_)|((first|refine zH ?_|refine zN rfl (by kernel_rfl) ?_|refine zM ?_|refine zK (by kernel_rfl) ?_);simp only[vZ,vY,strip])|((first|refine wIs fun K O=>?_|refine wOs fun K O=>?_|refine wQs fun K O=>?_|refine zW ?_|refine zX ?_|refine zY ?_|refine zL ?_);simp[h1,b1,h40,h41,h42,h3,h4,hlt,hw,o2,o2',hw1,hk1,o3,o4,hwa,hwb])|(refine wIn ?_;refine And.intro (by kernel_rfl) ?_;try simp only[zZ])|refine zQ ?_|refine zS ?_|((first|refine zI ?_|refine zO ?_|refine zP ?_);try simp)|((first|refine zR ?_|refine wOn ?_|refine wQn ?_);try simp only[zZ])|refine zU.p cr rfl ?_|refine zU.l cr rfl ?_|refine zT.p cr rfl ?_|refine zT.l cr rfl ?_|refine zU.o cr ?_|refine zV.p cr rfl ?_|refine zV.l cr rfl ?_|refine zV.o cr ?_
      refine hL _ (N-1) (by omega) ⟨k+1,a+l[k].w,b+1,by omega,?_⟩
      rw[if_pos o4] at ha hb
      simp[h1,b1,h40,h41,hw,hwa,hwb]
      rw[prevI_succ l k hlt]
      refine⟨hi,⟨by omega,by omega,by omega⟩,by omega,by omega⟩
     ·repeat' first|(refine O _ ?_;clear O)|(refine O _ _ ?_;clear O)|(clear O;refine O _ ?_;clear O)|(clear O;clear O;refine O _ ?_;clear O)|(clear O;clear O;clear O;refine O _ ?_;clear O)|(clear O;clear O;clear O;clear O;refine O _ ?_;clear O)|(refine zJ fun K O=>?_)|((first|refine zH ?_|refine zN rfl (by kernel_rfl) ?_|refine zM ?_|refine zK (by kernel_rfl) ?_);simp only[vZ,vY,strip])|((first|refine wIs fun K O=>?_|refine wOs fun K O=>?_|refine wQs fun K O=>?_|refine zW ?_|refine zX ?_|refine zY ?_|refine zL ?_);simp[h1,b1,h40,h41,h42,h3,h4,hlt,hw,o2,o2',hw1,hk1,o3,o4])|(refine wIn ?_;refine And.intro (by kernel_rfl) ?_;try simp only[zZ])|(first|refine zQ ?_|refine zS ?_)|((first|refine zI ?_|refine zO ?_|refine zP ?_);try simp)|((first|refine zR ?_|refine wOn ?_|refine wQn ?_);try simp only[zZ])|(refine zU.p (cr) rfl ?_)|(refine zU.l (cr) rfl ?_)|(refine zT.p (cr) rfl ?_)|(refine zT.l (cr) rfl ?_)|(refine zU.o (cr) ?_)|(refine zV.p (cr) rfl ?_)|(refine zV.l (cr) rfl ?_)|(refine zV.o (cr) ?_)
      refine hL _ (N-1) (by omega) ⟨k+1,a,b,by omega,?_⟩
      rw[if_neg o4] at ha hb
      simp[h1,b1,h40,h41,h3,h4,hw]
      rw[prevI_succ l k hlt]
      refine⟨hi,⟨by omega,by omega,by omega⟩,by omega,by omega,by omega⟩
   ·obtain rfl:k=0:=by omega
    have:=o1.1.1
    rw[prevI_zero,decide_eq_true ⟨o1,by omega⟩,Bool.true_and] at hi
    simp at h42 hw
    by_cases o4:l[0].r=1
    ·rw[o4] at cr
     repeat' first|((first|refine O _ ?_|refine O _ _ ?_|(clear O;refine O _ ?_));clear O)|(refine zJ fun K O=>?_)|((first|refine zH ?_|refine zN rfl (by kernel_rfl) ?_|refine zM ?_|refine zK (by kernel_rfl) ?_);simp only[vZ,vY,strip])|((first|refine wIs fun K O=>?_|refine wOs fun K O=>?_|refine wQs fun K O=>?_|refine zW ?_|refine zX ?_|refine zY ?_|refine zL ?_);simp[h1,b1,h40,h41,h42,h3,h4,hlt,hw,o4,hwa,hwb])|(refine wIn ?_;refine And.intro (by kernel_rfl) ?_;try simp only[zZ])|refine zQ ?_|refine zS ?_|((first|refine zI ?_|refine zO ?_|refine zP ?_);try simp)|((first|refine zR ?_|refine wOn ?_|refine wQn ?_);try simp only[zZ])|refine zU.p cr rfl ?_|refine zU.l cr rfl ?_|refine zT.p cr rfl ?_|refine zT.l cr rfl ?_|refine zU.o cr ?_|refine zV.p cr rfl ?_|refine zV.l cr rfl ?_|refine zV.o cr ?_
     refine hL _ (N-1) (by omega) ⟨0+1,a+l[0].w,b+1,by omega,?_⟩
     rw[if_pos o4] at ha hb
     rw[prevI_succ l 0 hlt]
     simp[h1,b1,h40,h41,hw,hwa,hwb]
     rw[<- List.drop_one]
     simp only[Nat.zero_add] at ha hb hi
     refine⟨hi,⟨by omega,by omega,by omega⟩,by omega,by omega,by omega⟩
    ·repeat' first|(refine O _ ?_;clear O)|(refine O _ _ ?_;clear O)|(clear O;refine O _ ?_;clear O)|(clear O;clear O;refine O _ ?_;clear O)|(clear O;clear O;clear O;refine O _ ?_;clear O)|(clear O;clear O;clear O;clear O;refine O _ ?_;clear O)|(refine zJ fun K O=>?_)|((first|refine zH ?_|refine zN rfl (by kernel_rfl) ?_|refine zM ?_|refine zK (by kernel_rfl) ?_);simp only[vZ,vY,strip])|((first|refine wIs fun K O=>?_|refine wOs fun K O=>?_|refine wQs fun K O=>?_|refine zW ?_|refine zX ?_|refine zY ?_|refine zL ?_);simp[h1,b1,h40,h41,h42,h3,h4,hlt,hw,o4])|(refine wIn ?_;refine And.intro (by kernel_rfl) ?_;try simp only[zZ])|(first|refine zQ ?_|refine zS ?_)|((first|refine zI ?_|refine zO ?_|refine zP ?_);try simp)|((first|refine zR ?_|refine wOn ?_|refine wQn ?_);try simp only[zZ])|(refine zU.p (cr) rfl ?_)|(refine zU.l (cr) rfl ?_)|(refine zT.p (cr) rfl ?_)|(refine zT.l (cr) rfl ?_)|(refine zU.o (cr) ?_)|(refine zV.p (cr) rfl ?_)|(refine zV.l (cr) rfl ?_)|(refine zV.o (cr) ?_)
     refine hL _ (N-1) (by omega) ⟨0+1,a,b,by omega,?_⟩
     rw[if_neg o4] at ha hb
     rw[prevI_succ l 0 hlt]
     simp[h1,b1,h40,h41,h3,h4,hw]
     rw[<- List.drop_one]
     simp only[Nat.zero_add] at ha hb hi
     refine⟨hi,⟨by omega,by omega,by omega⟩,by omega,by omega,by omega⟩
  ·rw[decide_eq_false o1] at cr
   repeat' first|((first|refine O _ ?_|refine O _ _ ?_|(clear O;refine O _ ?_));clear O)|(refine zJ fun K O=>?_)|((first|refine zH ?_|refine zN rfl (by kernel_rfl) ?_|refine zM ?_|refine zK (by kernel_rfl) ?_);simp only[vZ,vY,strip])|((first|refine wIs fun K O=>?_|refine wOs fun K O=>?_|refine wQs fun K O=>?_|refine zW ?_|refine zX ?_|refine zY ?_|refine zL ?_);simp[h1,b1,h40,h41,h42,h3,h4,hlt,hw])|(refine wIn ?_;refine And.intro (by kernel_rfl) ?_;try simp only[zZ])|refine zQ ?_|refine zS ?_|((first|refine zI ?_|refine zO ?_|refine zP ?_);try simp)|((first|refine zR ?_|refine wOn ?_|refine wQn ?_);try simp only[zZ])|refine zU.p cr rfl ?_|refine zU.l cr rfl ?_|refine zT.p cr rfl ?_|refine zT.l cr rfl ?_|refine zU.o cr ?_|refine zV.p cr rfl ?_|refine zV.l cr rfl ?_|refine zV.o cr ?_
   all_goals apply hr
   all_goals simp[Tryz.f20]
   all_goals simp[<- hi,o1]
 ·rw[List.drop_of_length_le (by omega)] at hi ha hb
  have hi':fine (-1) l=true:=hi ▸ rfl
  obtain⟨e1,e2,e3,e4,e5⟩:=sums kind l _ hi'
  simp only[wsum,cnt,Int.add_zero] at ha hb
  subst ha hb
  by_cases g5:cnt l=0
  ·repeat' first|(refine O _ ?_;clear O)|(refine O _ _ ?_;clear O)|(clear O;refine O _ ?_;clear O)|(clear O;clear O;refine O _ ?_;clear O)|(clear O;clear O;clear O;refine O _ ?_;clear O)|(clear O;clear O;clear O;clear O;refine O _ ?_;clear O)|(refine zJ fun K O=>?_)|((first|refine zH ?_|refine zN rfl (by kernel_rfl) ?_|refine zM ?_|refine zK (by kernel_rfl) ?_);simp only[vZ,vY,strip])|((first|refine wIs fun K O=>?_|refine wOs fun K O=>?_|refine wQs fun K O=>?_|refine zW ?_|refine zX ?_|refine zY ?_|refine zL ?_);simp[h1,b1,h40,h41,h42,h3,h4,hlt,g5])|(refine wIn ?_;refine And.intro (by kernel_rfl) ?_;try simp only[zZ])|(first|refine zQ ?_|refine zS ?_)|((first|refine zI ?_|refine zO ?_|refine zP ?_);try simp)|((first|refine zR ?_|refine wOn ?_|refine wQn ?_);try simp only[zZ])
   all_goals apply hr
   all_goals simp[Tryz.f20,hi']
   all_goals by_cases g6:kind=1
   all_goals first|rw[e4 g6,decide_eq_false (by omega)]|rw[e5 g6,decide_eq_false (by omega)]
   all_goals rfl
  ·by_cases g6:kind=1
   ·repeat' first|(refine O _ ?_;clear O)|(refine O _ _ ?_;clear O)|(clear O;refine O _ ?_;clear O)|(clear O;clear O;refine O _ ?_;clear O)|(clear O;clear O;clear O;refine O _ ?_;clear O)|(clear O;clear O;clear O;clear O;refine O _ ?_;clear O)|(refine zJ fun K O=>?_)|((first|refine zH ?_|refine zN rfl (by kernel_rfl) ?_|refine zM ?_|refine zK (by kernel_rfl) ?_);simp only[vZ,vY,strip])|((first|refine wIs fun K O=>?_|refine wOs fun K O=>?_|refine wQs fun K O=>?_|refine zW ?_|refine zX ?_|refine zY ?_|refine zL ?_);simp[h1,b1,h40,h41,h42,h3,h4,hlt,g5,g6])|(refine wIn ?_;refine And.intro (by kernel_rfl) ?_;try simp only[zZ])|(first|refine zQ ?_|refine zS ?_)|((first|refine zI ?_|refine zO ?_|refine zP ?_);try simp)|((first|refine zR ?_|refine wOn ?_|refine wQn ?_);try simp only[zZ])
    all_goals apply hr
    all_goals simp[Tryz.f20,hi']
    all_goals rw[e4 g6,decide_eq_true (by omega)]
    all_goals rfl
   ·by_cases g7:wsum l=0
    ·repeat' first|(refine O _ ?_;clear O)|(refine O _ _ ?_;clear O)|(clear O;refine O _ ?_;clear O)|(clear O;clear O;refine O _ ?_;clear O)|(clear O;clear O;clear O;refine O _ ?_;clear O)|(clear O;clear O;clear O;clear O;refine O _ ?_;clear O)|(refine zJ fun K O=>?_)|((first|refine zH ?_|refine zN rfl (by kernel_rfl) ?_|refine zM ?_|refine zK (by kernel_rfl) ?_);simp only[vZ,vY,strip])|((first|refine wIs fun K O=>?_|refine wOs fun K O=>?_|refine wQs fun K O=>?_|refine zW ?_|refine zX ?_|refine zY ?_|refine zL ?_);simp[h1,b1,h40,h41,h42,h3,h4,hlt,g5,g6,g7])|(refine wIn ?_;refine And.intro (by kernel_rfl) ?_;try simp only[zZ])|(first|refine zQ ?_|refine zS ?_)|((first|refine zI ?_|refine zO ?_|refine zP ?_);try simp)|((first|refine zR ?_|refine wOn ?_|refine wQn ?_);try simp only[zZ])
     all_goals apply hr
     all_goals simp[Tryz.f20,hi']
     all_goals rw[e5 g6,decide_eq_false (by omega)]
     all_goals rfl
    ·repeat' first|(refine O _ ?_;clear O)|(refine O _ _ ?_;clear O)|(clear O;refine O _ ?_;clear O)|(clear O;clear O;refine O _ ?_;clear O)|(clear O;clear O;clear O;refine O _ ?_;clear O)|(clear O;clear O;clear O;clear O;refine O _ ?_;clear O)|(refine zJ fun K O=>?_)|((first|refine zH ?_|refine zN rfl (by kernel_rfl) ?_|refine zM ?_|refine zK (by kernel_rfl) ?_);simp only[vZ,vY,strip])|((first|refine wIs fun K O=>?_|refine wOs fun K O=>?_|refine wQs fun K O=>?_|refine zW ?_|refine zX ?_|refine zY ?_|refine zL ?_);simp[h1,b1,h40,h41,h42,h3,h4,hlt,g5,g6,g7])|(refine wIn ?_;refine And.intro (by kernel_rfl) ?_;try simp only[zZ])|(first|refine zQ ?_|refine zS ?_)|((first|refine zI ?_|refine zO ?_|refine zP ?_);try simp)|((first|refine zR ?_|refine wOn ?_|refine wQn ?_);try simp only[zZ])
     all_goals apply hr
     all_goals simp[Tryz.f20,hi']
     all_goals rw[e5 g6,decide_eq_true (by omega)]
     all_goals rfl
end Go.Proofs.YtedbbcmokbogpaaGreatDoor
