/- Texts that the proof needs: KL RK3 PR6 Aw20 RK4 QH QIQ. -/
import Derived.Test.YtpihbhacmokekaaGreatDoorP38ReconfTakes
import Derived.Test.YtpihbhacmokekaaGreatDoorP39ReconfTakes
import Derived.Test.YtpihbhacmokekaaGreatDoorP40ReconfTakes
import Derived.Test.YtpihbhacmokekaaGreatDoorP30ReconfTakes
import Derived.Test.YtpihbhacmokekaaGreatDoorP31ReconfTakes
import Derived.Test.YtpihbhacmokekaaGreatDoorP33ReconfTakes
import Derived.Test.YtpihbhacmokekaaGreatDoorP26ReconfTakes
namespace Go.Proofs.YtpihbhacmokekaaGreatDoor
set_option linter.unusedSimpArgs false
set_option linter.unusedVariables false
open Go Go.Av
attribute [local irreducible] Go.Av.yJ Go.Av.zU Go.Av.yC Go.Av.zQ Go.Av.yG Go.Av.zV Go.Av.Con
theorem lastC_snoc {ps:List Pt}{q:Nat}(h:q<ps.length):yH (ps.take (q+1))=if ps[q].k=5 then some ps[q].c else yH (ps.take q):=by
 rw[List.take_succ_eq_append_getElem h]
 unfold yH
 rw[List.filter_append]
 by_cases g:ps[q].k=5
 ·rw[if_pos g,List.filter_cons,if_pos (decide_eq_true g)];simp
 ·rw[if_neg g,List.filter_cons,if_neg (by simpa using g)];simp
def addC (l:List Cf):Option Cf->List Cf
 |none=>l
 |some c=>l++[c]
def addZ (l:List Zx)(z:Zx):Option Cf->List Zx
 |none=>l
 |some _=>l++[z]
def cfA (h:Hy)(l:List Tx):List Cf:=l.foldl (fun a t=>addC a (yH t.ps)) [h.im.c]
def zxA (h:Hy)(l:List Tx):List Zx:=l.foldl (fun a t=>addZ a ⟨t.e,t.n⟩ (yH t.ps)) [⟨h.im.ae,h.im.an⟩]
theorem cfA_snoc (h:Hy){l:List Tx}{k:Nat}(hk:k<l.length):cfA h (l.take (k+1))=addC (cfA h (l.take k)) (yH l[k].ps):=by
 rw[List.take_succ_eq_append_getElem hk,cfA,List.foldl_append];rfl
theorem zxA_snoc (h:Hy){l:List Tx}{k:Nat}(hk:k<l.length):zxA h (l.take (k+1))=addZ (zxA h (l.take k)) ⟨l[k].e,l[k].n⟩ (yH l[k].ps):=by
 rw[List.take_succ_eq_append_getElem hk,zxA,List.foldl_append];rfl
theorem cfA_ns (h:Hy):∀ (k:Nat){l:List Tx},k<=l.length->∃pre prz,(cfA h (l.take k)=pre++(if (nsOf h (l.take k)).ch=true then [(nsOf h (l.take k)).was,(nsOf h (l.take k)).now] else [(nsOf h (l.take k)).now]))/\((nsOf h (l.take k)).ch=false->pre=[])/\zxA h (l.take k)=prz++[⟨(nsOf h (l.take k)).fe,(nsOf h (l.take k)).fn⟩]/\(zxA h (l.take k)).length=(cfA h (l.take k)).length/\(cfA h (l.take k)).length<=k+1
 |0,l,_=>⟨[],[],by simp[cfA,nsOf,ns0],by simp,by simp[zxA,nsOf,ns0],by simp[cfA,zxA],by simp[cfA]⟩
 |k+1,l,hk=>by
  obtain⟨pre,prz,h1,h2,h3,h4,h5⟩:=cfA_ns h k (l:=l) (by omega)
  rw[cfA_snoc h (by omega),zxA_snoc h (by omega),nsOf_snoc h (by omega)]
  generalize cfA h (l.take k)=a at *
  generalize zxA h (l.take k)=z at *
  generalize nsOf h (l.take k)=s at *
  cases hc:yH (l[k]'(by omega)).ps with
  |none =>
   refine⟨pre,prz,?_,?_,?_,?_,?_⟩
   all_goals simp only[nsStep,hc,addC,addZ]
   ·exact h1
   ·exact h2
   ·exact h3
   ·exact h4
   ·omega
  |some c =>
   by_cases hch:s.ch=true
   ·refine⟨pre++[s.was],z,?_,?_,?_,?_,?_⟩
    all_goals simp only[nsStep,hc,addC,addZ,if_true]
    ·rw[h1,if_pos hch];simp
    ·intro h;simp at h
    ·simp[h4]
    ·simp;omega
   ·refine⟨[],z,?_,?_,?_,?_,?_⟩
    all_goals simp only[nsStep,hc,addC,addZ,if_true]
    ·rw[h1,if_neg hch,h2 (by simpa using hch)];simp
    ·intro h;trivial
    ·simp[h4]
    ·simp;omega
theorem cfs_app (l:List Cf)(c:Cf):cfs l++[[I c.ep,I c.n,I c.kind,.sl 4 (mbs c.ms)]]=cfs (l++[c]):=by simp[cfs,Cf.cells]
theorem zxs_app (l:List Zx)(e n:Int):zxs l++[[I e,I n]]=zxs (l++[⟨e,n⟩]):=by simp[zxs]
theorem cfs_cut (l:List Cf)(c:Cf):(cfs (l++[c])).take l.length=cfs l:=by simp[cfs]
theorem zxs_cut (l:List Zx)(z:Zx):(zxs (l++[z])).take l.length=zxs l:=by simp[zxs]
set_option maxHeartbeats 16000000 in
theorem configs16_con (h:Hy)(hk:OkH h):zE Tryz.prog 42 [.p (.agg h.cells)] (.tup [.p (.sl 4 (cfs (cfA h h.lg))),.p (.sl 2 (zxs (zxA h h.lg)))]):=by
 have c1:=own16_con h.im hk.ns hk.ss hk.c
 have hlg:=hk.lg
 have e0:cfs [h.im.c]=[[I h.im.c.ep,I h.im.c.n,I h.im.c.kind,.sl 4 (mbs h.im.c.ms)]]:=rfl
 have e1:zxs [⟨h.im.ae,h.im.an⟩]=[[I h.im.ae,I h.im.an]]:=rfl
 unfold Hy.cells
 unfold Sv.cells at c1
 refine zG Tryz.tab Tryz.mixed Tryz.func42 rfl rfl Tryz.ntmps42 (by simp) (by simp) fun Q hr hn=>?_
 repeat' first|((first|refine O _ ?_|refine O _ _ ?_|(clear O;refine O _ ?_));clear O)|(refine zJ fun K O=>?_)|((first|refine zH ?_|refine zN rfl (by kernel_rfl) ?_|refine zM ?_|refine zK (by kernel_rfl) ?_);simp only[vS,vR,strip])|((first|refine wIs fun K O=>?_|refine wOs fun K O=>?_|refine wQs fun K O=>?_|refine zW ?_|refine zX ?_|refine zY ?_|refine zL ?_);simp)|(refine wIn ?_;refine And.intro (by kernel_rfl) ?_;try simp only[zZ])|refine zR ?_|refine zT ?_|((first|refine zI ?_|refine zO ?_|refine zP ?_);try simp)|((first|refine zS ?_|refine wOn ?_|refine wQn ?_);try simp only[zZ])|refine zU.p c1 rfl ?_|refine zU.l c1 rfl ?_|refine zQ.pure c1 rfl ?_|refine zQ.lent c1 rfl ?_|refine zU.o c1 ?_|refine zV.p c1 rfl ?_|refine zV.l c1 rfl ?_|refine zV.o c1 ?_
 refine zC (fun N st=>∃ (k:Nat)(a:List Cf)(z:List Zx),k+N=h.lg.length/\a=cfA h (h.lg.take k)/\z=zxA h (h.lg.take k)/\z.length=a.length/\1<=a.length/\a.length<=k+1/\st.s 1=.ptr 1 0/\st.b 1=some (.box 33 [.p (.sl 5 (zns h.im.ns)),.p (.sl 1 (ints h.im.ss)),.p (I h.im.nx),.p (I h.im.c.ep),.p (I h.im.c.n),.p (I h.im.c.kind),.p (.sl 4 (mbs h.im.c.ms)),.p (I h.im.ae),.p (I h.im.an),.p (.sl 8 (xH h.lg))])/\st.s 21=.p (.sl 8 (xH h.lg))/\st.s 22=.p (I h.lg.length)/\st.s 23=.p (I k)/\((st.s 4=.full 4 (cfs a)/\st.s 5=.full 2 (zxs z)/\a.length=1/\z.length=1)\/(st.s 4=.row 53/\st.s 5=.row 58/\st.b 53=some (.row 28 4 (cfs a))/\st.b 58=some (.row 25 2 (zxs z))))) h.lg.length ⟨0,[h.im.c],[⟨h.im.ae,h.im.an⟩],by simp[cfA,zxA,e0,e1]⟩ fun K N st hL ⟨k,a,z,hkN,ha,hz,hzl,ha1,hal,g1,b1,g21,g22,g23,hrow⟩=>?_
 by_cases hlt:k<h.lg.length
 ·have hlt':(k:Int)<h.lg.length:=by omega
  have hw:=yU k _ hlt (by omega)
  have he:=wN hlt
  have hca:=cfA_snoc h hlt
  have hza:=zxA_snoc h hlt
  rw[<- ha] at hca
  rw[<- hz] at hza
  obtain⟨hp1,hp2⟩:=hk.ps _ (List.getElem_mem hlt)
  have c2:=copied16_con h.lg[k] hp1 hp2
  unfold Tx.cells at c2
  have hlc0:yH (h.lg[k].ps.take 0)=none:=by simp[yH]
  obtain⟨ps,hps⟩:∃ps,ps=h.lg[k].ps:=⟨_,rfl⟩
  rcases hrow with ⟨g4,g5,l4,l5⟩|⟨g4,g5,b53,b58⟩
  ·repeat' first|(refine O _ ?_;clear O)|(refine O _ _ ?_;clear O)|(clear O;refine O _ ?_;clear O)|(clear O;clear O;refine O _ ?_;clear O)|(clear O;clear O;clear O;refine O _ ?_;clear O)|(clear O;clear O;clear O;clear O;refine O _ ?_;clear O)|(refine zJ fun K O=>?_)|((first|refine zH ?_|refine zN rfl (by kernel_rfl) ?_|refine zM ?_|refine zK (by kernel_rfl) ?_);simp only[vS,vR,strip])|((first|refine wIs fun K O=>?_|refine wOs fun K O=>?_|refine wQs fun K O=>?_|refine zW ?_|refine zX ?_|refine zY ?_|refine zL ?_);simp[g1,b1,g21,g22,g23,g4,g5,hlt,hlt',he])|(refine wIn ?_;refine And.intro (by kernel_rfl) ?_;try simp only[zZ])|(first|refine zR ?_|refine zT ?_)|((first|refine zI ?_|refine zO ?_|refine zP ?_);try simp)|((first|refine zS ?_|refine wOn ?_|refine wQn ?_);try simp only[zZ])|(refine zU.p (c2) rfl ?_)|(refine zU.l (c2) rfl ?_)|(refine zQ.pure (c2) rfl ?_)|(refine zQ.lent (c2) rfl ?_)|(refine zU.o (c2) ?_)|(refine zV.p (c2) rfl ?_)|(refine zV.l (c2) rfl ?_)|(refine zV.o (c2) ?_)
   refine zC (fun N' st=>∃ (q:Nat),q+N'=h.lg[k].ps.length/\st.s 1=.ptr 1 0/\st.b 1=some (.box 33 [.p (.sl 5 (zns h.im.ns)),.p (.sl 1 (ints h.im.ss)),.p (I h.im.nx),.p (I h.im.c.ep),.p (I h.im.c.n),.p (I h.im.c.kind),.p (.sl 4 (mbs h.im.c.ms)),.p (I h.im.ae),.p (I h.im.an),.p (.sl 8 (xH h.lg))])/\st.s 21=.p (.sl 8 (xH h.lg))/\st.s 22=.p (I h.lg.length)/\st.s 23=.p (I k)/\st.s 7=.ptr 7 0/\st.b 7=some (.box 63 [.p (I h.lg[k].e),.p (I h.lg[k].n),.p (I h.lg[k].s),.p (I h.lg[k].x),.p (I h.lg[k].r),.p (I h.lg[k].b),.p (SB h.lg[k].m),.p (.sl 11 (pts h.lg[k].ps))])/\st.s 8=.p (B (yH (h.lg[k].ps.take q)).isSome)/\st.s 29=.p (.sl 11 (pts h.lg[k].ps))/\st.s 30=.p (I h.lg[k].ps.length)/\st.s 31=.p (I q)/\((st.s 4=.full 4 (cfs (addC a (yH (h.lg[k].ps.take q))))/\st.s 5=.full 2 (zxs (addZ z ⟨h.lg[k].e,h.lg[k].n⟩ (yH (h.lg[k].ps.take q))))/\(addC a (yH (h.lg[k].ps.take q))).length=1/\(addZ z ⟨h.lg[k].e,h.lg[k].n⟩ (yH (h.lg[k].ps.take q))).length=1)\/(st.s 4=.row 53/\st.s 5=.row 58/\st.b 53=some (.row 28 4 (cfs (addC a (yH (h.lg[k].ps.take q)))))/\st.b 58=some (.row 25 2 (zxs (addZ z ⟨h.lg[k].e,h.lg[k].n⟩ (yH (h.lg[k].ps.take q)))))))) h.lg[k].ps.length ⟨0,by simp[g1,b1,g21,g22,g23,g4,g5,yH,addC,addZ];omega⟩ fun K' N' st hL' ⟨q,hq,e1,d1,e21,e22,e23,e7,d7,e8,e29,e30,e31,hr2⟩=>?_
   by_cases hlq:q<h.lg[k].ps.length
   ·have hlq':(q:Int)<h.lg[k].ps.length:=by omega
    have hwq:=yU q _ hlq (by omega)
    have heq:=pts_get hlq
    have hsn:=lastC_snoc hlq
    by_cases o:(h.lg[k].ps[q]).k=5
    ·rw[if_pos o] at hsn
     cases hlc:yH (h.lg[k].ps.take q) with
     |none =>
      rw[hlc] at e8 hr2
      simp only[addC,addZ,Option.isSome] at e8 hr2
      have s1:=cfs_app a (h.lg[k].ps[q]).c
      have s2:=zxs_app z h.lg[k].e h.lg[k].n
      rcases hr2 with ⟨f4,f5,m4,m5⟩|⟨f4,f5,d53,d58⟩
      ·repeat' first|(refine And.intro (by (try simp only[cfs_len,wS,List.length_append,List.length_cons,List.length_nil]);omega) ?_)|(refine Or.inl ?_)|(refine O _ ?_;clear O)|(refine O _ _ ?_;clear O)|(clear O;refine O _ ?_;clear O)|(clear O;clear O;refine O _ ?_;clear O)|(clear O;clear O;clear O;refine O _ ?_;clear O)|(clear O;clear O;clear O;clear O;refine O _ ?_;clear O)|(refine zJ fun K O=>?_)|((first|refine zH ?_|refine zN rfl (by kernel_rfl) ?_|refine zM ?_|refine zK (by kernel_rfl) ?_);simp only[vS,vR,strip])|((first|refine wIs fun K O=>?_|refine wOs fun K O=>?_|refine wQs fun K O=>?_|refine zW ?_|refine zX ?_|refine zY ?_|refine zL ?_);simp[e1,d1,e7,d7,e8,e21,e22,e23,e29,e30,e31,f4,f5,hlq,hlq',hwq,heq,o,s1,s2,Pt.cells])|(refine wIn ?_;refine And.intro (by kernel_rfl) ?_;try simp only[zZ])|(first|refine zR ?_|refine zT ?_)|((first|refine zI ?_|refine zO ?_|refine zP ?_);try simp)|((first|refine zS ?_|refine wOn ?_|refine wQn ?_);try simp only[zZ])
       refine hL' _ (N'-1) (by omega) ⟨q+1,by omega,?_⟩
       simp[e1,d1,e7,d7,e8,e21,e22,e23,e29,e30,e31,f4,f5,hwq,hsn,addC,addZ,s1,s2]
      ·repeat' first|(refine And.intro (by (try simp only[cfs_len,wS,List.length_append,List.length_cons,List.length_nil]);omega) ?_)|(refine Or.inl ?_)|(refine O _ ?_;clear O)|(refine O _ _ ?_;clear O)|(clear O;refine O _ ?_;clear O)|(clear O;clear O;refine O _ ?_;clear O)|(clear O;clear O;clear O;refine O _ ?_;clear O)|(clear O;clear O;clear O;clear O;refine O _ ?_;clear O)|(refine zJ fun K O=>?_)|((first|refine zH ?_|refine zN rfl (by kernel_rfl) ?_|refine zM ?_|refine zK (by kernel_rfl) ?_);simp only[vS,vR,strip])|((first|refine wIs fun K O=>?_|refine wOs fun K O=>?_|refine wQs fun K O=>?_|refine zW ?_|refine zX ?_|refine zY ?_|refine zL ?_);simp[e1,d1,e7,d7,e8,e21,e22,e23,e29,e30,e31,f4,f5,d53,d58,hlq,hlq',hwq,heq,o,s1,s2,Pt.cells])|(refine wIn ?_;refine And.intro (by kernel_rfl) ?_;try simp only[zZ])|(first|refine zR ?_|refine zT ?_)|((first|refine zI ?_|refine zO ?_|refine zP ?_);try simp)|((first|refine zS ?_|refine wOn ?_|refine wQn ?_);try simp only[zZ])
       refine hL' _ (N'-1) (by omega) ⟨q+1,by omega,?_⟩
       simp[e1,d1,e7,d7,e8,e21,e22,e23,e29,e30,e31,f4,f5,d53,d58,hwq,hsn,addC,addZ,s1,s2]
     |some c =>
      rw[hlc] at e8 hr2
      simp only[addC,addZ,Option.isSome] at e8 hr2
      have s1:=cfs_app a (h.lg[k].ps[q]).c
      have s2:=zxs_app z h.lg[k].e h.lg[k].n
      have s3:=cfs_cut a c
      have s4:=zxs_cut z ⟨h.lg[k].e,h.lg[k].n⟩
      have w1:IntKind.i64.wrap (a.length:Int)=a.length:=by rw[zF] <;> omega
      have w2:IntKind.i64.wrap (z.length:Int)=z.length:=by rw[zF] <;> omega
      rcases hr2 with ⟨f4,f5,m4,m5⟩|⟨f4,f5,d53,d58⟩
      ·rw[List.length_append,List.length_cons,List.length_nil] at m4;omega
      ·repeat' first|(refine And.intro (by (try simp only[cfs_len,wS,List.length_append,List.length_cons,List.length_nil]);omega) ?_)|(refine Or.inl ?_)|(refine O _ ?_;clear O)|(refine O _ _ ?_;clear O)|(clear O;refine O _ ?_;clear O)|(clear O;clear O;refine O _ ?_;clear O)|(clear O;clear O;clear O;refine O _ ?_;clear O)|(clear O;clear O;clear O;clear O;refine O _ ?_;clear O)|(refine zJ fun K O=>?_)|((first|refine zH ?_|refine zN rfl (by kernel_rfl) ?_|refine zM ?_|refine zK (by kernel_rfl) ?_);simp only[vS,vR,strip])|((first|refine wIs fun K O=>?_|refine wOs fun K O=>?_|refine wQs fun K O=>?_|refine zW ?_|refine zX ?_|refine zY ?_|refine zL ?_);simp[e1,d1,e7,d7,e8,e21,e22,e23,e29,e30,e31,f4,f5,d53,d58,hlq,hlq',hwq,heq,o,s1,s2,s3,s4,w1,w2,cfs_len,wS,Pt.cells])|(refine wIn ?_;refine And.intro (by kernel_rfl) ?_;try simp only[zZ])|(first|refine zR ?_|refine zT ?_)|((first|refine zI ?_|refine zO ?_|refine zP ?_);try simp)|((first|refine zS ?_|refine wOn ?_|refine wQn ?_);try simp only[zZ])
       refine hL' _ (N'-1) (by omega) ⟨q+1,by omega,?_⟩
       simp[e1,d1,e7,d7,e8,e21,e22,e23,e29,e30,e31,f4,f5,d53,d58,hwq,hsn,addC,addZ,s1,s2]
    ·rw[if_neg o] at hsn
     rcases hr2 with ⟨f4,f5,m4,m5⟩|⟨f4,f5,d53,d58⟩
     ·repeat' first|(refine O _ ?_;clear O)|(refine O _ _ ?_;clear O)|(clear O;refine O _ ?_;clear O)|(clear O;clear O;refine O _ ?_;clear O)|(clear O;clear O;clear O;refine O _ ?_;clear O)|(clear O;clear O;clear O;clear O;refine O _ ?_;clear O)|(refine zJ fun K O=>?_)|((first|refine zH ?_|refine zN rfl (by kernel_rfl) ?_|refine zM ?_|refine zK (by kernel_rfl) ?_);simp only[vS,vR,strip])|((first|refine wIs fun K O=>?_|refine wOs fun K O=>?_|refine wQs fun K O=>?_|refine zW ?_|refine zX ?_|refine zY ?_|refine zL ?_);simp[e1,d1,e7,d7,e8,e21,e22,e23,e29,e30,e31,f4,f5,hlq,hlq',hwq,heq,o,Pt.cells])|(refine wIn ?_;refine And.intro (by kernel_rfl) ?_;try simp only[zZ])|(first|refine zR ?_|refine zT ?_)|((first|refine zI ?_|refine zO ?_|refine zP ?_);try simp)|((first|refine zS ?_|refine wOn ?_|refine wQn ?_);try simp only[zZ])
      refine hL' _ (N'-1) (by omega) ⟨q+1,by omega,?_⟩
      simp[e1,d1,e7,d7,e8,e21,e22,e23,e29,e30,e31,f4,f5,hwq,hsn,m4,m5]
     ·repeat' first|(refine O _ ?_;clear O)|(refine O _ _ ?_;clear O)|(clear O;refine O _ ?_;clear O)|(clear O;clear O;refine O _ ?_;clear O)|(clear O;clear O;clear O;refine O _ ?_;clear O)|(clear O;clear O;clear O;clear O;refine O _ ?_;clear O)|(refine zJ fun K O=>?_)|((first|refine zH ?_|refine zN rfl (by kernel_rfl) ?_|refine zM ?_|refine zK (by kernel_rfl) ?_);simp only[vS,vR,strip])|((first|refine wIs fun K O=>?_|refine wOs fun K O=>?_|refine wQs fun K O=>?_|refine zW ?_|refine zX ?_|refine zY ?_|refine zL ?_);simp[e1,d1,e7,d7,e8,e21,e22,e23,e29,e30,e31,f4,f5,d53,d58,hlq,hlq',hwq,heq,o,Pt.cells])|(refine wIn ?_;refine And.intro (by kernel_rfl) ?_;try simp only[zZ])|(first|refine zR ?_|refine zT ?_)|((first|refine zI ?_|refine zO ?_|refine zP ?_);try simp)|((first|refine zS ?_|refine wOn ?_|refine wQn ?_);try simp only[zZ])
      refine hL' _ (N'-1) (by omega) ⟨q+1,by omega,?_⟩
      simp[e1,d1,e7,d7,e8,e21,e22,e23,e29,e30,e31,f4,f5,d53,d58,hwq,hsn]
   ·have hlq':¬ (q:Int)<h.lg[k].ps.length:=by omega
    rw[List.take_of_length_le (by omega)] at hr2
    rw[<- hca,<- hza] at hr2
    have hl1:(zxA h (h.lg.take (k+1))).length=(cfA h (h.lg.take (k+1))).length/\1<=(cfA h (h.lg.take (k+1))).length/\(cfA h (h.lg.take (k+1))).length<=k+2:=by
     rw[hca,hza]
     cases yH h.lg[k].ps <;> simp[addC,addZ] <;> omega
    rcases hr2 with ⟨f4,f5,m4,m5⟩|⟨f4,f5,d53,d58⟩
    ·repeat' first|(refine O _ ?_;clear O)|(refine O _ _ ?_;clear O)|(clear O;refine O _ ?_;clear O)|(clear O;clear O;refine O _ ?_;clear O)|(clear O;clear O;clear O;refine O _ ?_;clear O)|(clear O;clear O;clear O;clear O;refine O _ ?_;clear O)|(refine zJ fun K O=>?_)|((first|refine zH ?_|refine zN rfl (by kernel_rfl) ?_|refine zM ?_|refine zK (by kernel_rfl) ?_);simp only[vS,vR,strip])|((first|refine wIs fun K O=>?_|refine wOs fun K O=>?_|refine wQs fun K O=>?_|refine zW ?_|refine zX ?_|refine zY ?_|refine zL ?_);simp[e1,d1,e7,d7,e8,e21,e22,e23,e29,e30,e31,f4,f5,hlq,hlq',hw])|(refine wIn ?_;refine And.intro (by kernel_rfl) ?_;try simp only[zZ])|(first|refine zR ?_|refine zT ?_)|((first|refine zI ?_|refine zO ?_|refine zP ?_);try simp)|((first|refine zS ?_|refine wOn ?_|refine wQn ?_);try simp only[zZ])
     refine hL _ (N-1) (by omega) ⟨k+1,_,_,by omega,rfl,rfl,hl1.1,hl1.2.1,hl1.2.2,?_⟩
     simp[e1,d1,e7,d7,e8,e21,e22,e23,e29,e30,e31,f4,f5,hw,m4,m5]
    ·repeat' first|(refine O _ ?_;clear O)|(refine O _ _ ?_;clear O)|(clear O;refine O _ ?_;clear O)|(clear O;clear O;refine O _ ?_;clear O)|(clear O;clear O;clear O;refine O _ ?_;clear O)|(clear O;clear O;clear O;clear O;refine O _ ?_;clear O)|(refine zJ fun K O=>?_)|((first|refine zH ?_|refine zN rfl (by kernel_rfl) ?_|refine zM ?_|refine zK (by kernel_rfl) ?_);simp only[vS,vR,strip])|((first|refine wIs fun K O=>?_|refine wOs fun K O=>?_|refine wQs fun K O=>?_|refine zW ?_|refine zX ?_|refine zY ?_|refine zL ?_);simp[e1,d1,e7,d7,e8,e21,e22,e23,e29,e30,e31,f4,f5,d53,d58,hlq,hlq',hw])|(refine wIn ?_;refine And.intro (by kernel_rfl) ?_;try simp only[zZ])|(first|refine zR ?_|refine zT ?_)|((first|refine zI ?_|refine zO ?_|refine zP ?_);try simp)|((first|refine zS ?_|refine wOn ?_|refine wQn ?_);try simp only[zZ])
     refine hL _ (N-1) (by omega) ⟨k+1,_,_,by omega,rfl,rfl,hl1.1,hl1.2.1,hl1.2.2,?_⟩
     simp[e1,d1,e7,d7,e8,e21,e22,e23,e29,e30,e31,f4,f5,d53,d58,hw]
  ·repeat' first|(refine O _ ?_;clear O)|(refine O _ _ ?_;clear O)|(clear O;refine O _ ?_;clear O)|(clear O;clear O;refine O _ ?_;clear O)|(clear O;clear O;clear O;refine O _ ?_;clear O)|(clear O;clear O;clear O;clear O;refine O _ ?_;clear O)|(refine zJ fun K O=>?_)|((first|refine zH ?_|refine zN rfl (by kernel_rfl) ?_|refine zM ?_|refine zK (by kernel_rfl) ?_);simp only[vS,vR,strip])|((first|refine wIs fun K O=>?_|refine wOs fun K O=>?_|refine wQs fun K O=>?_|refine zW ?_|refine zX ?_|refine zY ?_|refine zL ?_);simp[g1,b1,g21,g22,g23,g4,g5,b53,b58,hlt,hlt',he])|(refine wIn ?_;refine And.intro (by kernel_rfl) ?_;try simp only[zZ])|(first|refine zR ?_|refine zT ?_)|((first|refine zI ?_|refine zO ?_|refine zP ?_);try simp)|((first|refine zS ?_|refine wOn ?_|refine wQn ?_);try simp only[zZ])|(refine zU.p (c2) rfl ?_)|(refine zU.l (c2) rfl ?_)|(refine zQ.pure (c2) rfl ?_)|(refine zQ.lent (c2) rfl ?_)|(refine zU.o (c2) ?_)|(refine zV.p (c2) rfl ?_)|(refine zV.l (c2) rfl ?_)|(refine zV.o (c2) ?_)
   refine zC (fun N' st=>∃ (q:Nat),q+N'=h.lg[k].ps.length/\st.s 1=.ptr 1 0/\st.b 1=some (.box 33 [.p (.sl 5 (zns h.im.ns)),.p (.sl 1 (ints h.im.ss)),.p (I h.im.nx),.p (I h.im.c.ep),.p (I h.im.c.n),.p (I h.im.c.kind),.p (.sl 4 (mbs h.im.c.ms)),.p (I h.im.ae),.p (I h.im.an),.p (.sl 8 (xH h.lg))])/\st.s 21=.p (.sl 8 (xH h.lg))/\st.s 22=.p (I h.lg.length)/\st.s 23=.p (I k)/\st.s 7=.ptr 7 0/\st.b 7=some (.box 63 [.p (I h.lg[k].e),.p (I h.lg[k].n),.p (I h.lg[k].s),.p (I h.lg[k].x),.p (I h.lg[k].r),.p (I h.lg[k].b),.p (SB h.lg[k].m),.p (.sl 11 (pts h.lg[k].ps))])/\st.s 8=.p (B (yH (h.lg[k].ps.take q)).isSome)/\st.s 29=.p (.sl 11 (pts h.lg[k].ps))/\st.s 30=.p (I h.lg[k].ps.length)/\st.s 31=.p (I q)/\((st.s 4=.full 4 (cfs (addC a (yH (h.lg[k].ps.take q))))/\st.s 5=.full 2 (zxs (addZ z ⟨h.lg[k].e,h.lg[k].n⟩ (yH (h.lg[k].ps.take q))))/\(addC a (yH (h.lg[k].ps.take q))).length=1/\(addZ z ⟨h.lg[k].e,h.lg[k].n⟩ (yH (h.lg[k].ps.take q))).length=1)\/(st.s 4=.row 53/\st.s 5=.row 58/\st.b 53=some (.row 28 4 (cfs (addC a (yH (h.lg[k].ps.take q)))))/\st.b 58=some (.row 25 2 (zxs (addZ z ⟨h.lg[k].e,h.lg[k].n⟩ (yH (h.lg[k].ps.take q)))))))) h.lg[k].ps.length ⟨0,by simp[g1,b1,g21,g22,g23,g4,g5,b53,b58,yH,addC,addZ]⟩ fun K' N' st hL' ⟨q,hq,e1,d1,e21,e22,e23,e7,d7,e8,e29,e30,e31,hr2⟩=>?_
   by_cases hlq:q<h.lg[k].ps.length
   ·have hlq':(q:Int)<h.lg[k].ps.length:=by omega
    have hwq:=yU q _ hlq (by omega)
    have heq:=pts_get hlq
    have hsn:=lastC_snoc hlq
    by_cases o:(h.lg[k].ps[q]).k=5
    ·rw[if_pos o] at hsn
     cases hlc:yH (h.lg[k].ps.take q) with
     |none =>
      rw[hlc] at e8 hr2
      simp only[addC,addZ,Option.isSome] at e8 hr2
      have s1:=cfs_app a (h.lg[k].ps[q]).c
      have s2:=zxs_app z h.lg[k].e h.lg[k].n
      rcases hr2 with ⟨f4,f5,m4,m5⟩|⟨f4,f5,d53,d58⟩
      ·repeat' first|(refine And.intro (by (try simp only[cfs_len,wS,List.length_append,List.length_cons,List.length_nil]);omega) ?_)|(refine Or.inl ?_)|(refine O _ ?_;clear O)|(refine O _ _ ?_;clear O)|(clear O;refine O _ ?_;clear O)|(clear O;clear O;refine O _ ?_;clear O)|(clear O;clear O;clear O;refine O _ ?_;clear O)|(clear O;clear O;clear O;clear O;refine O _ ?_;clear O)|(refine zJ fun K O=>?_)|((first|refine zH ?_|refine zN rfl (by kernel_rfl) ?_|refine zM ?_|refine zK (by kernel_rfl) ?_);simp only[vS,vR,strip])|((first|refine wIs fun K O=>?_|refine wOs fun K O=>?_|refine wQs fun K O=>?_|refine zW ?_|refine zX ?_|refine zY ?_|refine zL ?_);simp[e1,d1,e7,d7,e8,e21,e22,e23,e29,e30,e31,f4,f5,hlq,hlq',hwq,heq,o,s1,s2,Pt.cells])|(refine wIn ?_;refine And.intro (by kernel_rfl) ?_;try simp only[zZ])|(first|refine zR ?_|refine zT ?_)|((first|refine zI ?_|refine zO ?_|refine zP ?_);try simp)|((first|refine zS ?_|refine wOn ?_|refine wQn ?_);try simp only[zZ])
       refine hL' _ (N'-1) (by omega) ⟨q+1,by omega,?_⟩
       simp[e1,d1,e7,d7,e8,e21,e22,e23,e29,e30,e31,f4,f5,hwq,hsn,addC,addZ,s1,s2]
      ·repeat' first|(refine And.intro (by (try simp only[cfs_len,wS,List.length_append,List.length_cons,List.length_nil]);omega) ?_)|(refine Or.inl ?_)|(refine O _ ?_;clear O)|(refine O _ _ ?_;clear O)|(clear O;refine O _ ?_;clear O)|(clear O;clear O;refine O _ ?_;clear O)|(clear O;clear O;clear O;refine O _ ?_;clear O)|(clear O;clear O;clear O;clear O;refine O _ ?_;clear O)|(refine zJ fun K O=>?_)|((first|refine zH ?_|refine zN rfl (by kernel_rfl) ?_|refine zM ?_|refine zK (by kernel_rfl) ?_);simp only[vS,vR,strip])|((first|refine wIs fun K O=>?_|refine wOs fun K O=>?_|refine wQs fun K O=>?_|refine zW ?_|refine zX ?_|refine zY ?_|refine zL ?_);simp[e1,d1,e7,d7,e8,e21,e22,e23,e29,e30,e31,f4,f5,d53,d58,hlq,hlq',hwq,heq,o,s1,s2,Pt.cells])|(refine wIn ?_;refine And.intro (by kernel_rfl) ?_;try simp only[zZ])|(first|refine zR ?_|refine zT ?_)|((first|refine zI ?_|refine zO ?_|refine zP ?_);try simp)|((first|refine zS ?_|refine wOn ?_|refine wQn ?_);try simp only[zZ])
       refine hL' _ (N'-1) (by omega) ⟨q+1,by omega,?_⟩
       simp[e1,d1,e7,d7,e8,e21,e22,e23,e29,e30,e31,f4,f5,d53,d58,hwq,hsn,addC,addZ,s1,s2]
     |some c =>
      rw[hlc] at e8 hr2
      simp only[addC,addZ,Option.isSome] at e8 hr2
      have s1:=cfs_app a (h.lg[k].ps[q]).c
      have s2:=zxs_app z h.lg[k].e h.lg[k].n
      have s3:=cfs_cut a c
      have s4:=zxs_cut z ⟨h.lg[k].e,h.lg[k].n⟩
      have w1:IntKind.i64.wrap (a.length:Int)=a.length:=by rw[zF] <;> omega
      have w2:IntKind.i64.wrap (z.length:Int)=z.length:=by rw[zF] <;> omega
      rcases hr2 with ⟨f4,f5,m4,m5⟩|⟨f4,f5,d53,d58⟩
      ·rw[List.length_append,List.length_cons,List.length_nil] at m4;omega
      ·repeat' first|(refine And.intro (by (try simp only[cfs_len,wS,List.length_append,List.length_cons,List.length_nil]);omega) ?_)|(refine Or.inl ?_)|(refine O _ ?_;clear O)|(refine O _ _ ?_;clear O)|(clear O;refine O _ ?_;clear O)|(clear O;clear O;refine O _ ?_;clear O)|(clear O;clear O;clear O;refine O _ ?_;clear O)|(clear O;clear O;clear O;clear O;refine O _ ?_;clear O)|(refine zJ fun K O=>?_)|((first|refine zH ?_|refine zN rfl (by kernel_rfl) ?_|refine zM ?_|refine zK (by kernel_rfl) ?_);simp only[vS,vR,strip])|((first|refine wIs fun K O=>?_|refine wOs fun K O=>?_|refine wQs fun K O=>?_|refine zW ?_|refine zX ?_|refine zY ?_|refine zL ?_);simp[e1,d1,e7,d7,e8,e21,e22,e23,e29,e30,e31,f4,f5,d53,d58,hlq,hlq',hwq,heq,o,s1,s2,s3,s4,w1,w2,cfs_len,wS,Pt.cells])|(refine wIn ?_;refine And.intro (by kernel_rfl) ?_;try simp only[zZ])|(first|refine zR ?_|refine zT ?_)|((first|refine zI ?_|refine zO ?_|refine zP ?_);try simp)|((first|refine zS ?_|refine wOn ?_|refine wQn ?_);try simp only[zZ])
       refine hL' _ (N'-1) (by omega) ⟨q+1,by omega,?_⟩
       simp[e1,d1,e7,d7,e8,e21,e22,e23,e29,e30,e31,f4,f5,d53,d58,hwq,hsn,addC,addZ,s1,s2]
    ·rw[if_neg o] at hsn
     rcases hr2 with ⟨f4,f5,m4,m5⟩|⟨f4,f5,d53,d58⟩
     ·repeat' first|(refine O _ ?_;clear O)|(refine O _ _ ?_;clear O)|(clear O;refine O _ ?_;clear O)|(clear O;clear O;refine O _ ?_;clear O)|(clear O;clear O;clear O;refine O _ ?_;clear O)|(clear O;clear O;clear O;clear O;refine O _ ?_;clear O)|(refine zJ fun K O=>?_)|((first|refine zH ?_|refine zN rfl (by kernel_rfl) ?_|refine zM ?_|refine zK (by kernel_rfl) ?_);simp only[vS,vR,strip])|((first|refine wIs fun K O=>?_|refine wOs fun K O=>?_|refine wQs fun K O=>?_|refine zW ?_|refine zX ?_|refine zY ?_|refine zL ?_);simp[e1,d1,e7,d7,e8,e21,e22,e23,e29,e30,e31,f4,f5,hlq,hlq',hwq,heq,o,Pt.cells])|(refine wIn ?_;refine And.intro (by kernel_rfl) ?_;try simp only[zZ])|(first|refine zR ?_|refine zT ?_)|((first|refine zI ?_|refine zO ?_|refine zP ?_);try simp)|((first|refine zS ?_|refine wOn ?_|refine wQn ?_);try simp only[zZ])
      refine hL' _ (N'-1) (by omega) ⟨q+1,by omega,?_⟩
      simp[e1,d1,e7,d7,e8,e21,e22,e23,e29,e30,e31,f4,f5,hwq,hsn,m4,m5]
     ·repeat' first|(refine O _ ?_;clear O)|(refine O _ _ ?_;clear O)|(clear O;refine O _ ?_;clear O)|(clear O;clear O;refine O _ ?_;clear O)|(clear O;clear O;clear O;refine O _ ?_;clear O)|(clear O;clear O;clear O;clear O;refine O _ ?_;clear O)|(refine zJ fun K O=>?_)|((first|refine zH ?_|refine zN rfl (by kernel_rfl) ?_|refine zM ?_|refine zK (by kernel_rfl) ?_);simp only[vS,vR,strip])|((first|refine wIs fun K O=>?_|refine wOs fun K O=>?_|refine wQs fun K O=>?_|refine zW ?_|refine zX ?_|refine zY ?_|refine zL ?_);simp[e1,d1,e7,d7,e8,e21,e22,e23,e29,e30,e31,f4,f5,d53,d58,hlq,hlq',hwq,heq,o,Pt.cells])|(refine wIn ?_;refine And.intro (by kernel_rfl) ?_;try simp only[zZ])|(first|refine zR ?_|refine zT ?_)|((first|refine zI ?_|refine zO ?_|refine zP ?_);try simp)|((first|refine zS ?_|refine wOn ?_|refine wQn ?_);try simp only[zZ])
      refine hL' _ (N'-1) (by omega) ⟨q+1,by omega,?_⟩
      simp[e1,d1,e7,d7,e8,e21,e22,e23,e29,e30,e31,f4,f5,d53,d58,hwq,hsn]
   ·have hlq':¬ (q:Int)<h.lg[k].ps.length:=by omega
    rw[List.take_of_length_le (by omega)] at hr2
    rw[<- hca,<- hza] at hr2
    have hl1:(zxA h (h.lg.take (k+1))).length=(cfA h (h.lg.take (k+1))).length/\1<=(cfA h (h.lg.take (k+1))).length/\(cfA h (h.lg.take (k+1))).length<=k+2:=by
     rw[hca,hza]
     cases yH h.lg[k].ps <;> simp[addC,addZ] <;> omega
    rcases hr2 with ⟨f4,f5,m4,m5⟩|⟨f4,f5,d53,d58⟩
    ·repeat' first|(refine O _ ?_;clear O)|(refine O _ _ ?_;clear O)|(clear O;refine O _ ?_;clear O)|(clear O;clear O;refine O _ ?_;clear O)|(clear O;clear O;clear O;refine O _ ?_;clear O)|(clear O;clear O;clear O;clear O;refine O _ ?_;clear O)|(refine zJ fun K O=>?_)|((first|refine zH ?_|refine zN rfl (by kernel_rfl) ?_|refine zM ?_|refine zK (by kernel_rfl) ?_);simp only[vS,vR,strip])|((first|refine wIs fun K O=>?_|refine wOs fun K O=>?_|refine wQs fun K O=>?_|refine zW ?_|refine zX ?_|refine zY ?_|refine zL ?_);simp[e1,d1,e7,d7,e8,e21,e22,e23,e29,e30,e31,f4,f5,hlq,hlq',hw])|(refine wIn ?_;refine And.intro (by kernel_rfl) ?_;try simp only[zZ])|(first|refine zR ?_|refine zT ?_)|((first|refine zI ?_|refine zO ?_|refine zP ?_);try simp)|((first|refine zS ?_|refine wOn ?_|refine wQn ?_);try simp only[zZ])
     refine hL _ (N-1) (by omega) ⟨k+1,_,_,by omega,rfl,rfl,hl1.1,hl1.2.1,hl1.2.2,?_⟩
     simp[e1,d1,e7,d7,e8,e21,e22,e23,e29,e30,e31,f4,f5,hw,m4,m5]
    ·repeat' first|(refine O _ ?_;clear O)|(refine O _ _ ?_;clear O)|(clear O;refine O _ ?_;clear O)|(clear O;clear O;refine O _ ?_;clear O)|(clear O;clear O;clear O;refine O _ ?_;clear O)|(clear O;clear O;clear O;clear O;refine O _ ?_;clear O)|(refine zJ fun K O=>?_)|((first|refine zH ?_|refine zN rfl (by kernel_rfl) ?_|refine zM ?_|refine zK (by kernel_rfl) ?_);simp only[vS,vR,strip])|((first|refine wIs fun K O=>?_|refine wOs fun K O=>?_|refine wQs fun K O=>?_|refine zW ?_|refine zX ?_|refine zY ?_|refine zL ?_);simp[e1,d1,e7,d7,e8,e21,e22,e23,e29,e30,e31,f4,f5,d53,d58,hlq,hlq',hw])|(refine wIn ?_;refine And.intro (by kernel_rfl) ?_;try simp only[zZ])|(first|refine zR ?_|refine zT ?_)|((first|refine zI ?_|refine zO ?_|refine zP ?_);try simp)|((first|refine zS ?_|refine wOn ?_|refine wQn ?_);try simp only[zZ])
     refine hL _ (N-1) (by omega) ⟨k+1,_,_,by omega,rfl,rfl,hl1.1,hl1.2.1,hl1.2.2,?_⟩
     simp[e1,d1,e7,d7,e8,e21,e22,e23,e29,e30,e31,f4,f5,d53,d58,hw]
 ·have hlt':¬ (k:Int)<h.lg.length:=by omega
  rw[List.take_of_length_le (by omega)] at ha hz
  rw[<- ha,<- hz] at hr
  rcases hrow with ⟨g4,g5,l4,l5⟩|⟨g4,g5,b53,b58⟩
  ·repeat' first|(refine O _ ?_;clear O)|(refine O _ _ ?_;clear O)|(clear O;refine O _ ?_;clear O)|(clear O;clear O;refine O _ ?_;clear O)|(clear O;clear O;clear O;refine O _ ?_;clear O)|(clear O;clear O;clear O;clear O;refine O _ ?_;clear O)|(refine zJ fun K O=>?_)|((first|refine zH ?_|refine zN rfl (by kernel_rfl) ?_|refine zM ?_|refine zK (by kernel_rfl) ?_);simp only[vS,vR,strip])|((first|refine wIs fun K O=>?_|refine wOs fun K O=>?_|refine wQs fun K O=>?_|refine zW ?_|refine zX ?_|refine zY ?_|refine zL ?_);simp[g1,b1,g21,g22,g23,g4,g5,hlt,hlt'])|(refine wIn ?_;refine And.intro (by kernel_rfl) ?_;try simp only[zZ])|(first|refine zR ?_|refine zT ?_)|((first|refine zI ?_|refine zO ?_|refine zP ?_);try simp)|((first|refine zS ?_|refine wOn ?_|refine wQn ?_);try simp only[zZ])
   all_goals apply hr
   all_goals simp[Tryz.f42]
  ·repeat' first|(refine O _ ?_;clear O)|(refine O _ _ ?_;clear O)|(clear O;refine O _ ?_;clear O)|(clear O;clear O;refine O _ ?_;clear O)|(clear O;clear O;clear O;refine O _ ?_;clear O)|(clear O;clear O;clear O;clear O;refine O _ ?_;clear O)|(refine zJ fun K O=>?_)|((first|refine zH ?_|refine zN rfl (by kernel_rfl) ?_|refine zM ?_|refine zK (by kernel_rfl) ?_);simp only[vS,vR,strip])|((first|refine wIs fun K O=>?_|refine wOs fun K O=>?_|refine wQs fun K O=>?_|refine zW ?_|refine zX ?_|refine zY ?_|refine zL ?_);simp[g1,b1,g21,g22,g23,g4,g5,b53,b58,hlt,hlt'])|(refine wIn ?_;refine And.intro (by kernel_rfl) ?_;try simp only[zZ])|(first|refine zR ?_|refine zT ?_)|((first|refine zI ?_|refine zO ?_|refine zP ?_);try simp)|((first|refine zS ?_|refine wOn ?_|refine wQn ?_);try simp only[zZ])
   all_goals apply hr
   all_goals simp[Tryz.f42,b53,b58,g4,g5]
theorem cfs_drop (p l:List Cf):(cfs (p++l)).drop p.length=cfs l:=by simp[cfs]
set_option maxHeartbeats 4000000 in
theorem needs16_con (h:Hy)(de dn:Int)(hk:OkH h):zE Tryz.prog 15 [.p (.agg h.cells),.p (.agg [I de,I dn])] (.p (.sl 4 (cfs (xG h de dn)))):=by
 have c1:=configs16_con h hk
 obtain⟨pre,prz,h1,h2,h3,h4,h5⟩:=cfA_ns h h.lg.length (l:=h.lg) (Nat.le_refl _)
 have hlg:=hk.lg
 simp only[List.take_length] at h1 h2 h3 h4 h5
 have c2:=cmp02_con (nsOf h h.lg).fe (nsOf h h.lg).fn de dn
 unfold xG endN
 generalize nsOf h h.lg=s at h1 h2 h3 c2 ⊢
 generalize cfA h h.lg=L at c1 h1 h4 h5
 generalize zxA h h.lg=Z at c1 h3 h4
 have hZ:Z.length=prz.length+1:=by rw[h3];simp
 have hZg:(zxs Z)[prz.length]?=some [I s.fe,I s.fn]:=by rw[h3];simp[zxs]
 have hcl:=cfs_len L
 have hzl:=wS Z
 unfold Hy.cells at c1 ⊢
 by_cases o1:s.ch=false
 ·rw[if_pos (.inl o1)]
  obtain rfl:=h2 o1
  rw[if_neg (by simp[o1]),List.nil_append] at h1
  have hl1:L.length=1:=by rw[h1];rfl
  have e1:(cfs L).drop 0=cfs [s.now]:=by rw[h1];rfl
  have e2:cfs L=cfs [s.now]:=by rw[h1]
  rw[hl1] at hcl
  have w0:IntKind.i64.wrap 0=0:=by rw[zF] <;> omega
  refine zG Tryz.tab Tryz.mixed Tryz.func15 rfl rfl Tryz.ntmps15 (by simp) (by simp) fun Q hr hn=>?_
  repeat' first|((first|refine O _ ?_|refine O _ _ ?_|(clear O;refine O _ ?_));clear O)|(refine zJ fun K O=>?_)|((first|refine zH ?_|refine zN rfl (by kernel_rfl) ?_|refine zM ?_|refine zK (by kernel_rfl) ?_);simp only[vS,vR,strip])|((first|refine wIs fun K O=>?_|refine wOs fun K O=>?_|refine wQs fun K O=>?_|refine zW ?_|refine zX ?_|refine zY ?_|refine zL ?_);simp[hcl,e1,w0])|(refine wIn ?_;refine And.intro (by kernel_rfl) ?_;try simp only[zZ])|refine zR ?_|refine zT ?_|((first|refine zI ?_|refine zO ?_|refine zP ?_);try simp)|((first|refine zS ?_|refine wOn ?_|refine wQn ?_);try simp only[zZ])|refine zU.p c1 rfl ?_|refine zU.l c1 rfl ?_|refine zQ.pure c1 rfl ?_|refine zQ.lent c1 rfl ?_|refine zU.o c1 ?_|refine zV.p c1 rfl ?_|refine zV.l c1 rfl ?_|refine zV.o c1 ?_
  all_goals apply hr
  all_goals simp[Tryz.f15,e2]
  all_goals rfl
 ·have o1':s.ch=true:=by simpa using o1
  rw[if_pos o1'] at h1
  have hl1:L.length=pre.length+2:=by rw[h1];simp
  have hpp:prz.length=pre.length+1:=by omega
  rw[hpp] at hZg hZ
  rw[hl1] at hcl
  rw[hZ] at hzl
  have w1:IntKind.i64.wrap ((pre.length:Int)+2-1)=(pre.length:Int)+1:=by rw[zF] <;> omega
  have w2:IntKind.i64.wrap ((pre.length:Int)+1-1)=(pre.length:Int):=by rw[zF] <;> omega
  have w2':IntKind.i64.wrap (pre.length:Int)=(pre.length:Int):=by rw[zF] <;> omega
  have n0:¬ (pre.length:Int)+1=0:=by omega
  have n1:(0:Int)<=(pre.length:Int)+1:=by omega
  have n2:((pre.length:Int)+1).toNat=pre.length+1:=by omega
  have n3:pre.length+1<Z.length:=by omega
  have n4:pre.length+1<=L.length:=by omega
  have n5:pre.length<=L.length:=by omega
  have e1:(cfs L).drop (pre.length+1)=cfs [s.now]:=by
   have:=cfs_drop (pre++[s.was]) [s.now]
   rw[List.append_assoc,List.singleton_append,<- h1] at this
   rw[<- this];congr 1;simp
  have e2:(cfs L).drop pre.length=cfs [s.was,s.now]:=by
   have:=cfs_drop pre [s.was,s.now]
   rw[<- h1] at this
   exact this
  have hz1:(Z[pre.length+1]'(by omega))=⟨s.fe,s.fn⟩:=by
   have:Z[pre.length+1]?=some ⟨s.fe,s.fn⟩:=by rw[h3,<- hpp];simp
   rw[List.getElem?_eq_getElem (by omega)] at this
   exact Option.some.inj this
  have hfe:s.fe=(Z[pre.length+1]'(by omega)).e:=by rw[hz1]
  have hfn:s.fn=(Z[pre.length+1]'(by omega)).n:=by rw[hz1]
  rw[hfe,hfn] at c2 ⊢
  clear hz1 hfe hfn hZg
  by_cases o2:xK (Z[pre.length+1]'(by omega)).e (Z[pre.length+1]'(by omega)).n de dn<=0
  ·rw[if_pos (.inr o2)]
   refine zG Tryz.tab Tryz.mixed Tryz.func15 rfl rfl Tryz.ntmps15 (by simp) (by simp) fun Q hr hn=>?_
   repeat' first|((first|refine O _ ?_|refine O _ _ ?_|(clear O;refine O _ ?_));clear O)|(refine zJ fun K O=>?_)|((first|refine zH ?_|refine zN rfl (by kernel_rfl) ?_|refine zM ?_|refine zK (by kernel_rfl) ?_);simp only[vS,vR,strip])|((first|refine wIs fun K O=>?_|refine wOs fun K O=>?_|refine wQs fun K O=>?_|refine zW ?_|refine zX ?_|refine zY ?_|refine zL ?_);simp[hcl,hzl,w1,w2,w2',n0,n1,n2,n3,n4,n5,e1,e2,o2,hl1])|(refine wIn ?_;refine And.intro (by kernel_rfl) ?_;try simp only[zZ])|refine zR ?_|refine zT ?_|((first|refine zI ?_|refine zO ?_|refine zP ?_);try simp)|((first|refine zS ?_|refine wOn ?_|refine wQn ?_);try simp only[zZ])|refine zU.p c1 rfl ?_|refine zU.l c1 rfl ?_|refine zQ.pure c1 rfl ?_|refine zQ.lent c1 rfl ?_|refine zU.o c1 ?_|refine zV.p c1 rfl ?_|refine zV.l c1 rfl ?_|refine zV.o c1 ?_|refine zU.p c2 rfl ?_|refine zU.l c2 rfl ?_|refine zQ.pure c2 rfl ?_|refine zQ.lent c2 rfl ?_|refine zU.o c2 ?_|refine zV.p c2 rfl ?_|refine zV.l c2 rfl ?_|refine zV.o c2 ?_
   all_goals apply hr
   all_goals simp[Tryz.f15]
   all_goals rw[List.take_of_length_le (by omega),e1]
  ·rw[if_neg (by rintro (h|h);exact o1 h;exact o2 h)]
   refine zG Tryz.tab Tryz.mixed Tryz.func15 rfl rfl Tryz.ntmps15 (by simp) (by simp) fun Q hr hn=>?_
   repeat' first|((first|refine O _ ?_|refine O _ _ ?_|(clear O;refine O _ ?_));clear O)|(refine zJ fun K O=>?_)|((first|refine zH ?_|refine zN rfl (by kernel_rfl) ?_|refine zM ?_|refine zK (by kernel_rfl) ?_);simp only[vS,vR,strip])|((first|refine wIs fun K O=>?_|refine wOs fun K O=>?_|refine wQs fun K O=>?_|refine zW ?_|refine zX ?_|refine zY ?_|refine zL ?_);simp[hcl,hzl,w1,w2,w2',n0,n1,n2,n3,n4,n5,e1,e2,o2,hl1])|(refine wIn ?_;refine And.intro (by kernel_rfl) ?_;try simp only[zZ])|refine zR ?_|refine zT ?_|((first|refine zI ?_|refine zO ?_|refine zP ?_);try simp)|((first|refine zS ?_|refine wOn ?_|refine wQn ?_);try simp only[zZ])|refine zU.p c1 rfl ?_|refine zU.l c1 rfl ?_|refine zQ.pure c1 rfl ?_|refine zQ.lent c1 rfl ?_|refine zU.o c1 ?_|refine zV.p c1 rfl ?_|refine zV.l c1 rfl ?_|refine zV.o c1 ?_|refine zU.p c2 rfl ?_|refine zU.l c2 rfl ?_|refine zQ.pure c2 rfl ?_|refine zQ.lent c2 rfl ?_|refine zU.o c2 ?_|refine zV.p c2 rfl ?_|refine zV.l c2 rfl ?_|refine zV.o c2 ?_
   all_goals apply hr
   all_goals simp[Tryz.f15]
   all_goals rw[List.take_of_length_le (by omega),e2]
end Go.Proofs.YtpihbhacmokekaaGreatDoor
namespace Go.Proofs.YtpihbhacmokekaaGreatDoor
set_option linter.unusedSimpArgs false
set_option linter.unusedVariables false
set_option maxRecDepth 8000
open Go Go.Av
attribute [local irreducible] Go.Av.yJ Go.Av.zU Go.Av.yC Go.Av.zQ Go.Av.yG Go.Av.zV Go.Av.Con
theorem app06_eq {c:Cf}{d:Dl}{e n:Int}(h:appE c d e n=0):app06 c d e n=appC c d e n:=by unfold app06 appC;rw[if_pos h,if_pos h]
def rsS (nx:Int)(p:Int):List Int->Bool
 |[]=>true
 |n::l=>decide (1<=n/\n<nx/\p<n) && rsS nx n l
def prevN (l:List Int)(k:Nat):Int:=if h:0<k/\k<=l.length then l[k-1]'(by omega) else 0
theorem prevN_succ (l:List Int)(k:Nat)(h:k<l.length):prevN l (k+1)=l[k]:=by
 unfold prevN;rw[dif_pos ⟨by omega,by omega⟩];rfl
theorem prevN_pos (l:List Int)(k:Nat)(h0:0<k)(h:k<l.length):prevN l k=l[k-1]'(by omega):=by
 unfold prevN;rw[dif_pos ⟨by omega,by omega⟩]
def rgtS (s:Sv):Bool:=tre s.ns && (decide (check s.c=0/\1<=s.nx/\s.nx<=1099511627776/\s.ss.length<=20) && rsS s.nx 0 s.ss)
set_option maxHeartbeats 4000000 in
theorem rightP09_con (s:Sv)(hz:∀z∈s.ns,long z)(hm:s.c.ms.length<=1000000):zE Tryz.prog 19 [.p (.agg s.cells)] (.p (B (rgtS s))):=by
 have c1:=treeR_con s.ns hz
 have c2:=check04_con s.c hm
 obtain⟨ns,ss,nx,⟨ep,n,kd,ms⟩,ae,an⟩:=s
 unfold rgtS
 unfold Sv.cells Cf.cells at *
 dsimp only at *
 generalize check ⟨ep,n,kd,ms⟩=ce at *
 generalize zns ns=X at *
 cases ht:tre ns with
 |false =>
  rw[ht] at c1
  rw[Bool.false_and]
  refine zG Tryz.tab Tryz.mixed Tryz.func19 rfl rfl Tryz.ntmps19 (by simp) (by simp) fun Q hr hn=>?_
  repeat' first|((first|refine O _ ?_|refine O _ _ ?_|(clear O;refine O _ ?_));clear O)|(refine zJ fun K O=>?_)|((first|refine zH ?_|refine zN rfl (by kernel_rfl) ?_|refine zM ?_|refine zK (by kernel_rfl) ?_);simp only[vS,vR,strip])|((first|refine wIs fun K O=>?_|refine wOs fun K O=>?_|refine wQs fun K O=>?_|refine zW ?_|refine zX ?_|refine zY ?_|refine zL ?_);simp)|(refine wIn ?_;refine And.intro (by kernel_rfl) ?_;try simp only[zZ])|refine zR ?_|refine zT ?_|((first|refine zI ?_|refine zO ?_|refine zP ?_);try simp)|((first|refine zS ?_|refine wOn ?_|refine wQn ?_);try simp only[zZ])|refine zU.p c1 rfl ?_|refine zU.l c1 rfl ?_|refine zQ.pure c1 rfl ?_|refine zQ.lent c1 rfl ?_|refine zU.o c1 ?_|refine zV.p c1 rfl ?_|refine zV.l c1 rfl ?_|refine zV.o c1 ?_
  all_goals apply hr
  all_goals simp[Tryz.f19]
 |true =>
 rw[ht] at c1
 rw[Bool.true_and]
 by_cases h1:ce=0
 case neg =>
  rw[decide_eq_false (fun h=>h1 h.1),Bool.false_and]
  have h1':(ce=0)=False:=eq_false h1
  refine zG Tryz.tab Tryz.mixed Tryz.func19 rfl rfl Tryz.ntmps19 (by simp) (by simp) fun Q hr hn=>?_
  repeat' first|((first|refine O _ ?_|refine O _ _ ?_|(clear O;refine O _ ?_));clear O)|(refine zJ fun K O=>?_)|((first|refine zH ?_|refine zN rfl (by kernel_rfl) ?_|refine zM ?_|refine zK (by kernel_rfl) ?_);simp only[vS,vR,strip])|((first|refine wIs fun K O=>?_|refine wOs fun K O=>?_|refine wQs fun K O=>?_|refine zW ?_|refine zX ?_|refine zY ?_|refine zL ?_);simp[h1'])|(refine wIn ?_;refine And.intro (by kernel_rfl) ?_;try simp only[zZ])|refine zR ?_|refine zT ?_|((first|refine zI ?_|refine zO ?_|refine zP ?_);try simp)|((first|refine zS ?_|refine wOn ?_|refine wQn ?_);try simp only[zZ])|refine zU.p c1 rfl ?_|refine zU.l c1 rfl ?_|refine zQ.pure c1 rfl ?_|refine zQ.lent c1 rfl ?_|refine zU.o c1 ?_|refine zV.p c1 rfl ?_|refine zV.l c1 rfl ?_|refine zV.o c1 ?_|refine zU.p c2 rfl ?_|refine zU.l c2 rfl ?_|refine zQ.pure c2 rfl ?_|refine zQ.lent c2 rfl ?_|refine zU.o c2 ?_|refine zV.p c2 rfl ?_|refine zV.l c2 rfl ?_|refine zV.o c2 ?_
  all_goals apply hr
  all_goals simp[Tryz.f19]
 subst h1
 by_cases h2:nx<1
 ·rw[decide_eq_false (fun h=>by have:=h.2.1;omega),Bool.false_and]
  refine zG Tryz.tab Tryz.mixed Tryz.func19 rfl rfl Tryz.ntmps19 (by simp) (by simp) fun Q hr hn=>?_
  repeat' first|((first|refine O _ ?_|refine O _ _ ?_|(clear O;refine O _ ?_));clear O)|(refine zJ fun K O=>?_)|((first|refine zH ?_|refine zN rfl (by kernel_rfl) ?_|refine zM ?_|refine zK (by kernel_rfl) ?_);simp only[vS,vR,strip])|((first|refine wIs fun K O=>?_|refine wOs fun K O=>?_|refine wQs fun K O=>?_|refine zW ?_|refine zX ?_|refine zY ?_|refine zL ?_);simp[h2])|(refine wIn ?_;refine And.intro (by kernel_rfl) ?_;try simp only[zZ])|refine zR ?_|refine zT ?_|((first|refine zI ?_|refine zO ?_|refine zP ?_);try simp)|((first|refine zS ?_|refine wOn ?_|refine wQn ?_);try simp only[zZ])|refine zU.p c1 rfl ?_|refine zU.l c1 rfl ?_|refine zQ.pure c1 rfl ?_|refine zQ.lent c1 rfl ?_|refine zU.o c1 ?_|refine zV.p c1 rfl ?_|refine zV.l c1 rfl ?_|refine zV.o c1 ?_|refine zU.p c2 rfl ?_|refine zU.l c2 rfl ?_|refine zQ.pure c2 rfl ?_|refine zQ.lent c2 rfl ?_|refine zU.o c2 ?_|refine zV.p c2 rfl ?_|refine zV.l c2 rfl ?_|refine zV.o c2 ?_
  all_goals apply hr
  all_goals simp[Tryz.f19]
 by_cases h3:1099511627776<nx
 ·rw[decide_eq_false (fun h=>by have:=h.2.2.1;omega),Bool.false_and]
  refine zG Tryz.tab Tryz.mixed Tryz.func19 rfl rfl Tryz.ntmps19 (by simp) (by simp) fun Q hr hn=>?_
  repeat' first|((first|refine O _ ?_|refine O _ _ ?_|(clear O;refine O _ ?_));clear O)|(refine zJ fun K O=>?_)|((first|refine zH ?_|refine zN rfl (by kernel_rfl) ?_|refine zM ?_|refine zK (by kernel_rfl) ?_);simp only[vS,vR,strip])|((first|refine wIs fun K O=>?_|refine wOs fun K O=>?_|refine wQs fun K O=>?_|refine zW ?_|refine zX ?_|refine zY ?_|refine zL ?_);simp[h2,h3])|(refine wIn ?_;refine And.intro (by kernel_rfl) ?_;try simp only[zZ])|refine zR ?_|refine zT ?_|((first|refine zI ?_|refine zO ?_|refine zP ?_);try simp)|((first|refine zS ?_|refine wOn ?_|refine wQn ?_);try simp only[zZ])|refine zU.p c1 rfl ?_|refine zU.l c1 rfl ?_|refine zQ.pure c1 rfl ?_|refine zQ.lent c1 rfl ?_|refine zU.o c1 ?_|refine zV.p c1 rfl ?_|refine zV.l c1 rfl ?_|refine zV.o c1 ?_|refine zU.p c2 rfl ?_|refine zU.l c2 rfl ?_|refine zQ.pure c2 rfl ?_|refine zQ.lent c2 rfl ?_|refine zU.o c2 ?_|refine zV.p c2 rfl ?_|refine zV.l c2 rfl ?_|refine zV.o c2 ?_
  all_goals apply hr
  all_goals simp[Tryz.f19]
 by_cases h4:20<ss.length
 ·rw[decide_eq_false (fun h=>by have:=h.2.2.2;omega),Bool.false_and]
  have h4':(20:Int)<ss.length:=by omega
  refine zG Tryz.tab Tryz.mixed Tryz.func19 rfl rfl Tryz.ntmps19 (by simp) (by simp) fun Q hr hn=>?_
  repeat' first|((first|refine O _ ?_|refine O _ _ ?_|(clear O;refine O _ ?_));clear O)|(refine zJ fun K O=>?_)|((first|refine zH ?_|refine zN rfl (by kernel_rfl) ?_|refine zM ?_|refine zK (by kernel_rfl) ?_);simp only[vS,vR,strip])|((first|refine wIs fun K O=>?_|refine wOs fun K O=>?_|refine wQs fun K O=>?_|refine zW ?_|refine zX ?_|refine zY ?_|refine zL ?_);simp[h2,h3,h4,h4'])|(refine wIn ?_;refine And.intro (by kernel_rfl) ?_;try simp only[zZ])|refine zR ?_|refine zT ?_|((first|refine zI ?_|refine zO ?_|refine zP ?_);try simp)|((first|refine zS ?_|refine wOn ?_|refine wQn ?_);try simp only[zZ])|refine zU.p c1 rfl ?_|refine zU.l c1 rfl ?_|refine zQ.pure c1 rfl ?_|refine zQ.lent c1 rfl ?_|refine zU.o c1 ?_|refine zV.p c1 rfl ?_|refine zV.l c1 rfl ?_|refine zV.o c1 ?_|refine zU.p c2 rfl ?_|refine zU.l c2 rfl ?_|refine zQ.pure c2 rfl ?_|refine zQ.lent c2 rfl ?_|refine zU.o c2 ?_|refine zV.p c2 rfl ?_|refine zV.l c2 rfl ?_|refine zV.o c2 ?_
  all_goals apply hr
  all_goals simp[Tryz.f19]
 have h4':¬ (20:Int)<ss.length:=by omega
 rw[decide_eq_true ⟨rfl,by omega,by omega,by omega⟩,Bool.true_and]
 refine zG Tryz.tab Tryz.mixed Tryz.func19 rfl rfl Tryz.ntmps19 (by simp) (by simp) fun Q hr hn=>?_
 repeat' first|((first|refine O _ ?_|refine O _ _ ?_|(clear O;refine O _ ?_));clear O)|(refine zJ fun K O=>?_)|((first|refine zH ?_|refine zN rfl (by kernel_rfl) ?_|refine zM ?_|refine zK (by kernel_rfl) ?_);simp only[vS,vR,strip])|((first|refine wIs fun K O=>?_|refine wOs fun K O=>?_|refine wQs fun K O=>?_|refine zW ?_|refine zX ?_|refine zY ?_|refine zL ?_);simp[h2,h3,h4,h4'])|(refine wIn ?_;refine And.intro (by kernel_rfl) ?_;try simp only[zZ])|refine zR ?_|refine zT ?_|((first|refine zI ?_|refine zO ?_|refine zP ?_);try simp)|((first|refine zS ?_|refine wOn ?_|refine wQn ?_);try simp only[zZ])|refine zU.p c1 rfl ?_|refine zU.l c1 rfl ?_|refine zQ.pure c1 rfl ?_|refine zQ.lent c1 rfl ?_|refine zU.o c1 ?_|refine zV.p c1 rfl ?_|refine zV.l c1 rfl ?_|refine zV.o c1 ?_|refine zU.p c2 rfl ?_|refine zU.l c2 rfl ?_|refine zQ.pure c2 rfl ?_|refine zQ.lent c2 rfl ?_|refine zU.o c2 ?_|refine zV.p c2 rfl ?_|refine zV.l c2 rfl ?_|refine zV.o c2 ?_
 refine zC (fun N st=>∃k,k+N=ss.length/\st.s 1=.ptr 1 0/\st.b 1=some (.box 30 [.p (.sl 5 X),.p (.sl 1 (ints ss)),.p (I nx),.p (I ep),.p (I n),.p (I kd),.p (.sl 4 (mbs ms)),.p (I ae),.p (I an)])/\st.s 32=.p (.sl 1 (ints ss))/\st.s 33=.p (I ss.length)/\st.s 34=.p (I k)/\rsS nx (prevN ss k) (ss.drop k)=rsS nx 0 ss) ss.length ⟨0,by simp[prevN]⟩ fun K N st hL ⟨k,hk,g1,b1,g32,g33,g34,hi⟩=>?_
 by_cases hlt:k<ss.length
 case neg =>
  have hlt':¬ (k:Int)<ss.length:=by omega
  rw[List.drop_of_length_le (by omega),rsS] at hi
  rw[<- hi] at hr
  repeat' first|((first|refine O _ ?_|refine O _ _ ?_|(clear O;refine O _ ?_));clear O)|(refine zJ fun K O=>?_)|((first|refine zH ?_|refine zN rfl (by kernel_rfl) ?_|refine zM ?_|refine zK (by kernel_rfl) ?_);simp only[vS,vR,strip])|((first|refine wIs fun K O=>?_|refine wOs fun K O=>?_|refine wQs fun K O=>?_|refine zW ?_|refine zX ?_|refine zY ?_|refine zL ?_);simp[g1,b1,g32,g33,g34,hlt,hlt'])|(refine wIn ?_;refine And.intro (by kernel_rfl) ?_;try simp only[zZ])|refine zR ?_|refine zT ?_|((first|refine zI ?_|refine zO ?_|refine zP ?_);try simp)|((first|refine zS ?_|refine wOn ?_|refine wQn ?_);try simp only[zZ])
  all_goals apply hr
  all_goals simp[Tryz.f19]
 have hlt':(k:Int)<ss.length:=by omega
 have hw:=yU k _ hlt (by omega)
 have he:=ints_get hlt
 rw[List.drop_eq_getElem_cons hlt,rsS] at hi
 have hp:=prevN_succ ss k hlt
 by_cases hk0:k=0
 ·subst hk0
  rw[show prevN ss 0=0 from rfl] at hi
  generalize hQ:ss[0]=v at *
  by_cases o1:v<1
  ·rw[decide_eq_false (fun h=>by omega),Bool.false_and] at hi
   rw[<- hi] at hr
   repeat' first|((first|refine O _ ?_|refine O _ _ ?_|(clear O;refine O _ ?_));clear O)|(refine zJ fun K O=>?_)|((first|refine zH ?_|refine zN rfl (by kernel_rfl) ?_|refine zM ?_|refine zK (by kernel_rfl) ?_);simp only[vS,vR,strip])|((first|refine wIs fun K O=>?_|refine wOs fun K O=>?_|refine wQs fun K O=>?_|refine zW ?_|refine zX ?_|refine zY ?_|refine zL ?_);simp[g1,b1,g32,g33,g34,hlt,hlt',he,hQ,o1])|(refine wIn ?_;refine And.intro (by kernel_rfl) ?_;try simp only[zZ])|refine zR ?_|refine zT ?_|((first|refine zI ?_|refine zO ?_|refine zP ?_);try simp)|((first|refine zS ?_|refine wOn ?_|refine wQn ?_);try simp only[zZ])
   all_goals apply hr
   all_goals simp[Tryz.f19]
  by_cases o2:nx<=v
  ·rw[decide_eq_false (fun h=>by omega),Bool.false_and] at hi
   rw[<- hi] at hr
   repeat' first|((first|refine O _ ?_|refine O _ _ ?_|(clear O;refine O _ ?_));clear O)|(refine zJ fun K O=>?_)|((first|refine zH ?_|refine zN rfl (by kernel_rfl) ?_|refine zM ?_|refine zK (by kernel_rfl) ?_);simp only[vS,vR,strip])|((first|refine wIs fun K O=>?_|refine wOs fun K O=>?_|refine wQs fun K O=>?_|refine zW ?_|refine zX ?_|refine zY ?_|refine zL ?_);simp[g1,b1,g32,g33,g34,hlt,hlt',he,hQ,o1,o2])|(refine wIn ?_;refine And.intro (by kernel_rfl) ?_;try simp only[zZ])|refine zR ?_|refine zT ?_|((first|refine zI ?_|refine zO ?_|refine zP ?_);try simp)|((first|refine zS ?_|refine wOn ?_|refine wQn ?_);try simp only[zZ])
   all_goals apply hr
   all_goals simp[Tryz.f19]
  rw[decide_eq_true ⟨by omega,by omega,by omega⟩,Bool.true_and] at hi
  repeat' first|((first|refine O _ ?_|refine O _ _ ?_|(clear O;refine O _ ?_));clear O)|(refine zJ fun K O=>?_)|((first|refine zH ?_|refine zN rfl (by kernel_rfl) ?_|refine zM ?_|refine zK (by kernel_rfl) ?_);simp only[vS,vR,strip])|((first|refine wIs fun K O=>?_|refine wOs fun K O=>?_|refine wQs fun K O=>?_|refine zW ?_|refine zX ?_|refine zY ?_|refine zL ?_);simp[g1,b1,g32,g33,g34,hlt,hlt',hw,he,hQ,o1,o2])|(refine wIn ?_;refine And.intro (by kernel_rfl) ?_;try simp only[zZ])|refine zR ?_|refine zT ?_|((first|refine zI ?_|refine zO ?_|refine zP ?_);try simp)|((first|refine zS ?_|refine wOn ?_|refine wQn ?_);try simp only[zZ])
  all_goals refine hL _ (N-1) (by omega) ⟨0+1,by omega,?_⟩
  all_goals rw[hp]
  all_goals simp[g1,b1,g32,g33,g34]
  all_goals exact⟨by decide,by simpa using hi⟩
 ·have hw1:IntKind.i64.wrap ((k:Int)-1)=((k-1:Nat):Int):=by rw[zF] <;> omega
  have hk1:0<k:=by omega
  have hk1':(0:Int)<k:=by omega
  have he1:=ints_get (l:=ss) (k:=k-1) (by omega)
  have hq:=prevN_pos ss k hk1 hlt
  rw[hq] at hi
  clear hq
  generalize hQ:ss[k]=v at *
  generalize hQ1:ss[k-1]=u at *
  by_cases o1:v<1
  ·rw[decide_eq_false (fun h=>by omega),Bool.false_and] at hi
   rw[<- hi] at hr
   repeat' first|((first|refine O _ ?_|refine O _ _ ?_|(clear O;refine O _ ?_));clear O)|(refine zJ fun K O=>?_)|((first|refine zH ?_|refine zN rfl (by kernel_rfl) ?_|refine zM ?_|refine zK (by kernel_rfl) ?_);simp only[vS,vR,strip])|((first|refine wIs fun K O=>?_|refine wOs fun K O=>?_|refine wQs fun K O=>?_|refine zW ?_|refine zX ?_|refine zY ?_|refine zL ?_);simp[g1,b1,g32,g33,g34,hlt,hlt',he,hQ,o1,hk1,hk1',hw1,he1,hQ1])|(refine wIn ?_;refine And.intro (by kernel_rfl) ?_;try simp only[zZ])|refine zR ?_|refine zT ?_|((first|refine zI ?_|refine zO ?_|refine zP ?_);try simp)|((first|refine zS ?_|refine wOn ?_|refine wQn ?_);try simp only[zZ])
   all_goals apply hr
   all_goals simp[Tryz.f19]
  by_cases o2:nx<=v
  ·rw[decide_eq_false (fun h=>by omega),Bool.false_and] at hi
   rw[<- hi] at hr
   repeat' first|((first|refine O _ ?_|refine O _ _ ?_|(clear O;refine O _ ?_));clear O)|(refine zJ fun K O=>?_)|((first|refine zH ?_|refine zN rfl (by kernel_rfl) ?_|refine zM ?_|refine zK (by kernel_rfl) ?_);simp only[vS,vR,strip])|((first|refine wIs fun K O=>?_|refine wOs fun K O=>?_|refine wQs fun K O=>?_|refine zW ?_|refine zX ?_|refine zY ?_|refine zL ?_);simp[g1,b1,g32,g33,g34,hlt,hlt',he,hQ,o1,o2,hk1,hk1',hw1,he1,hQ1])|(refine wIn ?_;refine And.intro (by kernel_rfl) ?_;try simp only[zZ])|refine zR ?_|refine zT ?_|((first|refine zI ?_|refine zO ?_|refine zP ?_);try simp)|((first|refine zS ?_|refine wOn ?_|refine wQn ?_);try simp only[zZ])
   all_goals apply hr
   all_goals simp[Tryz.f19]
  have hk2:k-1<ss.length:=by omega
  have hk2':((k-1:Nat):Int)<ss.length:=by omega
  by_cases o3:v<=u
  ·rw[decide_eq_false (fun h=>by omega),Bool.false_and] at hi
   rw[<- hi] at hr
   repeat' first|((first|refine O _ ?_|refine O _ _ ?_|(clear O;refine O _ ?_));clear O)|(refine zJ fun K O=>?_)|((first|refine zH ?_|refine zN rfl (by kernel_rfl) ?_|refine zM ?_|refine zK (by kernel_rfl) ?_);simp only[vS,vR,strip])|((first|refine wIs fun K O=>?_|refine wOs fun K O=>?_|refine wQs fun K O=>?_|refine zW ?_|refine zX ?_|refine zY ?_|refine zL ?_);simp[g1,b1,g32,g33,g34,hlt,hlt',he,hQ,o1,o2,o3,hk1,hk1',hw1,he1,hQ1,hk2,hk2'])|(refine wIn ?_;refine And.intro (by kernel_rfl) ?_;try simp only[zZ])|refine zR ?_|refine zT ?_|((first|refine zI ?_|refine zO ?_|refine zP ?_);try simp)|((first|refine zS ?_|refine wOn ?_|refine wQn ?_);try simp only[zZ])
   all_goals apply hr
   all_goals simp[Tryz.f19]
  rw[decide_eq_true ⟨by omega,by omega,by omega⟩,Bool.true_and] at hi
  repeat' first|((first|refine O _ ?_|refine O _ _ ?_|(clear O;refine O _ ?_));clear O)|(refine zJ fun K O=>?_)|((first|refine zH ?_|refine zN rfl (by kernel_rfl) ?_|refine zM ?_|refine zK (by kernel_rfl) ?_);simp only[vS,vR,strip])|((first|refine wIs fun K O=>?_|refine wOs fun K O=>?_|refine wQs fun K O=>?_|refine zW ?_|refine zX ?_|refine zY ?_|refine zL ?_);simp[g1,b1,g32,g33,g34,hlt,hlt',hw,he,hQ,o1,o2,o3,hk1,hk1',hw1,he1,hQ1,hk2,hk2'])|(refine wIn ?_;refine And.intro (by kernel_rfl) ?_;try simp only[zZ])|refine zR ?_|refine zT ?_|((first|refine zI ?_|refine zO ?_|refine zP ?_);try simp)|((first|refine zS ?_|refine wOn ?_|refine wQn ?_);try simp only[zZ])
  all_goals refine hL _ (N-1) (by omega) ⟨k+1,by omega,?_⟩
  all_goals rw[hp]
  all_goals simp[g1,b1,g32,g33,g34,hw,hi]
end Go.Proofs.YtpihbhacmokekaaGreatDoor
namespace Go.Proofs.YtpihbhacmokekaaGreatDoor
open Go Go.Av
theorem awake20:zE Tryz.prog 7 [] (.p (B true)):=xCall_sound Tryz.tab Tryz.mixed base_ok 40 _ _ _ _ (by kernel_rfl)
end Go.Proofs.YtpihbhacmokekaaGreatDoor
namespace Go.Proofs.YtpihbhacmokekaaGreatDoor
set_option linter.unusedSimpArgs false
set_option linter.unusedVariables false
set_option maxRecDepth 8000
open Go Go.Av
attribute [local irreducible] Go.Av.yJ Go.Av.zU Go.Av.yC Go.Av.zQ Go.Av.yG Go.Av.zV Go.Av.Con
structure Ca where
 (h:Hy)
 (de dn self:Int)
 (l:List Lr)
def Ca.cells (x:Ca):List PV:=x.h.cells++[I x.de,I x.dn,I x.self,.sl 8 (lrs x.l)]
def LongH (h:Hy):Prop:=(∀z∈h.im.ns,long z)/\∀t∈h.lg,∀p∈t.ps,long p.z
theorem put_mem {l:List Zn}{z y:Zn}(h:y∈putZ l z):y=z\/y∈l:=by
 unfold putZ at h
 rcases List.mem_append.1 h with h|h
 ·exact .inr (List.mem_of_mem_take h)
 ·rcases List.mem_cons.1 h with h|h
  ·exact .inl h
  ·exact .inr (List.mem_of_mem_drop ((rst_sub _ _).subset h))
theorem stepP_long {s:Sv}{p:Pt}(h:∀z∈s.ns,long z)(hp:long p.z):∀z∈(yK s p).ns,long z:=by
 unfold yK
 split
 ·intro z hz
  rcases put_mem hz with rfl|hz
  ·exact hp
  ·exact h z hz
 split
 ·intro z hz
  exact h z (List.mem_filter.1 hz).1
 split
 ·exact h
 split
 ·exact h
 split <;> exact h
theorem runP_long:∀ (l:List Pt){s:Sv},(∀z∈s.ns,long z)->(∀p∈l,long p.z)->∀z∈(wW s l).ns,long z
 |[],s,h,_=>h
 |p::l,s,h,hp=>runP_long l (stepP_long h (hp p List.mem_cons_self)) fun q hq=>hp q (List.mem_cons_of_mem _ hq)
theorem allS_long:∀ (l:List Tx){s:Sv},(∀z∈s.ns,long z)->(∀t∈l,∀p∈t.ps,long p.z)->∀z∈(xS s l).ns,long z
 |[],s,h,_=>h
 |t::l,s,h,hp=>allS_long l (s:=doS s t) (runP_long t.ps h (hp t List.mem_cons_self)) fun q hq=>hp q (List.mem_cons_of_mem _ hq)
theorem stL_long {h:Hy}(hl:LongH h):∀z∈(stL h).ns,long z:=allS_long _ hl.1 fun t ht=>hl.2 t (List.mem_filter.1 ht).1
theorem sum_leR {α:Type}(f:α->Nat){l:List α}{a:α}(h:a∈l):f a<=(l.map f).sum:=by
 induction l with
 |nil=>cases h
 |cons b l ih =>
  rw[vS,List.sum_cons]
  rcases List.mem_cons.1 h with rfl|h
  ·omega
  ·have:=ih h;omega
theorem OkH.ofR {h:Hy}{l:List Lr}{r:Rp}(hn:nearK h l r):OkH h:=by
 obtain⟨h1,h2,h3,h4⟩:=hn
 unfold wH at h4
 have e0:∀l:List Tx,(l.map fun t=>t.ps.length).sum<=(l.map wT).sum:=by
  intro l
  induction l with
  |nil=>simp
  |cons t l ih =>
   rw[vS,vS,List.sum_cons,List.sum_cons]
   have:t.ps.length<=wT t:=by unfold wT;omega
   omega
 have e00:=e0 h.lg
 refine⟨by omega,by omega,by omega,by omega,fun t ht=>⟨by have:=h2 t ht;omega,fun p hp=>?_⟩,by omega⟩
 have e1:=sum_leR wT ht
 have e2:=sum_leR (fun p:Pt=>p.c.ms.length) hp
 unfold wT at e1
 unfold wT at h4
 omega
theorem runP_cc (B:Nat):∀ (l:List Pt){s:Sv},s.c.ms.length<=B->(∀p∈l,p.c.ms.length<=B)->(wW s l).c.ms.length<=B
 |[],s,h,_=>h
 |p::l,s,h,hp=>by
  refine runP_cc B l (s:=yK s p) ?_ fun q hq=>hp q (List.mem_cons_of_mem _ hq)
  have:=hp p List.mem_cons_self
  unfold yK
  split
  ·exact h
  split
  ·exact h
  split
  ·exact h
  split
  ·exact h
  split
  ·exact this
  ·exact h
theorem allS_cc (B:Nat):∀ (l:List Tx){s:Sv},s.c.ms.length<=B->(∀t∈l,∀p∈t.ps,p.c.ms.length<=B)->(xS s l).c.ms.length<=B
 |[],s,h,_=>h
 |t::l,s,h,hp=>allS_cc B l (s:=doS s t) (runP_cc B t.ps h (hp t List.mem_cons_self)) fun q hq=>hp q (List.mem_cons_of_mem _ hq)
theorem stL_cc {h:Hy}(hk:OkH h):(stL h).c.ms.length<=1000:=allS_cc 1000 _ hk.c fun t ht p hp=>(hk.ps t (List.mem_filter.1 ht).1).2 p hp
theorem OkH.fitL {h:Hy}(hk:OkH h):Fits h.im (psum (upTo (yT h).e (yT h).n h.lg)):=by
 have h1:psum (upTo (yT h).e (yT h).n h.lg)<=psum h.lg:=psum_filter _ _
 have h2:=hk.tot
 have h3:=hk.ns
 have h4:=hk.ss
 have h5:=hk.c
 unfold psum at *
 exact⟨by omega,by omega,by unfold okC;omega⟩
theorem OkH.okTR {h:Hy}(hk:OkH h):∀t∈h.lg,okT t:=fun t ht p hp=>by have:=(hk.ps t ht).2 p hp;unfold okC;omega
def rgtC (h:Hy):Bool:=risesB (marksH h) && rgtS (stL h)
set_option maxHeartbeats 4000000 in
theorem right20_con (x:Ca)(hk:OkH x.h)(hl:LongH x.h):zE Tryz.prog 6 [.p (.agg x.cells)] (.p (B (rgtC x.h))):=by
 have c1:=check16_con x.h hk.lg
 have c2:=last16_con x.h hk.lg
 have c3:=stateAt16_con x.h (yT x.h).e (yT x.h).n hk
 have c4:=rightP09_con (stL x.h) (stL_long hl) (by have:=stL_cc hk;omega)
 unfold rgtC
 change zE _ _ _ (.p (.agg (stL x.h).cells)) at c3
 obtain⟨h,de,dn,self,l⟩:=x
 dsimp only at *
 clear hk hl
 generalize stL h=S at *
 generalize yT h=la at *
 generalize risesB (marksH h)=b at *
 generalize rgtS S=b2 at *
 unfold Sv.cells Hy.cells Ca.cells at *
 unfold Hy.cells
 simp only[List.cons_append,List.nil_append]
 cases b
 ·refine zG Tryz.tab Tryz.mixed Tryz.func6 rfl rfl Tryz.ntmps6 (by simp) (by simp) fun Q hr hn=>?_
  repeat' first|((first|refine O _ ?_|refine O _ _ ?_|(clear O;refine O _ ?_));clear O)|(refine zJ fun K O=>?_)|((first|refine zH ?_|refine zN rfl (by kernel_rfl) ?_|refine zM ?_|refine zK (by kernel_rfl) ?_);simp only[vS,vR,strip])|((first|refine wIs fun K O=>?_|refine wOs fun K O=>?_|refine wQs fun K O=>?_|refine zW ?_|refine zX ?_|refine zY ?_|refine zL ?_);simp)|(refine wIn ?_;refine And.intro (by kernel_rfl) ?_;try simp only[zZ])|refine zR ?_|refine zT ?_|((first|refine zI ?_|refine zO ?_|refine zP ?_);try simp)|((first|refine zS ?_|refine wOn ?_|refine wQn ?_);try simp only[zZ])|refine zU.p c1 rfl ?_|refine zU.l c1 rfl ?_|refine zQ.pure c1 rfl ?_|refine zQ.lent c1 rfl ?_|refine zU.o c1 ?_|refine zV.p c1 rfl ?_|refine zV.l c1 rfl ?_|refine zV.o c1 ?_
  all_goals apply hr
  all_goals simp[Tryz.f6]
 ·refine zG Tryz.tab Tryz.mixed Tryz.func6 rfl rfl Tryz.ntmps6 (by simp) (by simp) fun Q hr hn=>?_
  repeat' first|((first|refine O _ ?_|refine O _ _ ?_|(clear O;refine O _ ?_));clear O)|(refine zJ fun K O=>?_)|((first|refine zH ?_|refine zN rfl (by kernel_rfl) ?_|refine zM ?_|refine zK (by kernel_rfl) ?_);simp only[vS,vR,strip])|((first|refine wIs fun K O=>?_|refine wOs fun K O=>?_|refine wQs fun K O=>?_|refine zW ?_|refine zX ?_|refine zY ?_|refine zL ?_);simp)|(refine wIn ?_;refine And.intro (by kernel_rfl) ?_;try simp only[zZ])|refine zR ?_|refine zT ?_|((first|refine zI ?_|refine zO ?_|refine zP ?_);try simp)|((first|refine zS ?_|refine wOn ?_|refine wQn ?_);try simp only[zZ])|refine zU.p c1 rfl ?_|refine zU.l c1 rfl ?_|refine zQ.pure c1 rfl ?_|refine zQ.lent c1 rfl ?_|refine zU.o c1 ?_|refine zV.p c1 rfl ?_|refine zV.l c1 rfl ?_|refine zV.o c1 ?_|refine zU.p c2 rfl ?_|refine zU.l c2 rfl ?_|refine zQ.pure c2 rfl ?_|refine zQ.lent c2 rfl ?_|refine zU.o c2 ?_|refine zV.p c2 rfl ?_|refine zV.l c2 rfl ?_|refine zV.o c2 ?_|refine zU.p c3 rfl ?_|refine zU.l c3 rfl ?_|refine zQ.pure c3 rfl ?_|refine zQ.lent c3 rfl ?_|refine zU.o c3 ?_|refine zV.p c3 rfl ?_|refine zV.l c3 rfl ?_|refine zV.o c3 ?_|refine zU.p c4 rfl ?_|refine zU.l c4 rfl ?_|refine zQ.pure c4 rfl ?_|refine zQ.lent c4 rfl ?_|refine zU.o c4 ?_|refine zV.p c4 rfl ?_|refine zV.l c4 rfl ?_|refine zV.o c4 ?_
  all_goals apply hr
  all_goals simp[Tryz.f6]
end Go.Proofs.YtpihbhacmokekaaGreatDoor
namespace Go.Proofs.YtpihbhacmokekaaGreatDoor
set_option linter.unusedSimpArgs false
set_option linter.unusedVariables false
open Go Go.Av
attribute [local irreducible] Go.Av.yJ Go.Av.zU Go.Av.yC Go.Av.zQ Go.Av.yG Go.Av.zV Go.Av.Con
theorem tot_le (f:Mb->Int)(p q:Mb->Bool):∀l:List Mb,(∀m∈l,0<=f m)->(∀m∈l,m.r=1->p m=true->q m=true)->tot f p l<=tot f q l
 |[],_,_=>by simp[tot]
 |m::l,h,hpq=>by
  have h1:=tot_le f p q l (fun x hx=>h x (List.mem_cons_of_mem _ hx)) (fun x hx=>hpq x (List.mem_cons_of_mem _ hx))
  have h2:=h m (by simp)
  have h3:=hpq m (by simp)
  simp only[tot]
  by_cases a:m.r=1/\p m=true
  ·rw[if_pos a,if_pos ⟨a.1,h3 a.1 a.2⟩];omega
  ·rw[if_neg a];split <;> omega
theorem num_le (p q:Nat->Bool):∀k,(∀g,p g=true->q g=true)->num p k<=num q k
 |0,_=>by simp[num]
 |k+1,h=>by
  have h1:=num_le p q k h
  have h2:=h k
  simp only[num]
  cases hp:p k
  ·simp only[Bool.false_eq_true,if_false];split <;> omega
  ·rw[h2 hp];omega
theorem isQ_mono {c:Cf}{a b:List Int}(h:∀m∈c.ms,m.r=1->m.i∈a->m.i∈b)(ha:isQ c a=true):isQ c b=true:=by
 by_cases hc:check c=0
 rotate_left
 ·unfold isQ at ha;rw[if_neg hc] at ha;simp at ha
 obtain⟨-,hf,-⟩:=check_ok hc
 have ho:=fine_ok _ _ hf
 unfold isQ at ha ⊢
 rw[if_pos hc] at ha ⊢
 unfold enough at ha ⊢
 have hd:∀m∈c.ms,m.r=1->inS a m=true->inS b m=true:=fun m hm h1 h2=>by
  simp only[inS,decide_eq_true_eq] at h2 ⊢;exact h m hm h1 h2
 by_cases k1:c.kind=1
 ·rw[if_pos k1,decide_eq_true_eq] at ha ⊢
  have:=tot_le one (inS a) (inS b) c.ms (fun m _=>by simp[one]) hd
  omega
 rw[if_neg k1] at ha ⊢
 by_cases k2:c.kind=2
 ·rw[if_pos k2,decide_eq_true_eq] at ha ⊢
  have:=tot_le Mb.w (inS a) (inS b) c.ms (fun m hm=>(okL_w ho m hm).1) hd
  omega
 rw[if_neg k2,decide_eq_true_eq] at ha ⊢
 have:=num_le (wonG a c.ms) (wonG b c.ms) 8 (fun g h1=>by
  simp only[wonG,decide_eq_true_eq] at h1 ⊢
  have:=tot_le Mb.w (inG (inS a) g) (inG (inS b) g) c.ms (fun m hm=>(okL_w ho m hm).1) (fun m hm e1 e2=>by
   simp only[inG,Bool.and_eq_true] at e2 ⊢
   exact⟨e2.1,hd m hm e1 e2.2⟩)
  omega)
 omega
end Go.Proofs.YtpihbhacmokekaaGreatDoor
