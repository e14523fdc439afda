/- Texts that the proof needs: ND. -/
import Derived.Test.YtpihbhacmokekaaGreatDoorP24ReconfTakes
namespace Go.Proofs.YtpihbhacmokekaaGreatDoor
set_option linter.unusedSimpArgs false
set_option linter.unusedVariables false
open Go Go.Av
attribute [local irreducible] Go.Av.yJ Go.Av.zU Go.Av.yC Go.Av.zQ Go.Av.yG Go.Av.zV Go.Av.Con
def hdo (l:List Zn):Bool:=decide (1<=l.length/\l.length<=60) && match l[0]? with
 |some z=>decide (z.p=[47]) && decide (z.o=0)
 |none=>false
def allr (f:Nat->Bool)(n:Nat):Bool:=(List.range n).all f
theorem allr_succ (f:Nat->Bool)(n:Nat):allr f (n+1)=(allr f n && f n):=by
 unfold allr;rw[List.range_succ,List.all_append];simp
theorem allr_iff {f:Nat->Bool}{n:Nat}:allr f n=true ↔ ∀i,i<n->f i=true:=by
 unfold allr;rw[List.all_eq_true];simp
theorem allr_bad {f:Nat->Bool}{n k:Nat}(h:k<n)(hf:f k=false):allr f n=false:=by
 cases h':allr f n with
 |false=>rfl
 |true=>have:=allr_iff.1 h' k h;rw[hf] at this;simp at this
def okA (l:List Zn)(i:Nat):Bool:=match l[i]? with
 |some z=>rgz z && (match i with
  |0=>true
  |j+1=>match l[j]? with
   |some y=>lss y.p z.p && hld (l.take (j+1)) z
   |none=>false)
 |none=>false
def okR (l:List Zn)(i:Nat):Bool:=match l[i]? with
 |some z=>rgz z && (match i with
  |0=>true
  |j+1=>match l[j]? with
   |some y=>lss y.p z.p && ((fnd l (par z.p).1).2 && decide ((fnd l (par z.p).1).1.o=0))
   |none=>false)
 |none=>false
set_option maxHeartbeats 1000000 in
theorem tree07_con (l:List Zn)(hz:∀z∈l,long z):zE Tryz.prog 46 [.p (.sl 5 (zns l))] (.p (B (hdo l && allr (okR l) l.length))):=by
 refine zE.len ⟨Tryz.f46,Tryz.func46,rfl,rfl⟩ 0 _ _ rfl fun hlen=>?_
 simp only[zns_len] at hlen
 by_cases a1:l.length<1
 ·have a1':(l.length:Int)<1:=by omega
  rw[show hdo l=false by simp[hdo];omega,Bool.false_and]
  refine zG Tryz.tab Tryz.mixed Tryz.func46 rfl rfl Tryz.ntmps46 (by simp) (by simp) fun Q hr hn=>?_
  repeat' first|((first|refine O _ ?_|refine O _ _ ?_|(clear O;refine O _ ?_));clear O)|(refine zJ fun K O=>?_)|((first|refine zH ?_|refine zN rfl (by kernel_rfl) ?_|refine zM ?_|refine zK (by kernel_rfl) ?_);simp only[vS,vR,strip])|((first|refine wIs fun K O=>?_|refine wOs fun K O=>?_|refine wQs fun K O=>?_|refine zW ?_|refine zX ?_|refine zY ?_|refine zL ?_);simp[a1,a1'])|(refine wIn ?_;refine And.intro (by kernel_rfl) ?_;try simp only[zZ])|refine zR ?_|refine zT ?_|((first|refine zI ?_|refine zO ?_|refine zP ?_);try simp)|((first|refine zS ?_|refine wOn ?_|refine wQn ?_);try simp only[zZ])
  all_goals apply hr
  all_goals simp[Tryz.f46]
 have a1':¬ (l.length:Int)<1:=by omega
 by_cases a2:60<l.length
 ·have a2':(60:Int)<l.length:=by omega
  rw[show hdo l=false by simp[hdo];omega,Bool.false_and]
  refine zG Tryz.tab Tryz.mixed Tryz.func46 rfl rfl Tryz.ntmps46 (by simp) (by simp) fun Q hr hn=>?_
  repeat' first|((first|refine O _ ?_|refine O _ _ ?_|(clear O;refine O _ ?_));clear O)|(refine zJ fun K O=>?_)|((first|refine zH ?_|refine zN rfl (by kernel_rfl) ?_|refine zM ?_|refine zK (by kernel_rfl) ?_);simp only[vS,vR,strip])|((first|refine wIs fun K O=>?_|refine wOs fun K O=>?_|refine wQs fun K O=>?_|refine zW ?_|refine zX ?_|refine zY ?_|refine zL ?_);simp[a1,a1',a2,a2'])|(refine wIn ?_;refine And.intro (by kernel_rfl) ?_;try simp only[zZ])|refine zR ?_|refine zT ?_|((first|refine zI ?_|refine zO ?_|refine zP ?_);try simp)|((first|refine zS ?_|refine wOn ?_|refine wQn ?_);try simp only[zZ])
  all_goals apply hr
  all_goals simp[Tryz.f46]
 have a2':¬ (60:Int)<l.length:=by omega
 have h0:0<l.length:=by omega
 have he0:=zns_get h0
 have hh:hdo l=(decide (l[0].p=[47]) && decide (l[0].o=0)):=by
  rw[hdo,show decide (1<=l.length/\l.length<=60)=true by simp;omega,Bool.true_and,List.getElem?_eq_getElem h0]
 rw[hh]
 by_cases a3:l[0].p=[47]
 rotate_left
 ·rw[show decide (l[0].p=[47])=false from decide_eq_false a3,Bool.false_and,Bool.false_and]
  refine zG Tryz.tab Tryz.mixed Tryz.func46 rfl rfl Tryz.ntmps46 (by simp) (by simp) fun Q hr hn=>?_
  repeat' first|((first|refine O _ ?_|refine O _ _ ?_|(clear O;refine O _ ?_));clear O)|(refine zJ fun K O=>?_)|((first|refine zH ?_|refine zN rfl (by kernel_rfl) ?_|refine zM ?_|refine zK (by kernel_rfl) ?_);simp only[vS,vR,strip])|((first|refine wIs fun K O=>?_|refine wOs fun K O=>?_|refine wQs fun K O=>?_|refine zW ?_|refine zX ?_|refine zY ?_|refine zL ?_);simp[a1,a1',a2,a2',h0,he0,a3])|(refine wIn ?_;refine And.intro (by kernel_rfl) ?_;try simp only[zZ])|refine zR ?_|refine zT ?_|((first|refine zI ?_|refine zO ?_|refine zP ?_);try simp)|((first|refine zS ?_|refine wOn ?_|refine wQn ?_);try simp only[zZ])
  all_goals apply hr
  all_goals simp[Tryz.f46]
 by_cases a4:l[0].o=0
 rotate_left
 ·rw[show decide (l[0].o=0)=false from decide_eq_false a4,Bool.and_false,Bool.false_and]
  refine zG Tryz.tab Tryz.mixed Tryz.func46 rfl rfl Tryz.ntmps46 (by simp) (by simp) fun Q hr hn=>?_
  repeat' first|((first|refine O _ ?_|refine O _ _ ?_|(clear O;refine O _ ?_));clear O)|(refine zJ fun K O=>?_)|((first|refine zH ?_|refine zN rfl (by kernel_rfl) ?_|refine zM ?_|refine zK (by kernel_rfl) ?_);simp only[vS,vR,strip])|((first|refine wIs fun K O=>?_|refine wOs fun K O=>?_|refine wQs fun K O=>?_|refine zW ?_|refine zX ?_|refine zY ?_|refine zL ?_);simp[a1,a1',a2,a2',h0,he0,a3,a4])|(refine wIn ?_;refine And.intro (by kernel_rfl) ?_;try simp only[zZ])|refine zR ?_|refine zT ?_|((first|refine zI ?_|refine zO ?_|refine zP ?_);try simp)|((first|refine zS ?_|refine wOn ?_|refine wQn ?_);try simp only[zZ])
  all_goals apply hr
  all_goals simp[Tryz.f46]
 rw[show decide (l[0].p=[47])=true from decide_eq_true a3,show decide (l[0].o=0)=true from decide_eq_true a4,Bool.true_and,Bool.true_and]
 refine zG Tryz.tab Tryz.mixed Tryz.func46 rfl rfl Tryz.ntmps46 (by simp) (by simp) fun Q hr hn=>?_
 repeat' first|((first|refine O _ ?_|refine O _ _ ?_|(clear O;refine O _ ?_));clear O)|(refine zJ fun K O=>?_)|((first|refine zH ?_|refine zN rfl (by kernel_rfl) ?_|refine zM ?_|refine zK (by kernel_rfl) ?_);simp only[vS,vR,strip])|((first|refine wIs fun K O=>?_|refine wOs fun K O=>?_|refine wQs fun K O=>?_|refine zW ?_|refine zX ?_|refine zY ?_|refine zL ?_);simp[a1,a1',a2,a2',h0,he0,a3,a4])|(refine wIn ?_;refine And.intro (by kernel_rfl) ?_;try simp only[zZ])|refine zR ?_|refine zT ?_|((first|refine zI ?_|refine zO ?_|refine zP ?_);try simp)|((first|refine zS ?_|refine wOn ?_|refine wQn ?_);try simp only[zZ])
 refine zC (fun N st=>∃k,k+N=l.length/\allr (okR l) k=true/\st.s 0=.p (.sl 5 (zns l))/\st.s 31=.p (.sl 5 (zns l))/\st.s 32=.p (I l.length)/\st.s 33=.p (I k)) l.length ⟨0,by simp[allr]⟩ fun K N st hL ⟨k,hk,ha,g0,g27,g28,g29⟩=>?_
 by_cases hlt:k<l.length
 rotate_left
 ·obtain rfl:k=l.length:=by omega
  rw[ha] at hr
  repeat' first|((first|refine O _ ?_|refine O _ _ ?_|(clear O;refine O _ ?_));clear O)|(refine zJ fun K O=>?_)|((first|refine zH ?_|refine zN rfl (by kernel_rfl) ?_|refine zM ?_|refine zK (by kernel_rfl) ?_);simp only[vS,vR,strip])|((first|refine wIs fun K O=>?_|refine wOs fun K O=>?_|refine wQs fun K O=>?_|refine zW ?_|refine zX ?_|refine zY ?_|refine zL ?_);simp[g0,g27,g28,g29])|(refine wIn ?_;refine And.intro (by kernel_rfl) ?_;try simp only[zZ])|refine zR ?_|refine zT ?_|((first|refine zI ?_|refine zO ?_|refine zP ?_);try simp)|((first|refine zS ?_|refine wOn ?_|refine wQn ?_);try simp only[zZ])
  all_goals apply hr
  all_goals simp[Tryz.f46]
 have hw:=yU k _ hlt hlen
 have he:=zns_get hlt
 have hzk:=hz l[k] (List.getElem_mem hlt)
 have hx:l[k]?=some l[k]:=List.getElem?_eq_getElem hlt
 have hbad:=fun h=>allr_bad (f:=okR l) hlt h
 have hgood:okR l k=true->allr (okR l) (k+1)=true:=fun h=>by rw[allr_succ,ha,h];rfl
 have cr:=right07_con l[k] hzk
 simp only[Zn.c] at cr
 cases hrg:rgz l[k]
 ·rw[hrg] at cr
  rw[hbad (by simp only[okR,hx,hrg];rfl)] at hr
  repeat' first|((first|refine O _ ?_|refine O _ _ ?_|(clear O;refine O _ ?_));clear O)|(refine zJ fun K O=>?_)|((first|refine zH ?_|refine zN rfl (by kernel_rfl) ?_|refine zM ?_|refine zK (by kernel_rfl) ?_);simp only[vS,vR,strip])|((first|refine wIs fun K O=>?_|refine wOs fun K O=>?_|refine wQs fun K O=>?_|refine zW ?_|refine zX ?_|refine zY ?_|refine zL ?_);simp[g0,g27,g28,g29,hlt,hw,he])|(refine wIn ?_;refine And.intro (by kernel_rfl) ?_;try simp only[zZ])|refine zR ?_|refine zT ?_|((first|refine zI ?_|refine zO ?_|refine zP ?_);try simp)|((first|refine zS ?_|refine wOn ?_|refine wQn ?_);try simp only[zZ])|refine zU.p cr rfl ?_|refine zU.l cr rfl ?_|refine zQ.pure cr rfl ?_|refine zQ.lent cr rfl ?_|refine zU.o cr ?_|refine zV.p cr rfl ?_|refine zV.l cr rfl ?_|refine zV.o cr ?_
  all_goals apply hr
  all_goals simp[Tryz.f46]
 rw[hrg] at cr
 cases k with
 |zero =>
  have hg:=hgood (by simp only[okR,hx,hrg];rfl)
  repeat' first|((first|refine O _ ?_|refine O _ _ ?_|(clear O;refine O _ ?_));clear O)|(refine zJ fun K O=>?_)|((first|refine zH ?_|refine zN rfl (by kernel_rfl) ?_|refine zM ?_|refine zK (by kernel_rfl) ?_);simp only[vS,vR,strip])|((first|refine wIs fun K O=>?_|refine wOs fun K O=>?_|refine wQs fun K O=>?_|refine zW ?_|refine zX ?_|refine zY ?_|refine zL ?_);simp[g0,g27,g28,g29,hlt,hw,he])|(refine wIn ?_;refine And.intro (by kernel_rfl) ?_;try simp only[zZ])|refine zR ?_|refine zT ?_|((first|refine zI ?_|refine zO ?_|refine zP ?_);try simp)|((first|refine zS ?_|refine wOn ?_|refine wQn ?_);try simp only[zZ])|refine zU.p cr rfl ?_|refine zU.l cr rfl ?_|refine zQ.pure cr rfl ?_|refine zQ.lent cr rfl ?_|refine zU.o cr ?_|refine zV.p cr rfl ?_|refine zV.l cr rfl ?_|refine zV.o cr ?_
  refine hL _ (N-1) (by omega) ⟨1,by omega,hg,?_⟩
  simp[g0,g27,g28,g29]
  try decide
 |succ j =>
  have hj:j<l.length:=by omega
  have hxj:l[j]?=some l[j]:=List.getElem?_eq_getElem hj
  have hej:=zns_get hj
  have h0j:(0:Int)<(j:Int)+1:=by omega
  have h0k:(0:Int)<=(j:Int)+1:=by omega
  have hwj:IntKind.i64.wrap (j:Int)=(j:Int):=by rw[zF] <;> omega
  have hle:j+1<=l.length:=by omega
  have ht:=zns_take l (j+1)
  have hne:¬ (j:Int)+1=0:=by omega
  have hltI:(j:Int)+1<l.length:=by omega
  cases hls:lss l[j].p l[j+1].p
  ·have hls':Op.bytesLess l[j].p l[j+1].p=false:=hls
   rw[hbad (by simp only[okR,hx,hrg,hxj,hls];rfl)] at hr
   repeat' first|((first|refine O _ ?_|refine O _ _ ?_|(clear O;refine O _ ?_));clear O)|(refine zJ fun K O=>?_)|((first|refine zH ?_|refine zN rfl (by kernel_rfl) ?_|refine zM ?_|refine zK (by kernel_rfl) ?_);simp only[vS,vR,strip])|((first|refine wIs fun K O=>?_|refine wOs fun K O=>?_|refine wQs fun K O=>?_|refine zW ?_|refine zX ?_|refine zY ?_|refine zL ?_);simp[g0,g27,g28,g29,hlt,hltI,hw,he,hj,hej,h0j,h0k,hwj,hle,ht,hne,hls'])|(refine wIn ?_;refine And.intro (by kernel_rfl) ?_;try simp only[zZ])|refine zR ?_|refine zT ?_|((first|refine zI ?_|refine zO ?_|refine zP ?_);try simp)|((first|refine zS ?_|refine wOn ?_|refine wQn ?_);try simp only[zZ])|refine zU.p cr rfl ?_|refine zU.l cr rfl ?_|refine zQ.pure cr rfl ?_|refine zQ.lent cr rfl ?_|refine zU.o cr ?_|refine zV.p cr rfl ?_|refine zV.l cr rfl ?_|refine zV.o cr ?_
   all_goals apply hr
   all_goals simp[Tryz.f46]
  have hls':Op.bytesLess l[j].p l[j+1].p=true:=hls
  have ch:=parent03_con l[j+1].p hzk.1
  rw[parV_par] at ch
  have cf:=find07_con l (par l[j+1].p).1
  simp only[Zn.c] at cf
  have hok:okR l (j+1)=((fnd l (par l[j+1].p).1).2 && decide ((fnd l (par l[j+1].p).1).1.o=0)):=by
   simp only[okR,hx,hrg,hxj,hls];rfl
  generalize par l[j+1].p=q at ch cf hok
  obtain⟨q,b⟩:=q
  dsimp only at ch cf hok
  generalize fnd l q=r at cf hok
  obtain⟨r,d⟩:=r
  dsimp only at cf hok
  cases d
  ·rw[hbad (by rw[hok];rfl)] at hr
   repeat' first|((first|refine O _ ?_|refine O _ _ ?_|(clear O;refine O _ ?_));clear O)|(refine zJ fun K O=>?_)|((first|refine zH ?_|refine zN rfl (by kernel_rfl) ?_|refine zM ?_|refine zK (by kernel_rfl) ?_);simp only[vS,vR,strip])|((first|refine wIs fun K O=>?_|refine wOs fun K O=>?_|refine wQs fun K O=>?_|refine zW ?_|refine zX ?_|refine zY ?_|refine zL ?_);simp[g0,g27,g28,g29,hlt,hltI,hw,he,hj,hej,h0j,h0k,hwj,hle,ht,hne,hls'])|(refine wIn ?_;refine And.intro (by kernel_rfl) ?_;try simp only[zZ])|refine zR ?_|refine zT ?_|((first|refine zI ?_|refine zO ?_|refine zP ?_);try simp)|((first|refine zS ?_|refine wOn ?_|refine wQn ?_);try simp only[zZ])|refine zU.p cr rfl ?_|refine zU.l cr rfl ?_|refine zQ.pure cr rfl ?_|refine zQ.lent cr rfl ?_|refine zU.o cr ?_|refine zV.p cr rfl ?_|refine zV.l cr rfl ?_|refine zV.o cr ?_|refine zU.p ch rfl ?_|refine zU.l ch rfl ?_|refine zQ.pure ch rfl ?_|refine zQ.lent ch rfl ?_|refine zU.o ch ?_|refine zV.p ch rfl ?_|refine zV.l ch rfl ?_|refine zV.o ch ?_|refine zU.p cf rfl ?_|refine zU.l cf rfl ?_|refine zQ.pure cf rfl ?_|refine zQ.lent cf rfl ?_|refine zU.o cf ?_|refine zV.p cf rfl ?_|refine zV.l cf rfl ?_|refine zV.o cf ?_
   all_goals apply hr
   all_goals simp[Tryz.f46]
  by_cases ho:r.o=0
  ·have hg:=hgood (by rw[hok];simp[ho])
   repeat' first|((first|refine O _ ?_|refine O _ _ ?_|(clear O;refine O _ ?_));clear O)|(refine zJ fun K O=>?_)|((first|refine zH ?_|refine zN rfl (by kernel_rfl) ?_|refine zM ?_|refine zK (by kernel_rfl) ?_);simp only[vS,vR,strip])|((first|refine wIs fun K O=>?_|refine wOs fun K O=>?_|refine wQs fun K O=>?_|refine zW ?_|refine zX ?_|refine zY ?_|refine zL ?_);simp[g0,g27,g28,g29,hlt,hltI,hw,he,hj,hej,h0j,h0k,hwj,hle,ht,hne,hls',ho])|(refine wIn ?_;refine And.intro (by kernel_rfl) ?_;try simp only[zZ])|refine zR ?_|refine zT ?_|((first|refine zI ?_|refine zO ?_|refine zP ?_);try simp)|((first|refine zS ?_|refine wOn ?_|refine wQn ?_);try simp only[zZ])|refine zU.p cr rfl ?_|refine zU.l cr rfl ?_|refine zQ.pure cr rfl ?_|refine zQ.lent cr rfl ?_|refine zU.o cr ?_|refine zV.p cr rfl ?_|refine zV.l cr rfl ?_|refine zV.o cr ?_|refine zU.p ch rfl ?_|refine zU.l ch rfl ?_|refine zQ.pure ch rfl ?_|refine zQ.lent ch rfl ?_|refine zU.o ch ?_|refine zV.p ch rfl ?_|refine zV.l ch rfl ?_|refine zV.o ch ?_|refine zU.p cf rfl ?_|refine zU.l cf rfl ?_|refine zQ.pure cf rfl ?_|refine zQ.lent cf rfl ?_|refine zU.o cf ?_|refine zV.p cf rfl ?_|refine zV.l cf rfl ?_|refine zV.o cf ?_
   refine hL _ (N-1) (by omega) ⟨j+1+1,by omega,hg,?_⟩
   have hw':IntKind.i64.wrap ((j:Int)+1+1)=(j:Int)+1+1:=by rw[zF] <;> omega
   simp[g0,g27,g28,g29,hw']
  ·rw[hbad (by rw[hok];simp[ho])] at hr
   repeat' first|((first|refine O _ ?_|refine O _ _ ?_|(clear O;refine O _ ?_));clear O)|(refine zJ fun K O=>?_)|((first|refine zH ?_|refine zN rfl (by kernel_rfl) ?_|refine zM ?_|refine zK (by kernel_rfl) ?_);simp only[vS,vR,strip])|((first|refine wIs fun K O=>?_|refine wOs fun K O=>?_|refine wQs fun K O=>?_|refine zW ?_|refine zX ?_|refine zY ?_|refine zL ?_);simp[g0,g27,g28,g29,hlt,hltI,hw,he,hj,hej,h0j,h0k,hwj,hle,ht,hne,hls',ho])|(refine wIn ?_;refine And.intro (by kernel_rfl) ?_;try simp only[zZ])|refine zR ?_|refine zT ?_|((first|refine zI ?_|refine zO ?_|refine zP ?_);try simp)|((first|refine zS ?_|refine wOn ?_|refine wQn ?_);try simp only[zZ])|refine zU.p cr rfl ?_|refine zU.l cr rfl ?_|refine zQ.pure cr rfl ?_|refine zQ.lent cr rfl ?_|refine zU.o cr ?_|refine zV.p cr rfl ?_|refine zV.l cr rfl ?_|refine zV.o cr ?_|refine zU.p ch rfl ?_|refine zU.l ch rfl ?_|refine zQ.pure ch rfl ?_|refine zQ.lent ch rfl ?_|refine zU.o ch ?_|refine zV.p ch rfl ?_|refine zV.l ch rfl ?_|refine zV.o ch ?_|refine zU.p cf rfl ?_|refine zU.l cf rfl ?_|refine zQ.pure cf rfl ?_|refine zQ.lent cf rfl ?_|refine zU.o cf ?_|refine zV.p cf rfl ?_|refine zV.l cf rfl ?_|refine zV.o cf ?_
   all_goals apply hr
   all_goals simp[Tryz.f46]
end Go.Proofs.YtpihbhacmokekaaGreatDoor
