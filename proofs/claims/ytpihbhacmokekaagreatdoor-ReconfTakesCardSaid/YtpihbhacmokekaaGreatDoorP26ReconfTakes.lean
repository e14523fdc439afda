/- Texts that the proof needs: PE PF PG PH NE NF QLib QA XG XH XI. -/
import Derived.Test.YtpihbhacmokekaaGreatDoorP20ReconfTakes
import Derived.Test.YtpihbhacmokekaaGreatDoorP22ReconfTakes
import Derived.Test.YtpihbhacmokekaaGreatDoorP25ReconfTakes
import Derived.Test.YtpihbhacmokekaaGreatDoorP21ReconfTakes
import Derived.Test.YtpihbhacmokekaaGreatDoorP19ReconfTakes
import Derived.Test.YtpihbhacmokekaaGreatDoorP14ReconfTakes
import Derived.Test.YtpihbhacmokekaaGreatDoorP18ReconfTakes
import Derived.WalkKit
import Derived.Test.YtpihbhacmokekaaGreatDoorP17ReconfTakes
namespace Go.Proofs.YtpihbhacmokekaaGreatDoor
set_option linter.unusedSimpArgs false
set_option linter.unusedVariables false
open Go Go.Av
attribute [local irreducible] Go.Av.yJ Go.Av.zU Go.Av.yC Go.Av.zQ Go.Av.yG Go.Av.zV Go.Av.Con
end Go.Proofs.YtpihbhacmokekaaGreatDoor
namespace Go.Proofs.YtpihbhacmokekaaGreatDoor
set_option linter.unusedSimpArgs false
set_option linter.unusedVariables false
open Go Go.Av
def tre (l:List Zn):Bool:=hdo l && allr (okR l) l.length
end Go.Proofs.YtpihbhacmokekaaGreatDoor
namespace Go.Proofs.YtpihbhacmokekaaGreatDoor
set_option linter.unusedSimpArgs false
set_option linter.unusedVariables false
open Go Go.Av
attribute [local irreducible] Go.Av.yJ Go.Av.zU Go.Av.yC Go.Av.zQ Go.Av.yG Go.Av.zV Go.Av.Con
theorem treeR_con (l:List Zn)(hz:∀z∈l,long z):zE Tryz.prog 46 [.p (.sl 5 (zns l))] (.p (B (tre l))):=tree07_con l hz
theorem Zn.ofL {ps:List PV}(h:ShL [.str,.str,.int .i64,.int .i64,.int .i64] ps):∃a:{z:Zn // long z},ps=a.1.c:=by
 obtain⟨_,_,rfl,h0,h⟩:=h.cons
 obtain⟨_,_,rfl,h1,h⟩:=h.cons
 obtain⟨_,_,rfl,h2,h⟩:=h.cons
 obtain⟨_,_,rfl,h3,h⟩:=h.cons
 obtain⟨_,_,rfl,h4,h⟩:=h.cons
 obtain rfl:=h.nil
 obtain⟨s,rfl,hs⟩:=h0.strI
 obtain⟨d,rfl,hd⟩:=h1.strI
 obtain⟨v,rfl,-⟩:=h2.intI
 obtain⟨k,rfl,-⟩:=h3.intI
 obtain⟨o,rfl,-⟩:=h4.intI
 have hl:∀s:ByteArray,s.size<=maxLen->s.data.toList.length<=9223372036854775807:=fun s hs=>by
  have h1:s.data.toList.length=s.size:=Array.length_toList
  have h2:maxLen=9223372036854775807:=rfl
  omega
 refine⟨⟨⟨s.data.toList,d.data.toList,v,k,o⟩,hl s hs,hl d hd⟩,?_⟩
 obtain⟨a,ha⟩:=bs_all s
 obtain⟨b,hb⟩:=bs_all d
 subst ha;subst hb
 simp[Zn.c]
abbrev RCon (g:FuncId)(args:List V)(e c:Nat)(l:List (List PV)):Prop:=Con Tryz.prog g args [] (.ret (.row 2048) [.row e c l] [])
theorem take_snoc {α:Type}(l:List α)(k:Nat)(h:k<l.length):l.take (k+1)=l.take k++[l[k]]:=List.take_succ_eq_append_getElem h
def idx (n:Int):List Int->Nat->Int
 |[],_=>-1
 |a::l,k=>if n=a then k else idx n l (k+1)
theorem idx_mem (n:Int):∀ (l:List Int)(k:Nat),decide (0<=idx n l k)=decide (n∈l)
 |[],k=>by simp[idx]
 |a::l,k=>by
  by_cases h:n=a
  ·subst h;simp[idx]
  ·simp[idx,h,idx_mem n l (k+1)]
def ints (l:List Int):List (List PV):=l.map fun n=>[I n]
@[simp] theorem ints_len (l:List Int):(ints l).length=l.length:=by simp[ints]
@[simp] theorem ints_getElem (l:List Int)(k:Nat)(h:k<(ints l).length):(ints l)[k]=[I (l[k]'(by simpa using h))]:=by simp[ints]
theorem ints_get {l:List Int}{k:Nat}(h:k<l.length):(ints l)[k]?=some [I l[k]]:=by simp[ints,h]
theorem index_con (l:List Int)(n:Int):zE Tryz.prog 83 [.p (.sl 1 (ints l)),.p (I n)] (.p (I (idx n l 0))):=by
 refine zE.len ⟨Tryz.f83,Tryz.func83,rfl,rfl⟩ 0 _ _ rfl fun hlen=>?_
 simp only[ints_len] at hlen
 refine zG Tryz.tab Tryz.mixed Tryz.func83 rfl rfl Tryz.ntmps83 (by simp) (by simp) fun Q hr hn=>?_
 repeat' first|((first|refine O _ ?_|refine O _ _ ?_|(clear O;refine O _ ?_));clear O)|(refine zJ fun K O=>?_)|((first|refine zH ?_|refine zN rfl (by kernel_rfl) ?_|refine zM ?_|refine zK (by kernel_rfl) ?_);simp only[vS,vR,strip])|((first|refine wIs fun K O=>?_|refine wOs fun K O=>?_|refine wQs fun K O=>?_|refine zW ?_|refine zX ?_|refine zY ?_|refine zL ?_);simp)|(refine wIn ?_;refine And.intro (by kernel_rfl) ?_;try simp only[zZ])|refine zR ?_|refine zT ?_|((first|refine zI ?_|refine zO ?_|refine zP ?_);try simp)|((first|refine zS ?_|refine wOn ?_|refine wQn ?_);try simp only[zZ])
 refine zC (fun N st=>∃k,k+N=l.length/\st.s 0=.p (.sl 1 (ints l))/\st.s 1=.p (I n)/\st.s 7=.p (I l.length)/\st.s 8=.p (I k)/\idx n (l.drop k) k=idx n l 0) l.length ⟨0,by simp⟩ fun K N st hL ⟨k,hk,h0,h1,h7,h8,hi⟩=>?_
 by_cases hlt:k<l.length
 ·have hw:=yU k _ hlt hlen
  have he:=ints_get hlt
  rw[List.drop_eq_getElem_cons hlt,idx] at hi
  repeat' first|((first|refine O _ ?_|refine O _ _ ?_|(clear O;refine O _ ?_));clear O)|(refine zJ fun K O=>?_)|((first|refine zH ?_|refine zN rfl (by kernel_rfl) ?_|refine zM ?_|refine zK (by kernel_rfl) ?_);simp only[vS,vR,strip])|((first|refine wIs fun K O=>?_|refine wOs fun K O=>?_|refine wQs fun K O=>?_|refine zW ?_|refine zX ?_|refine zY ?_|refine zL ?_);simp[h0,h1,h7,h8,hlt,hw,he])|(refine wIn ?_;refine And.intro (by kernel_rfl) ?_;try simp only[zZ])|refine zR ?_|refine zT ?_|((first|refine zI ?_|refine zO ?_|refine zP ?_);try simp)|((first|refine zS ?_|refine wOn ?_|refine wQn ?_);try simp only[zZ])|(refine And.intro (fun hc=>?_) (fun hc=>?_))
  ·apply hr
   rw[if_pos hc] at hi
   simp[Tryz.f83,hi]
  ·rw[if_neg hc] at hi
   refine hL _ (N-1) (by omega) ⟨k+1,by omega,?_⟩
   simp[h0,h1,h7,hw,hi]
 ·have hd:l.drop k=[]:=List.drop_of_length_le (by omega)
  rw[hd] at hi
  repeat' first|((first|refine O _ ?_|refine O _ _ ?_|(clear O;refine O _ ?_));clear O)|(refine zJ fun K O=>?_)|((first|refine zH ?_|refine zN rfl (by kernel_rfl) ?_|refine zM ?_|refine zK (by kernel_rfl) ?_);simp only[vS,vR,strip])|((first|refine wIs fun K O=>?_|refine wOs fun K O=>?_|refine wQs fun K O=>?_|refine zW ?_|refine zX ?_|refine zY ?_|refine zL ?_);simp[h0,h1,h7,h8,hlt])|(refine wIn ?_;refine And.intro (by kernel_rfl) ?_;try simp only[zZ])|refine zR ?_|refine zT ?_|((first|refine zI ?_|refine zO ?_|refine zP ?_);try simp)|((first|refine zS ?_|refine wOn ?_|refine wQn ?_);try simp only[zZ])
  apply hr
  simp[Tryz.f83,<- hi,idx]
theorem wO (l:List Int)(n:Int):zE Tryz.prog 54 [.p (.sl 1 (ints l)),.p (I n)] (.p (B (decide (n∈l)))):=by
 have h:=index_con l n
 have hz:=idx_mem n l 0
 generalize idx n l 0=z at h hz
 rw[<- hz]
 refine zG Tryz.tab Tryz.mixed Tryz.func54 rfl rfl Tryz.ntmps54 (by simp) (by simp) fun Q hr hn=>?_
 repeat' first|((first|refine O _ ?_|refine O _ _ ?_|(clear O;refine O _ ?_));clear O)|(refine zJ fun K O=>?_)|((first|refine zH ?_|refine zN rfl (by kernel_rfl) ?_|refine zM ?_|refine zK (by kernel_rfl) ?_);simp only[vS,vR,strip])|((first|refine wIs fun K O=>?_|refine wOs fun K O=>?_|refine wQs fun K O=>?_|refine zW ?_|refine zX ?_|refine zY ?_|refine zL ?_);simp)|(refine wIn ?_;refine And.intro (by kernel_rfl) ?_;try simp only[zZ])|refine zR ?_|refine zT ?_|((first|refine zI ?_|refine zO ?_|refine zP ?_);try simp)|((first|refine zS ?_|refine wOn ?_|refine wQn ?_);try simp only[zZ])|refine zU.p h rfl ?_|refine zU.l h rfl ?_|refine zQ.pure h rfl ?_|refine zQ.lent h rfl ?_|refine zU.o h ?_|refine zV.p h rfl ?_|refine zV.l h rfl ?_|refine zV.o h ?_
 apply hr
 simp[Tryz.f54]
theorem has05_con (l:List Int)(n:Int):zE Tryz.prog 44 [.p (.sl 1 (ints l)),.p (I n)] (.p (B (decide (n∈l)))):=by
 refine zE.len ⟨Tryz.f44,Tryz.func44,rfl,rfl⟩ 0 _ _ rfl fun hlen=>?_
 simp only[ints_len] at hlen
 refine zG Tryz.tab Tryz.mixed Tryz.func44 rfl rfl Tryz.ntmps44 (by simp) (by simp) fun Q hr hn=>?_
 repeat' first|((first|refine O _ ?_|refine O _ _ ?_|(clear O;refine O _ ?_));clear O)|(refine zJ fun K O=>?_)|((first|refine zH ?_|refine zN rfl (by kernel_rfl) ?_|refine zM ?_|refine zK (by kernel_rfl) ?_);simp only[vS,vR,strip])|((first|refine wIs fun K O=>?_|refine wOs fun K O=>?_|refine wQs fun K O=>?_|refine zW ?_|refine zX ?_|refine zY ?_|refine zL ?_);simp)|(refine wIn ?_;refine And.intro (by kernel_rfl) ?_;try simp only[zZ])|refine zR ?_|refine zT ?_|((first|refine zI ?_|refine zO ?_|refine zP ?_);try simp)|((first|refine zS ?_|refine wOn ?_|refine wQn ?_);try simp only[zZ])
 refine zC (fun N st=>∃k,k+N=l.length/\st.s 1=.p (I n)/\st.s 7=.p (.sl 1 (ints l))/\st.s 8=.p (I l.length)/\st.s 9=.p (I k)/\(n∈l ↔ n∈l.drop k)) l.length ⟨0,by simp⟩ fun K N st hL ⟨k,hk,h1,h7,h8,h9,hi⟩=>?_
 by_cases hlt:k<l.length
 ·have hw:=yU k _ hlt hlen
  have he:=ints_get hlt
  rw[List.drop_eq_getElem_cons hlt,List.mem_cons] at hi
  repeat' first|((first|refine O _ ?_|refine O _ _ ?_|(clear O;refine O _ ?_));clear O)|(refine zJ fun K O=>?_)|((first|refine zH ?_|refine zN rfl (by kernel_rfl) ?_|refine zM ?_|refine zK (by kernel_rfl) ?_);simp only[vS,vR,strip])|((first|refine wIs fun K O=>?_|refine wOs fun K O=>?_|refine wQs fun K O=>?_|refine zW ?_|refine zX ?_|refine zY ?_|refine zL ?_);simp[h1,h7,h8,h9,hlt,hw,he])|(refine wIn ?_;refine And.intro (by kernel_rfl) ?_;try simp only[zZ])|refine zR ?_|refine zT ?_|((first|refine zI ?_|refine zO ?_|refine zP ?_);try simp)|((first|refine zS ?_|refine wOn ?_|refine wQn ?_);try simp only[zZ])|(refine And.intro (fun hc=>?_) (fun hc=>?_))
  ·apply hr
   simp[Tryz.f44]
   rw[hi];exact .inl hc.symm
  ·refine hL _ (N-1) (by omega) ⟨k+1,by omega,?_⟩
   have hc':¬ n=l[k]:=fun h=>hc h.symm
   simp[h1,h7,h8,hw]
   rw[hi];simp[hc']
 ·have hd:l.drop k=[]:=List.drop_of_length_le (by omega)
  rw[hd] at hi
  repeat' first|((first|refine O _ ?_|refine O _ _ ?_|(clear O;refine O _ ?_));clear O)|(refine zJ fun K O=>?_)|((first|refine zH ?_|refine zN rfl (by kernel_rfl) ?_|refine zM ?_|refine zK (by kernel_rfl) ?_);simp only[vS,vR,strip])|((first|refine wIs fun K O=>?_|refine wOs fun K O=>?_|refine wQs fun K O=>?_|refine zW ?_|refine zX ?_|refine zY ?_|refine zL ?_);simp[h1,h7,h8,h9,hlt])|(refine wIn ?_;refine And.intro (by kernel_rfl) ?_;try simp only[zZ])|refine zR ?_|refine zT ?_|((first|refine zI ?_|refine zO ?_|refine zP ?_);try simp)|((first|refine zS ?_|refine wOn ?_|refine wQn ?_);try simp only[zZ])
  apply hr
  simp[Tryz.f44]
  simpa using hi
structure Mb where
 (i r w g:Int)
 deriving DecidableEq
def Mb.cells (m:Mb):List PV:=[I m.i,I m.r,I m.w,I m.g]
def mbs (l:List Mb):List (List PV):=l.map Mb.cells
@[simp] theorem vW (l:List Mb):(mbs l).length=l.length:=by simp[mbs]
@[simp] theorem mbs_getElem (l:List Mb)(k:Nat)(h:k<(mbs l).length):(mbs l)[k]=[I (l[k]'(by simpa using h)).i,I (l[k]'(by simpa using h)).r,I (l[k]'(by simpa using h)).w,I (l[k]'(by simpa using h)).g]:=by simp[mbs,Mb.cells]
theorem mbs_get {l:List Mb}{k:Nat}(h:k<l.length):(mbs l)[k]?=some [I l[k].i,I l[k].r,I l[k].w,I l[k].g]:=by simp[mbs,h,Mb.cells]
structure Cf where
 (ep n kind:Int)
 ms:List Mb
def Cf.cells (c:Cf):List PV:=[I c.ep,I c.n,I c.kind,.sl 4 (mbs c.ms)]
def okM (m:Mb):Prop:=(0<=m.i/\m.i<=15)/\(m.r=1\/m.r=2)/\(0<=m.w/\m.w<=100)/\(0<=m.g/\m.g<=7)
instance (m:Mb):Decidable (okM m):=by unfold okM;infer_instance
theorem within_con (n l:Int):zE Tryz.prog 90 [.p (I n),.p (I l)] (.p (B (decide (0<=n/\n<=l)))):=by
 by_cases h:0<=n
 ·refine zG Tryz.tab Tryz.mixed Tryz.func90 rfl rfl Tryz.ntmps90 (by simp) (by simp) fun Q hr hn=>?_
  repeat' first|((first|refine O _ ?_|refine O _ _ ?_|(clear O;refine O _ ?_));clear O)|(refine zJ fun K O=>?_)|((first|refine zH ?_|refine zN rfl (by kernel_rfl) ?_|refine zM ?_|refine zK (by kernel_rfl) ?_);simp only[vS,vR,strip])|((first|refine wIs fun K O=>?_|refine wOs fun K O=>?_|refine wQs fun K O=>?_|refine zW ?_|refine zX ?_|refine zY ?_|refine zL ?_);simp[h])|(refine wIn ?_;refine And.intro (by kernel_rfl) ?_;try simp only[zZ])|refine zR ?_|refine zT ?_|((first|refine zI ?_|refine zO ?_|refine zP ?_);try simp)|((first|refine zS ?_|refine wOn ?_|refine wQn ?_);try simp only[zZ])
  all_goals apply hr
  all_goals simp[Tryz.f90,h]
 ·refine zG Tryz.tab Tryz.mixed Tryz.func90 rfl rfl Tryz.ntmps90 (by simp) (by simp) fun Q hr hn=>?_
  repeat' first|((first|refine O _ ?_|refine O _ _ ?_|(clear O;refine O _ ?_));clear O)|(refine zJ fun K O=>?_)|((first|refine zH ?_|refine zN rfl (by kernel_rfl) ?_|refine zM ?_|refine zK (by kernel_rfl) ?_);simp only[vS,vR,strip])|((first|refine wIs fun K O=>?_|refine wOs fun K O=>?_|refine wQs fun K O=>?_|refine zW ?_|refine zX ?_|refine zY ?_|refine zL ?_);simp[h])|(refine wIn ?_;refine And.intro (by kernel_rfl) ?_;try simp only[zZ])|refine zR ?_|refine zT ?_|((first|refine zI ?_|refine zO ?_|refine zP ?_);try simp)|((first|refine zS ?_|refine wOn ?_|refine wQn ?_);try simp only[zZ])
  all_goals apply hr
  all_goals simp[Tryz.f90,h]
theorem rightM_con (m:Mb):zE Tryz.prog 91 [.p (.agg m.cells)] (.p (B (decide (okM m)))):=by
 obtain⟨i,r,w,g⟩:=m
 simp only[Mb.cells,okM]
 have c1:=within_con i 15
 have c2:=within_con w 100
 have c3:=within_con g 7
 by_cases h1:0<=i/\i<=15
 ·rw[decide_eq_true h1] at c1
  by_cases h2:r=1
  ·by_cases h3:0<=w/\w<=100
   ·rw[decide_eq_true h3] at c2
    refine zG Tryz.tab Tryz.mixed Tryz.func91 rfl rfl Tryz.ntmps91 (by simp) (by simp) fun Q hr hn=>?_
    repeat' first|((first|refine O _ ?_|refine O _ _ ?_|(clear O;refine O _ ?_));clear O)|(refine zJ fun K O=>?_)|((first|refine zH ?_|refine zN rfl (by kernel_rfl) ?_|refine zM ?_|refine zK (by kernel_rfl) ?_);simp only[vS,vR,strip])|((first|refine wIs fun K O=>?_|refine wOs fun K O=>?_|refine wQs fun K O=>?_|refine zW ?_|refine zX ?_|refine zY ?_|refine zL ?_);simp[h1,h2,h3])|(refine wIn ?_;refine And.intro (by kernel_rfl) ?_;try simp only[zZ])|refine zR ?_|refine zT ?_|((first|refine zI ?_|refine zO ?_|refine zP ?_);try simp)|((first|refine zS ?_|refine wOn ?_|refine wQn ?_);try simp only[zZ])|refine zU.p c1 rfl ?_|refine zU.l c1 rfl ?_|refine zQ.pure c1 rfl ?_|refine zQ.lent c1 rfl ?_|refine zU.o c1 ?_|refine zV.p c1 rfl ?_|refine zV.l c1 rfl ?_|refine zV.o c1 ?_|refine zU.p c2 rfl ?_|refine zU.l c2 rfl ?_|refine zQ.pure c2 rfl ?_|refine zQ.lent c2 rfl ?_|refine zU.o c2 ?_|refine zV.p c2 rfl ?_|refine zV.l c2 rfl ?_|refine zV.o c2 ?_|refine zU.p c3 rfl ?_|refine zU.l c3 rfl ?_|refine zQ.pure c3 rfl ?_|refine zQ.lent c3 rfl ?_|refine zU.o c3 ?_|refine zV.p c3 rfl ?_|refine zV.l c3 rfl ?_|refine zV.o c3 ?_
    all_goals apply hr
    all_goals simp[Tryz.f91,h1,h2,h3]
   ·rw[decide_eq_false h3] at c2
    refine zG Tryz.tab Tryz.mixed Tryz.func91 rfl rfl Tryz.ntmps91 (by simp) (by simp) fun Q hr hn=>?_
    repeat' first|((first|refine O _ ?_|refine O _ _ ?_|(clear O;refine O _ ?_));clear O)|(refine zJ fun K O=>?_)|((first|refine zH ?_|refine zN rfl (by kernel_rfl) ?_|refine zM ?_|refine zK (by kernel_rfl) ?_);simp only[vS,vR,strip])|((first|refine wIs fun K O=>?_|refine wOs fun K O=>?_|refine wQs fun K O=>?_|refine zW ?_|refine zX ?_|refine zY ?_|refine zL ?_);simp[h1,h2])|(refine wIn ?_;refine And.intro (by kernel_rfl) ?_;try simp only[zZ])|refine zR ?_|refine zT ?_|((first|refine zI ?_|refine zO ?_|refine zP ?_);try simp)|((first|refine zS ?_|refine wOn ?_|refine wQn ?_);try simp only[zZ])|refine zU.p c1 rfl ?_|refine zU.l c1 rfl ?_|refine zQ.pure c1 rfl ?_|refine zQ.lent c1 rfl ?_|refine zU.o c1 ?_|refine zV.p c1 rfl ?_|refine zV.l c1 rfl ?_|refine zV.o c1 ?_|refine zU.p c2 rfl ?_|refine zU.l c2 rfl ?_|refine zQ.pure c2 rfl ?_|refine zQ.lent c2 rfl ?_|refine zU.o c2 ?_|refine zV.p c2 rfl ?_|refine zV.l c2 rfl ?_|refine zV.o c2 ?_
    all_goals apply hr
    all_goals simp[Tryz.f91,h1,h2,h3]
  ·by_cases h2':r=2
   ·by_cases h3:0<=w/\w<=100
    ·rw[decide_eq_true h3] at c2
     refine zG Tryz.tab Tryz.mixed Tryz.func91 rfl rfl Tryz.ntmps91 (by simp) (by simp) fun Q hr hn=>?_
     repeat' first|((first|refine O _ ?_|refine O _ _ ?_|(clear O;refine O _ ?_));clear O)|(refine zJ fun K O=>?_)|((first|refine zH ?_|refine zN rfl (by kernel_rfl) ?_|refine zM ?_|refine zK (by kernel_rfl) ?_);simp only[vS,vR,strip])|((first|refine wIs fun K O=>?_|refine wOs fun K O=>?_|refine wQs fun K O=>?_|refine zW ?_|refine zX ?_|refine zY ?_|refine zL ?_);simp[h1,h2,h2',h3])|(refine wIn ?_;refine And.intro (by kernel_rfl) ?_;try simp only[zZ])|refine zR ?_|refine zT ?_|((first|refine zI ?_|refine zO ?_|refine zP ?_);try simp)|((first|refine zS ?_|refine wOn ?_|refine wQn ?_);try simp only[zZ])|refine zU.p c1 rfl ?_|refine zU.l c1 rfl ?_|refine zQ.pure c1 rfl ?_|refine zQ.lent c1 rfl ?_|refine zU.o c1 ?_|refine zV.p c1 rfl ?_|refine zV.l c1 rfl ?_|refine zV.o c1 ?_|refine zU.p c2 rfl ?_|refine zU.l c2 rfl ?_|refine zQ.pure c2 rfl ?_|refine zQ.lent c2 rfl ?_|refine zU.o c2 ?_|refine zV.p c2 rfl ?_|refine zV.l c2 rfl ?_|refine zV.o c2 ?_|refine zU.p c3 rfl ?_|refine zU.l c3 rfl ?_|refine zQ.pure c3 rfl ?_|refine zQ.lent c3 rfl ?_|refine zU.o c3 ?_|refine zV.p c3 rfl ?_|refine zV.l c3 rfl ?_|refine zV.o c3 ?_
     all_goals apply hr
     all_goals simp[Tryz.f91,h1,h2,h2',h3]
    ·rw[decide_eq_false h3] at c2
     refine zG Tryz.tab Tryz.mixed Tryz.func91 rfl rfl Tryz.ntmps91 (by simp) (by simp) fun Q hr hn=>?_
     repeat' first|((first|refine O _ ?_|refine O _ _ ?_|(clear O;refine O _ ?_));clear O)|(refine zJ fun K O=>?_)|((first|refine zH ?_|refine zN rfl (by kernel_rfl) ?_|refine zM ?_|refine zK (by kernel_rfl) ?_);simp only[vS,vR,strip])|((first|refine wIs fun K O=>?_|refine wOs fun K O=>?_|refine wQs fun K O=>?_|refine zW ?_|refine zX ?_|refine zY ?_|refine zL ?_);simp[h1,h2,h2'])|(refine wIn ?_;refine And.intro (by kernel_rfl) ?_;try simp only[zZ])|refine zR ?_|refine zT ?_|((first|refine zI ?_|refine zO ?_|refine zP ?_);try simp)|((first|refine zS ?_|refine wOn ?_|refine wQn ?_);try simp only[zZ])|refine zU.p c1 rfl ?_|refine zU.l c1 rfl ?_|refine zQ.pure c1 rfl ?_|refine zQ.lent c1 rfl ?_|refine zU.o c1 ?_|refine zV.p c1 rfl ?_|refine zV.l c1 rfl ?_|refine zV.o c1 ?_|refine zU.p c2 rfl ?_|refine zU.l c2 rfl ?_|refine zQ.pure c2 rfl ?_|refine zQ.lent c2 rfl ?_|refine zU.o c2 ?_|refine zV.p c2 rfl ?_|refine zV.l c2 rfl ?_|refine zV.o c2 ?_
     all_goals apply hr
     all_goals simp[Tryz.f91,h1,h2,h2',h3]
   ·refine zG Tryz.tab Tryz.mixed Tryz.func91 rfl rfl Tryz.ntmps91 (by simp) (by simp) fun Q hr hn=>?_
    repeat' first|((first|refine O _ ?_|refine O _ _ ?_|(clear O;refine O _ ?_));clear O)|(refine zJ fun K O=>?_)|((first|refine zH ?_|refine zN rfl (by kernel_rfl) ?_|refine zM ?_|refine zK (by kernel_rfl) ?_);simp only[vS,vR,strip])|((first|refine wIs fun K O=>?_|refine wOs fun K O=>?_|refine wQs fun K O=>?_|refine zW ?_|refine zX ?_|refine zY ?_|refine zL ?_);simp[h1,h2,h2'])|(refine wIn ?_;refine And.intro (by kernel_rfl) ?_;try simp only[zZ])|refine zR ?_|refine zT ?_|((first|refine zI ?_|refine zO ?_|refine zP ?_);try simp)|((first|refine zS ?_|refine wOn ?_|refine wQn ?_);try simp only[zZ])|refine zU.p c1 rfl ?_|refine zU.l c1 rfl ?_|refine zQ.pure c1 rfl ?_|refine zQ.lent c1 rfl ?_|refine zU.o c1 ?_|refine zV.p c1 rfl ?_|refine zV.l c1 rfl ?_|refine zV.o c1 ?_
    all_goals apply hr
    all_goals simp[Tryz.f91,h1,h2,h2']
 ·rw[decide_eq_false h1] at c1
  refine zG Tryz.tab Tryz.mixed Tryz.func91 rfl rfl Tryz.ntmps91 (by simp) (by simp) fun Q hr hn=>?_
  repeat' first|((first|refine O _ ?_|refine O _ _ ?_|(clear O;refine O _ ?_));clear O)|(refine zJ fun K O=>?_)|((first|refine zH ?_|refine zN rfl (by kernel_rfl) ?_|refine zM ?_|refine zK (by kernel_rfl) ?_);simp only[vS,vR,strip])|((first|refine wIs fun K O=>?_|refine wOs fun K O=>?_|refine wQs fun K O=>?_|refine zW ?_|refine zX ?_|refine zY ?_|refine zL ?_);simp[h1])|(refine wIn ?_;refine And.intro (by kernel_rfl) ?_;try simp only[zZ])|refine zR ?_|refine zT ?_|((first|refine zI ?_|refine zO ?_|refine zP ?_);try simp)|((first|refine zS ?_|refine wOn ?_|refine wQn ?_);try simp only[zZ])|refine zU.p c1 rfl ?_|refine zU.l c1 rfl ?_|refine zQ.pure c1 rfl ?_|refine zQ.lent c1 rfl ?_|refine zU.o c1 ?_|refine zV.p c1 rfl ?_|refine zV.l c1 rfl ?_|refine zV.o c1 ?_
  all_goals apply hr
  all_goals simp[Tryz.f91,h1]
set_option maxHeartbeats 8000000 in
theorem ok04_con (m:Mb):zE Tryz.prog 43 [.p (.agg m.cells)] (.p (B (decide (okM m)))):=by
 obtain⟨i,r,w,g⟩:=m
 simp only[Mb.cells,okM]
 by_cases h1:0<=i
 ·by_cases h2:i<16
  ·by_cases h3:r=1
   ·by_cases h4:0<=w
    ·by_cases h5:w<=100
     ·by_cases h6:0<=g
      ·refine zG Tryz.tab Tryz.mixed Tryz.func43 rfl rfl Tryz.ntmps43 (by simp) (by simp) fun Q hr hn=>?_
       repeat' first|((first|refine O _ ?_|refine O _ _ ?_|(clear O;refine O _ ?_));clear O)|(refine zJ fun K O=>?_)|((first|refine zH ?_|refine zN rfl (by kernel_rfl) ?_|refine zM ?_|refine zK (by kernel_rfl) ?_);simp only[vS,vR,strip])|((first|refine wIs fun K O=>?_|refine wOs fun K O=>?_|refine wQs fun K O=>?_|refine zW ?_|refine zX ?_|refine zY ?_|refine zL ?_);simp[h1,h2,h3,h4,h5,h6])|(refine wIn ?_;refine And.intro (by kernel_rfl) ?_;try simp only[zZ])|refine zR ?_|refine zT ?_|((first|refine zI ?_|refine zO ?_|refine zP ?_);try simp)|((first|refine zS ?_|refine wOn ?_|refine wQn ?_);try simp only[zZ])
       all_goals apply hr
       all_goals simp[Tryz.f43,h1,h2,h3,h4,h5,h6]
       all_goals omega
      ·refine zG Tryz.tab Tryz.mixed Tryz.func43 rfl rfl Tryz.ntmps43 (by simp) (by simp) fun Q hr hn=>?_
       repeat' first|((first|refine O _ ?_|refine O _ _ ?_|(clear O;refine O _ ?_));clear O)|(refine zJ fun K O=>?_)|((first|refine zH ?_|refine zN rfl (by kernel_rfl) ?_|refine zM ?_|refine zK (by kernel_rfl) ?_);simp only[vS,vR,strip])|((first|refine wIs fun K O=>?_|refine wOs fun K O=>?_|refine wQs fun K O=>?_|refine zW ?_|refine zX ?_|refine zY ?_|refine zL ?_);simp[h1,h2,h3,h4,h5,h6])|(refine wIn ?_;refine And.intro (by kernel_rfl) ?_;try simp only[zZ])|refine zR ?_|refine zT ?_|((first|refine zI ?_|refine zO ?_|refine zP ?_);try simp)|((first|refine zS ?_|refine wOn ?_|refine wQn ?_);try simp only[zZ])
       all_goals apply hr
       all_goals simp[Tryz.f43,h1,h2,h3,h4,h5,h6]
     ·refine zG Tryz.tab Tryz.mixed Tryz.func43 rfl rfl Tryz.ntmps43 (by simp) (by simp) fun Q hr hn=>?_
      repeat' first|((first|refine O _ ?_|refine O _ _ ?_|(clear O;refine O _ ?_));clear O)|(refine zJ fun K O=>?_)|((first|refine zH ?_|refine zN rfl (by kernel_rfl) ?_|refine zM ?_|refine zK (by kernel_rfl) ?_);simp only[vS,vR,strip])|((first|refine wIs fun K O=>?_|refine wOs fun K O=>?_|refine wQs fun K O=>?_|refine zW ?_|refine zX ?_|refine zY ?_|refine zL ?_);simp[h1,h2,h3,h4,h5])|(refine wIn ?_;refine And.intro (by kernel_rfl) ?_;try simp only[zZ])|refine zR ?_|refine zT ?_|((first|refine zI ?_|refine zO ?_|refine zP ?_);try simp)|((first|refine zS ?_|refine wOn ?_|refine wQn ?_);try simp only[zZ])
      all_goals apply hr
      all_goals simp[Tryz.f43,h1,h2,h3,h4,h5]
    ·refine zG Tryz.tab Tryz.mixed Tryz.func43 rfl rfl Tryz.ntmps43 (by simp) (by simp) fun Q hr hn=>?_
     repeat' first|((first|refine O _ ?_|refine O _ _ ?_|(clear O;refine O _ ?_));clear O)|(refine zJ fun K O=>?_)|((first|refine zH ?_|refine zN rfl (by kernel_rfl) ?_|refine zM ?_|refine zK (by kernel_rfl) ?_);simp only[vS,vR,strip])|((first|refine wIs fun K O=>?_|refine wOs fun K O=>?_|refine wQs fun K O=>?_|refine zW ?_|refine zX ?_|refine zY ?_|refine zL ?_);simp[h1,h2,h3,h4])|(refine wIn ?_;refine And.intro (by kernel_rfl) ?_;try simp only[zZ])|refine zR ?_|refine zT ?_|((first|refine zI ?_|refine zO ?_|refine zP ?_);try simp)|((first|refine zS ?_|refine wOn ?_|refine wQn ?_);try simp only[zZ])
     all_goals apply hr
     all_goals simp[Tryz.f43,h1,h2,h3,h4]
   ·by_cases h3':r=2
    ·by_cases h4:0<=w
     ·by_cases h5:w<=100
      ·by_cases h6:0<=g
       ·refine zG Tryz.tab Tryz.mixed Tryz.func43 rfl rfl Tryz.ntmps43 (by simp) (by simp) fun Q hr hn=>?_
        repeat' first|((first|refine O _ ?_|refine O _ _ ?_|(clear O;refine O _ ?_));clear O)|(refine zJ fun K O=>?_)|((first|refine zH ?_|refine zN rfl (by kernel_rfl) ?_|refine zM ?_|refine zK (by kernel_rfl) ?_);simp only[vS,vR,strip])|((first|refine wIs fun K O=>?_|refine wOs fun K O=>?_|refine wQs fun K O=>?_|refine zW ?_|refine zX ?_|refine zY ?_|refine zL ?_);simp[h1,h2,h3,h3',h4,h5,h6])|(refine wIn ?_;refine And.intro (by kernel_rfl) ?_;try simp only[zZ])|refine zR ?_|refine zT ?_|((first|refine zI ?_|refine zO ?_|refine zP ?_);try simp)|((first|refine zS ?_|refine wOn ?_|refine wQn ?_);try simp only[zZ])
        all_goals apply hr
        all_goals simp[Tryz.f43,h1,h2,h3,h3',h4,h5,h6]
        all_goals omega
       ·refine zG Tryz.tab Tryz.mixed Tryz.func43 rfl rfl Tryz.ntmps43 (by simp) (by simp) fun Q hr hn=>?_
        repeat' first|((first|refine O _ ?_|refine O _ _ ?_|(clear O;refine O _ ?_));clear O)|(refine zJ fun K O=>?_)|((first|refine zH ?_|refine zN rfl (by kernel_rfl) ?_|refine zM ?_|refine zK (by kernel_rfl) ?_);simp only[vS,vR,strip])|((first|refine wIs fun K O=>?_|refine wOs fun K O=>?_|refine wQs fun K O=>?_|refine zW ?_|refine zX ?_|refine zY ?_|refine zL ?_);simp[h1,h2,h3,h3',h4,h5,h6])|(refine wIn ?_;refine And.intro (by kernel_rfl) ?_;try simp only[zZ])|refine zR ?_|refine zT ?_|((first|refine zI ?_|refine zO ?_|refine zP ?_);try simp)|((first|refine zS ?_|refine wOn ?_|refine wQn ?_);try simp only[zZ])
        all_goals apply hr
        all_goals simp[Tryz.f43,h1,h2,h3,h3',h4,h5,h6]
      ·refine zG Tryz.tab Tryz.mixed Tryz.func43 rfl rfl Tryz.ntmps43 (by simp) (by simp) fun Q hr hn=>?_
       repeat' first|((first|refine O _ ?_|refine O _ _ ?_|(clear O;refine O _ ?_));clear O)|(refine zJ fun K O=>?_)|((first|refine zH ?_|refine zN rfl (by kernel_rfl) ?_|refine zM ?_|refine zK (by kernel_rfl) ?_);simp only[vS,vR,strip])|((first|refine wIs fun K O=>?_|refine wOs fun K O=>?_|refine wQs fun K O=>?_|refine zW ?_|refine zX ?_|refine zY ?_|refine zL ?_);simp[h1,h2,h3,h3',h4,h5])|(refine wIn ?_;refine And.intro (by kernel_rfl) ?_;try simp only[zZ])|refine zR ?_|refine zT ?_|((first|refine zI ?_|refine zO ?_|refine zP ?_);try simp)|((first|refine zS ?_|refine wOn ?_|refine wQn ?_);try simp only[zZ])
       all_goals apply hr
       all_goals simp[Tryz.f43,h1,h2,h3,h3',h4,h5]
     ·refine zG Tryz.tab Tryz.mixed Tryz.func43 rfl rfl Tryz.ntmps43 (by simp) (by simp) fun Q hr hn=>?_
      repeat' first|((first|refine O _ ?_|refine O _ _ ?_|(clear O;refine O _ ?_));clear O)|(refine zJ fun K O=>?_)|((first|refine zH ?_|refine zN rfl (by kernel_rfl) ?_|refine zM ?_|refine zK (by kernel_rfl) ?_);simp only[vS,vR,strip])|((first|refine wIs fun K O=>?_|refine wOs fun K O=>?_|refine wQs fun K O=>?_|refine zW ?_|refine zX ?_|refine zY ?_|refine zL ?_);simp[h1,h2,h3,h3',h4])|(refine wIn ?_;refine And.intro (by kernel_rfl) ?_;try simp only[zZ])|refine zR ?_|refine zT ?_|((first|refine zI ?_|refine zO ?_|refine zP ?_);try simp)|((first|refine zS ?_|refine wOn ?_|refine wQn ?_);try simp only[zZ])
      all_goals apply hr
      all_goals simp[Tryz.f43,h1,h2,h3,h3',h4]
    ·refine zG Tryz.tab Tryz.mixed Tryz.func43 rfl rfl Tryz.ntmps43 (by simp) (by simp) fun Q hr hn=>?_
     repeat' first|((first|refine O _ ?_|refine O _ _ ?_|(clear O;refine O _ ?_));clear O)|(refine zJ fun K O=>?_)|((first|refine zH ?_|refine zN rfl (by kernel_rfl) ?_|refine zM ?_|refine zK (by kernel_rfl) ?_);simp only[vS,vR,strip])|((first|refine wIs fun K O=>?_|refine wOs fun K O=>?_|refine wQs fun K O=>?_|refine zW ?_|refine zX ?_|refine zY ?_|refine zL ?_);simp[h1,h2,h3,h3'])|(refine wIn ?_;refine And.intro (by kernel_rfl) ?_;try simp only[zZ])|refine zR ?_|refine zT ?_|((first|refine zI ?_|refine zO ?_|refine zP ?_);try simp)|((first|refine zS ?_|refine wOn ?_|refine wQn ?_);try simp only[zZ])
     all_goals apply hr
     all_goals simp[Tryz.f43,h1,h2,h3,h3']
  ·refine zG Tryz.tab Tryz.mixed Tryz.func43 rfl rfl Tryz.ntmps43 (by simp) (by simp) fun Q hr hn=>?_
   repeat' first|((first|refine O _ ?_|refine O _ _ ?_|(clear O;refine O _ ?_));clear O)|(refine zJ fun K O=>?_)|((first|refine zH ?_|refine zN rfl (by kernel_rfl) ?_|refine zM ?_|refine zK (by kernel_rfl) ?_);simp only[vS,vR,strip])|((first|refine wIs fun K O=>?_|refine wOs fun K O=>?_|refine wQs fun K O=>?_|refine zW ?_|refine zX ?_|refine zY ?_|refine zL ?_);simp[h1,h2])|(refine wIn ?_;refine And.intro (by kernel_rfl) ?_;try simp only[zZ])|refine zR ?_|refine zT ?_|((first|refine zI ?_|refine zO ?_|refine zP ?_);try simp)|((first|refine zS ?_|refine wOn ?_|refine wQn ?_);try simp only[zZ])
   all_goals apply hr
   all_goals simp[Tryz.f43,h1,h2]
   all_goals omega
 ·refine zG Tryz.tab Tryz.mixed Tryz.func43 rfl rfl Tryz.ntmps43 (by simp) (by simp) fun Q hr hn=>?_
  repeat' first|((first|refine O _ ?_|refine O _ _ ?_|(clear O;refine O _ ?_));clear O)|(refine zJ fun K O=>?_)|((first|refine zH ?_|refine zN rfl (by kernel_rfl) ?_|refine zM ?_|refine zK (by kernel_rfl) ?_);simp only[vS,vR,strip])|((first|refine wIs fun K O=>?_|refine wOs fun K O=>?_|refine wQs fun K O=>?_|refine zW ?_|refine zX ?_|refine zY ?_|refine zL ?_);simp[h1])|(refine wIn ?_;refine And.intro (by kernel_rfl) ?_;try simp only[zZ])|refine zR ?_|refine zT ?_|((first|refine zI ?_|refine zO ?_|refine zP ?_);try simp)|((first|refine zS ?_|refine wOn ?_|refine wQn ?_);try simp only[zZ])
  all_goals apply hr
  all_goals simp[Tryz.f43,h1]
theorem Mb.ext4 {x y:Mb}:x=y ↔ x.i=y.i/\x.r=y.r/\x.w=y.w/\x.g=y.g:=by cases x;cases y;simp
theorem Cf.ext4 {x y:Cf}:x=y ↔ x.ep=y.ep/\x.n=y.n/\x.kind=y.kind/\x.ms=y.ms:=by cases x;cases y;simp
instance:DecidableEq Cf:=fun x y=>decidable_of_iff _ Cf.ext4.symm
theorem cfSame04_con (a b:Cf):zE Tryz.prog 10 [.p (.agg a.cells),.p (.agg b.cells)] (.p (B (decide (a=b)))):=by
 unfold Cf.cells
 refine zE.lenA ⟨Tryz.f10,Tryz.func10,rfl,rfl⟩ 0 3 4 (mbs a.ms) _ rfl rfl fun hlen=>?_
 simp only[vW] at hlen
 by_cases o1:a.ep=b.ep
 rotate_left
 ·rw[decide_eq_false fun h=>o1 (by rw[h])]
  refine zG Tryz.tab Tryz.mixed Tryz.func10 rfl rfl Tryz.ntmps10 (by simp) (by simp) fun Q hr hn=>?_
  repeat' first|((first|refine O _ ?_|refine O _ _ ?_|(clear O;refine O _ ?_));clear O)|(refine zJ fun K O=>?_)|((first|refine zH ?_|refine zN rfl (by kernel_rfl) ?_|refine zM ?_|refine zK (by kernel_rfl) ?_);simp only[vS,vR,strip])|((first|refine wIs fun K O=>?_|refine wOs fun K O=>?_|refine wQs fun K O=>?_|refine zW ?_|refine zX ?_|refine zY ?_|refine zL ?_);simp[o1])|(refine wIn ?_;refine And.intro (by kernel_rfl) ?_;try simp only[zZ])|refine zR ?_|refine zT ?_|((first|refine zI ?_|refine zO ?_|refine zP ?_);try simp)|((first|refine zS ?_|refine wOn ?_|refine wQn ?_);try simp only[zZ])
  all_goals apply hr
  all_goals simp[Tryz.f10]
 by_cases o2:a.n=b.n
 rotate_left
 ·rw[decide_eq_false fun h=>o2 (by rw[h])]
  refine zG Tryz.tab Tryz.mixed Tryz.func10 rfl rfl Tryz.ntmps10 (by simp) (by simp) fun Q hr hn=>?_
  repeat' first|((first|refine O _ ?_|refine O _ _ ?_|(clear O;refine O _ ?_));clear O)|(refine zJ fun K O=>?_)|((first|refine zH ?_|refine zN rfl (by kernel_rfl) ?_|refine zM ?_|refine zK (by kernel_rfl) ?_);simp only[vS,vR,strip])|((first|refine wIs fun K O=>?_|refine wOs fun K O=>?_|refine wQs fun K O=>?_|refine zW ?_|refine zX ?_|refine zY ?_|refine zL ?_);simp[o1,o2])|(refine wIn ?_;refine And.intro (by kernel_rfl) ?_;try simp only[zZ])|refine zR ?_|refine zT ?_|((first|refine zI ?_|refine zO ?_|refine zP ?_);try simp)|((first|refine zS ?_|refine wOn ?_|refine wQn ?_);try simp only[zZ])
  all_goals apply hr
  all_goals simp[Tryz.f10]
 by_cases o3:a.kind=b.kind
 rotate_left
 ·rw[decide_eq_false fun h=>o3 (by rw[h])]
  refine zG Tryz.tab Tryz.mixed Tryz.func10 rfl rfl Tryz.ntmps10 (by simp) (by simp) fun Q hr hn=>?_
  repeat' first|((first|refine O _ ?_|refine O _ _ ?_|(clear O;refine O _ ?_));clear O)|(refine zJ fun K O=>?_)|((first|refine zH ?_|refine zN rfl (by kernel_rfl) ?_|refine zM ?_|refine zK (by kernel_rfl) ?_);simp only[vS,vR,strip])|((first|refine wIs fun K O=>?_|refine wOs fun K O=>?_|refine wQs fun K O=>?_|refine zW ?_|refine zX ?_|refine zY ?_|refine zL ?_);simp[o1,o2,o3])|(refine wIn ?_;refine And.intro (by kernel_rfl) ?_;try simp only[zZ])|refine zR ?_|refine zT ?_|((first|refine zI ?_|refine zO ?_|refine zP ?_);try simp)|((first|refine zS ?_|refine wOn ?_|refine wQn ?_);try simp only[zZ])
  all_goals apply hr
  all_goals simp[Tryz.f10]
 by_cases o4:a.ms.length=b.ms.length
 rotate_left
 ·rw[decide_eq_false fun h=>o4 (by rw[h])]
  have o4':¬ (a.ms.length:Int)=b.ms.length:=by omega
  refine zG Tryz.tab Tryz.mixed Tryz.func10 rfl rfl Tryz.ntmps10 (by simp) (by simp) fun Q hr hn=>?_
  repeat' first|((first|refine O _ ?_|refine O _ _ ?_|(clear O;refine O _ ?_));clear O)|(refine zJ fun K O=>?_)|((first|refine zH ?_|refine zN rfl (by kernel_rfl) ?_|refine zM ?_|refine zK (by kernel_rfl) ?_);simp only[vS,vR,strip])|((first|refine wIs fun K O=>?_|refine wOs fun K O=>?_|refine wQs fun K O=>?_|refine zW ?_|refine zX ?_|refine zY ?_|refine zL ?_);simp[o1,o2,o3,o4,o4'])|(refine wIn ?_;refine And.intro (by kernel_rfl) ?_;try simp only[zZ])|refine zR ?_|refine zT ?_|((first|refine zI ?_|refine zO ?_|refine zP ?_);try simp)|((first|refine zS ?_|refine wOn ?_|refine wQn ?_);try simp only[zZ])
  all_goals apply hr
  all_goals simp[Tryz.f10]
 have hd:(a=b) ↔ a.ms=b.ms:=by rw[Cf.ext4];simp[o1,o2,o3]
 refine zG Tryz.tab Tryz.mixed Tryz.func10 rfl rfl Tryz.ntmps10 (by simp) (by simp) fun Q hr hn=>?_
 repeat' first|((first|refine O _ ?_|refine O _ _ ?_|(clear O;refine O _ ?_));clear O)|(refine zJ fun K O=>?_)|((first|refine zH ?_|refine zN rfl (by kernel_rfl) ?_|refine zM ?_|refine zK (by kernel_rfl) ?_);simp only[vS,vR,strip])|((first|refine wIs fun K O=>?_|refine wOs fun K O=>?_|refine wQs fun K O=>?_|refine zW ?_|refine zX ?_|refine zY ?_|refine zL ?_);simp[o1,o2,o3,o4])|(refine wIn ?_;refine And.intro (by kernel_rfl) ?_;try simp only[zZ])|refine zR ?_|refine zT ?_|((first|refine zI ?_|refine zO ?_|refine zP ?_);try simp)|((first|refine zS ?_|refine wOn ?_|refine wQn ?_);try simp only[zZ])
 refine zC (fun N st=>∃k,k+N=a.ms.length/\st.s 2=.ptr 2 0/\st.s 3=.ptr 3 0/\st.s 29=.p (I a.ms.length)/\st.s 30=.p (I k)/\st.b 2=some (.box 28 [.p (I a.ep),.p (I a.n),.p (I a.kind),.p (.sl 4 (mbs a.ms))])/\st.b 3=some (.box 28 [.p (I b.ep),.p (I b.n),.p (I b.kind),.p (.sl 4 (mbs b.ms))])/\(a.ms=b.ms ↔ a.ms.drop k=b.ms.drop k)) a.ms.length ⟨0,by simp[o1,o2,o3,o4]⟩ fun K N st hL ⟨k,hk,g2,g3,g29,g30,b2,b3,hi⟩=>?_
 by_cases hlt:k<a.ms.length
 ·have hlt':k<b.ms.length:=by omega
  have hw:=yU k _ hlt hlen
  have h1:=mbs_get hlt
  have h2:=mbs_get hlt'
  rw[List.drop_eq_getElem_cons hlt,List.drop_eq_getElem_cons hlt',List.cons.injEq,Mb.ext4] at hi
  by_cases o:a.ms[k].i=b.ms[k].i/\a.ms[k].r=b.ms[k].r/\a.ms[k].w=b.ms[k].w/\a.ms[k].g=b.ms[k].g
  ·rw[and_iff_right o] at hi
   obtain⟨q1,q2,q3,q4⟩:=o
   repeat' first|((first|refine O _ ?_|refine O _ _ ?_|(clear O;refine O _ ?_));clear O)|(refine zJ fun K O=>?_)|((first|refine zH ?_|refine zN rfl (by kernel_rfl) ?_|refine zM ?_|refine zK (by kernel_rfl) ?_);simp only[vS,vR,strip])|((first|refine wIs fun K O=>?_|refine wOs fun K O=>?_|refine wQs fun K O=>?_|refine zW ?_|refine zX ?_|refine zY ?_|refine zL ?_);simp[g2,g3,g29,g30,b2,b3,hlt,hlt',hw,h1,h2,q1,q2,q3,q4])|(refine wIn ?_;refine And.intro (by kernel_rfl) ?_;try simp only[zZ])|refine zR ?_|refine zT ?_|((first|refine zI ?_|refine zO ?_|refine zP ?_);try simp)|((first|refine zS ?_|refine wOn ?_|refine wQn ?_);try simp only[zZ])
   refine hL _ (N-1) (by omega) ⟨k+1,by omega,?_⟩
   simp[g2,g3,g29,g30,b2,b3,hw,o1,o2,o3,o4]
   exact hi
  ·rw[show decide (a=b)=false from decide_eq_false fun h=>o (hi.1 (hd.1 h)).1] at hr
   repeat' first|((first|refine O _ ?_|refine O _ _ ?_|(clear O;refine O _ ?_));clear O)|(refine zJ fun K O=>?_)|((first|refine zH ?_|refine zN rfl (by kernel_rfl) ?_|refine zM ?_|refine zK (by kernel_rfl) ?_);simp only[vS,vR,strip])|((first|refine wIs fun K O=>?_|refine wOs fun K O=>?_|refine wQs fun K O=>?_|refine zW ?_|refine zX ?_|refine zY ?_|refine zL ?_);simp[g2,g3,g29,g30,b2,b3,hlt,hlt',hw,h1,h2,o])|(refine wIn ?_;refine And.intro (by kernel_rfl) ?_;try simp only[zZ])|refine zR ?_|refine zT ?_|((first|refine zI ?_|refine zO ?_|refine zP ?_);try simp)|((first|refine zS ?_|refine wOn ?_|refine wQn ?_);try simp only[zZ])|(intro _)
   all_goals first|exact o|skip
   all_goals apply hr
   all_goals simp[Tryz.f10]
 ·rw[List.drop_of_length_le (by omega),List.drop_of_length_le (by omega)] at hi
  rw[show decide (a=b)=true from decide_eq_true (hd.2 (hi.2 rfl))] at hr
  repeat' first|((first|refine O _ ?_|refine O _ _ ?_|(clear O;refine O _ ?_));clear O)|(refine zJ fun K O=>?_)|((first|refine zH ?_|refine zN rfl (by kernel_rfl) ?_|refine zM ?_|refine zK (by kernel_rfl) ?_);simp only[vS,vR,strip])|((first|refine wIs fun K O=>?_|refine wOs fun K O=>?_|refine wQs fun K O=>?_|refine zW ?_|refine zX ?_|refine zY ?_|refine zL ?_);simp[g2,g3,g29,g30,b2,b3,hlt])|(refine wIn ?_;refine And.intro (by kernel_rfl) ?_;try simp only[zZ])|refine zR ?_|refine zT ?_|((first|refine zI ?_|refine zO ?_|refine zP ?_);try simp)|((first|refine zS ?_|refine wOn ?_|refine wQn ?_);try simp only[zZ])
  all_goals apply hr
  all_goals simp[Tryz.f10]
structure Pt where
 (k:Int)
 (z:Zn)
 (s:Int)
 (c:Cf)
 deriving DecidableEq
def Pt.cells (x:Pt):List PV:=[I x.k,SB x.z.p,SB x.z.d,I x.z.v,I x.z.k,I x.z.o,I x.s,I x.c.ep,I x.c.n,I x.c.kind,.sl 4 (mbs x.c.ms)]
def pts (l:List Pt):List (List PV):=l.map Pt.cells
@[simp] theorem pts_len (l:List Pt):(pts l).length=l.length:=by simp[pts]
@[simp] theorem pts_getElem (l:List Pt)(k:Nat)(h:k<(pts l).length):(pts l)[k]=(l[k]'(by simpa using h)).cells:=by simp[pts]
theorem pts_get {l:List Pt}{k:Nat}(h:k<l.length):(pts l)[k]?=some [I l[k].k,SB l[k].z.p,SB l[k].z.d,I l[k].z.v,I l[k].z.k,I l[k].z.o,I l[k].s,I l[k].c.ep,I l[k].c.n,I l[k].c.kind,.sl 4 (mbs l[k].c.ms)]:=by simp[pts,h,Pt.cells]
structure Sv where
 (ns:List Zn)
 (ss:List Int)
 (nx:Int)
 (c:Cf)
 (ae an:Int)
 deriving DecidableEq
def Sv.cells (s:Sv):List PV:=[.sl 5 (zns s.ns),.sl 1 (ints s.ss),I s.nx,I s.c.ep,I s.c.n,I s.c.kind,.sl 4 (mbs s.c.ms),I s.ae,I s.an]
end Go.Proofs.YtpihbhacmokekaaGreatDoor
