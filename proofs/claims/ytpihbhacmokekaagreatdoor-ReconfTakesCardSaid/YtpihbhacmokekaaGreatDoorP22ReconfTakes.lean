/- Texts that the proof needs: PD NA. -/
import Derived.Test.YtpihbhacmokekaaGreatDoorP20ReconfTakes
import Derived.Test.YtpihbhacmokekaaGreatDoorP21ReconfTakes
namespace Go.Proofs.YtpihbhacmokekaaGreatDoor
set_option linter.unusedSimpArgs false
set_option linter.unusedVariables false
open Go Go.Av
attribute [local irreducible] Go.Av.yJ Go.Av.zU Go.Av.yC Go.Av.zQ Go.Av.yG Go.Av.zV Go.Av.Con
@[simp] theorem empty_bs:ByteArray.empty=bs []:=rfl
structure Zn where
 (p d:List UInt8)
 (v k o:Int)
 deriving DecidableEq
def Zn.c (z:Zn):List PV:=[SB z.p,SB z.d,I z.v,I z.k,I z.o]
def zns (l:List Zn):List (List PV):=l.map Zn.c
@[simp] theorem zns_len (l:List Zn):(zns l).length=l.length:=by simp[zns]
@[simp] theorem zns_getElem (l:List Zn)(k:Nat)(h:k<(zns l).length):(zns l)[k]=[SB (l[k]'(by simpa using h)).p,SB (l[k]'(by simpa using h)).d,I (l[k]'(by simpa using h)).v,I (l[k]'(by simpa using h)).k,I (l[k]'(by simpa using h)).o]:=by simp[zns,Zn.c]
theorem zns_get {l:List Zn}{k:Nat}(h:k<l.length):(zns l)[k]?=some [SB l[k].p,SB l[k].d,I l[k].v,I l[k].k,I l[k].o]:=by simp[zns,h,Zn.c]
theorem zns_snoc (l:List Zn)(z:Zn):zns l++[[SB z.p,SB z.d,I z.v,I z.k,I z.o]]=zns (l++[z]):=by simp[zns,Zn.c]
theorem zns_take (l:List Zn)(k:Nat):(zns l).take k=zns (l.take k):=by simp[zns,List.map_take]
theorem zns_drop (l:List Zn)(k:Nat):(zns l).drop k=zns (l.drop k):=by simp[zns,List.map_drop]
theorem take_snocN {α:Type}(l:List α)(k:Nat)(h:k<l.length):l.take (k+1)=l.take k++[l[k]]:=List.take_succ_eq_append_getElem h
def zz:Zn:=⟨[],[],0,0,0⟩
def fnd:List Zn->List UInt8->Zn × Bool
 |[],_=>(zz,false)
 |z::r,p=>if z.p=p then (z,true) else fnd r p
theorem fnd_step {l:List Zn}{k:Nat}(h:k<l.length)(p:List UInt8):fnd (l.drop k) p=if l[k].p=p then (l[k],true) else fnd (l.drop (k+1)) p:=by
 rw[List.drop_eq_getElem_cons h];rfl
theorem find07_con (l:List Zn)(p:List UInt8):zE Tryz.prog 78 [.p (.sl 5 (zns l)),.p (SB p)] (.tup [.p (.agg (fnd l p).1.c),.p (B (fnd l p).2)]):=by
 refine zE.len ⟨Tryz.f78,Tryz.func78,rfl,rfl⟩ 0 _ _ rfl fun hlen=>?_
 simp only[zns_len] at hlen
 refine zG Tryz.tab Tryz.mixed Tryz.func78 rfl rfl Tryz.ntmps78 (by simp) (by simp) fun Q hr hn=>?_
 repeat' first|((first|refine O _ ?_|refine O _ _ ?_|(clear O;refine O _ ?_));clear O)|(refine zJ fun K O=>?_)|((first|refine zH ?_|refine zN rfl (by kernel_rfl) ?_|refine zM ?_|refine zK (by kernel_rfl) ?_);simp only[vS,vR,strip])|((first|refine wIs fun K O=>?_|refine wOs fun K O=>?_|refine wQs fun K O=>?_|refine zW ?_|refine zX ?_|refine zY ?_|refine zL ?_);simp)|(refine wIn ?_;refine And.intro (by kernel_rfl) ?_;try simp only[zZ])|refine zR ?_|refine zT ?_|((first|refine zI ?_|refine zO ?_|refine zP ?_);try simp)|((first|refine zS ?_|refine wOn ?_|refine wQn ?_);try simp only[zZ])
 refine zC (fun N st=>∃k,k+N=l.length/\st.s 1=.p (SB p)/\st.s 8=.p (.sl 5 (zns l))/\st.s 9=.p (I l.length)/\st.s 10=.p (I k)/\st.s 4=.ptr 4 0/\st.b 4=some (.box 65 [.p (SB []),.p (SB []),.p (I 0),.p (I 0),.p (I 0)])/\fnd l p=fnd (l.drop k) p) l.length ⟨0,by simp⟩ fun K N st hL ⟨k,hk,g1,g8,g9,g10,g4,b4,hi⟩=>?_
 by_cases hlt:k<l.length
 ·have hw:=yU k _ hlt hlen
  have he:=zns_get hlt
  rw[fnd_step hlt] at hi
  by_cases o:l[k].p=p
  ·rw[if_pos o] at hi
   rw[hi] at hr
   repeat' first|((first|refine O _ ?_|refine O _ _ ?_|(clear O;refine O _ ?_));clear O)|(refine zJ fun K O=>?_)|((first|refine zH ?_|refine zN rfl (by kernel_rfl) ?_|refine zM ?_|refine zK (by kernel_rfl) ?_);simp only[vS,vR,strip])|((first|refine wIs fun K O=>?_|refine wOs fun K O=>?_|refine wQs fun K O=>?_|refine zW ?_|refine zX ?_|refine zY ?_|refine zL ?_);simp[g1,g8,g9,g10,g4,b4,hlt,hw,he,o])|(refine wIn ?_;refine And.intro (by kernel_rfl) ?_;try simp only[zZ])|refine zR ?_|refine zT ?_|((first|refine zI ?_|refine zO ?_|refine zP ?_);try simp)|((first|refine zS ?_|refine wOn ?_|refine wQn ?_);try simp only[zZ])
   all_goals apply hr
   all_goals simp[Tryz.f78,Zn.c,g4,b4,o]
  ·rw[if_neg o] at hi
   repeat' first|((first|refine O _ ?_|refine O _ _ ?_|(clear O;refine O _ ?_));clear O)|(refine zJ fun K O=>?_)|((first|refine zH ?_|refine zN rfl (by kernel_rfl) ?_|refine zM ?_|refine zK (by kernel_rfl) ?_);simp only[vS,vR,strip])|((first|refine wIs fun K O=>?_|refine wOs fun K O=>?_|refine wQs fun K O=>?_|refine zW ?_|refine zX ?_|refine zY ?_|refine zL ?_);simp[g1,g8,g9,g10,g4,b4,hlt,hw,he,o])|(refine wIn ?_;refine And.intro (by kernel_rfl) ?_;try simp only[zZ])|refine zR ?_|refine zT ?_|((first|refine zI ?_|refine zO ?_|refine zP ?_);try simp)|((first|refine zS ?_|refine wOn ?_|refine wQn ?_);try simp only[zZ])
   refine hL _ (N-1) (by omega) ⟨k+1,by omega,?_⟩
   simp[g1,g8,g9,g10,g4,b4,hw,hi]
 ·have hd:l.drop k=[]:=List.drop_of_length_le (by omega)
  rw[hd] at hi
  rw[hi] at hr
  repeat' first|((first|refine O _ ?_|refine O _ _ ?_|(clear O;refine O _ ?_));clear O)|(refine zJ fun K O=>?_)|((first|refine zH ?_|refine zN rfl (by kernel_rfl) ?_|refine zM ?_|refine zK (by kernel_rfl) ?_);simp only[vS,vR,strip])|((first|refine wIs fun K O=>?_|refine wOs fun K O=>?_|refine wQs fun K O=>?_|refine zW ?_|refine zX ?_|refine zY ?_|refine zL ?_);simp[g1,g8,g9,g10,g4,b4,hlt])|(refine wIn ?_;refine And.intro (by kernel_rfl) ?_;try simp only[zZ])|refine zR ?_|refine zT ?_|((first|refine zI ?_|refine zO ?_|refine zP ?_);try simp)|((first|refine zS ?_|refine wOn ?_|refine wQn ?_);try simp only[zZ])
  all_goals apply hr
  all_goals simp[Tryz.f78,Zn.c,fnd,zz,g4,b4]
end Go.Proofs.YtpihbhacmokekaaGreatDoor
