/- Texts that the proof needs: DEW DFW. -/
import Derived.Test.YtpihbhacmokekaaGreatDoorP33ReconfTakes
import Derived.Test.YtpihbhacmokekaaGreatDoorP34ReconfTakes
namespace Go.Proofs.YtpihbhacmokekaaGreatDoor
set_option linter.unusedSimpArgs false
set_option linter.unusedVariables false
open Go Go.Av
attribute [local irreducible] Go.Av.yJ Go.Av.zU Go.Av.yC Go.Av.zQ Go.Av.yG Go.Av.zV Go.Av.Con
def xM (l:List Mb):List Int:=l.map Mb.i
@[simp] theorem pids_len (l:List Mb):(xM l).length=l.length:=by simp[xM]
def twL (l:List Int):Bool:=decide (¬ l.Nodup)
theorem nodup_snoc (l:List Int)(k:Nat)(h:k<l.length):(l.take (k+1)).Nodup ↔ (l.take k).Nodup/\l[k] ∉ l.take k:=by
 rw[take_snoc _ k h,List.nodup_append]
 constructor
 ·rintro ⟨h1, -,h3⟩
  exact⟨h1,fun hm=>h3 _ hm _ (by simp) rfl⟩
 ·rintro ⟨h1,h2⟩
  exact⟨h1,by simp,fun a ha b hb=>by rw[List.mem_singleton.1 hb];intro h4;exact h2 (h4 ▸ ha)⟩
theorem nodup_take {l:List Int}(k:Nat)(h:¬ (l.take k).Nodup):¬ l.Nodup:=fun hn=>h (hn.sublist (List.take_sublist _ _))
theorem set_takeD {α:Type}(l:List α)(k:Nat)(x:α)(h:k<l.length):(l.set k x).take (k+1)=l.take k++[x]:=by
 rw[List.take_succ_eq_append_getElem (by simpa using h),List.getElem_set_self]
 congr 1
 apply List.ext_getElem?
 intro i
 by_cases hi:i<k
 ·rw[List.getElem?_take_of_lt hi,List.getElem?_take_of_lt hi,List.getElem?_set_ne (by omega)]
 ·rw[List.getElem?_take_eq_none (by omega),List.getElem?_take_eq_none (by omega)]
theorem ints_take (l:List Int)(k:Nat):(ints l).take k=ints (l.take k):=by simp[ints,List.map_take]
theorem twice_con (l:List Int)(hl:l.length<=1000000):zE Tryz.prog 124 [.p (.sl 1 (ints l))] (.p (B (twL l))):=by
 refine zG Tryz.tab Tryz.mixed Tryz.func124 rfl rfl Tryz.ntmps124 (by simp) (by simp) fun Q hr hn=>?_
 repeat' first|((first|refine O _ ?_|refine O _ _ ?_|(clear O;refine O _ ?_));clear O)|(refine zJ fun K O=>?_)|((first|refine zH ?_|refine zN rfl (by kernel_rfl) ?_|refine zM ?_|refine zK (by kernel_rfl) ?_);simp only[vS,vR,strip])|((first|refine wIs fun K O=>?_|refine wOs fun K O=>?_|refine wQs fun K O=>?_|refine zW ?_|refine zX ?_|refine zY ?_|refine zL ?_);simp)|(refine wIn ?_;refine And.intro (by kernel_rfl) ?_;try simp only[zZ])|refine zR ?_|refine zT ?_|((first|refine zI ?_|refine zO ?_|refine zP ?_);try simp)|((first|refine zS ?_|refine wOn ?_|refine wQn ?_);try simp only[zZ])
 refine zC (fun N st=>∃k,k+N=l.length/\st.s 0=.p (.sl 1 (ints l))/\st.s 5=.p (.sl 1 (ints l))/\st.s 6=.p (I l.length)/\st.s 7=.p (I k)/\(l.take k).Nodup) l.length ⟨0,by simp⟩ fun K N st hL ⟨k,hk,h0,h5,h6,h7,hi⟩=>?_
 by_cases hlt:k<l.length
 ·have hw:=yU k _ hlt (by omega)
  have hkl:k<=l.length:=by omega
  have ht:=ints_take l k
  have hc:=wO (l.take k) l[k]
  have hn:=nodup_snoc l k hlt
  by_cases hm:l[k]∈l.take k
  ·rw[decide_eq_true hm] at hc
   have hf:twL l=true:=decide_eq_true (nodup_take (k+1) fun h=>(hn.1 h).2 hm)
   rw[hf] at hr
   repeat' first|refine zU.p hc rfl ?_|refine zU.l hc rfl ?_|refine zQ.pure hc rfl ?_|refine zQ.lent hc rfl ?_|refine zU.o hc ?_|refine zV.p hc rfl ?_|refine zV.l hc rfl ?_|refine zV.o hc ?_|((first|refine O _ ?_|refine O _ _ ?_|(clear O;refine O _ ?_));clear O)|(refine zJ fun K O=>?_)|((first|refine zH ?_|refine zN rfl (by kernel_rfl) ?_|refine zM ?_|refine zK (by kernel_rfl) ?_);simp only[vS,vR,strip])|((first|refine wIs fun K O=>?_|refine wOs fun K O=>?_|refine wQs fun K O=>?_|refine zW ?_|refine zX ?_|refine zY ?_|refine zL ?_);simp[h0,h5,h6,h7,hlt,hw,hkl,ht])|(refine wIn ?_;refine And.intro (by kernel_rfl) ?_;try simp only[zZ])|refine zR ?_|refine zT ?_|((first|refine zI ?_|refine zO ?_|refine zP ?_);try simp)|((first|refine zS ?_|refine wOn ?_|refine wQn ?_);try simp only[zZ])
   all_goals apply hr
   all_goals simp[Tryz.f124]
  ·rw[decide_eq_false hm] at hc
   repeat' first|refine zU.p hc rfl ?_|refine zU.l hc rfl ?_|refine zQ.pure hc rfl ?_|refine zQ.lent hc rfl ?_|refine zU.o hc ?_|refine zV.p hc rfl ?_|refine zV.l hc rfl ?_|refine zV.o hc ?_|((first|refine O _ ?_|refine O _ _ ?_|(clear O;refine O _ ?_));clear O)|(refine zJ fun K O=>?_)|((first|refine zH ?_|refine zN rfl (by kernel_rfl) ?_|refine zM ?_|refine zK (by kernel_rfl) ?_);simp only[vS,vR,strip])|((first|refine wIs fun K O=>?_|refine wOs fun K O=>?_|refine wQs fun K O=>?_|refine zW ?_|refine zX ?_|refine zY ?_|refine zL ?_);simp[h0,h5,h6,h7,hlt,hw,hkl,ht])|(refine wIn ?_;refine And.intro (by kernel_rfl) ?_;try simp only[zZ])|refine zR ?_|refine zT ?_|((first|refine zI ?_|refine zO ?_|refine zP ?_);try simp)|((first|refine zS ?_|refine wOn ?_|refine wQn ?_);try simp only[zZ])
   refine hL _ (N-1) (by omega) ⟨k+1,by omega,?_,?_,?_,?_,hn.2 ⟨hi,hm⟩⟩
   all_goals simp[h0,h5,h6,hw]
 ·have hf:twL l=false:=decide_eq_false (by rw[List.take_of_length_le (by omega)] at hi;simpa using hi)
  rw[hf] at hr
  repeat' first|((first|refine O _ ?_|refine O _ _ ?_|(clear O;refine O _ ?_));clear O)|(refine zJ fun K O=>?_)|((first|refine zH ?_|refine zN rfl (by kernel_rfl) ?_|refine zM ?_|refine zK (by kernel_rfl) ?_);simp only[vS,vR,strip])|((first|refine wIs fun K O=>?_|refine wOs fun K O=>?_|refine wQs fun K O=>?_|refine zW ?_|refine zX ?_|refine zY ?_|refine zL ?_);simp[h0,h5,h6,h7,hlt])|(refine wIn ?_;refine And.intro (by kernel_rfl) ?_;try simp only[zZ])|refine zR ?_|refine zT ?_|((first|refine zI ?_|refine zO ?_|refine zP ?_);try simp)|((first|refine zS ?_|refine wOn ?_|refine wQn ?_);try simp only[zZ])
  apply hr
  simp[Tryz.f124]
def dropE (c:Cf)(put:List Int):List Int->Int
 |[]=>0
 |id::l=>if id∈put then 1 else if (fm id c.ms).2=true then dropE c put l else 6
def wrongD (d:Dl):Bool:=twL (xM d.put) || (twL d.drop || (decide (d.kind<0) || decide (3<d.kind)))
def fitsE (c:Cf)(d:Dl):Int:=if wrongD d=true then 1 else dropE c (xM d.put) d.drop
theorem fits_con (c:Cf)(d:Dl)(hc:c.ms.length<=1000000)(hp:d.put.length<=1000000)(hd:d.drop.length<=1000000):zE Tryz.prog 104 [.p (.agg c.cells),.p (.agg d.cells)] (.p (I (fitsE c d))):=by
 obtain⟨ep,n,kind,ms⟩:=c
 obtain⟨dk,put,drop⟩:=d
 simp only[Cf.cells,Dl.cells] at *
 have t1:=twice_con (xM put) (by simpa using hp)
 have t2:=twice_con drop hd
 refine zG Tryz.tab Tryz.mixed Tryz.func104 rfl rfl Tryz.ntmps104 (by simp) (by simp) fun Q hr hn=>?_
 repeat' first|(rw[if_pos ⟨by omega,by omega⟩])|((first|refine O _ ?_|refine O _ _ ?_|(clear O;refine O _ ?_));clear O)|(refine zJ fun K O=>?_)|((first|refine zH ?_|refine zN rfl (by kernel_rfl) ?_|refine zM ?_|refine zK (by kernel_rfl) ?_);simp only[vS,vR,strip])|((first|refine wIs fun K O=>?_|refine wOs fun K O=>?_|refine wQs fun K O=>?_|refine zW ?_|refine zX ?_|refine zY ?_|refine zL ?_);simp)|(refine wIn ?_;refine And.intro (by kernel_rfl) ?_;try simp only[zZ])|refine zR ?_|refine zT ?_|((first|refine zI ?_|refine zO ?_|refine zP ?_);try simp)|((first|refine zS ?_|refine wOn ?_|refine wQn ?_);try simp only[zZ])
 refine zC (fun N st=>∃k zs,k+N=put.length/\st.s 2=.ptr 2 0/\st.s 3=.ptr 3 0/\st.b 2=some (.box 28 [.p (I ep),.p (I n),.p (I kind),.p (.sl 4 (mbs ms))])/\st.b 3=some (.box 39 [.p (I dk),.p (.sl 4 (mbs put)),.p (.sl 1 (ints drop))]) ∧
  st.s 5=.row 15/\st.s 17=.p (.sl 4 (mbs put))/\st.s 18=.p (I put.length)/\st.s 19=.p (I k)/\st.b 15=some (.row 3 1 (ints zs))/\zs.length=put.length/\zs.take k=(xM put).take k) put.length ⟨0,List.replicate put.length 0,by simp[ints]⟩ fun K N st hL ⟨k,zs,hk,h2,h3,b2,b3,h5,h17,h18,h19,b15,hz,hi⟩=>?_
 by_cases hlt:k<put.length
 ·have hw:=yU k _ hlt (by omega)
  have hkz:k<zs.length:=by omega
  have hset:(ints zs).set k [I put[k].i]=ints (zs.set k put[k].i):=by simp[ints,List.map_set]
  repeat' first|((first|refine O _ ?_|refine O _ _ ?_|(clear O;refine O _ ?_));clear O)|(refine zJ fun K O=>?_)|((first|refine zH ?_|refine zN rfl (by kernel_rfl) ?_|refine zM ?_|refine zK (by kernel_rfl) ?_);simp only[vS,vR,strip])|((first|refine wIs fun K O=>?_|refine wOs fun K O=>?_|refine wQs fun K O=>?_|refine zW ?_|refine zX ?_|refine zY ?_|refine zL ?_);simp[h2,h3,b2,b3,h5,h17,h18,h19,b15,hlt,hw,hkz,hz])|(refine wIn ?_;refine And.intro (by kernel_rfl) ?_;try simp only[zZ])|refine zR ?_|refine zT ?_|((first|refine zI ?_|refine zO ?_|refine zP ?_);try simp)|((first|refine zS ?_|refine wOn ?_|refine wQn ?_);try simp only[zZ])
  refine hL _ (N-1) (by omega) ⟨k+1,zs.set k put[k].i,by omega,?_⟩
  simp[h2,h3,b2,b3,h5,h17,h18,hw,b15,hset,hz]
  rw[set_takeD _ _ _ hkz,hi,take_snoc _ k (by simpa using hlt)]
  simp[xM]
 ·have hzs:zs=xM put:=by
   rw[List.take_of_length_le (by omega),List.take_of_length_le (by simp;omega)] at hi;exact hi
  subst hzs
  by_cases hwr:wrongD ⟨dk,put,drop⟩=true
  ·have hf:fitsE ⟨ep,n,kind,ms⟩ ⟨dk,put,drop⟩=1:=by unfold fitsE;rw[if_pos hwr]
   rw[hf] at hr
   simp only[wrongD,Bool.or_eq_true,decide_eq_true_eq] at hwr
   by_cases w1:twL (xM put)=true
   ·rw[w1] at t1
    repeat' first|refine zU.p t1 rfl ?_|refine zU.l t1 rfl ?_|refine zQ.pure t1 rfl ?_|refine zQ.lent t1 rfl ?_|refine zU.o t1 ?_|refine zV.p t1 rfl ?_|refine zV.l t1 rfl ?_|refine zV.o t1 ?_|refine zU.p t2 rfl ?_|refine zU.l t2 rfl ?_|refine zQ.pure t2 rfl ?_|refine zQ.lent t2 rfl ?_|refine zU.o t2 ?_|refine zV.p t2 rfl ?_|refine zV.l t2 rfl ?_|refine zV.o t2 ?_|((first|refine O _ ?_|refine O _ _ ?_|(clear O;refine O _ ?_));clear O)|(refine zJ fun K O=>?_)|((first|refine zH ?_|refine zN rfl (by kernel_rfl) ?_|refine zM ?_|refine zK (by kernel_rfl) ?_);simp only[vS,vR,strip])|((first|refine wIs fun K O=>?_|refine wOs fun K O=>?_|refine wQs fun K O=>?_|refine zW ?_|refine zX ?_|refine zY ?_|refine zL ?_);simp[h2,h3,b2,b3,h5,h17,h18,h19,b15,hlt])|(refine wIn ?_;refine And.intro (by kernel_rfl) ?_;try simp only[zZ])|refine zR ?_|refine zT ?_|((first|refine zI ?_|refine zO ?_|refine zP ?_);try simp)|((first|refine zS ?_|refine wOn ?_|refine wQn ?_);try simp only[zZ])
    all_goals apply hr
    all_goals simp[Tryz.f104]
   ·simp only[Bool.not_eq_true] at w1
    rw[w1] at t1
    by_cases w2:twL drop=true
    ·rw[w2] at t2
     repeat' first|refine zU.p t1 rfl ?_|refine zU.l t1 rfl ?_|refine zQ.pure t1 rfl ?_|refine zQ.lent t1 rfl ?_|refine zU.o t1 ?_|refine zV.p t1 rfl ?_|refine zV.l t1 rfl ?_|refine zV.o t1 ?_|refine zU.p t2 rfl ?_|refine zU.l t2 rfl ?_|refine zQ.pure t2 rfl ?_|refine zQ.lent t2 rfl ?_|refine zU.o t2 ?_|refine zV.p t2 rfl ?_|refine zV.l t2 rfl ?_|refine zV.o t2 ?_|((first|refine O _ ?_|refine O _ _ ?_|(clear O;refine O _ ?_));clear O)|(refine zJ fun K O=>?_)|((first|refine zH ?_|refine zN rfl (by kernel_rfl) ?_|refine zM ?_|refine zK (by kernel_rfl) ?_);simp only[vS,vR,strip])|((first|refine wIs fun K O=>?_|refine wOs fun K O=>?_|refine wQs fun K O=>?_|refine zW ?_|refine zX ?_|refine zY ?_|refine zL ?_);simp[h2,h3,b2,b3,h5,h17,h18,h19,b15,hlt])|(refine wIn ?_;refine And.intro (by kernel_rfl) ?_;try simp only[zZ])|refine zR ?_|refine zT ?_|((first|refine zI ?_|refine zO ?_|refine zP ?_);try simp)|((first|refine zS ?_|refine wOn ?_|refine wQn ?_);try simp only[zZ])
     all_goals apply hr
     all_goals simp[Tryz.f104]
    ·simp only[Bool.not_eq_true] at w2
     rw[w2] at t2
     by_cases w3:dk<0
     ·repeat' first|(refine zU.p (t1) rfl ?_)|(refine zU.l (t1) rfl ?_)|(refine zQ.pure (t1) rfl ?_)|(refine zQ.lent (t1) rfl ?_)|(refine zU.o (t1) ?_)|(refine zV.p (t1) rfl ?_)|(refine zV.l (t1) rfl ?_)|(refine zV.o (t1) ?_)|(refine zU.p (t2) rfl ?_)|(refine zU.l (t2) rfl ?_)|(refine zQ.pure (t2) rfl ?_)|(refine zQ.lent (t2) rfl ?_)|(refine zU.o (t2) ?_)|(refine zV.p (t2) rfl ?_)|(refine zV.l (t2) rfl ?_)|(refine zV.o (t2) ?_)|(refine O _ ?_;clear O)|(refine O _ _ ?_;clear O)|(clear O;refine O _ ?_;clear O)|(clear O;clear O;refine O _ ?_;clear O)|(clear O;clear O;clear O;refine O _ ?_;clear O)|(clear O;clear O;clear O;clear O;refine O _ ?_;clear O)|(refine zJ fun K O=>?_)|((first|refine zH ?_|refine zN rfl (by kernel_rfl) ?_|refine zM ?_|refine zK (by kernel_rfl) ?_);simp only[vS,vR,strip])|((first|refine wIs fun K O=>?_|refine wOs fun K O=>?_|refine wQs fun K O=>?_|refine zW ?_|refine zX ?_|refine zY ?_|refine zL ?_);simp[h2,h3,b2,b3,h5,h17,h18,h19,b15,hlt,w3])|(refine wIn ?_;refine And.intro (by kernel_rfl) ?_;try simp only[zZ])|(first|refine zR ?_|refine zT ?_)|((first|refine zI ?_|refine zO ?_|refine zP ?_);try simp)|((first|refine zS ?_|refine wOn ?_|refine wQn ?_);try simp only[zZ])
      all_goals apply hr
      all_goals simp[Tryz.f104]
     ·have w4:3<dk:=by
       rcases hwr with h|h|h|h
       ·rw[w1] at h;cases h
       ·rw[w2] at h;cases h
       ·exact (w3 h).elim
       ·exact h
      repeat' first|refine zU.p t1 rfl ?_|refine zU.l t1 rfl ?_|refine zQ.pure t1 rfl ?_|refine zQ.lent t1 rfl ?_|refine zU.o t1 ?_|refine zV.p t1 rfl ?_|refine zV.l t1 rfl ?_|refine zV.o t1 ?_|refine zU.p t2 rfl ?_|refine zU.l t2 rfl ?_|refine zQ.pure t2 rfl ?_|refine zQ.lent t2 rfl ?_|refine zU.o t2 ?_|refine zV.p t2 rfl ?_|refine zV.l t2 rfl ?_|refine zV.o t2 ?_|((first|refine O _ ?_|refine O _ _ ?_|(clear O;refine O _ ?_));clear O)|(refine zJ fun K O=>?_)|((first|refine zH ?_|refine zN rfl (by kernel_rfl) ?_|refine zM ?_|refine zK (by kernel_rfl) ?_);simp only[vS,vR,strip])|((first|refine wIs fun K O=>?_|refine wOs fun K O=>?_|refine wQs fun K O=>?_|refine zW ?_|refine zX ?_|refine zY ?_|refine zL ?_);simp[h2,h3,b2,b3,h5,h17,h18,h19,b15,hlt,w3,w4])|(refine wIn ?_;refine And.intro (by kernel_rfl) ?_;try simp only[zZ])|refine zR ?_|refine zT ?_|((first|refine zI ?_|refine zO ?_|refine zP ?_);try simp)|((first|refine zS ?_|refine wOn ?_|refine wQn ?_);try simp only[zZ])
      all_goals apply hr
      all_goals simp[Tryz.f104]
  ·have hf:fitsE ⟨ep,n,kind,ms⟩ ⟨dk,put,drop⟩=dropE ⟨ep,n,kind,ms⟩ (xM put) drop:=by unfold fitsE;rw[if_neg hwr]
   rw[hf] at hr
   simp only[wrongD,Bool.or_eq_true,decide_eq_true_eq,not_or,Bool.not_eq_true] at hwr
   obtain⟨w1,w2,w3,w4⟩:=hwr
   rw[w1] at t1
   rw[w2] at t2
   repeat' first|refine zU.p t1 rfl ?_|refine zU.l t1 rfl ?_|refine zQ.pure t1 rfl ?_|refine zQ.lent t1 rfl ?_|refine zU.o t1 ?_|refine zV.p t1 rfl ?_|refine zV.l t1 rfl ?_|refine zV.o t1 ?_|refine zU.p t2 rfl ?_|refine zU.l t2 rfl ?_|refine zQ.pure t2 rfl ?_|refine zQ.lent t2 rfl ?_|refine zU.o t2 ?_|refine zV.p t2 rfl ?_|refine zV.l t2 rfl ?_|refine zV.o t2 ?_|((first|refine O _ ?_|refine O _ _ ?_|(clear O;refine O _ ?_));clear O)|(refine zJ fun K O=>?_)|((first|refine zH ?_|refine zN rfl (by kernel_rfl) ?_|refine zM ?_|refine zK (by kernel_rfl) ?_);simp only[vS,vR,strip])|((first|refine wIs fun K O=>?_|refine wOs fun K O=>?_|refine wQs fun K O=>?_|refine zW ?_|refine zX ?_|refine zY ?_|refine zL ?_);simp[h2,h3,b2,b3,h5,h17,h18,h19,b15,hlt,w3,w4])|(refine wIn ?_;refine And.intro (by kernel_rfl) ?_;try simp only[zZ])|refine zR ?_|refine zT ?_|((first|refine zI ?_|refine zO ?_|refine zP ?_);try simp)|((first|refine zS ?_|refine wOn ?_|refine wQn ?_);try simp only[zZ])
   refine zC (fun N st=>∃k,k+N=drop.length/\st.s 2=.ptr 2 0/\st.s 3=.ptr 3 0/\st.b 2=some (.box 28 [.p (I ep),.p (I n),.p (I kind),.p (.sl 4 (mbs ms))])/\st.b 3=some (.box 39 [.p (I dk),.p (.sl 4 (mbs put)),.p (.sl 1 (ints drop))]) ∧
    st.s 5=.row 15/\st.s 48=.p (.sl 1 (ints drop))/\st.s 49=.p (I drop.length)/\st.s 50=.p (I k)/\st.b 15=some (.row 3 1 (ints (xM put)))/\dropE ⟨ep,n,kind,ms⟩ (xM put) (drop.drop k)=dropE ⟨ep,n,kind,ms⟩ (xM put) drop) drop.length ⟨0,by omega,?_⟩ fun K N st hL ⟨k,hk,h2,h3,b2,b3,h5,h48,h49,h50,b15,hi⟩=>?_
   ·simp[h2,h3,b2,b3,h5,b15]
   by_cases hlt:k<drop.length
   ·have hw:=yU k _ hlt (by omega)
    have he:=ints_get hlt
    rw[List.drop_eq_getElem_cons hlt,dropE] at hi
    have cc:=wO (xM put) drop[k]
    have cf:=findM_con ⟨ep,n,kind,ms⟩ drop[k] (by simpa using hc)
    simp only[Cf.cells] at cf hi
    by_cases o1:drop[k]∈xM put
    ·rw[if_pos o1] at hi
     rw[decide_eq_true o1] at cc
     repeat' first|refine zU.p cc rfl ?_|refine zU.l cc rfl ?_|refine zQ.pure cc rfl ?_|refine zQ.lent cc rfl ?_|refine zU.o cc ?_|refine zV.p cc rfl ?_|refine zV.l cc rfl ?_|refine zV.o cc ?_|refine zU.p cf rfl ?_|refine zU.l cf rfl ?_|refine zQ.pure cf rfl ?_|refine zQ.lent cf rfl ?_|refine zU.o cf ?_|refine zV.p cf rfl ?_|refine zV.l cf rfl ?_|refine zV.o cf ?_|((first|refine O _ ?_|refine O _ _ ?_|(clear O;refine O _ ?_));clear O)|(refine zJ fun K O=>?_)|((first|refine zH ?_|refine zN rfl (by kernel_rfl) ?_|refine zM ?_|refine zK (by kernel_rfl) ?_);simp only[vS,vR,strip])|((first|refine wIs fun K O=>?_|refine wOs fun K O=>?_|refine wQs fun K O=>?_|refine zW ?_|refine zX ?_|refine zY ?_|refine zL ?_);simp[h2,h3,b2,b3,h5,h48,h49,h50,b15,hlt,hw])|(refine wIn ?_;refine And.intro (by kernel_rfl) ?_;try simp only[zZ])|refine zR ?_|refine zT ?_|((first|refine zI ?_|refine zO ?_|refine zP ?_);try simp)|((first|refine zS ?_|refine wOn ?_|refine wQn ?_);try simp only[zZ])
     all_goals apply hr
     all_goals simp[Tryz.f104,<- hi]
    ·rw[if_neg o1] at hi
     rw[decide_eq_false o1] at cc
     generalize fm drop[k] ms=f at cf hi
     obtain⟨fm1,fm2⟩:=f
     cases fm2
     ·rw[if_neg (by simp)] at hi
      repeat' first|refine zU.p cc rfl ?_|refine zU.l cc rfl ?_|refine zQ.pure cc rfl ?_|refine zQ.lent cc rfl ?_|refine zU.o cc ?_|refine zV.p cc rfl ?_|refine zV.l cc rfl ?_|refine zV.o cc ?_|refine zU.p cf rfl ?_|refine zU.l cf rfl ?_|refine zQ.pure cf rfl ?_|refine zQ.lent cf rfl ?_|refine zU.o cf ?_|refine zV.p cf rfl ?_|refine zV.l cf rfl ?_|refine zV.o cf ?_|((first|refine O _ ?_|refine O _ _ ?_|(clear O;refine O _ ?_));clear O)|(refine zJ fun K O=>?_)|((first|refine zH ?_|refine zN rfl (by kernel_rfl) ?_|refine zM ?_|refine zK (by kernel_rfl) ?_);simp only[vS,vR,strip])|((first|refine wIs fun K O=>?_|refine wOs fun K O=>?_|refine wQs fun K O=>?_|refine zW ?_|refine zX ?_|refine zY ?_|refine zL ?_);simp[h2,h3,b2,b3,h5,h48,h49,h50,b15,hlt,hw])|(refine wIn ?_;refine And.intro (by kernel_rfl) ?_;try simp only[zZ])|refine zR ?_|refine zT ?_|((first|refine zI ?_|refine zO ?_|refine zP ?_);try simp)|((first|refine zS ?_|refine wOn ?_|refine wQn ?_);try simp only[zZ])
      all_goals apply hr
      all_goals simp[Tryz.f104,<- hi]
     ·rw[if_pos rfl] at hi
      repeat' first|refine zU.p cc rfl ?_|refine zU.l cc rfl ?_|refine zQ.pure cc rfl ?_|refine zQ.lent cc rfl ?_|refine zU.o cc ?_|refine zV.p cc rfl ?_|refine zV.l cc rfl ?_|refine zV.o cc ?_|refine zU.p cf rfl ?_|refine zU.l cf rfl ?_|refine zQ.pure cf rfl ?_|refine zQ.lent cf rfl ?_|refine zU.o cf ?_|refine zV.p cf rfl ?_|refine zV.l cf rfl ?_|refine zV.o cf ?_|((first|refine O _ ?_|refine O _ _ ?_|(clear O;refine O _ ?_));clear O)|(refine zJ fun K O=>?_)|((first|refine zH ?_|refine zN rfl (by kernel_rfl) ?_|refine zM ?_|refine zK (by kernel_rfl) ?_);simp only[vS,vR,strip])|((first|refine wIs fun K O=>?_|refine wOs fun K O=>?_|refine wQs fun K O=>?_|refine zW ?_|refine zX ?_|refine zY ?_|refine zL ?_);simp[h2,h3,b2,b3,h5,h48,h49,h50,b15,hlt,hw])|(refine wIn ?_;refine And.intro (by kernel_rfl) ?_;try simp only[zZ])|refine zR ?_|refine zT ?_|((first|refine zI ?_|refine zO ?_|refine zP ?_);try simp)|((first|refine zS ?_|refine wOn ?_|refine wQn ?_);try simp only[zZ])
      refine hL _ (N-1) (by omega) ⟨k+1,by omega,?_⟩
      simp[h2,h3,b2,b3,h5,h48,h49,hw,b15,hi]
   ·rw[List.drop_of_length_le (by omega),dropE] at hi
    repeat' first|((first|refine O _ ?_|refine O _ _ ?_|(clear O;refine O _ ?_));clear O)|(refine zJ fun K O=>?_)|((first|refine zH ?_|refine zN rfl (by kernel_rfl) ?_|refine zM ?_|refine zK (by kernel_rfl) ?_);simp only[vS,vR,strip])|((first|refine wIs fun K O=>?_|refine wOs fun K O=>?_|refine wQs fun K O=>?_|refine zW ?_|refine zX ?_|refine zY ?_|refine zL ?_);simp[h2,h3,b2,b3,h5,h48,h49,h50,b15,hlt])|(refine wIn ?_;refine And.intro (by kernel_rfl) ?_;try simp only[zZ])|refine zR ?_|refine zT ?_|((first|refine zI ?_|refine zO ?_|refine zP ?_);try simp)|((first|refine zS ?_|refine wOn ?_|refine wQn ?_);try simp only[zZ])
    all_goals apply hr
    all_goals simp[Tryz.f104,<- hi]
theorem flatL_mbs (l:List Mb):flatL (mbs l)=true:=by
 unfold flatL mbs
 rw[List.all_eq_true]
 intro e he
 obtain⟨m,-,rfl⟩:=List.mem_map.1 he
 simp[Mb.cells]
def yO (c:Cf)(d:Dl):List Mb:=c.ms.filter fun m => !(decide (m.i∈d.drop)) && !(hasI d.put m.i)
def chg (c:Cf)(d:Dl):Cf:=⟨0,0,if d.kind=0 then c.kind else d.kind,stS (yO c d++d.put)⟩
theorem keepM_snoc (dr:List Int)(put ms:List Mb)(ep n kind dk:Int)(k:Nat)(h:k<ms.length):yO ⟨ep,n,kind,ms.take (k+1)⟩ ⟨dk,put,dr⟩=if ms[k].i∈dr then yO ⟨ep,n,kind,ms.take k⟩ ⟨dk,put,dr⟩ else if hasI put ms[k].i=true then yO ⟨ep,n,kind,ms.take k⟩ ⟨dk,put,dr⟩ else yO ⟨ep,n,kind,ms.take k⟩ ⟨dk,put,dr⟩++[ms[k]]:=by
 unfold yO
 simp only
 rw[take_snoc _ k h,List.filter_append]
 by_cases o1:ms[k].i∈dr
 ·rw[if_pos o1];simp[List.filter,o1]
 ·rw[if_neg o1]
  by_cases o2:hasI put ms[k].i=true
  ·rw[if_pos o2];simp[List.filter,o1,o2]
  ·rw[if_neg o2];simp only[Bool.not_eq_true] at o2;simp[List.filter,o1,o2]
theorem keepM_len (c:Cf)(d:Dl):(yO c d).length<=c.ms.length:=by simp[yO,List.length_filter_le]
theorem hasI_drop (put:List Mb)(id:Int)(k:Nat)(h:k<put.length):hasI (put.drop k) id=(decide (put[k].i=id) || hasI (put.drop (k+1)) id):=by
 rw[List.drop_eq_getElem_cons h];rfl
set_option maxHeartbeats 1000000 in
theorem changedD_con (c:Cf)(d:Dl)(hl:(yO c d++d.put).length<=1000000)(hc:c.ms.length<=1000000)(hd:d.drop.length<=1000000):zE Tryz.prog 105 [.p (.agg c.cells),.p (.agg d.cells)] (.p (.agg (chg c d).cells)):=by
 have hs:=sortW_con (yO c d++d.put) hl
 obtain⟨ep,n,kind,ms⟩:=c
 obtain⟨dk,put,drop⟩:=d
 have hp:put.length<=1000000:=by simp at hl;omega
 simp only[Cf.cells,Dl.cells,chg] at *
 refine zG Tryz.tab Tryz.mixed Tryz.func105 rfl rfl Tryz.ntmps105 (by simp) (by simp) fun Q hr hn=>?_
 repeat' first|((first|refine O _ ?_|refine O _ _ ?_|(clear O;(first|refine O _ ?_|(clear O;(first|refine O _ ?_|(clear O;(first|refine O _ ?_|(clear O;refine O _ ?_))))))));clear O)|(refine zJ fun K O=>?_)|((first|refine zH ?_|refine zN rfl (by kernel_rfl) ?_|refine zM ?_|refine zK (by kernel_rfl) ?_);simp only[vS,vR,strip])|((first|refine wIs fun K O=>?_|refine wOs fun K O=>?_|refine wQs fun K O=>?_|refine zW ?_|refine zX ?_|refine zY ?_|refine zL ?_);simp)|(refine wIn ?_;refine And.intro (by kernel_rfl) ?_;try simp only[zZ])|refine zR ?_|refine zT ?_|((first|refine zI ?_|refine zO ?_|refine zP ?_);try simp)|((first|refine zS ?_|refine wOn ?_|refine wQn ?_);try simp only[zZ])
 refine wLoopG [.row 5 71 4] (fun N st=>∃k,k+N=ms.length/\st.s 2=.ptr 2 0/\st.s 3=.ptr 3 0/\st.s 4=.ptr 4 0/\st.b 2=some (.box 28 [.p (I ep),.p (I n),.p (I kind),.p (.sl 4 (mbs ms))])/\st.b 3=some (.box 39 [.p (I dk),.p (.sl 4 (mbs put)),.p (.sl 1 (ints drop))]) ∧
  st.s 5=.row 5/\st.s 12=.p (.sl 4 (mbs ms))/\st.s 13=.p (I ms.length)/\st.s 14=.p (I k)/\(∃z,st.b 4=some (.box 28 z)/\z.length=4)/\st.b 5=some (.row 71 4 (mbs (yO ⟨ep,n,kind,ms.take k⟩ ⟨dk,put,drop⟩)))) ms.length ⟨0,by simp[yO,mbs]⟩ fun K N st hL ⟨k,hk,h2,h3,h4,b2,b3,h5,h12,h13,h14,⟨z,b4,hz⟩,b5⟩=>?_
 by_cases hlt:k<ms.length
 ·have hw:=yU k _ hlt (by omega)
  have he:=mbs_get hlt
  have hsn:=keepM_snoc drop put ms ep n kind dk k hlt
  have hln:(yO ⟨ep,n,kind,ms.take k⟩ ⟨dk,put,drop⟩).length<=k:=Nat.le_trans (keepM_len _ _) (by simp;omega)
  have cc:=wO drop ms[k].i
  by_cases o1:ms[k].i∈drop
  ·rw[if_pos o1] at hsn
   rw[decide_eq_true o1] at cc
   repeat' first|refine zU.p cc rfl ?_|refine zU.l cc rfl ?_|refine zQ.pure cc rfl ?_|refine zQ.lent cc rfl ?_|refine zU.o cc ?_|refine zV.p cc rfl ?_|refine zV.l cc rfl ?_|refine zV.o cc ?_|((first|refine O _ ?_|refine O _ _ ?_|(clear O;(first|refine O _ ?_|(clear O;(first|refine O _ ?_|(clear O;(first|refine O _ ?_|(clear O;refine O _ ?_))))))));clear O)|(refine zJ fun K O=>?_)|((first|refine zH ?_|refine zN rfl (by kernel_rfl) ?_|refine zM ?_|refine zK (by kernel_rfl) ?_);simp only[vS,vR,strip])|((first|refine wIs fun K O=>?_|refine wOs fun K O=>?_|refine wQs fun K O=>?_|refine zW ?_|refine zX ?_|refine zY ?_|refine zL ?_);simp[h2,h3,h4,b2,b3,h5,h12,h13,h14,b4,b5,hlt,hw])|(refine wIn ?_;refine And.intro (by kernel_rfl) ?_;try simp only[zZ])|refine zR ?_|refine zT ?_|((first|refine zI ?_|refine zO ?_|refine zP ?_);try simp)|((first|refine zS ?_|refine wOn ?_|refine wQn ?_);try simp only[zZ])
   refine hL _ (N-1) (by omega) ⟨k+1,by omega,?_⟩
   simp[h2,h3,h4,b2,b3,h5,h12,h13,hw,b4,b5,hsn,hz]
  ·rw[if_neg o1] at hsn
   rw[decide_eq_false o1] at cc
   repeat' first|refine zU.p cc rfl ?_|refine zU.l cc rfl ?_|refine zQ.pure cc rfl ?_|refine zQ.lent cc rfl ?_|refine zU.o cc ?_|refine zV.p cc rfl ?_|refine zV.l cc rfl ?_|refine zV.o cc ?_|((first|refine O _ ?_|refine O _ _ ?_|(clear O;(first|refine O _ ?_|(clear O;(first|refine O _ ?_|(clear O;(first|refine O _ ?_|(clear O;refine O _ ?_))))))));clear O)|(refine zJ fun K O=>?_)|((first|refine zH ?_|refine zN rfl (by kernel_rfl) ?_|refine zM ?_|refine zK (by kernel_rfl) ?_);simp only[vS,vR,strip])|((first|refine wIs fun K O=>?_|refine wOs fun K O=>?_|refine wQs fun K O=>?_|refine zW ?_|refine zX ?_|refine zY ?_|refine zL ?_);simp[h2,h3,h4,b2,b3,h5,h12,h13,h14,b4,b5,hlt,hw])|(refine wIn ?_;refine And.intro (by kernel_rfl) ?_;try simp only[zZ])|refine zR ?_|refine zT ?_|((first|refine zI ?_|refine zO ?_|refine zP ?_);try simp)|((first|refine zS ?_|refine wOn ?_|refine wQn ?_);try simp only[zZ])
   refine zC (fun N st=>∃j,j+N=put.length/\st.s 2=.ptr 2 0/\st.s 3=.ptr 3 0/\st.s 4=.ptr 4 0/\st.s 7=.ptr 7 0/\st.b 2=some (.box 28 [.p (I ep),.p (I n),.p (I kind),.p (.sl 4 (mbs ms))])/\st.b 3=some (.box 39 [.p (I dk),.p (.sl 4 (mbs put)),.p (.sl 1 (ints drop))]) ∧
    st.s 5=.row 5/\st.s 12=.p (.sl 4 (mbs ms))/\st.s 13=.p (I ms.length)/\st.s 14=.p (I k)/\(∃z,st.b 4=some (.box 28 z)/\z.length=4)/\st.b 5=some (.row 71 4 (mbs (yO ⟨ep,n,kind,ms.take k⟩ ⟨dk,put,drop⟩))) ∧
    st.b 7=some (.box 71 [.p (I ms[k].i),.p (I ms[k].r),.p (I ms[k].w),.p (I ms[k].g)])/\st.s 24=.p (.sl 4 (mbs put))/\st.s 25=.p (I put.length)/\st.s 26=.p (I j)/\hasI (put.drop j) ms[k].i=hasI put ms[k].i) put.length ⟨0,by omega,?_⟩ fun K' N' st hL2 ⟨j,hj,h2,h3,h4,h7,b2,b3,h5,h12,h13,h14,⟨z,b4,hz⟩,b5,b7,h24,h25,h26,hi⟩=>?_
   ·simp[h2,h3,h4,b2,b3,h5,h12,h13,h14,b4,b5,hz]
   by_cases hlj:j<put.length
   ·have hwj:=yU j _ hlj (by omega)
    have hej:=mbs_get hlj
    rw[hasI_drop _ _ _ hlj] at hi
    by_cases o2:put[j].i=ms[k].i
    ·rw[decide_eq_true o2,Bool.true_or] at hi
     rw[<- hi,if_pos rfl] at hsn
     replace o2:(put[j].i=ms[k].i)=True:=eq_true o2
     repeat' first|((first|refine O _ ?_|refine O _ _ ?_|(clear O;(first|refine O _ ?_|(clear O;(first|refine O _ ?_|(clear O;(first|refine O _ ?_|(clear O;refine O _ ?_))))))));clear O)|(refine zJ fun K O=>?_)|((first|refine zH ?_|refine zN rfl (by kernel_rfl) ?_|refine zM ?_|refine zK (by kernel_rfl) ?_);simp only[vS,vR,strip])|((first|refine wIs fun K O=>?_|refine wOs fun K O=>?_|refine wQs fun K O=>?_|refine zW ?_|refine zX ?_|refine zY ?_|refine zL ?_);simp[h2,h3,h4,h7,b2,b3,h5,h12,h13,h14,b4,b5,b7,h24,h25,h26,hlt,hw,hlj,hwj,o2])|(refine wIn ?_;refine And.intro (by kernel_rfl) ?_;try simp only[zZ])|refine zR ?_|refine zT ?_|((first|refine zI ?_|refine zO ?_|refine zP ?_);try simp)|((first|refine zS ?_|refine wOn ?_|refine wQn ?_);try simp only[zZ])
     refine hL _ (N-1) (by omega) ⟨k+1,by omega,?_⟩
     simp[h2,h3,h4,b2,b3,h5,h12,h13,hw,b4,b5,hsn,hz]
    ·rw[decide_eq_false o2,Bool.false_or] at hi
     repeat' first|((first|refine O _ ?_|refine O _ _ ?_|(clear O;(first|refine O _ ?_|(clear O;(first|refine O _ ?_|(clear O;(first|refine O _ ?_|(clear O;refine O _ ?_))))))));clear O)|(refine zJ fun K O=>?_)|((first|refine zH ?_|refine zN rfl (by kernel_rfl) ?_|refine zM ?_|refine zK (by kernel_rfl) ?_);simp only[vS,vR,strip])|((first|refine wIs fun K O=>?_|refine wOs fun K O=>?_|refine wQs fun K O=>?_|refine zW ?_|refine zX ?_|refine zY ?_|refine zL ?_);simp[h2,h3,h4,h7,b2,b3,h5,h12,h13,h14,b4,b5,b7,h24,h25,h26,hlt,hlj,hwj,o2])|(refine wIn ?_;refine And.intro (by kernel_rfl) ?_;try simp only[zZ])|refine zR ?_|refine zT ?_|((first|refine zI ?_|refine zO ?_|refine zP ?_);try simp)|((first|refine zS ?_|refine wOn ?_|refine wQn ?_);try simp only[zZ])
     refine hL2 _ (N'-1) (by omega) ⟨j+1,by omega,?_⟩
     simp[h2,h3,h4,h7,b2,b3,h5,h12,h13,h14,hwj,b4,b5,b7,h24,h25,hz,hi]
   ·rw[List.drop_of_length_le (by omega)] at hi
    rw[show hasI [] ms[k].i=false from rfl] at hi
    rw[<- hi,if_neg (by simp)] at hsn
    repeat' first|(refine And.intro (by omega) ?_)|((first|refine O _ ?_|refine O _ _ ?_|(clear O;(first|refine O _ ?_|(clear O;(first|refine O _ ?_|(clear O;(first|refine O _ ?_|(clear O;refine O _ ?_))))))));clear O)|(refine zJ fun K O=>?_)|((first|refine zH ?_|refine zN rfl (by kernel_rfl) ?_|refine zM ?_|refine zK (by kernel_rfl) ?_);simp only[vS,vR,strip])|((first|refine wIs fun K O=>?_|refine wOs fun K O=>?_|refine wQs fun K O=>?_|refine zW ?_|refine zX ?_|refine zY ?_|refine zL ?_);simp[h2,h3,h4,h7,b2,b3,h5,h12,h13,h14,b4,b5,b7,h24,h25,h26,hlt,hw,hlj])|(refine wIn ?_;refine And.intro (by kernel_rfl) ?_;try simp only[zZ])|refine zR ?_|refine zT ?_|((first|refine zI ?_|refine zO ?_|refine zP ?_);try simp)|((first|refine zS ?_|refine wOn ?_|refine wQn ?_);try simp only[zZ])
    refine hL _ (N-1) (by omega) ⟨k+1,by omega,?_⟩
    simp[h2,h3,h4,b2,b3,h5,h12,h13,hw,b4,b5,hsn,hz,mbs,Mb.cells]
 ·rw[List.take_of_length_le (by omega)] at b5
  have ha:=mbs_app (yO ⟨ep,n,kind,ms⟩ ⟨dk,put,drop⟩) put
  have hl1:(yO ⟨ep,n,kind,ms⟩ ⟨dk,put,drop⟩).length<=1000000:=by simp at hl;omega
  generalize yO ⟨ep,n,kind,ms⟩ ⟨dk,put,drop⟩=kp at *
  rw[List.length_append] at hl
  rw[ha] at hs
  generalize stS (kp++put)=sr at *
  obtain⟨z0,z1,z2,z3,rfl⟩:∃z0 z1 z2 z3,z=[z0,z1,z2,z3]:=by
   match z,hz with
   |[z0,z1,z2,z3],_=>exact⟨z0,z1,z2,z3,rfl⟩
  by_cases hk0:dk=0
  ·rw[if_pos hk0] at hr
   repeat' first|(refine zV.ownL hs (flatL_mbs _) ?_)|(refine And.intro (by omega) ?_)|(refine Or.inl ?_)|((first|refine O _ ?_|refine O _ _ ?_|(clear O;(first|refine O _ ?_|(clear O;(first|refine O _ ?_|(clear O;(first|refine O _ ?_|(clear O;refine O _ ?_))))))));clear O)|(refine zJ fun K O=>?_)|((first|refine zH ?_|refine zN rfl (by kernel_rfl) ?_|refine zM ?_|refine zK (by kernel_rfl) ?_);simp only[vS,vR,strip])|((first|refine wIs fun K O=>?_|refine wOs fun K O=>?_|refine wQs fun K O=>?_|refine zW ?_|refine zX ?_|refine zY ?_|refine zL ?_);simp[h2,h3,h4,b2,b3,h5,h12,h13,h14,b4,b5,hlt,hk0])|(refine wIn ?_;refine And.intro (by kernel_rfl) ?_;try simp only[zZ])|refine zR ?_|refine zT ?_|((first|refine zI ?_|refine zO ?_|refine zP ?_);try simp)|((first|refine zS ?_|refine wOn ?_|refine wQn ?_);try simp only[zZ])
   all_goals apply hr
   all_goals simp[Tryz.f105,h4,b4,Cf.cells]
  ·rw[if_neg hk0] at hr
   repeat' first|(refine zV.ownL hs (flatL_mbs _) ?_)|(refine And.intro (by omega) ?_)|(refine Or.inl ?_)|((first|refine O _ ?_|refine O _ _ ?_|(clear O;(first|refine O _ ?_|(clear O;(first|refine O _ ?_|(clear O;(first|refine O _ ?_|(clear O;refine O _ ?_))))))));clear O)|(refine zJ fun K O=>?_)|((first|refine zH ?_|refine zN rfl (by kernel_rfl) ?_|refine zM ?_|refine zK (by kernel_rfl) ?_);simp only[vS,vR,strip])|((first|refine wIs fun K O=>?_|refine wOs fun K O=>?_|refine wQs fun K O=>?_|refine zW ?_|refine zX ?_|refine zY ?_|refine zL ?_);simp[h2,h3,h4,b2,b3,h5,h12,h13,h14,b4,b5,hlt,hk0])|(refine wIn ?_;refine And.intro (by kernel_rfl) ?_;try simp only[zZ])|refine zR ?_|refine zT ?_|((first|refine zI ?_|refine zO ?_|refine zP ?_);try simp)|((first|refine zS ?_|refine wOn ?_|refine wQn ?_);try simp only[zZ])
   all_goals apply hr
   all_goals simp[Tryz.f105,h4,b4,Cf.cells]
theorem ownCfD_con (c:Cf)(hl:c.ms.length<=1000000):zE Tryz.prog 29 [.p (.agg c.cells)] (.p (.agg c.cells)):=by
 have c0:=clone_ok (c:=4) (g:=60) rfl (mbs c.ms) (by simp;omega)
 obtain⟨e,n,k,ms⟩:=c
 simp only[Cf.cells] at *
 refine zG Tryz.tab Tryz.mixed Tryz.func29 rfl rfl Tryz.ntmps29 (by simp) (by simp) fun Q hr hn=>?_
 repeat' first|refine zU.p c0 rfl ?_|refine zU.l c0 rfl ?_|refine zQ.pure c0 rfl ?_|refine zQ.lent c0 rfl ?_|refine zU.o c0 ?_|refine zV.p c0 rfl ?_|refine zV.l c0 rfl ?_|refine zV.o c0 ?_|((first|refine O _ ?_|refine O _ _ ?_|(clear O;refine O _ ?_));clear O)|(refine zJ fun K O=>?_)|((first|refine zH ?_|refine zN rfl (by kernel_rfl) ?_|refine zM ?_|refine zK (by kernel_rfl) ?_);simp only[vS,vR,strip])|((first|refine wIs fun K O=>?_|refine wOs fun K O=>?_|refine wQs fun K O=>?_|refine zW ?_|refine zX ?_|refine zY ?_|refine zL ?_);simp)|(refine wIn ?_;refine And.intro (by kernel_rfl) ?_;try simp only[zZ])|refine zR ?_|refine zT ?_|((first|refine zI ?_|refine zO ?_|refine zP ?_);try simp)|((first|refine zS ?_|refine wOn ?_|refine wQn ?_);try simp only[zZ])
 all_goals apply hr
 all_goals simp[Tryz.f29]
def appE (c:Cf)(d:Dl)(e n:Int):Int:=if check c=0 then if fitsE c d=0 then check { chg c d with ep:=e,n:=n } else fitsE c d else 16
def appC (c:Cf)(d:Dl)(e n:Int):Cf:=if appE c d e n=0 then { chg c d with ep:=e,n:=n } else c
set_option maxHeartbeats 2000000 in
theorem applyD_con (c:Cf)(d:Dl)(e n:Int)(hl:check c=0->fitsE c d=0->(yO c d++d.put).length<=1000000)(hc:c.ms.length<=1000000)(hp:d.put.length<=1000000)(hd:d.drop.length<=1000000) :
 zE Tryz.prog 87 [.p (.agg c.cells),.p (.agg d.cells),.p (.agg [I e,I n])] (.tup [.p (.agg (appC c d e n).cells),.p (I (appE c d e n))]):=by
 have c1:=checkM_con c hc
 have c2:=fits_con c d hc hp hd
 have co:=ownCfD_con c hc
 unfold appC appE
 by_cases h1:check c=0
 ·by_cases h2:fitsE c d=0
  ·have c3:=changedD_con c d (hl h1 h2) hc hd
   have hlen:(chg c d).ms.length<=1000000:=by
    have:=hl h1 h2
    simp only[chg,stS_len];omega
   have c4:=checkM_con { chg c d with ep:=e,n:=n } hlen
   rw[if_pos h1,if_pos h2]
   rw[h1] at c1
   rw[h2] at c2
   generalize hz:check { chg c d with ep:=e,n:=n }=z at *
   have e1:(chg c d).cells=[I 0,I 0,I (chg c d).kind,.sl 4 (mbs (chg c d).ms)]:=rfl
   rw[e1] at c3
   simp only[Cf.cells] at c4 ⊢
   generalize (chg c d).kind=k' at *
   generalize (chg c d).ms=m' at *
   clear hl hz e1
   obtain⟨ep,nn,kind,ms⟩:=c
   obtain⟨dk,put,drop⟩:=d
   simp only[Cf.cells,Dl.cells] at *
   by_cases h3:z=0
   ·subst h3
    refine zG Tryz.tab Tryz.mixed Tryz.func87 rfl rfl Tryz.ntmps87 (by simp) (by simp) fun Q hr hn=>?_
    repeat' first|refine zU.p c1 rfl ?_|refine zU.l c1 rfl ?_|refine zQ.pure c1 rfl ?_|refine zQ.lent c1 rfl ?_|refine zU.o c1 ?_|refine zV.p c1 rfl ?_|refine zV.l c1 rfl ?_|refine zV.o c1 ?_|refine zU.p c2 rfl ?_|refine zU.l c2 rfl ?_|refine zQ.pure c2 rfl ?_|refine zQ.lent c2 rfl ?_|refine zU.o c2 ?_|refine zV.p c2 rfl ?_|refine zV.l c2 rfl ?_|refine zV.o c2 ?_|refine zU.p c3 rfl ?_|refine zU.l c3 rfl ?_|refine zQ.pure c3 rfl ?_|refine zQ.lent c3 rfl ?_|refine zU.o c3 ?_|refine zV.p c3 rfl ?_|refine zV.l c3 rfl ?_|refine zV.o c3 ?_|refine zU.p c4 rfl ?_|refine zU.l c4 rfl ?_|refine zQ.pure c4 rfl ?_|refine zQ.lent c4 rfl ?_|refine zU.o c4 ?_|refine zV.p c4 rfl ?_|refine zV.l c4 rfl ?_|refine zV.o c4 ?_|refine zU.p co rfl ?_|refine zU.l co rfl ?_|refine zQ.pure co rfl ?_|refine zQ.lent co rfl ?_|refine zU.o co ?_|refine zV.p co rfl ?_|refine zV.l co rfl ?_|refine zV.o co ?_|((first|refine O _ ?_|refine O _ _ ?_|(clear O;refine O _ ?_));clear O)|(refine zJ fun K O=>?_)|((first|refine zH ?_|refine zN rfl (by kernel_rfl) ?_|refine zM ?_|refine zK (by kernel_rfl) ?_);simp only[vS,vR,strip])|((first|refine wIs fun K O=>?_|refine wOs fun K O=>?_|refine wQs fun K O=>?_|refine zW ?_|refine zX ?_|refine zY ?_|refine zL ?_);simp)|(refine wIn ?_;refine And.intro (by kernel_rfl) ?_;try simp only[zZ])|refine zR ?_|refine zT ?_|((first|refine zI ?_|refine zO ?_|refine zP ?_);try simp)|((first|refine zS ?_|refine wOn ?_|refine wQn ?_);try simp only[zZ])
    all_goals apply hr
    all_goals simp[Tryz.f87]
   ·rw[if_neg h3]
    refine zG Tryz.tab Tryz.mixed Tryz.func87 rfl rfl Tryz.ntmps87 (by simp) (by simp) fun Q hr hn=>?_
    repeat' first|refine zU.p c1 rfl ?_|refine zU.l c1 rfl ?_|refine zQ.pure c1 rfl ?_|refine zQ.lent c1 rfl ?_|refine zU.o c1 ?_|refine zV.p c1 rfl ?_|refine zV.l c1 rfl ?_|refine zV.o c1 ?_|refine zU.p c2 rfl ?_|refine zU.l c2 rfl ?_|refine zQ.pure c2 rfl ?_|refine zQ.lent c2 rfl ?_|refine zU.o c2 ?_|refine zV.p c2 rfl ?_|refine zV.l c2 rfl ?_|refine zV.o c2 ?_|refine zU.p c3 rfl ?_|refine zU.l c3 rfl ?_|refine zQ.pure c3 rfl ?_|refine zQ.lent c3 rfl ?_|refine zU.o c3 ?_|refine zV.p c3 rfl ?_|refine zV.l c3 rfl ?_|refine zV.o c3 ?_|refine zU.p c4 rfl ?_|refine zU.l c4 rfl ?_|refine zQ.pure c4 rfl ?_|refine zQ.lent c4 rfl ?_|refine zU.o c4 ?_|refine zV.p c4 rfl ?_|refine zV.l c4 rfl ?_|refine zV.o c4 ?_|refine zU.p co rfl ?_|refine zU.l co rfl ?_|refine zQ.pure co rfl ?_|refine zQ.lent co rfl ?_|refine zU.o co ?_|refine zV.p co rfl ?_|refine zV.l co rfl ?_|refine zV.o co ?_|((first|refine O _ ?_|refine O _ _ ?_|(clear O;refine O _ ?_));clear O)|(refine zJ fun K O=>?_)|((first|refine zH ?_|refine zN rfl (by kernel_rfl) ?_|refine zM ?_|refine zK (by kernel_rfl) ?_);simp only[vS,vR,strip])|((first|refine wIs fun K O=>?_|refine wOs fun K O=>?_|refine wQs fun K O=>?_|refine zW ?_|refine zX ?_|refine zY ?_|refine zL ?_);simp[h3])|(refine wIn ?_;refine And.intro (by kernel_rfl) ?_;try simp only[zZ])|refine zR ?_|refine zT ?_|((first|refine zI ?_|refine zO ?_|refine zP ?_);try simp)|((first|refine zS ?_|refine wOn ?_|refine wQn ?_);try simp only[zZ])
    all_goals apply hr
    all_goals simp[Tryz.f87]
  ·rw[if_pos h1,if_neg h2]
   rw[if_neg h2]
   rw[h1] at c1
   generalize fitsE c d=z at *
   clear hl
   obtain⟨ep,nn,kind,ms⟩:=c
   obtain⟨dk,put,drop⟩:=d
   simp only[Cf.cells,Dl.cells] at *
   refine zG Tryz.tab Tryz.mixed Tryz.func87 rfl rfl Tryz.ntmps87 (by simp) (by simp) fun Q hr hn=>?_
   repeat' first|refine zU.p c1 rfl ?_|refine zU.l c1 rfl ?_|refine zQ.pure c1 rfl ?_|refine zQ.lent c1 rfl ?_|refine zU.o c1 ?_|refine zV.p c1 rfl ?_|refine zV.l c1 rfl ?_|refine zV.o c1 ?_|refine zU.p c2 rfl ?_|refine zU.l c2 rfl ?_|refine zQ.pure c2 rfl ?_|refine zQ.lent c2 rfl ?_|refine zU.o c2 ?_|refine zV.p c2 rfl ?_|refine zV.l c2 rfl ?_|refine zV.o c2 ?_|refine zU.p co rfl ?_|refine zU.l co rfl ?_|refine zQ.pure co rfl ?_|refine zQ.lent co rfl ?_|refine zU.o co ?_|refine zV.p co rfl ?_|refine zV.l co rfl ?_|refine zV.o co ?_|((first|refine O _ ?_|refine O _ _ ?_|(clear O;refine O _ ?_));clear O)|(refine zJ fun K O=>?_)|((first|refine zH ?_|refine zN rfl (by kernel_rfl) ?_|refine zM ?_|refine zK (by kernel_rfl) ?_);simp only[vS,vR,strip])|((first|refine wIs fun K O=>?_|refine wOs fun K O=>?_|refine wQs fun K O=>?_|refine zW ?_|refine zX ?_|refine zY ?_|refine zL ?_);simp[h2])|(refine wIn ?_;refine And.intro (by kernel_rfl) ?_;try simp only[zZ])|refine zR ?_|refine zT ?_|((first|refine zI ?_|refine zO ?_|refine zP ?_);try simp)|((first|refine zS ?_|refine wOn ?_|refine wQn ?_);try simp only[zZ])
   all_goals apply hr
   all_goals simp[Tryz.f87]
 ·rw[if_neg h1,if_neg (by decide:¬ (16:Int)=0)]
  generalize check c=z at *
  clear hl
  obtain⟨ep,nn,kind,ms⟩:=c
  obtain⟨dk,put,drop⟩:=d
  simp only[Cf.cells,Dl.cells] at *
  refine zG Tryz.tab Tryz.mixed Tryz.func87 rfl rfl Tryz.ntmps87 (by simp) (by simp) fun Q hr hn=>?_
  repeat' first|refine zU.p c1 rfl ?_|refine zU.l c1 rfl ?_|refine zQ.pure c1 rfl ?_|refine zQ.lent c1 rfl ?_|refine zU.o c1 ?_|refine zV.p c1 rfl ?_|refine zV.l c1 rfl ?_|refine zV.o c1 ?_|refine zU.p co rfl ?_|refine zU.l co rfl ?_|refine zQ.pure co rfl ?_|refine zQ.lent co rfl ?_|refine zU.o co ?_|refine zV.p co rfl ?_|refine zV.l co rfl ?_|refine zV.o co ?_|((first|refine O _ ?_|refine O _ _ ?_|(clear O;refine O _ ?_));clear O)|(refine zJ fun K O=>?_)|((first|refine zH ?_|refine zN rfl (by kernel_rfl) ?_|refine zM ?_|refine zK (by kernel_rfl) ?_);simp only[vS,vR,strip])|((first|refine wIs fun K O=>?_|refine wOs fun K O=>?_|refine wQs fun K O=>?_|refine zW ?_|refine zX ?_|refine zY ?_|refine zL ?_);simp[h1])|(refine wIn ?_;refine And.intro (by kernel_rfl) ?_;try simp only[zZ])|refine zR ?_|refine zT ?_|((first|refine zI ?_|refine zO ?_|refine zP ?_);try simp)|((first|refine zS ?_|refine wOn ?_|refine wQn ?_);try simp only[zZ])
  all_goals apply hr
  all_goals simp[Tryz.f87]
end Go.Proofs.YtpihbhacmokekaaGreatDoor
