/- Texts that the proof needs: DEW DFW PR9 PRF PRG PRC XQ. -/
import Derived.Test.YtedbbcmokbogpaaGreatDoorP42PrepNumbers
import Derived.Test.YtedbbcmokbogpaaGreatDoorP44PrepNumbers
import Derived.Test.YtedbbcmokbogpaaGreatDoorP32PrepNumbers
import Derived.Test.YtedbbcmokbogpaaGreatDoorP31PrepNumbers
namespace Go.Proofs.YtedbbcmokbogpaaGreatDoor
set_option linter.unusedSimpArgs false
set_option linter.unusedVariables false
open Go Go.Av
attribute [local irreducible] Go.Av.yP Go.Av.zU Go.Av.yN Go.Av.zT Go.Av.yO Go.Av.zV Go.Av.Con
def pids (l:List Mb):List Int:=l.map Mb.i
@[simp] theorem pids_len (l:List Mb):(pids l).length=l.length:=by simp[pids]
def twL (l:List Int):Bool:=decide (¬ l.Nodup)
theorem nodup_snoc (l:List Int)(k:Nat)(h:k<l.length):(l.take (k+1)).Nodup ↔ (l.take k).Nodup/\l[k] ∉ l.take k:=by
 rw[take_snoc _ k h,List.nodup_append]
 constructor
 ·rintro ⟨h1, -,h3⟩
  exact⟨h1,fun hm=>h3 _ hm _ (by simp) rfl⟩
 ·rintro ⟨h1,h2⟩
  exact⟨h1,by simp,fun a ha b hb=>by rw[List.mem_singleton.1 hb];intro h4;exact h2 (h4 ▸ ha)⟩
theorem nodup_take {l:List Int}(k:Nat)(h:¬ (l.take k).Nodup):¬ l.Nodup:=fun hn=>h (hn.sublist (List.take_sublist _ _))
theorem set_takeD {α:Type}(l:List α)(k:Nat)(x:α)(h:k<l.length):(l.set k x).take (k+1)=l.take k++[x]:=by
 rw[List.take_succ_eq_append_getElem (by simpa using h),List.getElem_set_self]
 congr 1
 apply List.ext_getElem?
 intro i
 by_cases hi:i<k
 ·rw[List.getElem?_take_of_lt hi,List.getElem?_take_of_lt hi,List.getElem?_set_ne (by omega)]
 ·rw[List.getElem?_take_eq_none (by omega),List.getElem?_take_eq_none (by omega)]
theorem ints_take (l:List Int)(k:Nat):(ints l).take k=ints (l.take k):=by simp[ints,List.map_take]
theorem twice_con (l:List Int)(hl:l.length<=1000000):zD Tryz.prog 80 [.p (.sl 1 (ints l))] (.p (B (twL l))):=by
 refine zG Tryz.tab Tryz.mixed Tryz.func80 rfl rfl Tryz.ntmps80 (by simp) (by simp) fun Q hr hn=>?_
 repeat' first|((first|refine O _ ?_|refine O _ _ ?_|(clear O;refine O _ ?_));clear O)|(refine zJ fun K O=>?_)|((first|refine zH ?_|refine zN rfl (by kernel_rfl) ?_|refine zM ?_|refine zK (by kernel_rfl) ?_);simp only[vZ,vY,strip])|((first|refine wIs fun K O=>?_|refine wOs fun K O=>?_|refine wQs fun K O=>?_|refine zW ?_|refine zX ?_|refine zY ?_|refine zL ?_);simp)|(refine wIn ?_;refine And.intro (by kernel_rfl) ?_;try simp only[zZ])|refine zQ ?_|refine zS ?_|((first|refine zI ?_|refine zO ?_|refine zP ?_);try simp)|((first|refine zR ?_|refine wOn ?_|refine wQn ?_);try simp only[zZ])
 refine yT (fun N st=>∃k,k+N=l.length/\st.s 0=.p (.sl 1 (ints l))/\st.s 5=.p (.sl 1 (ints l))/\st.s 6=.p (I l.length)/\st.s 7=.p (I k)/\(l.take k).Nodup) l.length ⟨0,by simp⟩ fun K N st hL ⟨k,hk,h0,h5,h6,h7,hi⟩=>?_
 by_cases hlt:k<l.length
 ·have hw:=yA k _ hlt (by omega)
  have hkl:k<=l.length:=by omega
  have ht:=ints_take l k
  have hc:=wB (l.take k) l[k]
  have hn:=nodup_snoc l k hlt
  by_cases hm:l[k]∈l.take k
  ·rw[decide_eq_true hm] at hc
   have hf:twL l=true:=decide_eq_true (nodup_take (k+1) fun h=>(hn.1 h).2 hm)
   rw[hf] at hr
   repeat' first|refine zU.p hc rfl ?_|refine zU.l hc rfl ?_|refine zT.p hc rfl ?_|refine zT.l hc rfl ?_|refine zU.o hc ?_|refine zV.p hc rfl ?_|refine zV.l hc rfl ?_|refine zV.o hc ?_|((first|refine O _ ?_|refine O _ _ ?_|(clear O;refine O _ ?_));clear O)|(refine zJ fun K O=>?_)|((first|refine zH ?_|refine zN rfl (by kernel_rfl) ?_|refine zM ?_|refine zK (by kernel_rfl) ?_);simp only[vZ,vY,strip])|((first|refine wIs fun K O=>?_|refine wOs fun K O=>?_|refine wQs fun K O=>?_|refine zW ?_|refine zX ?_|refine zY ?_|refine zL ?_);simp[h0,h5,h6,h7,hlt,hw,hkl,ht])|(refine wIn ?_;refine And.intro (by kernel_rfl) ?_;try simp only[zZ])|refine zQ ?_|refine zS ?_|((first|refine zI ?_|refine zO ?_|refine zP ?_);try simp)|((first|refine zR ?_|refine wOn ?_|refine wQn ?_);try simp only[zZ])
   all_goals apply hr
   all_goals simp[Tryz.f80]
  ·rw[decide_eq_false hm] at hc
   repeat' first|refine zU.p hc rfl ?_|refine zU.l hc rfl ?_|refine zT.p hc rfl ?_|refine zT.l hc rfl ?_|refine zU.o hc ?_|refine zV.p hc rfl ?_|refine zV.l hc rfl ?_|refine zV.o hc ?_|((first|refine O _ ?_|refine O _ _ ?_|(clear O;refine O _ ?_));clear O)|(refine zJ fun K O=>?_)|((first|refine zH ?_|refine zN rfl (by kernel_rfl) ?_|refine zM ?_|refine zK (by kernel_rfl) ?_);simp only[vZ,vY,strip])|((first|refine wIs fun K O=>?_|refine wOs fun K O=>?_|refine wQs fun K O=>?_|refine zW ?_|refine zX ?_|refine zY ?_|refine zL ?_);simp[h0,h5,h6,h7,hlt,hw,hkl,ht])|(refine wIn ?_;refine And.intro (by kernel_rfl) ?_;try simp only[zZ])|refine zQ ?_|refine zS ?_|((first|refine zI ?_|refine zO ?_|refine zP ?_);try simp)|((first|refine zR ?_|refine wOn ?_|refine wQn ?_);try simp only[zZ])
   refine hL _ (N-1) (by omega) ⟨k+1,by omega,?_,?_,?_,?_,hn.2 ⟨hi,hm⟩⟩
   all_goals simp[h0,h5,h6,hw]
 ·have hf:twL l=false:=decide_eq_false (by rw[List.take_of_length_le (by omega)] at hi;simpa using hi)
  rw[hf] at hr
  repeat' first|((first|refine O _ ?_|refine O _ _ ?_|(clear O;refine O _ ?_));clear O)|(refine zJ fun K O=>?_)|((first|refine zH ?_|refine zN rfl (by kernel_rfl) ?_|refine zM ?_|refine zK (by kernel_rfl) ?_);simp only[vZ,vY,strip])|((first|refine wIs fun K O=>?_|refine wOs fun K O=>?_|refine wQs fun K O=>?_|refine zW ?_|refine zX ?_|refine zY ?_|refine zL ?_);simp[h0,h5,h6,h7,hlt])|(refine wIn ?_;refine And.intro (by kernel_rfl) ?_;try simp only[zZ])|refine zQ ?_|refine zS ?_|((first|refine zI ?_|refine zO ?_|refine zP ?_);try simp)|((first|refine zR ?_|refine wOn ?_|refine wQn ?_);try simp only[zZ])
  apply hr
  simp[Tryz.f80]
def dropE (c:Cf)(put:List Int):List Int->Int
 |[]=>0
 |id::l=>if id∈put then 1 else if (fm id c.ms).2=true then dropE c put l else 6
def wrongD (d:Dl):Bool:=twL (pids d.put) || (twL d.drop || (decide (d.kind<0) || decide (3<d.kind)))
def fitsE (c:Cf)(d:Dl):Int:=if wrongD d=true then 1 else dropE c (pids d.put) d.drop
theorem fits_con (c:Cf)(d:Dl)(hc:c.ms.length<=1000000)(hp:d.put.length<=1000000)(hd:d.drop.length<=1000000):zD Tryz.prog 63 [.p (.agg c.cells),.p (.agg d.cells)] (.p (I (fitsE c d))):=by
 obtain⟨ep,n,kind,ms⟩:=c
 obtain⟨dk,put,drop⟩:=d
 simp only[Cf.cells,Dl.cells] at *
 have t1:=twice_con (pids put) (by simpa using hp)
 have t2:=twice_con drop hd
 refine zG Tryz.tab Tryz.mixed Tryz.func63 rfl rfl Tryz.ntmps63 (by simp) (by simp) fun Q hr hn=>?_
 repeat' first|(rw[if_pos ⟨by omega,by omega⟩])|((first|refine O _ ?_|refine O _ _ ?_|(clear O;refine O _ ?_));clear O)|(refine zJ fun K O=>?_)|((first|refine zH ?_|refine zN rfl (by kernel_rfl) ?_|refine zM ?_|refine zK (by kernel_rfl) ?_);simp only[vZ,vY,strip])|((first|refine wIs fun K O=>?_|refine wOs fun K O=>?_|refine wQs fun K O=>?_|refine zW ?_|refine zX ?_|refine zY ?_|refine zL ?_);simp)|(refine wIn ?_;refine And.intro (by kernel_rfl) ?_;try simp only[zZ])|refine zQ ?_|refine zS ?_|((first|refine zI ?_|refine zO ?_|refine zP ?_);try simp)|((first|refine zR ?_|refine wOn ?_|refine wQn ?_);try simp only[zZ])
 refine yT (fun N st=>∃k zs,k+N=put.length/\st.s 2=.ptr 2 0/\st.s 3=.ptr 3 0/\st.b 2=some (.box 28 [.p (I ep),.p (I n),.p (I kind),.p (.sl 4 (mbs ms))])/\st.b 3=some (.box 34 [.p (I dk),.p (.sl 4 (mbs put)),.p (.sl 1 (ints drop))]) ∧
  st.s 5=.row 15/\st.s 17=.p (.sl 4 (mbs put))/\st.s 18=.p (I put.length)/\st.s 19=.p (I k)/\st.b 15=some (.row 3 1 (ints zs))/\zs.length=put.length/\zs.take k=(pids put).take k) put.length ⟨0,List.replicate put.length 0,by simp[ints]⟩ fun K N st hL ⟨k,zs,hk,h2,h3,b2,b3,h5,h17,h18,h19,b15,hz,hi⟩=>?_
 by_cases hlt:k<put.length
 ·have hw:=yA k _ hlt (by omega)
  have hkz:k<zs.length:=by omega
  have hset:(ints zs).set k [I put[k].i]=ints (zs.set k put[k].i):=by simp[ints,List.map_set]
  repeat' first|((first|refine O _ ?_|refine O _ _ ?_|(clear O;refine O _ ?_));clear O)|(refine zJ fun K O=>?_)|((first|refine zH ?_|refine zN rfl (by kernel_rfl) ?_|refine zM ?_|refine zK (by kernel_rfl) ?_);simp only[vZ,vY,strip])|((first|refine wIs fun K O=>?_|refine wOs fun K O=>?_|refine wQs fun K O=>?_|refine zW ?_|refine zX ?_|refine zY ?_|refine zL ?_);simp[h2,h3,b2,b3,h5,h17,h18,h19,b15,hlt,hw,hkz,hz])|(refine wIn ?_;refine And.intro (by kernel_rfl) ?_;try simp only[zZ])|refine zQ ?_|refine zS ?_|((first|refine zI ?_|refine zO ?_|refine zP ?_);try simp)|((first|refine zR ?_|refine wOn ?_|refine wQn ?_);try simp only[zZ])
  refine hL _ (N-1) (by omega) ⟨k+1,zs.set k put[k].i,by omega,?_⟩
  simp[h2,h3,b2,b3,h5,h17,h18,hw,b15,hset,hz]
  rw[set_takeD _ _ _ hkz,hi,take_snoc _ k (by simpa using hlt)]
  simp[pids]
 ·have hzs:zs=pids put:=by
   rw[List.take_of_length_le (by omega),List.take_of_length_le (by simp;omega)] at hi;exact hi
  subst hzs
  by_cases hwr:wrongD ⟨dk,put,drop⟩=true
  ·have hf:fitsE ⟨ep,n,kind,ms⟩ ⟨dk,put,drop⟩=1:=by unfold fitsE;rw[if_pos hwr]
   rw[hf] at hr
   simp only[wrongD,Bool.or_eq_true,decide_eq_true_eq] at hwr
   by_cases w1:twL (pids put)=true
   ·rw[w1] at t1
    repeat' first|refine zU.p t1 rfl ?_|refine zU.l t1 rfl ?_|refine zT.p t1 rfl ?_|refine zT.l t1 rfl ?_|refine zU.o t1 ?_|refine zV.p t1 rfl ?_|refine zV.l t1 rfl ?_|refine zV.o t1 ?_|refine zU.p t2 rfl ?_|refine zU.l t2 rfl ?_|refine zT.p t2 rfl ?_|refine zT.l t2 rfl ?_|refine zU.o t2 ?_|refine zV.p t2 rfl ?_|refine zV.l t2 rfl ?_|refine zV.o t2 ?_|((first|refine O _ ?_|refine O _ _ ?_|(clear O;refine O _ ?_));clear O)|(refine zJ fun K O=>?_)|((first|refine zH ?_|refine zN rfl (by kernel_rfl) ?_|refine zM ?_|refine zK (by kernel_rfl) ?_);simp only[vZ,vY,strip])|((first|refine wIs fun K O=>?_|refine wOs fun K O=>?_|refine wQs fun K O=>?_|refine zW ?_|refine zX ?_|refine zY ?_|refine zL ?_);simp[h2,h3,b2,b3,h5,h17,h18,h19,b15,hlt])|(refine wIn ?_;refine And.intro (by kernel_rfl) ?_;try simp only[zZ])|refine zQ ?_|refine zS ?_|((first|refine zI ?_|refine zO ?_|refine zP ?_);try simp)|((first|refine zR ?_|refine wOn ?_|refine wQn ?_);try simp only[zZ])
    all_goals apply hr
    all_goals simp[Tryz.f63]
   ·simp only[Bool.not_eq_true] at w1
    rw[w1] at t1
    by_cases w2:twL drop=true
    ·rw[w2] at t2
     repeat' first|refine zU.p t1 rfl ?_|refine zU.l t1 rfl ?_|refine zT.p t1 rfl ?_|refine zT.l t1 rfl ?_|refine zU.o t1 ?_|refine zV.p t1 rfl ?_|refine zV.l t1 rfl ?_|refine zV.o t1 ?_|refine zU.p t2 rfl ?_|refine zU.l t2 rfl ?_|refine zT.p t2 rfl ?_|refine zT.l t2 rfl ?_|refine zU.o t2 ?_|refine zV.p t2 rfl ?_|refine zV.l t2 rfl ?_|refine zV.o t2 ?_|((first|refine O _ ?_|refine O _ _ ?_|(clear O;refine O _ ?_));clear O)|(refine zJ fun K O=>?_)|((first|refine zH ?_|refine zN rfl (by kernel_rfl) ?_|refine zM ?_|refine zK (by kernel_rfl) ?_);simp only[vZ,vY,strip])|((first|refine wIs fun K O=>?_|refine wOs fun K O=>?_|refine wQs fun K O=>?_|refine zW ?_|refine zX ?_|refine zY ?_|refine zL ?_);simp[h2,h3,b2,b3,h5,h17,h18,h19,b15,hlt])|(refine wIn ?_;refine And.intro (by kernel_rfl) ?_;try simp only[zZ])|refine zQ ?_|refine zS ?_|((first|refine zI ?_|refine zO ?_|refine zP ?_);try simp)|((first|refine zR ?_|refine wOn ?_|refine wQn ?_);try simp only[zZ])
     all_goals apply hr
     all_goals simp[Tryz.f63]
    ·simp only[Bool.not_eq_true] at w2
     rw[w2] at t2
     by_cases w3:dk<0
     ·repeat' first|(refine zU.p (t1) rfl ?_)|(refine zU.l (t1) rfl ?_)|(refine zT.p (t1) rfl ?_)|(refine zT.l (t1) rfl ?_)|(refine zU.o (t1) ?_)|(refine zV.p (t1) rfl ?_)|(refine zV.l (t1) rfl ?_)|(refine zV.o (t1) ?_)|(refine zU.p (t2) rfl ?_)|(refine zU.l (t2) rfl ?_)|(refine zT.p (t2) rfl ?_)|(refine zT.l (t2) rfl ?_)|(refine zU.o (t2) ?_)|(refine zV.p (t2) rfl ?_)|(refine zV.l (t2) rfl ?_)|(refine zV.o (t2) ?_)|(refine O _ ?_;clear O)|(refine O _ _ ?_;clear O)|(clear O;refine O _ ?_;clear O)|(clear O;clear O;refine O _ ?_;clear O)|(clear O;clear O;clear O;refine O _ ?_;clear O)|(clear O;clear O;clear O;clear O;refine O _ ?_;clear O)|(refine zJ fun K O=>?_)|((first|refine zH ?_|refine zN rfl (by kernel_rfl) ?_|refine zM ?_|refine zK (by kernel_rfl) ?_);simp only[vZ,vY,strip])|((first|refine wIs fun K O=>?_|refine wOs fun K O=>?_|refine wQs fun K O=>?_|refine zW ?_|refine zX ?_|refine zY ?_|refine zL ?_);simp[h2,h3,b2,b3,h5,h17,h18,h19,b15,hlt,w3])|(refine wIn ?_;refine And.intro (by kernel_rfl) ?_;try simp only[zZ])|(first|refine zQ ?_|refine zS ?_)|((first|refine zI ?_|refine zO ?_|refine zP ?_);try simp)|((first|refine zR ?_|refine wOn ?_|refine wQn ?_);try simp only[zZ])
      all_goals apply hr
      all_goals simp[Tryz.f63]
     ·have w4:3<dk:=by
       rcases hwr with h|h|h|h
       ·rw[w1] at h;cases h
       ·rw[w2] at h;cases h
       ·exact (w3 h).elim
       ·exact h
      repeat' first|refine zU.p t1 rfl ?_|refine zU.l t1 rfl ?_|refine zT.p t1 rfl ?_|refine zT.l t1 rfl ?_|refine zU.o t1 ?_|refine zV.p t1 rfl ?_|refine zV.l t1 rfl ?_|refine zV.o t1 ?_|refine zU.p t2 rfl ?_|refine zU.l t2 rfl ?_|refine zT.p t2 rfl ?_|refine zT.l t2 rfl ?_|refine zU.o t2 ?_|refine zV.p t2 rfl ?_|refine zV.l t2 rfl ?_|refine zV.o t2 ?_|((first|refine O _ ?_|refine O _ _ ?_|(clear O;refine O _ ?_));clear O)|(refine zJ fun K O=>?_)|((first|refine zH ?_|refine zN rfl (by kernel_rfl) ?_|refine zM ?_|refine zK (by kernel_rfl) ?_);simp only[vZ,vY,strip])|((first|refine wIs fun K O=>?_|refine wOs fun K O=>?_|refine wQs fun K O=>?_|refine zW ?_|refine zX ?_|refine zY ?_|refine zL ?_);simp[h2,h3,b2,b3,h5,h17,h18,h19,b15,hlt,w3,w4])|(refine wIn ?_;refine And.intro (by kernel_rfl) ?_;try simp only[zZ])|refine zQ ?_|refine zS ?_|((first|refine zI ?_|refine zO ?_|refine zP ?_);try simp)|((first|refine zR ?_|refine wOn ?_|refine wQn ?_);try simp only[zZ])
      all_goals apply hr
      all_goals simp[Tryz.f63]
  ·have hf:fitsE ⟨ep,n,kind,ms⟩ ⟨dk,put,drop⟩=dropE ⟨ep,n,kind,ms⟩ (pids put) drop:=by unfold fitsE;rw[if_neg hwr]
   rw[hf] at hr
   simp only[wrongD,Bool.or_eq_true,decide_eq_true_eq,not_or,Bool.not_eq_true] at hwr
   obtain⟨w1,w2,w3,w4⟩:=hwr
   rw[w1] at t1
   rw[w2] at t2
   repeat' first|refine zU.p t1 rfl ?_|refine zU.l t1 rfl ?_|refine zT.p t1 rfl ?_|refine zT.l t1 rfl ?_|refine zU.o t1 ?_|refine zV.p t1 rfl ?_|refine zV.l t1 rfl ?_|refine zV.o t1 ?_|refine zU.p t2 rfl ?_|refine zU.l t2 rfl ?_|refine zT.p t2 rfl ?_|refine zT.l t2 rfl ?_|refine zU.o t2 ?_|refine zV.p t2 rfl ?_|refine zV.l t2 rfl ?_|refine zV.o t2 ?_|((first|refine O _ ?_|refine O _ _ ?_|(clear O;refine O _ ?_));clear O)|(refine zJ fun K O=>?_)|((first|refine zH ?_|refine zN rfl (by kernel_rfl) ?_|refine zM ?_|refine zK (by kernel_rfl) ?_);simp only[vZ,vY,strip])|((first|refine wIs fun K O=>?_|refine wOs fun K O=>?_|refine wQs fun K O=>?_|refine zW ?_|refine zX ?_|refine zY ?_|refine zL ?_);simp[h2,h3,b2,b3,h5,h17,h18,h19,b15,hlt,w3,w4])|(refine wIn ?_;refine And.intro (by kernel_rfl) ?_;try simp only[zZ])|refine zQ ?_|refine zS ?_|((first|refine zI ?_|refine zO ?_|refine zP ?_);try simp)|((first|refine zR ?_|refine wOn ?_|refine wQn ?_);try simp only[zZ])
   refine yT (fun N st=>∃k,k+N=drop.length/\st.s 2=.ptr 2 0/\st.s 3=.ptr 3 0/\st.b 2=some (.box 28 [.p (I ep),.p (I n),.p (I kind),.p (.sl 4 (mbs ms))])/\st.b 3=some (.box 34 [.p (I dk),.p (.sl 4 (mbs put)),.p (.sl 1 (ints drop))]) ∧
    st.s 5=.row 15/\st.s 48=.p (.sl 1 (ints drop))/\st.s 49=.p (I drop.length)/\st.s 50=.p (I k)/\st.b 15=some (.row 3 1 (ints (pids put)))/\dropE ⟨ep,n,kind,ms⟩ (pids put) (drop.drop k)=dropE ⟨ep,n,kind,ms⟩ (pids put) drop) drop.length ⟨0,by omega,?_⟩ fun K N st hL ⟨k,hk,h2,h3,b2,b3,h5,h48,h49,h50,b15,hi⟩=>?_
   ·simp[h2,h3,b2,b3,h5,b15]
   by_cases hlt:k<drop.length
   ·have hw:=yA k _ hlt (by omega)
    have he:=ints_get hlt
    rw[List.drop_eq_getElem_cons hlt,dropE] at hi
    have cc:=wB (pids put) drop[k]
    have cf:=findM_con ⟨ep,n,kind,ms⟩ drop[k] (by simpa using hc)
    simp only[Cf.cells] at cf hi
    by_cases o1:drop[k]∈pids put
    ·rw[if_pos o1] at hi
     rw[decide_eq_true o1] at cc
     repeat' first|refine zU.p cc rfl ?_|refine zU.l cc rfl ?_|refine zT.p cc rfl ?_|refine zT.l cc rfl ?_|refine zU.o cc ?_|refine zV.p cc rfl ?_|refine zV.l cc rfl ?_|refine zV.o cc ?_|refine zU.p cf rfl ?_|refine zU.l cf rfl ?_|refine zT.p cf rfl ?_|refine zT.l cf rfl ?_|refine zU.o cf ?_|refine zV.p cf rfl ?_|refine zV.l cf rfl ?_|refine zV.o cf ?_|((first|refine O _ ?_|refine O _ _ ?_|(clear O;refine O _ ?_));clear O)|(refine zJ fun K O=>?_)|((first|refine zH ?_|refine zN rfl (by kernel_rfl) ?_|refine zM ?_|refine zK (by kernel_rfl) ?_);simp only[vZ,vY,strip])|((first|refine wIs fun K O=>?_|refine wOs fun K O=>?_|refine wQs fun K O=>?_|refine zW ?_|refine zX ?_|refine zY ?_|refine zL ?_);simp[h2,h3,b2,b3,h5,h48,h49,h50,b15,hlt,hw])|(refine wIn ?_;refine And.intro (by kernel_rfl) ?_;try simp only[zZ])|refine zQ ?_|refine zS ?_|((first|refine zI ?_|refine zO ?_|refine zP ?_);try simp)|((first|refine zR ?_|refine wOn ?_|refine wQn ?_);try simp only[zZ])
     all_goals apply hr
     all_goals simp[Tryz.f63,<- hi]
    ·rw[if_neg o1] at hi
     rw[decide_eq_false o1] at cc
     generalize fm drop[k] ms=f at cf hi
     obtain⟨fm1,fm2⟩:=f
     cases fm2
     ·rw[if_neg (by simp)] at hi
      repeat' first|refine zU.p cc rfl ?_|refine zU.l cc rfl ?_|refine zT.p cc rfl ?_|refine zT.l cc rfl ?_|refine zU.o cc ?_|refine zV.p cc rfl ?_|refine zV.l cc rfl ?_|refine zV.o cc ?_|refine zU.p cf rfl ?_|refine zU.l cf rfl ?_|refine zT.p cf rfl ?_|refine zT.l cf rfl ?_|refine zU.o cf ?_|refine zV.p cf rfl ?_|refine zV.l cf rfl ?_|refine zV.o cf ?_|((first|refine O _ ?_|refine O _ _ ?_|(clear O;refine O _ ?_));clear O)|(refine zJ fun K O=>?_)|((first|refine zH ?_|refine zN rfl (by kernel_rfl) ?_|refine zM ?_|refine zK (by kernel_rfl) ?_);simp only[vZ,vY,strip])|((first|refine wIs fun K O=>?_|refine wOs fun K O=>?_|refine wQs fun K O=>?_|refine zW ?_|refine zX ?_|refine zY ?_|refine zL ?_);simp[h2,h3,b2,b3,h5,h48,h49,h50,b15,hlt,hw])|(refine wIn ?_;refine And.intro (by kernel_rfl) ?_;try simp only[zZ])|refine zQ ?_|refine zS ?_|((first|refine zI ?_|refine zO ?_|refine zP ?_);try simp)|((first|refine zR ?_|refine wOn ?_|refine wQn ?_);try simp only[zZ])
      all_goals apply hr
      all_goals simp[Tryz.f63,<- hi]
     ·rw[if_pos rfl] at hi
      repeat' first|refine zU.p cc rfl ?_|refine zU.l cc rfl ?_|refine zT.p cc rfl ?_|refine zT.l cc rfl ?_|refine zU.o cc ?_|refine zV.p cc rfl ?_|refine zV.l cc rfl ?_|refine zV.o cc ?_|refine zU.p cf rfl ?_|refine zU.l cf rfl ?_|refine zT.p cf rfl ?_|refine zT.l cf rfl ?_|refine zU.o cf ?_|refine zV.p cf rfl ?_|refine zV.l cf rfl ?_|refine zV.o cf ?_|((first|refine O _ ?_|refine O _ _ ?_|(clear O;refine O _ ?_));clear O)|(refine zJ fun K O=>?_)|((first|refine zH ?_|refine zN rfl (by kernel_rfl) ?_|refine zM ?_|refine zK (by kernel_rfl) ?_);simp only[vZ,vY,strip])|((first|refine wIs fun K O=>?_|refine wOs fun K O=>?_|refine wQs fun K O=>?_|refine zW ?_|refine zX ?_|refine zY ?_|refine zL ?_);simp[h2,h3,b2,b3,h5,h48,h49,h50,b15,hlt,hw])|(refine wIn ?_;refine And.intro (by kernel_rfl) ?_;try simp only[zZ])|refine zQ ?_|refine zS ?_|((first|refine zI ?_|refine zO ?_|refine zP ?_);try simp)|((first|refine zR ?_|refine wOn ?_|refine wQn ?_);try simp only[zZ])
      refine hL _ (N-1) (by omega) ⟨k+1,by omega,?_⟩
      simp[h2,h3,b2,b3,h5,h48,h49,hw,b15,hi]
   ·rw[List.drop_of_length_le (by omega),dropE] at hi
    repeat' first|((first|refine O _ ?_|refine O _ _ ?_|(clear O;refine O _ ?_));clear O)|(refine zJ fun K O=>?_)|((first|refine zH ?_|refine zN rfl (by kernel_rfl) ?_|refine zM ?_|refine zK (by kernel_rfl) ?_);simp only[vZ,vY,strip])|((first|refine wIs fun K O=>?_|refine wOs fun K O=>?_|refine wQs fun K O=>?_|refine zW ?_|refine zX ?_|refine zY ?_|refine zL ?_);simp[h2,h3,b2,b3,h5,h48,h49,h50,b15,hlt])|(refine wIn ?_;refine And.intro (by kernel_rfl) ?_;try simp only[zZ])|refine zQ ?_|refine zS ?_|((first|refine zI ?_|refine zO ?_|refine zP ?_);try simp)|((first|refine zR ?_|refine wOn ?_|refine wQn ?_);try simp only[zZ])
    all_goals apply hr
    all_goals simp[Tryz.f63,<- hi]
theorem flatL_mbs (l:List Mb):flatL (mbs l)=true:=by
 unfold flatL mbs
 rw[List.all_eq_true]
 intro e he
 obtain⟨m,-,rfl⟩:=List.mem_map.1 he
 simp[Mb.cells]
def keepM (c:Cf)(d:Dl):List Mb:=c.ms.filter fun m => !(decide (m.i∈d.drop)) && !(hasI d.put m.i)
def chg (c:Cf)(d:Dl):Cf:=⟨0,0,if d.kind=0 then c.kind else d.kind,stS (keepM c d++d.put)⟩
theorem keepM_snoc (dr:List Int)(put ms:List Mb)(ep n kind dk:Int)(k:Nat)(h:k<ms.length):keepM ⟨ep,n,kind,ms.take (k+1)⟩ ⟨dk,put,dr⟩=if ms[k].i∈dr then keepM ⟨ep,n,kind,ms.take k⟩ ⟨dk,put,dr⟩ else if hasI put ms[k].i=true then keepM ⟨ep,n,kind,ms.take k⟩ ⟨dk,put,dr⟩ else keepM ⟨ep,n,kind,ms.take k⟩ ⟨dk,put,dr⟩++[ms[k]]:=by
 unfold keepM
 simp only
 rw[take_snoc _ k h,List.filter_append]
 by_cases o1:ms[k].i∈dr
 ·rw[if_pos o1];simp[List.filter,o1]
 ·rw[if_neg o1]
  by_cases o2:hasI put ms[k].i=true
  ·rw[if_pos o2];simp[List.filter,o1,o2]
  ·rw[if_neg o2];simp only[Bool.not_eq_true] at o2;simp[List.filter,o1,o2]
theorem keepM_len (c:Cf)(d:Dl):(keepM c d).length<=c.ms.length:=by simp[keepM,List.length_filter_le]
theorem hasI_drop (put:List Mb)(id:Int)(k:Nat)(h:k<put.length):hasI (put.drop k) id=(decide (put[k].i=id) || hasI (put.drop (k+1)) id):=by
 rw[List.drop_eq_getElem_cons h];rfl
set_option maxHeartbeats 1000000 in
theorem changedD_con (c:Cf)(d:Dl)(hl:(keepM c d++d.put).length<=1000000)(hc:c.ms.length<=1000000)(hd:d.drop.length<=1000000):zD Tryz.prog 64 [.p (.agg c.cells),.p (.agg d.cells)] (.p (.agg (chg c d).cells)):=by
 have hs:=sortW_con (keepM c d++d.put) hl
 obtain⟨ep,n,kind,ms⟩:=c
 obtain⟨dk,put,drop⟩:=d
 have hp:put.length<=1000000:=by simp at hl;omega
 simp only[Cf.cells,Dl.cells,chg] at *
 refine zG Tryz.tab Tryz.mixed Tryz.func64 rfl rfl Tryz.ntmps64 (by simp) (by simp) fun Q hr hn=>?_
 repeat' first|((first|refine O _ ?_|refine O _ _ ?_|(clear O;(first|refine O _ ?_|(clear O;(first|refine O _ ?_|(clear O;(first|refine O _ ?_|(clear O;refine O _ ?_))))))));clear O)|(refine zJ fun K O=>?_)|((first|refine zH ?_|refine zN rfl (by kernel_rfl) ?_|refine zM ?_|refine zK (by kernel_rfl) ?_);simp only[vZ,vY,strip])|((first|refine wIs fun K O=>?_|refine wOs fun K O=>?_|refine wQs fun K O=>?_|refine zW ?_|refine zX ?_|refine zY ?_|refine zL ?_);simp)|(refine wIn ?_;refine And.intro (by kernel_rfl) ?_;try simp only[zZ])|refine zQ ?_|refine zS ?_|((first|refine zI ?_|refine zO ?_|refine zP ?_);try simp)|((first|refine zR ?_|refine wOn ?_|refine wQn ?_);try simp only[zZ])
 refine wLoopG [.row 5 61 4] (fun N st=>∃k,k+N=ms.length/\st.s 2=.ptr 2 0/\st.s 3=.ptr 3 0/\st.s 4=.ptr 4 0/\st.b 2=some (.box 28 [.p (I ep),.p (I n),.p (I kind),.p (.sl 4 (mbs ms))])/\st.b 3=some (.box 34 [.p (I dk),.p (.sl 4 (mbs put)),.p (.sl 1 (ints drop))]) ∧
  st.s 5=.row 5/\st.s 12=.p (.sl 4 (mbs ms))/\st.s 13=.p (I ms.length)/\st.s 14=.p (I k)/\(∃z,st.b 4=some (.box 28 z)/\z.length=4)/\st.b 5=some (.row 61 4 (mbs (keepM ⟨ep,n,kind,ms.take k⟩ ⟨dk,put,drop⟩)))) ms.length ⟨0,by simp[keepM,mbs]⟩ fun K N st hL ⟨k,hk,h2,h3,h4,b2,b3,h5,h12,h13,h14,⟨z,b4,hz⟩,b5⟩=>?_
 by_cases hlt:k<ms.length
 ·have hw:=yA k _ hlt (by omega)
  have he:=mbs_get hlt
  have hsn:=keepM_snoc drop put ms ep n kind dk k hlt
  have hln:(keepM ⟨ep,n,kind,ms.take k⟩ ⟨dk,put,drop⟩).length<=k:=Nat.le_trans (keepM_len _ _) (by simp;omega)
  have cc:=wB drop ms[k].i
  by_cases o1:ms[k].i∈drop
  ·rw[if_pos o1] at hsn
   rw[decide_eq_true o1] at cc
   repeat' first|refine zU.p cc rfl ?_|refine zU.l cc rfl ?_|refine zT.p cc rfl ?_|refine zT.l cc rfl ?_|refine zU.o cc ?_|refine zV.p cc rfl ?_|refine zV.l cc rfl ?_|refine zV.o cc ?_|((first|refine O _ ?_|refine O _ _ ?_|(clear O;(first|refine O _ ?_|(clear O;(first|refine O _ ?_|(clear O;(first|refine O _ ?_|(clear O;refine O _ ?_))))))));clear O)|(refine zJ fun K O=>?_)|((first|refine zH ?_|refine zN rfl (by kernel_rfl) ?_|refine zM ?_|refine zK (by kernel_rfl) ?_);simp only[vZ,vY,strip])|((first|refine wIs fun K O=>?_|refine wOs fun K O=>?_|refine wQs fun K O=>?_|refine zW ?_|refine zX ?_|refine zY ?_|refine zL ?_);simp[h2,h3,h4,b2,b3,h5,h12,h13,h14,b4,b5,hlt,hw])|(refine wIn ?_;refine And.intro (by kernel_rfl) ?_;try simp only[zZ])|refine zQ ?_|refine zS ?_|((first|refine zI ?_|refine zO ?_|refine zP ?_);try simp)|((first|refine zR ?_|refine wOn ?_|refine wQn ?_);try simp only[zZ])
   refine hL _ (N-1) (by omega) ⟨k+1,by omega,?_⟩
   simp[h2,h3,h4,b2,b3,h5,h12,h13,hw,b4,b5,hsn,hz]
  ·rw[if_neg o1] at hsn
   rw[decide_eq_false o1] at cc
   repeat' first|refine zU.p cc rfl ?_|refine zU.l cc rfl ?_|refine zT.p cc rfl ?_|refine zT.l cc rfl ?_|refine zU.o cc ?_|refine zV.p cc rfl ?_|refine zV.l cc rfl ?_|refine zV.o cc ?_|((first|refine O _ ?_|refine O _ _ ?_|(clear O;(first|refine O _ ?_|(clear O;(first|refine O _ ?_|(clear O;(first|refine O _ ?_|(clear O;refine O _ ?_))))))));clear O)|(refine zJ fun K O=>?_)|((first|refine zH ?_|refine zN rfl (by kernel_rfl) ?_|refine zM ?_|refine zK (by kernel_rfl) ?_);simp only[vZ,vY,strip])|((first|refine wIs fun K O=>?_|refine wOs fun K O=>?_|refine wQs fun K O=>?_|refine zW ?_|refine zX ?_|refine zY ?_|refine zL ?_);simp[h2,h3,h4,b2,b3,h5,h12,h13,h14,b4,b5,hlt,hw])|(refine wIn ?_;refine And.intro (by kernel_rfl) ?_;try simp only[zZ])|refine zQ ?_|refine zS ?_|((first|refine zI ?_|refine zO ?_|refine zP ?_);try simp)|((first|refine zR ?_|refine wOn ?_|refine wQn ?_);try simp only[zZ])
   refine yT (fun N st=>∃j,j+N=put.length/\st.s 2=.ptr 2 0/\st.s 3=.ptr 3 0/\st.s 4=.ptr 4 0/\st.s 7=.ptr 7 0/\st.b 2=some (.box 28 [.p (I ep),.p (I n),.p (I kind),.p (.sl 4 (mbs ms))])/\st.b 3=some (.box 34 [.p (I dk),.p (.sl 4 (mbs put)),.p (.sl 1 (ints drop))]) ∧
    st.s 5=.row 5/\st.s 12=.p (.sl 4 (mbs ms))/\st.s 13=.p (I ms.length)/\st.s 14=.p (I k)/\(∃z,st.b 4=some (.box 28 z)/\z.length=4)/\st.b 5=some (.row 61 4 (mbs (keepM ⟨ep,n,kind,ms.take k⟩ ⟨dk,put,drop⟩))) ∧
    st.b 7=some (.box 61 [.p (I ms[k].i),.p (I ms[k].r),.p (I ms[k].w),.p (I ms[k].g)])/\st.s 24=.p (.sl 4 (mbs put))/\st.s 25=.p (I put.length)/\st.s 26=.p (I j)/\hasI (put.drop j) ms[k].i=hasI put ms[k].i) put.length ⟨0,by omega,?_⟩ fun K' N' st hL2 ⟨j,hj,h2,h3,h4,h7,b2,b3,h5,h12,h13,h14,⟨z,b4,hz⟩,b5,b7,h24,h25,h26,hi⟩=>?_
   ·simp[h2,h3,h4,b2,b3,h5,h12,h13,h14,b4,b5,hz]
   by_cases hlj:j<put.length
   ·have hwj:=yA j _ hlj (by omega)
    have hej:=mbs_get hlj
    rw[hasI_drop _ _ _ hlj] at hi
    by_cases o2:put[j].i=ms[k].i
    ·rw[decide_eq_true o2,Bool.true_or] at hi
     rw[<- hi,if_pos rfl] at hsn
     replace o2:(put[j].i=ms[k].i)=True:=eq_true o2
     repeat' first|((first|refine O _ ?_|refine O _ _ ?_|(clear O;(first|refine O _ ?_|(clear O;(first|refine O _ ?_|(clear O;(first|refine O _ ?_|(clear O;refine O _ ?_))))))));clear O)|(refine zJ fun K O=>?_)|((first|refine zH ?_|refine zN rfl (by kernel_rfl) ?_|refine zM ?_|refine zK (by kernel_rfl) ?_);simp only[vZ,vY,strip])|((first|refine wIs fun K O=>?_|refine wOs fun K O=>?_|refine wQs fun K O=>?_|refine zW ?_|refine zX ?_|refine zY ?_|refine zL ?_);simp[h2,h3,h4,h7,b2,b3,h5,h12,h13,h14,b4,b5,b7,h24,h25,h26,hlt,hw,hlj,hwj,o2])|(refine wIn ?_;refine And.intro (by kernel_rfl) ?_;try simp only[zZ])|refine zQ ?_|refine zS ?_|((first|refine zI ?_|refine zO ?_|refine zP ?_);try simp)|((first|refine zR ?_|refine wOn ?_|refine wQn ?_);try simp only[zZ])
     refine hL _ (N-1) (by omega) ⟨k+1,by omega,?_⟩
     simp[h2,h3,h4,b2,b3,h5,h12,h13,hw,b4,b5,hsn,hz]
    ·rw[decide_eq_false o2,Bool.false_or] at hi
     repeat' first|((first|refine O _ ?_|refine O _ _ ?_|(clear O;(first|refine O _ ?_|(clear O;(first|refine O _ ?_|(clear O;(first|refine O _ ?_|(clear O;refine O _ ?_))))))));clear O)|(refine zJ fun K O=>?_)|((first|refine zH ?_|refine zN rfl (by kernel_rfl) ?_|refine zM ?_|refine zK (by kernel_rfl) ?_);simp only[vZ,vY,strip])|((first|refine wIs fun K O=>?_|refine wOs fun K O=>?_|refine wQs fun K O=>?_|refine zW ?_|refine zX ?_|refine zY ?_|refine zL ?_);simp[h2,h3,h4,h7,b2,b3,h5,h12,h13,h14,b4,b5,b7,h24,h25,h26,hlt,hlj,hwj,o2])|(refine wIn ?_;refine And.intro (by kernel_rfl) ?_;try simp only[zZ])|refine zQ ?_|refine zS ?_|((first|refine zI ?_|refine zO ?_|refine zP ?_);try simp)|((first|refine zR ?_|refine wOn ?_|refine wQn ?_);try simp only[zZ])
     refine hL2 _ (N'-1) (by omega) ⟨j+1,by omega,?_⟩
     simp[h2,h3,h4,h7,b2,b3,h5,h12,h13,h14,hwj,b4,b5,b7,h24,h25,hz,hi]
   ·rw[List.drop_of_length_le (by omega)] at hi
    rw[show hasI [] ms[k].i=false from rfl] at hi
    rw[<- hi,if_neg (by simp)] at hsn
    repeat' first|(refine And.intro (by omega) ?_)|((first|refine O _ ?_|refine O _ _ ?_|(clear O;(first|refine O _ ?_|(clear O;(first|refine O _ ?_|(clear O;(first|refine O _ ?_|(clear O;refine O _ ?_))))))));clear O)|(refine zJ fun K O=>?_)|((first|refine zH ?_|refine zN rfl (by kernel_rfl) ?_|refine zM ?_|refine zK (by kernel_rfl) ?_);simp only[vZ,vY,strip])|((first|refine wIs fun K O=>?_|refine wOs fun K O=>?_|refine wQs fun K O=>?_|refine zW ?_|refine zX ?_|refine zY ?_|refine zL ?_);simp[h2,h3,h4,h7,b2,b3,h5,h12,h13,h14,b4,b5,b7,h24,h25,h26,hlt,hw,hlj])|(refine wIn ?_;refine And.intro (by kernel_rfl) ?_;try simp only[zZ])|refine zQ ?_|refine zS ?_|((first|refine zI ?_|refine zO ?_|refine zP ?_);try simp)|((first|refine zR ?_|refine wOn ?_|refine wQn ?_);try simp only[zZ])
    refine hL _ (N-1) (by omega) ⟨k+1,by omega,?_⟩
    simp[h2,h3,h4,b2,b3,h5,h12,h13,hw,b4,b5,hsn,hz,mbs,Mb.cells]
 ·rw[List.take_of_length_le (by omega)] at b5
  have ha:=mbs_app (keepM ⟨ep,n,kind,ms⟩ ⟨dk,put,drop⟩) put
  have hl1:(keepM ⟨ep,n,kind,ms⟩ ⟨dk,put,drop⟩).length<=1000000:=by simp at hl;omega
  generalize keepM ⟨ep,n,kind,ms⟩ ⟨dk,put,drop⟩=kp at *
  rw[List.length_append] at hl
  rw[ha] at hs
  generalize stS (kp++put)=sr at *
  obtain⟨z0,z1,z2,z3,rfl⟩:∃z0 z1 z2 z3,z=[z0,z1,z2,z3]:=by
   match z,hz with
   |[z0,z1,z2,z3],_=>exact⟨z0,z1,z2,z3,rfl⟩
  by_cases hk0:dk=0
  ·rw[if_pos hk0] at hr
   repeat' first|(refine zV.ownL hs (flatL_mbs _) ?_)|(refine And.intro (by omega) ?_)|(refine Or.inl ?_)|((first|refine O _ ?_|refine O _ _ ?_|(clear O;(first|refine O _ ?_|(clear O;(first|refine O _ ?_|(clear O;(first|refine O _ ?_|(clear O;refine O _ ?_))))))));clear O)|(refine zJ fun K O=>?_)|((first|refine zH ?_|refine zN rfl (by kernel_rfl) ?_|refine zM ?_|refine zK (by kernel_rfl) ?_);simp only[vZ,vY,strip])|((first|refine wIs fun K O=>?_|refine wOs fun K O=>?_|refine wQs fun K O=>?_|refine zW ?_|refine zX ?_|refine zY ?_|refine zL ?_);simp[h2,h3,h4,b2,b3,h5,h12,h13,h14,b4,b5,hlt,hk0])|(refine wIn ?_;refine And.intro (by kernel_rfl) ?_;try simp only[zZ])|refine zQ ?_|refine zS ?_|((first|refine zI ?_|refine zO ?_|refine zP ?_);try simp)|((first|refine zR ?_|refine wOn ?_|refine wQn ?_);try simp only[zZ])
   all_goals apply hr
   all_goals simp[Tryz.f64,h4,b4,Cf.cells]
  ·rw[if_neg hk0] at hr
   repeat' first|(refine zV.ownL hs (flatL_mbs _) ?_)|(refine And.intro (by omega) ?_)|(refine Or.inl ?_)|((first|refine O _ ?_|refine O _ _ ?_|(clear O;(first|refine O _ ?_|(clear O;(first|refine O _ ?_|(clear O;(first|refine O _ ?_|(clear O;refine O _ ?_))))))));clear O)|(refine zJ fun K O=>?_)|((first|refine zH ?_|refine zN rfl (by kernel_rfl) ?_|refine zM ?_|refine zK (by kernel_rfl) ?_);simp only[vZ,vY,strip])|((first|refine wIs fun K O=>?_|refine wOs fun K O=>?_|refine wQs fun K O=>?_|refine zW ?_|refine zX ?_|refine zY ?_|refine zL ?_);simp[h2,h3,h4,b2,b3,h5,h12,h13,h14,b4,b5,hlt,hk0])|(refine wIn ?_;refine And.intro (by kernel_rfl) ?_;try simp only[zZ])|refine zQ ?_|refine zS ?_|((first|refine zI ?_|refine zO ?_|refine zP ?_);try simp)|((first|refine zR ?_|refine wOn ?_|refine wQn ?_);try simp only[zZ])
   all_goals apply hr
   all_goals simp[Tryz.f64,h4,b4,Cf.cells]
theorem ownCfD_con (c:Cf)(hl:c.ms.length<=1000000):zD Tryz.prog 62 [.p (.agg c.cells)] (.p (.agg c.cells)):=by
 have c0:=clone_ok (c:=4) (g:=79) rfl (mbs c.ms) (by simp;omega)
 obtain⟨e,n,k,ms⟩:=c
 simp only[Cf.cells] at *
 refine zG Tryz.tab Tryz.mixed Tryz.func62 rfl rfl Tryz.ntmps62 (by simp) (by simp) fun Q hr hn=>?_
 repeat' first|refine zU.p c0 rfl ?_|refine zU.l c0 rfl ?_|refine zT.p c0 rfl ?_|refine zT.l c0 rfl ?_|refine zU.o c0 ?_|refine zV.p c0 rfl ?_|refine zV.l c0 rfl ?_|refine zV.o c0 ?_|((first|refine O _ ?_|refine O _ _ ?_|(clear O;refine O _ ?_));clear O)|(refine zJ fun K O=>?_)|((first|refine zH ?_|refine zN rfl (by kernel_rfl) ?_|refine zM ?_|refine zK (by kernel_rfl) ?_);simp only[vZ,vY,strip])|((first|refine wIs fun K O=>?_|refine wOs fun K O=>?_|refine wQs fun K O=>?_|refine zW ?_|refine zX ?_|refine zY ?_|refine zL ?_);simp)|(refine wIn ?_;refine And.intro (by kernel_rfl) ?_;try simp only[zZ])|refine zQ ?_|refine zS ?_|((first|refine zI ?_|refine zO ?_|refine zP ?_);try simp)|((first|refine zR ?_|refine wOn ?_|refine wQn ?_);try simp only[zZ])
 all_goals apply hr
 all_goals simp[Tryz.f62]
def appE (c:Cf)(d:Dl)(e n:Int):Int:=if check c=0 then if fitsE c d=0 then check { chg c d with ep:=e,n:=n } else fitsE c d else 16
def appC (c:Cf)(d:Dl)(e n:Int):Cf:=if appE c d e n=0 then { chg c d with ep:=e,n:=n } else c
set_option maxHeartbeats 2000000 in
theorem applyD_con (c:Cf)(d:Dl)(e n:Int)(hl:check c=0->fitsE c d=0->(keepM c d++d.put).length<=1000000)(hc:c.ms.length<=1000000)(hp:d.put.length<=1000000)(hd:d.drop.length<=1000000) :
 zD Tryz.prog 51 [.p (.agg c.cells),.p (.agg d.cells),.p (.agg [I e,I n])] (.tup [.p (.agg (appC c d e n).cells),.p (I (appE c d e n))]):=by
 have c1:=checkM_con c hc
 have c2:=fits_con c d hc hp hd
 have co:=ownCfD_con c hc
 unfold appC appE
 by_cases h1:check c=0
 ·by_cases h2:fitsE c d=0
  ·have c3:=changedD_con c d (hl h1 h2) hc hd
   have hlen:(chg c d).ms.length<=1000000:=by
    have:=hl h1 h2
    simp only[chg,stS_len];omega
   have c4:=checkM_con { chg c d with ep:=e,n:=n } hlen
   rw[if_pos h1,if_pos h2]
   rw[h1] at c1
   rw[h2] at c2
   generalize hz:check { chg c d with ep:=e,n:=n }=z at *
   have e1:(chg c d).cells=[I 0,I 0,I (chg c d).kind,.sl 4 (mbs (chg c d).ms)]:=rfl
   rw[e1] at c3
   simp only[Cf.cells] at c4 ⊢
   generalize (chg c d).kind=k' at *
   generalize (chg c d).ms=m' at *
   clear hl hz e1
   obtain⟨ep,nn,kind,ms⟩:=c
   obtain⟨dk,put,drop⟩:=d
   simp only[Cf.cells,Dl.cells] at *
   by_cases h3:z=0
   ·subst h3
    refine zG Tryz.tab Tryz.mixed Tryz.func51 rfl rfl Tryz.ntmps51 (by simp) (by simp) fun Q hr hn=>?_
    repeat' first|refine zU.p c1 rfl ?_|refine zU.l c1 rfl ?_|refine zT.p c1 rfl ?_|refine zT.l c1 rfl ?_|refine zU.o c1 ?_|refine zV.p c1 rfl ?_|refine zV.l c1 rfl ?_|refine zV.o c1 ?_|refine zU.p c2 rfl ?_|refine zU.l c2 rfl ?_|refine zT.p c2 rfl ?_|refine zT.l c2 rfl ?_|refine zU.o c2 ?_|refine zV.p c2 rfl ?_|refine zV.l c2 rfl ?_|refine zV.o c2 ?_|refine zU.p c3 rfl ?_|refine zU.l c3 rfl ?_|refine zT.p c3 rfl ?_|refine zT.l c3 rfl ?_|refine zU.o c3 ?_|refine zV.p c3 rfl ?_|refine zV.l c3 rfl ?_|refine zV.o c3 ?_|refine zU.p c4 rfl ?_|refine zU.l c4 rfl ?_|refine zT.p c4 rfl ?_|refine zT.l c4 rfl ?_|refine zU.o c4 ?_|refine zV.p c4 rfl ?_|refine zV.l c4 rfl ?_|refine zV.o c4 ?_|refine zU.p co rfl ?_|refine zU.l co rfl ?_|refine zT.p co rfl ?_|refine zT.l co rfl ?_|refine zU.o co ?_|refine zV.p co rfl ?_|refine zV.l co rfl ?_|refine zV.o co ?_|((first|refine O _ ?_|refine O _ _ ?_|(clear O;refine O _ ?_));clear O)|(refine zJ fun K O=>?_)|((first|refine zH ?_|refine zN rfl (by kernel_rfl) ?_|refine zM ?_|refine zK (by kernel_rfl) ?_);simp only[vZ,vY,strip])|((first|refine wIs fun K O=>?_|refine wOs fun K O=>?_|refine wQs fun K O=>?_|refine zW ?_|refine zX ?_|refine zY ?_|refine zL ?_);simp)|(refine wIn ?_;refine And.intro (by kernel_rfl) ?_;try simp only[zZ])|refine zQ ?_|refine zS ?_|((first|refine zI ?_|refine zO ?_|refine zP ?_);try simp)|((first|refine zR ?_|refine wOn ?_|refine wQn ?_);try simp only[zZ])
    all_goals apply hr
    all_goals simp[Tryz.f51]
   ·rw[if_neg h3]
    refine zG Tryz.tab Tryz.mixed Tryz.func51 rfl rfl Tryz.ntmps51 (by simp) (by simp) fun Q hr hn=>?_
    repeat' first|refine zU.p c1 rfl ?_|refine zU.l c1 rfl ?_|refine zT.p c1 rfl ?_|refine zT.l c1 rfl ?_|refine zU.o c1 ?_|refine zV.p c1 rfl ?_|refine zV.l c1 rfl ?_|refine zV.o c1 ?_|refine zU.p c2 rfl ?_|refine zU.l c2 rfl ?_|refine zT.p c2 rfl ?_|refine zT.l c2 rfl ?_|refine zU.o c2 ?_|refine zV.p c2 rfl ?_|refine zV.l c2 rfl ?_|refine zV.o c2 ?_|refine zU.p c3 rfl ?_|refine zU.l c3 rfl ?_|refine zT.p c3 rfl ?_|refine zT.l c3 rfl ?_|refine zU.o c3 ?_|refine zV.p c3 rfl ?_|refine zV.l c3 rfl ?_|refine zV.o c3 ?_|refine zU.p c4 rfl ?_|refine zU.l c4 rfl ?_|refine zT.p c4 rfl ?_|refine zT.l c4 rfl ?_|refine zU.o c4 ?_|refine zV.p c4 rfl ?_|refine zV.l c4 rfl ?_|refine zV.o c4 ?_|refine zU.p co rfl ?_|refine zU.l co rfl ?_|refine zT.p co rfl ?_|refine zT.l co rfl ?_|refine zU.o co ?_|refine zV.p co rfl ?_|refine zV.l co rfl ?_|refine zV.o co ?_|((first|refine O _ ?_|refine O _ _ ?_|(clear O;refine O _ ?_));clear O)|(refine zJ fun K O=>?_)|((first|refine zH ?_|refine zN rfl (by kernel_rfl) ?_|refine zM ?_|refine zK (by kernel_rfl) ?_);simp only[vZ,vY,strip])|((first|refine wIs fun K O=>?_|refine wOs fun K O=>?_|refine wQs fun K O=>?_|refine zW ?_|refine zX ?_|refine zY ?_|refine zL ?_);simp[h3])|(refine wIn ?_;refine And.intro (by kernel_rfl) ?_;try simp only[zZ])|refine zQ ?_|refine zS ?_|((first|refine zI ?_|refine zO ?_|refine zP ?_);try simp)|((first|refine zR ?_|refine wOn ?_|refine wQn ?_);try simp only[zZ])
    all_goals apply hr
    all_goals simp[Tryz.f51]
  ·rw[if_pos h1,if_neg h2]
   rw[if_neg h2]
   rw[h1] at c1
   generalize fitsE c d=z at *
   clear hl
   obtain⟨ep,nn,kind,ms⟩:=c
   obtain⟨dk,put,drop⟩:=d
   simp only[Cf.cells,Dl.cells] at *
   refine zG Tryz.tab Tryz.mixed Tryz.func51 rfl rfl Tryz.ntmps51 (by simp) (by simp) fun Q hr hn=>?_
   repeat' first|refine zU.p c1 rfl ?_|refine zU.l c1 rfl ?_|refine zT.p c1 rfl ?_|refine zT.l c1 rfl ?_|refine zU.o c1 ?_|refine zV.p c1 rfl ?_|refine zV.l c1 rfl ?_|refine zV.o c1 ?_|refine zU.p c2 rfl ?_|refine zU.l c2 rfl ?_|refine zT.p c2 rfl ?_|refine zT.l c2 rfl ?_|refine zU.o c2 ?_|refine zV.p c2 rfl ?_|refine zV.l c2 rfl ?_|refine zV.o c2 ?_|refine zU.p co rfl ?_|refine zU.l co rfl ?_|refine zT.p co rfl ?_|refine zT.l co rfl ?_|refine zU.o co ?_|refine zV.p co rfl ?_|refine zV.l co rfl ?_|refine zV.o co ?_|((first|refine O _ ?_|refine O _ _ ?_|(clear O;refine O _ ?_));clear O)|(refine zJ fun K O=>?_)|((first|refine zH ?_|refine zN rfl (by kernel_rfl) ?_|refine zM ?_|refine zK (by kernel_rfl) ?_);simp only[vZ,vY,strip])|((first|refine wIs fun K O=>?_|refine wOs fun K O=>?_|refine wQs fun K O=>?_|refine zW ?_|refine zX ?_|refine zY ?_|refine zL ?_);simp[h2])|(refine wIn ?_;refine And.intro (by kernel_rfl) ?_;try simp only[zZ])|refine zQ ?_|refine zS ?_|((first|refine zI ?_|refine zO ?_|refine zP ?_);try simp)|((first|refine zR ?_|refine wOn ?_|refine wQn ?_);try simp only[zZ])
   all_goals apply hr
   all_goals simp[Tryz.f51]
 ·rw[if_neg h1,if_neg (by decide:¬ (16:Int)=0)]
  generalize check c=z at *
  clear hl
  obtain⟨ep,nn,kind,ms⟩:=c
  obtain⟨dk,put,drop⟩:=d
  simp only[Cf.cells,Dl.cells] at *
  refine zG Tryz.tab Tryz.mixed Tryz.func51 rfl rfl Tryz.ntmps51 (by simp) (by simp) fun Q hr hn=>?_
  repeat' first|refine zU.p c1 rfl ?_|refine zU.l c1 rfl ?_|refine zT.p c1 rfl ?_|refine zT.l c1 rfl ?_|refine zU.o c1 ?_|refine zV.p c1 rfl ?_|refine zV.l c1 rfl ?_|refine zV.o c1 ?_|refine zU.p co rfl ?_|refine zU.l co rfl ?_|refine zT.p co rfl ?_|refine zT.l co rfl ?_|refine zU.o co ?_|refine zV.p co rfl ?_|refine zV.l co rfl ?_|refine zV.o co ?_|((first|refine O _ ?_|refine O _ _ ?_|(clear O;refine O _ ?_));clear O)|(refine zJ fun K O=>?_)|((first|refine zH ?_|refine zN rfl (by kernel_rfl) ?_|refine zM ?_|refine zK (by kernel_rfl) ?_);simp only[vZ,vY,strip])|((first|refine wIs fun K O=>?_|refine wOs fun K O=>?_|refine wQs fun K O=>?_|refine zW ?_|refine zX ?_|refine zY ?_|refine zL ?_);simp[h1])|(refine wIn ?_;refine And.intro (by kernel_rfl) ?_;try simp only[zZ])|refine zQ ?_|refine zS ?_|((first|refine zI ?_|refine zO ?_|refine zP ?_);try simp)|((first|refine zR ?_|refine wOn ?_|refine wQn ?_);try simp only[zZ])
  all_goals apply hr
  all_goals simp[Tryz.f51]
end Go.Proofs.YtedbbcmokbogpaaGreatDoor
namespace Go.Proofs.YtedbbcmokbogpaaGreatDoor
set_option linter.unusedSimpArgs false
set_option linter.unusedVariables false
set_option maxRecDepth 8000
open Go Go.Av
attribute [local irreducible] Go.Av.yP Go.Av.zU Go.Av.yN Go.Av.zT Go.Av.yO Go.Av.zV Go.Av.Con
def cfgPt (c:Cf):Pt:=⟨5,zz,0,c⟩
def cfgT (s:Sv)(r:Rp)(e n:Int):Tx :=
 if r.we=s.c.ep/\r.wn=s.c.n then (if appE s.c r.d e n=0 then ⟨e,n,r.s,r.x,0,0,[],[cfgPt (appC s.c r.d e n)]⟩ else ⟨e,n,r.s,r.x,appE s.c r.d e n,0,[],[]⟩)
 else ⟨e,n,r.s,r.x,10,0,[],[]⟩
set_option maxHeartbeats 4000000 in
theorem configured_con (s:Sv)(r:Rp)(e n:Int)(hc:s.c.ms.length<=100000)(hp:r.d.put.length<=100000)(hd:r.d.drop.length<=100000):zD Tryz.prog 27 [.p (.agg s.cells),.p (.agg r.cells),.p (.agg [I e,I n,I r.s,I r.x,I 0,I 0,SB [],nilS])] (.p (.agg (cfgT s r e n).cells)):=by
 have c1:=applyD_con s.c r.d e n (fun _ _=>by have:=keepM_len s.c r.d;rw[List.length_append];omega) (by omega) (by omega) (by omega)
 have c3:=fun er=>refused_con e n r.s r.x 0 0 [] nilS rfl er
 unfold cfgT
 generalize appE s.c r.d e n=ae at *
 generalize appC s.c r.d e n=ac at *
 obtain⟨ns,ss,nx,⟨ep,cn,kd,ms⟩,ae0,an⟩:=s
 obtain⟨k,rs,x,ops,⟨dk,put,drop⟩,we,wn⟩:=r
 obtain⟨aep,acn,akd,ams⟩:=ac
 dsimp only at *
 by_cases h1:we=ep/\wn=cn
 case neg =>
  rw[if_neg h1]
  have c4:=c3 10
  unfold Tx.cells Sv.cells Rp.cells at *
  dsimp only at *
  by_cases h2:we=ep
  ·have h2':=eq_true h2
   have h3':(wn=cn)=False:=eq_false fun h=>h1 ⟨h2,h⟩
   refine zG Tryz.tab Tryz.mixed Tryz.func27 rfl rfl Tryz.ntmps27 (by simp) (by simp) fun Q hr hn=>?_
   repeat' first|((first|refine O _ ?_|refine O _ _ ?_|(clear O;refine O _ ?_));clear O)|(refine zJ fun K O=>?_)|((first|refine zH ?_|refine zN rfl (by kernel_rfl) ?_|refine zM ?_|refine zK (by kernel_rfl) ?_);simp only[vZ,vY,strip])|((first|refine wIs fun K O=>?_|refine wOs fun K O=>?_|refine wQs fun K O=>?_|refine zW ?_|refine zX ?_|refine zY ?_|refine zL ?_);simp[h2',h3'])|(refine wIn ?_;refine And.intro (by kernel_rfl) ?_;try simp only[zZ])|refine zQ ?_|refine zS ?_|((first|refine zI ?_|refine zO ?_|refine zP ?_);try simp)|((first|refine zR ?_|refine wOn ?_|refine wQn ?_);try simp only[zZ])|refine zU.p c4 rfl ?_|refine zU.l c4 rfl ?_|refine zT.p c4 rfl ?_|refine zT.l c4 rfl ?_|refine zU.o c4 ?_|refine zV.p c4 rfl ?_|refine zV.l c4 rfl ?_|refine zV.o c4 ?_
   all_goals apply hr
   all_goals simp[Tryz.f27]
  ·have h2':=eq_false h2
   refine zG Tryz.tab Tryz.mixed Tryz.func27 rfl rfl Tryz.ntmps27 (by simp) (by simp) fun Q hr hn=>?_
   repeat' first|((first|refine O _ ?_|refine O _ _ ?_|(clear O;refine O _ ?_));clear O)|(refine zJ fun K O=>?_)|((first|refine zH ?_|refine zN rfl (by kernel_rfl) ?_|refine zM ?_|refine zK (by kernel_rfl) ?_);simp only[vZ,vY,strip])|((first|refine wIs fun K O=>?_|refine wOs fun K O=>?_|refine wQs fun K O=>?_|refine zW ?_|refine zX ?_|refine zY ?_|refine zL ?_);simp[h2'])|(refine wIn ?_;refine And.intro (by kernel_rfl) ?_;try simp only[zZ])|refine zQ ?_|refine zS ?_|((first|refine zI ?_|refine zO ?_|refine zP ?_);try simp)|((first|refine zR ?_|refine wOn ?_|refine wQn ?_);try simp only[zZ])|refine zU.p c4 rfl ?_|refine zU.l c4 rfl ?_|refine zT.p c4 rfl ?_|refine zT.l c4 rfl ?_|refine zU.o c4 ?_|refine zV.p c4 rfl ?_|refine zV.l c4 rfl ?_|refine zV.o c4 ?_
   all_goals apply hr
   all_goals simp[Tryz.f27]
 rw[if_pos h1]
 obtain⟨rfl,rfl⟩:=h1
 by_cases h2:ae=0
 ·subst h2
  rw[if_pos rfl]
  clear c3
  unfold Tx.cells Sv.cells Rp.cells cfgPt zz Cf.cells Dl.cells pts at *
  simp only[vZ,vY]
  unfold Pt.cells
  dsimp only at *
  refine zG Tryz.tab Tryz.mixed Tryz.func27 rfl rfl Tryz.ntmps27 (by simp) (by simp) fun Q hr hn=>?_
  repeat' first|((first|refine O _ ?_|refine O _ _ ?_|(clear O;refine O _ ?_));clear O)|(refine zJ fun K O=>?_)|((first|refine zH ?_|refine zN rfl (by kernel_rfl) ?_|refine zM ?_|refine zK (by kernel_rfl) ?_);simp only[vZ,vY,strip])|((first|refine wIs fun K O=>?_|refine wOs fun K O=>?_|refine wQs fun K O=>?_|refine zW ?_|refine zX ?_|refine zY ?_|refine zL ?_);simp)|(refine wIn ?_;refine And.intro (by kernel_rfl) ?_;try simp only[zZ])|refine zQ ?_|refine zS ?_|((first|refine zI ?_|refine zO ?_|refine zP ?_);try simp)|((first|refine zR ?_|refine wOn ?_|refine wQn ?_);try simp only[zZ])|refine zU.p c1 rfl ?_|refine zU.l c1 rfl ?_|refine zT.p c1 rfl ?_|refine zT.l c1 rfl ?_|refine zU.o c1 ?_|refine zV.p c1 rfl ?_|refine zV.l c1 rfl ?_|refine zV.o c1 ?_
  all_goals apply hr
  all_goals simp[Tryz.f27,mbs,show ByteArray.empty=bs [] from rfl]
 ·rw[if_neg h2]
  have h2':=eq_false h2
  have c4:=c3 ae
  unfold Tx.cells Sv.cells Rp.cells Cf.cells Dl.cells at *
  dsimp only at *
  refine zG Tryz.tab Tryz.mixed Tryz.func27 rfl rfl Tryz.ntmps27 (by simp) (by simp) fun Q hr hn=>?_
  repeat' first|((first|refine O _ ?_|refine O _ _ ?_|(clear O;refine O _ ?_));clear O)|(refine zJ fun K O=>?_)|((first|refine zH ?_|refine zN rfl (by kernel_rfl) ?_|refine zM ?_|refine zK (by kernel_rfl) ?_);simp only[vZ,vY,strip])|((first|refine wIs fun K O=>?_|refine wOs fun K O=>?_|refine wQs fun K O=>?_|refine zW ?_|refine zX ?_|refine zY ?_|refine zL ?_);simp[h2'])|(refine wIn ?_;refine And.intro (by kernel_rfl) ?_;try simp only[zZ])|refine zQ ?_|refine zS ?_|((first|refine zI ?_|refine zO ?_|refine zP ?_);try simp)|((first|refine zR ?_|refine wOn ?_|refine wQn ?_);try simp only[zZ])|refine zU.p c1 rfl ?_|refine zU.l c1 rfl ?_|refine zT.p c1 rfl ?_|refine zT.l c1 rfl ?_|refine zU.o c1 ?_|refine zV.p c1 rfl ?_|refine zV.l c1 rfl ?_|refine zV.o c1 ?_|refine zU.p c4 rfl ?_|refine zU.l c4 rfl ?_|refine zT.p c4 rfl ?_|refine zT.l c4 rfl ?_|refine zU.o c4 ?_|refine zV.p c4 rfl ?_|refine zV.l c4 rfl ?_|refine zV.o c4 ?_
  all_goals apply hr
  all_goals simp[Tryz.f27]
def makW (s:Sv)(r:Rp)(e n:Int):Tx:=if r.k=4/\r.s∈s.ss then cfgT s r e n else makT s r e n
set_option maxHeartbeats 4000000 in
theorem makeW_con (s:Sv)(r:Rp)(e n:Int)(hs:OkSv s)(hr0:OkRp r)(hc:s.c.ms.length<=100000)(hp:r.d.put.length<=100000)(hd:r.d.drop.length<=100000):zD Tryz.prog 12 [.p (.agg s.cells),.p (.agg r.cells),.p (.agg [I e,I n])] (.p (.agg (makW s r e n).cells)):=by
 unfold makW
 by_cases h:r.k=4/\r.s∈s.ss
 case neg =>
  rw[if_neg h]
  exact make_con s r e n hs hr0 (fun h1 h2=>h ⟨h1,h2⟩)
 rw[if_pos h]
 have c2:=wB s.ss r.s
 rw[decide_eq_true h.2] at c2
 have c4:=configured_con s r e n hc hp hd
 generalize cfgT s r e n=t1 at *
 obtain⟨h4,-⟩:=h
 clear hs hr0 hc hp hd
 obtain⟨k,rs,x,ops,⟨dk,put,drop⟩,we,wn⟩:=r
 dsimp only at *
 subst h4
 unfold Tx.cells Rp.cells Sv.cells at *
 dsimp only at *
 refine zG Tryz.tab Tryz.mixed Tryz.func12 rfl rfl Tryz.ntmps12 (by simp) (by simp) fun Q hr hn=>?_
 repeat' first|((first|refine O _ ?_|refine O _ _ ?_|(clear O;(first|refine O _ ?_|(clear O;(first|refine O _ ?_|(clear O;(first|refine O _ ?_|(clear O;refine O _ ?_))))))));clear O)|(refine zJ fun K O=>?_)|((first|refine zH ?_|refine zN rfl (by kernel_rfl) ?_|refine zM ?_|refine zK (by kernel_rfl) ?_);simp only[vZ,vY,strip])|((first|refine wIs fun K O=>?_|refine wOs fun K O=>?_|refine wQs fun K O=>?_|refine zW ?_|refine zX ?_|refine zY ?_|refine zL ?_);simp[show ByteArray.empty = bs [] from rfl])|(refine wIn ?_;refine And.intro (by kernel_rfl) ?_;try simp only[zZ])|refine zQ ?_|refine zS ?_|((first|refine zI ?_|refine zO ?_|refine zP ?_);try simp)|((first|refine zR ?_|refine wOn ?_|refine wQn ?_);try simp only[zZ])|refine zU.p c2 rfl ?_|refine zU.l c2 rfl ?_|refine zT.p c2 rfl ?_|refine zT.l c2 rfl ?_|refine zU.o c2 ?_|refine zV.p c2 rfl ?_|refine zV.l c2 rfl ?_|refine zV.o c2 ?_|refine zU.p c4 rfl ?_|refine zU.l c4 rfl ?_|refine zT.p c4 rfl ?_|refine zT.l c4 rfl ?_|refine zU.o c4 ?_|refine zV.p c4 rfl ?_|refine zV.l c4 rfl ?_|refine zV.o c4 ?_
 all_goals apply hr
 all_goals simp[Tryz.f12]
end Go.Proofs.YtedbbcmokbogpaaGreatDoor
namespace Go.Proofs.YtedbbcmokbogpaaGreatDoor
set_option linter.unusedSimpArgs false
set_option linter.unusedVariables false
set_option maxRecDepth 8000
open Go Go.Av
theorem put_at {ns:List Zn}(h:ris ns){z y:Zn}(hy:y∈ns)(hp:y.p=z.p):∃a r,ns=a++y::r/\xT ns z=a++z::r:=by
 obtain⟨h1,h2⟩:=att_spec ns z.p
 have hns:ns=ns.take (att ns z.p)++ns.drop (att ns z.p):=(List.take_append_drop _ _).symm
 have hy2:y∈ns.drop (att ns z.p):=by
  rw[hns] at hy
  rcases List.mem_append.1 hy with hy|hy
  ·exact absurd (h1 y hy) (by rw[hp];exact lt_irr _)
  ·exact hy
 cases hd:ns.drop (att ns z.p) with
 |nil=>rw[hd] at hy2;simp at hy2
 |cons x r =>
  rw[hd] at hy2
  have hx:=h2 x r hd
  have hxy:x=y:=by
   rcases List.mem_cons.1 hy2 with e|hr
   ·exact e.symm
   ·rw[ris_pw,hns,hd] at h
    have h3:=(List.pairwise_append.1 h).2.1
    have h4:=(List.pairwise_cons.1 h3).1 y hr
    rw[hp] at h4
    exact absurd h4 hx
  subst hxy
  refine⟨ns.take (att ns z.p),r,by rw[<- hd];exact hns,?_⟩
  unfold xT;rw[hd,rst,if_pos hp]
theorem tre_same {ns:List Zn}(h:tre ns=true){q:List UInt8}{z y:Zn}(hy:fnd ns q=(y,true))(hp:z.p=q)(ho:z.o=y.o)(hz:rgz z=true):tre (xT ns z)=true:=by
 obtain⟨x,r,hl,hx1,hx2,hx3⟩:=tre_head h
 obtain⟨t1,t2,t3,t4⟩:=wL h
 have hm:=fnd_mem (l:=ns) (p:=q) (by rw[hy])
 rw[hy] at hm
 dsimp only at hm
 obtain⟨a,b,e1,e2⟩:=put_at t2 hm.1 (hm.2.trans hp.symm)
 have hf:∀w,(fnd ns w).2=true/\(fnd ns w).1.o=0->(fnd (xT ns z) w).2=true/\(fnd (xT ns z) w).1.o=0:=fun w hw=>by
  rw[fnd_put]
  by_cases e:z.p=w
  ·rw[if_pos e]
   refine⟨rfl,?_⟩
   rw[<- e,hp,hy] at hw
   exact ho.trans hw.2
  ·rw[if_neg e];exact hw
 refine tre_of ?_ (ris_put t2 z) (fun w hw=>?_) fun w hw hw0=>?_
 ·rw[e2]
  cases a with
  |nil =>
   rw[List.nil_append] at e1 ⊢
   rw[e1] at hl
   obtain⟨hl1,hl2⟩:=List.cons.inj hl
   refine hdo_of ?_ ?_ ?_
   ·rw[hp,<- hm.2,hl1,hx1]
   ·rw[ho,hl1,hx2]
   ·rw[e1] at hx3;simpa using hx3
  |cons c a =>
   rw[List.cons_append] at e1 ⊢
   rw[e1] at hl
   obtain⟨hl1,hl2⟩:=List.cons.inj hl
   refine hdo_of (by rw[hl1,hx1]) (by rw[hl1,hx2]) ?_
   rw[e1] at hx3;simpa using hx3
 ·rcases put_mem hw with rfl|hw
  ·exact hz
  ·exact t3 w hw
 ·refine hf _ ?_
  rcases put_mem hw with rfl|hw
  ·rw[hp, <- hm.2]
   exact t4 y hm.1 (by rw[hm.2,<- hp];exact hw0)
  ·exact t4 w hw hw0
theorem same_len {ns:List Zn}(h:ris ns){q:List UInt8}{z y:Zn}(hy:fnd ns q=(y,true))(hp:z.p=q):(xT ns z).length=ns.length:=by
 have hm:=fnd_mem (l:=ns) (p:=q) (by rw[hy])
 rw[hy] at hm
 dsimp only at hm
 obtain⟨a,b,e1,e2⟩:=put_at h hm.1 (hm.2.trans hp.symm)
 rw[e2,e1];simp
theorem tre_new {ns:List Zn}(h:tre ns=true){z y:Zn}(hq:(fnd ns z.p).2=false)(hl:ns.length<60)(hz:rgz z=true)(hy:fnd ns (par z.p).1=(y,true))(ho:y.o=0):tre (xT ns z)=true:=by
 obtain⟨x,r,rfl,hy1,hy2,hy3⟩:=tre_head h
 obtain⟨t1,t2,t3,t4⟩:=wL h
 have hne:¬ z.p=[47]:=fun e=>by
  rw[e,fnd,if_pos hy1] at hq;simp at hq
 have hlen:=putZ_len (x::r) z
 have hm:xT (x::r) z=x::xT r z:=put_cons (by rw[hy1];exact root_lt (rgz_of hz).1 hne)
 have hf:∀w,(fnd (x::r) w).2=true->fnd (xT (x::r) z) w=fnd (x::r) w:=fun w hw=>by
  rw[fnd_put]
  by_cases e:z.p=w
  ·rw[e,hw] at hq;simp at hq
  ·rw[if_neg e]
 have hmem:=fun w hw=>put_mem (l:=x::r) (z:=z) (y:=w) hw
 refine tre_of (by rw[hm];exact hdo_of hy1 hy2 (by rw[<- hm];omega)) (ris_put t2 z) (fun w hw=>?_) fun w hw hw0=>?_
 ·rcases hmem w hw with rfl|hw
  ·exact hz
  ·exact t3 w hw
 ·rcases hmem w hw with rfl|hw
  ·rw[hf _ (by rw[hy]),hy]
   exact⟨rfl,ho⟩
  ·obtain⟨a,b⟩:=t4 w hw hw0
   rw[hf _ a]
   exact⟨a,b⟩
theorem turn_ok {z:Zn}(h0:turnE z=0):turnP z=putPt { z with k:=z.k+1 }/\z.k<1099511627776:=by
 unfold turnP turnE at *
 split at h0
 ·simp at h0
 ·rename_i hn;rw[if_neg hn];exact⟨rfl,by omega⟩
theorem rgz_k {z:Zn}(h:rgz z=true)(hk:z.k<1099511627776):rgz { z with k:=z.k+1 }=true:=by
 have:=rgz_of h
 unfold rgz
 rw[decide_eq_true_eq]
 dsimp only
 omega
theorem tre_turn {ns:List Zn}(h:tre ns=true){q:List UInt8}{y:Zn}(hy:fnd ns q=(y,true))(h0:turnE y=0):tre (xT ns { y with k:=y.k+1 })=true:=by
 have hm:=fnd_mem (l:=ns) (p:=q) (by rw[hy])
 rw[hy] at hm
 exact tre_same h hy hm.2 rfl (rgz_k ((wL h).2.2.1 y hm.1) (turn_ok h0).2)
theorem tre_gonL {s:Sv}(h:tre s.ns=true){w:List UInt8}(hw:chd w=true)(hf:(fnd s.ns w).2=true)(hk:kds s.ns w=[])(h0:(wU s.ns w).2=0):tre (yU s (wU s.ns w).1).ns=true/\∃y,fnd s.ns (par w).1=(y,true)/\y.o=0/\(yU s (wU s.ns w).1).ns=xT (gone s.ns w) { y with k:=y.k+1 }:=by
 have hnr:¬ w=[47]:=by unfold chd at hw;rw[decide_eq_true_eq] at hw;exact hw.1
 have hm:=fnd_mem hf
 obtain⟨t1,t2,t3,t4⟩:=wL h
 have hpar:=t4 _ hm.1 (by rw[hm.2];exact hnr)
 rw[hm.2] at hpar
 generalize hy:fnd s.ns (par w).1=f at hpar
 obtain⟨y,b⟩:=f
 dsimp only at hpar
 obtain⟨rfl,ho⟩:=hpar
 have hlt:=(par_lt hw).2
 unfold wU at h0 ⊢
 rw[hy] at h0 ⊢
 dsimp only at h0 ⊢
 have ht0:turnE y=0:=by
  by_cases hh:turnE y=0
  ·exact hh
  ·rw[if_neg hh] at h0;exact absurd h0 hh
 rw[if_pos ht0,(turn_ok ht0).1]
 have hns:(yU s [gonPt w,putPt { y with k:=y.k+1 }]).ns=xT (gone s.ns w) { y with k:=y.k+1 }:=rfl
 refine⟨?_,y,rfl,ho,hns⟩
 rw[hns]
 refine tre_turn (tre_gone h hnr hk) (q:=(par w).1) ?_ ht0
 rw[fnd_gone,if_neg (fun e=>by rw[e] at hlt;exact lt_irr _ hlt),hy]
theorem pw47:∀ (w n:Nat),(47:UInt8) ∉ pw w n
 |0,_=>by simp[pw]
 |w+1,n=>by
  rw[pw_front]
  intro h
  rcases List.mem_cons.1 h with h|h
  ·have h1:=congrArg UInt8.toNat h
   have h2:n / 10 ^ w % 10<10:=Nat.mod_lt _ (by decide)
   generalize n / 10 ^ w % 10=d at *
   rw[UInt8.toNat_ofNat'] at h1
   have h3:(47:UInt8).toNat=47:=rfl
   omega
  ·exact pw47 w n h
theorem nmb_shape {p:List UInt8}{n:Int}(h:(nmb p n).2=0):(par (nmb p n).1).2=true/\(par (nmb p n).1).1=(if lx p p.length=0 then [47] else p.take (lx p p.length)):=by
 obtain⟨a1,a2,a3,a4⟩:=nmb_good h
 have h47:(47:UInt8)∈p:=by
  obtain⟨r,hr⟩:=chk_head a4
  rw[a1] at hr
  cases p with
  |nil =>
   have:=pw47 10 n.toNat
   rw[List.nil_append] at hr
   rw[hr] at this
   exact absurd List.mem_cons_self this
  |cons c p =>
   rw[List.cons_append] at hr
   rw[(List.cons.inj hr).1]
   exact List.mem_cons_self
 obtain⟨t,m,rfl,hm⟩:=split47 p h47
 have hm2:(47:UInt8) ∉ m++pw 10 n.toNat:=fun hh=>by
  rcases List.mem_append.1 hh with hh|hh
  ·exact hm hh
  ·exact pw47 _ _ hh
 have e1:(nmb (t++47::m) n).1=t++47::(m++pw 10 n.toNat):=by rw[a1,List.append_assoc,List.cons_append]
 rw[e1] at a4 ⊢
 have l1:=lx_all (t:=t) hm
 have l2:=lx_all (t:=t) hm2
 have hlen:10<=(m++pw 10 n.toNat).length:=by rw[List.length_append,pw_len];omega
 have hc:chd (t++47::(m++pw 10 n.toNat))=true:=by
  unfold chd
  rw[decide_eq_true_eq]
  refine⟨fun e=>?_,a4⟩
  have:=congrArg List.length e
  simp only[List.length_append,List.length_cons,List.length_nil] at this hlen
  omega
 unfold par
 rw[if_pos hc,l1,l2]
 refine⟨rfl,?_⟩
 by_cases ht:t.length=0
 ·rw[if_pos ht]
  obtain rfl:=List.length_eq_zero_iff.1 ht
  simp
 ·rw[if_neg ht,Nat.max_eq_left (by omega),List.take_left',List.take_left']
  ·rfl
  ·rfl
theorem nmb_par {p:List UInt8}{n m:Int}(h:(nmb p n).2=0)(h':(nmb p m).2=0):(par (nmb p n).1).1=(par (nmb p m).1).1:=by
 rw[(nmb_shape h).2,(nmb_shape h').2]
theorem hld_ok {ns:List Zn}{o:Oq}(h0:(xC ns o).2=0):(hdP o).2=0/\(par (hdP o).1).2=true/\fnd ns (par (hdP o).1).1=((xC ns o).1,true)/\(xC ns o).1.o=0:=by
 unfold xC at h0 ⊢
 split at h0
 ·rename_i h1
  rw[if_pos h1]
  split at h0
  ·rename_i h2
   rw[if_pos h2]
   split at h0
   ·rename_i h3
    rw[if_pos h3]
    split at h0
    ·rename_i h4
     rw[if_pos h4]
     refine⟨h1,h2,?_,h4⟩
     rw[<- h3]
    ·simp at h0
   ·simp at h0
  ·simp at h0
 ·rename_i h1;exact absurd h0 h1
theorem crt_ok {ns:List Zn}{o:Oq}{ses:Int}(h0:(crtM ns o ses).2.2=0):o.da.length<=128/\(xC ns o).2=0/\(crP o (xC ns o).1).2=0/\(fnd ns (crP o (xC ns o).1).1).2=false/\ns.length<60/\turnE (xC ns o).1=0 ∧
 crtM ns o ses=([turnP (xC ns o).1,putPt (newZ o (crP o (xC ns o).1).1 ses)],(crP o (xC ns o).1).1,0):=by
 unfold crtM at h0 ⊢
 split at h0
 ·simp at h0
 rename_i h1
 rw[if_neg h1]
 split at h0
 ·rename_i h2;exact absurd h0 h2
 rename_i h2
 rw[if_neg h2]
 split at h0
 ·rename_i h3;exact absurd h0 h3
 rename_i h3
 rw[if_neg h3]
 split at h0
 ·simp at h0
 rename_i h4
 rw[if_neg h4]
 split at h0
 ·simp at h0
 rename_i h5
 rw[if_neg h5]
 split at h0
 ·rename_i h6;exact absurd h0 h6
 rename_i h6
 rw[if_neg h6]
 exact⟨by omega,Decidable.not_not.1 h2,Decidable.not_not.1 h3,by simpa using h4,by omega,Decidable.not_not.1 h6,rfl⟩
theorem crP_ok {o:Oq}{z:Zn}(h1:(hdP o).2=0)(h2:(crP o z).2=0):chk (crP o z).1=0/\(par (crP o z).1).1=(par (hdP o).1).1:=by
 unfold crP hdP at *
 split at h1
 ·rename_i hs
  rw[if_pos hs] at h2 ⊢
  rw[if_pos hs]
  exact⟨(nmb_good h2).2.2.2,nmb_par h2 h1⟩
 ·rename_i hs
  rw[if_neg hs]
  rw[if_neg hs]
  exact⟨h1,rfl⟩
theorem rgz_new {o:Oq}{q:List UInt8}{ses:Int}(h:chk q=0)(hd:o.da.length<=128)(hs:0<=ses):rgz (newZ o q ses)=true:=by
 unfold rgz newZ
 rw[decide_eq_true_eq]
 dsimp only
 refine⟨h,by omega,by omega,by omega,by omega,by omega,?_⟩
 split <;> omega
theorem crt_tre {s:Sv}(h:tre s.ns=true){o:Oq}{ses:Int}(hs:0<=ses)(h0:(crtM s.ns o ses).2.2=0):tre (yU s (crtM s.ns o ses).1).ns=true:=by
 obtain⟨a1,a2,a3,a4,a5,a6,a7⟩:=crt_ok h0
 obtain⟨b1,b2,b3,b4⟩:=hld_ok a2
 obtain⟨c1,c2⟩:=crP_ok b1 a3
 rw[a7]
 generalize xC s.ns o=H at *
 obtain⟨y,e⟩:=H
 dsimp only at *
 generalize crP o y=Q at *
 obtain⟨q,e2⟩:=Q
 dsimp only at *
 rw[(turn_ok a6).1]
 have hns:(yU s [putPt { y with k:=y.k+1 },putPt (newZ o q ses)]).ns=xT (xT s.ns { y with k:=y.k+1 }) (newZ o q ses):=rfl
 rw[hns]
 have hm:=fnd_mem (l:=s.ns) (p:=(par (hdP o).1).1) (by rw[b3])
 rw[b3] at hm
 dsimp only at hm
 have hne:¬ y.p=q:=fun e=>by
  rw[<- e,hm.2,b3] at a4;simp at a4
 refine tre_new (y:={ y with k:=y.k+1 }) (tre_turn h b3 a6) ?_ ?_ (rgz_new c1 a1 hs) ?_ b4
 ·show (fnd (xT s.ns { y with k:=y.k+1 }) q).2=false
  rw[fnd_put,if_neg hne,a4]
 ·rw[same_len (z:={ y with k:=y.k+1 }) (wL h).2.1 b3 hm.2];exact a5
 ·show fnd (xT s.ns { y with k:=y.k+1 }) (par q).1=_
  rw[c2,fnd_put,if_pos hm.2]
theorem getZ_ok {ns:List Zn}{p:List UInt8}(h0:(getZ ns p).2=0):chk p=0/\fnd ns p=((getZ ns p).1,true):=by
 unfold getZ at h0 ⊢
 split at h0
 ·rename_i h1
  rw[if_pos h1]
  split at h0
  ·rename_i h2
   rw[if_pos h2]
   exact⟨h1,by rw[<- h2]⟩
  ·simp at h0
 ·rename_i h1;exact absurd h0 h1
theorem rem_tre {s:Sv}(h:tre s.ns=true){p:List UInt8}(hf:(fnd s.ns p).2=true)(h0:(remL s.ns p).2=0):tre (yU s (remL s.ns p).1).ns=true:=by
 unfold remL at h0 ⊢
 split at h0
 ·rename_i h1
  rw[if_pos h1]
  split at h0
  ·rename_i h2
   rw[if_pos h2]
   have hc:chd p=true:=by
    unfold par at h1
    split at h1
    ·assumption
    ·simp at h1
   exact (tre_gonL h hc hf h2 h0).1
  ·simp at h0
 ·simp at h0
theorem tch_tre {s:Sv}(h:tre s.ns=true){o:Oq}(hd:o.k=3->o.da.length<=128)(hk:o.k=2\/o.k=3\/o.k=4)(h0:(tchL s.ns o).2=0):tre (yU s (tchL s.ns o).1).ns=true:=by
 unfold tchL at h0 ⊢
 split at h0
 ·rename_i h1
  rw[if_pos h1]
  obtain⟨g1,g2⟩:=getZ_ok h1
  have hm:=fnd_mem (l:=s.ns) (p:=o.pa) (by rw[g2])
  rw[g2] at hm
  generalize getZ s.ns o.pa=g at *
  obtain⟨z,e⟩:=g
  dsimp only at *
  split at h0
  ·simp at h0
  rename_i h2
  rw[if_neg h2]
  split at h0
  ·rename_i h3
   rw[if_pos h3]
   exact rem_tre h (by rw[hm.2,g2]) h0
  rename_i h3
  rw[if_neg h3]
  split at h0
  ·rename_i h4
   rw[if_pos h4]
   exact h
  rename_i h4
  rw[if_neg h4]
  split at h0
  ·simp at h0
  rename_i h5
  rw[if_neg h5]
  have hns:(yU s [putPt { z with d:=o.da,v:=z.v+1 }]).ns=xT s.ns { z with d:=o.da,v:=z.v+1 }:=rfl
  rw[hns]
  refine tre_same h g2 hm.2 rfl ?_
  have hz:=rgz_of ((wL h).2.2.1 z hm.1)
  have hd:=hd (by omega)
  unfold rgz
  rw[decide_eq_true_eq]
  dsimp only
  omega
 ·rename_i h1;exact absurd h0 h1
theorem one_tre {s:Sv}(h:tre s.ns=true){o:Oq}{ses:Int}(hs:0<=ses)(h0:(xP s.ns o ses).2.2=0):tre (yU s (xP s.ns o ses).1).ns=true:=by
 unfold xP at h0 ⊢
 split at h0
 ·rename_i h1
  rw[if_pos h1]
  exact crt_tre h hs h0
 rename_i h1
 rw[if_neg h1]
 split at h0
 ·simp at h0
 rename_i h2
 rw[if_neg h2]
 split at h0
 ·rename_i h3
  rw[if_pos h3]
  exact tch_tre h (fun h=>by omega) h3 h0
 ·simp at h0
theorem chg_tre {s:Sv}{ses:Int}(hs:0<=ses):∀ (l:List Oq)(x:Sv)(i:Nat)(m:List UInt8)(ps:List Pt),tre x.ns=true->EqA x (yU s ps)->(xJ x ses l i m ps).1=0->tre (yU s (xJ x ses l i m ps).2.2.2).ns=true
 |[],x,i,m,ps,h,he,_=>by
  rw[xJ]
  dsimp only
  rw[<- he.ns];exact h
 |o::l,x,i,m,ps,h,he,h0=>by
  rw[xJ] at h0 ⊢
  split at h0
  ·rename_i h1
   rw[if_pos h1]
   have ht:=one_tre h hs h1
   have e1:EqA (doS x (txP (xP x.ns o ses).1)) (yU x (xP x.ns o ses).1):=EqA.doS _ _
   refine chg_tre hs l _ _ _ _ (by rw[e1.ns];exact ht) ?_ h0
   rw[runP_app]
   exact e1.trans (he.run _)
  ·rename_i h1;exact absurd h0 h1
theorem no_kids {ns:List Zn}(h:tre ns=true){w:List UInt8}{y:Zn}(hy:fnd ns w=(y,true))(ho:¬ y.o=0):kds ns w=[]:=by
 unfold kds
 rw[List.map_eq_nil_iff,List.filter_eq_nil_iff]
 intro z hz hi
 unfold isk at hi
 rw[Bool.and_eq_true,decide_eq_true_eq] at hi
 have hz0:¬ z.p=[47]:=fun e=>by rw[e,par_root] at hi;simp at hi
 have:=(wL h).2.2.2 z hz hz0
 rw[hi.2,hy] at this
 exact ho this.2
theorem cls_tre {s:Sv}{ses:Int}(hs:1<=ses):∀ (l:List Zn)(S:Sv)(ps:List Pt),tre S.ns=true->EqA S (yU s ps)->(l.Pairwise fun a b=>a.p<b.p)->(∀z∈l,chk z.p=0/\(z.o=ses->∃y,fnd S.ns z.p=(y,true)/\y.o=ses))->(wT S ses l ps).1=0->tre (yU s (wT S ses l ps).2).ns=true
 |[],S,ps,h,he,_,_,_=>by
  rw[wT]
  dsimp only
  rw[<- he.ns];exact h
 |z::l,S,ps,h,he,hp,hl,h0=>by
  obtain⟨p1,p2⟩:=List.pairwise_cons.1 hp
  rw[wT] at h0 ⊢
  by_cases ho:z.o=ses
  ·rw[if_pos ho] at h0 ⊢
   by_cases hg:(wU S.ns z.p).2=0
   ·rw[if_pos hg] at h0 ⊢
    obtain⟨hc,hy⟩:=hl z List.mem_cons_self
    obtain⟨y,hy,hyo⟩:=hy ho
    have hnr:¬ z.p=[47]:=fun e=>by
     obtain⟨x,r,hx,hx1,hx2,-⟩:=tre_head h
     rw[e,hx,fnd,if_pos hx1] at hy
     have:=(Prod.mk.inj hy).1
     rw[<- this,hx2] at hyo;omega
    have hchd:chd z.p=true:=by unfold chd;rw[decide_eq_true ⟨hnr,hc⟩]
    obtain⟨t1,y2,t2,t3,t4⟩:=tre_gonL h hchd (by rw[hy]) (no_kids h hy (by omega)) hg
    have e1:EqA (doS S (txP (wU S.ns z.p).1)) (yU S (wU S.ns z.p).1):=EqA.doS _ _
    refine cls_tre hs l _ _ (by rw[e1.ns];exact t1) (by rw[runP_app];exact e1.trans (he.run _)) p2 (fun w hw=>?_) h0
    obtain⟨w1,w2⟩:=hl w (List.mem_cons_of_mem _ hw)
    refine⟨w1,fun hwo=>?_⟩
    obtain⟨v,hv,hvo⟩:=w2 hwo
    refine⟨v,?_,hvo⟩
    have hne:¬ w.p=z.p:=fun e=>by
     have:=p1 w hw
     rw[e] at this
     exact lt_irr _ this
    have hm2:=fnd_mem (l:=S.ns) (p:=(par z.p).1) (by rw[t2])
    rw[t2] at hm2
    have hne2:¬ y2.p=w.p:=fun e=>by
     rw[<- hm2.2] at t2
     dsimp only at t2
     rw[e,hv] at t2
     have:=(Prod.mk.inj t2).1
     rw[<- this] at t3;omega
    rw[e1.ns,t4,fnd_put,if_neg hne2,fnd_gone,if_neg hne,hv]
   ·rw[if_neg hg] at h0
    exact absurd h0 hg
  ·rw[if_neg ho] at h0 ⊢
   exact cls_tre hs l S ps h he p2 (fun w hw=>hl w (List.mem_cons_of_mem _ hw)) h0
end Go.Proofs.YtedbbcmokbogpaaGreatDoor
namespace Go.Proofs.YtedbbcmokbogpaaGreatDoor
set_option linter.unusedSimpArgs false
set_option linter.unusedVariables false
set_option maxRecDepth 8000
open Go Go.Av
attribute [local irreducible] Go.Av.yP Go.Av.zU Go.Av.yN Go.Av.zT Go.Av.yO Go.Av.zV Go.Av.Con
theorem chgM_ok (ses:Int):∀ (l:List Oq)(x:Sv)(i:Nat)(m:List UInt8)(ps:List Pt),okN x.ns->(∀o∈l,o.pa.length<=9223372036854775807/\o.da.length<=9223372036854775807)->(∀p∈ps,okP p/\kd3 p)->(∀p∈(xJ x ses l i m ps).2.2.2,okP p/\kd3 p)/\(xJ x ses l i m ps).2.2.2.length<=ps.length+2 * l.length
 |[],x,i,m,ps,_,_,h=>⟨h,by simp[xJ]⟩
 |o::l,x,i,m,ps,hn,ho,h=>by
  have h1:=ho o List.mem_cons_self
  obtain⟨h2,h3⟩:=oneM_ok hn ses h1.1 h1.2
  have h4:=oneM_kd x.ns o ses
  rw[xJ]
  split
  ·have ih:=chgM_ok ses l (doS x (txP (xP x.ns o ses).1)) (i+1) (if m=[] then (xP x.ns o ses).2.1 else m) (ps++(xP x.ns o ses).1) (doS_okN hn h2) (fun q hq=>ho q (List.mem_cons_of_mem _ hq)) (fun p hp=>by
    rcases List.mem_append.1 hp with hp|hp
    ·exact h p hp
    ·exact⟨h2 p hp,h4 p hp⟩)
   refine⟨ih.1,?_⟩
   have:=ih.2
   simp only[List.length_append,List.length_cons] at this ⊢
   omega
  ·exact⟨h,by show ps.length<=_;omega⟩
structure IvO (s x:Sv)(ses:Int)(ops:List Oq)(k:Nat)(m:List UInt8)(ps:List Pt):Prop where
 e:EqA x (yU s ps)
 g:xJ x ses (ops.drop k) k m ps=xJ s ses ops 0 [] []
 l:x.ns.length<=60+2 * k
 N:okN x.ns
 ss:x.ss=s.ss
 c:x.c=s.c
end Go.Proofs.YtedbbcmokbogpaaGreatDoor
namespace Go.Proofs.YtedbbcmokbogpaaGreatDoor
set_option linter.unusedSimpArgs false
set_option linter.unusedVariables false
open Go Go.Av
abbrev up (l:List Int):Prop:=l.Pairwise (· < ·)
theorem insI_cons (x:Int)(l:List Int)(s:Int):insI (x::l) s=if x<s then x::insI l s else s::but (x::l) s:=by
 by_cases h:x<s
 ·have hb:but (x::l) s=x::but l s:=by
   unfold but;rw[List.filter_cons_of_pos (by simp;omega)]
  rw[if_pos h]
  unfold insI
  rw[hb,show atI (x::l) s=atI l s+1 by rw[atI,if_pos h]]
  rfl
 ·rw[if_neg h]
  unfold insI
  rw[show atI (x::l) s=0 by rw[atI,if_neg h]]
  rfl
theorem mem_but {l:List Int}{s x:Int}:x∈but l s ↔ x∈l/\¬ x=s:=by
 unfold but;simp[List.mem_filter]
theorem mem_insI {s x:Int}:∀ {l:List Int},x∈insI l s ↔ x=s\/x∈l
 |[]=>by simp[insI,atI,but]
 |y::l=>by
  rw[insI_cons]
  by_cases h:y<s
  ·rw[if_pos h,List.mem_cons,mem_insI,List.mem_cons]
   constructor
   ·rintro (h1|h1|h1) <;> simp[h1]
   ·rintro (h1|h1|h1) <;> simp[h1]
  ·rw[if_neg h,List.mem_cons,mem_but]
   constructor
   ·rintro (h1|h1)
    ·exact .inl h1
    ·exact .inr h1.1
   ·rintro (h1|h1)
    ·exact .inl h1
    ·by_cases h2:x=s
     ·exact .inl h2
     ·exact .inr ⟨h1,h2⟩
theorem up_but {l:List Int}(h:up l)(s:Int):up (but l s):=h.sublist List.filter_sublist
theorem up_insI {s:Int}:∀ {l:List Int},up l->up (insI l s)
 |[],_=>by simp[insI,atI,but,up]
 |y::l,h=>by
  rw[insI_cons]
  have h':=List.pairwise_cons.1 h
  by_cases hy:y<s
  ·rw[if_pos hy]
   refine List.pairwise_cons.2 ⟨fun x hx=>?_,up_insI h'.2⟩
   rcases mem_insI.1 hx with rfl|hx
   ·exact hy
   ·exact h'.1 x hx
  ·rw[if_neg hy]
   refine List.pairwise_cons.2 ⟨fun x hx=>?_,up_but h s⟩
   obtain⟨h1,h2⟩:=mem_but.1 hx
   rcases List.mem_cons.1 h1 with rfl|h1
   ·omega
   ·have:=h'.1 x h1;omega
inductive Nx where
 |put (z:Zn)
 |gone (p:List UInt8)
 |no
inductive Sx where
 |op (n:Int)
 |cl (n:Int)
 |no
inductive Act1 where
 |part (p:Pt)
 |late (e n:Int)
structure Inv (s:Sv):Prop where
 ns:ris s.ns
 ss:up s.ss
end Go.Proofs.YtedbbcmokbogpaaGreatDoor
