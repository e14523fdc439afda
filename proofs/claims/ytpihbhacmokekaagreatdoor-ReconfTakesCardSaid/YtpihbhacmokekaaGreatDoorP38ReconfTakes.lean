/- Texts that the proof needs: QF QG KH XO XP KI. -/
import Derived.Test.YtpihbhacmokekaaGreatDoorP37ReconfTakes
import Derived.Test.YtpihbhacmokekaaGreatDoorP28ReconfTakes
import Derived.Test.YtpihbhacmokekaaGreatDoorP30ReconfTakes
import Derived.Test.YtpihbhacmokekaaGreatDoorP36ReconfTakes
namespace Go.Proofs.YtpihbhacmokekaaGreatDoor
set_option linter.unusedSimpArgs false
set_option linter.unusedVariables false
open Go Go.Av
attribute [local irreducible] Go.Av.yJ Go.Av.zU Go.Av.yC Go.Av.zQ Go.Av.yG Go.Av.zV Go.Av.Con
theorem check_ok {c:Cf}(h:check c=0):ranged c/\fine (-1) c.ms=true/\xO c.kind c.ms=true:=by
 unfold check at h
 by_cases h1:ranged c
 ·rw[if_pos h1] at h
  by_cases h2:fine (-1) c.ms=true
  ·rw[if_pos h2] at h
   by_cases h3:xO c.kind c.ms=true
   ·exact⟨h1,h2,h3⟩
   ·rw[if_neg h3] at h;omega
  ·rw[if_neg h2] at h;omega
 ·rw[if_neg h1] at h;omega
def enough (c:Cf)(set:List Int):Bool :=
 if c.kind=1 then decide (tot one yes c.ms<2 * tot one (inS set) c.ms)
 else if c.kind=2 then decide (tot Mb.w yes c.ms<2 * tot Mb.w (inS set) c.ms)
 else decide (num (hasG c.ms) 8<2 * num (wonG set c.ms) 8)
def isQ (c:Cf)(set:List Int):Bool:=if check c=0 then enough c set else false
set_option maxHeartbeats 2000000 in
theorem is_con (c:Cf)(set:List Int)(hl:c.ms.length<=1000000):zE Tryz.prog 30 [.p (.agg c.cells),.p (.sl 1 (ints set))] (.p (B (isQ c set))):=by
 have h1:=checkM_con c hl
 by_cases hc:check c=0
 ·obtain⟨-,hf, -⟩:=check_ok hc
  have ho:=fine_ok _ _ hf
  have h2:=most_con c set 63 one hl is1_con (fun m _=>by simp[one])
  have h3:=most_con c set 64 Mb.w hl is2_con (okL_w ho)
  have h4:=groups_con c set hl ho
  have he:isQ c set=enough c set:=by unfold isQ;rw[if_pos hc]
  rw[he]
  rw[hc] at h1
  unfold enough
  obtain⟨ep,n,kind,l⟩:=c
  simp only[Cf.cells] at h1 h2 h3 h4 ⊢
  by_cases k1:kind=1
  ·subst k1
   rw[if_pos rfl]
   generalize decide (tot one yes l<2 * tot one (inS set) l)=z at h2
   refine zG Tryz.tab Tryz.mixed Tryz.func30 rfl rfl Tryz.ntmps30 (by simp) (by simp) fun Q hr hn=>?_
   repeat' first|((first|refine O _ ?_|refine O _ _ ?_|(clear O;refine O _ ?_));clear O)|(refine zJ fun K O=>?_)|((first|refine zH ?_|refine zN rfl (by kernel_rfl) ?_|refine zM ?_|refine zK (by kernel_rfl) ?_);simp only[vS,vR,strip])|((first|refine wIs fun K O=>?_|refine wOs fun K O=>?_|refine wQs fun K O=>?_|refine zW ?_|refine zX ?_|refine zY ?_|refine zL ?_);simp)|(refine wIn ?_;refine And.intro (by kernel_rfl) ?_;try simp only[zZ])|refine zR ?_|refine zT ?_|((first|refine zI ?_|refine zO ?_|refine zP ?_);try simp)|((first|refine zS ?_|refine wOn ?_|refine wQn ?_);try simp only[zZ])|refine zU.p h1 rfl ?_|refine zU.l h1 rfl ?_|refine zQ.pure h1 rfl ?_|refine zQ.lent h1 rfl ?_|refine zU.o h1 ?_|refine zV.p h1 rfl ?_|refine zV.l h1 rfl ?_|refine zV.o h1 ?_|refine zU.p h2 rfl ?_|refine zU.l h2 rfl ?_|refine zQ.pure h2 rfl ?_|refine zQ.lent h2 rfl ?_|refine zU.o h2 ?_|refine zV.p h2 rfl ?_|refine zV.l h2 rfl ?_|refine zV.o h2 ?_
   all_goals apply hr
   all_goals simp[Tryz.f30]
  ·rw[if_neg k1]
   by_cases k2:kind=2
   ·subst k2
    rw[if_pos rfl]
    generalize decide (tot Mb.w yes l<2 * tot Mb.w (inS set) l)=z at h3
    refine zG Tryz.tab Tryz.mixed Tryz.func30 rfl rfl Tryz.ntmps30 (by simp) (by simp) fun Q hr hn=>?_
    repeat' first|((first|refine O _ ?_|refine O _ _ ?_|(clear O;refine O _ ?_));clear O)|(refine zJ fun K O=>?_)|((first|refine zH ?_|refine zN rfl (by kernel_rfl) ?_|refine zM ?_|refine zK (by kernel_rfl) ?_);simp only[vS,vR,strip])|((first|refine wIs fun K O=>?_|refine wOs fun K O=>?_|refine wQs fun K O=>?_|refine zW ?_|refine zX ?_|refine zY ?_|refine zL ?_);simp)|(refine wIn ?_;refine And.intro (by kernel_rfl) ?_;try simp only[zZ])|refine zR ?_|refine zT ?_|((first|refine zI ?_|refine zO ?_|refine zP ?_);try simp)|((first|refine zS ?_|refine wOn ?_|refine wQn ?_);try simp only[zZ])|refine zU.p h1 rfl ?_|refine zU.l h1 rfl ?_|refine zQ.pure h1 rfl ?_|refine zQ.lent h1 rfl ?_|refine zU.o h1 ?_|refine zV.p h1 rfl ?_|refine zV.l h1 rfl ?_|refine zV.o h1 ?_|refine zU.p h3 rfl ?_|refine zU.l h3 rfl ?_|refine zQ.pure h3 rfl ?_|refine zQ.lent h3 rfl ?_|refine zU.o h3 ?_|refine zV.p h3 rfl ?_|refine zV.l h3 rfl ?_|refine zV.o h3 ?_
    all_goals apply hr
    all_goals simp[Tryz.f30]
   ·rw[if_neg k2]
    generalize decide (num (hasG l) 8<2 * num (wonG set l) 8)=z at h4
    refine zG Tryz.tab Tryz.mixed Tryz.func30 rfl rfl Tryz.ntmps30 (by simp) (by simp) fun Q hr hn=>?_
    repeat' first|((first|refine O _ ?_|refine O _ _ ?_|(clear O;refine O _ ?_));clear O)|(refine zJ fun K O=>?_)|((first|refine zH ?_|refine zN rfl (by kernel_rfl) ?_|refine zM ?_|refine zK (by kernel_rfl) ?_);simp only[vS,vR,strip])|((first|refine wIs fun K O=>?_|refine wOs fun K O=>?_|refine wQs fun K O=>?_|refine zW ?_|refine zX ?_|refine zY ?_|refine zL ?_);simp[k1,k2])|(refine wIn ?_;refine And.intro (by kernel_rfl) ?_;try simp only[zZ])|refine zR ?_|refine zT ?_|((first|refine zI ?_|refine zO ?_|refine zP ?_);try simp)|((first|refine zS ?_|refine wOn ?_|refine wQn ?_);try simp only[zZ])|refine zU.p h1 rfl ?_|refine zU.l h1 rfl ?_|refine zQ.pure h1 rfl ?_|refine zQ.lent h1 rfl ?_|refine zU.o h1 ?_|refine zV.p h1 rfl ?_|refine zV.l h1 rfl ?_|refine zV.o h1 ?_|refine zU.p h4 rfl ?_|refine zU.l h4 rfl ?_|refine zQ.pure h4 rfl ?_|refine zQ.lent h4 rfl ?_|refine zU.o h4 ?_|refine zV.p h4 rfl ?_|refine zV.l h4 rfl ?_|refine zV.o h4 ?_
    all_goals apply hr
    all_goals simp[Tryz.f30]
 ·have he:isQ c set=false:=by unfold isQ;rw[if_neg hc]
  rw[he]
  generalize check c=z at h1 hc
  obtain⟨ep,n,kind,l⟩:=c
  simp only[Cf.cells] at h1 ⊢
  refine zG Tryz.tab Tryz.mixed Tryz.func30 rfl rfl Tryz.ntmps30 (by simp) (by simp) fun Q hr hn=>?_
  repeat' first|((first|refine O _ ?_|refine O _ _ ?_|(clear O;refine O _ ?_));clear O)|(refine zJ fun K O=>?_)|((first|refine zH ?_|refine zN rfl (by kernel_rfl) ?_|refine zM ?_|refine zK (by kernel_rfl) ?_);simp only[vS,vR,strip])|((first|refine wIs fun K O=>?_|refine wOs fun K O=>?_|refine wQs fun K O=>?_|refine zW ?_|refine zX ?_|refine zY ?_|refine zL ?_);simp[hc])|(refine wIn ?_;refine And.intro (by kernel_rfl) ?_;try simp only[zZ])|refine zR ?_|refine zT ?_|((first|refine zI ?_|refine zO ?_|refine zP ?_);try simp)|((first|refine zS ?_|refine wOn ?_|refine wQn ?_);try simp only[zZ])|refine zU.p h1 rfl ?_|refine zU.l h1 rfl ?_|refine zQ.pure h1 rfl ?_|refine zQ.lent h1 rfl ?_|refine zU.o h1 ?_|refine zV.p h1 rfl ?_|refine zV.l h1 rfl ?_|refine zV.o h1 ?_
  all_goals apply hr
  all_goals simp[Tryz.f30]
set_option maxHeartbeats 8000000 in
theorem is05_con (c:Cf)(set:List Int)(hl:c.ms.length<=1000000):zE Tryz.prog 17 [.p (.agg c.cells),.p (.sl 1 (ints set))] (.p (B (isQ c set))):=by
 have hch:=check04_con c hl
 by_cases hc:check c=0
 rotate_left
 ·have he:isQ c set=false:=by unfold isQ;rw[if_neg hc]
  rw[he]
  generalize check c=z at hch hc
  obtain⟨ep,n,kind,l⟩:=c
  simp only[Cf.cells] at hch ⊢
  refine zG Tryz.tab Tryz.mixed Tryz.func17 rfl rfl Tryz.ntmps17 (by simp) (by simp) fun Q hr hn=>?_
  repeat' first|((first|refine O _ ?_|refine O _ _ ?_|(clear O;refine O _ ?_));clear O)|(refine zJ fun K O=>?_)|((first|refine zH ?_|refine zN rfl (by kernel_rfl) ?_|refine zM ?_|refine zK (by kernel_rfl) ?_);simp only[vS,vR,strip])|((first|refine wIs fun K O=>?_|refine wOs fun K O=>?_|refine wQs fun K O=>?_|refine zW ?_|refine zX ?_|refine zY ?_|refine zL ?_);simp[hc])|(refine wIn ?_;refine And.intro (by kernel_rfl) ?_;try simp only[zZ])|refine zR ?_|refine zT ?_|((first|refine zI ?_|refine zO ?_|refine zP ?_);try simp)|((first|refine zS ?_|refine wOn ?_|refine wQn ?_);try simp only[zZ])|refine zU.p hch rfl ?_|refine zU.l hch rfl ?_|refine zQ.pure hch rfl ?_|refine zQ.lent hch rfl ?_|refine zU.o hch ?_|refine zV.p hch rfl ?_|refine zV.l hch rfl ?_|refine zV.o hch ?_
  all_goals apply hr
  all_goals simp[Tryz.f17]
 obtain⟨-,hf,-⟩:=check_ok hc
 have ho:=fine_ok _ _ hf
 have he:isQ c set=enough c set:=by unfold isQ;rw[if_pos hc]
 rw[he]
 rw[hc] at hch
 unfold enough
 obtain⟨ep,n,kind,l⟩:=c
 simp only[Cf.cells] at hch hl ho ⊢
 refine zG Tryz.tab Tryz.mixed Tryz.func17 rfl rfl Tryz.ntmps17 (by simp) (by simp) fun Q hr hn=>?_
 repeat' first|((first|refine O _ ?_|refine O _ _ ?_|(clear O;refine O _ ?_));clear O)|(refine zJ fun K O=>?_)|((first|refine zH ?_|refine zN rfl (by kernel_rfl) ?_|refine zM ?_|refine zK (by kernel_rfl) ?_);simp only[vS,vR,strip])|((first|refine wIs fun K O=>?_|refine wOs fun K O=>?_|refine wQs fun K O=>?_|refine zW ?_|refine zX ?_|refine zY ?_|refine zL ?_);simp)|(refine wIn ?_;refine And.intro (by kernel_rfl) ?_;try simp only[zZ])|refine zR ?_|refine zT ?_|((first|refine zI ?_|refine zO ?_|refine zP ?_);try simp)|((first|refine zS ?_|refine wOn ?_|refine wQn ?_);try simp only[zZ])|refine zU.p hch rfl ?_|refine zU.l hch rfl ?_|refine zQ.pure hch rfl ?_|refine zQ.lent hch rfl ?_|refine zU.o hch ?_|refine zV.p hch rfl ?_|refine zV.l hch rfl ?_|refine zV.o hch ?_
 refine zC (fun N st=>∃ (k:Nat),k+N=l.length/\st.s 1=.p (.sl 1 (ints set))/\st.s 2=.ptr 2 0/\st.s 5=.ptr 5 0/\st.s 6=.ptr 6 0/\st.b 2=some (.box 28 [.p (I ep),.p (I n),.p (I kind),.p (.sl 4 (mbs l))])/\st.s 20=.p (.sl 4 (mbs l))/\st.s 21=.p (I l.length)/\st.s 22=.p (I k) ∧
  st.b 6=some (.box 92 (bx (gs (inS set) (l.take k))))/\st.b 5=some (.box 92 (bx (gs yes (l.take k))))/\st.s 7=.p (I (tot one yes (l.take k)))/\st.s 8=.p (I (tot one (inS set) (l.take k)))/\st.s 9=.p (I (tot Mb.w yes (l.take k)))/\st.s 10=.p (I (tot Mb.w (inS set) (l.take k)))) l.length ⟨0,by simp[bx,gs,List.range,List.range.loop,tot]⟩ fun K N st hL ⟨k,hk,h1,h2,h5,h6,b2,h20,h21,h22,b6,b5,h7,h8,h9,h10⟩=>?_
 by_cases hlt:k<l.length
 ·have hw:=yU k _ hlt (by omega)
  have okk:=okL_get ho k hlt
  obtain⟨w0,w1⟩:=okk.2.2.1
  obtain⟨g0,g1⟩:=okk.2.2.2
  have g2:l[k].g.toNat<8:=by omega
  have g1':l[k].g<8:=by omega
  by_cases o4:l[k].r=1
  ·have hcall:=has05_con set l[k].i
   have hlk:(l.take k).length<=1000000:=by simp;omega
   have u1:=yQ one yes (l.take k) (fun m _=>by simp[one])
   have u2:=yQ one (inS set) (l.take k) (fun m _=>by simp[one])
   have u3:=yQ Mb.w yes (l.take k) (okL_w (okL_take ho k))
   have u4:=yQ Mb.w (inS set) (l.take k) (okL_w (okL_take ho k))
   have t1:=yQ Mb.w (inG yes l[k].g.toNat) (l.take k) (okL_w (okL_take ho k))
   have t2:=yQ Mb.w (inG (inS set) l[k].g.toNat) (l.take k) (okL_w (okL_take ho k))
   have hw1:IntKind.i64.wrap (tot one yes (l.take k)+1)=tot one yes (l.take k)+1:=by rw[zF] <;> omega
   have hw2:IntKind.i64.wrap (tot one (inS set) (l.take k)+1)=tot one (inS set) (l.take k)+1:=by rw[zF] <;> omega
   have hw3:IntKind.i64.wrap (tot Mb.w yes (l.take k)+l[k].w)=tot Mb.w yes (l.take k)+l[k].w:=by rw[zF] <;> omega
   have hw4:IntKind.i64.wrap (tot Mb.w (inS set) (l.take k)+l[k].w)=tot Mb.w (inS set) (l.take k)+l[k].w:=by rw[zF] <;> omega
   have hwa:IntKind.i64.wrap (tot Mb.w (inG yes l[k].g.toNat) (l.take k)+l[k].w)=tot Mb.w (inG yes l[k].g.toNat) (l.take k)+l[k].w:=by rw[zF] <;> omega
   have hwb:IntKind.i64.wrap (tot Mb.w (inG (inS set) l[k].g.toNat) (l.take k)+l[k].w)=tot Mb.w (inG (inS set) l[k].g.toNat) (l.take k)+l[k].w:=by rw[zF] <;> omega
   by_cases o5:l[k].i∈set
   ·have o6:inS set l[k]=true:=by simp[inS,o5]
    rw[decide_eq_true o5] at hcall
    repeat' first|(refine wDrwT 8 (by kernel_rfl) ?_;simp only[vS,vR,strip,List.take,List.drop])|((first|refine O _ ?_|refine O _ _ ?_|(clear O;refine O _ ?_));clear O)|(refine zJ fun K O=>?_)|((first|refine zH ?_|refine zN rfl (by kernel_rfl) ?_|refine zM ?_|refine zK (by kernel_rfl) ?_);simp only[vS,vR,strip])|((first|refine wIs fun K O=>?_|refine wOs fun K O=>?_|refine wQs fun K O=>?_|refine zW ?_|refine zX ?_|refine zY ?_|refine zL ?_);simp[h1,h2,h5,h6,b2,h20,h21,h22,b5,b6,h7,h8,h9,h10,hlt,hw,o4,g0,g1,g1',g2,hw1,hw2,hw3,hw4,hwa,hwb,PV.one])|(refine wIn ?_;refine And.intro (by kernel_rfl) ?_;try simp only[zZ])|refine zR ?_|refine zT ?_|((first|refine zI ?_|refine zO ?_|refine zP ?_);try simp)|((first|refine zS ?_|refine wOn ?_|refine wQn ?_);try simp only[zZ])|refine zU.p hcall rfl ?_|refine zU.l hcall rfl ?_|refine zQ.pure hcall rfl ?_|refine zQ.lent hcall rfl ?_|refine zU.o hcall ?_|refine zV.p hcall rfl ?_|refine zV.l hcall rfl ?_|refine zV.o hcall ?_
    refine hL _ (N-1) (by omega) ⟨k+1,by omega,?_⟩
    simp[h1,h2,h5,h6,b2,h20,h21,hw,hw1,hw2,hw3,hw4]
    rw[bx_put _ _ _ (by simpa using g2),bx_put _ _ _ (by simpa using g2),gs_snoc yes l k hlt okk o4 rfl,gs_snoc (inS set) l k hlt okk o4 o6]
    simp only[tot_snoc _ _ l k hlt,o4,o6,yes,one,and_self,if_true]
   ·have o6:¬ (l[k].r=1/\inS set l[k]=true):=by simp[inS,o5]
    rw[decide_eq_false o5] at hcall
    repeat' first|(refine wDrwT 8 (by kernel_rfl) ?_;simp only[vS,vR,strip,List.take,List.drop])|((first|refine O _ ?_|refine O _ _ ?_|(clear O;refine O _ ?_));clear O)|(refine zJ fun K O=>?_)|((first|refine zH ?_|refine zN rfl (by kernel_rfl) ?_|refine zM ?_|refine zK (by kernel_rfl) ?_);simp only[vS,vR,strip])|((first|refine wIs fun K O=>?_|refine wOs fun K O=>?_|refine wQs fun K O=>?_|refine zW ?_|refine zX ?_|refine zY ?_|refine zL ?_);simp[h1,h2,h5,h6,b2,h20,h21,h22,b5,b6,h7,h8,h9,h10,hlt,hw,o4,g0,g1,g1',g2,hw1,hw2,hw3,hw4,hwa,hwb,PV.one])|(refine wIn ?_;refine And.intro (by kernel_rfl) ?_;try simp only[zZ])|refine zR ?_|refine zT ?_|((first|refine zI ?_|refine zO ?_|refine zP ?_);try simp)|((first|refine zS ?_|refine wOn ?_|refine wQn ?_);try simp only[zZ])|refine zU.p hcall rfl ?_|refine zU.l hcall rfl ?_|refine zQ.pure hcall rfl ?_|refine zQ.lent hcall rfl ?_|refine zU.o hcall ?_|refine zV.p hcall rfl ?_|refine zV.l hcall rfl ?_|refine zV.o hcall ?_
    refine hL _ (N-1) (by omega) ⟨k+1,by omega,?_⟩
    simp[h1,h2,h5,h6,b2,b6,h8,h10,h20,h21,hw,hw1,hw3]
    rw[bx_put _ _ _ (by simpa using g2),gs_snoc yes l k hlt okk o4 rfl,gs_skip (inS set) l k hlt o6]
    simp only[tot_snoc _ _ l k hlt]
    rw[if_neg o6,if_pos ⟨o4,rfl⟩]
    simp[one]
    rw[if_neg o6]
    simp[o4,yes]
  ·repeat' first|(refine O _ ?_;clear O)|(refine O _ _ ?_;clear O)|(clear O;refine O _ ?_;clear O)|(clear O;clear O;refine O _ ?_;clear O)|(clear O;clear O;clear O;refine O _ ?_;clear O)|(clear O;clear O;clear O;clear O;refine O _ ?_;clear O)|(refine zJ fun K O=>?_)|((first|refine zH ?_|refine zN rfl (by kernel_rfl) ?_|refine zM ?_|refine zK (by kernel_rfl) ?_);simp only[vS,vR,strip])|((first|refine wIs fun K O=>?_|refine wOs fun K O=>?_|refine wQs fun K O=>?_|refine zW ?_|refine zX ?_|refine zY ?_|refine zL ?_);simp[h1,h2,h5,h6,b2,h20,h21,h22,b5,b6,h7,h8,h9,h10,hlt,hw,o4])|(refine wIn ?_;refine And.intro (by kernel_rfl) ?_;try simp only[zZ])|(first|refine zR ?_|refine zT ?_)|((first|refine zI ?_|refine zO ?_|refine zP ?_);try simp)|((first|refine zS ?_|refine wOn ?_|refine wQn ?_);try simp only[zZ])
   refine hL _ (N-1) (by omega) ⟨k+1,by omega,?_⟩
   simp[h1,h2,h5,h6,b2,b5,b6,h7,h8,h9,h10,h20,h21,hw]
   rw[gs_skip (inS set) l k hlt (fun x=>o4 x.1),gs_skip yes l k hlt (fun x=>o4 x.1)]
   simp[tot_snoc _ _ l k hlt,o4]
 ·rw[List.take_of_length_le (by omega)] at b5 b6 h7 h8 h9 h10
  have u1:=yQ one yes l (fun m _=>by simp[one])
  have u2:=yQ one (inS set) l (fun m _=>by simp[one])
  have u3:=yQ Mb.w yes l (okL_w ho)
  have u4:=yQ Mb.w (inS set) l (okL_w ho)
  by_cases k1:kind=1
  ·subst k1
   have hwx:IntKind.i64.wrap (2 * tot one (inS set) l)=2 * tot one (inS set) l:=by rw[zF] <;> omega
   repeat' first|((first|refine O _ ?_|refine O _ _ ?_|(clear O;refine O _ ?_));clear O)|(refine zJ fun K O=>?_)|((first|refine zH ?_|refine zN rfl (by kernel_rfl) ?_|refine zM ?_|refine zK (by kernel_rfl) ?_);simp only[vS,vR,strip])|((first|refine wIs fun K O=>?_|refine wOs fun K O=>?_|refine wQs fun K O=>?_|refine zW ?_|refine zX ?_|refine zY ?_|refine zL ?_);simp[h1,h2,h5,h6,b2,h20,h21,h22,b5,b6,h7,h8,h9,h10,hlt,hwx])|(refine wIn ?_;refine And.intro (by kernel_rfl) ?_;try simp only[zZ])|refine zR ?_|refine zT ?_|((first|refine zI ?_|refine zO ?_|refine zP ?_);try simp)|((first|refine zS ?_|refine wOn ?_|refine wQn ?_);try simp only[zZ])
   all_goals apply hr
   all_goals simp[Tryz.f17]
  by_cases k2:kind=2
  ·subst k2
   have hwx:IntKind.i64.wrap (2 * tot Mb.w (inS set) l)=2 * tot Mb.w (inS set) l:=by rw[zF] <;> omega
   repeat' first|((first|refine O _ ?_|refine O _ _ ?_|(clear O;refine O _ ?_));clear O)|(refine zJ fun K O=>?_)|((first|refine zH ?_|refine zN rfl (by kernel_rfl) ?_|refine zM ?_|refine zK (by kernel_rfl) ?_);simp only[vS,vR,strip])|((first|refine wIs fun K O=>?_|refine wOs fun K O=>?_|refine wQs fun K O=>?_|refine zW ?_|refine zX ?_|refine zY ?_|refine zL ?_);simp[h1,h2,h5,h6,b2,h20,h21,h22,b5,b6,h7,h8,h9,h10,hlt,hwx])|(refine wIn ?_;refine And.intro (by kernel_rfl) ?_;try simp only[zZ])|refine zR ?_|refine zT ?_|((first|refine zI ?_|refine zO ?_|refine zP ?_);try simp)|((first|refine zS ?_|refine wOn ?_|refine wQn ?_);try simp only[zZ])
   all_goals apply hr
   all_goals simp[Tryz.f17]
  repeat' first|((first|refine O _ ?_|refine O _ _ ?_|(clear O;refine O _ ?_));clear O)|(refine zJ fun K O=>?_)|((first|refine zH ?_|refine zN rfl (by kernel_rfl) ?_|refine zM ?_|refine zK (by kernel_rfl) ?_);simp only[vS,vR,strip])|((first|refine wIs fun K O=>?_|refine wOs fun K O=>?_|refine wQs fun K O=>?_|refine zW ?_|refine zX ?_|refine zY ?_|refine zL ?_);simp[h1,h2,h5,h6,b2,h20,h21,h22,b5,b6,h7,h8,h9,h10,hlt,k1,k2])|(refine wIn ?_;refine And.intro (by kernel_rfl) ?_;try simp only[zZ])|refine zR ?_|refine zT ?_|((first|refine zI ?_|refine zO ?_|refine zP ?_);try simp)|((first|refine zS ?_|refine wOn ?_|refine wQn ?_);try simp only[zZ])
  refine zC (fun N st=>∃ (k:Nat),k+N=8/\st.s 5=.ptr 5 0/\st.s 6=.ptr 6 0/\st.b 6=some (.box 92 (bx (gs (inS set) l)))/\st.b 5=some (.box 92 (bx (gs yes l)))/\st.s 76=.p (I k)/\st.s 14=.p (I (num (wonG set l) k))/\st.s 13=.p (I (num (hasG l) k))) 8 ⟨0,by simp[h5,b5,h6,b6,num]⟩ fun K' N' st' hL' ⟨j,hj,g5,g6,c6,c5,g76,g14,g13⟩=>?_
  have nb1:=num_bound (wonG set l) j
  have nb2:=num_bound (hasG l) j
  by_cases hjl:j<8
  ·have hw:=yU j 8 hjl (by omega)
   have hjI:(j:Int)<8:=by omega
   have hwa:IntKind.i64.wrap (num (wonG set l) j+1)=num (wonG set l) j+1:=by rw[zF] <;> omega
   have hwb:IntKind.i64.wrap (num (hasG l) j+1)=num (hasG l) j+1:=by rw[zF] <;> omega
   have t1:=yQ Mb.w (inG yes j) l (okL_w ho)
   have t2:=yQ Mb.w (inG (inS set) j) l (okL_w ho)
   have hwc:IntKind.i64.wrap (2 * tot Mb.w (inG (inS set) j) l)=2 * tot Mb.w (inG (inS set) j) l:=by rw[zF] <;> omega
   by_cases q1:0<tot Mb.w (inG yes j) l
   ·by_cases q2:tot Mb.w (inG yes j) l<2 * tot Mb.w (inG (inS set) j) l
    ·repeat' first|(refine O _ ?_;clear O)|(refine O _ _ ?_;clear O)|(clear O;refine O _ ?_;clear O)|(clear O;clear O;refine O _ ?_;clear O)|(clear O;clear O;clear O;refine O _ ?_;clear O)|(clear O;clear O;clear O;clear O;refine O _ ?_;clear O)|(refine zJ fun K O=>?_)|((first|refine zH ?_|refine zN rfl (by kernel_rfl) ?_|refine zM ?_|refine zK (by kernel_rfl) ?_);simp only[vS,vR,strip])|((first|refine wIs fun K O=>?_|refine wOs fun K O=>?_|refine wQs fun K O=>?_|refine zW ?_|refine zX ?_|refine zY ?_|refine zL ?_);simp[g5,g6,c5,c6,g76,g14,g13,hjl,hjI,hw,hwa,hwb,hwc,q1,q2,PV.one])|(refine wIn ?_;refine And.intro (by kernel_rfl) ?_;try simp only[zZ])|(first|refine zR ?_|refine zT ?_)|((first|refine zI ?_|refine zO ?_|refine zP ?_);try simp)|((first|refine zS ?_|refine wOn ?_|refine wQn ?_);try simp only[zZ])
     refine hL' _ (N'-1) (by omega) ⟨j+1,by omega,?_⟩
     simp[g5,g6,c5,c6,hw,g14,g13,hwa,hwb]
     simp[num,hasG,wonG,q1,q2]
    ·repeat' first|(refine O _ ?_;clear O)|(refine O _ _ ?_;clear O)|(clear O;refine O _ ?_;clear O)|(clear O;clear O;refine O _ ?_;clear O)|(clear O;clear O;clear O;refine O _ ?_;clear O)|(clear O;clear O;clear O;clear O;refine O _ ?_;clear O)|(refine zJ fun K O=>?_)|((first|refine zH ?_|refine zN rfl (by kernel_rfl) ?_|refine zM ?_|refine zK (by kernel_rfl) ?_);simp only[vS,vR,strip])|((first|refine wIs fun K O=>?_|refine wOs fun K O=>?_|refine wQs fun K O=>?_|refine zW ?_|refine zX ?_|refine zY ?_|refine zL ?_);simp[g5,g6,c5,c6,g76,g14,g13,hjl,hjI,hw,hwa,hwb,hwc,q1,q2,PV.one])|(refine wIn ?_;refine And.intro (by kernel_rfl) ?_;try simp only[zZ])|(first|refine zR ?_|refine zT ?_)|((first|refine zI ?_|refine zO ?_|refine zP ?_);try simp)|((first|refine zS ?_|refine wOn ?_|refine wQn ?_);try simp only[zZ])
     refine hL' _ (N'-1) (by omega) ⟨j+1,by omega,?_⟩
     simp[g5,g6,c5,c6,hw,g14,g13,hwa,hwb]
     simp[num,hasG,wonG,q1,q2]
   ·by_cases q2:tot Mb.w (inG yes j) l<2 * tot Mb.w (inG (inS set) j) l
    ·repeat' first|(refine O _ ?_;clear O)|(refine O _ _ ?_;clear O)|(clear O;refine O _ ?_;clear O)|(clear O;clear O;refine O _ ?_;clear O)|(clear O;clear O;clear O;refine O _ ?_;clear O)|(clear O;clear O;clear O;clear O;refine O _ ?_;clear O)|(refine zJ fun K O=>?_)|((first|refine zH ?_|refine zN rfl (by kernel_rfl) ?_|refine zM ?_|refine zK (by kernel_rfl) ?_);simp only[vS,vR,strip])|((first|refine wIs fun K O=>?_|refine wOs fun K O=>?_|refine wQs fun K O=>?_|refine zW ?_|refine zX ?_|refine zY ?_|refine zL ?_);simp[g5,g6,c5,c6,g76,g14,g13,hjl,hjI,hw,hwa,hwb,hwc,q1,q2,PV.one])|(refine wIn ?_;refine And.intro (by kernel_rfl) ?_;try simp only[zZ])|(first|refine zR ?_|refine zT ?_)|((first|refine zI ?_|refine zO ?_|refine zP ?_);try simp)|((first|refine zS ?_|refine wOn ?_|refine wQn ?_);try simp only[zZ])
     refine hL' _ (N'-1) (by omega) ⟨j+1,by omega,?_⟩
     simp[g5,g6,c5,c6,hw,g14,g13,hwa,hwb]
     simp[num,hasG,wonG,q1,q2]
    ·repeat' first|(refine O _ ?_;clear O)|(refine O _ _ ?_;clear O)|(clear O;refine O _ ?_;clear O)|(clear O;clear O;refine O _ ?_;clear O)|(clear O;clear O;clear O;refine O _ ?_;clear O)|(clear O;clear O;clear O;clear O;refine O _ ?_;clear O)|(refine zJ fun K O=>?_)|((first|refine zH ?_|refine zN rfl (by kernel_rfl) ?_|refine zM ?_|refine zK (by kernel_rfl) ?_);simp only[vS,vR,strip])|((first|refine wIs fun K O=>?_|refine wOs fun K O=>?_|refine wQs fun K O=>?_|refine zW ?_|refine zX ?_|refine zY ?_|refine zL ?_);simp[g5,g6,c5,c6,g76,g14,g13,hjl,hjI,hw,hwa,hwb,hwc,q1,q2,PV.one])|(refine wIn ?_;refine And.intro (by kernel_rfl) ?_;try simp only[zZ])|(first|refine zR ?_|refine zT ?_)|((first|refine zI ?_|refine zO ?_|refine zP ?_);try simp)|((first|refine zS ?_|refine wOn ?_|refine wQn ?_);try simp only[zZ])
     refine hL' _ (N'-1) (by omega) ⟨j+1,by omega,?_⟩
     simp[g5,g6,c5,c6,hw,g14,g13,hwa,hwb]
     simp[num,hasG,wonG,q1,q2]
  ·obtain rfl:j=8:=by omega
   simp at g76
   have hwc:IntKind.i64.wrap (2 * num (wonG set l) 8)=2 * num (wonG set l) 8:=by rw[zF] <;> omega
   repeat' first|((first|refine O _ ?_|refine O _ _ ?_|(clear O;refine O _ ?_));clear O)|(refine zJ fun K O=>?_)|((first|refine zH ?_|refine zN rfl (by kernel_rfl) ?_|refine zM ?_|refine zK (by kernel_rfl) ?_);simp only[vS,vR,strip])|((first|refine wIs fun K O=>?_|refine wOs fun K O=>?_|refine wQs fun K O=>?_|refine zW ?_|refine zX ?_|refine zY ?_|refine zL ?_);simp[g5,g6,c5,c6,g76,g14,g13,hwc])|(refine wIn ?_;refine And.intro (by kernel_rfl) ?_;try simp only[zZ])|refine zR ?_|refine zT ?_|((first|refine zI ?_|refine zO ?_|refine zP ?_);try simp)|((first|refine zS ?_|refine wOn ?_|refine wQn ?_);try simp only[zZ])
   apply hr
   simp[Tryz.f17,k1,k2]
def mx (n:Int):List (List Int)->Int
 |[]=>n
 |s::l=>mx (if n<s.length then s.length else n) l
def cfs (l:List Cf):List (List PV):=l.map Cf.cells
@[simp] theorem cfs_len (l:List Cf):(cfs l).length=l.length:=by simp[cfs]
def yH (ps:List Pt):Option Cf:=((ps.filter fun p=>decide (p.k=5)).getLast?).map Pt.c
theorem lastC_at {ps:List Pt}{i:Nat}(hi:i<ps.length)(h:ps[i].k=5)(hb:∀j (hj:j<ps.length),i<j->¬ ps[j].k=5):yH ps=some ps[i].c:=by
 have e:ps=ps.take i++ps[i]::ps.drop (i+1):=by rw[<- List.drop_eq_getElem_cons hi,List.take_append_drop]
 have e2:(ps.drop (i+1)).filter (fun p=>decide (p.k=5))=[]:=by
  rw[List.filter_eq_nil_iff]
  intro x hx
  obtain⟨j,hj,rfl⟩:=List.getElem_of_mem hx
  rw[List.getElem_drop]
  have hj':i+1+j<ps.length:=by simp at hj;omega
  simpa using hb _ hj' (by omega)
 unfold yH
 have e3:ps.filter (fun p=>decide (p.k=5))=(ps.take i).filter (fun p=>decide (p.k=5))++[ps[i]]:=by
  conv=>lhs;rw[e]
  rw[List.filter_append,List.filter_cons,if_pos (decide_eq_true h),e2]
 rw[e3]
 simp
theorem lastC_none {ps:List Pt}(hb:∀j (hj:j<ps.length),¬ ps[j].k=5):yH ps=none:=by
 have e2:ps.filter (fun p=>decide (p.k=5))=[]:=by
  rw[List.filter_eq_nil_iff]
  intro x hx
  obtain⟨j,hj,rfl⟩:=List.getElem_of_mem hx
  simpa using hb _ hj
 unfold yH
 rw[e2];rfl
structure NS where
 (was now:Cf)
 (fe fn:Int)
 (ch:Bool)
def nsStep (s:NS)(t:Tx):NS:=match yH t.ps with
 |none=>s
 |some c=>⟨s.now,c,t.e,t.n,true⟩
def ns0 (h:Hy):NS:=⟨h.im.c,h.im.c,h.im.ae,h.im.an,false⟩
def nsOf (h:Hy)(l:List Tx):NS:=l.foldl nsStep (ns0 h)
theorem nsOf_snoc (h:Hy){l:List Tx}{k:Nat}(hk:k<l.length):nsOf h (l.take (k+1))=nsStep (nsOf h (l.take k)) l[k]:=by
 rw[List.take_succ_eq_append_getElem hk,nsOf,List.foldl_append];rfl
def endN (s:NS)(de dn:Int):List Cf:=if s.ch=false\/xK s.fe s.fn de dn<=0 then [s.now] else [s.was,s.now]
def xG (h:Hy)(de dn:Int):List Cf:=endN (nsOf h h.lg) de dn
structure OkH (h:Hy):Prop where
 ns:h.im.ns.length<=1000
 ss:h.im.ss.length<=1000
 c:h.im.c.ms.length<=1000
 lg:h.lg.length<=1000
 ps:∀t∈h.lg,t.ps.length<=1000/\∀p∈t.ps,p.c.ms.length<=1000
 tot:(h.lg.map fun t=>t.ps.length).sum<=1000
theorem nsOf_ok {h:Hy}(hk:OkH h):∀ {l:List Tx},(∀t∈l,t∈h.lg)->(nsOf h l).was.ms.length<=1000/\(nsOf h l).now.ms.length<=1000:=by
 have key:∀ (l:List Tx)(s:NS),(∀t∈l,t∈h.lg)->s.was.ms.length<=1000->s.now.ms.length<=1000->(l.foldl nsStep s).was.ms.length<=1000/\(l.foldl nsStep s).now.ms.length<=1000:=by
  intro l
  induction l with
  |nil=>intro s _ h1 h2;exact⟨h1,h2⟩
  |cons t l ih =>
   intro s hl h1 h2
   refine ih _ (fun t' h'=>hl t' (by simp[h'])) ?_ ?_
   all_goals
    unfold nsStep
    split
   ·exact h1
   ·exact h2
   ·exact h2
   ·rename_i c hc
    unfold yH at hc
    cases hg:(t.ps.filter fun p=>decide (p.k=5)).getLast? with
    |none=>rw[hg] at hc;simp at hc
    |some p =>
     rw[hg] at hc
     simp only[Option.map_some,vQ] at hc
     rw[<- hc]
     exact (hk.ps t (hl t (by simp))).2 p (List.mem_filter.1 (List.mem_of_getLast? hg)).1
 intro l hl
 exact key l _ hl hk.c hk.c
theorem base_con (h:Hy):zE Tryz.prog 51 [.p (.agg h.cells)] (.p (.agg [I h.im.ae,I h.im.an])):=by
 unfold Hy.cells
 refine zG Tryz.tab Tryz.mixed Tryz.func51 rfl rfl Tryz.ntmps51 (by simp) (by simp) fun Q hr hn=>?_
 repeat' first|((first|refine O _ ?_|refine O _ _ ?_|(clear O;refine O _ ?_));clear O)|(refine zJ fun K O=>?_)|((first|refine zH ?_|refine zN rfl (by kernel_rfl) ?_|refine zM ?_|refine zK (by kernel_rfl) ?_);simp only[vS,vR,strip])|((first|refine wIs fun K O=>?_|refine wOs fun K O=>?_|refine wQs fun K O=>?_|refine zW ?_|refine zX ?_|refine zY ?_|refine zL ?_);simp)|(refine wIn ?_;refine And.intro (by kernel_rfl) ?_;try simp only[zZ])|refine zR ?_|refine zT ?_|((first|refine zI ?_|refine zO ?_|refine zP ?_);try simp)|((first|refine zS ?_|refine wOn ?_|refine wQn ?_);try simp only[zZ])
 all_goals apply hr
 all_goals simp[Tryz.f51]
set_option maxHeartbeats 8000000 in
theorem needs_con (h:Hy)(de dn:Int)(hk:OkH h):zE Tryz.prog 24 [.p (.agg h.cells),.p (.agg [I de,I dn])] (.p (.sl 4 (cfs (xG h de dn)))):=by
 have c1:=base_con h
 have hlg:=hk.lg
 have hns0:nsOf h (h.lg.take 0)=ns0 h:=by simp[nsOf]
 unfold Hy.cells at c1 ⊢
 refine zG Tryz.tab Tryz.mixed Tryz.func24 rfl rfl Tryz.ntmps24 (by simp) (by simp) fun Q hr hn=>?_
 repeat' first|((first|refine O _ ?_|refine O _ _ ?_|(clear O;refine O _ ?_));clear O)|(refine zJ fun K O=>?_)|((first|refine zH ?_|refine zN rfl (by kernel_rfl) ?_|refine zM ?_|refine zK (by kernel_rfl) ?_);simp only[vS,vR,strip])|((first|refine wIs fun K O=>?_|refine wOs fun K O=>?_|refine wQs fun K O=>?_|refine zW ?_|refine zX ?_|refine zY ?_|refine zL ?_);simp)|(refine wIn ?_;refine And.intro (by kernel_rfl) ?_;try simp only[zZ])|refine zR ?_|refine zT ?_|((first|refine zI ?_|refine zO ?_|refine zP ?_);try simp)|((first|refine zS ?_|refine wOn ?_|refine wQn ?_);try simp only[zZ])|refine zU.p c1 rfl ?_|refine zU.l c1 rfl ?_|refine zQ.pure c1 rfl ?_|refine zQ.lent c1 rfl ?_|refine zU.o c1 ?_|refine zV.p c1 rfl ?_|refine zV.l c1 rfl ?_|refine zV.o c1 ?_
 refine zC (fun N st=>∃ (k:Nat)(s:NS),k+N=h.lg.length/\s=nsOf h (h.lg.take k)/\st.s 3=.ptr 3 0/\st.b 3=some (.box 25 [.p (I de),.p (I dn)])/\st.s 5=.ptr 5 0/\st.b 5=some (.box 28 [.p (I s.was.ep),.p (I s.was.n),.p (I s.was.kind),.p (.sl 4 (mbs s.was.ms))])/\st.s 6=.ptr 6 0/\st.b 6=some (.box 28 [.p (I s.now.ep),.p (I s.now.n),.p (I s.now.kind),.p (.sl 4 (mbs s.now.ms))])/\st.s 7=.ptr 7 0/\st.b 7=some (.box 25 [.p (I s.fe),.p (I s.fn)])/\st.s 8=.p (B s.ch)/\st.s 21=.p (.sl 8 (xH h.lg))/\st.s 22=.p (I h.lg.length)/\st.s 23=.p (I k)) h.lg.length ⟨0,ns0 h,by simp[ns0,nsOf]⟩ fun K N st hL ⟨k,s,hkN,hs,g3,b3,g5,b5,g6,b6,g7,b7,g8,g21,g22,g23⟩=>?_
 by_cases hlt:k<h.lg.length
 ·have hlt':(k:Int)<h.lg.length:=by omega
  have hw:=yU k _ hlt (by omega)
  have he:=wN hlt
  have hsn:=nsOf_snoc h hlt
  rw[<- hs] at hsn
  obtain⟨hp1,hp2⟩:=hk.ps _ (List.getElem_mem hlt)
  have hwl:IntKind.i64.wrap ((h.lg[k].ps.length:Int)-1)=(h.lg[k].ps.length:Int)-1:=by rw[zF] <;> omega
  repeat' first|((first|refine O _ ?_|refine O _ _ ?_|(clear O;refine O _ ?_));clear O)|(refine zJ fun K O=>?_)|((first|refine zH ?_|refine zN rfl (by kernel_rfl) ?_|refine zM ?_|refine zK (by kernel_rfl) ?_);simp only[vS,vR,strip])|((first|refine wIs fun K O=>?_|refine wOs fun K O=>?_|refine wQs fun K O=>?_|refine zW ?_|refine zX ?_|refine zY ?_|refine zL ?_);simp[g3,b3,g5,b5,g6,b6,g7,b7,g8,g21,g22,g23,hlt,hlt',he,hwl])|(refine wIn ?_;refine And.intro (by kernel_rfl) ?_;try simp only[zZ])|refine zR ?_|refine zT ?_|((first|refine zI ?_|refine zO ?_|refine zP ?_);try simp)|((first|refine zS ?_|refine wOn ?_|refine wQn ?_);try simp only[zZ])
  refine zC (fun N' st=>∀ (q:Nat),q=N'->q<=h.lg[k].ps.length/\(∀j (hj:j<h.lg[k].ps.length),q<=j->¬ (h.lg[k].ps[j]).k=5)/\st.s 3=.ptr 3 0/\st.b 3=some (.box 25 [.p (I de),.p (I dn)])/\st.s 5=.ptr 5 0/\st.b 5=some (.box 28 [.p (I s.was.ep),.p (I s.was.n),.p (I s.was.kind),.p (.sl 4 (mbs s.was.ms))])/\st.s 6=.ptr 6 0/\st.b 6=some (.box 28 [.p (I s.now.ep),.p (I s.now.n),.p (I s.now.kind),.p (.sl 4 (mbs s.now.ms))])/\st.s 7=.ptr 7 0/\st.b 7=some (.box 25 [.p (I s.fe),.p (I s.fn)])/\st.s 8=.p (B s.ch)/\st.s 21=.p (.sl 8 (xH h.lg))/\st.s 22=.p (I h.lg.length)/\st.s 23=.p (I k)/\st.s 10=.ptr 10 0/\st.b 10=some (.box 63 [.p (I h.lg[k].e),.p (I h.lg[k].n),.p (I h.lg[k].s),.p (I h.lg[k].x),.p (I h.lg[k].r),.p (I h.lg[k].b),.p (SB h.lg[k].m),.p (.sl 11 (pts h.lg[k].ps))])/\st.s 11=.p (I ((q:Int)-1))) h.lg[k].ps.length (by rintro q rfl;refine⟨by omega,fun j hj hq=>by omega,?_⟩;simp[g3,b3,g5,b5,g6,b6,g7,b7,g8,g21,g22,g23]) fun K' N' st hL' hi=>?_
  obtain⟨hq,hno,e3,d3,e5,d5,e6,d6,e7,d7,e8,e21,e22,e23,e10,d10,e11⟩:=hi N' rfl
  cases N' with
  |zero =>
   have hlc:=lastC_none (ps:=h.lg[k].ps) fun j hj=>hno j hj (by omega)
   have hss:nsStep s h.lg[k]=s:=by unfold nsStep;rw[hlc]
   rw[hss] at hsn
   replace e11:st.s 11=.p (I (-1)):=by rw[e11];rfl
   repeat' first|((first|refine O _ ?_|refine O _ _ ?_|(clear O;refine O _ ?_));clear O)|(refine zJ fun K O=>?_)|((first|refine zH ?_|refine zN rfl (by kernel_rfl) ?_|refine zM ?_|refine zK (by kernel_rfl) ?_);simp only[vS,vR,strip])|((first|refine wIs fun K O=>?_|refine wOs fun K O=>?_|refine wQs fun K O=>?_|refine zW ?_|refine zX ?_|refine zY ?_|refine zL ?_);simp[e3,d3,e5,d5,e6,d6,e7,d7,e8,e21,e22,e23,e10,d10,e11,hw])|(refine wIn ?_;refine And.intro (by kernel_rfl) ?_;try simp only[zZ])|refine zR ?_|refine zT ?_|((first|refine zI ?_|refine zO ?_|refine zP ?_);try simp)|((first|refine zS ?_|refine wOn ?_|refine wQn ?_);try simp only[zZ])
   refine hL _ (N-1) (by omega) ⟨k+1,s,by omega,hsn.symm,?_⟩
   simp[e3,d3,e5,d5,e6,d6,e7,d7,e8,e21,e22,e23,hw]
  |succ r =>
   have hr5:r<h.lg[k].ps.length:=by omega
   have hr5':(r:Int)<h.lg[k].ps.length:=by omega
   have her:=pts_get hr5
   replace e11:st.s 11=.p (I (r:Int)):=by rw[e11];congr 3;omega
   have hwr:IntKind.i64.wrap ((r:Int)-1)=(r:Int)-1:=by rw[zF] <;> omega
   by_cases o:(h.lg[k].ps[r]).k=5
   ·have hlc:=lastC_at hr5 o fun j hj hjr=>hno j hj (by omega)
    have hss:nsStep s h.lg[k]=⟨s.now,(h.lg[k].ps[r]).c,h.lg[k].e,h.lg[k].n,true⟩:=by unfold nsStep;rw[hlc]
    rw[hss] at hsn
    repeat' first|((first|refine O _ ?_|refine O _ _ ?_|(clear O;refine O _ ?_));clear O)|(refine zJ fun K O=>?_)|((first|refine zH ?_|refine zN rfl (by kernel_rfl) ?_|refine zM ?_|refine zK (by kernel_rfl) ?_);simp only[vS,vR,strip])|((first|refine wIs fun K O=>?_|refine wOs fun K O=>?_|refine wQs fun K O=>?_|refine zW ?_|refine zX ?_|refine zY ?_|refine zL ?_);simp[e3,d3,e5,d5,e6,d6,e7,d7,e8,e21,e22,e23,e10,d10,e11,hw,her,hr5,hr5',o,Pt.cells])|(refine wIn ?_;refine And.intro (by kernel_rfl) ?_;try simp only[zZ])|refine zR ?_|refine zT ?_|((first|refine zI ?_|refine zO ?_|refine zP ?_);try simp)|((first|refine zS ?_|refine wOn ?_|refine wQn ?_);try simp only[zZ])
    refine hL _ (N-1) (by omega) ⟨k+1,_,by omega,hsn.symm,?_⟩
    simp[e3,d3,e5,d5,e6,d6,e7,d7,e8,e21,e22,e23,hw]
   ·repeat' first|(refine O _ ?_;clear O)|(refine O _ _ ?_;clear O)|(clear O;refine O _ ?_;clear O)|(clear O;clear O;refine O _ ?_;clear O)|(clear O;clear O;clear O;refine O _ ?_;clear O)|(clear O;clear O;clear O;clear O;refine O _ ?_;clear O)|(refine zJ fun K O=>?_)|((first|refine zH ?_|refine zN rfl (by kernel_rfl) ?_|refine zM ?_|refine zK (by kernel_rfl) ?_);simp only[vS,vR,strip])|((first|refine wIs fun K O=>?_|refine wOs fun K O=>?_|refine wQs fun K O=>?_|refine zW ?_|refine zX ?_|refine zY ?_|refine zL ?_);simp[e3,d3,e5,d5,e6,d6,e7,d7,e8,e21,e22,e23,e10,d10,e11,her,hr5,hr5',o,hwr])|(refine wIn ?_;refine And.intro (by kernel_rfl) ?_;try simp only[zZ])|(first|refine zR ?_|refine zT ?_)|((first|refine zI ?_|refine zO ?_|refine zP ?_);try simp)|((first|refine zS ?_|refine wOn ?_|refine wQn ?_);try simp only[zZ])
    refine hL' _ r (by omega) ?_
    intro q hqr
    obtain rfl:r=q:=hqr.symm
    refine⟨by omega,fun j hj hjq=>?_,?_⟩
    ·by_cases hjr:j=r
     ·subst hjr;exact o
     ·exact hno j hj (by omega)
    ·simp[e3,d3,e5,d5,e6,d6,e7,d7,e8,e21,e22,e23,e10,d10,hwr]
 ·have hlt':¬ (k:Int)<h.lg.length:=by omega
  rw[List.take_of_length_le (by omega)] at hs
  have hno:xG h de dn=endN s de dn:=by unfold xG;rw[hs]
  rw[hno] at hr
  obtain⟨hl1,hl2⟩:=nsOf_ok hk (l:=h.lg) fun t ht=>ht
  rw[<- hs] at hl1 hl2
  have c2:=cmp_con s.fe s.fn de dn
  have c3:=ownConfig_con s.now.ep s.now.n s.now.kind (mbs s.now.ms) (by rw[vW];omega)
  have c4:=ownConfig_con s.was.ep s.was.n s.was.kind (mbs s.was.ms) (by rw[vW];omega)
  unfold endN at hr
  by_cases o1:s.ch=false
  ·rw[if_pos (.inl o1)] at hr
   rw[o1] at g8
   repeat' first|((first|refine O _ ?_|refine O _ _ ?_|(clear O;refine O _ ?_));clear O)|(refine zJ fun K O=>?_)|((first|refine zH ?_|refine zN rfl (by kernel_rfl) ?_|refine zM ?_|refine zK (by kernel_rfl) ?_);simp only[vS,vR,strip])|((first|refine wIs fun K O=>?_|refine wOs fun K O=>?_|refine wQs fun K O=>?_|refine zW ?_|refine zX ?_|refine zY ?_|refine zL ?_);simp[g3,b3,g5,b5,g6,b6,g7,b7,g8,g21,g22,g23,hlt,hlt'])|(refine wIn ?_;refine And.intro (by kernel_rfl) ?_;try simp only[zZ])|refine zR ?_|refine zT ?_|((first|refine zI ?_|refine zO ?_|refine zP ?_);try simp)|((first|refine zS ?_|refine wOn ?_|refine wQn ?_);try simp only[zZ])|refine zU.p c2 rfl ?_|refine zU.l c2 rfl ?_|refine zQ.pure c2 rfl ?_|refine zQ.lent c2 rfl ?_|refine zU.o c2 ?_|refine zV.p c2 rfl ?_|refine zV.l c2 rfl ?_|refine zV.o c2 ?_|refine zU.p c3 rfl ?_|refine zU.l c3 rfl ?_|refine zQ.pure c3 rfl ?_|refine zQ.lent c3 rfl ?_|refine zU.o c3 ?_|refine zV.p c3 rfl ?_|refine zV.l c3 rfl ?_|refine zV.o c3 ?_
   all_goals apply hr
   all_goals simp[Tryz.f24,cfs,Cf.cells]
  ·have o1':s.ch=true:=by simpa using o1
   rw[o1'] at g8
   by_cases o2:xK s.fe s.fn de dn<=0
   ·rw[if_pos (.inr o2)] at hr
    repeat' first|((first|refine O _ ?_|refine O _ _ ?_|(clear O;refine O _ ?_));clear O)|(refine zJ fun K O=>?_)|((first|refine zH ?_|refine zN rfl (by kernel_rfl) ?_|refine zM ?_|refine zK (by kernel_rfl) ?_);simp only[vS,vR,strip])|((first|refine wIs fun K O=>?_|refine wOs fun K O=>?_|refine wQs fun K O=>?_|refine zW ?_|refine zX ?_|refine zY ?_|refine zL ?_);simp[g3,b3,g5,b5,g6,b6,g7,b7,g8,g21,g22,g23,hlt,hlt',o2])|(refine wIn ?_;refine And.intro (by kernel_rfl) ?_;try simp only[zZ])|refine zR ?_|refine zT ?_|((first|refine zI ?_|refine zO ?_|refine zP ?_);try simp)|((first|refine zS ?_|refine wOn ?_|refine wQn ?_);try simp only[zZ])|refine zU.p c2 rfl ?_|refine zU.l c2 rfl ?_|refine zQ.pure c2 rfl ?_|refine zQ.lent c2 rfl ?_|refine zU.o c2 ?_|refine zV.p c2 rfl ?_|refine zV.l c2 rfl ?_|refine zV.o c2 ?_|refine zU.p c3 rfl ?_|refine zU.l c3 rfl ?_|refine zQ.pure c3 rfl ?_|refine zQ.lent c3 rfl ?_|refine zU.o c3 ?_|refine zV.p c3 rfl ?_|refine zV.l c3 rfl ?_|refine zV.o c3 ?_
    all_goals apply hr
    all_goals simp[Tryz.f24,cfs,Cf.cells]
   ·rw[if_neg (by rintro (h|h);exact o1 h;exact o2 h)] at hr
    repeat' first|((first|refine O _ ?_|refine O _ _ ?_|(clear O;refine O _ ?_));clear O)|(refine zJ fun K O=>?_)|((first|refine zH ?_|refine zN rfl (by kernel_rfl) ?_|refine zM ?_|refine zK (by kernel_rfl) ?_);simp only[vS,vR,strip])|((first|refine wIs fun K O=>?_|refine wOs fun K O=>?_|refine wQs fun K O=>?_|refine zW ?_|refine zX ?_|refine zY ?_|refine zL ?_);simp[g3,b3,g5,b5,g6,b6,g7,b7,g8,g21,g22,g23,hlt,hlt',o2])|(refine wIn ?_;refine And.intro (by kernel_rfl) ?_;try simp only[zZ])|refine zR ?_|refine zT ?_|((first|refine zI ?_|refine zO ?_|refine zP ?_);try simp)|((first|refine zS ?_|refine wOn ?_|refine wQn ?_);try simp only[zZ])|refine zU.p c2 rfl ?_|refine zU.l c2 rfl ?_|refine zQ.pure c2 rfl ?_|refine zQ.lent c2 rfl ?_|refine zU.o c2 ?_|refine zV.p c2 rfl ?_|refine zV.l c2 rfl ?_|refine zV.o c2 ?_|refine zU.p c3 rfl ?_|refine zU.l c3 rfl ?_|refine zQ.pure c3 rfl ?_|refine zQ.lent c3 rfl ?_|refine zU.o c3 ?_|refine zV.p c3 rfl ?_|refine zV.l c3 rfl ?_|refine zV.o c3 ?_|refine zU.p c4 rfl ?_|refine zU.l c4 rfl ?_|refine zQ.pure c4 rfl ?_|refine zQ.lent c4 rfl ?_|refine zU.o c4 ?_|refine zV.p c4 rfl ?_|refine zV.l c4 rfl ?_|refine zV.o c4 ?_
    all_goals apply hr
    all_goals simp[Tryz.f24,cfs,Cf.cells]
structure Fits (s:Sv)(n:Nat):Prop where
 ns:s.ns.length+n<=1000000
 ss:s.ss.length+n<=1000000
 c:okC s.c
def okT (t:Tx):Prop:=∀p∈t.ps,okC p.c
theorem doS_fits {s:Sv}{t:Tx}{n:Nat}(h:Fits s (t.ps.length+n))(ht:okT t):Fits (doS s t) n:=by
 have h1:=runP_len t.ps s
 have h2:=runP_c t.ps s h.c ht
 refine⟨?_,?_,h2⟩
 ·have:=h.ns
  show (wW s t.ps).ns.length+n<=_
  omega
 ·have:=h.ss
  show (wW s t.ps).ss.length+n<=_
  omega
def xS (s:Sv)(l:List Tx):Sv:=l.foldl doS s
theorem allS_snoc (s:Sv){l:List Tx}{k:Nat}(h:k<l.length):xS s (l.take (k+1))=doS (xS s (l.take k)) l[k]:=by
 rw[List.take_succ_eq_append_getElem h,xS,List.foldl_append];rfl
def psum (l:List Tx):Nat:=(l.map fun t=>t.ps.length).sum
theorem psum_cons (t:Tx)(l:List Tx):psum (t::l)=t.ps.length+psum l:=by simp[psum]
theorem psum_drop {l:List Tx}{k:Nat}(h:k<l.length):psum (l.drop k)=l[k].ps.length+psum (l.drop (k+1)):=by
 rw[List.drop_eq_getElem_cons h,psum_cons]
theorem Fits.le {s:Sv}{n m:Nat}(h:Fits s n)(hm:m<=n):Fits s m:=⟨by have:=h.ns;omega,by have:=h.ss;omega,h.c⟩
set_option maxHeartbeats 4000000 in
theorem all_con (s:Sv)(l:List Tx)(hs:Fits s (psum l))(ht:∀t∈l,okT t):zE Tryz.prog 59 [.p (.agg s.cells),.p (.sl 8 (xH l))] (.p (.agg (xS s l).cells)):=by
 refine zE.len ⟨Tryz.f59,Tryz.func59,rfl,rfl⟩ 1 _ _ rfl fun hlen=>?_
 simp only[txns_len] at hlen
 have c1:=ownState_con (zns s.ns) (zis s.ss) (mbs s.c.ms) s.nx s.c.ep s.c.n s.c.kind s.ae s.an (by have:=hs.ns;simp;omega) (by have:=hs.ss;simp;omega) (by rw[vW];exact hs.c)
 unfold Sv.cells
 simp only[ints_zis]
 refine zG Tryz.tab Tryz.mixed Tryz.func59 rfl rfl Tryz.ntmps59 (by simp) (by simp) fun Q hr hn=>?_
 repeat' first|(refine vY [] c1 (by decide) (by decide) (by simp[yI]) (by simp[yS,xA,zD,inN,pos,yZ,yN,toP,toPF]) ⟨[500],by simp,by simp,?_⟩;simp[lv,ouN,kpI,kpR,pos,ren,zD,yX,yN,yZ,renF,wA])|((first|refine O _ ?_|refine O _ _ ?_|(clear O;refine O _ ?_));clear O)|(refine zJ fun K O=>?_)|((first|refine zH ?_|refine zN rfl (by kernel_rfl) ?_|refine zM ?_|refine zK (by kernel_rfl) ?_);simp only[vS,vR,strip])|((first|refine wIs fun K O=>?_|refine wOs fun K O=>?_|refine wQs fun K O=>?_|refine zW ?_|refine zX ?_|refine zY ?_|refine zL ?_);simp[lv,ouN,kpI,kpR,pos,ren,zD,yX,yN,yZ,renF,wA])|(refine wIn ?_;refine And.intro (by kernel_rfl) ?_;try simp only[zZ])|refine zR ?_|refine zT ?_|((first|refine zI ?_|refine zO ?_|refine zP ?_);try simp)|((first|refine zS ?_|refine wOn ?_|refine wQn ?_);try simp only[zZ])
 refine zC (fun N st=>∃k,k+N=l.length/\Fits (xS s (l.take k)) (psum (l.drop k))/\st.s 2=.ptr 2 0/\st.s 4=.ptr 4 0/\st.s 9=.p (.sl 8 (xH l))/\st.s 10=.p (I l.length)/\st.s 11=.p (I k)/\st.b 4=some (.box 30 [.nil 5,.nil 1,.p (I 0),.p (I 0),.p (I 0),.p (I 0),.nil 4,.p (I 0),.p (I 0)])/\st.b 2=some (.box 30 [.p (.sl 5 (zns (xS s (l.take k)).ns)),.row 500,.p (I (xS s (l.take k)).nx),.p (I (xS s (l.take k)).c.ep),.p (I (xS s (l.take k)).c.n),.p (I (xS s (l.take k)).c.kind),.p (.sl 4 (mbs (xS s (l.take k)).c.ms)),.p (I (xS s (l.take k)).ae),.p (I (xS s (l.take k)).an)])/\st.b 500=some (.row 3 1 (zis (xS s (l.take k)).ss))) l.length ⟨0,by simp[xS,lv,ouN,kpI,kpR,pos,ren,zD,yX,yN,yZ,renF,wA];exact hs⟩ fun K N st hL ⟨k,hk,hf,g2,g4,g9,g10,g11,b4,b2,b500⟩=>?_
 by_cases hlt:k<l.length
 ·have hw:=wrapX k _ hlt (by omega)
  have he:=wN hlt
  have hsn:=allS_snoc s hlt
  have hps:=psum_drop hlt
  have htk:=ht l[k] (List.getElem_mem hlt)
  rw[hps] at hf
  have hf2:=doS_fits hf htk
  rw[<- hsn] at hf2
  generalize xS s (l.take k)=q at hsn hf b2 b500
  have c2:=do_con q l[k] (by have:=hf.ns;omega) (by have:=hf.ss;omega) htk
  rw[<- hsn] at c2
  unfold sbox Tx.cells at c2
  generalize hr':xS s (l.take (k+1))=r at c2 hf2
  repeat' first|(refine vY [2,500] c2 (by decide) (by decide) (by simp[yI,inN,pos,yX,yN,yZ,zD,lv,ouN,kpI,kpR,b2,b500]) (by simp[yS,xA,zD,inN,pos,yZ,yN]) ⟨[],by simp,by simp,?_⟩;simp[lv,ouN,kpI,kpR,pos,ren,zD,yX,yN,yZ,renF,wA,g2,g4,g9,g10,g11,b4,b2,b500])|((first|refine O _ ?_|refine O _ _ ?_|(clear O;refine O _ ?_));clear O)|(refine zJ fun K O=>?_)|((first|refine zH ?_|refine zN rfl (by kernel_rfl) ?_|refine zM ?_|refine zK (by kernel_rfl) ?_);simp only[vS,vR,strip])|((first|refine wIs fun K O=>?_|refine wOs fun K O=>?_|refine wQs fun K O=>?_|refine zW ?_|refine zX ?_|refine zY ?_|refine zL ?_);simp[lv,ouN,kpI,kpR,pos,ren,zD,yX,yN,yZ,renF,wA,g2,g4,g9,g10,g11,b4,b2,b500,hlt,hw,he])|(refine wIn ?_;refine And.intro (by kernel_rfl) ?_;try simp only[zZ])|refine zR ?_|refine zT ?_|((first|refine zI ?_|refine zO ?_|refine zP ?_);try simp)|((first|refine zS ?_|refine wOn ?_|refine wQn ?_);try simp only[zZ])
  refine hL _ (N-1) (by omega) ⟨k+1,by omega,?_⟩
  simp[lv,ouN,kpI,kpR,pos,ren,zD,yX,yN,yZ,renF,wA,g2,g4,g9,g10,g11,b4,b2,b500,hw,hr']
  exact hf2
 ·rw[List.take_of_length_le (by omega)] at b2 b500
  generalize xS s l=q at b2 b500 hr
  repeat' first|((first|refine O _ ?_|refine O _ _ ?_|(clear O;refine O _ ?_));clear O)|(refine zJ fun K O=>?_)|((first|refine zH ?_|refine zN rfl (by kernel_rfl) ?_|refine zM ?_|refine zK (by kernel_rfl) ?_);simp only[vS,vR,strip])|((first|refine wIs fun K O=>?_|refine wOs fun K O=>?_|refine wQs fun K O=>?_|refine zW ?_|refine zX ?_|refine zY ?_|refine zL ?_);simp[g2,g4,g9,g10,g11,b4,b2,b500,hlt])|(refine wIn ?_;refine And.intro (by kernel_rfl) ?_;try simp only[zZ])|refine zR ?_|refine zT ?_|((first|refine zI ?_|refine zO ?_|refine zP ?_);try simp)|((first|refine zS ?_|refine wOn ?_|refine wQn ?_);try simp only[zZ])
  all_goals apply hr
  all_goals simp[Tryz.f59,g2,g4,b2,b4,b500]
theorem last2 (a b:Zx):lastZ [a,b]=if 0<xK b.e b.n a.e a.n then b else a:=rfl
set_option maxHeartbeats 8000000 in
theorem apply08_con (s:Sv)(t:Tx)(h:Fits s t.ps.length)(ht:okT t):zE Tryz.prog 36 [.p (.agg s.cells),.p (.agg t.cells)] (.p (.agg (doS s t).cells)):=by
 have h1:=h.ns
 have h2:=h.ss
 have c1:=copied08_con s.c.ep s.c.n s.c.kind (mbs s.c.ms) (by rw[vW];exact h.c)
 unfold Sv.cells Tx.cells
 simp only[ints_zis]
 refine zG Tryz.tab Tryz.mixed Tryz.func36 rfl rfl Tryz.ntmps36 (by simp) (by simp) fun Q hr hn=>?_
 repeat' first|(refine And.intro (by (try simp);omega) ?_)|(refine Or.inr ?_)|((first|refine O _ ?_|refine O _ _ ?_|(clear O;refine O _ ?_));clear O)|(refine zJ fun K O=>?_)|((first|refine zH ?_|refine zN rfl (by kernel_rfl) ?_|refine zM ?_|refine zK (by kernel_rfl) ?_);simp only[vS,vR,strip])|((first|refine wIs fun K O=>?_|refine wOs fun K O=>?_|refine wQs fun K O=>?_|refine zW ?_|refine zX ?_|refine zY ?_|refine zL ?_);simp)|(refine wIn ?_;refine And.intro (by kernel_rfl) ?_;try simp only[zZ])|refine zR ?_|refine zT ?_|((first|refine zI ?_|refine zO ?_|refine zP ?_);try simp)|((first|refine zS ?_|refine wOn ?_|refine wQn ?_);try simp only[zZ])|refine zU.p c1 rfl ?_|refine zU.l c1 rfl ?_|refine zQ.pure c1 rfl ?_|refine zQ.lent c1 rfl ?_|refine zU.o c1 ?_|refine zV.p c1 rfl ?_|refine zV.l c1 rfl ?_|refine zV.o c1 ?_
 refine zC (fun N st=>∃k,k+N=t.ps.length/\st.s 4=.ptr 4 0/\st.s 3=.ptr 3 0/\st.s 5=.ptr 5 0/\st.s 25=.p (.sl 11 (pts t.ps))/\st.s 26=.p (I t.ps.length)/\st.s 27=.p (I k)/\st.b 4=some (.box 30 [.nil 5,.nil 1,.p (I 0),.p (I 0),.p (I 0),.p (I 0),.nil 4,.p (I 0),.p (I 0)])/\st.b 3=some (.box 63 [.p (I t.e),.p (I t.n),.p (I t.s),.p (I t.x),.p (I t.r),.p (I t.b),.p (SB t.m),.p (.sl 11 (pts t.ps))])/\st.b 5=some (.box 30 [.p (.sl 5 (zns (wW s (t.ps.take k)).ns)),.p (.sl 1 (zis (wW s (t.ps.take k)).ss)),.p (I (wW s (t.ps.take k)).nx),.p (I (wW s (t.ps.take k)).c.ep),.p (I (wW s (t.ps.take k)).c.n),.p (I (wW s (t.ps.take k)).c.kind),.p (.sl 4 (mbs (wW s (t.ps.take k)).c.ms)),.p (I (wW s (t.ps.take k)).ae),.p (I (wW s (t.ps.take k)).an)])) t.ps.length ⟨0,by simp[wW]⟩ fun K N st hL ⟨k,hk,g4,g3,g5,g25,g26,g27,b4,b3,b5⟩=>?_
 have hlen:=runP_take s t.ps k
 by_cases hlt:k<t.ps.length
 ·have hw:=wrapX k _ hlt (by omega)
  have he:=pts_get hlt
  have hs:=runP_snoc s hlt
  have hpc:=ht t.ps[k] (List.getElem_mem hlt)
  generalize wW s (t.ps.take k)=q at hs hlen b5
  unfold okC at hpc
  by_cases k1:t.ps[k].k=1
  ·have c:=put07_con q.ns t.ps[k].z (by omega)
   unfold Zn.c at c
   have hs':yK q t.ps[k]={ q with ns:=putZ q.ns t.ps[k].z }:=by unfold yK;rw[if_pos k1]
   generalize putZ q.ns t.ps[k].z=n1 at c hs'
   repeat' first|((first|refine O _ ?_|refine O _ _ ?_|(clear O;refine O _ ?_));clear O)|(refine zJ fun K O=>?_)|((first|refine zH ?_|refine zN rfl (by kernel_rfl) ?_|refine zM ?_|refine zK (by kernel_rfl) ?_);simp only[vS,vR,strip])|((first|refine wIs fun K O=>?_|refine wOs fun K O=>?_|refine wQs fun K O=>?_|refine zW ?_|refine zX ?_|refine zY ?_|refine zL ?_);simp[g4,g3,g5,g25,g26,g27,b4,b3,b5,hlt,hw,he,k1])|(refine wIn ?_;refine And.intro (by kernel_rfl) ?_;try simp only[zZ])|refine zR ?_|refine zT ?_|((first|refine zI ?_|refine zO ?_|refine zP ?_);try simp)|((first|refine zS ?_|refine wOn ?_|refine wQn ?_);try simp only[zZ])|refine zU.p c rfl ?_|refine zU.l c rfl ?_|refine zQ.pure c rfl ?_|refine zQ.lent c rfl ?_|refine zU.o c ?_|refine zV.p c rfl ?_|refine zV.l c rfl ?_|refine zV.o c ?_
   refine hL _ (N-1) (by omega) ⟨k+1,by omega,?_⟩
   simp[g4,g3,g5,g25,g26,g27,b4,b3,b5,hw,hs,hs']
  by_cases k2:t.ps[k].k=2
  ·have c:=gone07_con q.ns t.ps[k].z.p (by omega)
   have hs':yK q t.ps[k]={ q with ns:=gone q.ns t.ps[k].z.p }:=by unfold yK;rw[if_neg k1,if_pos k2]
   generalize gone q.ns t.ps[k].z.p=n1 at c hs'
   repeat' first|((first|refine O _ ?_|refine O _ _ ?_|(clear O;refine O _ ?_));clear O)|(refine zJ fun K O=>?_)|((first|refine zH ?_|refine zN rfl (by kernel_rfl) ?_|refine zM ?_|refine zK (by kernel_rfl) ?_);simp only[vS,vR,strip])|((first|refine wIs fun K O=>?_|refine wOs fun K O=>?_|refine wQs fun K O=>?_|refine zW ?_|refine zX ?_|refine zY ?_|refine zL ?_);simp[g4,g3,g5,g25,g26,g27,b4,b3,b5,hlt,hw,he,k1,k2])|(refine wIn ?_;refine And.intro (by kernel_rfl) ?_;try simp only[zZ])|refine zR ?_|refine zT ?_|((first|refine zI ?_|refine zO ?_|refine zP ?_);try simp)|((first|refine zS ?_|refine wOn ?_|refine wQn ?_);try simp only[zZ])|refine zU.p c rfl ?_|refine zU.l c rfl ?_|refine zQ.pure c rfl ?_|refine zQ.lent c rfl ?_|refine zU.o c ?_|refine zV.p c rfl ?_|refine zV.l c rfl ?_|refine zV.o c ?_
   refine hL _ (N-1) (by omega) ⟨k+1,by omega,?_⟩
   simp[g4,g3,g5,g25,g26,g27,b4,b3,b5,hw,hs,hs']
  by_cases k3:t.ps[k].k=3
  ·have hs':yK q t.ps[k]={ q with ss:=opnL q.ss t.ps[k].s,nx:=opnN q.nx t.ps[k].s }:=by unfold yK;rw[if_neg k1,if_neg k2,if_pos k3]
   by_cases o1:1<=t.ps[k].s
   ·by_cases o2:t.ps[k].s<=1099511627776
    ·have ho:okS t.ps[k].s=true:=decide_eq_true ⟨o1,o2⟩
     have hw1:IntKind.i64.wrap (t.ps[k].s+1)=t.ps[k].s+1:=by rw[zF] <;> omega
     have c:=with08_con q.ss t.ps[k].s (by omega)
     rw[wth_ins] at c
     have e1:opnL q.ss t.ps[k].s=insI q.ss t.ps[k].s:=by unfold opnL;rw[if_pos ho]
     have e2:opnN q.nx t.ps[k].s=max q.nx (t.ps[k].s+1):=by unfold opnN;rw[if_pos ho]
     rw[e1,e2] at hs'
     generalize insI q.ss t.ps[k].s=n1 at c hs'
     repeat' first|((first|refine O _ ?_|refine O _ _ ?_|(clear O;refine O _ ?_));clear O)|(refine zJ fun K O=>?_)|((first|refine zH ?_|refine zN rfl (by kernel_rfl) ?_|refine zM ?_|refine zK (by kernel_rfl) ?_);simp only[vS,vR,strip])|((first|refine wIs fun K O=>?_|refine wOs fun K O=>?_|refine wQs fun K O=>?_|refine zW ?_|refine zX ?_|refine zY ?_|refine zL ?_);simp[g4,g3,g5,g25,g26,g27,b4,b3,b5,hlt,hw,he,k1,k2,k3,o1,o2,hw1])|(refine wIn ?_;refine And.intro (by kernel_rfl) ?_;try simp only[zZ])|refine zR ?_|refine zT ?_|((first|refine zI ?_|refine zO ?_|refine zP ?_);try simp)|((first|refine zS ?_|refine wOn ?_|refine wQn ?_);try simp only[zZ])|refine zU.p c rfl ?_|refine zU.l c rfl ?_|refine zQ.pure c rfl ?_|refine zQ.lent c rfl ?_|refine zU.o c ?_|refine zV.p c rfl ?_|refine zV.l c rfl ?_|refine zV.o c ?_
     all_goals refine hL _ (N-1) (by omega) ⟨k+1,by omega,?_⟩
     all_goals simp[g4,g3,g5,g25,g26,g27,b4,b3,b5,hw,hs,hs',hw1]
     all_goals omega
    ·have ho:¬ okS t.ps[k].s=true:=by unfold okS;simp;omega
     have e1:opnL q.ss t.ps[k].s=q.ss:=by unfold opnL;rw[if_neg ho]
     have e2:opnN q.nx t.ps[k].s=q.nx:=by unfold opnN;rw[if_neg ho]
     rw[e1,e2] at hs'
     repeat' first|((first|refine O _ ?_|refine O _ _ ?_|(clear O;refine O _ ?_));clear O)|(refine zJ fun K O=>?_)|((first|refine zH ?_|refine zN rfl (by kernel_rfl) ?_|refine zM ?_|refine zK (by kernel_rfl) ?_);simp only[vS,vR,strip])|((first|refine wIs fun K O=>?_|refine wOs fun K O=>?_|refine wQs fun K O=>?_|refine zW ?_|refine zX ?_|refine zY ?_|refine zL ?_);simp[g4,g3,g5,g25,g26,g27,b4,b3,b5,hlt,hw,he,k1,k2,k3,o1,o2])|(refine wIn ?_;refine And.intro (by kernel_rfl) ?_;try simp only[zZ])|refine zR ?_|refine zT ?_|((first|refine zI ?_|refine zO ?_|refine zP ?_);try simp)|((first|refine zS ?_|refine wOn ?_|refine wQn ?_);try simp only[zZ])
     all_goals refine hL _ (N-1) (by omega) ⟨k+1,by omega,?_⟩
     all_goals simp[g4,g3,g5,g25,g26,g27,b4,b3,b5,hw,hs,hs']
   ·have ho:¬ okS t.ps[k].s=true:=by unfold okS;simp;omega
    have e1:opnL q.ss t.ps[k].s=q.ss:=by unfold opnL;rw[if_neg ho]
    have e2:opnN q.nx t.ps[k].s=q.nx:=by unfold opnN;rw[if_neg ho]
    rw[e1,e2] at hs'
    repeat' first|((first|refine O _ ?_|refine O _ _ ?_|(clear O;refine O _ ?_));clear O)|(refine zJ fun K O=>?_)|((first|refine zH ?_|refine zN rfl (by kernel_rfl) ?_|refine zM ?_|refine zK (by kernel_rfl) ?_);simp only[vS,vR,strip])|((first|refine wIs fun K O=>?_|refine wOs fun K O=>?_|refine wQs fun K O=>?_|refine zW ?_|refine zX ?_|refine zY ?_|refine zL ?_);simp[g4,g3,g5,g25,g26,g27,b4,b3,b5,hlt,hw,he,k1,k2,k3,o1])|(refine wIn ?_;refine And.intro (by kernel_rfl) ?_;try simp only[zZ])|refine zR ?_|refine zT ?_|((first|refine zI ?_|refine zO ?_|refine zP ?_);try simp)|((first|refine zS ?_|refine wOn ?_|refine wQn ?_);try simp only[zZ])
    all_goals refine hL _ (N-1) (by omega) ⟨k+1,by omega,?_⟩
    all_goals simp[g4,g3,g5,g25,g26,g27,b4,b3,b5,hw,hs,hs']
  by_cases k4:t.ps[k].k=4
  ·have c:=without08_con q.ss t.ps[k].s (by omega)
   have hs':yK q t.ps[k]={ q with ss:=but q.ss t.ps[k].s }:=by unfold yK;rw[if_neg k1,if_neg k2,if_neg k3,if_pos k4]
   generalize but q.ss t.ps[k].s=n1 at c hs'
   repeat' first|((first|refine O _ ?_|refine O _ _ ?_|(clear O;refine O _ ?_));clear O)|(refine zJ fun K O=>?_)|((first|refine zH ?_|refine zN rfl (by kernel_rfl) ?_|refine zM ?_|refine zK (by kernel_rfl) ?_);simp only[vS,vR,strip])|((first|refine wIs fun K O=>?_|refine wOs fun K O=>?_|refine wQs fun K O=>?_|refine zW ?_|refine zX ?_|refine zY ?_|refine zL ?_);simp[g4,g3,g5,g25,g26,g27,b4,b3,b5,hlt,hw,he,k1,k2,k3,k4])|(refine wIn ?_;refine And.intro (by kernel_rfl) ?_;try simp only[zZ])|refine zR ?_|refine zT ?_|((first|refine zI ?_|refine zO ?_|refine zP ?_);try simp)|((first|refine zS ?_|refine wOn ?_|refine wQn ?_);try simp only[zZ])|refine zU.p c rfl ?_|refine zU.l c rfl ?_|refine zQ.pure c rfl ?_|refine zQ.lent c rfl ?_|refine zU.o c ?_|refine zV.p c rfl ?_|refine zV.l c rfl ?_|refine zV.o c ?_
   refine hL _ (N-1) (by omega) ⟨k+1,by omega,?_⟩
   simp[g4,g3,g5,g25,g26,g27,b4,b3,b5,hw,hs,hs']
  by_cases k5:t.ps[k].k=5
  ·have c:=copied08_con t.ps[k].c.ep t.ps[k].c.n t.ps[k].c.kind (mbs t.ps[k].c.ms) (by rw[vW];exact hpc)
   have hs':yK q t.ps[k]={ q with c:=t.ps[k].c }:=by unfold yK;rw[if_neg k1,if_neg k2,if_neg k3,if_neg k4,if_pos k5]
   repeat' first|((first|refine O _ ?_|refine O _ _ ?_|(clear O;refine O _ ?_));clear O)|(refine zJ fun K O=>?_)|((first|refine zH ?_|refine zN rfl (by kernel_rfl) ?_|refine zM ?_|refine zK (by kernel_rfl) ?_);simp only[vS,vR,strip])|((first|refine wIs fun K O=>?_|refine wOs fun K O=>?_|refine wQs fun K O=>?_|refine zW ?_|refine zX ?_|refine zY ?_|refine zL ?_);simp[g4,g3,g5,g25,g26,g27,b4,b3,b5,hlt,hw,he,k1,k2,k3,k4,k5])|(refine wIn ?_;refine And.intro (by kernel_rfl) ?_;try simp only[zZ])|refine zR ?_|refine zT ?_|((first|refine zI ?_|refine zO ?_|refine zP ?_);try simp)|((first|refine zS ?_|refine wOn ?_|refine wQn ?_);try simp only[zZ])|refine zU.p c rfl ?_|refine zU.l c rfl ?_|refine zQ.pure c rfl ?_|refine zQ.lent c rfl ?_|refine zU.o c ?_|refine zV.p c rfl ?_|refine zV.l c rfl ?_|refine zV.o c ?_
   refine hL _ (N-1) (by omega) ⟨k+1,by omega,?_⟩
   simp[g4,g3,g5,g25,g26,g27,b4,b3,b5,hw,hs,hs']
  ·have hs':yK q t.ps[k]=q:=by unfold yK;rw[if_neg k1,if_neg k2,if_neg k3,if_neg k4,if_neg k5]
   repeat' first|((first|refine O _ ?_|refine O _ _ ?_|(clear O;refine O _ ?_));clear O)|(refine zJ fun K O=>?_)|((first|refine zH ?_|refine zN rfl (by kernel_rfl) ?_|refine zM ?_|refine zK (by kernel_rfl) ?_);simp only[vS,vR,strip])|((first|refine wIs fun K O=>?_|refine wOs fun K O=>?_|refine wQs fun K O=>?_|refine zW ?_|refine zX ?_|refine zY ?_|refine zL ?_);simp[g4,g3,g5,g25,g26,g27,b4,b3,b5,hlt,hw,he,k1,k2,k3,k4,k5])|(refine wIn ?_;refine And.intro (by kernel_rfl) ?_;try simp only[zZ])|refine zR ?_|refine zT ?_|((first|refine zI ?_|refine zO ?_|refine zP ?_);try simp)|((first|refine zS ?_|refine wOn ?_|refine wQn ?_);try simp only[zZ])
   refine hL _ (N-1) (by omega) ⟨k+1,by omega,?_⟩
   simp[g4,g3,g5,g25,g26,g27,b4,b3,b5,hw,hs,hs']
 ·rw[List.take_of_length_le (by omega)] at b5
  unfold doS lateS at hr
  simp only[last2] at hr
  generalize wW s t.ps=q at hr b5
  have c:=cmp02_con t.e t.n q.ae q.an
  by_cases o:0<xK t.e t.n q.ae q.an
  ·simp only[if_pos o] at hr
   repeat' first|((first|refine O _ ?_|refine O _ _ ?_|(clear O;refine O _ ?_));clear O)|(refine zJ fun K O=>?_)|((first|refine zH ?_|refine zN rfl (by kernel_rfl) ?_|refine zM ?_|refine zK (by kernel_rfl) ?_);simp only[vS,vR,strip])|((first|refine wIs fun K O=>?_|refine wOs fun K O=>?_|refine wQs fun K O=>?_|refine zW ?_|refine zX ?_|refine zY ?_|refine zL ?_);simp[g4,g3,g5,g25,g26,g27,b4,b3,b5,hlt,o])|(refine wIn ?_;refine And.intro (by kernel_rfl) ?_;try simp only[zZ])|refine zR ?_|refine zT ?_|((first|refine zI ?_|refine zO ?_|refine zP ?_);try simp)|((first|refine zS ?_|refine wOn ?_|refine wQn ?_);try simp only[zZ])|refine zU.p c rfl ?_|refine zU.l c rfl ?_|refine zQ.pure c rfl ?_|refine zQ.lent c rfl ?_|refine zU.o c ?_|refine zV.p c rfl ?_|refine zV.l c rfl ?_|refine zV.o c ?_
   all_goals apply hr
   all_goals simp[Tryz.f36,g4,b4,b5]
  ·simp only[if_neg o] at hr
   repeat' first|((first|refine O _ ?_|refine O _ _ ?_|(clear O;refine O _ ?_));clear O)|(refine zJ fun K O=>?_)|((first|refine zH ?_|refine zN rfl (by kernel_rfl) ?_|refine zM ?_|refine zK (by kernel_rfl) ?_);simp only[vS,vR,strip])|((first|refine wIs fun K O=>?_|refine wOs fun K O=>?_|refine wQs fun K O=>?_|refine zW ?_|refine zX ?_|refine zY ?_|refine zL ?_);simp[g4,g3,g5,g25,g26,g27,b4,b3,b5,hlt,o])|(refine wIn ?_;refine And.intro (by kernel_rfl) ?_;try simp only[zZ])|refine zR ?_|refine zT ?_|((first|refine zI ?_|refine zO ?_|refine zP ?_);try simp)|((first|refine zS ?_|refine wOn ?_|refine wQn ?_);try simp only[zZ])|refine zU.p c rfl ?_|refine zU.l c rfl ?_|refine zQ.pure c rfl ?_|refine zQ.lent c rfl ?_|refine zU.o c ?_|refine zV.p c rfl ?_|refine zV.l c rfl ?_|refine zV.o c ?_
   all_goals apply hr
   all_goals simp[Tryz.f36,g4,b4,b5]
theorem doS_at (s:Sv)(a b c d:Int)(m:List UInt8):doS s ⟨s.ae,s.an,a,b,c,d,m,[]⟩=s:=by
 unfold doS lateS wW
 rw[last2]
 simp[xK]
set_option maxHeartbeats 4000000 in
theorem all08_con (s:Sv)(l:List Tx)(hs:Fits s (psum l))(ht:∀t∈l,okT t):zE Tryz.prog 69 [.p (.agg s.cells),.p (.sl 8 (xH l))] (.p (.agg (xS s l).cells)):=by
 refine zE.len ⟨Tryz.f69,Tryz.func69,rfl,rfl⟩ 1 _ _ rfl fun hlen=>?_
 simp only[txns_len] at hlen
 have c1:=apply08_con s ⟨s.ae,s.an,0,0,0,0,[],[]⟩ (hs.le (by simp)) (fun p hp=>by simp at hp)
 rw[doS_at] at c1
 unfold Tx.cells Sv.cells at c1
 rw[show pts []=[] from rfl] at c1
 replace c1:=Con.wkA c1 (args':=[_,.p (.agg [I s.ae,I s.an,I 0,I 0,I 0,I 0,SB [],.v (.slice none 0 0)])]) ⟨.same _,.agg _ _ ⟨.same _,.same _,.same _,.same _,.same _,.same _,.same _,.nil 11,trivial⟩,trivial⟩
 unfold Sv.cells
 refine zG Tryz.tab Tryz.mixed Tryz.func69 rfl rfl Tryz.ntmps69 (by simp) (by simp) fun Q hr hn=>?_
 repeat' first|((first|refine O _ ?_|refine O _ _ ?_|(clear O;refine O _ ?_));clear O)|(refine zJ fun K O=>?_)|((first|refine zH ?_|refine zN rfl (by kernel_rfl) ?_|refine zM ?_|refine zK (by kernel_rfl) ?_);simp only[vS,vR,strip])|((first|refine wIs fun K O=>?_|refine wOs fun K O=>?_|refine wQs fun K O=>?_|refine zW ?_|refine zX ?_|refine zY ?_|refine zL ?_);simp)|(refine wIn ?_;refine And.intro (by kernel_rfl) ?_;try simp only[zZ])|refine zR ?_|refine zT ?_|((first|refine zI ?_|refine zO ?_|refine zP ?_);try simp)|((first|refine zS ?_|refine wOn ?_|refine wQn ?_);try simp only[zZ])|refine zU.p c1 rfl ?_|refine zU.l c1 rfl ?_|refine zQ.pure c1 rfl ?_|refine zQ.lent c1 rfl ?_|refine zU.o c1 ?_|refine zV.p c1 rfl ?_|refine zV.l c1 rfl ?_|refine zV.o c1 ?_
 refine zC (fun N st=>∃k,k+N=l.length/\Fits (xS s (l.take k)) (psum (l.drop k))/\st.s 5=.ptr 5 0/\st.s 4=.ptr 4 0/\st.s 13=.p (.sl 8 (xH l))/\st.s 14=.p (I l.length)/\st.s 15=.p (I k)/\st.b 4=some (.box 30 [.nil 5,.nil 1,.p (I 0),.p (I 0),.p (I 0),.p (I 0),.nil 4,.p (I 0),.p (I 0)])/\st.b 5=some (.box 30 [.p (.sl 5 (zns (xS s (l.take k)).ns)),.p (.sl 1 (ints (xS s (l.take k)).ss)),.p (I (xS s (l.take k)).nx),.p (I (xS s (l.take k)).c.ep),.p (I (xS s (l.take k)).c.n),.p (I (xS s (l.take k)).c.kind),.p (.sl 4 (mbs (xS s (l.take k)).c.ms)),.p (I (xS s (l.take k)).ae),.p (I (xS s (l.take k)).an)])) l.length ⟨0,by simp[xS];exact hs⟩ fun K N st hL ⟨k,hk,hf,g5,g4,g13,g14,g15,b4,b5⟩=>?_
 by_cases hlt:k<l.length
 ·have hw:=wrapX k _ hlt (by omega)
  have he:=wN hlt
  have hsn:=allS_snoc s hlt
  have hps:=psum_drop hlt
  have htk:=ht l[k] (List.getElem_mem hlt)
  rw[hps] at hf
  have hf2:=doS_fits hf htk
  rw[<- hsn] at hf2
  generalize xS s (l.take k)=q at hsn hf b5
  have c2:=apply08_con q l[k] (hf.le (by omega)) htk
  rw[<- hsn] at c2
  unfold Sv.cells Tx.cells at c2
  generalize hr':xS s (l.take (k+1))=r at c2 hf2
  repeat' first|((first|refine O _ ?_|refine O _ _ ?_|(clear O;refine O _ ?_));clear O)|(refine zJ fun K O=>?_)|((first|refine zH ?_|refine zN rfl (by kernel_rfl) ?_|refine zM ?_|refine zK (by kernel_rfl) ?_);simp only[vS,vR,strip])|((first|refine wIs fun K O=>?_|refine wOs fun K O=>?_|refine wQs fun K O=>?_|refine zW ?_|refine zX ?_|refine zY ?_|refine zL ?_);simp[g5,g4,g13,g14,g15,b4,b5,hlt,hw,he])|(refine wIn ?_;refine And.intro (by kernel_rfl) ?_;try simp only[zZ])|refine zR ?_|refine zT ?_|((first|refine zI ?_|refine zO ?_|refine zP ?_);try simp)|((first|refine zS ?_|refine wOn ?_|refine wQn ?_);try simp only[zZ])|refine zU.p c2 rfl ?_|refine zU.l c2 rfl ?_|refine zQ.pure c2 rfl ?_|refine zQ.lent c2 rfl ?_|refine zU.o c2 ?_|refine zV.p c2 rfl ?_|refine zV.l c2 rfl ?_|refine zV.o c2 ?_
  refine hL _ (N-1) (by omega) ⟨k+1,by omega,?_⟩
  simp[g5,g4,g13,g14,g15,b4,b5,hw,hr']
  exact hf2
 ·rw[List.take_of_length_le (by omega)] at b5
  generalize xS s l=q at b5 hr
  repeat' first|((first|refine O _ ?_|refine O _ _ ?_|(clear O;refine O _ ?_));clear O)|(refine zJ fun K O=>?_)|((first|refine zH ?_|refine zN rfl (by kernel_rfl) ?_|refine zM ?_|refine zK (by kernel_rfl) ?_);simp only[vS,vR,strip])|((first|refine wIs fun K O=>?_|refine wOs fun K O=>?_|refine wQs fun K O=>?_|refine zW ?_|refine zX ?_|refine zY ?_|refine zL ?_);simp[g5,g4,g13,g14,g15,b4,b5,hlt])|(refine wIn ?_;refine And.intro (by kernel_rfl) ?_;try simp only[zZ])|refine zR ?_|refine zT ?_|((first|refine zI ?_|refine zO ?_|refine zP ?_);try simp)|((first|refine zS ?_|refine wOn ?_|refine wQn ?_);try simp only[zZ])
  all_goals apply hr
  all_goals simp[Tryz.f69,g4,g5,b4,b5]
theorem pts_snoc (l:List Pt)(x:Pt):pts l++[[I x.k,SB x.z.p,SB x.z.d,I x.z.v,I x.z.k,I x.z.o,I x.s,I x.c.ep,I x.c.n,I x.c.kind,.sl 4 (mbs x.c.ms)]]=pts (l++[x]):=by simp[pts,Pt.cells]
theorem txns_snoc (l:List Tx)(t:Tx):xH l++[[I t.e,I t.n,I t.s,I t.x,I t.r,I t.b,SB t.m,.sl 11 (pts t.ps)]]=xH (l++[t]):=by simp[xH,Tx.cells]
set_option maxHeartbeats 4000000 in
theorem copied16_con (t:Tx)(hl:t.ps.length<=1000)(hc:∀p∈t.ps,p.c.ms.length<=1000):zE Tryz.prog 75 [.p (.agg t.cells)] (.p (.agg t.cells)):=by
 unfold Tx.cells
 refine zG Tryz.tab Tryz.mixed Tryz.func75 rfl rfl Tryz.ntmps75 (by simp) (by simp) fun Q hr hn=>?_
 repeat' first|((first|refine O _ ?_|refine O _ _ ?_|(clear O;refine O _ ?_));clear O)|(refine zJ fun K O=>?_)|((first|refine zH ?_|refine zN rfl (by kernel_rfl) ?_|refine zM ?_|refine zK (by kernel_rfl) ?_);simp only[vS,vR,strip])|((first|refine wIs fun K O=>?_|refine wOs fun K O=>?_|refine wQs fun K O=>?_|refine zW ?_|refine zX ?_|refine zY ?_|refine zL ?_);simp)|(refine wIn ?_;refine And.intro (by kernel_rfl) ?_;try simp only[zZ])|refine zR ?_|refine zT ?_|((first|refine zI ?_|refine zO ?_|refine zP ?_);try simp)|((first|refine zS ?_|refine wOn ?_|refine wQn ?_);try simp only[zZ])
 refine wLoopG [.cel 1 7 26 67 11] (fun N st=>∃ (k:Nat),k+N=t.ps.length/\st.s 1=.ptr 1 0/\st.b 1=some (.box 63 [.p (I t.e),.p (I t.n),.p (I t.s),.p (I t.x),.p (I t.r),.p (I t.b),.p (SB t.m),.row 26])/\st.s 2=.ptr 2 0/\st.b 2=some (.box 63 [.p (I 0),.p (I 0),.p (I 0),.p (I 0),.p (I 0),.p (I 0),.p (SB []),.p (.v (.slice none 0 0))])/\st.b 26=some (.row 67 11 (pts (t.ps.take k)))/\st.s 9=.p (.sl 11 (pts t.ps))/\st.s 10=.p (I t.ps.length)/\st.s 11=.p (I k)) t.ps.length ⟨0,by simp[xL,gh1,pts]⟩ fun K N st hL ⟨k,hk,g1,b1,g2,b2,b26,g9,g10,g11⟩=>?_
 by_cases hlt:k<t.ps.length
 ·have hlt':(k:Int)<t.ps.length:=by omega
  have hw:=yU k _ hlt (by omega)
  have he:=pts_get hlt
  have hpc:=hc _ (List.getElem_mem hlt)
  have hs:=pts_snoc (t.ps.take k) t.ps[k]
  rw[<- List.take_succ_eq_append_getElem hlt] at hs
  have hll:=pts_len (t.ps.take k)
  rw[List.length_take] at hll
  repeat' first|(refine And.intro (by (try simp only[hll,vW,List.length_cons,List.length_nil]);omega) ?_)|(refine Or.inr ?_)|((first|refine O _ ?_|refine O _ _ ?_|(clear O;refine O _ ?_));clear O)|(refine zJ fun K O=>?_)|((first|refine zH ?_|refine zN rfl (by kernel_rfl) ?_|refine zM ?_|refine zK (by kernel_rfl) ?_);simp only[vS,vR,strip])|((first|refine wIs fun K O=>?_|refine wOs fun K O=>?_|refine wQs fun K O=>?_|refine zW ?_|refine zX ?_|refine zY ?_|refine zL ?_);simp[g1,b1,g2,b2,b26,g9,g10,g11,hlt,hlt',hw,he,Pt.cells,hs])|(refine wIn ?_;refine And.intro (by kernel_rfl) ?_;try simp only[zZ])|refine zR ?_|refine zT ?_|((first|refine zI ?_|refine zO ?_|refine zP ?_);try simp)|((first|refine zS ?_|refine wOn ?_|refine wQn ?_);try simp only[zZ])
  refine hL _ (N-1) (by omega) ⟨k+1,by omega,?_⟩
  simp[g1,b1,g2,b2,b26,g9,g10,g11,hw,hs]
 ·have hlt':¬ (k:Int)<t.ps.length:=by omega
  rw[List.take_of_length_le (by omega)] at b26
  repeat' first|((first|refine O _ ?_|refine O _ _ ?_|(clear O;refine O _ ?_));clear O)|(refine zJ fun K O=>?_)|((first|refine zH ?_|refine zN rfl (by kernel_rfl) ?_|refine zM ?_|refine zK (by kernel_rfl) ?_);simp only[vS,vR,strip])|((first|refine wIs fun K O=>?_|refine wOs fun K O=>?_|refine wQs fun K O=>?_|refine zW ?_|refine zX ?_|refine zY ?_|refine zL ?_);simp[g1,b1,g2,b2,b26,g9,g10,g11,hlt,hlt'])|(refine wIn ?_;refine And.intro (by kernel_rfl) ?_;try simp only[zZ])|refine zR ?_|refine zT ?_|((first|refine zI ?_|refine zO ?_|refine zP ?_);try simp)|((first|refine zS ?_|refine wOn ?_|refine wQn ?_);try simp only[zZ])
  all_goals apply hr
  all_goals simp[Tryz.f75,g2,b26]
theorem own16_con (s:Sv)(h1:s.ns.length<=1000)(h2:s.ss.length<=1000)(h3:s.c.ms.length<=1000):zE Tryz.prog 35 [.p (.agg s.cells)] (.p (.agg s.cells)):=by
 have c:=all08_con s [] ⟨by simp[psum];omega,by simp[psum];omega,by unfold okC;omega⟩ (by simp)
 rw[show xS s []=s from rfl,show xH []=[] from rfl] at c
 unfold Sv.cells at c ⊢
 refine zG Tryz.tab Tryz.mixed Tryz.func35 rfl rfl Tryz.ntmps35 (by simp) (by simp) fun Q hr hn=>?_
 repeat' first|((first|refine O _ ?_|refine O _ _ ?_|(clear O;refine O _ ?_));clear O)|(refine zJ fun K O=>?_)|((first|refine zH ?_|refine zN rfl (by kernel_rfl) ?_|refine zM ?_|refine zK (by kernel_rfl) ?_);simp only[vS,vR,strip])|((first|refine wIs fun K O=>?_|refine wOs fun K O=>?_|refine wQs fun K O=>?_|refine zW ?_|refine zX ?_|refine zY ?_|refine zL ?_);simp)|(refine wIn ?_;refine And.intro (by kernel_rfl) ?_;try simp only[zZ])|refine zR ?_|refine zT ?_|((first|refine zI ?_|refine zO ?_|refine zP ?_);try simp)|((first|refine zS ?_|refine wOn ?_|refine wQn ?_);try simp only[zZ])|refine zU.p c rfl ?_|refine zU.l c rfl ?_|refine zQ.pure c rfl ?_|refine zQ.lent c rfl ?_|refine zU.o c ?_|refine zV.p c rfl ?_|refine zV.l c rfl ?_|refine zV.o c ?_
 all_goals apply hr
 all_goals simp[Tryz.f35]
end Go.Proofs.YtpihbhacmokekaaGreatDoor
