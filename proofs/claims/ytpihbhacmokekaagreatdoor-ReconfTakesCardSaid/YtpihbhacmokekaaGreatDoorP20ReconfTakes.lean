/- Texts that the proof needs: Ext PA PB PL PC. -/
import Derived.Test.YtpihbhacmokekaaGreatDoorP18ReconfTakes
import Derived.Test.YtpihbhacmokekaaGreatDoorP19ReconfTakes
import Derived.Test.YtpihbhacmokekaaGreatDoorP15ReconfTakes
import Derived.Test.YtpihbhacmokekaaGreatDoorP16ReconfTakes
import Derived.Test.YtpihbhacmokekaaGreatDoorP17ReconfTakes
namespace Go.Proofs.YtpihbhacmokekaaGreatDoor
set_option linter.unusedSimpArgs false
set_option linter.unusedVariables false
open Go Go.Av
end Go.Proofs.YtpihbhacmokekaaGreatDoor
namespace Go.Proofs.YtpihbhacmokekaaGreatDoor
set_option linter.unusedSimpArgs false
set_option linter.unusedVariables false
open Go Go.Av
attribute [local irreducible] Go.Av.yJ Go.Av.zU Go.Av.yC Go.Av.zQ Go.Av.yG Go.Av.zV Go.Av.Con
def chr (b:UInt8):Bool:=decide (33<=b.toNat/\b.toNat<=126/\b.toNat ≠ 47)
def nm (l:List UInt8):Bool:=decide (1<=l.length/\l.length<=16/\l ≠ [46]/\l ≠ [46,46]) && l.all chr
theorem all_snocp (p:UInt8->Bool)(l:List UInt8)(k:Nat)(h:k<l.length):(l.take (k+1)).all p=((l.take k).all p && p l[k]):=by
 rw[List.take_succ_eq_append_getElem h,List.all_append];simp
theorem not_all {l:List UInt8}{k:Nat}(h:k<l.length)(hc:chr l[k]=false):l.all chr=false:=by
 cases h2:l.all chr with
 |false=>rfl
 |true =>
  rw[List.all_eq_true] at h2
  have:=h2 _ (List.getElem_mem h)
  rw[hc] at this;simp at this
theorem chr_cases (b:UInt8):((b.toNat:Int)<33/\chr b=false)\/(¬ (b.toNat:Int)<33/\(126:Int)<b.toNat/\chr b=false)\/(¬ (b.toNat:Int)<33/\¬ (126:Int)<b.toNat/\(b.toNat:Int)=47/\chr b=false)\/(¬ (b.toNat:Int)<33/\¬ (126:Int)<b.toNat/\¬ (b.toNat:Int)=47/\chr b=true):=by
 simp only[chr,decide_eq_true_eq,decide_eq_false_iff_not]
 omega
theorem isNameL2 {Q:AExit->St->Prop}{st:St}(l:List UInt8)(hl:l.length<=16)(hret:l.all chr=false->∀st,st.s 2=.p (B false)->Q .ret st)
 (hex:l.all chr=true->∀st,Q (.exit 0) st)(h0:st.s 0=.p (SB l)/\st.s 21=.p (I l.length)/\st.s 22=.p (I 0)) :
 WC Tryz.prog Tryz.T 42 (lp Tryz.f117 0) Q st:=by
 obtain⟨g0,g21,g22⟩:=h0
 refine zC (fun N st=>∃k,k+N=l.length/\(l.take k).all chr=true/\st.s 0=.p (SB l)/\st.s 21=.p (I l.length)/\st.s 22=.p (I k)) l.length ⟨0,by simp,by simp,g0,g21,g22⟩ fun K N st hL ⟨k,hk,ha,g0,g21,g22⟩=>?_
 by_cases hlt:k<l.length
 ·have hw:=yU k _ hlt (by omega)
  have has:=all_snocp chr l k hlt
  rw[ha,Bool.true_and] at has
  rcases chr_cases l[k] with ⟨d1,hc⟩|⟨d1,d2,hc⟩|⟨d1,d2,d3,hc⟩|⟨d1,d2,d3,hc⟩
  ·repeat' first|(refine O _ ?_;clear O)|(refine O _ _ ?_;clear O)|(clear O;refine O _ ?_;clear O)|(clear O;clear O;refine O _ ?_;clear O)|(clear O;clear O;clear O;refine O _ ?_;clear O)|(clear O;clear O;clear O;clear O;refine O _ ?_;clear O)|(refine zJ fun K O=>?_)|((first|refine zH ?_|refine zN rfl (by kernel_rfl) ?_|refine zM ?_|refine zK (by kernel_rfl) ?_);simp only[vS,vR,strip])|((first|refine wIs fun K O=>?_|refine wOs fun K O=>?_|refine wQs fun K O=>?_|refine zW ?_|refine zX ?_|refine zY ?_|refine zL ?_);simp[g0,g21,g22,hlt,hw,d1])|(refine wIn ?_;refine And.intro (by kernel_rfl) ?_;try simp only[zZ])|(first|refine zR ?_|refine zT ?_)|((first|refine zI ?_|refine zO ?_|refine zP ?_);try simp)|((first|refine zS ?_|refine wOn ?_|refine wQn ?_);try simp only[zZ])
   exact hret (not_all hlt hc) _ (by simp)
  ·repeat' first|(refine O _ ?_;clear O)|(refine O _ _ ?_;clear O)|(clear O;refine O _ ?_;clear O)|(clear O;clear O;refine O _ ?_;clear O)|(clear O;clear O;clear O;refine O _ ?_;clear O)|(clear O;clear O;clear O;clear O;refine O _ ?_;clear O)|(refine zJ fun K O=>?_)|((first|refine zH ?_|refine zN rfl (by kernel_rfl) ?_|refine zM ?_|refine zK (by kernel_rfl) ?_);simp only[vS,vR,strip])|((first|refine wIs fun K O=>?_|refine wOs fun K O=>?_|refine wQs fun K O=>?_|refine zW ?_|refine zX ?_|refine zY ?_|refine zL ?_);simp[g0,g21,g22,hlt,hw,d1,d2])|(refine wIn ?_;refine And.intro (by kernel_rfl) ?_;try simp only[zZ])|(first|refine zR ?_|refine zT ?_)|((first|refine zI ?_|refine zO ?_|refine zP ?_);try simp)|((first|refine zS ?_|refine wOn ?_|refine wQn ?_);try simp only[zZ])
   exact hret (not_all hlt hc) _ (by simp)
  ·repeat' first|(refine O _ ?_;clear O)|(refine O _ _ ?_;clear O)|(clear O;refine O _ ?_;clear O)|(clear O;clear O;refine O _ ?_;clear O)|(clear O;clear O;clear O;refine O _ ?_;clear O)|(clear O;clear O;clear O;clear O;refine O _ ?_;clear O)|(refine zJ fun K O=>?_)|((first|refine zH ?_|refine zN rfl (by kernel_rfl) ?_|refine zM ?_|refine zK (by kernel_rfl) ?_);simp only[vS,vR,strip])|((first|refine wIs fun K O=>?_|refine wOs fun K O=>?_|refine wQs fun K O=>?_|refine zW ?_|refine zX ?_|refine zY ?_|refine zL ?_);simp[g0,g21,g22,hlt,hw,d1,d2,d3])|(refine wIn ?_;refine And.intro (by kernel_rfl) ?_;try simp only[zZ])|(first|refine zR ?_|refine zT ?_)|((first|refine zI ?_|refine zO ?_|refine zP ?_);try simp)|((first|refine zS ?_|refine wOn ?_|refine wQn ?_);try simp only[zZ])
   exact hret (not_all hlt hc) _ (by simp)
  ·rw[hc] at has
   repeat' first|((first|refine O _ ?_|refine O _ _ ?_|(clear O;refine O _ ?_));clear O)|(refine zJ fun K O=>?_)|((first|refine zH ?_|refine zN rfl (by kernel_rfl) ?_|refine zM ?_|refine zK (by kernel_rfl) ?_);simp only[vS,vR,strip])|((first|refine wIs fun K O=>?_|refine wOs fun K O=>?_|refine wQs fun K O=>?_|refine zW ?_|refine zX ?_|refine zY ?_|refine zL ?_);simp[g0,g21,g22,hlt,hw,d1,d2,d3])|(refine wIn ?_;refine And.intro (by kernel_rfl) ?_;try simp only[zZ])|refine zR ?_|refine zT ?_|((first|refine zI ?_|refine zO ?_|refine zP ?_);try simp)|((first|refine zS ?_|refine wOn ?_|refine wQn ?_);try simp only[zZ])
   refine hL _ (N-1) (by omega) ⟨k+1,by omega,has,?_⟩
   simp[g0,g21,g22,hw]
 ·have e:l.take k=l:=List.take_of_length_le (by omega)
  rw[e] at ha
  repeat' first|((first|refine O _ ?_|refine O _ _ ?_|(clear O;refine O _ ?_));clear O)|(refine zJ fun K O=>?_)|((first|refine zH ?_|refine zN rfl (by kernel_rfl) ?_|refine zM ?_|refine zK (by kernel_rfl) ?_);simp only[vS,vR,strip])|((first|refine wIs fun K O=>?_|refine wOs fun K O=>?_|refine wQs fun K O=>?_|refine zW ?_|refine zX ?_|refine zY ?_|refine zL ?_);simp[g0,g21,g22,hlt])|(refine wIn ?_;refine And.intro (by kernel_rfl) ?_;try simp only[zZ])|refine zR ?_|refine zT ?_|((first|refine zI ?_|refine zO ?_|refine zP ?_);try simp)|((first|refine zS ?_|refine wOn ?_|refine wQn ?_);try simp only[zZ])
  exact hex ha _
theorem isName03_con (l:List UInt8)(hl:l.length<=9223372036854775807):zE Tryz.prog 117 [.p (SB l)] (.p (B (nm l))):=by
 by_cases h1:l=[]
 ·subst h1
  rw[show nm []=false from rfl]
  refine zG Tryz.tab Tryz.mixed Tryz.func117 rfl rfl Tryz.ntmps117 (by simp) (by simp) fun Q hr hn=>?_
  repeat' first|((first|refine O _ ?_|refine O _ _ ?_|(clear O;refine O _ ?_));clear O)|(refine zJ fun K O=>?_)|((first|refine zH ?_|refine zN rfl (by kernel_rfl) ?_|refine zM ?_|refine zK (by kernel_rfl) ?_);simp only[vS,vR,strip])|((first|refine wIs fun K O=>?_|refine wOs fun K O=>?_|refine wQs fun K O=>?_|refine zW ?_|refine zX ?_|refine zY ?_|refine zL ?_);simp)|(refine wIn ?_;refine And.intro (by kernel_rfl) ?_;try simp only[zZ])|refine zR ?_|refine zT ?_|((first|refine zI ?_|refine zO ?_|refine zP ?_);try simp)|((first|refine zS ?_|refine wOn ?_|refine wQn ?_);try simp only[zZ])
  all_goals apply hr
  all_goals simp[Tryz.f117]
 by_cases h2:l=[46]
 ·subst h2
  rw[show nm [46]=false from rfl]
  refine zG Tryz.tab Tryz.mixed Tryz.func117 rfl rfl Tryz.ntmps117 (by simp) (by simp) fun Q hr hn=>?_
  repeat' first|((first|refine O _ ?_|refine O _ _ ?_|(clear O;refine O _ ?_));clear O)|(refine zJ fun K O=>?_)|((first|refine zH ?_|refine zN rfl (by kernel_rfl) ?_|refine zM ?_|refine zK (by kernel_rfl) ?_);simp only[vS,vR,strip])|((first|refine wIs fun K O=>?_|refine wOs fun K O=>?_|refine wQs fun K O=>?_|refine zW ?_|refine zX ?_|refine zY ?_|refine zL ?_);simp)|(refine wIn ?_;refine And.intro (by kernel_rfl) ?_;try simp only[zZ])|refine zR ?_|refine zT ?_|((first|refine zI ?_|refine zO ?_|refine zP ?_);try simp)|((first|refine zS ?_|refine wOn ?_|refine wQn ?_);try simp only[zZ])
  all_goals apply hr
  all_goals simp[Tryz.f117]
 by_cases h3:l=[46,46]
 ·subst h3
  rw[show nm [46,46]=false from rfl]
  refine zG Tryz.tab Tryz.mixed Tryz.func117 rfl rfl Tryz.ntmps117 (by simp) (by simp) fun Q hr hn=>?_
  repeat' first|((first|refine O _ ?_|refine O _ _ ?_|(clear O;refine O _ ?_));clear O)|(refine zJ fun K O=>?_)|((first|refine zH ?_|refine zN rfl (by kernel_rfl) ?_|refine zM ?_|refine zK (by kernel_rfl) ?_);simp only[vS,vR,strip])|((first|refine wIs fun K O=>?_|refine wOs fun K O=>?_|refine wQs fun K O=>?_|refine zW ?_|refine zX ?_|refine zY ?_|refine zL ?_);simp)|(refine wIn ?_;refine And.intro (by kernel_rfl) ?_;try simp only[zZ])|refine zR ?_|refine zT ?_|((first|refine zI ?_|refine zO ?_|refine zP ?_);try simp)|((first|refine zS ?_|refine wOn ?_|refine wQn ?_);try simp only[zZ])
  all_goals apply hr
  all_goals simp[Tryz.f117]
 have hlen:1<=l.length:=List.length_pos_iff.2 h1
 have hlen':¬ (l.length:Int)<1:=by omega
 by_cases h4:16<l.length
 ·have hN:nm l=false:=by simp[nm];omega
  have h4':(16:Int)<l.length:=by omega
  rw[hN]
  refine zG Tryz.tab Tryz.mixed Tryz.func117 rfl rfl Tryz.ntmps117 (by simp) (by simp) fun Q hr hn=>?_
  repeat' first|((first|refine O _ ?_|refine O _ _ ?_|(clear O;refine O _ ?_));clear O)|(refine zJ fun K O=>?_)|((first|refine zH ?_|refine zN rfl (by kernel_rfl) ?_|refine zM ?_|refine zK (by kernel_rfl) ?_);simp only[vS,vR,strip])|((first|refine wIs fun K O=>?_|refine wOs fun K O=>?_|refine wQs fun K O=>?_|refine zW ?_|refine zX ?_|refine zY ?_|refine zL ?_);simp[h1,h2,h3,h4,h4',hlen'])|(refine wIn ?_;refine And.intro (by kernel_rfl) ?_;try simp only[zZ])|refine zR ?_|refine zT ?_|((first|refine zI ?_|refine zO ?_|refine zP ?_);try simp)|((first|refine zS ?_|refine wOn ?_|refine wQn ?_);try simp only[zZ])
  all_goals apply hr
  all_goals simp[Tryz.f117]
 ·have hN:nm l=l.all chr:=by
   have:decide (1<=l.length/\l.length<=16/\l ≠ [46]/\l ≠ [46,46])=true:=by simp[h2,h3];omega
   rw[nm,this,Bool.true_and]
  have h4':¬ (16:Int)<l.length:=by omega
  have hlp:=fun {Q} {st} h h' h''=>isNameL2 (Q:=Q) (st:=st) l (by omega) h h' h''
  rw[hN]
  refine zG Tryz.tab Tryz.mixed Tryz.func117 rfl rfl Tryz.ntmps117 (by simp) (by simp) fun Q hr hn=>?_
  repeat' first|(refine hlp ?_ ?_ ⟨by simp,by simp,by simp⟩)|((first|refine O _ ?_|refine O _ _ ?_|(clear O;refine O _ ?_));clear O)|(refine zJ fun K O=>?_)|((first|refine zH ?_|refine zN rfl (by kernel_rfl) ?_|refine zM ?_|refine zK (by kernel_rfl) ?_);simp only[vS,vR,strip])|((first|refine wIs fun K O=>?_|refine wOs fun K O=>?_|refine wQs fun K O=>?_|refine zW ?_|refine zX ?_|refine zY ?_|refine zL ?_);simp[h1,h2,h3,h4,h4',hlen'])|(refine wIn ?_;refine And.intro (by kernel_rfl) ?_;try simp only[zZ])|refine zR ?_|refine zT ?_|((first|refine zI ?_|refine zO ?_|refine zP ?_);try simp)|((first|refine zS ?_|refine wOn ?_|refine wQn ?_);try simp only[zZ])
  ·intro ha st g2
   simp only[blockA_r,thenA_r]
   apply hr
   simp[Tryz.f117,g2,ha]
  ·intro ha st
   simp only[blockA_e,if_true,zZ]
   repeat' first|((first|refine O _ ?_|refine O _ _ ?_|(clear O;refine O _ ?_));clear O)|(refine zJ fun K O=>?_)|((first|refine zH ?_|refine zN rfl (by kernel_rfl) ?_|refine zM ?_|refine zK (by kernel_rfl) ?_);simp only[vS,vR,strip])|((first|refine wIs fun K O=>?_|refine wOs fun K O=>?_|refine wQs fun K O=>?_|refine zW ?_|refine zX ?_|refine zY ?_|refine zL ?_);simp)|(refine wIn ?_;refine And.intro (by kernel_rfl) ?_;try simp only[zZ])|refine zR ?_|refine zT ?_|((first|refine zI ?_|refine zO ?_|refine zP ?_);try simp)|((first|refine zS ?_|refine wOn ?_|refine wQn ?_);try simp only[zZ])
   all_goals apply hr
   all_goals simp[Tryz.f117,ha]
def g:List UInt8->List UInt8->Bool
 |c,[]=>nm c
 |c,b::r=>if b=47 then nm c && g [] r else g (c++[b]) r
def nmd:List UInt8->Bool
 |[]=>false
 |b::r=>if b=47 then g [] r else false
def chk (l:List UInt8):Int:=if 64<l.length then 5 else if l=[47]\/nmd l=true then 0 else 1
theorem g_step (c l:List UInt8)(k:Nat)(h:k<l.length):g c (l.drop k)=if l[k]=47 then nm c && g [] (l.drop (k+1)) else g (c++[l[k]]) (l.drop (k+1)):=by
 rw[List.drop_eq_getElem_cons h];rfl
theorem g_end (c l:List UInt8)(k:Nat)(h:l.length<=k):g c (l.drop k)=nm c:=by
 rw[List.drop_of_length_le h];cases c <;> rfl
theorem check03L {Q:AExit->St->Prop}{st:St}(l:List UInt8)(hl:l.length<=64)(h1:1<=l.length)(v:Bool)(hv:g [] (l.drop 1)=v)
 (hret:v=false->∀st,st.s 2=.p (I 1)->Q .ret st)
 (hend:∀f,f<=l.length->nm (l.drop f)=v->∀st,st.s 0=.p (SB l)/\st.s 3=.p (I f)->Q (.exit 0) st)(h0:st.s 0=.p (SB l)/\st.s 3=.p (I 1)/\st.s 4=.p (I 1)) :
 WC Tryz.prog Tryz.T 42 (lp Tryz.f96 0) Q st:=by
 obtain⟨g0,g3,g4⟩:=h0
 refine zC (fun N st=>∃k f,k+N=l.length/\f<=k/\g ((l.take k).drop f) (l.drop k)=v/\st.s 0=.p (SB l)/\st.s 3=.p (I f)/\st.s 4=.p (I k)) (l.length-1) ⟨1,1,by omega,by omega,by rw[<- hv];congr 1;simp <;> omega,g0,g3,g4⟩ fun K N st hL ⟨k,f,hk,hf,ha,g0,g3,g4⟩=>?_
 by_cases hlt:k<l.length
 ·have hw:=yU k _ hlt (by omega)
  have hs:=g_step ((l.take k).drop f) l k hlt
  have hle:k<=l.length:=by omega
  have hkn:¬ (k:Int)=l.length:=by omega
  have hkn':¬ k=l.length:=by omega
  by_cases d:l[k]=47
  ·have d':(l[k].toNat:Int)=47:=by rw[d];rfl
   rw[if_pos d] at hs
   have c:=isName03_con ((l.take k).drop f) (by simp;omega)
   cases hn:nm ((l.take k).drop f)
   ·rw[hn] at c hs
    repeat' first|((first|refine O _ ?_|refine O _ _ ?_|(clear O;refine O _ ?_));clear O)|(refine zJ fun K O=>?_)|((first|refine zH ?_|refine zN rfl (by kernel_rfl) ?_|refine zM ?_|refine zK (by kernel_rfl) ?_);simp only[vS,vR,strip])|((first|refine wIs fun K O=>?_|refine wOs fun K O=>?_|refine wQs fun K O=>?_|refine zW ?_|refine zX ?_|refine zY ?_|refine zL ?_);simp[g0,g3,g4,hlt,hle,hf,hkn,hkn',hw,d,d'])|(refine wIn ?_;refine And.intro (by kernel_rfl) ?_;try simp only[zZ])|refine zR ?_|refine zT ?_|((first|refine zI ?_|refine zO ?_|refine zP ?_);try simp)|((first|refine zS ?_|refine wOn ?_|refine wQn ?_);try simp only[zZ])|refine zU.p c rfl ?_|refine zU.l c rfl ?_|refine zQ.pure c rfl ?_|refine zQ.lent c rfl ?_|refine zU.o c ?_|refine zV.p c rfl ?_|refine zV.l c rfl ?_|refine zV.o c ?_
    exact hret (by rw[<- ha,hs];rfl) _ (by simp)
   ·rw[hn] at c hs
    repeat' first|((first|refine O _ ?_|refine O _ _ ?_|(clear O;refine O _ ?_));clear O)|(refine zJ fun K O=>?_)|((first|refine zH ?_|refine zN rfl (by kernel_rfl) ?_|refine zM ?_|refine zK (by kernel_rfl) ?_);simp only[vS,vR,strip])|((first|refine wIs fun K O=>?_|refine wOs fun K O=>?_|refine wQs fun K O=>?_|refine zW ?_|refine zX ?_|refine zY ?_|refine zL ?_);simp[g0,g3,g4,hlt,hle,hf,hkn,hkn',hw,d,d'])|(refine wIn ?_;refine And.intro (by kernel_rfl) ?_;try simp only[zZ])|refine zR ?_|refine zT ?_|((first|refine zI ?_|refine zO ?_|refine zP ?_);try simp)|((first|refine zS ?_|refine wOn ?_|refine wQn ?_);try simp only[zZ])|refine zU.p c rfl ?_|refine zU.l c rfl ?_|refine zQ.pure c rfl ?_|refine zQ.lent c rfl ?_|refine zU.o c ?_|refine zV.p c rfl ?_|refine zV.l c rfl ?_|refine zV.o c ?_
    refine hL _ (N-1) (by omega) ⟨k+1,k+1,by omega,by omega,?_,?_⟩
    ·rw[<- ha,hs,Bool.true_and];congr 1;simp <;> omega
    ·simp[g0,g3,g4,hw]
  ·have d':¬ (l[k].toNat:Int)=47:=fun h=>d (UInt8.toNat_inj.1 (by exact (by exact_mod_cast h:l[k].toNat=47)))
   rw[if_neg d] at hs
   repeat' first|((first|refine O _ ?_|refine O _ _ ?_|(clear O;refine O _ ?_));clear O)|(refine zJ fun K O=>?_)|((first|refine zH ?_|refine zN rfl (by kernel_rfl) ?_|refine zM ?_|refine zK (by kernel_rfl) ?_);simp only[vS,vR,strip])|((first|refine wIs fun K O=>?_|refine wOs fun K O=>?_|refine wQs fun K O=>?_|refine zW ?_|refine zX ?_|refine zY ?_|refine zL ?_);simp[g0,g3,g4,hlt,hle,hf,hkn,hkn',hw,d,d'])|(refine wIn ?_;refine And.intro (by kernel_rfl) ?_;try simp only[zZ])|refine zR ?_|refine zT ?_|((first|refine zI ?_|refine zO ?_|refine zP ?_);try simp)|((first|refine zS ?_|refine wOn ?_|refine wQn ?_);try simp only[zZ])
   refine hL _ (N-1) (by omega) ⟨k+1,f,by omega,by omega,?_,?_⟩
   ·rw[<- ha,hs,List.take_succ_eq_append_getElem hlt,List.drop_append_of_le_length (by simp;omega)]
   ·simp[g0,g3,g4,hw]
 ·have e:l.take k=l:=List.take_of_length_le (by omega)
  obtain rfl:k=l.length:=by omega
  rw[g_end _ _ _ (by omega),e] at ha
  repeat' first|((first|refine O _ ?_|refine O _ _ ?_|(clear O;refine O _ ?_));clear O)|(refine zJ fun K O=>?_)|((first|refine zH ?_|refine zN rfl (by kernel_rfl) ?_|refine zM ?_|refine zK (by kernel_rfl) ?_);simp only[vS,vR,strip])|((first|refine wIs fun K O=>?_|refine wOs fun K O=>?_|refine wQs fun K O=>?_|refine zW ?_|refine zX ?_|refine zY ?_|refine zL ?_);simp[g0,g3,g4])|(refine wIn ?_;refine And.intro (by kernel_rfl) ?_;try simp only[zZ])|refine zR ?_|refine zT ?_|((first|refine zI ?_|refine zO ?_|refine zP ?_);try simp)|((first|refine zS ?_|refine wOn ?_|refine wQn ?_);try simp only[zZ])
  exact hend f hf ha _ (by simp[g0,g3])
set_option maxHeartbeats 2000000 in
theorem check03_con (l:List UInt8)(hl:l.length<=9223372036854775807):zE Tryz.prog 96 [.p (SB l)] (.p (I (chk l))):=by
 unfold chk
 by_cases h1:64<l.length
 ·have h1':(64:Int)<l.length:=by omega
  rw[if_pos h1]
  refine zG Tryz.tab Tryz.mixed Tryz.func96 rfl rfl Tryz.ntmps96 (by simp) (by simp) fun Q hr hn=>?_
  repeat' first|((first|refine O _ ?_|refine O _ _ ?_|(clear O;refine O _ ?_));clear O)|(refine zJ fun K O=>?_)|((first|refine zH ?_|refine zN rfl (by kernel_rfl) ?_|refine zM ?_|refine zK (by kernel_rfl) ?_);simp only[vS,vR,strip])|((first|refine wIs fun K O=>?_|refine wOs fun K O=>?_|refine wQs fun K O=>?_|refine zW ?_|refine zX ?_|refine zY ?_|refine zL ?_);simp[h1,h1'])|(refine wIn ?_;refine And.intro (by kernel_rfl) ?_;try simp only[zZ])|refine zR ?_|refine zT ?_|((first|refine zI ?_|refine zO ?_|refine zP ?_);try simp)|((first|refine zS ?_|refine wOn ?_|refine wQn ?_);try simp only[zZ])
  all_goals apply hr
  all_goals simp[Tryz.f96]
 have h1':¬ (64:Int)<l.length:=by omega
 rw[if_neg h1]
 by_cases h2:l=[47]
 ·subst h2
  rw[if_pos (.inl rfl)]
  refine zG Tryz.tab Tryz.mixed Tryz.func96 rfl rfl Tryz.ntmps96 (by simp) (by simp) fun Q hr hn=>?_
  repeat' first|((first|refine O _ ?_|refine O _ _ ?_|(clear O;refine O _ ?_));clear O)|(refine zJ fun K O=>?_)|((first|refine zH ?_|refine zN rfl (by kernel_rfl) ?_|refine zM ?_|refine zK (by kernel_rfl) ?_);simp only[vS,vR,strip])|((first|refine wIs fun K O=>?_|refine wOs fun K O=>?_|refine wQs fun K O=>?_|refine zW ?_|refine zX ?_|refine zY ?_|refine zL ?_);simp)|(refine wIn ?_;refine And.intro (by kernel_rfl) ?_;try simp only[zZ])|refine zR ?_|refine zT ?_|((first|refine zI ?_|refine zO ?_|refine zP ?_);try simp)|((first|refine zS ?_|refine wOn ?_|refine wQn ?_);try simp only[zZ])
  all_goals apply hr
  all_goals simp[Tryz.f96]
 cases l with
 |nil =>
  rw[if_neg (by simp[nmd])]
  refine zG Tryz.tab Tryz.mixed Tryz.func96 rfl rfl Tryz.ntmps96 (by simp) (by simp) fun Q hr hn=>?_
  repeat' first|((first|refine O _ ?_|refine O _ _ ?_|(clear O;refine O _ ?_));clear O)|(refine zJ fun K O=>?_)|((first|refine zH ?_|refine zN rfl (by kernel_rfl) ?_|refine zM ?_|refine zK (by kernel_rfl) ?_);simp only[vS,vR,strip])|((first|refine wIs fun K O=>?_|refine wOs fun K O=>?_|refine wQs fun K O=>?_|refine zW ?_|refine zX ?_|refine zY ?_|refine zL ?_);simp)|(refine wIn ?_;refine And.intro (by kernel_rfl) ?_;try simp only[zZ])|refine zR ?_|refine zT ?_|((first|refine zI ?_|refine zO ?_|refine zP ?_);try simp)|((first|refine zS ?_|refine wOn ?_|refine wQn ?_);try simp only[zZ])
  all_goals apply hr
  all_goals simp[Tryz.f96]
 |cons b R =>
  simp only[List.length_cons] at h1 h1' hl
  have h2':b=47->¬ R=[]:=fun h h'=>h2 (by rw[h,h'])
  by_cases d:b=47
  ·subst d
   have hR:=h2' rfl
   have hv:g [] ((47::R).drop 1)=nmd (47::R):=rfl
   have hlp:=fun {Q} {st} h h1 h'=>check03L (Q:=Q) (st:=st) (47::R) (by simp;omega) (by simp) _ hv h h1 h'
   generalize nmd (47::R)=v at hlp
   have h64:¬ (64:Int)<(R.length:Int)+1:=by omega
   refine zG Tryz.tab Tryz.mixed Tryz.func96 rfl rfl Tryz.ntmps96 (by simp) (by simp) fun Q hr hn=>?_
   repeat' first|(refine hlp ?_ ?_ ⟨by simp,by simp,by simp⟩)|((first|refine O _ ?_|refine O _ _ ?_|(clear O;refine O _ ?_));clear O)|(refine zJ fun K O=>?_)|((first|refine zH ?_|refine zN rfl (by kernel_rfl) ?_|refine zM ?_|refine zK (by kernel_rfl) ?_);simp only[vS,vR,strip])|((first|refine wIs fun K O=>?_|refine wOs fun K O=>?_|refine wQs fun K O=>?_|refine zW ?_|refine zX ?_|refine zY ?_|refine zL ?_);simp[h1,h1',h64,hR])|(refine wIn ?_;refine And.intro (by kernel_rfl) ?_;try simp only[zZ])|refine zR ?_|refine zT ?_|((first|refine zI ?_|refine zO ?_|refine zP ?_);try simp)|((first|refine zS ?_|refine wOn ?_|refine wQn ?_);try simp only[zZ])
   ·intro hv st g2
    subst hv
    simp
    apply hr
    simp[Tryz.f96,g2,hR]
   ·intro f hf hn st ⟨g0,g3⟩
    have c:=isName03_con ((47::R).drop f) (by simp;omega)
    rw[hn] at c
    have hf':f<=R.length+1:=by simpa using hf
    simp
    cases v
    all_goals repeat' first|((first|refine O _ ?_|refine O _ _ ?_|(clear O;refine O _ ?_));clear O)|(refine zJ fun K O=>?_)|((first|refine zH ?_|refine zN rfl (by kernel_rfl) ?_|refine zM ?_|refine zK (by kernel_rfl) ?_);simp only[vS,vR,strip])|((first|refine wIs fun K O=>?_|refine wOs fun K O=>?_|refine wQs fun K O=>?_|refine zW ?_|refine zX ?_|refine zY ?_|refine zL ?_);simp[g0,g3,hf,hf'])|(refine wIn ?_;refine And.intro (by kernel_rfl) ?_;try simp only[zZ])|refine zR ?_|refine zT ?_|((first|refine zI ?_|refine zO ?_|refine zP ?_);try simp)|((first|refine zS ?_|refine wOn ?_|refine wQn ?_);try simp only[zZ])|refine zU.p c rfl ?_|refine zU.l c rfl ?_|refine zQ.pure c rfl ?_|refine zQ.lent c rfl ?_|refine zU.o c ?_|refine zV.p c rfl ?_|refine zV.l c rfl ?_|refine zV.o c ?_
    all_goals apply hr
    all_goals simp[Tryz.f96,hR]
  ·have d':¬ (b.toNat:Int)=47:=fun h=>d (UInt8.toNat_inj.1 (by exact (by exact_mod_cast h:b.toNat=47)))
   have h64:¬ (64:Int)<(R.length:Int)+1:=by omega
   rw[if_neg (by simp[nmd,d])]
   refine zG Tryz.tab Tryz.mixed Tryz.func96 rfl rfl Tryz.ntmps96 (by simp) (by simp) fun Q hr hn=>?_
   repeat' first|((first|refine O _ ?_|refine O _ _ ?_|(clear O;refine O _ ?_));clear O)|(refine zJ fun K O=>?_)|((first|refine zH ?_|refine zN rfl (by kernel_rfl) ?_|refine zM ?_|refine zK (by kernel_rfl) ?_);simp only[vS,vR,strip])|((first|refine wIs fun K O=>?_|refine wOs fun K O=>?_|refine wQs fun K O=>?_|refine zW ?_|refine zX ?_|refine zY ?_|refine zL ?_);simp[h1,h1',h64,d,d'])|(refine wIn ?_;refine And.intro (by kernel_rfl) ?_;try simp only[zZ])|refine zR ?_|refine zT ?_|((first|refine zI ?_|refine zO ?_|refine zP ?_);try simp)|((first|refine zS ?_|refine wOn ?_|refine wQn ?_);try simp only[zZ])
   all_goals apply hr
   all_goals simp[Tryz.f96]
end Go.Proofs.YtpihbhacmokekaaGreatDoor
namespace Go.Proofs.YtpihbhacmokekaaGreatDoor
open Go Go.Av
end Go.Proofs.YtpihbhacmokekaaGreatDoor
namespace Go.Proofs.YtpihbhacmokekaaGreatDoor
set_option linter.unusedSimpArgs false
set_option linter.unusedVariables false
open Go Go.Av
attribute [local irreducible] Go.Av.yJ Go.Av.zU Go.Av.yC Go.Av.zQ Go.Av.yG Go.Av.zV Go.Av.Con
def lx (l:List UInt8):Nat->Nat
 |0=>0
 |k+1=>if l[k]?=some 47 then k else lx l k
theorem lx_lt (l:List UInt8):∀k,1<=k->lx l k<k
 |0,h=>absurd h (by omega)
 |1,_=>by unfold lx;split <;> simp[lx]
 |k+2,_=>by
  have:=lx_lt l (k+1) (by omega)
  unfold lx;split <;> omega
theorem lx_step {l:List UInt8}{k:Nat}(h:k<l.length):lx l (k+1)=if l[k]=47 then k else lx l k:=by
 rw[lx,List.getElem?_eq_getElem h];simp
theorem ne47 {b:UInt8}(d:¬ b=47):¬ (b.toNat:Int)=47:=fun h=>d (UInt8.toNat_inj.1 (by exact (by exact_mod_cast h:b.toNat=47)))
theorem last03_con (l:List UInt8)(hl:l.length<=9223372036854775807):zE Tryz.prog 97 [.p (SB l)] (.p (I (lx l l.length))):=by
 refine zG Tryz.tab Tryz.mixed Tryz.func97 rfl rfl Tryz.ntmps97 (by simp) (by simp) fun Q hr hn=>?_
 repeat' first|((first|refine O _ ?_|refine O _ _ ?_|(clear O;refine O _ ?_));clear O)|(refine zJ fun K O=>?_)|((first|refine zH ?_|refine zN rfl (by kernel_rfl) ?_|refine zM ?_|refine zK (by kernel_rfl) ?_);simp only[vS,vR,strip])|((first|refine wIs fun K O=>?_|refine wOs fun K O=>?_|refine wQs fun K O=>?_|refine zW ?_|refine zX ?_|refine zY ?_|refine zL ?_);simp)|(refine wIn ?_;refine And.intro (by kernel_rfl) ?_;try simp only[zZ])|refine zR ?_|refine zT ?_|((first|refine zI ?_|refine zO ?_|refine zP ?_);try simp)|((first|refine zS ?_|refine wOn ?_|refine wQn ?_);try simp only[zZ])
 refine zC (fun N st=>∃k,k+N=l.length/\st.s 0=.p (SB l)/\st.s 6=.p (I l.length)/\st.s 7=.p (I k)/\st.s 3=.p (I (lx l k))) l.length ⟨0,by simp[lx]⟩ fun K N st hL ⟨k,hk,g0,g6,g7,g3⟩=>?_
 by_cases hlt:k<l.length
 ·have hw:=yU k _ hlt hl
  have hs:=lx_step hlt
  by_cases d:l[k]=47
  ·have d':(l[k].toNat:Int)=47:=by rw[d];rfl
   rw[if_pos d] at hs
   repeat' first|((first|refine O _ ?_|refine O _ _ ?_|(clear O;refine O _ ?_));clear O)|(refine zJ fun K O=>?_)|((first|refine zH ?_|refine zN rfl (by kernel_rfl) ?_|refine zM ?_|refine zK (by kernel_rfl) ?_);simp only[vS,vR,strip])|((first|refine wIs fun K O=>?_|refine wOs fun K O=>?_|refine wQs fun K O=>?_|refine zW ?_|refine zX ?_|refine zY ?_|refine zL ?_);simp[g0,g6,g7,g3,hlt,hw,d,d'])|(refine wIn ?_;refine And.intro (by kernel_rfl) ?_;try simp only[zZ])|refine zR ?_|refine zT ?_|((first|refine zI ?_|refine zO ?_|refine zP ?_);try simp)|((first|refine zS ?_|refine wOn ?_|refine wQn ?_);try simp only[zZ])
   refine hL _ (N-1) (by omega) ⟨k+1,by omega,?_⟩
   simp[g0,g6,g7,g3,hw,hs]
  ·have d':=ne47 d
   rw[if_neg d] at hs
   repeat' first|((first|refine O _ ?_|refine O _ _ ?_|(clear O;refine O _ ?_));clear O)|(refine zJ fun K O=>?_)|((first|refine zH ?_|refine zN rfl (by kernel_rfl) ?_|refine zM ?_|refine zK (by kernel_rfl) ?_);simp only[vS,vR,strip])|((first|refine wIs fun K O=>?_|refine wOs fun K O=>?_|refine wQs fun K O=>?_|refine zW ?_|refine zX ?_|refine zY ?_|refine zL ?_);simp[g0,g6,g7,g3,hlt,hw,d,d'])|(refine wIn ?_;refine And.intro (by kernel_rfl) ?_;try simp only[zZ])|refine zR ?_|refine zT ?_|((first|refine zI ?_|refine zO ?_|refine zP ?_);try simp)|((first|refine zS ?_|refine wOn ?_|refine wQn ?_);try simp only[zZ])
   refine hL _ (N-1) (by omega) ⟨k+1,by omega,?_⟩
   simp[g0,g6,g7,g3,hw,hs]
 ·obtain rfl:k=l.length:=by omega
  repeat' first|((first|refine O _ ?_|refine O _ _ ?_|(clear O;refine O _ ?_));clear O)|(refine zJ fun K O=>?_)|((first|refine zH ?_|refine zN rfl (by kernel_rfl) ?_|refine zM ?_|refine zK (by kernel_rfl) ?_);simp only[vS,vR,strip])|((first|refine wIs fun K O=>?_|refine wOs fun K O=>?_|refine wQs fun K O=>?_|refine zW ?_|refine zX ?_|refine zY ?_|refine zL ?_);simp[g0,g6,g7,g3])|(refine wIn ?_;refine And.intro (by kernel_rfl) ?_;try simp only[zZ])|refine zR ?_|refine zT ?_|((first|refine zI ?_|refine zO ?_|refine zP ?_);try simp)|((first|refine zS ?_|refine wOn ?_|refine wQn ?_);try simp only[zZ])
  all_goals apply hr
  all_goals simp[Tryz.f97,g3]
def chd (l:List UInt8):Bool:=decide (l ≠ [47]/\chk l=0)
theorem chk_spec {l:List UInt8}(h:chk l=0):l=[47]\/(l ≠ [47]/\∃R,l=47::R/\R ≠ []):=by
 by_cases h1:l=[47]
 ·exact .inl h1
 refine .inr ⟨h1,?_⟩
 unfold chk at h
 split at h
 ·simp at h
 split at h
 ·rename_i h2
  rcases h2 with h2|h2
  ·exact absurd h2 h1
  ·cases l with
   |nil=>simp[nmd] at h2
   |cons b R =>
    simp only[nmd] at h2
    split at h2
    ·rename_i hb
     subst hb
     exact⟨R,rfl,fun h=>h1 (by rw[h])⟩
    ·simp at h2
 ·simp at h
def parV (l:List UInt8):V:=if chd l=true then .tup [.p (SB (l.take (max (lx l l.length) 1))),.p (B true)] else .tup [.p (SB []),.p (B false)]
def nam (l:List UInt8):List UInt8:=if chd l=true then l.drop (lx l l.length+1) else []
theorem parent03_con (l:List UInt8)(hl:l.length<=9223372036854775807):zE Tryz.prog 77 [.p (SB l)] (parV l):=by
 have c:=check03_con l hl
 unfold parV
 by_cases h0:chk l=0
 ·rw[h0] at c
  rcases chk_spec h0 with rfl|⟨h1,R,rfl,hR⟩
  ·rw[if_neg (by simp[chd])]
   refine zG Tryz.tab Tryz.mixed Tryz.func77 rfl rfl Tryz.ntmps77 (by simp) (by simp) fun Q hr hn=>?_
   repeat' first|((first|refine O _ ?_|refine O _ _ ?_|(clear O;refine O _ ?_));clear O)|(refine zJ fun K O=>?_)|((first|refine zH ?_|refine zN rfl (by kernel_rfl) ?_|refine zM ?_|refine zK (by kernel_rfl) ?_);simp only[vS,vR,strip])|((first|refine wIs fun K O=>?_|refine wOs fun K O=>?_|refine wQs fun K O=>?_|refine zW ?_|refine zX ?_|refine zY ?_|refine zL ?_);simp)|(refine wIn ?_;refine And.intro (by kernel_rfl) ?_;try simp only[zZ])|refine zR ?_|refine zT ?_|((first|refine zI ?_|refine zO ?_|refine zP ?_);try simp)|((first|refine zS ?_|refine wOn ?_|refine wQn ?_);try simp only[zZ])|refine zU.p c rfl ?_|refine zU.l c rfl ?_|refine zQ.pure c rfl ?_|refine zQ.lent c rfl ?_|refine zU.o c ?_|refine zV.p c rfl ?_|refine zV.l c rfl ?_|refine zV.o c ?_
   all_goals apply hr
   all_goals simp[Tryz.f77]
  ·rw[if_pos (by simp[chd,h0,hR])]
   have c2:=last03_con (47::R) hl
   have hx:=lx_lt (47::R) (47::R).length (by simp)
   generalize lx (47::R) (47::R).length=x at c2 hx ⊢
   simp only[List.length_cons] at hx hl
   cases x with
   |zero =>
    refine zG Tryz.tab Tryz.mixed Tryz.func77 rfl rfl Tryz.ntmps77 (by simp) (by simp) fun Q hr hn=>?_
    repeat' first|((first|refine O _ ?_|refine O _ _ ?_|(clear O;refine O _ ?_));clear O)|(refine zJ fun K O=>?_)|((first|refine zH ?_|refine zN rfl (by kernel_rfl) ?_|refine zM ?_|refine zK (by kernel_rfl) ?_);simp only[vS,vR,strip])|((first|refine wIs fun K O=>?_|refine wOs fun K O=>?_|refine wQs fun K O=>?_|refine zW ?_|refine zX ?_|refine zY ?_|refine zL ?_);simp[h1,hR])|(refine wIn ?_;refine And.intro (by kernel_rfl) ?_;try simp only[zZ])|refine zR ?_|refine zT ?_|((first|refine zI ?_|refine zO ?_|refine zP ?_);try simp)|((first|refine zS ?_|refine wOn ?_|refine wQn ?_);try simp only[zZ])|refine zU.p c rfl ?_|refine zU.l c rfl ?_|refine zQ.pure c rfl ?_|refine zQ.lent c rfl ?_|refine zU.o c ?_|refine zV.p c rfl ?_|refine zV.l c rfl ?_|refine zV.o c ?_|refine zU.p c2 rfl ?_|refine zU.l c2 rfl ?_|refine zQ.pure c2 rfl ?_|refine zQ.lent c2 rfl ?_|refine zU.o c2 ?_|refine zV.p c2 rfl ?_|refine zV.l c2 rfl ?_|refine zV.o c2 ?_
    all_goals apply hr
    all_goals simp[Tryz.f77]
   |succ x =>
    have hm:max (x+1) 1=x+1:=by omega
    have h0:(0:Int)<=(x:Int)+1:=by omega
    have hn0:¬ (x:Int)+1=0:=by omega
    have hx':x<=R.length:=by omega
    rw[hm]
    refine zG Tryz.tab Tryz.mixed Tryz.func77 rfl rfl Tryz.ntmps77 (by simp) (by simp) fun Q hr hn=>?_
    repeat' first|((first|refine O _ ?_|refine O _ _ ?_|(clear O;refine O _ ?_));clear O)|(refine zJ fun K O=>?_)|((first|refine zH ?_|refine zN rfl (by kernel_rfl) ?_|refine zM ?_|refine zK (by kernel_rfl) ?_);simp only[vS,vR,strip])|((first|refine wIs fun K O=>?_|refine wOs fun K O=>?_|refine wQs fun K O=>?_|refine zW ?_|refine zX ?_|refine zY ?_|refine zL ?_);simp[h1,hR,h0,hn0,hx,hx'])|(refine wIn ?_;refine And.intro (by kernel_rfl) ?_;try simp only[zZ])|refine zR ?_|refine zT ?_|((first|refine zI ?_|refine zO ?_|refine zP ?_);try simp)|((first|refine zS ?_|refine wOn ?_|refine wQn ?_);try simp only[zZ])|refine zU.p c rfl ?_|refine zU.l c rfl ?_|refine zQ.pure c rfl ?_|refine zQ.lent c rfl ?_|refine zU.o c ?_|refine zV.p c rfl ?_|refine zV.l c rfl ?_|refine zV.o c ?_|refine zU.p c2 rfl ?_|refine zU.l c2 rfl ?_|refine zQ.pure c2 rfl ?_|refine zQ.lent c2 rfl ?_|refine zU.o c2 ?_|refine zV.p c2 rfl ?_|refine zV.l c2 rfl ?_|refine zV.o c2 ?_
    all_goals apply hr
    all_goals simp[Tryz.f77]
 ·rw[if_neg (by simp[chd,h0])]
  generalize chk l=e at c h0
  refine zG Tryz.tab Tryz.mixed Tryz.func77 rfl rfl Tryz.ntmps77 (by simp) (by simp) fun Q hr hn=>?_
  repeat' first|((first|refine O _ ?_|refine O _ _ ?_|(clear O;refine O _ ?_));clear O)|(refine zJ fun K O=>?_)|((first|refine zH ?_|refine zN rfl (by kernel_rfl) ?_|refine zM ?_|refine zK (by kernel_rfl) ?_);simp only[vS,vR,strip])|((first|refine wIs fun K O=>?_|refine wOs fun K O=>?_|refine wQs fun K O=>?_|refine zW ?_|refine zX ?_|refine zY ?_|refine zL ?_);simp[h0])|(refine wIn ?_;refine And.intro (by kernel_rfl) ?_;try simp only[zZ])|refine zR ?_|refine zT ?_|((first|refine zI ?_|refine zO ?_|refine zP ?_);try simp)|((first|refine zS ?_|refine wOn ?_|refine wQn ?_);try simp only[zZ])|refine zU.p c rfl ?_|refine zU.l c rfl ?_|refine zQ.pure c rfl ?_|refine zQ.lent c rfl ?_|refine zU.o c ?_|refine zV.p c rfl ?_|refine zV.l c rfl ?_|refine zV.o c ?_
  all_goals apply hr
  all_goals simp[Tryz.f77]
end Go.Proofs.YtpihbhacmokekaaGreatDoor
