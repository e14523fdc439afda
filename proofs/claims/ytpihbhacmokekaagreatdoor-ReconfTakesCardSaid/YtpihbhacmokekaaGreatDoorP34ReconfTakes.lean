/- Texts that the proof needs: SS3 SS4 SS5. -/
import Derived.Test.YtpihbhacmokekaaGreatDoorP33ReconfTakes
namespace Go.Proofs.YtpihbhacmokekaaGreatDoor
set_option linter.unusedSimpArgs false
set_option linter.unusedVariables false
set_option maxRecDepth 8000
open Go Go.Av
attribute [local irreducible] Go.Av.yJ Go.Av.zU Go.Av.yC Go.Av.zQ Go.Av.yG Go.Av.zV Go.Av.Con
def mgP (g:List Mb->Nat->Nat->Nat->List Mb)(L:List Mb)(a m b s:Nat):List Mb :=
 let e:=(a+b) / 2+m-s
 let L1:=if s<m/\m<e then rotM m (e-s) L (m-s) (e-m) else L
 let L2:=if a<s/\s<(a+b) / 2 then g L1 a s ((a+b) / 2) else L1
 if (a+b) / 2<e/\e<b then g L2 ((a+b) / 2) e b else L2
def mgS (L:List Mb)(a m b:Nat):Nat :=
 if (a+b) / 2<m then bsL (fun c=>!ltM L ((a+b) / 2+m-1-c) c) ((a+b) / 2-((a+b) / 2+m-b)) ((a+b) / 2+m-b) ((a+b) / 2)
 else bsL (fun c=>!ltM L ((a+b) / 2+m-1-c) c) (m-a) a m
def symM:Nat->List Mb->Nat->Nat->Nat->List Mb
 |0,L,_,_,_=>L
 |f+1,L,a,m,b =>
  if m-a=1 then shU L a (bsL (fun h=>ltM L h a) (b-m) m b-1-a)
  else if b-m=1 then shD L m (m-bsL (fun h=>!ltM L m h) (m-a) a m)
  else mgP (symM f) L a m b (mgS L a m b)
theorem mgP_len {g:List Mb->Nat->Nat->Nat->List Mb}(hg:∀L a m b,(g L a m b).length=L.length)(L:List Mb)(a m b s:Nat):(mgP g L a m b s).length=L.length:=by
 unfold mgP
 dsimp only
 split <;> (try rw[hg]) <;> (split <;> (try rw[hg]) <;> (split <;> simp))
theorem symM_len:∀ (f:Nat)(L:List Mb)(a m b:Nat),(symM f L a m b).length=L.length
 |0,_,_,_,_=>rfl
 |f+1,L,a,m,b=>by
  rw[symM]
  split
  ·simp
  split
  ·simp
  ·exact mgP_len (symM_len f) _ _ _ _ _
set_option maxHeartbeats 4000000 in
theorem sm6 {Q:AExit->St->Prop}{st:St}(f:Nat)
 (ih:∀ (L:List Mb)(a m b:Nat),b-a<=f->a<m->m<b->b<=L.length->L.length<=1000000->ConW Tryz.prog 163 [.row 1024,.p (I a),.p (I m),.p (I b),cmpV] 71 4 (mbs L) (mbs (symM f L a m b)) (.tup []))
 (L:List Mb)(a m b s:Nat)(ham:a+1<m)(hmb:m+1<b)(hb:b<=L.length)(hl:L.length<=1000000)(hf:b-a<=f+1)(hs1:s<=m)(hs2:s<=(a+b) / 2)(hs3:a<=s)(hs4:(a+b) / 2+m<=b+s)
 (hex:∀st,st.s 0=.row 1024->st.b 1024=some (.row 71 4 (mbs (mgP (symM f) L a m b s)))->Q .normal st)
 (g0:st.s 0=.row 1024)(g1:st.s 1=.p (I a))(g2:st.s 2=.p (I m))(g3:st.s 3=.p (I b))(g4:st.s 4=cmpV)(g18:st.s 18=.p (I (((a+b) / 2:Nat):Int)))(g19:st.s 19=.p (I (((a+b) / 2+m:Nat):Int)))(g20:st.s 20=.p (I s))(b0:st.b 1024=some (.row 71 4 (mbs L))) :
 WC Tryz.prog Tryz.T (220+4096) (sfx Tryz.f163 8) Q st:=by
 unfold mgP at hex
 dsimp only at hex
 obtain⟨d,hd⟩:∃d,d=(a+b) / 2:=⟨_,rfl⟩
 have hd1:a+1<d:=by omega
 have hd2:d+1<b:=by omega
 rw[<- hd] at hex g18 g19 hs2 hs4
 clear hd
 obtain⟨n,hn⟩:∃n,n=d+m:=⟨_,rfl⟩
 rw[<- hn] at hex g19 hs4
 obtain⟨e,he⟩:∃e,e=n-s:=⟨_,rfl⟩
 have w1:IntKind.i64.wrap ((n:Int)-s)=(e:Int):=by rw[zF] <;> omega
 rw[<- he] at hex
 have he1:e<=b:=by omega
 have he2:d<=e:=by omega
 unfold sfx
 simp only[Tryz.f163,sfxC]
 have tail:∀ (X Y:List Mb)(st:St),X.length=L.length->Y=(if d<e/\e<b then symM f X d e b else X)->(∀st,st.s 0=.row 1024->st.b 1024=some (.row 71 4 (mbs Y))->Q .normal st)->st.s 0=.row 1024->st.s 3=.p (I b)->st.s 4=cmpV->st.s 18=.p (I d)->st.s 24=.p (I e)->st.b 1024=some (.row 71 4 (mbs X)) →
  WC Tryz.prog Tryz.T (220+4096) (sfx Tryz.f163 11) Q st:=fun X Y st hX hY hex g0 g3 g4 g18 g24 b0=>by
  unfold sfx
  simp only[Tryz.f163,sfxC]
  by_cases q1:d<e
  ·have q1':(d:Int)<e:=by omega
   by_cases q2:e<b
   ·have q2':(e:Int)<b:=by omega
    rw[if_pos ⟨q1,q2⟩] at hY
    have c1:=ih X d e b (by omega) q1 q2 (by omega) (by omega)
    rw[<- hY] at c1
    repeat' first|(refine yR 1024 (c1) (by simp[b0]) (by simp[yS,xA,zD,inN,pos,yZ,yN,b0]) rfl ?_;simp[b0])|((first|refine O _ ?_|refine O _ _ ?_|(clear O;refine O _ ?_));clear O)|(refine zJ fun K O=>?_)|((first|refine zH ?_|refine zN rfl (by kernel_rfl) ?_|refine zM ?_|refine zK (by kernel_rfl) ?_);simp only[vS,vR,strip])|((first|refine wIs fun K O=>?_|refine wOs fun K O=>?_|refine wQs fun K O=>?_|refine zW ?_|refine zX ?_|refine zY ?_|refine zL ?_);simp[g0,g3,g4,g18,g24,b0,q1,q1',q2,q2'])|(refine wIn ?_;refine And.intro (by kernel_rfl) ?_;try simp only[zZ])|refine zR ?_|refine zT ?_|((first|refine zI ?_|refine zO ?_|refine zP ?_);try simp)|((first|refine zS ?_|refine wOn ?_|refine wQn ?_);try simp only[zZ])
    all_goals apply hex
    all_goals simp[g0,b0]
   ·have q2':¬ (e:Int)<b:=by omega
    rw[if_neg (fun h=>q2 h.2)] at hY
    subst hY
    repeat' first|((first|refine O _ ?_|refine O _ _ ?_|(clear O;refine O _ ?_));clear O)|(refine zJ fun K O=>?_)|((first|refine zH ?_|refine zN rfl (by kernel_rfl) ?_|refine zM ?_|refine zK (by kernel_rfl) ?_);simp only[vS,vR,strip])|((first|refine wIs fun K O=>?_|refine wOs fun K O=>?_|refine wQs fun K O=>?_|refine zW ?_|refine zX ?_|refine zY ?_|refine zL ?_);simp[g0,g3,g4,g18,g24,b0,q1,q1',q2,q2'])|(refine wIn ?_;refine And.intro (by kernel_rfl) ?_;try simp only[zZ])|refine zR ?_|refine zT ?_|((first|refine zI ?_|refine zO ?_|refine zP ?_);try simp)|((first|refine zS ?_|refine wOn ?_|refine wQn ?_);try simp only[zZ])
    all_goals apply hex
    all_goals simp[g0,b0]
  ·have q1':¬ (d:Int)<e:=by omega
   rw[if_neg (fun h=>q1 h.1)] at hY
   subst hY
   repeat' first|((first|refine O _ ?_|refine O _ _ ?_|(clear O;refine O _ ?_));clear O)|(refine zJ fun K O=>?_)|((first|refine zH ?_|refine zN rfl (by kernel_rfl) ?_|refine zM ?_|refine zK (by kernel_rfl) ?_);simp only[vS,vR,strip])|((first|refine wIs fun K O=>?_|refine wOs fun K O=>?_|refine wQs fun K O=>?_|refine zW ?_|refine zX ?_|refine zY ?_|refine zL ?_);simp[g0,g3,g4,g18,g24,b0,q1,q1'])|(refine wIn ?_;refine And.intro (by kernel_rfl) ?_;try simp only[zZ])|refine zR ?_|refine zT ?_|((first|refine zI ?_|refine zO ?_|refine zP ?_);try simp)|((first|refine zS ?_|refine wOn ?_|refine wQn ?_);try simp only[zZ])
   all_goals apply hex
   all_goals simp[g0,b0]
 have tail2:∀ (X Y:List Mb)(st:St),X.length=L.length->Y=(if a<s/\s<d then symM f X a s d else X)->(∀st,st.s 0=.row 1024->st.b 1024=some (.row 71 4 (mbs (if d<e/\e<b then symM f Y d e b else Y)))->Q .normal st)->st.s 0=.row 1024->st.s 1=.p (I a)->st.s 3=.p (I b)->st.s 4=cmpV->st.s 18=.p (I d)->st.s 20=.p (I s)->st.s 24=.p (I e)->st.b 1024=some (.row 71 4 (mbs X)) →
  WC Tryz.prog Tryz.T (220+4096) (sfx Tryz.f163 10) Q st:=fun X Y st hX hY hex g0 g1 g3 g4 g18 g20 g24 b0=>by
  have hYl : Y.length = L.length := by rw [hY]; split; · rw [symM_len, hX]
                                       exact hX
  have tl:=fun st h0 h3 h4 h18 h24 hb=>tail Y _ st hYl rfl hex h0 h3 h4 h18 h24 hb
  unfold sfx at tl ⊢
  simp only[Tryz.f163,sfxC] at tl ⊢
  by_cases q1:a<s
  ·have q1':(a:Int)<s:=by omega
   by_cases q2:s<d
   ·have q2':(s:Int)<d:=by omega
    rw[if_pos ⟨q1,q2⟩] at hY
    have c1:=ih X a s d (by omega) q1 q2 (by omega) (by omega)
    rw[<- hY] at c1
    repeat' first|(refine yR 1024 (c1) (by simp[b0]) (by simp[yS,xA,zD,inN,pos,yZ,yN,b0]) rfl ?_;simp[b0])|apply tl|((first|refine O _ ?_|refine O _ _ ?_|(clear O;refine O _ ?_));clear O)|(refine zJ fun K O=>?_)|((first|refine zH ?_|refine zN rfl (by kernel_rfl) ?_|refine zM ?_|refine zK (by kernel_rfl) ?_);simp only[vS,vR,strip])|((first|refine wIs fun K O=>?_|refine wOs fun K O=>?_|refine wQs fun K O=>?_|refine zW ?_|refine zX ?_|refine zY ?_|refine zL ?_);simp[g0,g1,g3,g4,g18,g20,g24,b0,q1,q1',q2,q2'])|(refine wIn ?_;refine And.intro (by kernel_rfl) ?_;try simp only[zZ])|refine zR ?_|refine zT ?_|((first|refine zI ?_|refine zO ?_|refine zP ?_);try simp)|((first|refine zS ?_|refine wOn ?_|refine wQn ?_);try simp only[zZ])
    all_goals simp[g0,g3,g4,g18,g24,b0]
   ·have q2':¬ (s:Int)<d:=by omega
    rw[if_neg (fun h=>q2 h.2)] at hY
    subst hY
    repeat' first|apply tl|(refine O _ ?_;clear O)|(refine O _ _ ?_;clear O)|(clear O;refine O _ ?_;clear O)|(clear O;clear O;refine O _ ?_;clear O)|(clear O;clear O;clear O;refine O _ ?_;clear O)|(clear O;clear O;clear O;clear O;refine O _ ?_;clear O)|(refine zJ fun K O=>?_)|((first|refine zH ?_|refine zN rfl (by kernel_rfl) ?_|refine zM ?_|refine zK (by kernel_rfl) ?_);simp only[vS,vR,strip])|((first|refine wIs fun K O=>?_|refine wOs fun K O=>?_|refine wQs fun K O=>?_|refine zW ?_|refine zX ?_|refine zY ?_|refine zL ?_);simp[g0,g1,g3,g4,g18,g20,g24,b0,q1,q1',q2,q2'])|(refine wIn ?_;refine And.intro (by kernel_rfl) ?_;try simp only[zZ])|(first|refine zR ?_|refine zT ?_)|((first|refine zI ?_|refine zO ?_|refine zP ?_);try simp)|((first|refine zS ?_|refine wOn ?_|refine wQn ?_);try simp only[zZ])
    all_goals simp[g0,g3,g4,g18,g24,b0]
  ·have q1':¬ (a:Int)<s:=by omega
   rw[if_neg (fun h=>q1 h.1)] at hY
   subst hY
   repeat' first|apply tl|(refine O _ ?_;clear O)|(refine O _ _ ?_;clear O)|(clear O;refine O _ ?_;clear O)|(clear O;clear O;refine O _ ?_;clear O)|(clear O;clear O;clear O;refine O _ ?_;clear O)|(clear O;clear O;clear O;clear O;refine O _ ?_;clear O)|(refine zJ fun K O=>?_)|((first|refine zH ?_|refine zN rfl (by kernel_rfl) ?_|refine zM ?_|refine zK (by kernel_rfl) ?_);simp only[vS,vR,strip])|((first|refine wIs fun K O=>?_|refine wOs fun K O=>?_|refine wQs fun K O=>?_|refine zW ?_|refine zX ?_|refine zY ?_|refine zL ?_);simp[g0,g1,g3,g4,g18,g20,g24,b0,q1,q1'])|(refine wIn ?_;refine And.intro (by kernel_rfl) ?_;try simp only[zZ])|(first|refine zR ?_|refine zT ?_)|((first|refine zI ?_|refine zO ?_|refine zP ?_);try simp)|((first|refine zS ?_|refine wOn ?_|refine wQn ?_);try simp only[zZ])
   all_goals simp[g0,g3,g4,g18,g24,b0]
 obtain⟨Y,hY⟩:∃Y,Y=(if s<m/\m<e then rotM m (e-s) L (m-s) (e-m) else L):=⟨_,rfl⟩
 rw[<- hY] at hex
 have hYl:Y.length=L.length:=by rw[hY];split <;> simp
 have tl:=fun st h0 h1 h3 h4 h18 h20 h24 hb=>tail2 Y _ st hYl rfl hex h0 h1 h3 h4 h18 h20 h24 hb
 clear tail tail2
 unfold sfx at tl
 simp only[Tryz.f163,sfxC] at tl
 by_cases q1:s<m
 ·have q1':(s:Int)<m:=by omega
  by_cases q2:m<e
  ·have q2':(m:Int)<e:=by omega
   rw[if_pos ⟨q1,q2⟩] at hY
   have c1:=rotate_con L s m e q1 q2 (by omega) hl
   rw[<- hY] at c1
   repeat' first|(refine yR 1024 (c1) (by simp[b0]) (by simp[yS,xA,zD,inN,pos,yZ,yN,b0]) rfl ?_;simp[b0])|apply tl|((first|refine O _ ?_|refine O _ _ ?_|(clear O;refine O _ ?_));clear O)|(refine zJ fun K O=>?_)|((first|refine zH ?_|refine zN rfl (by kernel_rfl) ?_|refine zM ?_|refine zK (by kernel_rfl) ?_);simp only[vS,vR,strip])|((first|refine wIs fun K O=>?_|refine wOs fun K O=>?_|refine wQs fun K O=>?_|refine zW ?_|refine zX ?_|refine zY ?_|refine zL ?_);simp[g0,g1,g2,g3,g4,g18,g19,g20,b0,w1,q1,q1',q2,q2'])|(refine wIn ?_;refine And.intro (by kernel_rfl) ?_;try simp only[zZ])|refine zR ?_|refine zT ?_|((first|refine zI ?_|refine zO ?_|refine zP ?_);try simp)|((first|refine zS ?_|refine wOn ?_|refine wQn ?_);try simp only[zZ])
   all_goals simp[g0,g1,g3,g4,g18,g20,b0,w1]
  ·have q2':¬ (m:Int)<e:=by omega
   rw[if_neg (fun h=>q2 h.2)] at hY
   subst hY
   repeat' first|apply tl|(refine O _ ?_;clear O)|(refine O _ _ ?_;clear O)|(clear O;refine O _ ?_;clear O)|(clear O;clear O;refine O _ ?_;clear O)|(clear O;clear O;clear O;refine O _ ?_;clear O)|(clear O;clear O;clear O;clear O;refine O _ ?_;clear O)|(refine zJ fun K O=>?_)|((first|refine zH ?_|refine zN rfl (by kernel_rfl) ?_|refine zM ?_|refine zK (by kernel_rfl) ?_);simp only[vS,vR,strip])|((first|refine wIs fun K O=>?_|refine wOs fun K O=>?_|refine wQs fun K O=>?_|refine zW ?_|refine zX ?_|refine zY ?_|refine zL ?_);simp[g0,g1,g2,g3,g4,g18,g19,g20,b0,w1,q1,q1',q2,q2'])|(refine wIn ?_;refine And.intro (by kernel_rfl) ?_;try simp only[zZ])|(first|refine zR ?_|refine zT ?_)|((first|refine zI ?_|refine zO ?_|refine zP ?_);try simp)|((first|refine zS ?_|refine wOn ?_|refine wQn ?_);try simp only[zZ])
   all_goals simp[g0,g1,g3,g4,g18,g20,b0,w1]
 ·have q1':¬ (s:Int)<m:=by omega
  rw[if_neg (fun h=>q1 h.1)] at hY
  subst hY
  repeat' first|apply tl|(refine O _ ?_;clear O)|(refine O _ _ ?_;clear O)|(clear O;refine O _ ?_;clear O)|(clear O;clear O;refine O _ ?_;clear O)|(clear O;clear O;clear O;refine O _ ?_;clear O)|(clear O;clear O;clear O;clear O;refine O _ ?_;clear O)|(refine zJ fun K O=>?_)|((first|refine zH ?_|refine zN rfl (by kernel_rfl) ?_|refine zM ?_|refine zK (by kernel_rfl) ?_);simp only[vS,vR,strip])|((first|refine wIs fun K O=>?_|refine wOs fun K O=>?_|refine wQs fun K O=>?_|refine zW ?_|refine zX ?_|refine zY ?_|refine zL ?_);simp[g0,g1,g2,g3,g4,g18,g19,g20,b0,w1,q1,q1'])|(refine wIn ?_;refine And.intro (by kernel_rfl) ?_;try simp only[zZ])|(first|refine zR ?_|refine zT ?_)|((first|refine zI ?_|refine zO ?_|refine zP ?_);try simp)|((first|refine zS ?_|refine wOn ?_|refine wQn ?_);try simp only[zZ])
  all_goals simp[g0,g1,g3,g4,g18,g20,b0,w1]
set_option maxHeartbeats 4000000 in
theorem symM_con:∀ (f:Nat)(L:List Mb)(a m b:Nat),b-a<=f->a<m->m<b->b<=L.length->L.length<=1000000->ConW Tryz.prog 163 [.row 1024,.p (I a),.p (I m),.p (I b),cmpV] 71 4 (mbs L) (mbs (symM f L a m b)) (.tup []):=by
 intro f
 induction f with
 |zero=>intro L a m b h0 h1 h2;omega
 |succ f ih =>
  intro L a m b hf ham hmb hb hl
  have w1:IntKind.i64.wrap ((m:Int)-a)=((m-a:Nat):Int):=by rw[zF] <;> omega
  have w2:IntKind.i64.wrap ((b:Int)-m)=((b-m:Nat):Int):=by rw[zF] <;> omega
  generalize hR:symM (f+1) L a m b=R
  rw[symM] at hR
  by_cases q1:m-a=1
  ·rw[if_pos q1] at hR
   have q1':((m-a:Nat):Int)=1:=by omega
   obtain⟨k,hk⟩:∃k,k=bsL (fun h=>ltM L h a) (b-m) m b:=⟨_,rfl⟩
   have hkb:=bsL_bd (fun h=>ltM L h a) (b-m) m b (by omega)
   rw[<- hk] at hkb hR
   generalize m-a=u at *
   refine wBodyW Tryz.tab Tryz.mixed Tryz.func163 rfl rfl Tryz.ntmps163 (by simp) (by simp) rfl rfl fun Q hr hn=>?_
   repeat' first|((first|refine O _ ?_|refine O _ _ ?_|(clear O;refine O _ ?_));clear O)|(refine zJ fun K O=>?_)|((first|refine zH ?_|refine zN rfl (by kernel_rfl) ?_|refine zM ?_|refine zK (by kernel_rfl) ?_);simp only[vS,vR,strip])|((first|refine wIs fun K O=>?_|refine wOs fun K O=>?_|refine wQs fun K O=>?_|refine zW ?_|refine zX ?_|refine zY ?_|refine zL ?_);simp[w1,q1,q1'])|(refine wIn ?_;refine And.intro (by kernel_rfl) ?_;try simp only[zZ])|refine zR ?_|refine zT ?_|((first|refine zI ?_|refine zO ?_|refine zP ?_);try simp)|((first|refine zS ?_|refine wOn ?_|refine wQn ?_);try simp only[zZ])
   refine sm1 L a m b k (by omega) (by omega) (by omega) hk (by omega) (fun st g0 g1 g10 b0=>?_) (by simp) (by simp) (by simp) (by simp) (by simp) (by simp)
   repeat' first|((first|refine O _ ?_|refine O _ _ ?_|(clear O;refine O _ ?_));clear O)|(refine zJ fun K O=>?_)|((first|refine zH ?_|refine zN rfl (by kernel_rfl) ?_|refine zM ?_|refine zK (by kernel_rfl) ?_);simp only[vS,vR,strip])|((first|refine wIs fun K O=>?_|refine wOs fun K O=>?_|refine wQs fun K O=>?_|refine zW ?_|refine zX ?_|refine zY ?_|refine zL ?_);simp[g0,g1,g10,b0])|(refine wIn ?_;refine And.intro (by kernel_rfl) ?_;try simp only[zZ])|refine zR ?_|refine zT ?_|((first|refine zI ?_|refine zO ?_|refine zP ?_);try simp)|((first|refine zS ?_|refine wOn ?_|refine wQn ?_);try simp only[zZ])
   refine sm2 L a k (by omega) (by omega) (by omega) (fun st g0 b0=>?_) (by simp[g0]) (by simp[g10]) (by simp[g1]) (by simp[b0])
   rw[hR] at b0
   repeat' first|((first|refine O _ ?_|refine O _ _ ?_|(clear O;refine O _ ?_));clear O)|(refine zJ fun K O=>?_)|((first|refine zH ?_|refine zN rfl (by kernel_rfl) ?_|refine zM ?_|refine zK (by kernel_rfl) ?_);simp only[vS,vR,strip])|((first|refine wIs fun K O=>?_|refine wOs fun K O=>?_|refine wQs fun K O=>?_|refine zW ?_|refine zX ?_|refine zY ?_|refine zL ?_);simp[g0,b0])|(refine wIn ?_;refine And.intro (by kernel_rfl) ?_;try simp only[zZ])|refine zR ?_|refine zT ?_|((first|refine zI ?_|refine zO ?_|refine zP ?_);try simp)|((first|refine zS ?_|refine wOn ?_|refine wQn ?_);try simp only[zZ])
   all_goals first|refine hn _ ⟨[],by simp,by simp,?_⟩ (by simp[g0]) (by simp[b0])|refine hr _ ⟨[],by simp,by simp,?_⟩ (by simp[g0]) (by simp[b0])
   all_goals simp[Tryz.f163,wD,wI,yX,b0]
  rw[if_neg q1] at hR
  have q1':(((m-a:Nat):Int)=1)=False:=eq_false (by omega)
  by_cases q2:b-m=1
  ·rw[if_pos q2] at hR
   have q2':((b-m:Nat):Int)=1:=by omega
   obtain⟨k,hk⟩:∃k,k=bsL (fun h=>!ltM L m h) (m-a) a m:=⟨_,rfl⟩
   have hkb:=bsL_bd (fun h=>!ltM L m h) (m-a) a m (by omega)
   rw[<- hk] at hkb hR
   obtain⟨u,hu⟩:∃u,u=m-a:=⟨_,rfl⟩
   rw[<- hu] at w1 q1 q1'
   obtain⟨v,hv⟩:∃v,v=b-m:=⟨_,rfl⟩
   rw[<- hv] at w2 q2 q2'
   refine wBodyW Tryz.tab Tryz.mixed Tryz.func163 rfl rfl Tryz.ntmps163 (by simp) (by simp) rfl rfl fun Q hr hn=>?_
   repeat' first|((first|refine O _ ?_|refine O _ _ ?_|(clear O;refine O _ ?_));clear O)|(refine zJ fun K O=>?_)|((first|refine zH ?_|refine zN rfl (by kernel_rfl) ?_|refine zM ?_|refine zK (by kernel_rfl) ?_);simp only[vS,vR,strip])|((first|refine wIs fun K O=>?_|refine wOs fun K O=>?_|refine wQs fun K O=>?_|refine zW ?_|refine zX ?_|refine zY ?_|refine zL ?_);simp[w1,q1,q1',w2,q2,q2'])|(refine wIn ?_;refine And.intro (by kernel_rfl) ?_;try simp only[zZ])|refine zR ?_|refine zT ?_|((first|refine zI ?_|refine zO ?_|refine zP ?_);try simp)|((first|refine zS ?_|refine wOn ?_|refine wQn ?_);try simp only[zZ])
   refine sm3 L a m k (by omega) (by omega) (by omega) hk (fun st g0 g2 g14 b0=>?_) (by simp) (by simp) (by simp) (by simp) (by simp) (by simp)
   repeat' first|((first|refine O _ ?_|refine O _ _ ?_|(clear O;refine O _ ?_));clear O)|(refine zJ fun K O=>?_)|((first|refine zH ?_|refine zN rfl (by kernel_rfl) ?_|refine zM ?_|refine zK (by kernel_rfl) ?_);simp only[vS,vR,strip])|((first|refine wIs fun K O=>?_|refine wOs fun K O=>?_|refine wQs fun K O=>?_|refine zW ?_|refine zX ?_|refine zY ?_|refine zL ?_);simp[g0,g2,g14,b0])|(refine wIn ?_;refine And.intro (by kernel_rfl) ?_;try simp only[zZ])|refine zR ?_|refine zT ?_|((first|refine zI ?_|refine zO ?_|refine zP ?_);try simp)|((first|refine zS ?_|refine wOn ?_|refine wQn ?_);try simp only[zZ])
   refine sm4 L m k (by omega) (by omega) (by omega) (fun st g0 b0=>?_) (by simp[g0]) (by simp[g14]) (by simp[g2]) (by simp[b0])
   rw[hR] at b0
   repeat' first|((first|refine O _ ?_|refine O _ _ ?_|(clear O;refine O _ ?_));clear O)|(refine zJ fun K O=>?_)|((first|refine zH ?_|refine zN rfl (by kernel_rfl) ?_|refine zM ?_|refine zK (by kernel_rfl) ?_);simp only[vS,vR,strip])|((first|refine wIs fun K O=>?_|refine wOs fun K O=>?_|refine wQs fun K O=>?_|refine zW ?_|refine zX ?_|refine zY ?_|refine zL ?_);simp[g0,b0])|(refine wIn ?_;refine And.intro (by kernel_rfl) ?_;try simp only[zZ])|refine zR ?_|refine zT ?_|((first|refine zI ?_|refine zO ?_|refine zP ?_);try simp)|((first|refine zS ?_|refine wOn ?_|refine wQn ?_);try simp only[zZ])
   all_goals first|refine hn _ ⟨[],by simp,by simp,?_⟩ (by simp[g0]) (by simp[b0])|refine hr _ ⟨[],by simp,by simp,?_⟩ (by simp[g0]) (by simp[b0])
   all_goals simp[Tryz.f163,wD,wI,yX,b0]
  rw[if_neg q2] at hR
  have q2':(((b-m:Nat):Int)=1)=False:=eq_false (by omega)
  have w3:IntKind.i64.wrap ((a:Int)+b)=((a+b:Nat):Int):=by rw[zF] <;> omega
  have w4:=half_w (a+b) (by omega)
  have hd1:a+1<(a+b) / 2:=by omega
  have hd2:(a+b) / 2+1<b:=by omega
  have w5:IntKind.i64.wrap ((((a+b) / 2:Nat):Int)+m)=(((a+b) / 2+m:Nat):Int):=by rw[zF] <;> omega
  have w6:IntKind.i64.wrap ((((a+b) / 2+m:Nat):Int)-1)=(((a+b) / 2+m-1:Nat):Int):=by rw[zF] <;> omega
  have w7:(a+b) / 2<m->IntKind.i64.wrap ((((a+b) / 2+m:Nat):Int)-b)=(((a+b) / 2+m-b:Nat):Int):=fun h=>by rw[zF] <;> omega
  have s6:=fun Q st s h1 h2 h3 h4 he=>sm6 (Q:=Q) (st:=st) f ih L a m b s (by omega) (by omega) hb hl (by omega) h1 h2 h3 h4 he
  unfold mgS at hR
  obtain⟨u,hu⟩:∃u,u=m-a:=⟨_,rfl⟩
  rw[<- hu] at w1 q1 q1'
  obtain⟨v,hv⟩:∃v,v=b-m:=⟨_,rfl⟩
  rw[<- hv] at w2 q2 q2'
  by_cases q3:(a+b) / 2<m
  ·have w7:=w7 q3
   rw[if_pos q3] at hR
   obtain⟨d,hd⟩:∃d,d=(a+b) / 2:=⟨_,rfl⟩
   rw[<- hd] at hR w4 w5 w6 w7 s6 hd1 hd2 q3
   have q3':(d:Int)<m:=by omega
   obtain⟨n,hn0⟩:∃n,n=d+m:=⟨_,rfl⟩
   rw[<- hn0] at hR w5 w6 w7 s6
   obtain⟨ab,hab⟩:∃ab,ab=a+b:=⟨_,rfl⟩
   rw[<- hab] at w3 w4 hd
   obtain⟨p,hp⟩:∃p,p=n-1:=⟨_,rfl⟩
   rw[<- hp] at w6 hR
   obtain⟨s0,hs0⟩:∃s0,s0=n-b:=⟨_,rfl⟩
   rw[<- hs0] at w7 hR
   obtain⟨k,hk⟩:∃k,k=bsL (fun c=>!ltM L (p-c) c) (d-s0) s0 d:=⟨_,rfl⟩
   have hkb:=bsL_bd (fun c=>!ltM L (p-c) c) (d-s0) s0 d (by omega)
   rw[<- hk] at hkb hR
   refine wBodyW Tryz.tab Tryz.mixed Tryz.func163 rfl rfl Tryz.ntmps163 (by simp) (by simp) rfl rfl fun Q hr hn=>?_
   have s6:=s6 Q
   unfold sfx at s6
   simp only[Tryz.f163,sfxC] at s6
   repeat' first|((first|refine O _ ?_|refine O _ _ ?_|(clear O;refine O _ ?_));clear O)|(refine zJ fun K O=>?_)|((first|refine zH ?_|refine zN rfl (by kernel_rfl) ?_|refine zM ?_|refine zK (by kernel_rfl) ?_);simp only[vS,vR,strip])|((first|refine wIs fun K O=>?_|refine wOs fun K O=>?_|refine wQs fun K O=>?_|refine zW ?_|refine zX ?_|refine zY ?_|refine zL ?_);simp[w1,q1,q1',w2,q2,q2',w3,w4,w5,w6,w7,q3,q3'])|(refine wIn ?_;refine And.intro (by kernel_rfl) ?_;try simp only[zZ])|refine zR ?_|refine zT ?_|((first|refine zI ?_|refine zO ?_|refine zP ?_);try simp)|((first|refine zS ?_|refine wOn ?_|refine wQn ?_);try simp only[zZ])
   refine sm5 L s0 d p k a m b d n (by omega) (by omega) (by omega) (by omega) (by omega) (by omega) (by first|exact hk|(rw[<- hu];exact hk)) (fun st g0 g1 g2 g3 g4 g18 g19 g20 b0=>?_) (by simp) (by simp) (by simp) (by simp) (by simp) (by simp) (by simp) (by simp) (by simp) (by simp) (by simp)
   have s6:=fun st=>s6 st k (by omega) (by omega) (by omega) (by omega) (fun st g0 b0=>by
    rw[hR] at b0
    refine hn _ ⟨[],by simp,by simp,?_⟩ (by simp[g0]) (by simp[b0])
    simp[Tryz.f163,wD,wI,yX,b0])
   repeat' first|apply s6|(refine O _ ?_;clear O)|(refine O _ _ ?_;clear O)|(clear O;refine O _ ?_;clear O)|(clear O;clear O;refine O _ ?_;clear O)|(clear O;clear O;clear O;refine O _ ?_;clear O)|(clear O;clear O;clear O;clear O;refine O _ ?_;clear O)|(refine zJ fun K O=>?_)|((first|refine zH ?_|refine zN rfl (by kernel_rfl) ?_|refine zM ?_|refine zK (by kernel_rfl) ?_);simp only[vS,vR,strip])|((first|refine wIs fun K O=>?_|refine wOs fun K O=>?_|refine wQs fun K O=>?_|refine zW ?_|refine zX ?_|refine zY ?_|refine zL ?_);simp[g0,g1,g2,g3,g4,g18,g19,g20,b0])|(refine wIn ?_;refine And.intro (by kernel_rfl) ?_;try simp only[zZ])|(first|refine zR ?_|refine zT ?_)|((first|refine zI ?_|refine zO ?_|refine zP ?_);try simp)|((first|refine zS ?_|refine wOn ?_|refine wQn ?_);try simp only[zZ])
   all_goals simp[g0,g1,g2,g3,g4,g18,g19,g20,b0]
  ·clear w7
   rw[if_neg q3] at hR
   obtain⟨d,hd⟩:∃d,d=(a+b) / 2:=⟨_,rfl⟩
   rw[<- hd] at hR w4 w5 w6 s6 hd1 hd2 q3
   have q3':¬ (d:Int)<m:=by omega
   obtain⟨n,hn0⟩:∃n,n=d+m:=⟨_,rfl⟩
   rw[<- hn0] at hR w5 w6 s6
   obtain⟨ab,hab⟩:∃ab,ab=a+b:=⟨_,rfl⟩
   rw[<- hab] at w3 w4 hd
   obtain⟨p,hp⟩:∃p,p=n-1:=⟨_,rfl⟩
   rw[<- hp] at w6 hR
   obtain⟨k,hk⟩:∃k,k=bsL (fun c=>!ltM L (p-c) c) (m-a) a m:=⟨_,rfl⟩
   have hkb:=bsL_bd (fun c=>!ltM L (p-c) c) (m-a) a m (by omega)
   rw[<- hu] at hk hkb hR
   rw[<- hk] at hkb hR
   refine wBodyW Tryz.tab Tryz.mixed Tryz.func163 rfl rfl Tryz.ntmps163 (by simp) (by simp) rfl rfl fun Q hr hn=>?_
   have s6:=s6 Q
   unfold sfx at s6
   simp only[Tryz.f163,sfxC] at s6
   repeat' first|((first|refine O _ ?_|refine O _ _ ?_|(clear O;refine O _ ?_));clear O)|(refine zJ fun K O=>?_)|((first|refine zH ?_|refine zN rfl (by kernel_rfl) ?_|refine zM ?_|refine zK (by kernel_rfl) ?_);simp only[vS,vR,strip])|((first|refine wIs fun K O=>?_|refine wOs fun K O=>?_|refine wQs fun K O=>?_|refine zW ?_|refine zX ?_|refine zY ?_|refine zL ?_);simp[w1,q1,q1',w2,q2,q2',w3,w4,w5,w6,q3,q3'])|(refine wIn ?_;refine And.intro (by kernel_rfl) ?_;try simp only[zZ])|refine zR ?_|refine zT ?_|((first|refine zI ?_|refine zO ?_|refine zP ?_);try simp)|((first|refine zS ?_|refine wOn ?_|refine wQn ?_);try simp only[zZ])
   refine sm5 L a m p k a m b d n (by omega) (by omega) (by omega) (by omega) (by omega) (by omega) (by first|exact hk|(rw[<- hu];exact hk)) (fun st g0 g1 g2 g3 g4 g18 g19 g20 b0=>?_) (by simp) (by simp) (by simp) (by simp) (by simp) (by simp) (by simp) (by simp) (by simp) (by simp) (by simp)
   have s6:=fun st=>s6 st k (by omega) (by omega) (by omega) (by omega) (fun st g0 b0=>by
    rw[hR] at b0
    refine hn _ ⟨[],by simp,by simp,?_⟩ (by simp[g0]) (by simp[b0])
    simp[Tryz.f163,wD,wI,yX,b0])
   repeat' first|apply s6|(refine O _ ?_;clear O)|(refine O _ _ ?_;clear O)|(clear O;refine O _ ?_;clear O)|(clear O;clear O;refine O _ ?_;clear O)|(clear O;clear O;clear O;refine O _ ?_;clear O)|(clear O;clear O;clear O;clear O;refine O _ ?_;clear O)|(refine zJ fun K O=>?_)|((first|refine zH ?_|refine zN rfl (by kernel_rfl) ?_|refine zM ?_|refine zK (by kernel_rfl) ?_);simp only[vS,vR,strip])|((first|refine wIs fun K O=>?_|refine wOs fun K O=>?_|refine wQs fun K O=>?_|refine zW ?_|refine zX ?_|refine zY ?_|refine zL ?_);simp[g0,g1,g2,g3,g4,g18,g19,g20,b0])|(refine wIn ?_;refine And.intro (by kernel_rfl) ?_;try simp only[zZ])|(first|refine zR ?_|refine zT ?_)|((first|refine zI ?_|refine zO ?_|refine zP ?_);try simp)|((first|refine zS ?_|refine wOn ?_|refine wQn ?_);try simp only[zZ])
   all_goals simp[g0,g1,g2,g3,g4,g18,g19,g20,b0]
def isrt (L:List Mb)(a b:Nat):List Mb:=L.take a++(xX ((L.drop a).take (b-a))++L.drop b)
theorem isrt_len {L:List Mb}{a b:Nat}(h:a<=b)(h2:b<=L.length):(isrt L a b).length=L.length:=by
 unfold isrt
 simp only[List.length_append,wK,List.length_take,List.length_drop]
 omega
theorem isrt_con (L:List Mb)(a b:Nat)(hab:a<=b)(hb:b<=L.length)(hl:L.length<=1000000) :
 ConW Tryz.prog 162 [.row 1024,.p (I a),.p (I b),cmpV] 71 4 (mbs L) (mbs (isrt L a b)) (.tup []):=by
 refine isort_con L (L.drop b) a b (L.take a) ((L.drop a).take (b-a)) ?_ ?_ ?_ hl
 ·have:L.drop b=(L.drop a).drop (b-a):=by rw[List.drop_drop];congr 1;omega
  rw[this,List.take_append_drop,List.take_append_drop]
 ·rw[List.length_take];omega
 ·simp only[List.length_take,List.length_drop];omega
def blkM (n:Nat):Nat->List Mb->Nat->List Mb × Nat
 |0,L,a=>(L,a)
 |f+1,L,a=>if a+20<=n then blkM n f (isrt L a (a+20)) (a+20) else (L,a)
theorem blkM_end (n:Nat):∀ (f:Nat)(L:List Mb)(a:Nat),¬ a+20<=n->blkM n f L a=(L,a)
 |0,_,_,_=>rfl
 |f+1,L,a,h=>by rw[blkM,if_neg h]
def mrgM (n bs:Nat):Nat->List Mb->Nat->List Mb × Nat
 |0,L,a=>(L,a)
 |f+1,L,a=>if a+2 * bs<=n then mrgM n bs f (symM n L a (a+bs) (a+2 * bs)) (a+2 * bs) else (L,a)
theorem mrgM_end (n bs:Nat):∀ (f:Nat)(L:List Mb)(a:Nat),¬ a+2 * bs<=n->mrgM n bs f L a=(L,a)
 |0,_,_,_=>rfl
 |f+1,L,a,h=>by rw[mrgM,if_neg h]
theorem mrgM_spec (n bs:Nat):∀ (f:Nat)(L:List Mb)(a:Nat),a<=n->(mrgM n bs f L a).1.length=L.length/\(mrgM n bs f L a).2<=n
 |0,_,_,h=>⟨rfl,h⟩
 |f+1,L,a,h=>by
  rw[mrgM]
  split
  ·have:=mrgM_spec n bs f (symM n L a (a+bs) (a+2 * bs)) (a+2 * bs) (by omega)
   rw[symM_len] at this
   exact this
  ·exact⟨rfl,h⟩
theorem blkM_spec (n:Nat):∀ (f:Nat)(L:List Mb)(a:Nat),a<=n->n<=L.length->(blkM n f L a).1.length=L.length/\(blkM n f L a).2<=n
 |0,_,_,h,_=>⟨rfl,h⟩
 |f+1,L,a,h,h2=>by
  rw[blkM]
  split
  ·have hi:=isrt_len (L:=L) (a:=a) (b:=a+20) (by omega) (by omega)
   have:=blkM_spec n f (isrt L a (a+20)) (a+20) (by omega) (by omega)
   rw[hi] at this
   exact this
  ·exact⟨rfl,h⟩
def rndM (n bs:Nat)(L:List Mb):List Mb:=if (mrgM n bs n L 0).2+bs<n then symM n (mrgM n bs n L 0).1 (mrgM n bs n L 0).2 ((mrgM n bs n L 0).2+bs) n else (mrgM n bs n L 0).1
theorem rndM_len (n bs:Nat)(L:List Mb):(rndM n bs L).length=L.length:=by
 have:=(mrgM_spec n bs n L 0 (by omega)).1
 unfold rndM
 split
 ·rw[symM_len,this]
 ·exact this
def stbM (n:Nat):Nat->Nat->List Mb->List Mb
 |0,_,L=>L
 |f+1,bs,L=>if bs<n then stbM n f (bs * 2) (rndM n bs L) else L
theorem stbM_end (n:Nat):∀ (f bs:Nat)(L:List Mb),¬ bs<n->stbM n f bs L=L
 |0,_,_,_=>rfl
 |f+1,bs,L,h=>by rw[stbM,if_neg h]
theorem stbM_len (n:Nat):∀ (f bs:Nat)(L:List Mb),(stbM n f bs L).length=L.length
 |0,_,_=>rfl
 |f+1,bs,L=>by
  rw[stbM]
  split
  ·rw[stbM_len n f,rndM_len]
  ·rfl
def stab (l:List Mb):List Mb:=stbM l.length l.length 20 (isrt (blkM l.length l.length l 0).1 (blkM l.length l.length l 0).2 l.length)
theorem stab_len (l:List Mb):(stab l).length=l.length:=by
 have:=blkM_spec l.length l.length l 0 (by omega) (by omega)
 rw[stab,stbM_len,isrt_len this.2 (by omega),this.1]
set_option maxHeartbeats 4000000 in
theorem stab_con (l:List Mb)(hl:l.length<=1000000):ConW Tryz.prog 153 [.row 1024,.p (I l.length),cmpV] 71 4 (mbs l) (mbs (stab l)) (.tup []):=by
 generalize hR:stab l=R
 unfold stab at hR
 obtain⟨n,hn0⟩:∃n,n=l.length:=⟨_,rfl⟩
 have hsp:=blkM_spec n n l 0 (by omega) (by omega)
 rw[<- hn0] at hR hl hsp ⊢
 obtain⟨B,hB⟩:∃B,B=blkM n n l 0:=⟨_,rfl⟩
 rw[<- hB] at hR hsp
 have ci:=isrt_con B.1 B.2 n hsp.2 (by omega) (by omega)
 have hil:=isrt_len hsp.2 (show n<=B.1.length by omega)
 generalize isrt B.1 B.2 n=Z at *
 refine wBodyW Tryz.tab Tryz.mixed Tryz.func153 rfl rfl Tryz.ntmps153 (by simp) (by simp) rfl rfl fun Q hr hn=>?_
 repeat' first|((first|refine O _ ?_|refine O _ _ ?_|(clear O;refine O _ ?_));clear O)|(refine zJ fun K O=>?_)|((first|refine zH ?_|refine zN rfl (by kernel_rfl) ?_|refine zM ?_|refine zK (by kernel_rfl) ?_);simp only[vS,vR,strip])|((first|refine wIs fun K O=>?_|refine wOs fun K O=>?_|refine wQs fun K O=>?_|refine zW ?_|refine zX ?_|refine zY ?_|refine zL ?_);simp)|(refine wIn ?_;refine And.intro (by kernel_rfl) ?_;try simp only[zZ])|refine zR ?_|refine zT ?_|((first|refine zI ?_|refine zO ?_|refine zP ?_);try simp)|((first|refine zS ?_|refine wOn ?_|refine wQn ?_);try simp only[zZ])
 refine zC (fun N st=>∃ (X:List Mb)(a b:Nat),(n<=a+N/\a<=n/\b=a+20/\X.length=n/\blkM n N X a=B)/\st.s 0=.row 1024/\st.s 1=.p (I n)/\st.s 2=cmpV/\st.s 6=.p (I 20)/\st.s 7=.p (I a)/\st.s 8=.p (I b)/\st.b 1024=some (.row 71 4 (mbs X))) n ⟨l,0,20,⟨by omega,by omega,rfl,hn0.symm,hB.symm⟩,by simp⟩ fun K N st hL ⟨X,a,b,⟨q1,q2,q3,q4,q5⟩,g0,g1,g2,g6,g7,g8,b0⟩=>?_
 by_cases hlt:a+20<=n
 ·obtain⟨f,rfl⟩:∃f,N=f+1:=⟨N-1,by omega⟩
  rw[blkM,if_pos hlt,<- q3] at q5
  have hlt':(b:Int)<=n:=by omega
  have w1:IntKind.i64.wrap ((b:Int)+20)=((b+20:Nat):Int):=by rw[zF] <;> omega
  have c1:=isrt_con X a b (by omega) (by omega) (by omega)
  have hXl:=isrt_len (L:=X) (a:=a) (b:=b) (by omega) (by omega)
  generalize isrt X a b=Y at c1 q5 hXl
  repeat' first|(refine yR 1024 (c1) (by simp[b0]) (by simp[yS,xA,zD,inN,pos,yZ,yN,b0]) rfl ?_;simp[b0])|((first|refine O _ ?_|refine O _ _ ?_|(clear O;refine O _ ?_));clear O)|(refine zJ fun K O=>?_)|((first|refine zH ?_|refine zN rfl (by kernel_rfl) ?_|refine zM ?_|refine zK (by kernel_rfl) ?_);simp only[vS,vR,strip])|((first|refine wIs fun K O=>?_|refine wOs fun K O=>?_|refine wQs fun K O=>?_|refine zW ?_|refine zX ?_|refine zY ?_|refine zL ?_);simp[g0,g1,g2,g6,g7,g8,b0,hlt',w1])|(refine wIn ?_;refine And.intro (by kernel_rfl) ?_;try simp only[zZ])|refine zR ?_|refine zT ?_|((first|refine zI ?_|refine zO ?_|refine zP ?_);try simp)|((first|refine zS ?_|refine wOn ?_|refine wQn ?_);try simp only[zZ])
  refine hL _ f (by omega) ⟨Y,b,b+20,⟨by omega,by omega,rfl,by omega,q5⟩,?_⟩
  simp[g0,g1,g2,g6,g7,g8,b0,w1]
 rw[blkM_end _ _ _ _ hlt] at q5
 have hlt':¬ (b:Int)<=n:=by omega
 rw[<- q5] at ci
 repeat' first|(refine yR 1024 (ci) (by simp[b0]) (by simp[yS,xA,zD,inN,pos,yZ,yN,b0]) rfl ?_;simp[b0])|((first|refine O _ ?_|refine O _ _ ?_|(clear O;refine O _ ?_));clear O)|(refine zJ fun K O=>?_)|((first|refine zH ?_|refine zN rfl (by kernel_rfl) ?_|refine zM ?_|refine zK (by kernel_rfl) ?_);simp only[vS,vR,strip])|((first|refine wIs fun K O=>?_|refine wOs fun K O=>?_|refine wQs fun K O=>?_|refine zW ?_|refine zX ?_|refine zY ?_|refine zL ?_);simp[g0,g1,g2,g6,g7,g8,b0,hlt'])|(refine wIn ?_;refine And.intro (by kernel_rfl) ?_;try simp only[zZ])|refine zR ?_|refine zT ?_|((first|refine zI ?_|refine zO ?_|refine zP ?_);try simp)|((first|refine zS ?_|refine wOn ?_|refine wQn ?_);try simp only[zZ])
 refine zC (fun N st=>∃ (X:List Mb)(bs:Nat),(n<=bs+N/\0<bs/\bs<=2000000/\X.length=n/\stbM n N bs X=R)/\st.s 0=.row 1024/\st.s 1=.p (I n)/\st.s 2=cmpV/\st.s 6=.p (I bs)/\st.b 1024=some (.row 71 4 (mbs X))) n ⟨Z,20,⟨by omega,by omega,by omega,by omega,hR⟩,by simp[g0,g1,g2,g6,b0]⟩ fun K2 N2 st hL2 ⟨X,bs,⟨r1,r2,r3,r4,r5⟩,g0,g1,g2,g6,b0⟩=>?_
 by_cases hbs:bs<n
 ·obtain⟨f,rfl⟩:∃f,N2=f+1:=⟨N2-1,by omega⟩
  rw[stbM,if_pos hbs] at r5
  have hbs':(bs:Int)<n:=by omega
  have w1:IntKind.i64.wrap (2 * (bs:Int))=((2 * bs:Nat):Int):=by rw[zF] <;> omega
  have w2:IntKind.i64.wrap ((bs:Int) * 2)=((bs * 2:Nat):Int):=by rw[zF] <;> omega
  have hrl:=rndM_len n bs X
  unfold rndM at hrl r5
  have hms:=mrgM_spec n bs n X 0 (by omega)
  obtain⟨C,hC⟩:∃C,C=mrgM n bs n X 0:=⟨_,rfl⟩
  rw[<- hC] at hms hrl r5
  obtain⟨b2,hb2⟩:∃b2,b2=2 * bs:=⟨_,rfl⟩
  rw[<- hb2] at w1
  obtain⟨b3,hb3⟩:∃b3,b3=bs * 2:=⟨_,rfl⟩
  rw[<- hb3] at w2 r5
  repeat' first|((first|refine O _ ?_|refine O _ _ ?_|(clear O;refine O _ ?_));clear O)|(refine zJ fun K O=>?_)|((first|refine zH ?_|refine zN rfl (by kernel_rfl) ?_|refine zM ?_|refine zK (by kernel_rfl) ?_);simp only[vS,vR,strip])|((first|refine wIs fun K O=>?_|refine wOs fun K O=>?_|refine wQs fun K O=>?_|refine zW ?_|refine zX ?_|refine zY ?_|refine zL ?_);simp[g0,g1,g2,g6,b0,hbs',w1])|(refine wIn ?_;refine And.intro (by kernel_rfl) ?_;try simp only[zZ])|refine zR ?_|refine zT ?_|((first|refine zI ?_|refine zO ?_|refine zP ?_);try simp)|((first|refine zS ?_|refine wOn ?_|refine wQn ?_);try simp only[zZ])
  refine zC (fun N st=>∃ (Y:List Mb)(a b:Nat),(n<=a+N/\a<=n/\b=a+2 * bs/\Y.length=n/\mrgM n bs N Y a=C)/\st.s 0=.row 1024/\st.s 1=.p (I n)/\st.s 2=cmpV/\st.s 6=.p (I bs)/\st.s 7=.p (I a)/\st.s 8=.p (I b)/\st.b 1024=some (.row 71 4 (mbs Y))) n ⟨X,0,b2,⟨by omega,by omega,by omega,r4,hC.symm⟩,by simp[g0,g1,g2,g6,b0,w1]⟩ fun K3 N3 st hL3 ⟨Y,a,b,⟨q1,q2,q3,q4,q5⟩,g0,g1,g2,g6,g7,g8,b0⟩=>?_
  have w3:IntKind.i64.wrap ((a:Int)+bs)=((a+bs:Nat):Int):=by rw[zF] <;> omega
  by_cases hlt:a+2 * bs<=n
  ·obtain⟨f3,rfl⟩:∃f,N3=f+1:=⟨N3-1,by omega⟩
   rw[mrgM,if_pos hlt,<- q3] at q5
   have hlt':(b:Int)<=n:=by omega
   have w4:IntKind.i64.wrap ((b:Int)+b2)=((b+b2:Nat):Int):=by rw[zF] <;> omega
   have c1:=symM_con n Y a (a+bs) b (by omega) (by omega) (by omega) (by omega) (by omega)
   have hYl:=symM_len n Y a (a+bs) b
   generalize symM n Y a (a+bs) b=W at c1 q5 hYl
   obtain⟨m,hm⟩:∃m,m=a+bs:=⟨_,rfl⟩
   rw[<- hm] at c1 w3
   repeat' first|(refine yR 1024 (c1) (by simp[b0]) (by simp[yS,xA,zD,inN,pos,yZ,yN,b0]) rfl ?_;simp[b0])|((first|refine O _ ?_|refine O _ _ ?_|(clear O;refine O _ ?_));clear O)|(refine zJ fun K O=>?_)|((first|refine zH ?_|refine zN rfl (by kernel_rfl) ?_|refine zM ?_|refine zK (by kernel_rfl) ?_);simp only[vS,vR,strip])|((first|refine wIs fun K O=>?_|refine wOs fun K O=>?_|refine wQs fun K O=>?_|refine zW ?_|refine zX ?_|refine zY ?_|refine zL ?_);simp[g0,g1,g2,g6,g7,g8,b0,hlt',w1,w3,w4])|(refine wIn ?_;refine And.intro (by kernel_rfl) ?_;try simp only[zZ])|refine zR ?_|refine zT ?_|((first|refine zI ?_|refine zO ?_|refine zP ?_);try simp)|((first|refine zS ?_|refine wOn ?_|refine wQn ?_);try simp only[zZ])
   refine hL3 _ f3 (by omega) ⟨W,b,b+b2,⟨by omega,by omega,by omega,by omega,q5⟩,?_⟩
   simp[g0,g1,g2,g6,g7,g8,b0,w1,w4]
  rw[mrgM_end _ _ _ _ _ hlt] at q5
  have hlt':¬ (b:Int)<=n:=by omega
  subst q5
  dsimp only at r5 hrl hms
  by_cases hm:a+bs<n
  ·rw[if_pos hm] at r5 hrl
   have c1:=symM_con n Y a (a+bs) n (by omega) (by omega) hm (by omega) (by omega)
   generalize symM n Y a (a+bs) n=W at c1 r5 hrl
   obtain⟨m,hm0⟩:∃m,m=a+bs:=⟨_,rfl⟩
   rw[<- hm0] at c1 w3 hm
   have hm':(m:Int)<n:=by omega
   repeat' first|(refine yR 1024 (c1) (by simp[b0]) (by simp[yS,xA,zD,inN,pos,yZ,yN,b0]) rfl ?_;simp[b0])|((first|refine O _ ?_|refine O _ _ ?_|(clear O;refine O _ ?_));clear O)|(refine zJ fun K O=>?_)|((first|refine zH ?_|refine zN rfl (by kernel_rfl) ?_|refine zM ?_|refine zK (by kernel_rfl) ?_);simp only[vS,vR,strip])|((first|refine wIs fun K O=>?_|refine wOs fun K O=>?_|refine wQs fun K O=>?_|refine zW ?_|refine zX ?_|refine zY ?_|refine zL ?_);simp[g0,g1,g2,g6,g7,g8,b0,hlt',w2,w3,hm'])|(refine wIn ?_;refine And.intro (by kernel_rfl) ?_;try simp only[zZ])|refine zR ?_|refine zT ?_|((first|refine zI ?_|refine zO ?_|refine zP ?_);try simp)|((first|refine zS ?_|refine wOn ?_|refine wQn ?_);try simp only[zZ])
   refine hL2 _ f (by omega) ⟨W,b3,⟨by omega,by omega,by omega,by omega,r5⟩,?_⟩
   simp[g0,g1,g2,g6,g7,g8,b0,w2]
  ·rw[if_neg hm] at r5 hrl
   obtain⟨m,hm0⟩:∃m,m=a+bs:=⟨_,rfl⟩
   rw[<- hm0] at w3 hm
   have hm':¬ (m:Int)<n:=by omega
   repeat' first|((first|refine O _ ?_|refine O _ _ ?_|(clear O;refine O _ ?_));clear O)|(refine zJ fun K O=>?_)|((first|refine zH ?_|refine zN rfl (by kernel_rfl) ?_|refine zM ?_|refine zK (by kernel_rfl) ?_);simp only[vS,vR,strip])|((first|refine wIs fun K O=>?_|refine wOs fun K O=>?_|refine wQs fun K O=>?_|refine zW ?_|refine zX ?_|refine zY ?_|refine zL ?_);simp[g0,g1,g2,g6,g7,g8,b0,hlt',w2,w3,hm'])|(refine wIn ?_;refine And.intro (by kernel_rfl) ?_;try simp only[zZ])|refine zR ?_|refine zT ?_|((first|refine zI ?_|refine zO ?_|refine zP ?_);try simp)|((first|refine zS ?_|refine wOn ?_|refine wQn ?_);try simp only[zZ])
   refine hL2 _ f (by omega) ⟨Y,b3,⟨by omega,by omega,by omega,by omega,r5⟩,?_⟩
   simp[g0,g1,g2,g6,g7,g8,b0,w2]
 ·rw[stbM_end _ _ _ _ hbs] at r5
  have hbs':¬ (bs:Int)<n:=by omega
  subst r5
  repeat' first|((first|refine O _ ?_|refine O _ _ ?_|(clear O;refine O _ ?_));clear O)|(refine zJ fun K O=>?_)|((first|refine zH ?_|refine zN rfl (by kernel_rfl) ?_|refine zM ?_|refine zK (by kernel_rfl) ?_);simp only[vS,vR,strip])|((first|refine wIs fun K O=>?_|refine wOs fun K O=>?_|refine wQs fun K O=>?_|refine zW ?_|refine zX ?_|refine zY ?_|refine zL ?_);simp[g0,g1,g2,g6,b0,hbs'])|(refine wIn ?_;refine And.intro (by kernel_rfl) ?_;try simp only[zZ])|refine zR ?_|refine zT ?_|((first|refine zI ?_|refine zO ?_|refine zP ?_);try simp)|((first|refine zS ?_|refine wOn ?_|refine wQn ?_);try simp only[zZ])
  refine hn _ ⟨[],by simp,by simp,?_⟩ (by simp[g0]) (by simp[b0])
  simp[Tryz.f153,wD,wI,yX,b0]
theorem sortSW_con (l:List Mb)(hl:l.length<=1000000):ConW Tryz.prog 137 [.row 1024,cmpV] 71 4 (mbs l) (mbs (stab l)) (.tup []):=by
 have c1:=stab_con l hl
 generalize stab l=R at c1
 refine wBodyW Tryz.tab Tryz.mixed Tryz.func137 rfl rfl Tryz.ntmps137 (by simp) (by simp) rfl rfl fun Q hr hn=>?_
 repeat' first|(refine yR 1024 (c1) (by simp[List.length_map]) (by simp[yS,xA,zD,inN,pos,yZ,yN,List.length_map]) rfl ?_;simp[List.length_map])|((first|refine O _ ?_|refine O _ _ ?_|(clear O;refine O _ ?_));clear O)|(refine zJ fun K O=>?_)|((first|refine zH ?_|refine zN rfl (by kernel_rfl) ?_|refine zM ?_|refine zK (by kernel_rfl) ?_);simp only[vS,vR,strip])|((first|refine wIs fun K O=>?_|refine wOs fun K O=>?_|refine wQs fun K O=>?_|refine zW ?_|refine zX ?_|refine zY ?_|refine zL ?_);simp)|(refine wIn ?_;refine And.intro (by kernel_rfl) ?_;try simp only[zZ])|refine zR ?_|refine zT ?_|((first|refine zI ?_|refine zO ?_|refine zP ?_);try simp)|((first|refine zS ?_|refine wOn ?_|refine wQn ?_);try simp only[zZ])
 refine hn _ ⟨[],by simp,by simp,?_⟩ (by simp) (by simp)
 simp[Tryz.f137,wD,wI,yX]
def stS (l:List Mb):List Mb:=if l.length<=20 then xX l else stab l
theorem stS_len (l:List Mb):(stS l).length=l.length:=by
 unfold stS
 split
 ·exact wK l
 ·exact stab_len l
theorem sortW_con (l:List Mb)(hl:l.length<=1000000):Con Tryz.prog 125 [.p (.sl 4 (mbs l))] [] (.ret (.row 2048) [.row 71 4 (mbs (stS l))] []):=by
 unfold stS
 split
 ·rename_i h
  exact sort_con l h
 have c0:=clone_ok (c:=4) (g:=60) rfl (mbs l) (by simp;omega)
 have c1:=sortSW_con l hl
 generalize stab l=R at c1
 refine wBodyG Tryz.tab Tryz.mixed Tryz.func125 rfl rfl Tryz.ntmps125 (by simp) (by simp) fun Q hr hn hp=>?_
 repeat' first|refine zU.p c0 rfl ?_|refine zU.l c0 rfl ?_|refine zQ.pure c0 rfl ?_|refine zQ.lent c0 rfl ?_|refine zU.o c0 ?_|refine zV.p c0 rfl ?_|refine zV.l c0 rfl ?_|refine zV.o c0 ?_|(refine yR 5 (c1) (by simp[List.length_map]) (by simp[yS,xA,zD,inN,pos,yZ,yN,List.length_map]) rfl ?_;simp[List.length_map])|((first|refine O _ ?_|refine O _ _ ?_|(clear O;refine O _ ?_));clear O)|(refine zJ fun K O=>?_)|((first|refine zH ?_|refine zN rfl (by kernel_rfl) ?_|refine zM ?_|refine zK (by kernel_rfl) ?_);simp only[vS,vR,strip])|((first|refine wIs fun K O=>?_|refine wOs fun K O=>?_|refine wQs fun K O=>?_|refine zW ?_|refine zX ?_|refine zY ?_|refine zL ?_);simp)|(refine wIn ?_;refine And.intro (by kernel_rfl) ?_;try simp only[zZ])|refine zR ?_|refine zT ?_|((first|refine zI ?_|refine zO ?_|refine zP ?_);try simp)|((first|refine zS ?_|refine wOn ?_|refine wQn ?_);try simp only[zZ])
 all_goals first|apply hn|apply hr
 all_goals refine⟨[5],by simp,by simp,?_⟩
 all_goals simp[Tryz.f125,wD,wI,yX]
end Go.Proofs.YtpihbhacmokekaaGreatDoor
