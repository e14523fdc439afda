/- Texts that the proof needs: ZA XL XM Ext PA. -/
import Derived.Test.YtedbbcmokbogpaaGreatDoorP21PrepNumbers
import Derived.Test.YtedbbcmokbogpaaGreatDoorP17PrepNumbers
import Derived.Test.YtedbbcmokbogpaaGreatDoorP12PrepNumbers
import Derived.Test.YtedbbcmokbogpaaGreatDoorP18PrepNumbers
import Derived.Test.YtedbbcmokbogpaaGreatDoorP16PrepNumbers
namespace Go.Proofs.YtedbbcmokbogpaaGreatDoor
set_option linter.unusedSimpArgs false
set_option linter.unusedVariables false
open Go Go.Av
attribute [local irreducible] Go.Av.yP Go.Av.zU Go.Av.yN Go.Av.zT Go.Av.yO Go.Av.zV Go.Av.Con
structure Zx where
 (e n:Int)
 deriving DecidableEq
def zxs (l:List Zx):List (List PV):=l.map fun z=>[I z.e,I z.n]
@[simp] theorem zxs_len (l:List Zx):(zxs l).length=l.length:=by simp[zxs]
@[simp] theorem zxs_getE {l:List Zx}{k:Nat}(h:k<(zxs l).length):(zxs l)[k]=[I (l[k]'(by simpa using h)).e,I (l[k]'(by simpa using h)).n]:=by simp[zxs]
def lastZ:List Zx->Zx
 |[]=>⟨0,0⟩
 |a::r=>r.foldl (fun m x=>if 0<zcmp x.e x.n m.e m.n then x else m) a
theorem lastZ_snoc (l:List Zx)(k:Nat)(h:k<l.length):lastZ (l.take (k+1))=if k=0\/0<zcmp l[k].e l[k].n (lastZ (l.take k)).e (lastZ (l.take k)).n then l[k] else lastZ (l.take k):=by
 rw[List.take_succ_eq_append_getElem h]
 cases l with
 |nil=>simp at h
 |cons a r =>
  cases k with
  |zero=>simp[lastZ]
  |succ k =>
   simp only[List.take_succ_cons,List.cons_append,lastZ,List.foldl_append,List.foldl_cons,List.foldl_nil]
   simp
theorem last_con (l:List Zx):zD Tryz.prog 78 [.p (.sl 2 (zxs l))] (.p (.agg [I (lastZ l).e,I (lastZ l).n])):=by
 refine zD.len ⟨Tryz.f78,Tryz.func78,rfl,rfl⟩ 0 _ _ rfl fun hlen=>?_
 simp only[zxs_len] at hlen
 have hs:=fun k h=>lastZ_snoc l k h
 have h0:lastZ (l.take 0)=⟨0,0⟩:=rfl
 have hfin:lastZ l=lastZ (l.take l.length):=by rw[List.take_length]
 refine zG Tryz.tab Tryz.mixed Tryz.func78 rfl rfl Tryz.ntmps78 (by simp) (by simp) fun Q hr hn=>?_
 repeat' first|((first|refine O _ ?_|refine O _ _ ?_|(clear O;refine O _ ?_));clear O)|(refine zJ fun K O=>?_)|((first|refine zH ?_|refine zN rfl (by kernel_rfl) ?_|refine zM ?_|refine zK (by kernel_rfl) ?_);simp only[vZ,vY,strip])|((first|refine wIs fun K O=>?_|refine wOs fun K O=>?_|refine wQs fun K O=>?_|refine zW ?_|refine zX ?_|refine zY ?_|refine zL ?_);simp)|(refine wIn ?_;refine And.intro (by kernel_rfl) ?_;try simp only[zZ])|refine zQ ?_|refine zS ?_|((first|refine zI ?_|refine zO ?_|refine zP ?_);try simp)|((first|refine zR ?_|refine wOn ?_|refine wQn ?_);try simp only[zZ])
 refine yT (fun N st=>∃k,k+N=l.length/\∃m:Zx,m=lastZ (l.take k)/\st.s 2=.ptr 2 0/\st.s 3=.ptr 3 0/\st.b 3=some (.box 25 [.p (I m.e),.p (I m.n)])/\st.b 2=some (.box 25 [.p (I 0),.p (I 0)]) ∧
  st.s 6=.p (.sl 2 (zxs l))/\st.s 7=.p (I l.length)/\st.s 8=.p (I k)) l.length ⟨0,by simp,⟨0,0⟩,h0.symm,by simp⟩ fun K N st hL ⟨k,hk,m,hm,g2,g3,b3,b2,g6,g7,g8⟩=>?_
 by_cases hlt:k<l.length
 ·have hw:=yA k _ hlt (by omega)
  have hsk:=hs k hlt
  rw[<- hm] at hsk
  have c1:=cmp_con l[k].e l[k].n m.e m.n
  by_cases k0:k=0
  ·rw[if_pos (.inl k0)] at hsk
   subst k0
   repeat' first|((first|refine O _ ?_|refine O _ _ ?_|(clear O;refine O _ ?_));clear O)|(refine zJ fun K O=>?_)|((first|refine zH ?_|refine zN rfl (by kernel_rfl) ?_|refine zM ?_|refine zK (by kernel_rfl) ?_);simp only[vZ,vY,strip])|((first|refine wIs fun K O=>?_|refine wOs fun K O=>?_|refine wQs fun K O=>?_|refine zW ?_|refine zX ?_|refine zY ?_|refine zL ?_);simp[g2,g3,b3,b2,g6,g7,g8,hlt,hw])|(refine wIn ?_;refine And.intro (by kernel_rfl) ?_;try simp only[zZ])|refine zQ ?_|refine zS ?_|((first|refine zI ?_|refine zO ?_|refine zP ?_);try simp)|((first|refine zR ?_|refine wOn ?_|refine wQn ?_);try simp only[zZ])
   refine hL _ (N-1) (by omega) ⟨1,by omega,_,hsk.symm,?_⟩
   simp[g2,g3,b3,b2,g6,g7,g8,show IntKind.i64.wrap 1=1 from rfl]
  ·have k0':¬ (k:Int)=0:=by omega
   by_cases hg:0<zcmp l[k].e l[k].n m.e m.n
   ·rw[if_pos (.inr hg)] at hsk
    generalize zcmp l[k].e l[k].n m.e m.n=q at c1 hg
    repeat' first|((first|refine O _ ?_|refine O _ _ ?_|(clear O;refine O _ ?_));clear O)|(refine zJ fun K O=>?_)|((first|refine zH ?_|refine zN rfl (by kernel_rfl) ?_|refine zM ?_|refine zK (by kernel_rfl) ?_);simp only[vZ,vY,strip])|((first|refine wIs fun K O=>?_|refine wOs fun K O=>?_|refine wQs fun K O=>?_|refine zW ?_|refine zX ?_|refine zY ?_|refine zL ?_);simp[g2,g3,b3,b2,g6,g7,g8,hlt,hw,k0,k0',hg])|(refine wIn ?_;refine And.intro (by kernel_rfl) ?_;try simp only[zZ])|refine zQ ?_|refine zS ?_|((first|refine zI ?_|refine zO ?_|refine zP ?_);try simp)|((first|refine zR ?_|refine wOn ?_|refine wQn ?_);try simp only[zZ])|refine zU.p c1 rfl ?_|refine zU.l c1 rfl ?_|refine zT.p c1 rfl ?_|refine zT.l c1 rfl ?_|refine zU.o c1 ?_|refine zV.p c1 rfl ?_|refine zV.l c1 rfl ?_|refine zV.o c1 ?_
    refine hL _ (N-1) (by omega) ⟨k+1,by omega,_,hsk.symm,?_⟩
    simp[g2,g3,b3,b2,g6,g7,g8,hw]
   ·rw[if_neg (fun h=>h.elim k0 hg)] at hsk
    generalize zcmp l[k].e l[k].n m.e m.n=q at c1 hg
    repeat' first|((first|refine O _ ?_|refine O _ _ ?_|(clear O;refine O _ ?_));clear O)|(refine zJ fun K O=>?_)|((first|refine zH ?_|refine zN rfl (by kernel_rfl) ?_|refine zM ?_|refine zK (by kernel_rfl) ?_);simp only[vZ,vY,strip])|((first|refine wIs fun K O=>?_|refine wOs fun K O=>?_|refine wQs fun K O=>?_|refine zW ?_|refine zX ?_|refine zY ?_|refine zL ?_);simp[g2,g3,b3,b2,g6,g7,g8,hlt,hw,k0,k0',hg])|(refine wIn ?_;refine And.intro (by kernel_rfl) ?_;try simp only[zZ])|refine zQ ?_|refine zS ?_|((first|refine zI ?_|refine zO ?_|refine zP ?_);try simp)|((first|refine zR ?_|refine wOn ?_|refine wQn ?_);try simp only[zZ])|refine zU.p c1 rfl ?_|refine zU.l c1 rfl ?_|refine zT.p c1 rfl ?_|refine zT.l c1 rfl ?_|refine zU.o c1 ?_|refine zV.p c1 rfl ?_|refine zV.l c1 rfl ?_|refine zV.o c1 ?_
    refine hL _ (N-1) (by omega) ⟨k+1,by omega,_,hsk.symm,?_⟩
    simp[g2,g3,b3,b2,g6,g7,g8,hw]
 ·have:k=l.length:=by omega
  subst this
  rw[<- hfin] at hm
  subst hm
  repeat' first|((first|refine O _ ?_|refine O _ _ ?_|(clear O;refine O _ ?_));clear O)|(refine zJ fun K O=>?_)|((first|refine zH ?_|refine zN rfl (by kernel_rfl) ?_|refine zM ?_|refine zK (by kernel_rfl) ?_);simp only[vZ,vY,strip])|((first|refine wIs fun K O=>?_|refine wOs fun K O=>?_|refine wQs fun K O=>?_|refine zW ?_|refine zX ?_|refine zY ?_|refine zL ?_);simp[g2,g3,b3,b2,g6,g7,g8,hlt])|(refine wIn ?_;refine And.intro (by kernel_rfl) ?_;try simp only[zZ])|refine zQ ?_|refine zS ?_|((first|refine zI ?_|refine zO ?_|refine zP ?_);try simp)|((first|refine zR ?_|refine wOn ?_|refine wQn ?_);try simp only[zZ])
  all_goals apply hr
  all_goals simp[Tryz.f78,g2,g3,b3,b2]
theorem xA (l:List Int)(a:Int):zis l++[[I a]]=zis (l++[a]):=by simp[zis]
theorem but_take_len (l:List Int)(n:Int)(k:Nat):(but (l.take k) n).length<=k:=Nat.le_trans (but_len _ _) (by simp;omega)
theorem without08_con (l:List Int)(n:Int)(hl:l.length<=1000000):zD Tryz.prog 32 [.p (.sl 1 (zis l)),.p (I n)] (.p (.sl 1 (zis (but l n)))):=by
 refine zG Tryz.tab Tryz.mixed Tryz.func32 rfl rfl Tryz.ntmps32 (by simp) (by simp) fun Q hr hn=>?_
 repeat' first|((first|refine O _ ?_|refine O _ _ ?_|(clear O;refine O _ ?_));clear O)|(refine zJ fun K O=>?_)|((first|refine zH ?_|refine zN rfl (by kernel_rfl) ?_|refine zM ?_|refine zK (by kernel_rfl) ?_);simp only[vZ,vY,strip])|((first|refine wIs fun K O=>?_|refine wOs fun K O=>?_|refine wQs fun K O=>?_|refine zW ?_|refine zX ?_|refine zY ?_|refine zL ?_);simp)|(refine wIn ?_;refine And.intro (by kernel_rfl) ?_;try simp only[zZ])|refine zQ ?_|refine zS ?_|((first|refine zI ?_|refine zO ?_|refine zP ?_);try simp)|((first|refine zR ?_|refine wOn ?_|refine wQn ?_);try simp only[zZ])
 refine wLoopG [.row 5 3 1] (fun N st=>∃k,k+N=l.length/\st.s 1=.p (I n)/\st.s 8=.p (.sl 1 (zis l))/\st.s 9=.p (I l.length)/\st.s 10=.p (I k)/\st.s 5=.row 5/\st.b 5=some (.row 3 1 (zis (but (l.take k) n)))) l.length ⟨0,by simp[but,zis]⟩ fun K N st hL ⟨k,hk,g1,g8,g9,g10,g5,b5⟩=>?_
 have hkl:=but_take_len l n k
 by_cases hlt:k<l.length
 ·have hw:=wrapX k _ hlt (by omega)
  have he:=zis_get hlt
  have hs:=but_snoc hlt n
  have hx:=xA (but (l.take k) n) l[k]
  by_cases o:l[k]=n
  ·rw[if_pos o] at hs
   repeat' first|((first|refine O _ ?_|refine O _ _ ?_|(clear O;refine O _ ?_));clear O)|(refine zJ fun K O=>?_)|((first|refine zH ?_|refine zN rfl (by kernel_rfl) ?_|refine zM ?_|refine zK (by kernel_rfl) ?_);simp only[vZ,vY,strip])|((first|refine wIs fun K O=>?_|refine wOs fun K O=>?_|refine wQs fun K O=>?_|refine zW ?_|refine zX ?_|refine zY ?_|refine zL ?_);simp[g1,g8,g9,g10,g5,b5,hlt,hw,he,o])|(refine wIn ?_;refine And.intro (by kernel_rfl) ?_;try simp only[zZ])|refine zQ ?_|refine zS ?_|((first|refine zI ?_|refine zO ?_|refine zP ?_);try simp)|((first|refine zR ?_|refine wOn ?_|refine wQn ?_);try simp only[zZ])
   refine hL _ (N-1) (by omega) ⟨k+1,by omega,?_⟩
   simp[g1,g8,g9,g10,g5,b5,hw,hs]
  ·rw[if_neg o] at hs
   rw[<- hs] at hx
   repeat' first|(refine And.intro (by (try simp at hkl ⊢);omega) ?_)|((first|refine O _ ?_|refine O _ _ ?_|(clear O;refine O _ ?_));clear O)|(refine zJ fun K O=>?_)|((first|refine zH ?_|refine zN rfl (by kernel_rfl) ?_|refine zM ?_|refine zK (by kernel_rfl) ?_);simp only[vZ,vY,strip])|((first|refine wIs fun K O=>?_|refine wOs fun K O=>?_|refine wQs fun K O=>?_|refine zW ?_|refine zX ?_|refine zY ?_|refine zL ?_);simp[g1,g8,g9,g10,g5,b5,hlt,hw,he,o])|(refine wIn ?_;refine And.intro (by kernel_rfl) ?_;try simp only[zZ])|refine zQ ?_|refine zS ?_|((first|refine zI ?_|refine zO ?_|refine zP ?_);try simp)|((first|refine zR ?_|refine wOn ?_|refine wQn ?_);try simp only[zZ])
   refine hL _ (N-1) (by omega) ⟨k+1,by omega,?_⟩
   simp[g1,g8,g9,g10,g5,b5,hw,hx]
 ·rw[List.take_of_length_le (by omega)] at b5
  repeat' first|((first|refine O _ ?_|refine O _ _ ?_|(clear O;refine O _ ?_));clear O)|(refine zJ fun K O=>?_)|((first|refine zH ?_|refine zN rfl (by kernel_rfl) ?_|refine zM ?_|refine zK (by kernel_rfl) ?_);simp only[vZ,vY,strip])|((first|refine wIs fun K O=>?_|refine wOs fun K O=>?_|refine wQs fun K O=>?_|refine zW ?_|refine zX ?_|refine zY ?_|refine zL ?_);simp[g1,g8,g9,g10,g5,b5,hlt])|(refine wIn ?_;refine And.intro (by kernel_rfl) ?_;try simp only[zZ])|refine zQ ?_|refine zS ?_|((first|refine zI ?_|refine zO ?_|refine zP ?_);try simp)|((first|refine zR ?_|refine wOn ?_|refine wQn ?_);try simp only[zZ])
  all_goals apply hr
  all_goals simp[Tryz.f32,g5,b5]
theorem copied08_con (e n k:Int)(ms:List (List PV))(hl:ms.length<=4398046510976):zD Tryz.prog 28 [.p (.agg [I e,I n,I k,.sl 4 ms])] (.p (.agg [I e,I n,I k,.sl 4 ms])):=by
 refine zG Tryz.tab Tryz.mixed Tryz.func28 rfl rfl Tryz.ntmps28 (by simp) (by simp) fun Q hr hn=>?_
 repeat' first|(refine And.intro (by (try simp);omega) ?_)|(refine Or.inl ?_)|((first|refine O _ ?_|refine O _ _ ?_|(clear O;refine O _ ?_));clear O)|(refine zJ fun K O=>?_)|((first|refine zH ?_|refine zN rfl (by kernel_rfl) ?_|refine zM ?_|refine zK (by kernel_rfl) ?_);simp only[vZ,vY,strip])|((first|refine wIs fun K O=>?_|refine wOs fun K O=>?_|refine wQs fun K O=>?_|refine zW ?_|refine zX ?_|refine zY ?_|refine zL ?_);simp)|(refine wIn ?_;refine And.intro (by kernel_rfl) ?_;try simp only[zZ])|refine zQ ?_|refine zS ?_|((first|refine zI ?_|refine zO ?_|refine zP ?_);try simp)|((first|refine zR ?_|refine wOn ?_|refine wQn ?_);try simp only[zZ])
 all_goals apply hr
 all_goals simp[Tryz.f28]
def wst1 (n:Int)(q:List Int × Bool)(x:Int):List Int × Bool :=
 if n<=x/\q.2=false then (if x=n then q.1++[n] else q.1++[n]++[x],true) else (if x=n then q.1 else q.1++[x],q.2)
def wst (l:List Int)(n:Int):List Int × Bool:=l.foldl (wst1 n) ([],false)
theorem wst_snoc {l:List Int}{k:Nat}(h:k<l.length)(n:Int):wst (l.take (k+1)) n=wst1 n (wst (l.take k) n) l[k]:=by
 rw[List.take_succ_eq_append_getElem h,wst,List.foldl_append];rfl
theorem wst_len (n:Int):∀ (l:List Int)(q:List Int × Bool),(l.foldl (wst1 n) q).1.length<=q.1.length+2 * l.length
 |[],q=>by simp
 |x::l,q=>by
  have:=wst_len n l (wst1 n q x)
  have h1:(wst1 n q x).1.length<=q.1.length+2:=by unfold wst1;split <;> split <;> simp
  simp only[List.foldl_cons,List.length_cons]
  omega
def wth (l:List Int)(n:Int):List Int:=if (wst l n).2=true then (wst l n).1 else (wst l n).1++[n]
theorem wst_take_len (l:List Int)(n:Int)(k:Nat):(wst (l.take k) n).1.length<=2 * k:=by
 have:=wst_len n (l.take k) ([],false)
 have h2:(l.take k).length<=k:=by simp;omega
 unfold wst
 simp at this ⊢;omega
theorem with08_con (l:List Int)(n:Int)(hl:l.length<=1000000):zD Tryz.prog 31 [.p (.sl 1 (zis l)),.p (I n)] (.p (.sl 1 (zis (wth l n)))):=by
 refine zG Tryz.tab Tryz.mixed Tryz.func31 rfl rfl Tryz.ntmps31 (by simp) (by simp) fun Q hr hn=>?_
 repeat' first|((first|refine O _ ?_|refine O _ _ ?_|(clear O;refine O _ ?_));clear O)|(refine zJ fun K O=>?_)|((first|refine zH ?_|refine zN rfl (by kernel_rfl) ?_|refine zM ?_|refine zK (by kernel_rfl) ?_);simp only[vZ,vY,strip])|((first|refine wIs fun K O=>?_|refine wOs fun K O=>?_|refine wQs fun K O=>?_|refine zW ?_|refine zX ?_|refine zY ?_|refine zL ?_);simp)|(refine wIn ?_;refine And.intro (by kernel_rfl) ?_;try simp only[zZ])|refine zQ ?_|refine zS ?_|((first|refine zI ?_|refine zO ?_|refine zP ?_);try simp)|((first|refine zR ?_|refine wOn ?_|refine wQn ?_);try simp only[zZ])
 refine wLoopG [.row 5 3 1] (fun N st=>∃k,k+N=l.length/\st.s 1=.p (I n)/\st.s 9=.p (.sl 1 (zis l))/\st.s 10=.p (I l.length)/\st.s 11=.p (I k)/\st.s 5=.row 5/\st.s 6=.p (B (wst (l.take k) n).2)/\st.b 5=some (.row 3 1 (zis (wst (l.take k) n).1))) l.length ⟨0,by simp[wst,zis]⟩ fun K N st hL ⟨k,hk,g1,g9,g10,g11,g5,g6,b5⟩=>?_
 have hkl:=wst_take_len l n k
 by_cases hlt:k<l.length
 ·have hw:=wrapX k _ hlt (by omega)
  have he:=zis_get hlt
  have hs:=wst_snoc hlt n
  generalize wst (l.take k) n=q at hs g6 b5 hkl
  obtain⟨o,d⟩:=q
  dsimp only at g6 b5 hkl
  generalize hx:l[k]=x at hs he
  by_cases h1:n<=x
  ·cases d
   ·by_cases h2:x=n
    ·have hs':wst (l.take (k+1)) n=(o++[n],true):=by rw[hs];simp[wst1,h1,h2]
     repeat' first|(refine And.intro (by (try simp at hkl ⊢);omega) ?_)|((first|refine O _ ?_|refine O _ _ ?_|(clear O;refine O _ ?_));clear O)|(refine zJ fun K O=>?_)|((first|refine zH ?_|refine zN rfl (by kernel_rfl) ?_|refine zM ?_|refine zK (by kernel_rfl) ?_);simp only[vZ,vY,strip])|((first|refine wIs fun K O=>?_|refine wOs fun K O=>?_|refine wQs fun K O=>?_|refine zW ?_|refine zX ?_|refine zY ?_|refine zL ?_);simp[g1,g9,g10,g11,g5,g6,b5,hlt,hw,he,hx,h1,h2,xA])|(refine wIn ?_;refine And.intro (by kernel_rfl) ?_;try simp only[zZ])|refine zQ ?_|refine zS ?_|((first|refine zI ?_|refine zO ?_|refine zP ?_);try simp)|((first|refine zR ?_|refine wOn ?_|refine wQn ?_);try simp only[zZ])
     refine hL _ (N-1) (by omega) ⟨k+1,by omega,?_⟩
     simp[g1,g9,g10,g11,g5,g6,b5,hw,hs',xA]
    ·have hs':wst (l.take (k+1)) n=(o++[n]++[x],true):=by rw[hs];simp[wst1,h1,h2]
     repeat' first|(refine And.intro (by (try simp at hkl ⊢);omega) ?_)|((first|refine O _ ?_|refine O _ _ ?_|(clear O;refine O _ ?_));clear O)|(refine zJ fun K O=>?_)|((first|refine zH ?_|refine zN rfl (by kernel_rfl) ?_|refine zM ?_|refine zK (by kernel_rfl) ?_);simp only[vZ,vY,strip])|((first|refine wIs fun K O=>?_|refine wOs fun K O=>?_|refine wQs fun K O=>?_|refine zW ?_|refine zX ?_|refine zY ?_|refine zL ?_);simp[g1,g9,g10,g11,g5,g6,b5,hlt,hw,he,hx,h1,h2,xA])|(refine wIn ?_;refine And.intro (by kernel_rfl) ?_;try simp only[zZ])|refine zQ ?_|refine zS ?_|((first|refine zI ?_|refine zO ?_|refine zP ?_);try simp)|((first|refine zR ?_|refine wOn ?_|refine wQn ?_);try simp only[zZ])
     refine hL _ (N-1) (by omega) ⟨k+1,by omega,?_⟩
     simp[g1,g9,g10,g11,g5,g6,b5,hw,hs',xA]
   ·by_cases h2:x=n
    ·have hs':wst (l.take (k+1)) n=(o,true):=by rw[hs];simp[wst1,h1,h2]
     repeat' first|((first|refine O _ ?_|refine O _ _ ?_|(clear O;refine O _ ?_));clear O)|(refine zJ fun K O=>?_)|((first|refine zH ?_|refine zN rfl (by kernel_rfl) ?_|refine zM ?_|refine zK (by kernel_rfl) ?_);simp only[vZ,vY,strip])|((first|refine wIs fun K O=>?_|refine wOs fun K O=>?_|refine wQs fun K O=>?_|refine zW ?_|refine zX ?_|refine zY ?_|refine zL ?_);simp[g1,g9,g10,g11,g5,g6,b5,hlt,hw,he,hx,h1,h2])|(refine wIn ?_;refine And.intro (by kernel_rfl) ?_;try simp only[zZ])|refine zQ ?_|refine zS ?_|((first|refine zI ?_|refine zO ?_|refine zP ?_);try simp)|((first|refine zR ?_|refine wOn ?_|refine wQn ?_);try simp only[zZ])
     refine hL _ (N-1) (by omega) ⟨k+1,by omega,?_⟩
     simp[g1,g9,g10,g11,g5,g6,b5,hw,hs']
    ·have hs':wst (l.take (k+1)) n=(o++[x],true):=by rw[hs];simp[wst1,h1,h2]
     repeat' first|(refine And.intro (by (try simp at hkl ⊢);omega) ?_)|((first|refine O _ ?_|refine O _ _ ?_|(clear O;refine O _ ?_));clear O)|(refine zJ fun K O=>?_)|((first|refine zH ?_|refine zN rfl (by kernel_rfl) ?_|refine zM ?_|refine zK (by kernel_rfl) ?_);simp only[vZ,vY,strip])|((first|refine wIs fun K O=>?_|refine wOs fun K O=>?_|refine wQs fun K O=>?_|refine zW ?_|refine zX ?_|refine zY ?_|refine zL ?_);simp[g1,g9,g10,g11,g5,g6,b5,hlt,hw,he,hx,h1,h2,xA])|(refine wIn ?_;refine And.intro (by kernel_rfl) ?_;try simp only[zZ])|refine zQ ?_|refine zS ?_|((first|refine zI ?_|refine zO ?_|refine zP ?_);try simp)|((first|refine zR ?_|refine wOn ?_|refine wQn ?_);try simp only[zZ])
     refine hL _ (N-1) (by omega) ⟨k+1,by omega,?_⟩
     simp[g1,g9,g10,g11,g5,g6,b5,hw,hs',xA]
  ·have h2:¬ x=n:=by omega
   have hs':wst (l.take (k+1)) n=(o++[x],d):=by rw[hs];simp[wst1,h1,h2]
   repeat' first|(refine And.intro (by (try simp at hkl ⊢);omega) ?_)|((first|refine O _ ?_|refine O _ _ ?_|(clear O;refine O _ ?_));clear O)|(refine zJ fun K O=>?_)|((first|refine zH ?_|refine zN rfl (by kernel_rfl) ?_|refine zM ?_|refine zK (by kernel_rfl) ?_);simp only[vZ,vY,strip])|((first|refine wIs fun K O=>?_|refine wOs fun K O=>?_|refine wQs fun K O=>?_|refine zW ?_|refine zX ?_|refine zY ?_|refine zL ?_);simp[g1,g9,g10,g11,g5,g6,b5,hlt,hw,he,hx,h1,h2,xA])|(refine wIn ?_;refine And.intro (by kernel_rfl) ?_;try simp only[zZ])|refine zQ ?_|refine zS ?_|((first|refine zI ?_|refine zO ?_|refine zP ?_);try simp)|((first|refine zR ?_|refine wOn ?_|refine wQn ?_);try simp only[zZ])
   refine hL _ (N-1) (by omega) ⟨k+1,by omega,?_⟩
   simp[g1,g9,g10,g11,g5,g6,b5,hw,hs',xA]
 ·rw[List.take_of_length_le (by omega)] at b5 g6 hkl
  unfold wth at hr
  generalize wst l n=q at g6 b5 hkl hr
  obtain⟨o,d⟩:=q
  dsimp only at g6 b5 hkl hr
  cases d
  ·simp only[Bool.false_eq_true,if_false] at hr
   repeat' first|(refine And.intro (by (try simp at hkl ⊢);omega) ?_)|((first|refine O _ ?_|refine O _ _ ?_|(clear O;refine O _ ?_));clear O)|(refine zJ fun K O=>?_)|((first|refine zH ?_|refine zN rfl (by kernel_rfl) ?_|refine zM ?_|refine zK (by kernel_rfl) ?_);simp only[vZ,vY,strip])|((first|refine wIs fun K O=>?_|refine wOs fun K O=>?_|refine wQs fun K O=>?_|refine zW ?_|refine zX ?_|refine zY ?_|refine zL ?_);simp[g1,g9,g10,g11,g5,g6,b5,hlt,xA])|(refine wIn ?_;refine And.intro (by kernel_rfl) ?_;try simp only[zZ])|refine zQ ?_|refine zS ?_|((first|refine zI ?_|refine zO ?_|refine zP ?_);try simp)|((first|refine zR ?_|refine wOn ?_|refine wQn ?_);try simp only[zZ])
   all_goals apply hr
   all_goals simp[Tryz.f31,g5,b5,xA]
  ·simp only[if_true] at hr
   repeat' first|((first|refine O _ ?_|refine O _ _ ?_|(clear O;refine O _ ?_));clear O)|(refine zJ fun K O=>?_)|((first|refine zH ?_|refine zN rfl (by kernel_rfl) ?_|refine zM ?_|refine zK (by kernel_rfl) ?_);simp only[vZ,vY,strip])|((first|refine wIs fun K O=>?_|refine wOs fun K O=>?_|refine wQs fun K O=>?_|refine zW ?_|refine zX ?_|refine zY ?_|refine zL ?_);simp[g1,g9,g10,g11,g5,g6,b5,hlt])|(refine wIn ?_;refine And.intro (by kernel_rfl) ?_;try simp only[zZ])|refine zQ ?_|refine zS ?_|((first|refine zI ?_|refine zO ?_|refine zP ?_);try simp)|((first|refine zR ?_|refine wOn ?_|refine wQn ?_);try simp only[zZ])
   all_goals apply hr
   all_goals simp[Tryz.f31,g5,b5]
theorem wst_true (n:Int):∀ (l o:List Int),l.foldl (wst1 n) (o,true)=(o++but l n,true)
 |[],o=>by simp[but]
 |x::l,o=>by
  rw[List.foldl_cons]
  by_cases h:x=n
  ·rw[show wst1 n (o,true) x=(o,true) by simp[wst1,h],wst_true n l o]
   simp[but,h]
  ·rw[show wst1 n (o,true) x=(o++[x],true) by simp[wst1,h],wst_true n l (o++[x])]
   simp[but,h]
theorem wst_ins (n:Int):∀ (l o:List Int),(if (l.foldl (wst1 n) (o,false)).2=true then (l.foldl (wst1 n) (o,false)).1 else (l.foldl (wst1 n) (o,false)).1++[n])=o++insI l n
 |[],o=>by simp[insI,but,atI]
 |x::l,o=>by
  rw[List.foldl_cons]
  by_cases h1:n<=x
  ·have ha:atI (x::l) n=0:=by rw[atI,if_neg (by omega)]
   by_cases h:x=n
   ·rw[show wst1 n (o,false) x=(o++[n],true) by simp[wst1,h1,h],wst_true]
    simp only[if_true,insI,ha]
    simp[but,h]
   ·rw[show wst1 n (o,false) x=(o++[n]++[x],true) by simp[wst1,h1,h],wst_true]
    simp only[if_true,insI,ha]
    simp[but,h]
  ·have h:¬ x=n:=by omega
   rw[show wst1 n (o,false) x=(o++[x],false) by simp[wst1,h1,h],wst_ins n l (o++[x])]
   have ha:atI (x::l) n=atI l n+1:=by rw[atI,if_pos (by omega)]
   simp only[insI,ha]
   simp[but,h]
theorem wth_ins (l:List Int)(n:Int):wth l n=insI l n:=by
 unfold wth wst
 rw[wst_ins n l []];rfl
end Go.Proofs.YtedbbcmokbogpaaGreatDoor
namespace Go.Proofs.YtedbbcmokbogpaaGreatDoor
set_option linter.unusedSimpArgs false
set_option linter.unusedVariables false
open Go Go.Av
end Go.Proofs.YtedbbcmokbogpaaGreatDoor
namespace Go.Proofs.YtedbbcmokbogpaaGreatDoor
set_option linter.unusedSimpArgs false
set_option linter.unusedVariables false
open Go Go.Av
attribute [local irreducible] Go.Av.yP Go.Av.zU Go.Av.yN Go.Av.zT Go.Av.yO Go.Av.zV Go.Av.Con
def chr (b:UInt8):Bool:=decide (33<=b.toNat/\b.toNat<=126/\b.toNat ≠ 47)
def nm (l:List UInt8):Bool:=decide (1<=l.length/\l.length<=16/\l ≠ [46]/\l ≠ [46,46]) && l.all chr
theorem all_snocp (p:UInt8->Bool)(l:List UInt8)(k:Nat)(h:k<l.length):(l.take (k+1)).all p=((l.take k).all p && p l[k]):=by
 rw[List.take_succ_eq_append_getElem h,List.all_append];simp
theorem not_all {l:List UInt8}{k:Nat}(h:k<l.length)(hc:chr l[k]=false):l.all chr=false:=by
 cases h2:l.all chr with
 |false=>rfl
 |true =>
  rw[List.all_eq_true] at h2
  have:=h2 _ (List.getElem_mem h)
  rw[hc] at this;simp at this
theorem chr_cases (b:UInt8):((b.toNat:Int)<33/\chr b=false)\/(¬ (b.toNat:Int)<33/\(126:Int)<b.toNat/\chr b=false)\/(¬ (b.toNat:Int)<33/\¬ (126:Int)<b.toNat/\(b.toNat:Int)=47/\chr b=false)\/(¬ (b.toNat:Int)<33/\¬ (126:Int)<b.toNat/\¬ (b.toNat:Int)=47/\chr b=true):=by
 simp only[chr,decide_eq_true_eq,decide_eq_false_iff_not]
 omega
theorem isNameL {Q:AExit->St->Prop}{st:St}(l:List UInt8)(hl:l.length<=16)(hret:l.all chr=false->∀st,st.s 2=.p (B false)->Q .ret st)
 (hex:l.all chr=true->∀st,Q (.exit 0) st)(h0:st.s 21=.p (.sl 1 (l.map fun b=>[.v (.int .u8 b.toNat)]))/\st.s 22=.p (I l.length)/\st.s 23=.p (I 0)) :
 WC Tryz.prog Tryz.T 38 (lp Tryz.f83 0) Q st:=by
 obtain⟨g21,g22,g23⟩:=h0
 refine yT (fun N st=>∃k,k+N=l.length/\(l.take k).all chr=true/\st.s 21=.p (.sl 1 (l.map fun b=>[.v (.int .u8 b.toNat)]))/\st.s 22=.p (I l.length)/\st.s 23=.p (I k)) l.length ⟨0,by simp,by simp,g21,g22,g23⟩ fun K N st hL ⟨k,hk,ha,g21,g22,g23⟩=>?_
 by_cases hlt:k<l.length
 ·have hw:=yA k _ hlt (by omega)
  have has:=all_snocp chr l k hlt
  rw[ha,Bool.true_and] at has
  rcases chr_cases l[k] with ⟨d1,hc⟩|⟨d1,d2,hc⟩|⟨d1,d2,d3,hc⟩|⟨d1,d2,d3,hc⟩
  ·repeat' first|(refine O _ ?_;clear O)|(refine O _ _ ?_;clear O)|(clear O;refine O _ ?_;clear O)|(clear O;clear O;refine O _ ?_;clear O)|(clear O;clear O;clear O;refine O _ ?_;clear O)|(clear O;clear O;clear O;clear O;refine O _ ?_;clear O)|(refine zJ fun K O=>?_)|((first|refine zH ?_|refine zN rfl (by kernel_rfl) ?_|refine zM ?_|refine zK (by kernel_rfl) ?_);simp only[vZ,vY,strip])|((first|refine wIs fun K O=>?_|refine wOs fun K O=>?_|refine wQs fun K O=>?_|refine zW ?_|refine zX ?_|refine zY ?_|refine zL ?_);simp[g21,g22,g23,hlt,hw,d1])|(refine wIn ?_;refine And.intro (by kernel_rfl) ?_;try simp only[zZ])|(first|refine zQ ?_|refine zS ?_)|((first|refine zI ?_|refine zO ?_|refine zP ?_);try simp)|((first|refine zR ?_|refine wOn ?_|refine wQn ?_);try simp only[zZ])
   exact hret (not_all hlt hc) _ (by simp)
  ·repeat' first|(refine O _ ?_;clear O)|(refine O _ _ ?_;clear O)|(clear O;refine O _ ?_;clear O)|(clear O;clear O;refine O _ ?_;clear O)|(clear O;clear O;clear O;refine O _ ?_;clear O)|(clear O;clear O;clear O;clear O;refine O _ ?_;clear O)|(refine zJ fun K O=>?_)|((first|refine zH ?_|refine zN rfl (by kernel_rfl) ?_|refine zM ?_|refine zK (by kernel_rfl) ?_);simp only[vZ,vY,strip])|((first|refine wIs fun K O=>?_|refine wOs fun K O=>?_|refine wQs fun K O=>?_|refine zW ?_|refine zX ?_|refine zY ?_|refine zL ?_);simp[g21,g22,g23,hlt,hw,d1,d2])|(refine wIn ?_;refine And.intro (by kernel_rfl) ?_;try simp only[zZ])|(first|refine zQ ?_|refine zS ?_)|((first|refine zI ?_|refine zO ?_|refine zP ?_);try simp)|((first|refine zR ?_|refine wOn ?_|refine wQn ?_);try simp only[zZ])
   exact hret (not_all hlt hc) _ (by simp)
  ·repeat' first|(refine O _ ?_;clear O)|(refine O _ _ ?_;clear O)|(clear O;refine O _ ?_;clear O)|(clear O;clear O;refine O _ ?_;clear O)|(clear O;clear O;clear O;refine O _ ?_;clear O)|(clear O;clear O;clear O;clear O;refine O _ ?_;clear O)|(refine zJ fun K O=>?_)|((first|refine zH ?_|refine zN rfl (by kernel_rfl) ?_|refine zM ?_|refine zK (by kernel_rfl) ?_);simp only[vZ,vY,strip])|((first|refine wIs fun K O=>?_|refine wOs fun K O=>?_|refine wQs fun K O=>?_|refine zW ?_|refine zX ?_|refine zY ?_|refine zL ?_);simp[g21,g22,g23,hlt,hw,d1,d2,d3])|(refine wIn ?_;refine And.intro (by kernel_rfl) ?_;try simp only[zZ])|(first|refine zQ ?_|refine zS ?_)|((first|refine zI ?_|refine zO ?_|refine zP ?_);try simp)|((first|refine zR ?_|refine wOn ?_|refine wQn ?_);try simp only[zZ])
   exact hret (not_all hlt hc) _ (by simp)
  ·rw[hc] at has
   repeat' first|((first|refine O _ ?_|refine O _ _ ?_|(clear O;refine O _ ?_));clear O)|(refine zJ fun K O=>?_)|((first|refine zH ?_|refine zN rfl (by kernel_rfl) ?_|refine zM ?_|refine zK (by kernel_rfl) ?_);simp only[vZ,vY,strip])|((first|refine wIs fun K O=>?_|refine wOs fun K O=>?_|refine wQs fun K O=>?_|refine zW ?_|refine zX ?_|refine zY ?_|refine zL ?_);simp[g21,g22,g23,hlt,hw,d1,d2,d3])|(refine wIn ?_;refine And.intro (by kernel_rfl) ?_;try simp only[zZ])|refine zQ ?_|refine zS ?_|((first|refine zI ?_|refine zO ?_|refine zP ?_);try simp)|((first|refine zR ?_|refine wOn ?_|refine wQn ?_);try simp only[zZ])
   refine hL _ (N-1) (by omega) ⟨k+1,by omega,has,?_⟩
   simp[g21,g22,g23,hw]
 ·have e:l.take k=l:=List.take_of_length_le (by omega)
  rw[e] at ha
  repeat' first|((first|refine O _ ?_|refine O _ _ ?_|(clear O;refine O _ ?_));clear O)|(refine zJ fun K O=>?_)|((first|refine zH ?_|refine zN rfl (by kernel_rfl) ?_|refine zM ?_|refine zK (by kernel_rfl) ?_);simp only[vZ,vY,strip])|((first|refine wIs fun K O=>?_|refine wOs fun K O=>?_|refine wQs fun K O=>?_|refine zW ?_|refine zX ?_|refine zY ?_|refine zL ?_);simp[g21,g22,g23,hlt])|(refine wIn ?_;refine And.intro (by kernel_rfl) ?_;try simp only[zZ])|refine zQ ?_|refine zS ?_|((first|refine zI ?_|refine zO ?_|refine zP ?_);try simp)|((first|refine zR ?_|refine wOn ?_|refine wQn ?_);try simp only[zZ])
  exact hex ha _
theorem isNameL2 {Q:AExit->St->Prop}{st:St}(l:List UInt8)(hl:l.length<=16)(hret:l.all chr=false->∀st,st.s 2=.p (B false)->Q .ret st)
 (hex:l.all chr=true->∀st,Q (.exit 0) st)(h0:st.s 0=.p (SB l)/\st.s 21=.p (I l.length)/\st.s 22=.p (I 0)) :
 WC Tryz.prog Tryz.T 42 (lp Tryz.f52 0) Q st:=by
 obtain⟨g0,g21,g22⟩:=h0
 refine yT (fun N st=>∃k,k+N=l.length/\(l.take k).all chr=true/\st.s 0=.p (SB l)/\st.s 21=.p (I l.length)/\st.s 22=.p (I k)) l.length ⟨0,by simp,by simp,g0,g21,g22⟩ fun K N st hL ⟨k,hk,ha,g0,g21,g22⟩=>?_
 by_cases hlt:k<l.length
 ·have hw:=yA k _ hlt (by omega)
  have has:=all_snocp chr l k hlt
  rw[ha,Bool.true_and] at has
  rcases chr_cases l[k] with ⟨d1,hc⟩|⟨d1,d2,hc⟩|⟨d1,d2,d3,hc⟩|⟨d1,d2,d3,hc⟩
  ·repeat' first|(refine O _ ?_;clear O)|(refine O _ _ ?_;clear O)|(clear O;refine O _ ?_;clear O)|(clear O;clear O;refine O _ ?_;clear O)|(clear O;clear O;clear O;refine O _ ?_;clear O)|(clear O;clear O;clear O;clear O;refine O _ ?_;clear O)|(refine zJ fun K O=>?_)|((first|refine zH ?_|refine zN rfl (by kernel_rfl) ?_|refine zM ?_|refine zK (by kernel_rfl) ?_);simp only[vZ,vY,strip])|((first|refine wIs fun K O=>?_|refine wOs fun K O=>?_|refine wQs fun K O=>?_|refine zW ?_|refine zX ?_|refine zY ?_|refine zL ?_);simp[g0,g21,g22,hlt,hw,d1])|(refine wIn ?_;refine And.intro (by kernel_rfl) ?_;try simp only[zZ])|(first|refine zQ ?_|refine zS ?_)|((first|refine zI ?_|refine zO ?_|refine zP ?_);try simp)|((first|refine zR ?_|refine wOn ?_|refine wQn ?_);try simp only[zZ])
   exact hret (not_all hlt hc) _ (by simp)
  ·repeat' first|(refine O _ ?_;clear O)|(refine O _ _ ?_;clear O)|(clear O;refine O _ ?_;clear O)|(clear O;clear O;refine O _ ?_;clear O)|(clear O;clear O;clear O;refine O _ ?_;clear O)|(clear O;clear O;clear O;clear O;refine O _ ?_;clear O)|(refine zJ fun K O=>?_)|((first|refine zH ?_|refine zN rfl (by kernel_rfl) ?_|refine zM ?_|refine zK (by kernel_rfl) ?_);simp only[vZ,vY,strip])|((first|refine wIs fun K O=>?_|refine wOs fun K O=>?_|refine wQs fun K O=>?_|refine zW ?_|refine zX ?_|refine zY ?_|refine zL ?_);simp[g0,g21,g22,hlt,hw,d1,d2])|(refine wIn ?_;refine And.intro (by kernel_rfl) ?_;try simp only[zZ])|(first|refine zQ ?_|refine zS ?_)|((first|refine zI ?_|refine zO ?_|refine zP ?_);try simp)|((first|refine zR ?_|refine wOn ?_|refine wQn ?_);try simp only[zZ])
   exact hret (not_all hlt hc) _ (by simp)
  ·repeat' first|(refine O _ ?_;clear O)|(refine O _ _ ?_;clear O)|(clear O;refine O _ ?_;clear O)|(clear O;clear O;refine O _ ?_;clear O)|(clear O;clear O;clear O;refine O _ ?_;clear O)|(clear O;clear O;clear O;clear O;refine O _ ?_;clear O)|(refine zJ fun K O=>?_)|((first|refine zH ?_|refine zN rfl (by kernel_rfl) ?_|refine zM ?_|refine zK (by kernel_rfl) ?_);simp only[vZ,vY,strip])|((first|refine wIs fun K O=>?_|refine wOs fun K O=>?_|refine wQs fun K O=>?_|refine zW ?_|refine zX ?_|refine zY ?_|refine zL ?_);simp[g0,g21,g22,hlt,hw,d1,d2,d3])|(refine wIn ?_;refine And.intro (by kernel_rfl) ?_;try simp only[zZ])|(first|refine zQ ?_|refine zS ?_)|((first|refine zI ?_|refine zO ?_|refine zP ?_);try simp)|((first|refine zR ?_|refine wOn ?_|refine wQn ?_);try simp only[zZ])
   exact hret (not_all hlt hc) _ (by simp)
  ·rw[hc] at has
   repeat' first|((first|refine O _ ?_|refine O _ _ ?_|(clear O;refine O _ ?_));clear O)|(refine zJ fun K O=>?_)|((first|refine zH ?_|refine zN rfl (by kernel_rfl) ?_|refine zM ?_|refine zK (by kernel_rfl) ?_);simp only[vZ,vY,strip])|((first|refine wIs fun K O=>?_|refine wOs fun K O=>?_|refine wQs fun K O=>?_|refine zW ?_|refine zX ?_|refine zY ?_|refine zL ?_);simp[g0,g21,g22,hlt,hw,d1,d2,d3])|(refine wIn ?_;refine And.intro (by kernel_rfl) ?_;try simp only[zZ])|refine zQ ?_|refine zS ?_|((first|refine zI ?_|refine zO ?_|refine zP ?_);try simp)|((first|refine zR ?_|refine wOn ?_|refine wQn ?_);try simp only[zZ])
   refine hL _ (N-1) (by omega) ⟨k+1,by omega,has,?_⟩
   simp[g0,g21,g22,hw]
 ·have e:l.take k=l:=List.take_of_length_le (by omega)
  rw[e] at ha
  repeat' first|((first|refine O _ ?_|refine O _ _ ?_|(clear O;refine O _ ?_));clear O)|(refine zJ fun K O=>?_)|((first|refine zH ?_|refine zN rfl (by kernel_rfl) ?_|refine zM ?_|refine zK (by kernel_rfl) ?_);simp only[vZ,vY,strip])|((first|refine wIs fun K O=>?_|refine wOs fun K O=>?_|refine wQs fun K O=>?_|refine zW ?_|refine zX ?_|refine zY ?_|refine zL ?_);simp[g0,g21,g22,hlt])|(refine wIn ?_;refine And.intro (by kernel_rfl) ?_;try simp only[zZ])|refine zQ ?_|refine zS ?_|((first|refine zI ?_|refine zO ?_|refine zP ?_);try simp)|((first|refine zR ?_|refine wOn ?_|refine wQn ?_);try simp only[zZ])
  exact hex ha _
theorem isName_con (l:List UInt8)(hl:l.length<=9223372036854775807):zD Tryz.prog 83 [.p (SB l)] (.p (B (nm l))):=by
 by_cases h1:l=[]
 ·subst h1
  rw[show nm []=false from rfl]
  refine zG Tryz.tab Tryz.mixed Tryz.func83 rfl rfl Tryz.ntmps83 (by simp) (by simp) fun Q hr hn=>?_
  repeat' first|((first|refine O _ ?_|refine O _ _ ?_|(clear O;refine O _ ?_));clear O)|(refine zJ fun K O=>?_)|((first|refine zH ?_|refine zN rfl (by kernel_rfl) ?_|refine zM ?_|refine zK (by kernel_rfl) ?_);simp only[vZ,vY,strip])|((first|refine wIs fun K O=>?_|refine wOs fun K O=>?_|refine wQs fun K O=>?_|refine zW ?_|refine zX ?_|refine zY ?_|refine zL ?_);simp)|(refine wIn ?_;refine And.intro (by kernel_rfl) ?_;try simp only[zZ])|refine zQ ?_|refine zS ?_|((first|refine zI ?_|refine zO ?_|refine zP ?_);try simp)|((first|refine zR ?_|refine wOn ?_|refine wQn ?_);try simp only[zZ])
  all_goals apply hr
  all_goals simp[Tryz.f83]
 by_cases h2:l=[46]
 ·subst h2
  rw[show nm [46]=false from rfl]
  refine zG Tryz.tab Tryz.mixed Tryz.func83 rfl rfl Tryz.ntmps83 (by simp) (by simp) fun Q hr hn=>?_
  repeat' first|((first|refine O _ ?_|refine O _ _ ?_|(clear O;refine O _ ?_));clear O)|(refine zJ fun K O=>?_)|((first|refine zH ?_|refine zN rfl (by kernel_rfl) ?_|refine zM ?_|refine zK (by kernel_rfl) ?_);simp only[vZ,vY,strip])|((first|refine wIs fun K O=>?_|refine wOs fun K O=>?_|refine wQs fun K O=>?_|refine zW ?_|refine zX ?_|refine zY ?_|refine zL ?_);simp)|(refine wIn ?_;refine And.intro (by kernel_rfl) ?_;try simp only[zZ])|refine zQ ?_|refine zS ?_|((first|refine zI ?_|refine zO ?_|refine zP ?_);try simp)|((first|refine zR ?_|refine wOn ?_|refine wQn ?_);try simp only[zZ])
  all_goals apply hr
  all_goals simp[Tryz.f83]
 by_cases h3:l=[46,46]
 ·subst h3
  rw[show nm [46,46]=false from rfl]
  refine zG Tryz.tab Tryz.mixed Tryz.func83 rfl rfl Tryz.ntmps83 (by simp) (by simp) fun Q hr hn=>?_
  repeat' first|((first|refine O _ ?_|refine O _ _ ?_|(clear O;refine O _ ?_));clear O)|(refine zJ fun K O=>?_)|((first|refine zH ?_|refine zN rfl (by kernel_rfl) ?_|refine zM ?_|refine zK (by kernel_rfl) ?_);simp only[vZ,vY,strip])|((first|refine wIs fun K O=>?_|refine wOs fun K O=>?_|refine wQs fun K O=>?_|refine zW ?_|refine zX ?_|refine zY ?_|refine zL ?_);simp)|(refine wIn ?_;refine And.intro (by kernel_rfl) ?_;try simp only[zZ])|refine zQ ?_|refine zS ?_|((first|refine zI ?_|refine zO ?_|refine zP ?_);try simp)|((first|refine zR ?_|refine wOn ?_|refine wQn ?_);try simp only[zZ])
  all_goals apply hr
  all_goals simp[Tryz.f83]
 by_cases h4:16<l.length
 ·have hN:nm l=false:=by simp[nm];omega
  have h4':(16:Int)<l.length:=by omega
  rw[hN]
  refine zG Tryz.tab Tryz.mixed Tryz.func83 rfl rfl Tryz.ntmps83 (by simp) (by simp) fun Q hr hn=>?_
  repeat' first|((first|refine O _ ?_|refine O _ _ ?_|(clear O;refine O _ ?_));clear O)|(refine zJ fun K O=>?_)|((first|refine zH ?_|refine zN rfl (by kernel_rfl) ?_|refine zM ?_|refine zK (by kernel_rfl) ?_);simp only[vZ,vY,strip])|((first|refine wIs fun K O=>?_|refine wOs fun K O=>?_|refine wQs fun K O=>?_|refine zW ?_|refine zX ?_|refine zY ?_|refine zL ?_);simp[h1,h2,h3,h4,h4'])|(refine wIn ?_;refine And.intro (by kernel_rfl) ?_;try simp only[zZ])|refine zQ ?_|refine zS ?_|((first|refine zI ?_|refine zO ?_|refine zP ?_);try simp)|((first|refine zR ?_|refine wOn ?_|refine wQn ?_);try simp only[zZ])
  all_goals apply hr
  all_goals simp[Tryz.f83]
 ·have hlen:1<=l.length:=List.length_pos_iff.2 h1
  have hN:nm l=l.all chr:=by
   have:decide (1<=l.length/\l.length<=16/\l ≠ [46]/\l ≠ [46,46])=true:=by simp[h2,h3];omega
   rw[nm,this,Bool.true_and]
  have h4':¬ (16:Int)<l.length:=by omega
  have hlp:=fun {Q} {st} h h' h''=>isNameL (Q:=Q) (st:=st) l (by omega) h h' h''
  rw[hN]
  refine zG Tryz.tab Tryz.mixed Tryz.func83 rfl rfl Tryz.ntmps83 (by simp) (by simp) fun Q hr hn=>?_
  repeat' first|(refine hlp ?_ ?_ ⟨by simp,by simp,by simp⟩)|((first|refine O _ ?_|refine O _ _ ?_|(clear O;refine O _ ?_));clear O)|(refine zJ fun K O=>?_)|((first|refine zH ?_|refine zN rfl (by kernel_rfl) ?_|refine zM ?_|refine zK (by kernel_rfl) ?_);simp only[vZ,vY,strip])|((first|refine wIs fun K O=>?_|refine wOs fun K O=>?_|refine wQs fun K O=>?_|refine zW ?_|refine zX ?_|refine zY ?_|refine zL ?_);simp[h1,h2,h3,h4,h4',hl])|(refine wIn ?_;refine And.intro (by kernel_rfl) ?_;try simp only[zZ])|refine zQ ?_|refine zS ?_|((first|refine zI ?_|refine zO ?_|refine zP ?_);try simp)|((first|refine zR ?_|refine wOn ?_|refine wQn ?_);try simp only[zZ])
  ·intro ha st g2
   simp only[blockA_r,thenA_r]
   apply hr
   simp[Tryz.f83,g2,ha]
  ·intro ha st
   simp only[blockA_e,if_true,zZ]
   repeat' first|((first|refine O _ ?_|refine O _ _ ?_|(clear O;refine O _ ?_));clear O)|(refine zJ fun K O=>?_)|((first|refine zH ?_|refine zN rfl (by kernel_rfl) ?_|refine zM ?_|refine zK (by kernel_rfl) ?_);simp only[vZ,vY,strip])|((first|refine wIs fun K O=>?_|refine wOs fun K O=>?_|refine wQs fun K O=>?_|refine zW ?_|refine zX ?_|refine zY ?_|refine zL ?_);simp)|(refine wIn ?_;refine And.intro (by kernel_rfl) ?_;try simp only[zZ])|refine zQ ?_|refine zS ?_|((first|refine zI ?_|refine zO ?_|refine zP ?_);try simp)|((first|refine zR ?_|refine wOn ?_|refine wQn ?_);try simp only[zZ])
   all_goals apply hr
   all_goals simp[Tryz.f83,ha]
theorem isName03_con (l:List UInt8)(hl:l.length<=9223372036854775807):zD Tryz.prog 52 [.p (SB l)] (.p (B (nm l))):=by
 by_cases h1:l=[]
 ·subst h1
  rw[show nm []=false from rfl]
  refine zG Tryz.tab Tryz.mixed Tryz.func52 rfl rfl Tryz.ntmps52 (by simp) (by simp) fun Q hr hn=>?_
  repeat' first|((first|refine O _ ?_|refine O _ _ ?_|(clear O;refine O _ ?_));clear O)|(refine zJ fun K O=>?_)|((first|refine zH ?_|refine zN rfl (by kernel_rfl) ?_|refine zM ?_|refine zK (by kernel_rfl) ?_);simp only[vZ,vY,strip])|((first|refine wIs fun K O=>?_|refine wOs fun K O=>?_|refine wQs fun K O=>?_|refine zW ?_|refine zX ?_|refine zY ?_|refine zL ?_);simp)|(refine wIn ?_;refine And.intro (by kernel_rfl) ?_;try simp only[zZ])|refine zQ ?_|refine zS ?_|((first|refine zI ?_|refine zO ?_|refine zP ?_);try simp)|((first|refine zR ?_|refine wOn ?_|refine wQn ?_);try simp only[zZ])
  all_goals apply hr
  all_goals simp[Tryz.f52]
 by_cases h2:l=[46]
 ·subst h2
  rw[show nm [46]=false from rfl]
  refine zG Tryz.tab Tryz.mixed Tryz.func52 rfl rfl Tryz.ntmps52 (by simp) (by simp) fun Q hr hn=>?_
  repeat' first|((first|refine O _ ?_|refine O _ _ ?_|(clear O;refine O _ ?_));clear O)|(refine zJ fun K O=>?_)|((first|refine zH ?_|refine zN rfl (by kernel_rfl) ?_|refine zM ?_|refine zK (by kernel_rfl) ?_);simp only[vZ,vY,strip])|((first|refine wIs fun K O=>?_|refine wOs fun K O=>?_|refine wQs fun K O=>?_|refine zW ?_|refine zX ?_|refine zY ?_|refine zL ?_);simp)|(refine wIn ?_;refine And.intro (by kernel_rfl) ?_;try simp only[zZ])|refine zQ ?_|refine zS ?_|((first|refine zI ?_|refine zO ?_|refine zP ?_);try simp)|((first|refine zR ?_|refine wOn ?_|refine wQn ?_);try simp only[zZ])
  all_goals apply hr
  all_goals simp[Tryz.f52]
 by_cases h3:l=[46,46]
 ·subst h3
  rw[show nm [46,46]=false from rfl]
  refine zG Tryz.tab Tryz.mixed Tryz.func52 rfl rfl Tryz.ntmps52 (by simp) (by simp) fun Q hr hn=>?_
  repeat' first|((first|refine O _ ?_|refine O _ _ ?_|(clear O;refine O _ ?_));clear O)|(refine zJ fun K O=>?_)|((first|refine zH ?_|refine zN rfl (by kernel_rfl) ?_|refine zM ?_|refine zK (by kernel_rfl) ?_);simp only[vZ,vY,strip])|((first|refine wIs fun K O=>?_|refine wOs fun K O=>?_|refine wQs fun K O=>?_|refine zW ?_|refine zX ?_|refine zY ?_|refine zL ?_);simp)|(refine wIn ?_;refine And.intro (by kernel_rfl) ?_;try simp only[zZ])|refine zQ ?_|refine zS ?_|((first|refine zI ?_|refine zO ?_|refine zP ?_);try simp)|((first|refine zR ?_|refine wOn ?_|refine wQn ?_);try simp only[zZ])
  all_goals apply hr
  all_goals simp[Tryz.f52]
 have hlen:1<=l.length:=List.length_pos_iff.2 h1
 have hlen':¬ (l.length:Int)<1:=by omega
 by_cases h4:16<l.length
 ·have hN:nm l=false:=by simp[nm];omega
  have h4':(16:Int)<l.length:=by omega
  rw[hN]
  refine zG Tryz.tab Tryz.mixed Tryz.func52 rfl rfl Tryz.ntmps52 (by simp) (by simp) fun Q hr hn=>?_
  repeat' first|((first|refine O _ ?_|refine O _ _ ?_|(clear O;refine O _ ?_));clear O)|(refine zJ fun K O=>?_)|((first|refine zH ?_|refine zN rfl (by kernel_rfl) ?_|refine zM ?_|refine zK (by kernel_rfl) ?_);simp only[vZ,vY,strip])|((first|refine wIs fun K O=>?_|refine wOs fun K O=>?_|refine wQs fun K O=>?_|refine zW ?_|refine zX ?_|refine zY ?_|refine zL ?_);simp[h1,h2,h3,h4,h4',hlen'])|(refine wIn ?_;refine And.intro (by kernel_rfl) ?_;try simp only[zZ])|refine zQ ?_|refine zS ?_|((first|refine zI ?_|refine zO ?_|refine zP ?_);try simp)|((first|refine zR ?_|refine wOn ?_|refine wQn ?_);try simp only[zZ])
  all_goals apply hr
  all_goals simp[Tryz.f52]
 ·have hN:nm l=l.all chr:=by
   have:decide (1<=l.length/\l.length<=16/\l ≠ [46]/\l ≠ [46,46])=true:=by simp[h2,h3];omega
   rw[nm,this,Bool.true_and]
  have h4':¬ (16:Int)<l.length:=by omega
  have hlp:=fun {Q} {st} h h' h''=>isNameL2 (Q:=Q) (st:=st) l (by omega) h h' h''
  rw[hN]
  refine zG Tryz.tab Tryz.mixed Tryz.func52 rfl rfl Tryz.ntmps52 (by simp) (by simp) fun Q hr hn=>?_
  repeat' first|(refine hlp ?_ ?_ ⟨by simp,by simp,by simp⟩)|((first|refine O _ ?_|refine O _ _ ?_|(clear O;refine O _ ?_));clear O)|(refine zJ fun K O=>?_)|((first|refine zH ?_|refine zN rfl (by kernel_rfl) ?_|refine zM ?_|refine zK (by kernel_rfl) ?_);simp only[vZ,vY,strip])|((first|refine wIs fun K O=>?_|refine wOs fun K O=>?_|refine wQs fun K O=>?_|refine zW ?_|refine zX ?_|refine zY ?_|refine zL ?_);simp[h1,h2,h3,h4,h4',hlen'])|(refine wIn ?_;refine And.intro (by kernel_rfl) ?_;try simp only[zZ])|refine zQ ?_|refine zS ?_|((first|refine zI ?_|refine zO ?_|refine zP ?_);try simp)|((first|refine zR ?_|refine wOn ?_|refine wQn ?_);try simp only[zZ])
  ·intro ha st g2
   simp only[blockA_r,thenA_r]
   apply hr
   simp[Tryz.f52,g2,ha]
  ·intro ha st
   simp only[blockA_e,if_true,zZ]
   repeat' first|((first|refine O _ ?_|refine O _ _ ?_|(clear O;refine O _ ?_));clear O)|(refine zJ fun K O=>?_)|((first|refine zH ?_|refine zN rfl (by kernel_rfl) ?_|refine zM ?_|refine zK (by kernel_rfl) ?_);simp only[vZ,vY,strip])|((first|refine wIs fun K O=>?_|refine wOs fun K O=>?_|refine wQs fun K O=>?_|refine zW ?_|refine zX ?_|refine zY ?_|refine zL ?_);simp)|(refine wIn ?_;refine And.intro (by kernel_rfl) ?_;try simp only[zZ])|refine zQ ?_|refine zS ?_|((first|refine zI ?_|refine zO ?_|refine zP ?_);try simp)|((first|refine zR ?_|refine wOn ?_|refine wQn ?_);try simp only[zZ])
   all_goals apply hr
   all_goals simp[Tryz.f52,ha]
end Go.Proofs.YtedbbcmokbogpaaGreatDoor
