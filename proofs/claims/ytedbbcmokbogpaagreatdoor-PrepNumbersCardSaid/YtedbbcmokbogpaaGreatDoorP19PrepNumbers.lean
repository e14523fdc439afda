/- Texts that the proof needs: XA XB. -/
import Derived.Test.YtedbbcmokbogpaaGreatDoorP12PrepNumbers
import Derived.Test.YtedbbcmokbogpaaGreatDoorP15PrepNumbers
import Derived.Test.YtedbbcmokbogpaaGreatDoorP17PrepNumbers
import Derived.Test.YtedbbcmokbogpaaGreatDoorP18PrepNumbers
import Derived.WalkKit
namespace Go.Proofs.YtedbbcmokbogpaaGreatDoor
set_option linter.unusedSimpArgs false
set_option linter.unusedVariables false
open Go Go.Av
attribute [local irreducible] Go.Av.yP Go.Av.zU Go.Av.yN Go.Av.zT Go.Av.yO Go.Av.zV Go.Av.Con
abbrev RConX (g:FuncId)(args:List V)(e c:Nat)(l:List (List PV)):Prop:=Con Tryz.prog g args [] (.ret (.row 2048) [.row e c l] [])
theorem cloneM (l:List (List PV))(hl:l.length<=4398046510976):RConX 79 [.p (.sl 4 l)] 61 4 l:=by
 refine wBodyR Tryz.tab Tryz.mixed Tryz.func79 rfl rfl Tryz.ntmps79 rfl (by simp) (by simp) fun Q hr hn=>?_
 repeat' first|(refine wRetG [.row 2 61 4] ?_)|(refine And.intro (by omega) (Or.inl ?_))|(refine And.intro ?_ (fun hnil=>?_))|((first|refine O _ ?_|refine O _ _ ?_|(clear O;refine O _ ?_));clear O)|(refine zJ fun K O=>?_)|((first|refine zH ?_|refine zN rfl (by kernel_rfl) ?_|refine zM ?_|refine zK (by kernel_rfl) ?_);simp only[vZ,vY,strip])|((first|refine wIs fun K O=>?_|refine wOs fun K O=>?_|refine wQs fun K O=>?_|refine zW ?_|refine zX ?_|refine zY ?_|refine zL ?_);simp)|(refine wIn ?_;refine And.intro (by kernel_rfl) ?_;try simp only[zZ])|refine zQ ?_|refine zS ?_|((first|refine zI ?_|refine zO ?_|refine zP ?_);try simp)|((first|refine zR ?_|refine wOn ?_|refine wQn ?_);try simp only[zZ])
 ·refine hr _ 7 (by simp) (by simp) (by omega)
 ·subst hnil
  simp only[thenA_r]
  refine hr _ 2 (by simp) (by simp) (by omega)
theorem cloneZ (l:List (List PV))(hl:l.length<=1000000):RConX 72 [.p (.sl 5 l)] 52 5 l:=by
 refine wBodyR Tryz.tab Tryz.mixed Tryz.func72 rfl rfl Tryz.ntmps72 rfl (by simp) (by simp) fun Q hr hn=>?_
 repeat' first|(refine wRetG [.row 2 52 5] ?_)|(refine And.intro (by omega) (Or.inl ?_))|(refine And.intro ?_ (fun hnil=>?_))|((first|refine O _ ?_|refine O _ _ ?_|(clear O;refine O _ ?_));clear O)|(refine zJ fun K O=>?_)|((first|refine zH ?_|refine zN rfl (by kernel_rfl) ?_|refine zM ?_|refine zK (by kernel_rfl) ?_);simp only[vZ,vY,strip])|((first|refine wIs fun K O=>?_|refine wOs fun K O=>?_|refine wQs fun K O=>?_|refine zW ?_|refine zX ?_|refine zY ?_|refine zL ?_);simp)|(refine wIn ?_;refine And.intro (by kernel_rfl) ?_;try simp only[zZ])|refine zQ ?_|refine zS ?_|((first|refine zI ?_|refine zO ?_|refine zP ?_);try simp)|((first|refine zR ?_|refine wOn ?_|refine wQn ?_);try simp only[zZ])
 ·refine hr _ 7 (by simp) (by simp) (by omega)
 ·subst hnil
  simp only[thenA_r]
  refine hr _ 2 (by simp) (by simp) (by omega)
theorem cloneI (l:List (List PV))(hl:l.length<=1000000):RConX 73 [.p (.sl 1 l)] 3 1 l:=by
 refine wBodyR Tryz.tab Tryz.mixed Tryz.func73 rfl rfl Tryz.ntmps73 rfl (by simp) (by simp) fun Q hr hn=>?_
 repeat' first|(refine wRetG [.row 2 3 1] ?_)|(refine And.intro (by omega) (Or.inl ?_))|(refine And.intro ?_ (fun hnil=>?_))|((first|refine O _ ?_|refine O _ _ ?_|(clear O;refine O _ ?_));clear O)|(refine zJ fun K O=>?_)|((first|refine zH ?_|refine zN rfl (by kernel_rfl) ?_|refine zM ?_|refine zK (by kernel_rfl) ?_);simp only[vZ,vY,strip])|((first|refine wIs fun K O=>?_|refine wOs fun K O=>?_|refine wQs fun K O=>?_|refine zW ?_|refine zX ?_|refine zY ?_|refine zL ?_);simp)|(refine wIn ?_;refine And.intro (by kernel_rfl) ?_;try simp only[zZ])|refine zQ ?_|refine zS ?_|((first|refine zI ?_|refine zO ?_|refine zP ?_);try simp)|((first|refine zR ?_|refine wOn ?_|refine wQn ?_);try simp only[zZ])
 ·refine hr _ 7 (by simp) (by simp) (by omega)
 ·subst hnil
  simp only[thenA_r]
  refine hr _ 2 (by simp) (by simp) (by omega)
theorem ownConfig_con (e n k:Int)(ms:List (List PV))(hl:ms.length<=4398046510976):zD Tryz.prog 62 [.p (.agg [I e,I n,I k,.sl 4 ms])] (.p (.agg [I e,I n,I k,.sl 4 ms])):=by
 have c:=cloneM ms hl
 refine zG Tryz.tab Tryz.mixed Tryz.func62 rfl rfl Tryz.ntmps62 (by simp) (by simp) fun Q hr hn=>?_
 repeat' first|((first|refine O _ ?_|refine O _ _ ?_|(clear O;refine O _ ?_));clear O)|(refine zJ fun K O=>?_)|((first|refine zH ?_|refine zN rfl (by kernel_rfl) ?_|refine zM ?_|refine zK (by kernel_rfl) ?_);simp only[vZ,vY,strip])|((first|refine wIs fun K O=>?_|refine wOs fun K O=>?_|refine wQs fun K O=>?_|refine zW ?_|refine zX ?_|refine zY ?_|refine zL ?_);simp)|(refine wIn ?_;refine And.intro (by kernel_rfl) ?_;try simp only[zZ])|refine zQ ?_|refine zS ?_|((first|refine zI ?_|refine zO ?_|refine zP ?_);try simp)|((first|refine zR ?_|refine wOn ?_|refine wQn ?_);try simp only[zZ])|refine zU.p c rfl ?_|refine zU.l c rfl ?_|refine zT.p c rfl ?_|refine zT.l c rfl ?_|refine zU.o c ?_|refine zV.p c rfl ?_|refine zV.l c rfl ?_|refine zV.o c ?_
 all_goals apply hr
 all_goals simp[Tryz.f62]
theorem ownState_con (ns ss ms:List (List PV))(nx e n k ae an:Int)(h1:ns.length<=1000000)(h2:ss.length<=1000000)(h3:ms.length<=4398046510976) :
 Con Tryz.prog 59 [.p (.agg [.sl 5 ns,.sl 1 ss,I nx,I e,I n,I k,.sl 4 ms,I ae,I an])] [] (.ret (.ag [.p (.sl 5 ns),.row 2048,.p (I nx),.p (I e),.p (I n),.p (I k),.p (.sl 4 ms),.p (I ae),.p (I an)]) [.row 3 1 ss] []):=by
 have c1:=cloneZ ns h1
 have c2:=cloneI ss h2
 have c3:=ownConfig_con e n k ms h3
 refine wBodyG Tryz.tab Tryz.mixed Tryz.func59 rfl rfl Tryz.ntmps59 (by simp) (by simp) fun Q hr hn hp=>?_
 repeat' first|((first|refine O _ ?_|refine O _ _ ?_|(clear O;refine O _ ?_));clear O)|(refine zJ fun K O=>?_)|((first|refine zH ?_|refine zN rfl (by kernel_rfl) ?_|refine zM ?_|refine zK (by kernel_rfl) ?_);simp only[vZ,vY,strip])|((first|refine wIs fun K O=>?_|refine wOs fun K O=>?_|refine wQs fun K O=>?_|refine zW ?_|refine zX ?_|refine zY ?_|refine zL ?_);simp)|(refine wIn ?_;refine And.intro (by kernel_rfl) ?_;try simp only[zZ])|refine zQ ?_|refine zS ?_|((first|refine zI ?_|refine zO ?_|refine zP ?_);try simp)|((first|refine zR ?_|refine wOn ?_|refine wQn ?_);try simp only[zZ])|refine zU.p c1 rfl ?_|refine zU.l c1 rfl ?_|refine zT.p c1 rfl ?_|refine zT.l c1 rfl ?_|refine zU.o c1 ?_|refine zV.p c1 rfl ?_|refine zV.l c1 rfl ?_|refine zV.o c1 ?_|refine zU.p c2 rfl ?_|refine zU.l c2 rfl ?_|refine zT.p c2 rfl ?_|refine zT.l c2 rfl ?_|refine zU.o c2 ?_|refine zV.p c2 rfl ?_|refine zV.l c2 rfl ?_|refine zV.o c2 ?_|refine zU.p c3 rfl ?_|refine zU.l c3 rfl ?_|refine zT.p c3 rfl ?_|refine zT.l c3 rfl ?_|refine zU.o c3 ?_|refine zV.p c3 rfl ?_|refine zV.l c3 rfl ?_|refine zV.o c3 ?_
 all_goals apply hr
 all_goals refine⟨[9],by simp,by simp,?_⟩
 all_goals simp[Tryz.f59,wK,wP,yW]
theorem wrapX (k n:Nat)(h:k<n)(hn:n<=9223372036854775807):IntKind.i64.wrap ((k:Int)+1)=((k+1:Nat):Int):=by
 rw[zF] <;> omega
def zis (l:List Int):List (List PV):=l.map fun x=>[I x]
@[simp] theorem zis_len (l:List Int):(zis l).length=l.length:=by simp[zis]
@[simp] theorem zis_getElem (l:List Int)(k:Nat)(h:k<(zis l).length):(zis l)[k]=[I (l[k]'(by simpa using h))]:=by simp[zis]
theorem zis_get {l:List Int}{k:Nat}(h:k<l.length):(zis l)[k]?=some [I l[k]]:=by simp[zis,h]
theorem zis_set (l:List Int)(k:Nat)(x:Int):(zis l).set k [I x]=zis (l.set k x):=by simp[zis]
theorem zis_take (l:List Int)(k:Nat):(zis l).take k=zis (l.take k):=by simp[zis,List.map_take]
theorem without1_con (x n:Int):Con Tryz.prog 91 [.p (I x),.ptr 1024 0] [.box 3 [.p (I n)]] (.ret (.p (B (decide (x=n)))) [] [.box 3 [.p (I n)]]):=by
 by_cases h:x=n
 all_goals refine wBodyG Tryz.tab Tryz.mixed Tryz.func91 rfl rfl Tryz.ntmps91 (by simp) (by simp) fun Q hr hn hp=>?_
 all_goals repeat' first|((first|refine O _ ?_|refine O _ _ ?_|(clear O;refine O _ ?_));clear O)|(refine zJ fun K O=>?_)|((first|refine zH ?_|refine zN rfl (by kernel_rfl) ?_|refine zM ?_|refine zK (by kernel_rfl) ?_);simp only[vZ,vY,strip])|((first|refine wIs fun K O=>?_|refine wOs fun K O=>?_|refine wQs fun K O=>?_|refine zW ?_|refine zX ?_|refine zY ?_|refine zL ?_);simp[h])|(refine wIn ?_;refine And.intro (by kernel_rfl) ?_;try simp only[zZ])|refine zQ ?_|refine zS ?_|((first|refine zI ?_|refine zO ?_|refine zP ?_);try simp)|((first|refine zR ?_|refine wOn ?_|refine wQn ?_);try simp only[zZ])
 all_goals apply hr
 all_goals refine⟨[],by simp,by simp,?_⟩
 all_goals simp[Tryz.f91,wK,wP,yW,h]
def fi (l:List Int)(n:Int):Nat:=l.findIdx (· == n)
theorem fi_le (l:List Int)(n:Int):fi l n<=l.length:=List.findIdx_le_length
theorem fi_of {l:List Int}{n:Int}{k:Nat}(hk:k<l.length)(h:l[k]=n)(hb:∀j (hj:j<k),¬ l[j]'(by omega)=n):fi l n=k:=by
 unfold fi
 rw[List.findIdx_eq hk]
 exact⟨by simpa using h,fun j hj=>by simpa using hb j hj⟩
theorem fi_none {l:List Int}{n:Int}(hb:∀j (hj:j<l.length),¬ l[j]=n):fi l n=l.length:=by
 unfold fi
 rw[List.findIdx_eq_length]
 intro x hx
 obtain⟨j,hj,rfl⟩:=List.getElem_of_mem hx
 simpa using hb j hj
def fiV (l:List Int)(n:Int):Int:=if fi l n=l.length then -1 else fi l n
theorem indexF_con (l:List Int)(n:Int)(hl:l.length<=1000000) :
 Con Tryz.prog 106 [.p (.sl 1 (zis l)),.clo ⟨91,false⟩ [.box 1024]] [.box 3 [.p (I n)]] (.ret (.p (I (fiV l n))) [] [.box 3 [.p (I n)]]):=by
 refine wBodyG Tryz.tab Tryz.mixed Tryz.func106 rfl rfl Tryz.ntmps106 (by simp) (by simp) fun Q hr hn hp=>?_
 repeat' first|((first|refine O _ ?_|refine O _ _ ?_|(clear O;refine O _ ?_));clear O)|(refine zJ fun K O=>?_)|((first|refine zH ?_|refine zN rfl (by kernel_rfl) ?_|refine zM ?_|refine zK (by kernel_rfl) ?_);simp only[vZ,vY,strip])|((first|refine wIs fun K O=>?_|refine wOs fun K O=>?_|refine wQs fun K O=>?_|refine zW ?_|refine zX ?_|refine zY ?_|refine zL ?_);simp)|(refine wIn ?_;refine And.intro (by kernel_rfl) ?_;try simp only[zZ])|refine zQ ?_|refine zS ?_|((first|refine zI ?_|refine zO ?_|refine zP ?_);try simp)|((first|refine zR ?_|refine wOn ?_|refine wQn ?_);try simp only[zZ])
 refine yT (fun N st=>∃k,k+N=l.length/\st.s 0=.p (.sl 1 (zis l))/\st.s 1=.clo ⟨91,false⟩ [.box 1024]/\st.s 7=.p (I l.length)/\st.s 8=.p (I k)/\st.b 1024=some (.box 3 [.p (I n)])/\∀j (hj:j<k)(hjl:j<l.length),¬ l[j]=n) l.length ⟨0,by simp⟩ fun K N st hL ⟨k,hk,g0,g1,g7,g8,b1,hi⟩=>?_
 by_cases hlt:k<l.length
 ·have hw:=wrapX k _ hlt (by omega)
  have he:=zis_get hlt
  have hx:=without1_con l[k] n
  by_cases o:l[k]=n
  ·have hf:fiV l n=k:=by
    have:=fi_of hlt o fun j hj=>hi j hj (by omega)
    unfold fiV;rw[this,if_neg (by omega)]
   rw[hf] at hr
   replace o:decide (l[k]=n)=true:=decide_eq_true o
   rw[o] at hx
   repeat' first|(refine CallK_read [1024] hx (by decide) (by decide) (by simp[b1]) (by simp[xB,zC,inN,pos,yY,yJ]) rfl ?_;simp[g0,g1,g7,g8,b1])|((first|refine O _ ?_|refine O _ _ ?_|(clear O;refine O _ ?_));clear O)|(refine zJ fun K O=>?_)|((first|refine zH ?_|refine zN rfl (by kernel_rfl) ?_|refine zM ?_|refine zK (by kernel_rfl) ?_);simp only[vZ,vY,strip])|((first|refine wIs fun K O=>?_|refine wOs fun K O=>?_|refine wQs fun K O=>?_|refine zW ?_|refine zX ?_|refine zY ?_|refine zL ?_);simp[g0,g1,g7,g8,b1,hlt,hw,he])|(refine wIn ?_;refine And.intro (by kernel_rfl) ?_;try simp only[zZ])|refine zQ ?_|refine zS ?_|((first|refine zI ?_|refine zO ?_|refine zP ?_);try simp)|((first|refine zR ?_|refine wOn ?_|refine wQn ?_);try simp only[zZ])
   all_goals apply hr
   all_goals refine⟨[],by simp,by simp,?_⟩
   all_goals simp[Tryz.f106,wK,wP,yW,g0,g1,g7,g8,b1]
  ·have o':decide (l[k]=n)=false:=decide_eq_false o
   rw[o'] at hx
   repeat' first|(refine CallK_read [1024] hx (by decide) (by decide) (by simp[b1]) (by simp[xB,zC,inN,pos,yY,yJ]) rfl ?_;simp[g0,g1,g7,g8,b1])|((first|refine O _ ?_|refine O _ _ ?_|(clear O;refine O _ ?_));clear O)|(refine zJ fun K O=>?_)|((first|refine zH ?_|refine zN rfl (by kernel_rfl) ?_|refine zM ?_|refine zK (by kernel_rfl) ?_);simp only[vZ,vY,strip])|((first|refine wIs fun K O=>?_|refine wOs fun K O=>?_|refine wQs fun K O=>?_|refine zW ?_|refine zX ?_|refine zY ?_|refine zL ?_);simp[g0,g1,g7,g8,b1,hlt,hw,he])|(refine wIn ?_;refine And.intro (by kernel_rfl) ?_;try simp only[zZ])|refine zQ ?_|refine zS ?_|((first|refine zI ?_|refine zO ?_|refine zP ?_);try simp)|((first|refine zR ?_|refine wOn ?_|refine wQn ?_);try simp only[zZ])
   refine hL _ (N-1) (by omega) ⟨k+1,by omega,?_⟩
   simp[g0,g1,g7,g8,b1,hw]
   intro j hj hjl
   by_cases hjk:j=k
   ·subst hjk;exact o
   ·exact hi j (by omega) hjl
 ·have hf:fiV l n = -1:=by
   have:=fi_none (l:=l) (n:=n) fun j hj=>hi j (by omega) hj
   unfold fiV;rw[if_pos this]
  rw[hf] at hr
  repeat' first|((first|refine O _ ?_|refine O _ _ ?_|(clear O;refine O _ ?_));clear O)|(refine zJ fun K O=>?_)|((first|refine zH ?_|refine zN rfl (by kernel_rfl) ?_|refine zM ?_|refine zK (by kernel_rfl) ?_);simp only[vZ,vY,strip])|((first|refine wIs fun K O=>?_|refine wOs fun K O=>?_|refine wQs fun K O=>?_|refine zW ?_|refine zX ?_|refine zY ?_|refine zL ?_);simp[g0,g1,g7,g8,b1,hlt])|(refine wIn ?_;refine And.intro (by kernel_rfl) ?_;try simp only[zZ])|refine zQ ?_|refine zS ?_|((first|refine zI ?_|refine zO ?_|refine zP ?_);try simp)|((first|refine zR ?_|refine wOn ?_|refine wQn ?_);try simp only[zZ])
  all_goals apply hr
  all_goals refine⟨[],by simp,by simp,?_⟩
  all_goals simp[Tryz.f106,wK,wP,yW,g0,g1,g7,g8,b1]
def but (l:List Int)(n:Int):List Int:=l.filter fun x => !decide (x=n)
theorem but_snoc {l:List Int}{k:Nat}(h:k<l.length)(n:Int):but (l.take (k+1)) n=if l[k]=n then but (l.take k) n else but (l.take k) n++[l[k]]:=by
 rw[List.take_succ_eq_append_getElem h]
 unfold but
 rw[List.filter_append]
 by_cases g:l[k]=n <;> simp[g]
theorem but_len (l:List Int)(n:Int):(but l n).length<=l.length:=List.length_filter_le _ _
theorem but_id {l:List Int}{n:Int}(h:fi l n=l.length):but l n=l:=by
 unfold fi at h
 rw[List.findIdx_eq_length] at h
 unfold but
 rw[List.filter_eq_self]
 intro x hx
 have:=h x hx
 simpa using this
theorem but_fi {l:List Int}{n:Int}(h:fi l n<l.length):but (l.take (fi l n+1)) n=l.take (fi l n):=by
 have h1:l[fi l n]=n:=by
  have:=List.findIdx_getElem (p:=(· == n)) (xs:=l) (w:=h)
  exact eq_of_beq this
 rw[but_snoc h,if_pos h1]
 unfold but
 rw[List.filter_eq_self]
 intro x hx
 obtain⟨j,hj,rfl⟩:=List.getElem_of_mem hx
 rw[List.getElem_take]
 have hj':j<fi l n:=by simp at hj;omega
 have:=List.not_of_lt_findIdx (p:=(· == n)) (xs:=l) hj'
 simpa using this
set_option maxHeartbeats 1000000 in
theorem deleteF_con (l:List Int)(n:Int)(hl:l.length<=1000000) :
 Con Tryz.prog 90 [.row 1024,.clo ⟨91,false⟩ [.box 1025]] [.row 3 1 (zis l),.box 3 [.p (I n)]] (.ret (.row 1024) [] [.row 3 1 (zis (but l n)),.box 3 [.p (I n)]]):=by
 have hc:=indexF_con l n hl
 by_cases hf:fi l n=l.length
 ·have hv:fiV l n = -1:=by unfold fiV;rw[if_pos hf]
  rw[hv] at hc
  rw[but_id hf]
  refine wBodyG Tryz.tab Tryz.mixed Tryz.func90 rfl rfl Tryz.ntmps90 (by simp) (by simp) fun Q hr hn hp=>?_
  repeat' first|(refine CallK_read [1025] hc (by decide) (by decide) (by simp[]) (by simp[xB,zC,inN,pos,yY,yJ]) rfl ?_;simp[])|((first|refine O _ ?_|refine O _ _ ?_|(clear O;refine O _ ?_));clear O)|(refine zJ fun K O=>?_)|((first|refine zH ?_|refine zN rfl (by kernel_rfl) ?_|refine zM ?_|refine zK (by kernel_rfl) ?_);simp only[vZ,vY,strip])|((first|refine wIs fun K O=>?_|refine wOs fun K O=>?_|refine wQs fun K O=>?_|refine zW ?_|refine zX ?_|refine zY ?_|refine zL ?_);simp)|(refine wIn ?_;refine And.intro (by kernel_rfl) ?_;try simp only[zZ])|refine zQ ?_|refine zS ?_|((first|refine zI ?_|refine zO ?_|refine zP ?_);try simp)|((first|refine zR ?_|refine wOn ?_|refine wQn ?_);try simp only[zZ])
  all_goals apply hr
  all_goals refine⟨[],by simp,by simp,?_⟩
  all_goals simp[Tryz.f90,wK,wP,yW,gaN]
 ·have hlt0:fi l n<l.length:=Nat.lt_of_le_of_ne (fi_le l n) hf
  have hv:fiV l n=fi l n:=by unfold fiV;rw[if_neg hf]
  have hne:¬ ((fi l n:Nat):Int) = -1:=by omega
  have hw0:=wrapX (fi l n) _ hlt0 (by omega)
  rw[hv] at hc
  have hst:=but_fi hlt0
  generalize fi l n=i0 at *
  refine wBodyG Tryz.tab Tryz.mixed Tryz.func90 rfl rfl Tryz.ntmps90 (by simp) (by simp) fun Q hr hn hp=>?_
  repeat' first|(refine CallK_read [1025] hc (by decide) (by decide) (by simp[]) (by simp[xB,zC,inN,pos,yY,yJ]) rfl ?_;simp[])|((first|refine O _ ?_|refine O _ _ ?_|(clear O;refine O _ ?_));clear O)|(refine zJ fun K O=>?_)|((first|refine zH ?_|refine zN rfl (by kernel_rfl) ?_|refine zM ?_|refine zK (by kernel_rfl) ?_);simp only[vZ,vY,strip])|((first|refine wIs fun K O=>?_|refine wOs fun K O=>?_|refine wQs fun K O=>?_|refine zW ?_|refine zX ?_|refine zY ?_|refine zL ?_);simp[hne,hw0])|(refine wIn ?_;refine And.intro (by kernel_rfl) ?_;try simp only[zZ])|refine zQ ?_|refine zS ?_|((first|refine zI ?_|refine zO ?_|refine zP ?_);try simp)|((first|refine zR ?_|refine wOn ?_|refine wQn ?_);try simp only[zZ])
  refine yT (fun N st=>∃ (i j:Nat)(L:List Int),j+N=l.length/\i<j/\L.length=l.length/\but (l.take j) n=L.take i/\(∀q,j<=q->L[q]?=l[q]?)/\st.s 0=.row 1024/\st.s 1=.clo ⟨91,false⟩ [.box 1025]/\st.s 5=.p (I i)/\st.s 6=.p (I j)/\st.b 1024=some (.row 3 1 (zis L))/\st.b 1025=some (.box 3 [.p (I n)])) (l.length-(i0+1)) ⟨i0,i0+1,l,by omega,by omega,rfl,hst,fun _ _=>rfl,by simp⟩ fun K N st hL ⟨i,j,L,hk,hij,hLl,hB,hT,g0,g1,g5,g6,b0,b1⟩=>?_
  by_cases hlt:j<l.length
  ·have hw:=wrapX j _ hlt (by omega)
   have hwi:=wrapX i l.length (by omega) (by omega)
   have hjL:j<L.length:=by omega
   have hiL:i<L.length:=by omega
   have he:=zis_get hjL
   have hej:L[j]=l[j]:=by
    have:=hT j (Nat.le_refl _)
    rw[List.getElem?_eq_getElem hjL,List.getElem?_eq_getElem hlt] at this
    simpa using this
   have hei:=zis_get hiL
   have hil:i<l.length:=by omega
   have hx:=without1_con L[j] n
   have hs:=but_snoc hlt n
   rw[<- hej] at hs
   have hset:=zis_set L i L[j]
   by_cases o:L[j]=n
   ·rw[if_pos o] at hs
    replace o:decide (L[j]=n)=true:=decide_eq_true o
    rw[o] at hx
    repeat' first|(refine CallK_read [1025] hx (by decide) (by decide) (by simp[b1]) (by simp[xB,zC,inN,pos,yY,yJ]) rfl ?_;simp[g0,g1,g5,g6,b0,b1])|((first|refine O _ ?_|refine O _ _ ?_|(clear O;refine O _ ?_));clear O)|(refine zJ fun K O=>?_)|((first|refine zH ?_|refine zN rfl (by kernel_rfl) ?_|refine zM ?_|refine zK (by kernel_rfl) ?_);simp only[vZ,vY,strip])|((first|refine wIs fun K O=>?_|refine wOs fun K O=>?_|refine wQs fun K O=>?_|refine zW ?_|refine zX ?_|refine zY ?_|refine zL ?_);simp[g0,g1,g5,g6,b0,b1,hlt,hw,he,hLl,hjL])|(refine wIn ?_;refine And.intro (by kernel_rfl) ?_;try simp only[zZ])|refine zQ ?_|refine zS ?_|((first|refine zI ?_|refine zO ?_|refine zP ?_);try simp)|((first|refine zR ?_|refine wOn ?_|refine wQn ?_);try simp only[zZ])
    refine hL _ (N-1) (by omega) ⟨i,j+1,L,by omega,by omega,hLl,by rw[hs];exact hB,fun q hq=>hT q (by omega),?_⟩
    simp[g0,g1,g5,g6,b0,b1,hw]
   ·rw[if_neg o,hB] at hs
    replace o:decide (L[j]=n)=false:=decide_eq_false o
    rw[o] at hx
    repeat' first|(refine CallK_read [1025] hx (by decide) (by decide) (by simp[b1]) (by simp[xB,zC,inN,pos,yY,yJ]) rfl ?_;simp[g0,g1,g5,g6,b0,b1])|((first|refine O _ ?_|refine O _ _ ?_|(clear O;refine O _ ?_));clear O)|(refine zJ fun K O=>?_)|((first|refine zH ?_|refine zN rfl (by kernel_rfl) ?_|refine zM ?_|refine zK (by kernel_rfl) ?_);simp only[vZ,vY,strip])|((first|refine wIs fun K O=>?_|refine wOs fun K O=>?_|refine wQs fun K O=>?_|refine zW ?_|refine zX ?_|refine zY ?_|refine zL ?_);simp[g0,g1,g5,g6,b0,b1,hlt,hw,hwi,he,hei,hLl,hjL,hiL,hil,hset])|(refine wIn ?_;refine And.intro (by kernel_rfl) ?_;try simp only[zZ])|refine zQ ?_|refine zS ?_|((first|refine zI ?_|refine zO ?_|refine zP ?_);try simp)|((first|refine zR ?_|refine wOn ?_|refine wQn ?_);try simp only[zZ])
    refine hL _ (N-1) (by omega) ⟨i+1,j+1,L.set i L[j],by omega,by omega,by simpa using hLl,?_,fun q hq=>?_,?_⟩
    ·rw[hs,List.take_succ_eq_append_getElem (by simpa using hiL),List.take_set_of_le (Nat.le_refl _),List.getElem_set_self]
    ·rw[List.getElem?_set_ne (by omega)];exact hT q (by omega)
    ·simp[g0,g1,g5,g6,b0,b1,hw,hwi,hset]
  ·obtain rfl:j=l.length:=by omega
   rw[List.take_of_length_le (Nat.le_refl _)] at hB
   have hiL:i<L.length:=by omega
   have hiL':i<=L.length:=by omega
   have hil2:i<=l.length:=by omega
   have ht:=zis_take L i
   have hfin:∀z:List (List PV),(List.take i (zis L)++z).take i=zis (but l n):=fun z=>by
    have h1:(zis L).take i=zis (L.take i):=zis_take L i
    rw[h1,hB,List.take_append_of_le_length (by simp;omega),List.take_of_length_le (by simp;omega)]
   repeat' first|(refine And.intro (by (try simp);omega) ?_)|((first|refine O _ ?_|refine O _ _ ?_|(clear O;refine O _ ?_));clear O)|(refine zJ fun K O=>?_)|((first|refine zH ?_|refine zN rfl (by kernel_rfl) ?_|refine zM ?_|refine zK (by kernel_rfl) ?_);simp only[vZ,vY,strip])|((first|refine wIs fun K O=>?_|refine wOs fun K O=>?_|refine wQs fun K O=>?_|refine zW ?_|refine zX ?_|refine zY ?_|refine zL ?_);simp[g0,g1,g5,g6,b0,b1,hLl,hiL,hiL',hil2,hij])|(refine wIn ?_;refine And.intro (by kernel_rfl) ?_;try simp only[zZ])|refine zQ ?_|refine zS ?_|((first|refine zI ?_|refine zO ?_|refine zP ?_);try simp)|((first|refine zR ?_|refine wOn ?_|refine wQn ?_);try simp only[zZ])
   all_goals (try rw[hfin])
   repeat' first|((first|refine O _ ?_|refine O _ _ ?_|(clear O;refine O _ ?_));clear O)|(refine zJ fun K O=>?_)|((first|refine zH ?_|refine zN rfl (by kernel_rfl) ?_|refine zM ?_|refine zK (by kernel_rfl) ?_);simp only[vZ,vY,strip])|((first|refine wIs fun K O=>?_|refine wOs fun K O=>?_|refine wQs fun K O=>?_|refine zW ?_|refine zX ?_|refine zY ?_|refine zL ?_);simp)|(refine wIn ?_;refine And.intro (by kernel_rfl) ?_;try simp only[zZ])|refine zQ ?_|refine zS ?_|((first|refine zI ?_|refine zO ?_|refine zP ?_);try simp)|((first|refine zR ?_|refine wOn ?_|refine wQn ?_);try simp only[zZ])
   all_goals apply hr
   all_goals refine⟨[],by simp,by simp,?_⟩
   all_goals simp[Tryz.f90,wK,wP,yW,gaN,b1,hfin,hB,ht]
end Go.Proofs.YtedbbcmokbogpaaGreatDoor
