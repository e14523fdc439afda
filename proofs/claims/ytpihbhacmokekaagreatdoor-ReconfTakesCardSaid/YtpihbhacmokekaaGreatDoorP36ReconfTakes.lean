/- Texts that the proof needs: AvNil. -/
import Derived.Test.YtpihbhacmokekaaGreatDoorP14ReconfTakes
namespace Go.Av
open Go
inductive WkC:PV->PV->Prop
 |same (p:PV):WkC p p
 |nil (c:Nat):WkC (.v (.slice none 0 0)) (.sl c [])
def wkL:List PV->List PV->Prop
 |[],[]=>True
 |p::l,q::r=>WkC p q/\wkL l r
 |_,_=>False
inductive Wk:V->V->Prop
 |same (v:V):Wk v v
 |nil (c:Nat):Wk (.p (.v (.slice none 0 0))) (.p (.sl c []))
 |agg (l r:List PV)(h:wkL l r):Wk (.p (.agg l)) (.p (.agg r))
def wkVs:List V->List V->Prop
 |[],[]=>True
 |p::l,q::r=>Wk p q/\wkVs l r
 |_,_=>False
theorem wkL_get:∀ {l r:List PV},wkL l r->l.length=r.length/\∀ (j:Nat)(q:PV),r[j]?=some q->∃p,l[j]?=some p/\WkC p q
 |[],[],_=>by simp
 |[],_::_,h=>h.elim
 |_::_,[],h=>h.elim
 |p::l,q::r,h=>by
  obtain⟨h1,h2⟩:=wkL_get h.2
  refine⟨by simp[h1],fun j x hj=>?_⟩
  cases j with
  |zero=>simp at hj;subst hj;exact⟨p,rfl,h.1⟩
  |succ j=>simpa using h2 j x (by simpa using hj)
theorem wkVs_get:∀ {l r:List V},wkVs l r->l.length=r.length/\∀ (j:Nat)(q:V),r[j]?=some q->∃p,l[j]?=some p/\Wk p q
 |[],[],_=>by simp
 |[],_::_,h=>h.elim
 |_::_,[],h=>h.elim
 |p::l,q::r,h=>by
  obtain⟨h1,h2⟩:=wkVs_get h.2
  refine⟨by simp[h1],fun j x hj=>?_⟩
  cases j with
  |zero=>simp at hj;subst hj;exact⟨p,rfl,h.1⟩
  |succ j=>simpa using h2 j x (by simpa using hj)
theorem RP.wkC {w:World}{G:Nat->Prop}{p q:PV}{x:Value}(hw:WkC p q)(h:RP w G p x):RP w G q x:=by
 cases hw with
 |same=>exact h
 |nil c=>cases h;exact .nil c
theorem WkC.one {p q:PV}(h:WkC p q)(hp:p.one=true):q.one=true:=by
 cases h with
 |same=>exact hp
 |nil c=>rfl
theorem RV0.wk {w:World}{G:Nat->Prop}{m:Nm}{v v':V}{x:Value}(hw:Wk v v')(h:RV0 w G m v x):RV0 w G m v' x:=by
 cases hw with
 |same=>exact h
 |nil c=>exact RP.wkC (.nil c) h
 |agg l r hl =>
  obtain⟨h1,h2⟩:=wkL_get hl
  have h':RP w G (.agg l) x:=h
  cases h' with
  |agg _ cs u hs hone hcell hr =>
   refine RP.agg r cs u (by rw[hs,h1]) (fun j q hj=>?_) (fun j q hj=>?_) (fun j q hj=>?_)
   ·obtain⟨p,hp,hw⟩:=h2 j q hj;exact hw.one (hone j p hp)
   ·obtain⟨p,hp,hw⟩:=h2 j q hj;exact hcell j p hp
   ·obtain⟨p,hp,hw⟩:=h2 j q hj;exact RP.wkC hw (hr j p hp)
theorem Con.wkA [Glob]{P:Program}{g:FuncId}{args args':List V}{β:List Blk}{out:Out}(h:Con P g args β out)(hw:wkVs args' args):Con P g args' β out :=
 fun F w m xs hp hl ha=>by
  obtain⟨h1,h2⟩:=wkVs_get hw
  refine h F w m xs hp (by omega) fun i v hv=>?_
  obtain⟨p,h3,h4⟩:=h2 i v hv
  obtain⟨x,hx,hr⟩:=ha i p h3
  exact⟨x,hx,RV0.wk h4 hr⟩
theorem zE.wkR [Glob]{P:Program}{g:FuncId}{args:List V}{p q:PV}(h:zE P g args (.p p))(hw:Wk (.p p) (.p q)):zE P g args (.p q) :=
 fun F w m xs hp hl ha=>(h F w m xs hp hl ha).mono fun en w' ⟨hk,ho⟩=>by
  obtain⟨x,m',he,hp',how,hnm,hv⟩:=ho
  exact⟨hk,x,m',he,hp',how,hnm,.of0 (v:=.p q) (RV0.wk hw (show RV0 _ _ _ (.p p) x from hv))⟩
end Go.Av
