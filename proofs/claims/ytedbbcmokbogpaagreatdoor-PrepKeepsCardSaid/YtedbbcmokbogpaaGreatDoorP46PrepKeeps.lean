/- XQ PRH PRI. -/
import Derived.Test.YtedbbcmokbogpaaGreatDoorP32PrepKeeps
import Derived.Test.YtedbbcmokbogpaaGreatDoorP31PrepKeeps
import Derived.Test.YtedbbcmokbogpaaGreatDoorP45PrepKeeps
namespace Go.Proofs.YtedbbcmokbogpaaGreatDoor
set_option linter.unusedSimpArgs false
set_option linter.unusedVariables false
open Go Go.Av
abbrev up (l:List Int):Prop:=l.Pairwise (· < ·)
theorem insI_cons (x:Int)(l:List Int)(s:Int):insI (x::l) s=if x<s then x::insI l s else s::but (x::l) s:=by
 by_cases h:x<s
 ·have hb:but (x::l) s=x::but l s:=by
   unfold but;rw[List.filter_cons_of_pos (by simp;omega)]
  rw[if_pos h]
  unfold insI
  rw[hb,show atI (x::l) s=atI l s+1 by rw[atI,if_pos h]]
  rfl
 ·rw[if_neg h]
  unfold insI
  rw[show atI (x::l) s=0 by rw[atI,if_neg h]]
  rfl
theorem mem_but {l:List Int}{s x:Int}:x∈but l s ↔ x∈l/\¬ x=s:=by
 unfold but;simp[List.mem_filter]
theorem mem_insI {s x:Int}:∀ {l:List Int},x∈insI l s ↔ x=s\/x∈l
 |[]=>by simp[insI,atI,but]
 |y::l=>by
  rw[insI_cons]
  by_cases h:y<s
  ·rw[if_pos h,List.mem_cons,mem_insI,List.mem_cons]
   constructor
   ·rintro (h1|h1|h1) <;> simp[h1]
   ·rintro (h1|h1|h1) <;> simp[h1]
  ·rw[if_neg h,List.mem_cons,mem_but]
   constructor
   ·rintro (h1|h1)
    ·exact .inl h1
    ·exact .inr h1.1
   ·rintro (h1|h1)
    ·exact .inl h1
    ·by_cases h2:x=s
     ·exact .inl h2
     ·exact .inr ⟨h1,h2⟩
theorem up_but {l:List Int}(h:up l)(s:Int):up (but l s):=h.sublist List.filter_sublist
theorem up_insI {s:Int}:∀ {l:List Int},up l->up (insI l s)
 |[],_=>by simp[insI,atI,but,up]
 |y::l,h=>by
  rw[insI_cons]
  have h':=List.pairwise_cons.1 h
  by_cases hy:y<s
  ·rw[if_pos hy]
   refine List.pairwise_cons.2 ⟨fun x hx=>?_,up_insI h'.2⟩
   rcases mem_insI.1 hx with rfl|hx
   ·exact hy
   ·exact h'.1 x hx
  ·rw[if_neg hy]
   refine List.pairwise_cons.2 ⟨fun x hx=>?_,up_but h s⟩
   obtain⟨h1,h2⟩:=mem_but.1 hx
   rcases List.mem_cons.1 h1 with rfl|h1
   ·omega
   ·have:=h'.1 x h1;omega
theorem up_ext:∀ {a b:List Int},up a->up b->(∀x,x∈a ↔ x∈b)->a=b
 |[],[],_,_,_=>rfl
 |[],y::b,_,_,h=>by have:=(h y).2 (by simp);simp at this
 |x::a,[],_,_,h=>by have:=(h x).1 (by simp);simp at this
 |x::a,y::b,ha,hb,h=>by
  have ha':=List.pairwise_cons.1 ha
  have hb':=List.pairwise_cons.1 hb
  have e:x=y:=by
   have h1:=(h x).1 (by simp)
   have h2:=(h y).2 (by simp)
   rcases List.mem_cons.1 h1 with h1|h1
   ·exact h1
   ·rcases List.mem_cons.1 h2 with h2|h2
    ·exact h2.symm
    ·have:=ha'.1 y h2
     have:=hb'.1 x h1
     omega
  subst e
  rw[up_ext ha'.2 hb'.2 fun w=>?_]
  have hw:=h w
  simp only[List.mem_cons] at hw
  constructor
  ·intro h1
   rcases hw.1 (.inr h1) with rfl|h2
   ·have:=ha'.1 w h1;omega
   ·exact h2
  ·intro h1
   rcases hw.2 (.inr h1) with rfl|h2
   ·have:=hb'.1 w h1;omega
   ·exact h2
inductive Nx where
 |put (z:Zn)
 |gone (p:List UInt8)
 |no
def Nx.go (l:List Zn):Nx->List Zn
 |.put z=>xU l z
 |.gone p=>Go.Proofs.YtedbbcmokbogpaaGreatDoor.xE l p
 |.no=>l
theorem nxRis {l:List Zn}(h:ris l)(a:Nx):ris (Nx.go l a):=by
 cases a with
 |put z=>exact ris_put h z
 |gone p=>exact ris_gone h p
 |no=>exact h
def Nx.fnd (r:Zn × Bool)(w:List UInt8):Nx->Zn × Bool
 |.put z=>if z.p=w then (z,true) else r
 |.gone p=>if w=p then (zz,false) else r
 |.no=>r
theorem Nx.fnd_go (l:List Zn)(a:Nx)(w:List UInt8):Go.Proofs.YtedbbcmokbogpaaGreatDoor.fnd (Nx.go l a) w=Nx.fnd (Go.Proofs.YtedbbcmokbogpaaGreatDoor.fnd l w) w a:=by
 cases a with
 |put z=>exact fnd_put l z w
 |gone p=>exact fnd_gone l p w
 |no=>rfl
theorem Nx.abs {l:List Zn}(h:Go.Proofs.YtedbbcmokbogpaaGreatDoor.ris l)(f g:Nx):Nx.go (Nx.go (Nx.go l f) g) f=Nx.go (Nx.go l g) f:=by
 refine ris_ext (nxRis (nxRis (nxRis h f) g) f) (nxRis (nxRis h g) f) fun w=>?_
 simp only[Nx.fnd_go]
 generalize Go.Proofs.YtedbbcmokbogpaaGreatDoor.fnd l w=r
 cases f <;> cases g <;> simp only[Nx.fnd] <;> (repeat' split) <;> first|rfl|simp_all
inductive Sx where
 |op (n:Int)
 |cl (n:Int)
 |no
def Sx.go (l:List Int):Sx->List Int
 |.op n=>opnL l n
 |.cl n=>but l n
 |.no=>l
theorem sxUp {l:List Int}(h:up l)(a:Sx):up (Sx.go l a):=by
 cases a with
 |op n =>
  show up (opnL l n)
  unfold opnL
  split
  ·exact up_insI h
  ·exact h
 |cl n=>exact up_but h n
 |no=>exact h
def Sx.has (b:Prop)(x:Int):Sx->Prop
 |.op n=>if okS n=true then x=n\/b else b
 |.cl n=>b/\¬ x=n
 |.no=>b
theorem Sx.mem_go (l:List Int)(a:Sx)(x:Int):x∈Sx.go l a ↔ Sx.has (x∈l) x a:=by
 cases a with
 |op n =>
  show x∈opnL l n ↔ if okS n=true then x=n\/x∈l else x∈l
  unfold opnL
  split
  ·exact mem_insI
  ·exact Iff.rfl
 |cl n=>exact mem_but
 |no=>exact Iff.rfl
theorem Sx.abs {l:List Int}(h:up l)(f g:Sx):Sx.go (Sx.go (Sx.go l f) g) f=Sx.go (Sx.go l g) f:=by
 refine up_ext (sxUp (sxUp (sxUp h f) g) f) (sxUp (sxUp h g) f) fun x=>?_
 simp only[Sx.mem_go]
 generalize (x∈l)=b
 cases f <;> cases g <;> simp only[Sx.has] <;> (repeat' split) <;> (by_cases hb:b <;> simp[hb] <;> (try omega))
def Mx (a:Int):Option Int->Int
 |some b=>max a b
 |none=>a
theorem Mx.abs (a:Int)(f g:Option Int):Mx (Mx (Mx a f) g) f=Mx (Mx a g) f:=by
 cases f <;> cases g <;> simp only[Mx] <;> omega
def Zj (a:Zx):Option Zx->Zx
 |some b=>lastZ [a,b]
 |none=>a
theorem lastZ_two (a b:Zx):lastZ [a,b]=if 0<zcmp b.e b.n a.e a.n then b else a:=rfl
theorem Zj.abs (a:Zx)(f g:Option Zx):Zj (Zj (Zj a f) g) f=Zj (Zj a g) f:=by
 cases f <;> cases g <;> simp only[Zj,lastZ_two,zcmp_pos]
 ·split <;> simp_all
 ·rename_i x y
  obtain⟨a1,a2⟩:=a
  obtain⟨x1,x2⟩:=x
  obtain⟨y1,y2⟩:=y
  (repeat' split) <;> simp only[Zx.mk.injEq] at * <;> omega
def Cx (a:Cf):Option Cf->Cf
 |some b=>b
 |none=>a
inductive Act1 where
 |part (p:Pt)
 |late (e n:Int)
def Act1.n:Act1->Nx
 |.part p=>if p.k=1 then .put p.z else if p.k=2 then .gone p.z.p else .no
 |.late _ _=>.no
def Act1.s:Act1->Sx
 |.part p=>if p.k=3 then .op p.s else if p.k=4 then .cl p.s else .no
 |.late _ _=>.no
def Act1.m:Act1->Option Int
 |.part p=>if p.k=3/\okS p.s=true then some (p.s+1) else none
 |.late _ _=>none
def Act1.c:Act1->Option Cf
 |.part p=>if p.k=5 then some p.c else none
 |.late _ _=>none
def Act1.z:Act1->Option Zx
 |.part _=>none
 |.late e n=>some ⟨e,n⟩
def mkS (ns:List Zn)(ss:List Int)(nx:Int)(c:Cf)(z:Zx):Sv:=⟨ns,ss,nx,c,z.e,z.n⟩
def act1 (s:Sv)(a:Act1):Sv:=mkS (Nx.go s.ns a.n) (Sx.go s.ss a.s) (Mx s.nx a.m) (Cx s.c a.c) (Zj ⟨s.ae,s.an⟩ a.z)
theorem act1_part (s:Sv)(p:Pt):act1 s (.part p)=yU s p:=by
 obtain⟨ns,ss,nx,c,ae,an⟩:=s
 unfold act1 yU mkS Act1.n Act1.s Act1.m Act1.c Act1.z
 by_cases k1:p.k=1
 ·simp[k1,Nx.go,Sx.go,Mx,Cx,Zj]
 by_cases k2:p.k=2
 ·simp[k2,Nx.go,Sx.go,Mx,Cx,Zj]
 by_cases k3:p.k=3
 ·by_cases ho:okS p.s=true
  ·simp[k3,ho,Nx.go,Sx.go,Mx,Cx,Zj,opnN]
  ·simp[k3,ho,Nx.go,Sx.go,Mx,Cx,Zj,opnN]
 by_cases k4:p.k=4
 ·simp[k4,Nx.go,Sx.go,Mx,Cx,Zj]
 by_cases k5:p.k=5
 ·simp[k5,Nx.go,Sx.go,Mx,Cx,Zj]
 simp[k1,k2,k3,k4,k5,Nx.go,Sx.go,Mx,Cx,Zj]
structure Inv (s:Sv):Prop where
 ns:ris s.ns
 ss:up s.ss
theorem Inv.act {s:Sv}(h:Inv s)(a:Act1):Inv (act1 s a):=⟨nxRis h.ns a.n,sxUp h.ss a.s⟩
theorem act1_abs {s:Sv}(h:Inv s)(f g:Act1):act1 (act1 (act1 s f) g) f=act1 (act1 s g) f:=by
 have h1:=Nx.abs h.ns f.n g.n
 have h2:=Sx.abs h.ss f.s g.s
 have h3:=Mx.abs s.nx f.m g.m
 have h4:Cx (Cx (Cx s.c f.c) g.c) f.c=Cx (Cx s.c g.c) f.c:=by cases f.c <;> cases g.c <;> rfl
 have h5:=Zj.abs ⟨s.ae,s.an⟩ f.z g.z
 show mkS (Nx.go (Nx.go (Nx.go s.ns f.n) g.n) f.n) (Sx.go (Sx.go (Sx.go s.ss f.s) g.s) f.s) (Mx (Mx (Mx s.nx f.m) g.m) f.m) (Cx (Cx (Cx s.c f.c) g.c) f.c) (Zj (Zj (Zj ⟨s.ae,s.an⟩ f.z) g.z) f.z)=_
 rw[h1,h2,h3,h4,h5];rfl
def acts (s:Sv)(l:List Act1):Sv:=l.foldl act1 s
theorem Inv.acts:∀ (l:List Act1){s:Sv},Inv s->Inv (acts s l)
 |[],_,h=>h
 |a::l,_,h=>Inv.acts l (h.act a)
theorem act1_no (s:Sv):act1 s (.part ⟨0,zz,0,⟨0,0,0,[]⟩⟩)=s:=by rw[act1_part];rfl
theorem acts_abs (f:Act1):∀ (G:List Act1){s:Sv},Inv s->act1 (acts (act1 s f) G) f=act1 (acts s G) f
 |[],s,h=>by
  have:=act1_abs h f (.part ⟨0,zz,0,⟨0,0,0,[]⟩⟩)
  rw[act1_no,act1_no] at this
  exact this
 |g::G,s,h=>by
  show act1 (acts (act1 (act1 s f) g) G) f=act1 (acts (act1 s g) G) f
  rw[<- acts_abs f G ((h.act f).act g),act1_abs h f g,acts_abs f G (h.act g)]
theorem acts_app (s:Sv)(a b:List Act1):acts s (a++b)=acts (acts s a) b:=List.foldl_append
theorem acts_idem {s:Sv}(h:Inv s):∀ (n:Nat)(A:List Act1),A.length=n->acts (acts s A) A=acts s A
 |0,A,hn=>by rw[List.length_eq_zero_iff.1 hn];rfl
 |n+1,A,hn=>by
  obtain⟨B,f,rfl⟩:∃B f,A=B++[f]:=by
   rcases List.eq_nil_or_concat A with rfl|⟨B,f,rfl⟩
   ·simp at hn
   ·exact⟨B,f,by simp⟩
  have ih:=acts_idem h n B (by simpa using hn)
  simp only[acts_app]
  show act1 (acts (act1 (acts s B) f) B) f=act1 (acts s B) f
  rw[acts_abs f B (h.acts B),ih]
def tacts (t:Tx):List Act1:=t.ps.map .part++[.late t.e t.n]
theorem runP_acts:∀ (l:List Pt)(s:Sv),yS s l=acts s (l.map .part)
 |[],s=>rfl
 |p::l,s=>by
  show yS (yU s p) l=acts (act1 s (.part p)) (l.map .part)
  rw[act1_part,runP_acts l]
theorem doS_acts (s:Sv)(t:Tx):doS s t=acts s (tacts t):=by
 unfold doS tacts
 rw[acts_app,runP_acts];rfl
theorem allS_acts:∀ (l:List Tx)(s:Sv),allS s l=acts s (l.flatMap tacts)
 |[],s=>rfl
 |t::l,s=>by
  show allS (doS s t) l=_
  rw[allS_acts l,doS_acts,List.flatMap_cons,acts_app]
theorem allS_idem {s:Sv}(h:Inv s)(l:List Tx):allS (allS s l) l=allS s l:=by
 simp only[allS_acts];exact acts_idem h _ _ rfl
theorem twice_do {s:Sv}(h:Inv s)(t:Tx):doS (doS s t) t=doS s t:=allS_idem h [t]
end Go.Proofs.YtedbbcmokbogpaaGreatDoor
namespace Go.Proofs.YtedbbcmokbogpaaGreatDoor
set_option linter.unusedSimpArgs false
set_option linter.unusedVariables false
set_option maxRecDepth 8000
open Go Go.Av
theorem rsS_iff (nx:Int):∀ (l:List Int)(p:Int),rsS nx p l=true ↔ (∀x∈l,1<=x/\x<nx/\p<x)/\l.Pairwise (· < ·)
 |[],p=>by simp[rsS]
 |n::l,p=>by
  rw[rsS,Bool.and_eq_true,decide_eq_true_eq,rsS_iff nx l n,List.pairwise_cons]
  constructor
  ·rintro ⟨h1,h2,h3⟩
   refine⟨fun x hx=>?_,fun x hx=>(h2 x hx).2.2,h3⟩
   rcases List.mem_cons.1 hx with rfl|hx
   ·exact h1
   ·have:=h2 x hx;omega
  ·rintro ⟨h1,h2,h3⟩
   refine⟨h1 n List.mem_cons_self,fun x hx=>?_,h3⟩
   have:=h1 x (List.mem_cons_of_mem _ hx)
   exact⟨this.1,this.2.1,h2 x hx⟩
theorem rgtS_eq {x y:Sv}(h:EqA x y):rgtS x=rgtS y:=by
 unfold rgtS
 rw[h.ns,h.ss,h.nx,h.c]
theorem rgtS_of {s:Sv}(h1:tre s.ns=true)(h2:check s.c=0)(h3:1<=s.nx)(h4:s.nx<=1099511627776)(h5:s.ss.length<=20)(h6:rsS s.nx 0 s.ss=true):rgtS s=true:=by
 unfold rgtS
 rw[h1,h6,decide_eq_true ⟨h2,h3,h4,h5⟩]
 rfl
theorem rgt_inv {s:Sv}(h:rgtS s=true):Inv s:=⟨(wV (rgt_of h).1).2.1,((rsS_iff _ _ _).1 (rgt_of h).2.2.2.2.2).2⟩
theorem opn_rgt {s:Sv}(h:rgtS s=true)(h1:s.ss.length<20)(h2:¬ s.nx=1099511627776):rgtS (yU s (opPt s.nx))=true:=by
 obtain⟨a1,a2,a3,a4,a5,a6⟩:=rgt_of h
 have hk:okS s.nx=true:=by unfold okS;rw[decide_eq_true_eq];omega
 have e1:yU s (opPt s.nx)={ s with ss:=opnL s.ss s.nx,nx:=opnN s.nx s.nx }:=rfl
 rw[e1]
 unfold opnL opnN
 rw[if_pos hk,if_pos hk]
 have hmax:max s.nx (s.nx+1)=s.nx+1:=by omega
 rw[hmax]
 have hl:=insI_len s.ss s.nx
 obtain⟨b1,b2⟩:=(rsS_iff _ _ _).1 a6
 refine rgtS_of a1 a2 (by show 1<=s.nx+1;omega) (by show s.nx+1<=_;omega) (by show (insI s.ss s.nx).length<=20;omega) ?_
 show rsS (s.nx+1) 0 (insI s.ss s.nx)=true
 rw[rsS_iff]
 refine⟨fun x hx=>?_,up_insI b2⟩
 rcases mem_insI.1 hx with rfl|hx
 ·omega
 ·have:=b1 x hx;omega
theorem but_rgt {s X:Sv}(h:rgtS s=true){ses:Int}(h1:tre X.ns=true)(h2:X.ss=but s.ss ses)(h3:X.nx=s.nx)(h4:X.c=s.c):rgtS X=true:=by
 obtain⟨a1,a2,a3,a4,a5,a6⟩:=rgt_of h
 have hl:=but_len s.ss ses
 obtain⟨b1,b2⟩:=(rsS_iff _ _ _).1 a6
 refine rgtS_of h1 (by rw[h4];exact a2) (by omega) (by omega) (by rw[h2];omega) ?_
 rw[h3,h2,rsS_iff]
 exact⟨fun x hx=>b1 x (mem_but.1 hx).1,up_but b2 ses⟩
theorem cls_kd (ses:Int):∀ (l:List Zn)(S:Sv)(ps:List Pt),(∀p∈ps,kd3 p)->∀p∈(wR S ses l ps).2,kd3 p
 |[],_,_,h=>h
 |z::l,S,ps,h=>by
  rw[wR]
  split
  ·split
   ·exact cls_kd ses l _ _ fun p hp=>by
     rcases List.mem_append.1 hp with hp|hp
     ·exact h p hp
     ·exact gonL_kd _ _ p hp
   ·exact h
  ·exact cls_kd ses l _ _ h
structure MkOk (s:Sv)(T:Tx):Prop where
 bad:T.r=0->T.b=0
 no:¬ T.r=0->T.ps=[]/\T.m=[]
 ok:T.r=0->rgtS (doS s T)=true
 len:T.ps.length<=200
 c:∀p∈T.ps,p.c.ms.length<=20000
 okp:∀p∈T.ps,0<=p.z.k/\0<=p.z.v/\long p.z
theorem MkOk.err {s:Sv}{e n ses x er b:Int}(h:¬ er=0):MkOk s ⟨e,n,ses,x,er,b,[],[]⟩ :=
 ⟨fun h0=>absurd h0 h,fun _=>⟨rfl,rfl⟩,fun h0=>absurd h0 h,by simp,by intro p hp;simp at hp,by intro p hp;simp at hp⟩
theorem makW_ok {s:Sv}{r:Rp}(e n:Int)(hg:rgtS s=true)(hc:s.c.ms.length<=10000)(hp:r.d.put.length<=10000)(hd:r.d.drop.length<=10000)(ho:∀o∈r.ops,o.pa.length<=9223372036854775807/\o.da.length<=9223372036854775807):MkOk s (makW s r e n):=by
 obtain⟨a1,a2,a3,a4,a5,a6⟩:=rgt_of hg
 have hl:=tre_len a1
 have hN:=tre_okN a1
 have hses:r.s∈s.ss->1<=r.s:=fun h=>(((rsS_iff _ _ _).1 a6).1 _ h).1
 have hz0:cf0.ms.length<=20000:=by simp[cf0]
 have okP_T:∀ {l:List Pt},(∀p∈l,okP p)->∀p∈l,p.c.ms.length<=20000:=fun h p hp=>by rw[(h p hp).2.2.2];exact hz0
 have hzz:0<=zz.k/\0<=zz.v/\long zz:=zz_ok
 unfold makW
 split
 ·rename_i h4
  unfold cfgT
  split
  ·split
   ·rename_i h5 h6
    have hl2:(appC s.c r.d e n).ms.length<=20000:=by
     unfold appC
     rw[if_pos h6]
     have:=keepM_len s.c r.d
     show (stS _).length<=_
     rw[stS_len,List.length_append];omega
    refine⟨fun _=>rfl,fun h=>absurd rfl h,fun _=>?_,by simp,?_,?_⟩
    ·rw[rgtS_eq (EqA.doS s _)]
     have e1:yS s [cfgPt (appC s.c r.d e n)]={ s with c:=appC s.c r.d e n }:=rfl
     show rgtS (yS s [cfgPt (appC s.c r.d e n)])=true
     rw[e1]
     refine rgtS_of a1 ?_ a3 a4 a5 a6
     show check (appC s.c r.d e n)=0
     have h7:=h6
     unfold appE at h7
     rw[if_pos a2] at h7
     split at h7
     ·unfold appC;rw[if_pos h6];exact h7
     ·rename_i h9;exact absurd h7 h9
    ·intro p hp
     simp at hp
     subst hp
     show (appC s.c r.d e n).ms.length<=_
     omega
    ·intro p hp
     simp at hp
     subst hp
     exact hzz
   ·rename_i h5 h6
    exact MkOk.err h6
  ·exact MkOk.err (by decide)
 rename_i h4
 unfold makT
 split
 ·unfold opnT
  split
  ·exact MkOk.err (by decide)
  ·rename_i h5
   have h5':s.ss.length<20/\¬ s.nx=1099511627776:=⟨by omega,fun h=>h5 (.inr h)⟩
   refine⟨fun _=>rfl,fun h=>absurd rfl h,fun _=>?_,by simp,?_,?_⟩
   ·rw[rgtS_eq (EqA.doS s _)]
    exact opn_rgt hg h5'.1 h5'.2
   ·intro p hp
    simp at hp
    subst hp
    exact hz0
   ·intro p hp
    simp at hp
    subst hp
    exact hzz
 split
 ·exact MkOk.err (by decide)
 rename_i h2 h3
 split
 ·rename_i k1
  have hm:r.s∈s.ss:=Decidable.byContradiction fun hm=>h3 ⟨.inl k1,hm⟩
  unfold chgT
  split
  ·exact MkOk.err (by decide)
  rename_i h8
  split
  ·rename_i h0
   have ht:=chg_tre (s:=s) (ses:=r.s) (by have:=hses hm;omega) r.ops s 0 [] [] a1 (EqA.refl _) h0
   have hk:=chgM_ok r.s r.ops s 0 [] [] hN ho (by simp)
   have h5:=runP_kd (s:=s) _ fun p hp=>(hk.1 p hp).2
   refine⟨fun _=>rfl,fun h=>absurd rfl h,fun _=>?_,?_,?_,?_⟩
   ·rw[rgtS_eq (EqA.doS s _)]
    exact rgtS_of ht (by show check (yS s _).c=0;rw[h5.2.2];exact a2) (by show 1<=(yS s _).nx;rw[h5.2.1];exact a3) (by show (yS s _).nx<=_;rw[h5.2.1];exact a4) (by show (yS s _).ss.length<=_;rw[h5.1];exact a5) (by show rsS (yS s _).nx 0 (yS s _).ss=true;rw[h5.1,h5.2.1];exact a6)
   ·have:=hk.2
    simp only[List.length_nil] at this
    show (xD s r.s r.ops 0 [] []).2.2.2.length<=200
    omega
   ·exact okP_T fun p hp=>(hk.1 p hp).1
   ·intro p hp
    have:=(hk.1 p hp).1
    exact⟨this.1,this.2.1,this.2.2.1⟩
  ·rename_i h0
   exact MkOk.err h0
 rename_i k1
 split
 ·rename_i k3
  have hm:r.s∈s.ss:=Decidable.byContradiction fun hm=>h3 ⟨.inr (.inl k3),hm⟩
  unfold clsT
  split
  ·rename_i h0
   obtain⟨t1,t2,t3,t4⟩:=wV a1
   have ht:=cls_tre (s:=s) (hses hm) s.ns s [] a1 (EqA.refl _) (ris_pw.1 t2) (fun z hz=>⟨(rgz_of (t3 z hz)).1,fun hz2=>⟨z,ris_fnd t2 hz,hz2⟩⟩) h0
   have hk:=cls_ok r.s s.ns s [] hN (fun z hz=>(hN z hz).2.2.1) (by simp)
   have hkd:=cls_kd r.s s.ns s [] (by simp)
   have h5:=runP_kd (s:=s) _ hkd
   have e1:yS s ((wR s r.s s.ns []).2++[clPt r.s])={ yS s (wR s r.s s.ns []).2 with ss:=but (yS s (wR s r.s s.ns []).2).ss r.s }:=by rw[runP_app];rfl
   have hall:∀p∈(wR s r.s s.ns []).2++[clPt r.s],okP p:=fun p hp=>by
    rcases List.mem_append.1 hp with hp|hp
    ·exact hk.1 p hp
    ·simp at hp
     subst hp
     exact⟨hzz.1,hzz.2.1,hzz.2.2,rfl⟩
   refine⟨fun _=>rfl,fun h=>absurd rfl h,fun _=>?_,?_,okP_T hall,fun p hp=>⟨(hall p hp).1,(hall p hp).2.1,(hall p hp).2.2.1⟩⟩
   ·rw[rgtS_eq (EqA.doS s _)]
    show rgtS (yS s ((wR s r.s s.ns []).2++[clPt r.s]))=true
    rw[e1]
    exact but_rgt hg (ses:=r.s) ht (by show but (yS s (wR s r.s s.ns []).2).ss r.s=_;rw[h5.1]) h5.2.1 h5.2.2
   ·have:=hk.2
    simp only[List.length_nil] at this
    show ((wR s r.s s.ns []).2++[clPt r.s]).length<=200
    rw[List.length_append]
    simp
    omega
  ·rename_i h0
   exact MkOk.err h0
 ·exact MkOk.err (by decide)
theorem stepP_cl {s:Sv}{p:Pt}(h:s.c.ms.length<=20000)(hp:p.c.ms.length<=20000):(yU s p).c.ms.length<=20000:=by
 unfold yU
 repeat' split
 all_goals first|exact h|exact hp
theorem runP_cl:∀ (l:List Pt){s:Sv},s.c.ms.length<=20000->(∀p∈l,p.c.ms.length<=20000)->(yS s l).c.ms.length<=20000
 |[],_,h,_=>h
 |p::l,s,h,hp=>runP_cl l (stepP_cl h (hp p List.mem_cons_self)) fun q hq=>hp q (List.mem_cons_of_mem _ hq)
theorem MkOk.okT {s:Sv}{T:Tx}(h:MkOk s T):Go.Proofs.YtedbbcmokbogpaaGreatDoor.okT T:=fun p hp=>Nat.le_trans (h.c p hp) (by decide)
theorem MkOk.cl {s:Sv}{T:Tx}(h:MkOk s T)(hc:s.c.ms.length<=20000):(doS s T).c.ms.length<=20000:=by
 rw[(EqA.doS s T).c];exact runP_cl _ hc h.c
end Go.Proofs.YtedbbcmokbogpaaGreatDoor
namespace Go.Proofs.YtedbbcmokbogpaaGreatDoor
set_option linter.unusedSimpArgs false
set_option linter.unusedVariables false
set_option maxRecDepth 8000
open Go Go.Av
attribute [local irreducible] Go.Av.yP Go.Av.zU Go.Av.yN Go.Av.zT Go.Av.yO Go.Av.zV Go.Av.Con
theorem farP9_ops {s:Sv}{r:Rp}(hb:Bd9 s r)(h:farP9 s r=false):s.c.ms.length<=10000/\r.d.put.length<=10000/\r.d.drop.length<=10000/\r.ops.length<=20/\∀o∈r.ops,o.pa.length<=9223372036854775807/\o.da.length<=9223372036854775807:=by
 have:=farP9_not h
 have h2:=this.2
 unfold nSum at h2
 exact⟨by omega,by omega,by omega,this.1,fun o ho=>by have:=hb.o o ho;omega⟩
theorem eqNo {s:Sv}{T:Tx}(h:T.ps=[]):EqA (doS s T) s:=by
 have:=EqA.doS s T
 rw[h] at this
 exact this
set_option maxHeartbeats 16000000 in
theorem prepKeeps_con (s:Sv)(r:Rp)(e n:Int)(hz:∀z∈s.ns,long z)(hb:Bd9 s r):zD Tryz.prog 4 [.p (.agg s.cells),.p (.agg r.cells),.p (.agg [I e,I n])] (.p (B true)):=by
 have c1:=far9_con s r hb
 cases hf:farP9 s r with
 |true =>
  rw[hf] at c1
  unfold Sv.cells Rp.cells at *
  refine zG Tryz.tab Tryz.mixed Tryz.func4 rfl rfl Tryz.ntmps4 (by simp) (by simp) fun Q hr hn=>?_
  repeat' first|((first|refine O _ ?_|refine O _ _ ?_|(clear O;refine O _ ?_));clear O)|(refine zJ fun K O=>?_)|((first|refine zH ?_|refine zN rfl (by kernel_rfl) ?_|refine zM ?_|refine zK (by kernel_rfl) ?_);simp only[vX,vW,strip])|((first|refine wIs fun K O=>?_|refine wOs fun K O=>?_|refine wQs fun K O=>?_|refine zW ?_|refine zX ?_|refine zY ?_|refine zL ?_);simp)|(refine wIn ?_;refine And.intro (by kernel_rfl) ?_;try simp only[zZ])|refine zQ ?_|refine zS ?_|((first|refine zI ?_|refine zO ?_|refine zP ?_);try simp)|((first|refine zR ?_|refine wOn ?_|refine wQn ?_);try simp only[zZ])|refine zU.p c1 rfl ?_|refine zU.l c1 rfl ?_|refine zT.p c1 rfl ?_|refine zT.l c1 rfl ?_|refine zU.o c1 ?_|refine zV.p c1 rfl ?_|refine zV.l c1 rfl ?_|refine zV.o c1 ?_|refine zU.p zE rfl ?_|refine zU.l zE rfl ?_|refine zT.p zE rfl ?_|refine zT.l zE rfl ?_|refine zU.o zE ?_|refine zV.p zE rfl ?_|refine zV.l zE rfl ?_|refine zV.o zE ?_
  all_goals apply hr
  all_goals simp[Tryz.f4]
 |false =>
 rw[hf] at c1
 obtain⟨m1,m2,m3,m4,m5⟩:=farP9_ops hb hf
 have c2:=rightP09_con s hz (by omega)
 cases hg:rgtS s with
 |false =>
  rw[hg] at c2
  unfold Sv.cells Rp.cells at *
  refine zG Tryz.tab Tryz.mixed Tryz.func4 rfl rfl Tryz.ntmps4 (by simp) (by simp) fun Q hr hn=>?_
  repeat' first|((first|refine O _ ?_|refine O _ _ ?_|(clear O;refine O _ ?_));clear O)|(refine zJ fun K O=>?_)|((first|refine zH ?_|refine zN rfl (by kernel_rfl) ?_|refine zM ?_|refine zK (by kernel_rfl) ?_);simp only[vX,vW,strip])|((first|refine wIs fun K O=>?_|refine wOs fun K O=>?_|refine wQs fun K O=>?_|refine zW ?_|refine zX ?_|refine zY ?_|refine zL ?_);simp)|(refine wIn ?_;refine And.intro (by kernel_rfl) ?_;try simp only[zZ])|refine zQ ?_|refine zS ?_|((first|refine zI ?_|refine zO ?_|refine zP ?_);try simp)|((first|refine zR ?_|refine wOn ?_|refine wQn ?_);try simp only[zZ])|refine zU.p c1 rfl ?_|refine zU.l c1 rfl ?_|refine zT.p c1 rfl ?_|refine zT.l c1 rfl ?_|refine zU.o c1 ?_|refine zV.p c1 rfl ?_|refine zV.l c1 rfl ?_|refine zV.o c1 ?_|refine zU.p c2 rfl ?_|refine zU.l c2 rfl ?_|refine zT.p c2 rfl ?_|refine zT.l c2 rfl ?_|refine zU.o c2 ?_|refine zV.p c2 rfl ?_|refine zV.l c2 rfl ?_|refine zV.o c2 ?_|refine zU.p zE rfl ?_|refine zU.l zE rfl ?_|refine zT.p zE rfl ?_|refine zT.l zE rfl ?_|refine zU.o zE ?_|refine zV.p zE rfl ?_|refine zV.l zE rfl ?_|refine zV.o zE ?_
  all_goals apply hr
  all_goals simp[Tryz.f4]
 |true =>
 rw[hg] at c2
 by_cases a1:e<0
 ·clear hz hb m5
  unfold Sv.cells Rp.cells at *
  refine zG Tryz.tab Tryz.mixed Tryz.func4 rfl rfl Tryz.ntmps4 (by simp) (by simp) fun Q hr hn=>?_
  repeat' first|((first|refine O _ ?_|refine O _ _ ?_|(clear O;refine O _ ?_));clear O)|(refine zJ fun K O=>?_)|((first|refine zH ?_|refine zN rfl (by kernel_rfl) ?_|refine zM ?_|refine zK (by kernel_rfl) ?_);simp only[vX,vW,strip])|((first|refine wIs fun K O=>?_|refine wOs fun K O=>?_|refine wQs fun K O=>?_|refine zW ?_|refine zX ?_|refine zY ?_|refine zL ?_);simp[a1])|(refine wIn ?_;refine And.intro (by kernel_rfl) ?_;try simp only[zZ])|refine zQ ?_|refine zS ?_|((first|refine zI ?_|refine zO ?_|refine zP ?_);try simp)|((first|refine zR ?_|refine wOn ?_|refine wQn ?_);try simp only[zZ])|refine zU.p c1 rfl ?_|refine zU.l c1 rfl ?_|refine zT.p c1 rfl ?_|refine zT.l c1 rfl ?_|refine zU.o c1 ?_|refine zV.p c1 rfl ?_|refine zV.l c1 rfl ?_|refine zV.o c1 ?_|refine zU.p c2 rfl ?_|refine zU.l c2 rfl ?_|refine zT.p c2 rfl ?_|refine zT.l c2 rfl ?_|refine zU.o c2 ?_|refine zV.p c2 rfl ?_|refine zV.l c2 rfl ?_|refine zV.o c2 ?_|refine zU.p zE rfl ?_|refine zU.l zE rfl ?_|refine zT.p zE rfl ?_|refine zT.l zE rfl ?_|refine zU.o zE ?_|refine zV.p zE rfl ?_|refine zV.l zE rfl ?_|refine zV.o zE ?_
  all_goals apply hr
  all_goals simp[Tryz.f4]
 by_cases a2:1099511627776<e
 ·clear hz hb m5
  unfold Sv.cells Rp.cells at *
  refine zG Tryz.tab Tryz.mixed Tryz.func4 rfl rfl Tryz.ntmps4 (by simp) (by simp) fun Q hr hn=>?_
  repeat' first|((first|refine O _ ?_|refine O _ _ ?_|(clear O;refine O _ ?_));clear O)|(refine zJ fun K O=>?_)|((first|refine zH ?_|refine zN rfl (by kernel_rfl) ?_|refine zM ?_|refine zK (by kernel_rfl) ?_);simp only[vX,vW,strip])|((first|refine wIs fun K O=>?_|refine wOs fun K O=>?_|refine wQs fun K O=>?_|refine zW ?_|refine zX ?_|refine zY ?_|refine zL ?_);simp[a1,a2])|(refine wIn ?_;refine And.intro (by kernel_rfl) ?_;try simp only[zZ])|refine zQ ?_|refine zS ?_|((first|refine zI ?_|refine zO ?_|refine zP ?_);try simp)|((first|refine zR ?_|refine wOn ?_|refine wQn ?_);try simp only[zZ])|refine zU.p c1 rfl ?_|refine zU.l c1 rfl ?_|refine zT.p c1 rfl ?_|refine zT.l c1 rfl ?_|refine zU.o c1 ?_|refine zV.p c1 rfl ?_|refine zV.l c1 rfl ?_|refine zV.o c1 ?_|refine zU.p c2 rfl ?_|refine zU.l c2 rfl ?_|refine zT.p c2 rfl ?_|refine zT.l c2 rfl ?_|refine zU.o c2 ?_|refine zV.p c2 rfl ?_|refine zV.l c2 rfl ?_|refine zV.o c2 ?_|refine zU.p zE rfl ?_|refine zU.l zE rfl ?_|refine zT.p zE rfl ?_|refine zT.l zE rfl ?_|refine zU.o zE ?_|refine zV.p zE rfl ?_|refine zV.l zE rfl ?_|refine zV.o zE ?_
  all_goals apply hr
  all_goals simp[Tryz.f4]
 by_cases a3:n<0
 ·clear hz hb m5
  unfold Sv.cells Rp.cells at *
  refine zG Tryz.tab Tryz.mixed Tryz.func4 rfl rfl Tryz.ntmps4 (by simp) (by simp) fun Q hr hn=>?_
  repeat' first|((first|refine O _ ?_|refine O _ _ ?_|(clear O;refine O _ ?_));clear O)|(refine zJ fun K O=>?_)|((first|refine zH ?_|refine zN rfl (by kernel_rfl) ?_|refine zM ?_|refine zK (by kernel_rfl) ?_);simp only[vX,vW,strip])|((first|refine wIs fun K O=>?_|refine wOs fun K O=>?_|refine wQs fun K O=>?_|refine zW ?_|refine zX ?_|refine zY ?_|refine zL ?_);simp[a1,a2,a3])|(refine wIn ?_;refine And.intro (by kernel_rfl) ?_;try simp only[zZ])|refine zQ ?_|refine zS ?_|((first|refine zI ?_|refine zO ?_|refine zP ?_);try simp)|((first|refine zR ?_|refine wOn ?_|refine wQn ?_);try simp only[zZ])|refine zU.p c1 rfl ?_|refine zU.l c1 rfl ?_|refine zT.p c1 rfl ?_|refine zT.l c1 rfl ?_|refine zU.o c1 ?_|refine zV.p c1 rfl ?_|refine zV.l c1 rfl ?_|refine zV.o c1 ?_|refine zU.p c2 rfl ?_|refine zU.l c2 rfl ?_|refine zT.p c2 rfl ?_|refine zT.l c2 rfl ?_|refine zU.o c2 ?_|refine zV.p c2 rfl ?_|refine zV.l c2 rfl ?_|refine zV.o c2 ?_|refine zU.p zE rfl ?_|refine zU.l zE rfl ?_|refine zT.p zE rfl ?_|refine zT.l zE rfl ?_|refine zU.o zE ?_|refine zV.p zE rfl ?_|refine zV.l zE rfl ?_|refine zV.o zE ?_
  all_goals apply hr
  all_goals simp[Tryz.f4]
 by_cases a4:1099511627776<n
 ·clear hz hb m5
  unfold Sv.cells Rp.cells at *
  refine zG Tryz.tab Tryz.mixed Tryz.func4 rfl rfl Tryz.ntmps4 (by simp) (by simp) fun Q hr hn=>?_
  repeat' first|((first|refine O _ ?_|refine O _ _ ?_|(clear O;refine O _ ?_));clear O)|(refine zJ fun K O=>?_)|((first|refine zH ?_|refine zN rfl (by kernel_rfl) ?_|refine zM ?_|refine zK (by kernel_rfl) ?_);simp only[vX,vW,strip])|((first|refine wIs fun K O=>?_|refine wOs fun K O=>?_|refine wQs fun K O=>?_|refine zW ?_|refine zX ?_|refine zY ?_|refine zL ?_);simp[a1,a2,a3,a4])|(refine wIn ?_;refine And.intro (by kernel_rfl) ?_;try simp only[zZ])|refine zQ ?_|refine zS ?_|((first|refine zI ?_|refine zO ?_|refine zP ?_);try simp)|((first|refine zR ?_|refine wOn ?_|refine wQn ?_);try simp only[zZ])|refine zU.p c1 rfl ?_|refine zU.l c1 rfl ?_|refine zT.p c1 rfl ?_|refine zT.l c1 rfl ?_|refine zU.o c1 ?_|refine zV.p c1 rfl ?_|refine zV.l c1 rfl ?_|refine zV.o c1 ?_|refine zU.p c2 rfl ?_|refine zU.l c2 rfl ?_|refine zT.p c2 rfl ?_|refine zT.l c2 rfl ?_|refine zU.o c2 ?_|refine zV.p c2 rfl ?_|refine zV.l c2 rfl ?_|refine zV.o c2 ?_|refine zU.p zE rfl ?_|refine zU.l zE rfl ?_|refine zT.p zE rfl ?_|refine zT.l zE rfl ?_|refine zU.o zE ?_|refine zV.p zE rfl ?_|refine zV.l zE rfl ?_|refine zV.o zE ?_
  all_goals apply hr
  all_goals simp[Tryz.f4]
 have hcC:okC s.c:=by unfold okC;omega
 have hS:=rgt_ok hg hcC
 have O:=makW_ok (s:=s) (r:=r) e n hg m1 m2 m3 m5
 have c3:=makeW_con s r e n hS ⟨m5,by omega⟩ m1 m2 m3
 generalize makW s r e n=T at O c3
 have c4:=apply08_con s T (hS.F.le (by have:=O.len;omega)) O.okT
 by_cases h0:T.r=0
 case neg =>
  obtain⟨t1,t2⟩:=O.no h0
  have hl:=eqNo (s:=s) t1
  have c5:=sameS08_con s s
  rw[decide_eq_true rfl] at c5
  generalize doS s T=X at c4 hl
  have x1:X.ns=s.ns:=hl.ns
  have x2:X.ss=s.ss:=hl.ss
  have x3:X.nx=s.nx:=hl.nx
  have x4:X.c=s.c:=hl.c
  unfold Sv.cells at c4
  rw[x1,x2,x3,x4] at c4
  obtain⟨te,tn,ts,tx,tr,tb,tm,tps⟩:=T
  dsimp only at h0 t1 t2
  subst t1 t2
  have h0':(tr=0)=False:=eq_false h0
  clear O hS hb hz m5 hl x1 x2 x3 x4
  unfold Tx.cells pts at *
  simp only[vW] at c3 c4
  unfold Sv.cells Rp.cells at *
  refine zG Tryz.tab Tryz.mixed Tryz.func4 rfl rfl Tryz.ntmps4 (by simp) (by simp) fun Q hr hn=>?_
  repeat' first|((first|refine O _ ?_|refine O _ _ ?_|(clear O;refine O _ ?_));clear O)|(refine zJ fun K O=>?_)|((first|refine zH ?_|refine zN rfl (by kernel_rfl) ?_|refine zM ?_|refine zK (by kernel_rfl) ?_);simp only[vX,vW,strip])|((first|refine wIs fun K O=>?_|refine wOs fun K O=>?_|refine wQs fun K O=>?_|refine zW ?_|refine zX ?_|refine zY ?_|refine zL ?_);simp[a1,a2,a3,a4,h0'])|(refine wIn ?_;refine And.intro (by kernel_rfl) ?_;try simp only[zZ])|refine zQ ?_|refine zS ?_|((first|refine zI ?_|refine zO ?_|refine zP ?_);try simp)|((first|refine zR ?_|refine wOn ?_|refine wQn ?_);try simp only[zZ])|refine zU.p c1 rfl ?_|refine zU.l c1 rfl ?_|refine zT.p c1 rfl ?_|refine zT.l c1 rfl ?_|refine zU.o c1 ?_|refine zV.p c1 rfl ?_|refine zV.l c1 rfl ?_|refine zV.o c1 ?_|refine zU.p c2 rfl ?_|refine zU.l c2 rfl ?_|refine zT.p c2 rfl ?_|refine zT.l c2 rfl ?_|refine zU.o c2 ?_|refine zV.p c2 rfl ?_|refine zV.l c2 rfl ?_|refine zV.o c2 ?_|refine zU.p c3 rfl ?_|refine zU.l c3 rfl ?_|refine zT.p c3 rfl ?_|refine zT.l c3 rfl ?_|refine zU.o c3 ?_|refine zV.p c3 rfl ?_|refine zV.l c3 rfl ?_|refine zV.o c3 ?_|refine zU.p c4 rfl ?_|refine zU.l c4 rfl ?_|refine zT.p c4 rfl ?_|refine zT.l c4 rfl ?_|refine zU.o c4 ?_|refine zV.p c4 rfl ?_|refine zV.l c4 rfl ?_|refine zV.o c4 ?_|refine zU.p c5 rfl ?_|refine zU.l c5 rfl ?_|refine zT.p c5 rfl ?_|refine zT.l c5 rfl ?_|refine zU.o c5 ?_|refine zV.p c5 rfl ?_|refine zV.l c5 rfl ?_|refine zV.o c5 ?_|refine zU.p zE rfl ?_|refine zU.l zE rfl ?_|refine zT.p zE rfl ?_|refine zT.l zE rfl ?_|refine zU.o zE ?_|refine zV.p zE rfl ?_|refine zV.l zE rfl ?_|refine zV.o zE ?_
  all_goals apply hr
  all_goals simp[Tryz.f4]
 have hb0:=O.bad h0
 have hgX:=O.ok h0
 have htw:=twice_do (rgt_inv hg) T
 have hXc:=O.cl (show s.c.ms.length<=20000 by omega)
 have hX:OkSv (doS s T):=rgt_ok hgX (Nat.le_trans hXc (by decide))
 have c5:=rightP09_con (doS s T) (fun z hz=>(hX.N z hz).2.2) (by omega)
 rw[hgX] at c5
 have c6:=apply08_con (doS s T) T (hX.F.le (by have:=O.len;omega)) O.okT
 rw[htw] at c6
 have c7:=sameS08_con (doS s T) (doS s T)
 rw[decide_eq_true rfl] at c7
 clear hX hXc hgX htw
 generalize doS s T=X at *
 obtain⟨te,tn,ts,tx,tr,tb,tm,tps⟩:=T
 dsimp only at h0 hb0
 subst h0 hb0
 clear O hS hb hz m5
 unfold Tx.cells at *
 dsimp only at *
 generalize pts tps=PP at *
 unfold Sv.cells Rp.cells at *
 refine zG Tryz.tab Tryz.mixed Tryz.func4 rfl rfl Tryz.ntmps4 (by simp) (by simp) fun Q hr hn=>?_
 repeat' first|((first|refine O _ ?_|refine O _ _ ?_|(clear O;refine O _ ?_));clear O)|(refine zJ fun K O=>?_)|((first|refine zH ?_|refine zN rfl (by kernel_rfl) ?_|refine zM ?_|refine zK (by kernel_rfl) ?_);simp only[vX,vW,strip])|((first|refine wIs fun K O=>?_|refine wOs fun K O=>?_|refine wQs fun K O=>?_|refine zW ?_|refine zX ?_|refine zY ?_|refine zL ?_);simp[a1,a2,a3,a4])|(refine wIn ?_;refine And.intro (by kernel_rfl) ?_;try simp only[zZ])|refine zQ ?_|refine zS ?_|((first|refine zI ?_|refine zO ?_|refine zP ?_);try simp)|((first|refine zR ?_|refine wOn ?_|refine wQn ?_);try simp only[zZ])|refine zU.p c1 rfl ?_|refine zU.l c1 rfl ?_|refine zT.p c1 rfl ?_|refine zT.l c1 rfl ?_|refine zU.o c1 ?_|refine zV.p c1 rfl ?_|refine zV.l c1 rfl ?_|refine zV.o c1 ?_|refine zU.p c2 rfl ?_|refine zU.l c2 rfl ?_|refine zT.p c2 rfl ?_|refine zT.l c2 rfl ?_|refine zU.o c2 ?_|refine zV.p c2 rfl ?_|refine zV.l c2 rfl ?_|refine zV.o c2 ?_|refine zU.p c3 rfl ?_|refine zU.l c3 rfl ?_|refine zT.p c3 rfl ?_|refine zT.l c3 rfl ?_|refine zU.o c3 ?_|refine zV.p c3 rfl ?_|refine zV.l c3 rfl ?_|refine zV.o c3 ?_|refine zU.p c4 rfl ?_|refine zU.l c4 rfl ?_|refine zT.p c4 rfl ?_|refine zT.l c4 rfl ?_|refine zU.o c4 ?_|refine zV.p c4 rfl ?_|refine zV.l c4 rfl ?_|refine zV.o c4 ?_|refine zU.p c5 rfl ?_|refine zU.l c5 rfl ?_|refine zT.p c5 rfl ?_|refine zT.l c5 rfl ?_|refine zU.o c5 ?_|refine zV.p c5 rfl ?_|refine zV.l c5 rfl ?_|refine zV.o c5 ?_|refine zU.p c6 rfl ?_|refine zU.l c6 rfl ?_|refine zT.p c6 rfl ?_|refine zT.l c6 rfl ?_|refine zU.o c6 ?_|refine zV.p c6 rfl ?_|refine zV.l c6 rfl ?_|refine zV.o c6 ?_|refine zU.p c7 rfl ?_|refine zU.l c7 rfl ?_|refine zT.p c7 rfl ?_|refine zT.l c7 rfl ?_|refine zU.o c7 ?_|refine zV.p c7 rfl ?_|refine zV.l c7 rfl ?_|refine zV.o c7 ?_|refine zU.p zE rfl ?_|refine zU.l zE rfl ?_|refine zT.p zE rfl ?_|refine zT.l zE rfl ?_|refine zU.o zE ?_|refine zV.p zE rfl ?_|refine zV.l zE rfl ?_|refine zV.o zE ?_
 all_goals apply hr
 all_goals simp[Tryz.f4]
end Go.Proofs.YtedbbcmokbogpaaGreatDoor
