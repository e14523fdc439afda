/- Texts that the proof needs: PE PF PG PH NE NF XG XH XI. -/
import Derived.Test.YtedbbcmokbogpaaGreatDoorP23PrepNumbers
import Derived.Test.YtedbbcmokbogpaaGreatDoorP25PrepNumbers
import Derived.Test.YtedbbcmokbogpaaGreatDoorP28PrepNumbers
import Derived.Test.YtedbbcmokbogpaaGreatDoorP24PrepNumbers
import Derived.Test.YtedbbcmokbogpaaGreatDoorP18PrepNumbers
import Derived.Test.YtedbbcmokbogpaaGreatDoorP21PrepNumbers
namespace Go.Proofs.YtedbbcmokbogpaaGreatDoor
set_option linter.unusedSimpArgs false
set_option linter.unusedVariables false
open Go Go.Av
attribute [local irreducible] Go.Av.yP Go.Av.zU Go.Av.yN Go.Av.zT Go.Av.yO Go.Av.zV Go.Av.Con
theorem g_no47:∀ (r c:List UInt8),(47:UInt8) ∉ r->g c r=nm (c++r)
 |[],c,_=>by rw[List.append_nil];cases c <;> rfl
 |b::r,c,h=>by
  have hb:¬ b=47:=fun e=>h (by rw[e];exact List.mem_cons_self)
  have hr:(47:UInt8) ∉ r:=fun e=>h (List.mem_cons_of_mem _ e)
  rw[g,if_neg hb,g_no47 r (c++[b]) hr,List.append_assoc];rfl
theorem g_nil (c:List UInt8):g c []=nm c:=by cases c <;> rfl
theorem g_app {n:List UInt8}(hn:(47:UInt8) ∉ n):∀ (a c:List UInt8),g c (a++47::n)=(g c a && nm n)
 |[],c=>by
  have h1:g c (47::n)=(nm c && g [] n):=by rw[g,if_pos rfl]
  rw[List.nil_append,h1,g_no47 n [] hn,g_nil];rfl
 |b::a,c=>by
  rw[List.cons_append,g]
  by_cases hb:b=47
  ·rw[if_pos hb,g_app hn a [],g,if_pos hb,Bool.and_assoc]
  ·rw[if_neg hb,g_app hn a _,g,if_neg hb]
theorem split47:∀l:List UInt8,(47:UInt8)∈l->∃t n,l=t++47::n/\(47:UInt8) ∉ n
 |[],h=>by simp at h
 |b::r,h=>by
  by_cases hr:(47:UInt8)∈r
  ·obtain⟨t,n,e,hn⟩:=split47 r hr
   exact⟨b::t,n,by rw[e];rfl,hn⟩
  ·have hb:b=47:=by
    rcases List.mem_cons.1 h with h|h
    ·exact h.symm
    ·exact absurd h hr
   exact⟨[],r,by rw[hb];rfl,hr⟩
theorem lx_top {t n:List UInt8}(hn:(47:UInt8) ∉ n):∀k,k<=n.length->lx (t++47::n) (t.length+1+k)=t.length
 |0,_=>by rw[Nat.add_zero,lx,if_pos (by rw[List.getElem?_append_right (by omega)];simp)]
 |k+1,h=>by
  have ih:=lx_top (t:=t) hn k (by omega)
  have e:(t++47::n)[t.length+1+k]?=n[k]?:=by
   rw[List.getElem?_append_right (by omega),show t.length+1+k-t.length=k+1 by omega];rfl
  rw[<- Nat.add_assoc,lx,e,if_neg,ih]
  intro h2
  exact hn (List.mem_of_getElem? h2)
theorem lx_all {t n:List UInt8}(hn:(47:UInt8) ∉ n):lx (t++47::n) (t++47::n).length=t.length:=by
 have:=lx_top (t:=t) hn n.length (by omega)
 rw[show (t++47::n).length=t.length+1+n.length by simp;omega]
 exact this
theorem nmd_of {p:List UInt8}(h:chk p=0)(h1:¬ p=[47]):nmd p=true:=by
 unfold chk at h
 split at h
 ·simp at h
 split at h
 ·rename_i h2
  exact h2.resolve_left h1
 ·simp at h
theorem chk_of {p:List UInt8}(h:nmd p=true)(hl:p.length<=64):chk p=0:=by
 unfold chk
 rw[if_neg (by omega),if_pos (.inr h)]
theorem child_shape {p:List UInt8}(h:chd p=true):∃t n up,p=t++47::n/\(47:UInt8) ∉ n/\parV p=.tup [.p (SB up),.p (B true)]/\chk up=0/\((t=[]/\up=[47])\/(up=t/\t ≠ [47]/\t ≠ [])):=by
 have hc:=h
 simp only[chd,decide_eq_true_eq] at h
 obtain⟨h1,h0⟩:=h
 have hlen:=chk_len h0
 have hnm:=nmd_of h0 h1
 rcases chk_spec h0 with h2|⟨-,R,rfl,hR⟩
 ·exact absurd h2 h1
 have hg:g [] R=true:=hnm
 by_cases hm:(47:UInt8)∈R
 ·obtain⟨a,n,rfl,hn⟩:=split47 R hm
  rw[g_app hn,Bool.and_eq_true] at hg
  have e:47::(a++47::n)=(47::a)++47::n:=rfl
  have hx:=lx_all (t:=47::a) hn
  have ha:a ≠ []:=fun ha=>by subst ha;simp[g,nm] at hg
  have hl2:(47::a).length<=64:=by simp at hlen ⊢;omega
  have hu:chk (47::a)=0:=chk_of hg.1 hl2
  have hu1:¬ (47::a)=[47]:=by simp[ha]
  refine⟨47::a,n,47::a,e,hn,?_,hu,.inr ⟨rfl,hu1,by simp⟩⟩
  rw[e] at hc ⊢
  rw[parV,if_pos hc,hx,show max (47::a).length 1=(47::a).length by simp,List.take_left]
 ·have e:47::R=([]:List UInt8)++47::R:=rfl
  have hx:lx (47::R) (47::R).length=0:=lx_all (t:=[]) hm
  refine⟨[],R,[47],e,hm,?_,rfl,.inl ⟨rfl,rfl⟩⟩
  rw[parV,if_pos hc,hx];rfl
theorem chk_head {p:List UInt8}(h:chk p=0):∃r,p=47::r:=by
 rcases chk_spec h with rfl|⟨-,R,rfl,-⟩
 ·exact⟨[],rfl⟩
 ·exact⟨R,rfl⟩
end Go.Proofs.YtedbbcmokbogpaaGreatDoor
namespace Go.Proofs.YtedbbcmokbogpaaGreatDoor
set_option linter.unusedSimpArgs false
set_option linter.unusedVariables false
open Go Go.Av
theorem lss_eq:∀ (x y:List UInt8),lss x y=decide (x<y)
 |[],[]=>by simp[lss,Op.bytesLess]
 |[],y::ys=>by simp[lss,Op.bytesLess]
 |x::xs,[]=>by simp[lss,Op.bytesLess]
 |x::xs,y::ys=>by
  have ih:=lss_eq xs ys
  unfold lss at ih ⊢
  rw[Op.bytesLess,ih]
  simp only[List.cons_lt_cons_iff]
  by_cases h1:x<y <;> by_cases h2:x=y <;> by_cases h3:xs<ys <;> simp[h1,h2,h3]
theorem lt_irr:∀ (x:List UInt8),¬ x<x
 |[],h=>by simp at h
 |a::x,h=>by
  rw[List.cons_lt_cons_iff] at h
  rcases h with h|⟨-,h⟩
  ·exact UInt8.lt_irrefl a h
  ·exact lt_irr x h
theorem lt_tr:∀ {x y z:List UInt8},x<y->y<z->x<z
 |_,[],_,h,_=>by simp at h
 |_,_::_,[],_,h=>by simp at h
 |[],b::y,c::z,_,_=>by simp
 |a::x,b::y,c::z,h,h'=>by
  rw[List.cons_lt_cons_iff] at h h' ⊢
  rcases h with h|⟨rfl,h⟩
  ·rcases h' with h'|⟨rfl,h'⟩
   ·exact .inl (UInt8.lt_trans h h')
   ·exact .inl h
  ·rcases h' with h'|⟨rfl,h'⟩
   ·exact .inl h'
   ·exact .inr ⟨rfl,lt_tr h h'⟩
theorem lt_tot:∀ (x y:List UInt8),x<y\/x=y\/y<x
 |[],[]=>.inr (.inl rfl)
 |[],b::y=>.inl (by simp)
 |a::x,[]=>.inr (.inr (by simp))
 |a::x,b::y=>by
  simp only[List.cons_lt_cons_iff]
  rcases lt_tot x y with h|h|h
  all_goals
   by_cases h1:a<b
   ·exact .inl (.inl h1)
   by_cases h2:b<a
   ·exact .inr (.inr (.inl h2))
   have h3:a=b:=UInt8.le_antisymm (UInt8.not_lt.1 h2) (UInt8.not_lt.1 h1)
   subst h3
  ·exact .inl (.inr ⟨rfl,h⟩)
  ·exact .inr (.inl (by rw[h]))
  ·exact .inr (.inr (.inr ⟨rfl,h⟩))
theorem lt_app:∀ (t:List UInt8)(a:UInt8)(r:List UInt8),t<t++a::r
 |[],a,r=>by simp
 |b::t,a,r=>by rw[List.cons_append,List.cons_lt_cons_iff];exact .inr ⟨rfl,lt_app t a r⟩
theorem par_of {p up:List UInt8}(h:parV p=.tup [.p (SB up),.p (B true)]):par p=(up,true):=by
 rw[parV_par] at h
 generalize par p=q at h
 obtain⟨a,b⟩:=q
 simpa using h
theorem par_lt {p:List UInt8}(h:chd p=true):(par p).2=true/\(par p).1<p:=by
 obtain⟨t,n,up,hp,hn,hu,hc,hs⟩:=child_shape h
 rw[par_of hu]
 refine⟨rfl,?_⟩
 show up<p
 rcases hs with ⟨rfl,rfl⟩|⟨rfl,-,-⟩
 ·simp only[chd,decide_eq_true_eq] at h
  rw[List.nil_append] at hp
  subst hp
  cases n with
  |nil=>exact absurd rfl h.1
  |cons a r=>exact lt_app [47] a r
 ·rw[hp];exact lt_app _ _ _
theorem fnd_none:∀ {l:List Zn}{p:List UInt8},(∀z∈l,¬ z.p=p)->fnd l p=(zz,false)
 |[],_,_=>rfl
 |z::r,p,h=>by
  rw[fnd,if_neg (h z (by simp)),fnd_none fun x hx=>h x (by simp[hx])]
theorem fnd_app:∀ (a b:List Zn)(p:List UInt8),fnd (a++b) p=if (fnd a p).2=true then fnd a p else fnd b p
 |[],b,p=>by simp[fnd]
 |z::a,b,p=>by
  rw[List.cons_append,fnd,fnd]
  by_cases h:z.p=p
  ·simp[h]
  ·simp only[h,if_false];exact fnd_app a b p
theorem fnd_false:∀ {l:List Zn}{p:List UInt8},(fnd l p).2=false->fnd l p=(zz,false)
 |[],_,_=>rfl
 |z::r,p,h=>by
  rw[fnd] at h ⊢
  by_cases g:z.p=p
  ·simp[g] at h
  ·rw[if_neg g] at h ⊢;exact fnd_false h
theorem fnd_mem:∀ {l:List Zn}{p:List UInt8},(fnd l p).2=true->(fnd l p).1∈l/\(fnd l p).1.p=p
 |[],_,h=>by simp[fnd] at h
 |z::r,p,h=>by
  rw[fnd] at h ⊢
  by_cases g:z.p=p
  ·simp[g]
  ·rw[if_neg g] at h ⊢
   obtain⟨h1,h2⟩:=fnd_mem h
   exact⟨by simp[h1],h2⟩
def ris (l:List Zn):Prop:=∀ (i j:Nat)(hi:i<l.length)(hj:j<l.length),i<j->l[i].p<l[j].p
def okB (l:List Zn)(i:Nat):Prop:=∀z,l[i]?=some z->rgz z=true/\∀j y,i=j+1->l[j]?=some y->y.p<z.p
theorem okA_B {l:List Zn}{i:Nat}(h:okA l i=true):okB l i:=by
 intro z hz
 unfold okA at h
 rw[hz] at h
 simp only[Bool.and_eq_true] at h
 refine⟨h.1,fun j y hj hy=>?_⟩
 subst hj
 have h2:=h.2
 simp only[hy,Bool.and_eq_true,lss_eq,decide_eq_true_eq] at h2
 exact h2.1
theorem okR_B {l:List Zn}{i:Nat}(h:okR l i=true):okB l i:=by
 intro z hz
 unfold okR at h
 rw[hz] at h
 simp only[Bool.and_eq_true] at h
 refine⟨h.1,fun j y hj hy=>?_⟩
 subst hj
 have h2:=h.2
 simp only[hy,Bool.and_eq_true,lss_eq,decide_eq_true_eq] at h2
 exact h2.1
theorem ris_of {l:List Zn}(h:∀i,i<l.length->okB l i):ris l:=by
 intro i j hi hj hij
 induction j with
 |zero=>omega
 |succ j ih =>
  have hj':j<l.length:=by omega
  have h1:=(h (j+1) hj l[j+1] (List.getElem?_eq_getElem hj)).2 j l[j] rfl (List.getElem?_eq_getElem hj')
  by_cases e:i=j
  ·subst e;exact h1
  ·exact lt_tr (ih hj' (by omega)) h1
theorem ok_same {l:List Zn}(hh:hdo l=true)(hB:∀i,i<l.length->okB l i)(i:Nat)(hi:i<l.length):okA l i=okR l i:=by
 have hr:=ris_of hB
 have h0:0<l.length:=by omega
 have hz:l[i]?=some l[i]:=List.getElem?_eq_getElem hi
 unfold okA okR
 rw[hz]
 simp only[]
 cases i with
 |zero=>rfl
 |succ j =>
  have hj:j<l.length:=by omega
  simp only[List.getElem?_eq_getElem hj]
  have hroot:l[0].p=[47]:=by
   unfold hdo at hh
   rw[List.getElem?_eq_getElem h0] at hh
   simp only[Bool.and_eq_true,decide_eq_true_eq] at hh
   exact hh.2.1
  have hrg:=(hB (j+1) hi l[j+1] hz).1
  have hck:chk l[j+1].p=0:=by
   simp only[rgz,decide_eq_true_eq] at hrg
   exact hrg.1
  have hne:l[j+1].p ≠ [47]:=fun e=>by
   have:=hr 0 (j+1) h0 hi (by omega)
   rw[hroot,e] at this
   exact lt_irr _ this
  have hch:chd l[j+1].p=true:=by rw[chd,decide_eq_true_eq];exact⟨hne,hck⟩
  obtain⟨p1,p2⟩:=par_lt hch
  unfold hld
  rw[p1,Bool.true_and]
  have e:fnd l (par l[j+1].p).1=fnd (l.take (j+1)) (par l[j+1].p).1:=by
   have hs:=List.take_append_drop (j+1) l
   have hn:fnd (l.drop (j+1)) (par l[j+1].p).1=(zz,false):=fnd_none fun z hz' e=>by
    obtain⟨k,hk,rfl⟩:=List.getElem_of_mem hz'
    rw[List.getElem_drop] at e
    rw[List.length_drop] at hk
    have hlt:l[j+1].p<l[j+1+k].p\/l[j+1].p=l[j+1+k].p:=by
     by_cases hk0:k=0
     ·subst hk0;exact .inr rfl
     ·exact .inl (hr _ _ hi (by omega) (by omega))
    rw[e] at hlt
    rcases hlt with h|h
    ·exact lt_irr _ (lt_tr h p2)
    ·rw[<- h] at p2;exact lt_irr _ p2
   generalize par l[j+1].p=q at hn ⊢
   conv=>lhs;rw[<- hs,fnd_app,hn]
   cases hf:(fnd (l.take (j+1)) q.1).2
   ·rw[fnd_false hf];rfl
   ·rfl
  rw[e]
theorem tree_same (l:List Zn):(hdo l && allr (okA l) l.length)=(hdo l && allr (okR l) l.length):=by
 cases hh:hdo l
 ·rfl
 ·rw[Bool.true_and,Bool.true_and,Bool.eq_iff_iff,allr_iff,allr_iff]
  constructor
  ·intro h i hi
   rw[<- ok_same hh (fun i hi=>okA_B (h i hi)) i hi];exact h i hi
  ·intro h i hi
   rw[ok_same hh (fun i hi=>okR_B (h i hi)) i hi];exact h i hi
def tre (l:List Zn):Bool:=hdo l && allr (okR l) l.length
end Go.Proofs.YtedbbcmokbogpaaGreatDoor
namespace Go.Proofs.YtedbbcmokbogpaaGreatDoor
set_option linter.unusedSimpArgs false
set_option linter.unusedVariables false
open Go Go.Av
attribute [local irreducible] Go.Av.yP Go.Av.zU Go.Av.yN Go.Av.zT Go.Av.yO Go.Av.zV Go.Av.Con
theorem treeA_con (l:List Zn)(hz:∀z∈l,long z):zD Tryz.prog 17 [.p (.sl 5 (zns l))] (.p (B (tre l))):=by
 rw[tre,<- tree_same];exact tree_con l hz
theorem treeR_con (l:List Zn)(hz:∀z∈l,long z):zD Tryz.prog 19 [.p (.sl 5 (zns l))] (.p (B (tre l))):=tree07_con l hz
theorem Zn.ofL {ps:List PV}(h:ShL [.str,.str,.int .i64,.int .i64,.int .i64] ps):∃a:{z:Zn // long z},ps=a.1.c:=by
 obtain⟨_,_,rfl,h0,h⟩:=h.cons
 obtain⟨_,_,rfl,h1,h⟩:=h.cons
 obtain⟨_,_,rfl,h2,h⟩:=h.cons
 obtain⟨_,_,rfl,h3,h⟩:=h.cons
 obtain⟨_,_,rfl,h4,h⟩:=h.cons
 obtain rfl:=h.nil
 obtain⟨s,rfl,hs⟩:=h0.strI
 obtain⟨d,rfl,hd⟩:=h1.strI
 obtain⟨v,rfl,-⟩:=h2.intI
 obtain⟨k,rfl,-⟩:=h3.intI
 obtain⟨o,rfl,-⟩:=h4.intI
 have hl:∀s:ByteArray,s.size<=maxLen->s.data.toList.length<=9223372036854775807:=fun s hs=>by
  have h1:s.data.toList.length=s.size:=Array.length_toList
  have h2:maxLen=9223372036854775807:=rfl
  omega
 refine⟨⟨⟨s.data.toList,d.data.toList,v,k,o⟩,hl s hs,hl d hd⟩,?_⟩
 obtain⟨a,ha⟩:=bs_all s
 obtain⟨b,hb⟩:=bs_all d
 subst ha;subst hb
 simp[Zn.c]
theorem Cf.ext4 {x y:Cf}:x=y ↔ x.ep=y.ep/\x.n=y.n/\x.kind=y.kind/\x.ms=y.ms:=by cases x;cases y;simp
instance:DecidableEq Cf:=fun x y=>decidable_of_iff _ Cf.ext4.symm
structure Pt where
 (k:Int)
 (z:Zn)
 (s:Int)
 (c:Cf)
 deriving DecidableEq
def Pt.cells (x:Pt):List PV:=[I x.k,SB x.z.p,SB x.z.d,I x.z.v,I x.z.k,I x.z.o,I x.s,I x.c.ep,I x.c.n,I x.c.kind,.sl 4 (mbs x.c.ms)]
def pts (l:List Pt):List (List PV):=l.map Pt.cells
@[simp] theorem pts_len (l:List Pt):(pts l).length=l.length:=by simp[pts]
@[simp] theorem pts_getElem (l:List Pt)(k:Nat)(h:k<(pts l).length):(pts l)[k]=(l[k]'(by simpa using h)).cells:=by simp[pts]
theorem pts_get {l:List Pt}{k:Nat}(h:k<l.length):(pts l)[k]?=some [I l[k].k,SB l[k].z.p,SB l[k].z.d,I l[k].z.v,I l[k].z.k,I l[k].z.o,I l[k].s,I l[k].c.ep,I l[k].c.n,I l[k].c.kind,.sl 4 (mbs l[k].c.ms)]:=by simp[pts,h,Pt.cells]
structure Sv where
 (ns:List Zn)
 (ss:List Int)
 (nx:Int)
 (c:Cf)
 (ae an:Int)
 deriving DecidableEq
def Sv.cells (s:Sv):List PV:=[.sl 5 (zns s.ns),.sl 1 (ints s.ss),I s.nx,I s.c.ep,I s.c.n,I s.c.kind,.sl 4 (mbs s.c.ms),I s.ae,I s.an]
end Go.Proofs.YtedbbcmokbogpaaGreatDoor
