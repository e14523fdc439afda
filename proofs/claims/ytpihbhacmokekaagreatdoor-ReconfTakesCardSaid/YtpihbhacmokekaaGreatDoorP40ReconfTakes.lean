/- Texts that the proof needs: SX2 SX3 SX4 SX5 SX6 RS2 RS3. -/
import Derived.Test.YtpihbhacmokekaaGreatDoorP39ReconfTakes
import Derived.Test.YtpihbhacmokekaaGreatDoorP35ReconfTakes
namespace Go.Proofs.YtpihbhacmokekaaGreatDoor
set_option linter.unusedSimpArgs false
set_option linter.unusedVariables false
open Go Go.Av
theorem bsL_spec (p:Nat->Bool):∀ (f i j:Nat),j<=i+f->i<=j->(∀h h',i<=h->h<=h'->h'<j->p h'=true->p h=true) →
 (∀h,i<=h->h<bsL p f i j->p h=true)/\(∀h,bsL p f i j<=h->h<j->p h=false)
 |0,i,j,h1,h2,_=>by
  rw[bsL]
  exact⟨fun h a b=>by omega,fun h a b=>by omega⟩
 |f+1,i,j,h1,h2,mono=>by
  rw[bsL]
  split
  ·rename_i hlt
   have hh1:i<=(i+j) / 2:=by omega
   have hh2:(i+j) / 2<j:=by omega
   generalize (i+j) / 2=q at *
   split
   ·rename_i hp
    have ih:=bsL_spec p f (q+1) j (by omega) (by omega) fun h h' a b c d=>mono h h' (by omega) b c d
    refine⟨fun h a b=>?_,ih.2⟩
    by_cases e:q+1<=h
    ·exact ih.1 h e b
    ·exact mono h q a (by omega) hh2 hp
   ·rename_i hp
    have hb:=bsL_bd p f i q hh1
    have ih:=bsL_spec p f i q (by omega) hh1 fun h h' a b c d=>mono h h' a b (by omega) d
    refine⟨ih.1,fun h a b=>?_⟩
    by_cases e:h<q
    ·exact ih.2 h a e
    ·cases hc:p h with
     |false=>rfl
     |true=>exact absurd (mono q h hh1 (by omega) b hc) hp
  ·exact⟨fun h a b=>by omega,fun h a b=>by omega⟩
theorem shU_app (x:Mb)(Y:List Mb):∀ (X B:List Mb)(a n:Nat),a=X.length->n=B.length->shU (X++x::(B++Y)) a n=X++(B++x::Y):=by
 intro X B a n ha hn
 subst ha
 induction n generalizing B Y with
 |zero =>
  obtain rfl:=List.length_eq_zero_iff.1 hn.symm
  rfl
 |succ n ih =>
  obtain⟨B',y,rfl⟩:∃B' y,B=B'++[y]:=by
   rcases List.eq_nil_or_concat B with rfl|⟨B',y,rfl⟩
   ·simp at hn
   ·exact⟨B',y,by simp⟩
  rw[List.length_append] at hn
  have hn':n=B'.length:=by simp at hn;omega
  have e:=ih (y::Y) B' hn'
  rw[shU,show X++x::(B'++[y]++Y)=X++x::(B'++y::Y) by simp,e]
  have e2:=swR_app (X++B') [x] [] [y] Y rfl (X.length+n) (X.length+n+1) 1 (by rw[List.length_append];omega) rfl (by rw[List.length_append];simp;omega)
  have e3:swR (X++B'++([x]++([]++([y]++Y)))) (X.length+n) (X.length+n+1) 1=swp (X++(B'++x::(y::Y))) (X.length+n) (X.length+n+1):=by
   rw[swR,swR];simp
  rw[<- e3,e2]
  simp
theorem shD_app (x:Mb)(X:List Mb):∀ (A Y:List Mb)(m n:Nat),m=X.length+A.length->n=A.length->shD (X++(A++x::Y)) m n=X++x::(A++Y):=by
 intro A Y m n hm hn
 induction n generalizing A X with
 |zero =>
  obtain rfl:=List.length_eq_zero_iff.1 hn.symm
  rfl
 |succ n ih =>
  cases A with
  |nil=>simp at hn
  |cons y A =>
   rw[List.length_cons] at hn hm
   have e:=ih (X++[y]) A (by rw[List.length_append];simp;omega) (by omega)
   rw[shD,show X++(y::A++x::Y)=X++[y]++(A++x::Y) by simp,e]
   have e2:=swR_app X [y] [] [x] (A++Y) rfl (m-n-1) (m-n) 1 (by omega) rfl (by simp;omega)
   have hx:(X++[y]++x::(A++Y)).length=X.length+2+(A++Y).length:=by simp;omega
   have e3:swp (X++[y]++x::(A++Y)) (m-n) (m-n-1)=swp (X++[y]++x::(A++Y)) (m-n-1) (m-n):=by
    apply List.ext_getElem?
    intro k
    rw[swp_get (by omega) (by omega),swp_get (by omega) (by omega)]
    by_cases k1:k=m-n-1
    ·rw[if_pos k1,if_neg (by omega),if_pos k1]
    ·rw[if_neg k1,if_neg k1]
   have e4:swR (X++([y]++([]++([x]++(A++Y))))) (m-n-1) (m-n) 1=swp (X++[y]++x::(A++Y)) (m-n-1) (m-n):=by
    rw[swR,swR];simp
   rw[e3,<- e4,e2]
   simp
structure Sb (R A:List Mb):Prop where
 l:R.length=A.length
 f:∀k:Int,R.filter (fun x=>decide (x.i=k))=A.filter (fun x=>decide (x.i=k))
theorem Sb.refl (A:List Mb):Sb A A:=⟨rfl,fun _=>rfl⟩
theorem Sb.trans {A B C:List Mb}(h:Sb A B)(h':Sb B C):Sb A C:=⟨h.l.trans h'.l,fun k=>(h.f k).trans (h'.f k)⟩
theorem Sb.app {A B C D:List Mb}(h:Sb A B)(h':Sb C D):Sb (A++C) (B++D):=⟨by rw[List.length_append,List.length_append,h.l,h'.l],fun k=>by rw[List.filter_append,List.filter_append,h.f k,h'.f k]⟩
theorem Sb.mem {A B:List Mb}(h:Sb A B){x:Mb}(hx:x∈A):x∈B:=by
 have h1:x∈A.filter (fun y=>decide (y.i=x.i)):=List.mem_filter.2 ⟨hx,by simp⟩
 rw[h.f] at h1
 exact (List.mem_filter.1 h1).1
theorem Sb.swap {A B:List Mb}(h:∀a∈A,∀b∈B,a.i ≠ b.i):Sb (B++A) (A++B):=by
 refine⟨by simp[Nat.add_comm],fun k=>?_⟩
 rw[List.filter_append,List.filter_append]
 by_cases hA:A.filter (fun x=>decide (x.i=k))=[]
 ·rw[hA];simp
 ·have hB:B.filter (fun x=>decide (x.i=k))=[]:=by
   rw[List.filter_eq_nil_iff]
   intro b hb e
   obtain⟨a,ha⟩:=List.exists_mem_of_ne_nil _ hA
   obtain⟨ha1,ha2⟩:=List.mem_filter.1 ha
   rw[decide_eq_true_eq] at ha2 e
   exact h a ha1 b hb (by rw[ha2,e])
  rw[hB];simp
theorem Sb.eq:∀ {R A:List Mb},Ord R->Ord A->Sb R A->R=A
 |[],[],_,_,_=>rfl
 |[],y::A,_,_,h=>by have:=h.l;simp at this
 |x::R,[],_,_,h=>by have:=h.l;simp at this
 |x::R,y::A,hR,hA,h=>by
  obtain⟨r1,r2⟩:=List.pairwise_cons.1 hR
  obtain⟨a1,a2⟩:=List.pairwise_cons.1 hA
  have e1:y.i<=x.i:=by
   rcases List.mem_cons.1 (h.mem List.mem_cons_self) with e|hx
   ·rw[e];exact Int.le_refl _
   ·exact a1 x hx
  have hs:Sb (y::A) (x::R):=⟨h.l.symm,fun k=>(h.f k).symm⟩
  have e2:x.i<=y.i:=by
   rcases List.mem_cons.1 (hs.mem List.mem_cons_self) with e|hx
   ·rw[e];exact Int.le_refl _
   ·exact r1 y hx
  have e3:x.i=y.i:=Int.le_antisymm e2 e1
  have e4:=h.f x.i
  rw[List.filter_cons_of_pos (by simp),List.filter_cons_of_pos (by simp[e3])] at e4
  obtain⟨e5,-⟩:=List.cons.inj e4
  subst e5
  have h2:Sb R A:=⟨by have:=h.l;simpa using this,fun k=>by
   have:=h.f k
   by_cases hk:x.i=k
   ·rw[List.filter_cons_of_pos (by simp[hk]),List.filter_cons_of_pos (by simp[hk])] at this
    exact (List.cons.inj this).2
   ·rw[List.filter_cons_of_neg (by simp[hk]),List.filter_cons_of_neg (by simp[hk])] at this
    exact this⟩
  rw[Sb.eq r2 a2 h2]
theorem ord_app {A B:List Mb}:Ord (A++B) ↔ Ord A/\Ord B/\∀a∈A,∀b∈B,a.i<=b.i:=List.pairwise_append
theorem ins_sb (x:Mb):∀T:List Mb,Ord T->Sb (insM x T) (T++[x])
 |[],_=>Sb.refl _
 |y::T,h=>by
  obtain⟨h1,h2⟩:=List.pairwise_cons.1 h
  unfold insM
  split
  ·rename_i hx
   refine Sb.swap (A:=y::T) (B:=[x]) fun a ha b hb=>?_
   rw[List.mem_singleton.1 hb]
   rcases List.mem_cons.1 ha with rfl|ha
   ·omega
   ·have:=h1 a ha;omega
  ·exact Sb.app (Sb.refl [y]) (ins_sb x T h2)
theorem srt_sb (l:List Mb):Sb (xX l) l:=by
 have key:∀ (n:Nat)(l:List Mb),l.length=n->Sb (xX l) l:=by
  intro n
  induction n with
  |zero=>intro l hl;rw[List.length_eq_zero_iff.1 hl];exact Sb.refl _
  |succ n ih =>
   intro l hl
   obtain⟨B,x,rfl⟩:∃B x,l=B++[x]:=by
    rcases List.eq_nil_or_concat l with rfl|⟨B,x,rfl⟩
    ·simp at hl
    ·exact⟨B,x,by simp⟩
   rw[srtM_snoc]
   exact (ins_sb x _ (srtM_spec B).2.1).trans (Sb.app (ih B (by simpa using hl)) (Sb.refl [x]))
 exact key _ l rfl
theorem ltM_at {L:List Mb}{i j:Nat}{x y:Mb}(hx:L[i]?=some x)(hy:L[j]?=some y):ltM L i j=decide (x.i<y.i):=by
 unfold ltM
 rw[List.getD_eq_getElem?_getD,List.getD_eq_getElem?_getD,hx,hy];rfl
theorem ord_at {A:List Mb}(h:Ord A){i j:Nat}{x y:Mb}(hij:i<=j)(hx:A[i]?=some x)(hy:A[j]?=some y):x.i<=y.i:=by
 obtain⟨h1,rfl⟩:=List.getElem?_eq_some_iff.1 hx
 obtain⟨h2,rfl⟩:=List.getElem?_eq_some_iff.1 hy
 by_cases e:i=j
 ·subst e;exact Int.le_refl _
 ·exact List.pairwise_iff_getElem.1 h i j h1 h2 (by omega)
theorem at_A {X A R:List Mb}{h:Nat}(h1:X.length<=h)(h2:h<X.length+A.length):(X++(A++R))[h]?=A[h-X.length]?:=by
 rw[List.getElem?_append_right h1,List.getElem?_append_left (by omega)]
theorem at_B {X A B R:List Mb}{h:Nat}(h1:X.length+A.length<=h)(h2:h<X.length+A.length+B.length):(X++(A++(B++R)))[h]?=B[h-X.length-A.length]?:=by
 rw[List.getElem?_append_right (by omega),List.getElem?_append_right (by omega),List.getElem?_append_left (by omega)]
theorem some_at {A:List Mb}{i:Nat}(h:i<A.length):∃x,A[i]?=some x/\x∈A:=⟨A[i],List.getElem?_eq_getElem h,List.getElem_mem h⟩
theorem mem_take_at {A:List Mb}{n:Nat}{x:Mb}(h:x∈A.take n):∃i,i<n/\A[i]?=some x:=by
 obtain⟨i,hi,rfl⟩:=List.getElem_of_mem h
 rw[List.length_take] at hi
 exact⟨i,by omega,by rw[List.getElem_take];exact List.getElem?_eq_getElem (by omega)⟩
theorem mem_drop_at {A:List Mb}{n:Nat}{x:Mb}(h:x∈A.drop n):∃i,n<=i/\i<A.length/\A[i]?=some x:=by
 obtain⟨i,hi,rfl⟩:=List.getElem_of_mem h
 rw[List.length_drop] at hi
 exact⟨n+i,by omega,by omega,by rw[List.getElem_drop];exact List.getElem?_eq_getElem (by omega)⟩
theorem sym_one {X B Y:List Mb}{x:Mb}{a m b:Nat}(ha:a=X.length)(hm:m=X.length+1)(hb:b=X.length+1+B.length)(hB:Ord B) :
 ∃R,shU (X++([x]++(B++Y))) a (bsL (fun h=>ltM (X++([x]++(B++Y))) h a) (b-m) m b-1-a)=X++(R++Y)/\Ord R/\Sb R ([x]++B):=by
 have hx:(X++([x]++(B++Y)))[a]?=some x:=by rw[at_A (by omega) (by simp;omega)];simp[ha]
 have hp:∀h,m<=h->h<b->∃y,B[h-m]?=some y/\ltM (X++([x]++(B++Y))) h a=decide (y.i<x.i):=fun h h1 h2=>by
  obtain⟨y,hy,-⟩:=some_at (A:=B) (i:=h-m) (by omega)
  refine⟨y,hy,ltM_at ?_ hx⟩
  rw[at_B (by simp;omega) (by simp;omega),<- hy]
  congr 1;simp;omega
 generalize hP:(fun h=>ltM (X++([x]++(B++Y))) h a)=P
 have hp':∀h,m<=h->h<b->∃y,B[h-m]?=some y/\P h=decide (y.i<x.i):=fun h h1 h2=>by rw[<- hP];exact hp h h1 h2
 have sp:=bsL_spec P (b-m) m b (by omega) (by omega) fun h h' h1 h2 h3 h4=>by
  obtain⟨y,hy,e⟩:=hp' h h1 (by omega)
  obtain⟨z,hz,e'⟩:=hp' h' (by omega) h3
  rw[e',decide_eq_true_eq] at h4
  rw[e,decide_eq_true_eq]
  have:=ord_at hB (by omega) hy hz
  omega
 have bd:=bsL_bd P (b-m) m b (by omega)
 generalize bsL P (b-m) m b=k at *
 have l1:∀y∈B.take (k-m),y.i<x.i:=fun y hy=>by
  obtain⟨i,hi,hyi⟩:=mem_take_at hy
  obtain⟨z,hz,e⟩:=hp' (m+i) (by omega) (by omega)
  rw[sp.1 (m+i) (by omega) (by omega)] at e
  rw[show m+i-m=i by omega,hyi] at hz
  rw[Option.some.inj hz]
  exact of_decide_eq_true e.symm
 have l2:∀y∈B.drop (k-m),x.i<=y.i:=fun y hy=>by
  obtain⟨i,hi,hi2,hyi⟩:=mem_drop_at hy
  obtain⟨z,hz,e⟩:=hp' (m+i) (by omega) (by omega)
  rw[sp.2 (m+i) (by omega) (by omega)] at e
  rw[show m+i-m=i by omega,hyi] at hz
  rw[Option.some.inj hz]
  have:=of_decide_eq_false e.symm
  omega
 have hBt:=List.take_append_drop (k-m) B
 have hlen:(B.take (k-m)).length=k-m:=by rw[List.length_take];omega
 generalize B.take (k-m)=B1 at *
 generalize B.drop (k-m)=B2 at *
 subst hBt
 obtain⟨o1,o2,o3⟩:=ord_app.1 hB
 refine⟨B1++x::B2,?_,?_,?_⟩
 ·have:=shU_app x (B2++Y) X B1 a (k-1-a) ha (by omega)
  simpa using this
 ·refine ord_app.2 ⟨o1,List.pairwise_cons.2 ⟨l2,o2⟩,fun u hu q hq=>?_⟩
  rcases List.mem_cons.1 hq with e|hq
  ·have:=l1 u hu;rw[e];omega
  ·exact o3 u hu q hq
 ·have e1:=Sb.swap (A:=[x]) (B:=B1) fun p hp q hq=>by
   rw[List.mem_singleton.1 hp];have:=l1 q hq;omega
  have:=e1.app (Sb.refl B2)
  simpa using this
theorem sym_last {X A Y:List Mb}{x:Mb}{a m:Nat}(ha:a=X.length)(hm:m=X.length+A.length)(hA:Ord A) :
 ∃R,shD (X++(A++([x]++Y))) m (m-bsL (fun h=>!ltM (X++(A++([x]++Y))) m h) (m-a) a m)=X++(R++Y)/\Ord R/\Sb R (A++[x]):=by
 have hx:(X++(A++([x]++Y)))[m]?=some x:=by rw[at_B (by omega) (by simp;omega)];simp[hm]
 generalize hP:(fun h=>!ltM (X++(A++([x]++Y))) m h)=P
 have hp':∀h,a<=h->h<m->∃y,A[h-a]?=some y/\P h = !decide (x.i<y.i):=fun h h1 h2=>by
  obtain⟨y,hy,-⟩:=some_at (A:=A) (i:=h-a) (by omega)
  refine⟨y,hy,?_⟩
  rw[<- hP]
  show (!ltM _ m h)=_
  rw[ltM_at hx (y:=y) (by rw[at_A (by omega) (by omega),<- hy,ha])]
 have sp:=bsL_spec P (m-a) a m (by omega) (by omega) fun h h' h1 h2 h3 h4=>by
  obtain⟨y,hy,e⟩:=hp' h h1 (by omega)
  obtain⟨z,hz,e'⟩:=hp' h' (by omega) h3
  rw[e'] at h4
  rw[e]
  simp only[Bool.not_eq_true',decide_eq_false_iff_not] at h4 ⊢
  have:=ord_at hA (by omega) hy hz
  omega
 have bd:=bsL_bd P (m-a) a m (by omega)
 generalize bsL P (m-a) a m=k at *
 have l1:∀y∈A.take (k-a),y.i<=x.i:=fun y hy=>by
  obtain⟨i,hi,hyi⟩:=mem_take_at hy
  obtain⟨z,hz,e⟩:=hp' (a+i) (by omega) (by omega)
  rw[sp.1 (a+i) (by omega) (by omega)] at e
  rw[show a+i-a=i by omega,hyi] at hz
  rw[Option.some.inj hz]
  have:=e.symm
  simp only[Bool.not_eq_true',decide_eq_false_iff_not] at this
  omega
 have l2:∀y∈A.drop (k-a),x.i<y.i:=fun y hy=>by
  obtain⟨i,hi,hi2,hyi⟩:=mem_drop_at hy
  obtain⟨z,hz,e⟩:=hp' (a+i) (by omega) (by omega)
  rw[sp.2 (a+i) (by omega) (by omega)] at e
  rw[show a+i-a=i by omega,hyi] at hz
  rw[Option.some.inj hz]
  have:=e.symm
  simpa using this
 have hBt:=List.take_append_drop (k-a) A
 have hlen:(A.drop (k-a)).length=m-k:=by rw[List.length_drop];omega
 have hlen1:(A.take (k-a)).length=k-a:=by rw[List.length_take];omega
 generalize A.take (k-a)=A1 at *
 generalize A.drop (k-a)=A2 at *
 subst hBt
 obtain⟨o1,o2,o3⟩:=ord_app.1 hA
 refine⟨A1++x::A2,?_,?_,?_⟩
 ·have:=shD_app x (X++A1) A2 Y m (m-k) (by simp only[List.length_append];omega) (by omega)
  simpa using this
 ·refine ord_app.2 ⟨o1,List.pairwise_cons.2 ⟨fun y hy=>by have:=l2 y hy;omega,o2⟩,fun p hp q hq=>?_⟩
  rcases List.mem_cons.1 hq with rfl|hq
  ·exact l1 p hp
  ·exact o3 p hp q hq
 ·have e1:=Sb.swap (A:=A2) (B:=[x]) fun p hp q hq=>by
   rw[List.mem_singleton.1 hq];have:=l2 p hp;omega
  have:=(Sb.refl A1).app e1
  simpa using this
theorem srch {X A B Y:List Mb}{a m b d s0 r0:Nat}(ha:a=X.length)(hm:m=X.length+A.length)(hb:b=X.length+A.length+B.length)(hA:Ord A)(hB:Ord B)
 (h1:a<=s0)(h2:s0<=r0)(h3:r0<=m)(h4:r0<=d)(h5:d+m<=b+s0)(h6:r0=d\/r0=m)(h7:s0=a\/d+m=b+s0)(s:Nat)
 (hs:s=bsL (fun c=>!ltM (X++(A++(B++Y))) (d+m-1-c) c) (r0-s0) s0 r0) :
 s0<=s/\s<=r0/\(∀x∈A.take (s-a),∀y∈B.drop (d-s),x.i<=y.i)/\(∀x∈A.drop (s-a),∀y∈B.take (d-s),y.i<x.i):=by
 generalize hP:(fun c=>!ltM (X++(A++(B++Y))) (d+m-1-c) c)=P at hs
 have hp':∀c,s0<=c->c<r0->∃x y,A[c-a]?=some x/\B[d-1-c]?=some y/\P c = !decide (y.i<x.i):=fun c c1 c2=>by
  obtain⟨x,hx,-⟩:=some_at (A:=A) (i:=c-a) (by omega)
  obtain⟨y,hy,-⟩:=some_at (A:=B) (i:=d-1-c) (by omega)
  refine⟨x,y,hx,hy,?_⟩
  rw[<- hP]
  show (!ltM _ (d+m-1-c) c)=_
  rw[ltM_at (x:=y) (y:=x)]
  ·rw[at_B (by omega) (by omega),<- hy];congr 1;omega
  ·rw[at_A (by omega) (by omega),<- hx,ha]
 have sp:=bsL_spec P (r0-s0) s0 r0 (by omega) h2 fun c c' c1 c2 c3 c4=>by
  obtain⟨x,y,hx,hy,e⟩:=hp' c c1 (by omega)
  obtain⟨x',y',hx',hy',e'⟩:=hp' c' (by omega) c3
  rw[e'] at c4
  rw[e]
  simp only[Bool.not_eq_true',decide_eq_false_iff_not] at c4 ⊢
  have q1:=ord_at hA (by omega) hx hx'
  have q2:=ord_at hB (by omega) hy' hy
  omega
 have bd:=bsL_bd P (r0-s0) s0 r0 h2
 rw[<- hs] at sp bd
 refine⟨bd.1,bd.2,fun x hx y hy=>?_,fun x hx y hy=>?_⟩
 ·obtain⟨i,hi,hxi⟩:=mem_take_at hx
  obtain⟨j,hj,hj2,hyj⟩:=mem_drop_at hy
  by_cases e:s0<s
  ·obtain⟨x',y',hx',hy',e'⟩:=hp' (s-1) (by omega) (by omega)
   rw[sp.1 (s-1) (by omega) (by omega)] at e'
   have e':=e'.symm
   simp only[Bool.not_eq_true',decide_eq_false_iff_not] at e'
   have q1:=ord_at hA (by omega) hxi hx'
   have q2:=ord_at hB (by omega) hy' hyj
   omega
  ·omega
 ·obtain⟨i,hi,hi2,hxi⟩:=mem_drop_at hx
  obtain⟨j,hj,hyj⟩:=mem_take_at hy
  by_cases e:s<r0
  ·obtain⟨x',y',hx',hy',e'⟩:=hp' s (by omega) e
   rw[sp.2 s (by omega) e] at e'
   have e':=e'.symm
   simp only[Bool.not_eq_false',decide_eq_true_eq] at e'
   have q1:=ord_at hA (by omega) hx' hxi
   have q2:=ord_at hB (by omega) hyj hy'
   omega
  ·obtain⟨hjl, -⟩:=List.getElem?_eq_some_iff.1 hyj
   omega
theorem symM_spec:∀ (f:Nat)(X A B Y:List Mb)(a m b:Nat),b<=a+f->a=X.length->m=X.length+A.length->b=X.length+A.length+B.length->0<A.length->0<B.length->Ord A->Ord B →
 ∃R,symM f (X++(A++(B++Y))) a m b=X++(R++Y)/\Ord R/\Sb R (A++B)
 |0,X,A,B,Y,a,m,b,h,ha,hm,hb,h1,h2,_,_=>by omega
 |f+1,X,A,B,Y,a,m,b,h,ha,hm,hb,h1,h2,hA,hB=>by
  rw[symM]
  by_cases q1:m-a=1
  ·rw[if_pos q1]
   obtain⟨x,rfl⟩:∃x,A=[x]:=List.length_eq_one_iff.1 (by omega)
   exact sym_one ha (by simpa using hm) (by simpa using hb) hB
  rw[if_neg q1]
  by_cases q2:b-m=1
  ·rw[if_pos q2]
   obtain⟨x,rfl⟩:∃x,B=[x]:=List.length_eq_one_iff.1 (by omega)
   exact sym_last ha hm hA
  rw[if_neg q2]
  have hd1:a+1<(a+b) / 2:=by omega
  have hd2:(a+b) / 2+1<b:=by omega
  have hdd:2 * ((a+b) / 2)<=a+b/\a+b<=2 * ((a+b) / 2)+1:=by omega
  have hS:∃s,mgS (X++(A++(B++Y))) a m b=s/\a<=s/\s<=m/\s<=(a+b) / 2/\(a+b) / 2+m<=b+s/\(∀x∈A.take (s-a),∀y∈B.drop ((a+b) / 2-s),x.i<=y.i)/\(∀x∈A.drop (s-a),∀y∈B.take ((a+b) / 2-s),y.i<x.i):=by
   refine⟨_,rfl,?_⟩
   unfold mgS
   generalize (a+b) / 2=d at *
   by_cases q3:d<m
   ·rw[if_pos q3]
    obtain⟨w1,w2,w3,w4⟩:=srch (Y:=Y) (d:=d) (s0:=d+m-b) (r0:=d) ha hm hb hA hB (by omega) (by omega) (by omega) (by omega) (by omega) (.inl rfl) (.inr (by omega)) _ rfl
    exact⟨by omega,by omega,w2,by omega,w3,w4⟩
   ·rw[if_neg q3]
    obtain⟨w1,w2,w3,w4⟩:=srch (Y:=Y) (d:=d) (s0:=a) (r0:=m) ha hm hb hA hB (by omega) (by omega) (by omega) (by omega) (by omega) (.inr rfl) (.inl rfl) _ rfl
    exact⟨w1,w2,by omega,by omega,w3,w4⟩
  obtain⟨s,es,s1,s2,s3,s4,f2,f1⟩:=hS
  rw[es]
  unfold mgP
  dsimp only
  generalize (a+b) / 2=d at *
  have lA:=List.take_append_drop (s-a) A
  have lB:=List.take_append_drop (d-s) B
  have n1:(A.take (s-a)).length=s-a:=by rw[List.length_take];omega
  have n2:(A.drop (s-a)).length=m-s:=by rw[List.length_drop];omega
  have n3:(B.take (d-s)).length=d-s:=by rw[List.length_take];omega
  have n4:(B.drop (d-s)).length=b-m-(d-s):=by rw[List.length_drop];omega
  generalize A.take (s-a)=A1 at *
  generalize A.drop (s-a)=A2 at *
  generalize B.take (d-s)=B1 at *
  generalize B.drop (d-s)=B2 at *
  subst lA lB
  obtain⟨oA1,oA2,oA⟩:=ord_app.1 hA
  obtain⟨oB1,oB2,oB⟩:=ord_app.1 hB
  simp only[List.length_append] at hm hb h1 h2
  have eL:X++(A1++A2++(B1++B2++Y))=X++A1++(A2++(B1++(B2++Y))):=by simp only[List.append_assoc]
  have e1:(if s<m/\m<d+m-s then rotM m (d+m-s-s) (X++(A1++A2++(B1++B2++Y))) (m-s) (d+m-s-m) else X++(A1++A2++(B1++B2++Y)))=X++(A1++(B1++(A2++(B2++Y)))):=by
   by_cases q:s<m/\m<d+m-s
   ·rw[if_pos q,eL,rotM_app m _ (X++A1) A2 B1 (B2++Y) _ _ (by omega) (by omega) (by omega) (by omega) (by omega) (by rw[List.length_append];omega)]
    simp only[List.append_assoc]
   ·rw[if_neg q]
    by_cases q':s<m
    ·have:B1=[]:=List.length_eq_zero_iff.1 (by omega)
     subst this;simp
    ·have:A2=[]:=List.length_eq_zero_iff.1 (by omega)
     subst this;simp
  rw[e1]
  obtain⟨R1,e2,o2,b2⟩:∃R1,(if a<s/\s<d then symM f (X++(A1++(B1++(A2++(B2++Y))))) a s d else X++(A1++(B1++(A2++(B2++Y)))))=X++(R1++(A2++(B2++Y)))/\Ord R1/\Sb R1 (A1++B1):=by
   by_cases q:a<s/\s<d
   ·rw[if_pos q]
    exact symM_spec f X A1 B1 (A2++(B2++Y)) a s d (by omega) ha (by omega) (by omega) (by omega) (by omega) oA1 oB1
   ·rw[if_neg q]
    refine⟨A1++B1,by simp only[List.append_assoc],?_,Sb.refl _⟩
    by_cases q':a<s
    ·have:B1=[]:=List.length_eq_zero_iff.1 (by omega)
     subst this;simpa using oA1
    ·have:A1=[]:=List.length_eq_zero_iff.1 (by omega)
     subst this;simpa using oB1
  rw[e2]
  have l2:=b2.l
  rw[List.length_append] at l2
  obtain⟨R2,e3,o3,b3⟩:∃R2,(if d<d+m-s/\d+m-s<b then symM f (X++(R1++(A2++(B2++Y)))) d (d+m-s) b else X++(R1++(A2++(B2++Y))))=X++(R1++(R2++Y))/\Ord R2/\Sb R2 (A2++B2):=by
   by_cases q:d<d+m-s/\d+m-s<b
   ·rw[if_pos q]
    obtain⟨R2,w1,w2,w3⟩:=symM_spec f (X++R1) A2 B2 Y d (d+m-s) b (by omega) (by rw[List.length_append];omega) (by rw[List.length_append];omega) (by rw[List.length_append];omega) (by omega) (by omega) oA2 oB2
    exact⟨R2,by simpa only [List.append_assoc] using w1,w2,w3⟩
   ·rw[if_neg q]
    refine⟨A2++B2,by simp only[List.append_assoc],?_,Sb.refl _⟩
    by_cases q':d<d+m-s
    ·have:B2=[]:=List.length_eq_zero_iff.1 (by omega)
     subst this;simpa using oA2
    ·have:A2=[]:=List.length_eq_zero_iff.1 (by omega)
     subst this;simpa using oB2
  rw[e3]
  refine⟨R1++R2,by simp only[List.append_assoc],?_,?_⟩
  ·refine ord_app.2 ⟨o2,o3,fun x hx y hy=>?_⟩
   rcases List.mem_append.1 (b2.mem hx) with hx|hx
   ·rcases List.mem_append.1 (b3.mem hy) with hy|hy
    ·exact oA x hx y hy
    ·exact f2 x hx y hy
   ·rcases List.mem_append.1 (b3.mem hy) with hy|hy
    ·have:=f1 y hy x hx;omega
    ·exact oB x hx y hy
  ·refine (b2.app b3).trans ?_
   have w:=Sb.swap (A:=A2) (B:=B1) fun x hx y hy=>by have:=f1 x hx y hy;omega
   have:=((Sb.refl A1).app w).app (Sb.refl B2)
   simpa only [List.append_assoc] using this
theorem Sb.symm {A B:List Mb}(h:Sb A B):Sb B A:=⟨h.l.symm,fun k=>(h.f k).symm⟩
theorem isrt_app (X A Y:List Mb)(a b:Nat)(ha:a=X.length)(hb:b=X.length+A.length):isrt (X++(A++Y)) a b=X++(xX A++Y):=by
 unfold isrt
 have e1:(X++(A++Y)).take a=X:=by rw[ha];exact List.take_left
 have e2:(X++(A++Y)).drop a=A++Y:=by rw[ha];exact List.drop_left
 have e3:(X++(A++Y)).drop b=Y:=by rw[hb,<- List.append_assoc,<- List.length_append];exact List.drop_left
 rw[e1,e2,e3]
 have e4:(A++Y).take (b-a)=A:=by rw[show b-a=A.length by omega];exact List.take_left
 rw[e4]
inductive Bks (bs:Nat):List Mb->Prop
 |last {A:List Mb}(h:Ord A)(hl:A.length<bs):Bks bs A
 |cons {A T:List Mb}(h:Ord A)(hl:A.length=bs)(hT:Bks bs T):Bks bs (A++T)
theorem srt_ord (l:List Mb):Ord (xX l):=(srtM_spec l).2.1
theorem blk_spec (n:Nat):∀ (f:Nat)(X T:List Mb)(a:Nat),n<=a+f->a=X.length->n=X.length+T.length->∃T',isrt (blkM n f (X++T) a).1 (blkM n f (X++T) a).2 n=X++T'/\Bks 20 T'/\Sb T' T:=by
 intro f
 have fin:∀ (f:Nat)(X T:List Mb)(a:Nat),¬ a+20<=n->a=X.length->n=X.length+T.length->∃T',isrt (blkM n f (X++T) a).1 (blkM n f (X++T) a).2 n=X++T'/\Bks 20 T'/\Sb T' T:=fun f X T a h0 ha hn=>by
  rw[blkM_end n f _ a h0]
  have:=isrt_app X T [] a n ha hn
  simp only[List.append_nil] at this
  exact⟨xX T,this,.last (srt_ord T) (by rw[wK];omega),srt_sb T⟩
 induction f with
 |zero=>intro X T a h ha hn;exact fin 0 X T a (by omega) ha hn
 |succ f ih =>
  intro X T a h ha hn
  by_cases h20:a+20<=n
  ·obtain⟨A,T2,rfl,hl⟩:∃A T2,T=A++T2/\A.length=20:=⟨T.take 20,T.drop 20,(List.take_append_drop 20 T).symm,by rw[List.length_take];omega⟩
   rw[List.length_append] at hn
   rw[blkM,if_pos h20,isrt_app X A T2 a (a+20) ha (by omega),<- List.append_assoc]
   obtain⟨T',e,b,s⟩:=ih (X++xX A) T2 (a+20) (by omega) (by rw[List.length_append,wK];omega) (by rw[List.length_append,wK];omega)
   exact⟨xX A++T',by rw[e,List.append_assoc],.cons (srt_ord A) (by rw[wK];exact hl) b,(srt_sb A).app s⟩
  ·exact fin _ X T a h20 ha hn
theorem mrg_spec (n bs:Nat)(h0:0<bs):∀ (f:Nat)(X T:List Mb)(a:Nat),n<=a+f->a=X.length->n=X.length+T.length->Bks bs T →
 ∃T',(if (mrgM n bs f (X++T) a).2+bs<n then symM n (mrgM n bs f (X++T) a).1 (mrgM n bs f (X++T) a).2 ((mrgM n bs f (X++T) a).2+bs) n else (mrgM n bs f (X++T) a).1)=X++T'/\Bks (bs * 2) T'/\Sb T' T:=by
 intro f
 induction f with
 |zero =>
  intro X T a h ha hn hT
  have:T=[]:=List.length_eq_zero_iff.1 (by omega)
  subst this
  rw[mrgM_end n bs 0 _ a (by omega)]
  dsimp only
  rw[if_neg (by omega)]
  exact⟨[],rfl,.last .nil (by simp;omega),Sb.refl _⟩
 |succ f ih =>
  intro X T a h ha hn hT
  cases hT with
  |last o l =>
   rw[mrgM_end n bs _ _ a (by omega)]
   dsimp only
   rw[if_neg (by omega)]
   exact⟨T,rfl,.last o (by omega),Sb.refl _⟩
  |@cons A T1 oA lA hT1 =>
   rw[List.length_append] at hn
   cases hT1 with
   |last oB lB =>
    rw[mrgM_end n bs _ _ a (by omega)]
    dsimp only
    by_cases hb:a+bs<n
    ·rw[if_pos hb]
     obtain⟨R,e,o,s⟩:=symM_spec n X A T1 [] a (a+bs) n (by omega) ha (by omega) (by omega) (by omega) (by omega) oA oB
     simp only[List.append_nil] at e
     have:=s.l
     rw[List.length_append] at this
     exact⟨R,e,.last o (by omega),s⟩
    ·rw[if_neg hb]
     have:T1=[]:=List.length_eq_zero_iff.1 (by omega)
     subst this
     exact⟨A++[],rfl,.last (by simpa using oA) (by simp;omega),Sb.refl _⟩
   |@cons B T2 oB lB hT2 =>
    rw[List.length_append] at hn
    obtain⟨R,e,o,s⟩:=symM_spec n X A B T2 a (a+bs) (a+2 * bs) (by omega) ha (by omega) (by omega) (by omega) (by omega) oA oB
    have hl:=s.l
    rw[List.length_append] at hl
    have e0:X++(A++(B++T2))=X++(A++(B++T2)):=rfl
    have hc:a+2 * bs<=n:=by omega
    rw[mrgM,if_pos hc,e,<- List.append_assoc X R T2]
    obtain⟨T',e',b,s'⟩:=ih (X++R) T2 (a+2 * bs) (by omega) (by rw[List.length_append];omega) (by rw[List.length_append];omega) hT2
    refine⟨R++T',by rw[e',List.append_assoc],.cons o (by omega) b,?_⟩
    have:=s.app s'
    rw[List.append_assoc] at this
    exact this
theorem stb_spec (n:Nat):∀ (f bs:Nat)(L:List Mb),n<=bs+f->0<bs->n=L.length->Bks bs L->Ord (stbM n f bs L)/\Sb (stbM n f bs L) L:=by
 have fin:∀ (bs:Nat)(L:List Mb),n<=bs->n=L.length->Bks bs L->Ord L/\Sb L L:=fun bs L h hn hL=>by
  refine⟨?_,Sb.refl _⟩
  cases hL with
  |last o _=>exact o
  |@cons A T o l hT =>
   rw[List.length_append] at hn
   have:T=[]:=List.length_eq_zero_iff.1 (by omega)
   subst this
   simpa using o
 intro f
 induction f with
 |zero=>intro bs L h h0 hn hL;rw[stbM];exact fin bs L (by omega) hn hL
 |succ f ih =>
  intro bs L h h0 hn hL
  rw[stbM]
  split
  ·have:=mrg_spec n bs h0 n [] L 0 (by omega) rfl (by simpa using hn) hL
   obtain⟨T',e,b,s⟩:=this
   have e':rndM n bs L=T':=by unfold rndM;simpa using e
   rw[e']
   obtain⟨o,s'⟩:=ih (bs * 2) T' (by omega) (by omega) (by rw[s.l];exact hn) b
   exact⟨o,s'.trans s⟩
  ·exact fin bs L (by omega) hn hL
theorem stab_srt (l:List Mb):stab l=xX l:=by
 obtain⟨T',e,b,s⟩:=blk_spec l.length l.length [] l 0 (by omega) rfl (by simp)
 simp only[List.nil_append] at e
 obtain⟨o,s'⟩:=stb_spec l.length l.length 20 T' (by omega) (by omega) s.l.symm b
 unfold stab
 rw[e]
 exact Sb.eq o (srt_ord l) ((s'.trans s).trans (srt_sb l).symm)
theorem stS_srt (l:List Mb):stS l=xX l:=by
 unfold stS
 split
 ·rfl
 ·exact stab_srt l
end Go.Proofs.YtpihbhacmokekaaGreatDoor
namespace Go.Proofs.YtpihbhacmokekaaGreatDoor
set_option linter.unusedSimpArgs false
set_option linter.unusedVariables false
set_option maxRecDepth 8000
open Go Go.Av
attribute [local irreducible] Go.Av.yJ Go.Av.zU Go.Av.yC Go.Av.zQ Go.Av.yG Go.Av.zV Go.Av.Con
theorem has06_con (l:List Int)(n:Int)(hl:l.length<=1000000):zE Tryz.prog 39 [.p (.sl 1 (ints l)),.p (I n)] (.p (B (decide (n∈l)))):=by
 refine zG Tryz.tab Tryz.mixed Tryz.func39 rfl rfl Tryz.ntmps39 (by simp) (by simp) fun Q hr hn=>?_
 repeat' first|((first|refine O _ ?_|refine O _ _ ?_|(clear O;refine O _ ?_));clear O)|(refine zJ fun K O=>?_)|((first|refine zH ?_|refine zN rfl (by kernel_rfl) ?_|refine zM ?_|refine zK (by kernel_rfl) ?_);simp only[vS,vR,strip])|((first|refine wIs fun K O=>?_|refine wOs fun K O=>?_|refine wQs fun K O=>?_|refine zW ?_|refine zX ?_|refine zY ?_|refine zL ?_);simp)|(refine wIn ?_;refine And.intro (by kernel_rfl) ?_;try simp only[zZ])|refine zR ?_|refine zT ?_|((first|refine zI ?_|refine zO ?_|refine zP ?_);try simp)|((first|refine zS ?_|refine wOn ?_|refine wQn ?_);try simp only[zZ])
 refine zC (fun N st=>∃k,k+N=l.length/\st.s 1=.p (I n)/\st.s 7=.p (.sl 1 (ints l))/\st.s 8=.p (I l.length)/\st.s 9=.p (I k)/\(n∈l ↔ n∈l.drop k)) l.length ⟨0,by simp⟩ fun K N st hL ⟨k,hk,h1,h7,h8,h9,hi⟩=>?_
 by_cases hlt:k<l.length
 ·have hw:=yU k _ hlt (by omega)
  have he:=ints_get hlt
  rw[List.drop_eq_getElem_cons hlt,List.mem_cons] at hi
  generalize hF:l[k]=x at *
  by_cases o:x=n
  ·subst o
   rw[decide_eq_true (hi.2 (.inl rfl))] at hr
   repeat' first|((first|refine O _ ?_|refine O _ _ ?_|(clear O;refine O _ ?_));clear O)|(refine zJ fun K O=>?_)|((first|refine zH ?_|refine zN rfl (by kernel_rfl) ?_|refine zM ?_|refine zK (by kernel_rfl) ?_);simp only[vS,vR,strip])|((first|refine wIs fun K O=>?_|refine wOs fun K O=>?_|refine wQs fun K O=>?_|refine zW ?_|refine zX ?_|refine zY ?_|refine zL ?_);simp[h1,h7,h8,h9,hlt,hw,he,hF])|(refine wIn ?_;refine And.intro (by kernel_rfl) ?_;try simp only[zZ])|refine zR ?_|refine zT ?_|((first|refine zI ?_|refine zO ?_|refine zP ?_);try simp)|((first|refine zS ?_|refine wOn ?_|refine wQn ?_);try simp only[zZ])
   all_goals apply hr
   all_goals simp[Tryz.f39]
  ·have o':(x=n)=False:=eq_false o
   have hi':n∈l ↔ n∈l.drop (k+1):=hi.trans ⟨fun h=>h.elim (fun h=>absurd h.symm o) id,.inr⟩
   repeat' first|((first|refine O _ ?_|refine O _ _ ?_|(clear O;refine O _ ?_));clear O)|(refine zJ fun K O=>?_)|((first|refine zH ?_|refine zN rfl (by kernel_rfl) ?_|refine zM ?_|refine zK (by kernel_rfl) ?_);simp only[vS,vR,strip])|((first|refine wIs fun K O=>?_|refine wOs fun K O=>?_|refine wQs fun K O=>?_|refine zW ?_|refine zX ?_|refine zY ?_|refine zL ?_);simp[h1,h7,h8,h9,hlt,hw,he,hF,o'])|(refine wIn ?_;refine And.intro (by kernel_rfl) ?_;try simp only[zZ])|refine zR ?_|refine zT ?_|((first|refine zI ?_|refine zO ?_|refine zP ?_);try simp)|((first|refine zS ?_|refine wOn ?_|refine wQn ?_);try simp only[zZ])
   refine hL _ (N-1) (by omega) ⟨k+1,by omega,?_,?_,?_,?_,hi'⟩
   all_goals simp[h1,h7,h8,h9,hw]
 ·rw[List.drop_of_length_le (by omega)] at hi
  rw[decide_eq_false (fun h=>by simpa using hi.1 h)] at hr
  repeat' first|((first|refine O _ ?_|refine O _ _ ?_|(clear O;refine O _ ?_));clear O)|(refine zJ fun K O=>?_)|((first|refine zH ?_|refine zN rfl (by kernel_rfl) ?_|refine zM ?_|refine zK (by kernel_rfl) ?_);simp only[vS,vR,strip])|((first|refine wIs fun K O=>?_|refine wOs fun K O=>?_|refine wQs fun K O=>?_|refine zW ?_|refine zX ?_|refine zY ?_|refine zL ?_);simp[h1,h7,h8,h9,hlt])|(refine wIn ?_;refine And.intro (by kernel_rfl) ?_;try simp only[zZ])|refine zR ?_|refine zT ?_|((first|refine zI ?_|refine zO ?_|refine zP ?_);try simp)|((first|refine zS ?_|refine wOn ?_|refine wQn ?_);try simp only[zZ])
  all_goals apply hr
  all_goals simp[Tryz.f39]
theorem twice06_con (l:List Int)(hl:l.length<=1000000):zE Tryz.prog 38 [.p (.sl 1 (ints l))] (.p (B (twL l))):=by
 refine zG Tryz.tab Tryz.mixed Tryz.func38 rfl rfl Tryz.ntmps38 (by simp) (by simp) fun Q hr hn=>?_
 repeat' first|((first|refine O _ ?_|refine O _ _ ?_|(clear O;refine O _ ?_));clear O)|(refine zJ fun K O=>?_)|((first|refine zH ?_|refine zN rfl (by kernel_rfl) ?_|refine zM ?_|refine zK (by kernel_rfl) ?_);simp only[vS,vR,strip])|((first|refine wIs fun K O=>?_|refine wOs fun K O=>?_|refine wQs fun K O=>?_|refine zW ?_|refine zX ?_|refine zY ?_|refine zL ?_);simp)|(refine wIn ?_;refine And.intro (by kernel_rfl) ?_;try simp only[zZ])|refine zR ?_|refine zT ?_|((first|refine zI ?_|refine zO ?_|refine zP ?_);try simp)|((first|refine zS ?_|refine wOn ?_|refine wQn ?_);try simp only[zZ])
 refine zC (fun N st=>∃k,k+N=l.length/\st.s 0=.p (.sl 1 (ints l))/\st.s 4=.p (.sl 1 (ints l))/\st.s 5=.p (I l.length)/\st.s 6=.p (I k)/\(l.take k).Nodup) l.length ⟨0,by simp⟩ fun K N st hL ⟨k,hk,h0,h4,h5,h6,hi⟩=>?_
 by_cases hlt:k<l.length
 ·have hw:=yU k _ hlt (by omega)
  have hkl:k<=l.length:=by omega
  have he:=ints_get hlt
  have ht:=ints_take l k
  have hc:=has06_con (l.take k) l[k] (by rw[List.length_take];omega)
  have hn:=nodup_snoc l k hlt
  by_cases hm:l[k]∈l.take k
  ·rw[decide_eq_true hm] at hc
   have hf:twL l=true:=decide_eq_true (nodup_take (k+1) fun h=>(hn.1 h).2 hm)
   rw[hf] at hr
   repeat' first|refine zU.p hc rfl ?_|refine zU.l hc rfl ?_|refine zQ.pure hc rfl ?_|refine zQ.lent hc rfl ?_|refine zU.o hc ?_|refine zV.p hc rfl ?_|refine zV.l hc rfl ?_|refine zV.o hc ?_|((first|refine O _ ?_|refine O _ _ ?_|(clear O;refine O _ ?_));clear O)|(refine zJ fun K O=>?_)|((first|refine zH ?_|refine zN rfl (by kernel_rfl) ?_|refine zM ?_|refine zK (by kernel_rfl) ?_);simp only[vS,vR,strip])|((first|refine wIs fun K O=>?_|refine wOs fun K O=>?_|refine wQs fun K O=>?_|refine zW ?_|refine zX ?_|refine zY ?_|refine zL ?_);simp[h0,h4,h5,h6,hlt,hw,hkl,ht])|(refine wIn ?_;refine And.intro (by kernel_rfl) ?_;try simp only[zZ])|refine zR ?_|refine zT ?_|((first|refine zI ?_|refine zO ?_|refine zP ?_);try simp)|((first|refine zS ?_|refine wOn ?_|refine wQn ?_);try simp only[zZ])
   all_goals apply hr
   all_goals simp[Tryz.f38]
  ·rw[decide_eq_false hm] at hc
   repeat' first|refine zU.p hc rfl ?_|refine zU.l hc rfl ?_|refine zQ.pure hc rfl ?_|refine zQ.lent hc rfl ?_|refine zU.o hc ?_|refine zV.p hc rfl ?_|refine zV.l hc rfl ?_|refine zV.o hc ?_|((first|refine O _ ?_|refine O _ _ ?_|(clear O;refine O _ ?_));clear O)|(refine zJ fun K O=>?_)|((first|refine zH ?_|refine zN rfl (by kernel_rfl) ?_|refine zM ?_|refine zK (by kernel_rfl) ?_);simp only[vS,vR,strip])|((first|refine wIs fun K O=>?_|refine wOs fun K O=>?_|refine wQs fun K O=>?_|refine zW ?_|refine zX ?_|refine zY ?_|refine zL ?_);simp[h0,h4,h5,h6,hlt,hw,hkl,ht])|(refine wIn ?_;refine And.intro (by kernel_rfl) ?_;try simp only[zZ])|refine zR ?_|refine zT ?_|((first|refine zI ?_|refine zO ?_|refine zP ?_);try simp)|((first|refine zS ?_|refine wOn ?_|refine wQn ?_);try simp only[zZ])
   refine hL _ (N-1) (by omega) ⟨k+1,by omega,?_,?_,?_,?_,hn.2 ⟨hi,hm⟩⟩
   all_goals simp[h0,h4,h5,h6,hw]
 ·have hf:twL l=false:=decide_eq_false (by rw[List.take_of_length_le (by omega)] at hi;simpa using hi)
  rw[hf] at hr
  repeat' first|((first|refine O _ ?_|refine O _ _ ?_|(clear O;refine O _ ?_));clear O)|(refine zJ fun K O=>?_)|((first|refine zH ?_|refine zN rfl (by kernel_rfl) ?_|refine zM ?_|refine zK (by kernel_rfl) ?_);simp only[vS,vR,strip])|((first|refine wIs fun K O=>?_|refine wOs fun K O=>?_|refine wQs fun K O=>?_|refine zW ?_|refine zX ?_|refine zY ?_|refine zL ?_);simp[h0,h4,h5,h6,hlt])|(refine wIn ?_;refine And.intro (by kernel_rfl) ?_;try simp only[zZ])|refine zR ?_|refine zT ?_|((first|refine zI ?_|refine zO ?_|refine zP ?_);try simp)|((first|refine zS ?_|refine wOn ?_|refine wQn ?_);try simp only[zZ])
  all_goals apply hr
  all_goals simp[Tryz.f38]
theorem pids_snoc (l:List Mb)(k:Nat)(h:k<l.length):ints (xM (l.take k))++[[I l[k].i]]=ints (xM (l.take (k+1))):=by
 unfold xM ints;rw[List.take_succ_eq_append_getElem h,List.map_append,List.map_append];rfl
theorem ids06_con (l:List Mb)(hl:l.length<=1000000):zE Tryz.prog 37 [.p (.sl 4 (mbs l))] (.p (.sl 1 (ints (xM l)))):=by
 refine zG Tryz.tab Tryz.mixed Tryz.func37 rfl rfl Tryz.ntmps37 (by simp) (by simp) fun Q hr hn=>?_
 repeat' first|((first|refine O _ ?_|refine O _ _ ?_|(clear O;refine O _ ?_));clear O)|(refine zJ fun K O=>?_)|((first|refine zH ?_|refine zN rfl (by kernel_rfl) ?_|refine zM ?_|refine zK (by kernel_rfl) ?_);simp only[vS,vR,strip])|((first|refine wIs fun K O=>?_|refine wOs fun K O=>?_|refine wQs fun K O=>?_|refine zW ?_|refine zX ?_|refine zY ?_|refine zL ?_);simp)|(refine wIn ?_;refine And.intro (by kernel_rfl) ?_;try simp only[zZ])|refine zR ?_|refine zT ?_|((first|refine zI ?_|refine zO ?_|refine zP ?_);try simp)|((first|refine zS ?_|refine wOn ?_|refine wQn ?_);try simp only[zZ])
 refine wLoopG [.row 3 3 1] (fun N st=>∃k,k+N=l.length/\st.s 3=.row 3/\st.s 6=.p (.sl 4 (mbs l))/\st.s 7=.p (I l.length)/\st.s 8=.p (I k)/\st.b 3=some (.row 3 1 (ints (xM (l.take k))))) l.length ⟨0,by simp[xM,ints]⟩ fun K N st hL ⟨k,hk,h3,h6,h7,h8,b3⟩=>?_
 by_cases hlt:k<l.length
 ·have hw:=yU k _ hlt (by omega)
  have he:=mbs_get hlt
  have hs:=pids_snoc l k hlt
  have hln:(xM (l.take k)).length=k:=by simp;omega
  generalize xM (l.take k)=P at *
  generalize hQ:xM (l.take (k+1))=Q at *
  repeat' first|(refine And.intro (by (try simp only[ints_len,hln]);omega) ?_)|((first|refine O _ ?_|refine O _ _ ?_|(clear O;refine O _ ?_));clear O)|(refine zJ fun K O=>?_)|((first|refine zH ?_|refine zN rfl (by kernel_rfl) ?_|refine zM ?_|refine zK (by kernel_rfl) ?_);simp only[vS,vR,strip])|((first|refine wIs fun K O=>?_|refine wOs fun K O=>?_|refine wQs fun K O=>?_|refine zW ?_|refine zX ?_|refine zY ?_|refine zL ?_);simp[h3,h6,h7,h8,b3,hlt,hw,he,hs])|(refine wIn ?_;refine And.intro (by kernel_rfl) ?_;try simp only[zZ])|refine zR ?_|refine zT ?_|((first|refine zI ?_|refine zO ?_|refine zP ?_);try simp)|((first|refine zS ?_|refine wOn ?_|refine wQn ?_);try simp only[zZ])
  refine hL _ (N-1) (by omega) ⟨k+1,by omega,?_⟩
  simp[h3,h6,h7,h8,b3,hw,hs,hQ]
 ·rw[List.take_of_length_le (by omega)] at b3
  generalize xM l=P at *
  repeat' first|((first|refine O _ ?_|refine O _ _ ?_|(clear O;refine O _ ?_));clear O)|(refine zJ fun K O=>?_)|((first|refine zH ?_|refine zN rfl (by kernel_rfl) ?_|refine zM ?_|refine zK (by kernel_rfl) ?_);simp only[vS,vR,strip])|((first|refine wIs fun K O=>?_|refine wOs fun K O=>?_|refine wQs fun K O=>?_|refine zW ?_|refine zX ?_|refine zY ?_|refine zL ?_);simp[h3,h6,h7,h8,b3,hlt])|(refine wIn ?_;refine And.intro (by kernel_rfl) ?_;try simp only[zZ])|refine zR ?_|refine zT ?_|((first|refine zI ?_|refine zO ?_|refine zP ?_);try simp)|((first|refine zS ?_|refine wOn ?_|refine wQn ?_);try simp only[zZ])
  all_goals apply hr
  all_goals simp[Tryz.f37,h3,b3]
theorem find06_con (c:Cf)(id:Int)(hl:c.ms.length<=1000000):zE Tryz.prog 40 [.p (.agg c.cells),.p (I id)] (.tup [.p (.agg (fm id c.ms).1.cells),.p (B (fm id c.ms).2)]):=by
 obtain⟨ep,n,kind,l⟩:=c
 simp only[Cf.cells] at hl ⊢
 refine zG Tryz.tab Tryz.mixed Tryz.func40 rfl rfl Tryz.ntmps40 (by simp) (by simp) fun Q hr hn=>?_
 repeat' first|((first|refine O _ ?_|refine O _ _ ?_|(clear O;refine O _ ?_));clear O)|(refine zJ fun K O=>?_)|((first|refine zH ?_|refine zN rfl (by kernel_rfl) ?_|refine zM ?_|refine zK (by kernel_rfl) ?_);simp only[vS,vR,strip])|((first|refine wIs fun K O=>?_|refine wOs fun K O=>?_|refine wQs fun K O=>?_|refine zW ?_|refine zX ?_|refine zY ?_|refine zL ?_);simp)|(refine wIn ?_;refine And.intro (by kernel_rfl) ?_;try simp only[zZ])|refine zR ?_|refine zT ?_|((first|refine zI ?_|refine zO ?_|refine zP ?_);try simp)|((first|refine zS ?_|refine wOn ?_|refine wQn ?_);try simp only[zZ])
 refine zC (fun N st=>∃ (k:Nat),k+N=l.length/\st.s 1=.p (I id)/\st.s 4=.ptr 4 0/\st.b 4=some (.box 71 [.p (I 0),.p (I 0),.p (I 0),.p (I 0)])/\st.s 9=.p (.sl 4 (mbs l))/\st.s 10=.p (I l.length)/\st.s 11=.p (I k)/\fm id (l.drop k)=fm id l) l.length ⟨0,by simp⟩ fun K N st hL ⟨k,hk,h1,h4,b4,h9,h10,h11,hi⟩=>?_
 by_cases hlt:k<l.length
 ·have hw:=yU k _ hlt (by omega)
  rw[List.drop_eq_getElem_cons hlt,fm] at hi
  by_cases o:l[k].i=id
  ·rw[if_pos o] at hi
   repeat' first|((first|refine O _ ?_|refine O _ _ ?_|(clear O;refine O _ ?_));clear O)|(refine zJ fun K O=>?_)|((first|refine zH ?_|refine zN rfl (by kernel_rfl) ?_|refine zM ?_|refine zK (by kernel_rfl) ?_);simp only[vS,vR,strip])|((first|refine wIs fun K O=>?_|refine wOs fun K O=>?_|refine wQs fun K O=>?_|refine zW ?_|refine zX ?_|refine zY ?_|refine zL ?_);simp[h1,h4,b4,h9,h10,h11,hlt,hw,o])|(refine wIn ?_;refine And.intro (by kernel_rfl) ?_;try simp only[zZ])|refine zR ?_|refine zT ?_|((first|refine zI ?_|refine zO ?_|refine zP ?_);try simp)|((first|refine zS ?_|refine wOn ?_|refine wQn ?_);try simp only[zZ])
   all_goals apply hr
   all_goals rw[<- hi]
   all_goals simp[Tryz.f40,Mb.cells,o,h4,b4]
  ·rw[if_neg o] at hi
   repeat' first|((first|refine O _ ?_|refine O _ _ ?_|(clear O;refine O _ ?_));clear O)|(refine zJ fun K O=>?_)|((first|refine zH ?_|refine zN rfl (by kernel_rfl) ?_|refine zM ?_|refine zK (by kernel_rfl) ?_);simp only[vS,vR,strip])|((first|refine wIs fun K O=>?_|refine wOs fun K O=>?_|refine wQs fun K O=>?_|refine zW ?_|refine zX ?_|refine zY ?_|refine zL ?_);simp[h1,h4,b4,h9,h10,h11,hlt,hw,o])|(refine wIn ?_;refine And.intro (by kernel_rfl) ?_;try simp only[zZ])|refine zR ?_|refine zT ?_|((first|refine zI ?_|refine zO ?_|refine zP ?_);try simp)|((first|refine zS ?_|refine wOn ?_|refine wQn ?_);try simp only[zZ])
   refine hL _ (N-1) (by omega) ⟨k+1,by omega,?_⟩
   simp[h1,h4,b4,h9,h10,hw,hi]
 ·rw[List.drop_of_length_le (by omega),fm] at hi
  repeat' first|((first|refine O _ ?_|refine O _ _ ?_|(clear O;refine O _ ?_));clear O)|(refine zJ fun K O=>?_)|((first|refine zH ?_|refine zN rfl (by kernel_rfl) ?_|refine zM ?_|refine zK (by kernel_rfl) ?_);simp only[vS,vR,strip])|((first|refine wIs fun K O=>?_|refine wOs fun K O=>?_|refine wQs fun K O=>?_|refine zW ?_|refine zX ?_|refine zY ?_|refine zL ?_);simp[h1,h4,b4,h9,h10,h11,hlt])|(refine wIn ?_;refine And.intro (by kernel_rfl) ?_;try simp only[zZ])|refine zR ?_|refine zT ?_|((first|refine zI ?_|refine zO ?_|refine zP ?_);try simp)|((first|refine zS ?_|refine wOn ?_|refine wQn ?_);try simp only[zZ])
  apply hr
  rw[<- hi]
  simp[Tryz.f40,Mb.cells,h4,b4]
theorem hasI_pids (l:List Mb)(id:Int):hasI l id=decide (id∈xM l):=by
 rw[Bool.eq_iff_iff]
 simp only[hasI,xM,List.any_eq_true,decide_eq_true_eq,List.mem_map]
theorem stS_perm (c:Cf)(d:Dl):stS (yO c d++d.put)=xX (d.put++yO c d):=by
 rw[stS_srt]
 refine Sb.eq (srt_ord _) (srt_ord _) ((srt_sb _).trans (Sb.trans (Sb.swap fun a ha b hb h=>?_) (srt_sb _).symm))
 unfold yO at hb
 obtain⟨-,h2⟩:=List.mem_filter.1 hb
 simp only[Bool.and_eq_true,Bool.not_eq_true',decide_eq_false_iff_not] at h2
 rw[hasI_pids,decide_eq_false_iff_not] at h2
 exact h2.2 (List.mem_map.2 ⟨a,ha,h⟩)
def app06 (c:Cf)(d:Dl)(e n:Int):Cf:=if appE c d e n=0 then { chg c d with ep:=e,n:=n } else ⟨0,0,0,[]⟩
theorem keep06_snoc (dr:List Int)(put ms:List Mb)(ep n kind dk:Int)(k:Nat)(h:k<ms.length):put++yO ⟨ep,n,kind,ms.take (k+1)⟩ ⟨dk,put,dr⟩=if ms[k].i∈dr then put++yO ⟨ep,n,kind,ms.take k⟩ ⟨dk,put,dr⟩ else if ms[k].i∈xM put then put++yO ⟨ep,n,kind,ms.take k⟩ ⟨dk,put,dr⟩ else (put++yO ⟨ep,n,kind,ms.take k⟩ ⟨dk,put,dr⟩)++[ms[k]]:=by
 rw[keepM_snoc _ _ _ _ _ _ _ _ h]
 by_cases o1:ms[k].i∈dr
 ·rw[if_pos o1,if_pos o1]
 rw[if_neg o1,if_neg o1]
 by_cases o2:ms[k].i∈xM put
 ·rw[if_pos o2,if_pos (by rw[hasI_pids];exact decide_eq_true o2)]
 ·rw[if_neg o2,if_neg (by rw[hasI_pids,decide_eq_false o2];simp),List.append_assoc]
set_option maxHeartbeats 4000000 in
theorem apply06_con (c:Cf)(d:Dl)(e nn:Int)(hc:c.ms.length<=100000)(hp:d.put.length<=100000)(hd:d.drop.length<=100000) :
 zE Tryz.prog 14 [.p (.agg c.cells),.p (.agg d.cells),.p (.agg [I e,I nn])] (.tup [.p (.agg (app06 c d e nn).cells),.p (I (appE c d e nn))]):=by
 have c1:=check04_con c (by omega)
 have c2:=ids06_con d.put (by omega)
 have c3:=twice06_con (xM d.put) (by simp;omega)
 have c4:=twice06_con d.drop (by omega)
 have hkl:=keepM_len c d
 have c5:=sort04R_con (d.put++yO c d) (by rw[List.length_append];omega)
 have hsl:(stS (yO c d++d.put)).length<=1000000:=by rw[stS_len,List.length_append];omega
 have c6:=check04_con { chg c d with ep:=e,n:=nn } (by simpa [chg] using hsl)
 unfold app06 appE
 rw[<- stS_perm] at c5
 by_cases h1:check c=0
 case neg =>
  rw[if_neg h1,if_neg (by decide:¬ (16:Int)=0)]
  have h1':(check c=0)=False:=eq_false h1
  generalize check c=z at *
  clear c2 c3 c4 c5 c6 hsl hkl
  obtain⟨ep,n,kind,ms⟩:=c
  obtain⟨dk,put,drop⟩:=d
  simp only[Cf.cells,Dl.cells,mbs,vR] at *
  refine zG Tryz.tab Tryz.mixed Tryz.func14 rfl rfl Tryz.ntmps14 (by simp) (by simp) fun Q hr hn=>?_
  repeat' first|((first|refine O _ ?_|refine O _ _ ?_|(clear O;refine O _ ?_));clear O)|(refine zJ fun K O=>?_)|((first|refine zH ?_|refine zN rfl (by kernel_rfl) ?_|refine zM ?_|refine zK (by kernel_rfl) ?_);simp only[vS,vR,strip])|((first|refine wIs fun K O=>?_|refine wOs fun K O=>?_|refine wQs fun K O=>?_|refine zW ?_|refine zX ?_|refine zY ?_|refine zL ?_);simp[h1'])|(refine wIn ?_;refine And.intro (by kernel_rfl) ?_;try simp only[zZ])|refine zR ?_|refine zT ?_|((first|refine zI ?_|refine zO ?_|refine zP ?_);try simp)|((first|refine zS ?_|refine wOn ?_|refine wQn ?_);try simp only[zZ])|refine zU.p c1 rfl ?_|refine zU.l c1 rfl ?_|refine zQ.pure c1 rfl ?_|refine zQ.lent c1 rfl ?_|refine zU.o c1 ?_|refine zV.p c1 rfl ?_|refine zV.l c1 rfl ?_|refine zV.o c1 ?_
  all_goals apply hr
  all_goals simp[Tryz.f14]
 rw[h1] at c1
 rw[if_pos h1]
 have hchg:chg c d=⟨0,0,if d.kind=0 then c.kind else d.kind,stS (yO c d++d.put)⟩:=rfl
 by_cases hf:wrongD d=true
 ·have hfe:fitsE c d=1:=by unfold fitsE;rw[if_pos hf]
  rw[hfe,if_neg (by decide:¬ (1:Int)=0),if_neg (by decide:¬ (1:Int)=0)]
  clear c5 c6 hsl hkl hchg hfe
  simp only[wrongD,Bool.or_eq_true,decide_eq_true_eq] at hf
  obtain⟨ep,n,kind,ms⟩:=c
  obtain⟨dk,put,drop⟩:=d
  simp only[Cf.cells,Dl.cells] at *
  cases w1:twL (xM put) with
  |true =>
   rw[w1] at c3
   refine zG Tryz.tab Tryz.mixed Tryz.func14 rfl rfl Tryz.ntmps14 (by simp) (by simp) fun Q hr hn=>?_
   repeat' first|((first|refine O _ ?_|refine O _ _ ?_|(clear O;refine O _ ?_));clear O)|(refine zJ fun K O=>?_)|((first|refine zH ?_|refine zN rfl (by kernel_rfl) ?_|refine zM ?_|refine zK (by kernel_rfl) ?_);simp only[vS,vR,strip])|((first|refine wIs fun K O=>?_|refine wOs fun K O=>?_|refine wQs fun K O=>?_|refine zW ?_|refine zX ?_|refine zY ?_|refine zL ?_);simp)|(refine wIn ?_;refine And.intro (by kernel_rfl) ?_;try simp only[zZ])|refine zR ?_|refine zT ?_|((first|refine zI ?_|refine zO ?_|refine zP ?_);try simp)|((first|refine zS ?_|refine wOn ?_|refine wQn ?_);try simp only[zZ])|refine zU.p c1 rfl ?_|refine zU.l c1 rfl ?_|refine zQ.pure c1 rfl ?_|refine zQ.lent c1 rfl ?_|refine zU.o c1 ?_|refine zV.p c1 rfl ?_|refine zV.l c1 rfl ?_|refine zV.o c1 ?_|refine zU.p c2 rfl ?_|refine zU.l c2 rfl ?_|refine zQ.pure c2 rfl ?_|refine zQ.lent c2 rfl ?_|refine zU.o c2 ?_|refine zV.p c2 rfl ?_|refine zV.l c2 rfl ?_|refine zV.o c2 ?_|refine zU.p c3 rfl ?_|refine zU.l c3 rfl ?_|refine zQ.pure c3 rfl ?_|refine zQ.lent c3 rfl ?_|refine zU.o c3 ?_|refine zV.p c3 rfl ?_|refine zV.l c3 rfl ?_|refine zV.o c3 ?_|refine zU.p c4 rfl ?_|refine zU.l c4 rfl ?_|refine zQ.pure c4 rfl ?_|refine zQ.lent c4 rfl ?_|refine zU.o c4 ?_|refine zV.p c4 rfl ?_|refine zV.l c4 rfl ?_|refine zV.o c4 ?_
   all_goals apply hr
   all_goals simp[Tryz.f14,mbs]
  |false =>
  rw[w1] at c3
  cases w2:twL drop with
  |true =>
   rw[w2] at c4
   refine zG Tryz.tab Tryz.mixed Tryz.func14 rfl rfl Tryz.ntmps14 (by simp) (by simp) fun Q hr hn=>?_
   repeat' first|((first|refine O _ ?_|refine O _ _ ?_|(clear O;refine O _ ?_));clear O)|(refine zJ fun K O=>?_)|((first|refine zH ?_|refine zN rfl (by kernel_rfl) ?_|refine zM ?_|refine zK (by kernel_rfl) ?_);simp only[vS,vR,strip])|((first|refine wIs fun K O=>?_|refine wOs fun K O=>?_|refine wQs fun K O=>?_|refine zW ?_|refine zX ?_|refine zY ?_|refine zL ?_);simp)|(refine wIn ?_;refine And.intro (by kernel_rfl) ?_;try simp only[zZ])|refine zR ?_|refine zT ?_|((first|refine zI ?_|refine zO ?_|refine zP ?_);try simp)|((first|refine zS ?_|refine wOn ?_|refine wQn ?_);try simp only[zZ])|refine zU.p c1 rfl ?_|refine zU.l c1 rfl ?_|refine zQ.pure c1 rfl ?_|refine zQ.lent c1 rfl ?_|refine zU.o c1 ?_|refine zV.p c1 rfl ?_|refine zV.l c1 rfl ?_|refine zV.o c1 ?_|refine zU.p c2 rfl ?_|refine zU.l c2 rfl ?_|refine zQ.pure c2 rfl ?_|refine zQ.lent c2 rfl ?_|refine zU.o c2 ?_|refine zV.p c2 rfl ?_|refine zV.l c2 rfl ?_|refine zV.o c2 ?_|refine zU.p c3 rfl ?_|refine zU.l c3 rfl ?_|refine zQ.pure c3 rfl ?_|refine zQ.lent c3 rfl ?_|refine zU.o c3 ?_|refine zV.p c3 rfl ?_|refine zV.l c3 rfl ?_|refine zV.o c3 ?_|refine zU.p c4 rfl ?_|refine zU.l c4 rfl ?_|refine zQ.pure c4 rfl ?_|refine zQ.lent c4 rfl ?_|refine zU.o c4 ?_|refine zV.p c4 rfl ?_|refine zV.l c4 rfl ?_|refine zV.o c4 ?_
   all_goals apply hr
   all_goals simp[Tryz.f14,mbs]
  |false =>
  rw[w2] at c4
  have hf':dk<0\/3<dk:=by
   rcases hf with h|h|h|h
   ·rw[w1] at h;cases h
   ·rw[w2] at h;cases h
   ·exact .inl h
   ·exact .inr h
  by_cases w3:dk<0
  ·refine zG Tryz.tab Tryz.mixed Tryz.func14 rfl rfl Tryz.ntmps14 (by simp) (by simp) fun Q hr hn=>?_
   repeat' first|((first|refine O _ ?_|refine O _ _ ?_|(clear O;refine O _ ?_));clear O)|(refine zJ fun K O=>?_)|((first|refine zH ?_|refine zN rfl (by kernel_rfl) ?_|refine zM ?_|refine zK (by kernel_rfl) ?_);simp only[vS,vR,strip])|((first|refine wIs fun K O=>?_|refine wOs fun K O=>?_|refine wQs fun K O=>?_|refine zW ?_|refine zX ?_|refine zY ?_|refine zL ?_);simp[w3])|(refine wIn ?_;refine And.intro (by kernel_rfl) ?_;try simp only[zZ])|refine zR ?_|refine zT ?_|((first|refine zI ?_|refine zO ?_|refine zP ?_);try simp)|((first|refine zS ?_|refine wOn ?_|refine wQn ?_);try simp only[zZ])|refine zU.p c1 rfl ?_|refine zU.l c1 rfl ?_|refine zQ.pure c1 rfl ?_|refine zQ.lent c1 rfl ?_|refine zU.o c1 ?_|refine zV.p c1 rfl ?_|refine zV.l c1 rfl ?_|refine zV.o c1 ?_|refine zU.p c2 rfl ?_|refine zU.l c2 rfl ?_|refine zQ.pure c2 rfl ?_|refine zQ.lent c2 rfl ?_|refine zU.o c2 ?_|refine zV.p c2 rfl ?_|refine zV.l c2 rfl ?_|refine zV.o c2 ?_|refine zU.p c3 rfl ?_|refine zU.l c3 rfl ?_|refine zQ.pure c3 rfl ?_|refine zQ.lent c3 rfl ?_|refine zU.o c3 ?_|refine zV.p c3 rfl ?_|refine zV.l c3 rfl ?_|refine zV.o c3 ?_|refine zU.p c4 rfl ?_|refine zU.l c4 rfl ?_|refine zQ.pure c4 rfl ?_|refine zQ.lent c4 rfl ?_|refine zU.o c4 ?_|refine zV.p c4 rfl ?_|refine zV.l c4 rfl ?_|refine zV.o c4 ?_
   all_goals apply hr
   all_goals simp[Tryz.f14,mbs]
  ·have w4:3<dk:=by omega
   refine zG Tryz.tab Tryz.mixed Tryz.func14 rfl rfl Tryz.ntmps14 (by simp) (by simp) fun Q hr hn=>?_
   repeat' first|((first|refine O _ ?_|refine O _ _ ?_|(clear O;refine O _ ?_));clear O)|(refine zJ fun K O=>?_)|((first|refine zH ?_|refine zN rfl (by kernel_rfl) ?_|refine zM ?_|refine zK (by kernel_rfl) ?_);simp only[vS,vR,strip])|((first|refine wIs fun K O=>?_|refine wOs fun K O=>?_|refine wQs fun K O=>?_|refine zW ?_|refine zX ?_|refine zY ?_|refine zL ?_);simp[w3,w4])|(refine wIn ?_;refine And.intro (by kernel_rfl) ?_;try simp only[zZ])|refine zR ?_|refine zT ?_|((first|refine zI ?_|refine zO ?_|refine zP ?_);try simp)|((first|refine zS ?_|refine wOn ?_|refine wQn ?_);try simp only[zZ])|refine zU.p c1 rfl ?_|refine zU.l c1 rfl ?_|refine zQ.pure c1 rfl ?_|refine zQ.lent c1 rfl ?_|refine zU.o c1 ?_|refine zV.p c1 rfl ?_|refine zV.l c1 rfl ?_|refine zV.o c1 ?_|refine zU.p c2 rfl ?_|refine zU.l c2 rfl ?_|refine zQ.pure c2 rfl ?_|refine zQ.lent c2 rfl ?_|refine zU.o c2 ?_|refine zV.p c2 rfl ?_|refine zV.l c2 rfl ?_|refine zV.o c2 ?_|refine zU.p c3 rfl ?_|refine zU.l c3 rfl ?_|refine zQ.pure c3 rfl ?_|refine zQ.lent c3 rfl ?_|refine zU.o c3 ?_|refine zV.p c3 rfl ?_|refine zV.l c3 rfl ?_|refine zV.o c3 ?_|refine zU.p c4 rfl ?_|refine zU.l c4 rfl ?_|refine zQ.pure c4 rfl ?_|refine zQ.lent c4 rfl ?_|refine zU.o c4 ?_|refine zV.p c4 rfl ?_|refine zV.l c4 rfl ?_|refine zV.o c4 ?_
   all_goals apply hr
   all_goals simp[Tryz.f14,mbs]
 have hfe:fitsE c d=dropE c (xM d.put) d.drop:=by unfold fitsE;rw[if_neg hf]
 simp only[wrongD,Bool.or_eq_true,decide_eq_true_eq,not_or,Bool.not_eq_true] at hf
 obtain⟨w1,w2,w3,w4⟩:=hf
 rw[hfe]
 rw[w1] at c3
 rw[w2] at c4
 have cfi:=fun id=>find06_con c id (by omega)
 have hpl:(xM d.put).length<=1000000:=by simp;omega
 have kc:=fun k hk=>keep06_snoc d.drop d.put c.ms c.ep c.n c.kind d.kind k hk
 generalize hcz:check { chg c d with ep:=e,n:=nn }=cz at *
 rw[hchg] at c6 ⊢
 have hk0:yO ⟨c.ep,c.n,c.kind,c.ms.take 0⟩ d=[]:=by simp[yO]
 have hkA:yO ⟨c.ep,c.n,c.kind,c.ms⟩ d=yO c d:=rfl
 generalize hSS:stS (yO c d++d.put)=SS at *
 clear hchg hfe hcz hSS h1
 obtain⟨ep,n,kind,ms⟩:=c
 obtain⟨dk,put,drop⟩:=d
 simp only[Cf.cells,Dl.cells] at *
 refine zG Tryz.tab Tryz.mixed Tryz.func14 rfl rfl Tryz.ntmps14 (by simp) (by simp) fun Q hr hn=>?_
 repeat' first|((first|refine O _ ?_|refine O _ _ ?_|(clear O;refine O _ ?_));clear O)|(refine zJ fun K O=>?_)|((first|refine zH ?_|refine zN rfl (by kernel_rfl) ?_|refine zM ?_|refine zK (by kernel_rfl) ?_);simp only[vS,vR,strip])|((first|refine wIs fun K O=>?_|refine wOs fun K O=>?_|refine wQs fun K O=>?_|refine zW ?_|refine zX ?_|refine zY ?_|refine zL ?_);simp[w3,w4])|(refine wIn ?_;refine And.intro (by kernel_rfl) ?_;try simp only[zZ])|refine zR ?_|refine zT ?_|((first|refine zI ?_|refine zO ?_|refine zP ?_);try simp)|((first|refine zS ?_|refine wOn ?_|refine wQn ?_);try simp only[zZ])|refine zU.p c1 rfl ?_|refine zU.l c1 rfl ?_|refine zQ.pure c1 rfl ?_|refine zQ.lent c1 rfl ?_|refine zU.o c1 ?_|refine zV.p c1 rfl ?_|refine zV.l c1 rfl ?_|refine zV.o c1 ?_|refine zU.p c2 rfl ?_|refine zU.l c2 rfl ?_|refine zQ.pure c2 rfl ?_|refine zQ.lent c2 rfl ?_|refine zU.o c2 ?_|refine zV.p c2 rfl ?_|refine zV.l c2 rfl ?_|refine zV.o c2 ?_|refine zU.p c3 rfl ?_|refine zU.l c3 rfl ?_|refine zQ.pure c3 rfl ?_|refine zQ.lent c3 rfl ?_|refine zU.o c3 ?_|refine zV.p c3 rfl ?_|refine zV.l c3 rfl ?_|refine zV.o c3 ?_|refine zU.p c4 rfl ?_|refine zU.l c4 rfl ?_|refine zQ.pure c4 rfl ?_|refine zQ.lent c4 rfl ?_|refine zU.o c4 ?_|refine zV.p c4 rfl ?_|refine zV.l c4 rfl ?_|refine zV.o c4 ?_
 refine zC (fun N st=>∃k,k+N=drop.length/\st.s 3=.ptr 3 0/\st.b 3=some (.box 28 [.p (I ep),.p (I n),.p (I kind),.p (.sl 4 (mbs ms))])/\st.s 4=.ptr 4 0/\st.b 4=some (.box 39 [.p (I dk),.p (.sl 4 (mbs put)),.p (.sl 1 (ints drop))])/\st.s 5=.ptr 5 0/\st.b 5=some (.box 25 [.p (I e),.p (I nn)])/\st.s 6=.ptr 6 0/\st.b 6=some (.box 28 [.p (I 0),.p (I 0),.p (I 0),.nil 4])/\st.s 8=.p (.sl 1 (ints (xM put)))/\st.s 44=.p (.sl 1 (ints drop))/\st.s 45=.p (I drop.length)/\st.s 46=.p (I k)/\dropE ⟨ep,n,kind,ms⟩ (xM put) (drop.drop k)=dropE ⟨ep,n,kind,ms⟩ (xM put) drop) drop.length ⟨0,by simp⟩ fun K N st hL ⟨k,hk,h3,b3,h4,b4,h5,b5,h6,b6,h8,h44,h45,h46,hi⟩=>?_
 by_cases hlt:k<drop.length
 ·have hw:=yU k _ hlt (by omega)
  have he:=ints_get hlt
  rw[List.drop_eq_getElem_cons hlt,dropE] at hi
  have cc:=has06_con (xM put) drop[k] hpl
  have cf:=cfi drop[k]
  clear kc cfi
  generalize hF:drop[k]=id at *
  by_cases o1:id∈xM put
  ·rw[if_pos o1] at hi
   rw[decide_eq_true o1] at cc
   rw[<- hi,if_neg (by decide:¬ (1:Int)=0),if_neg (by decide:¬ (1:Int)=0)] at hr
   repeat' first|((first|refine O _ ?_|refine O _ _ ?_|(clear O;refine O _ ?_));clear O)|(refine zJ fun K O=>?_)|((first|refine zH ?_|refine zN rfl (by kernel_rfl) ?_|refine zM ?_|refine zK (by kernel_rfl) ?_);simp only[vS,vR,strip])|((first|refine wIs fun K O=>?_|refine wOs fun K O=>?_|refine wQs fun K O=>?_|refine zW ?_|refine zX ?_|refine zY ?_|refine zL ?_);simp[h3,b3,h4,b4,h5,b5,h6,b6,h8,h44,h45,h46,hlt,hw,he,hF])|(refine wIn ?_;refine And.intro (by kernel_rfl) ?_;try simp only[zZ])|refine zR ?_|refine zT ?_|((first|refine zI ?_|refine zO ?_|refine zP ?_);try simp)|((first|refine zS ?_|refine wOn ?_|refine wQn ?_);try simp only[zZ])|refine zU.p cc rfl ?_|refine zU.l cc rfl ?_|refine zQ.pure cc rfl ?_|refine zQ.lent cc rfl ?_|refine zU.o cc ?_|refine zV.p cc rfl ?_|refine zV.l cc rfl ?_|refine zV.o cc ?_
   all_goals apply hr
   all_goals simp[Tryz.f14,mbs,h3,b3,h4,b4,h5,b5,h6,b6,h8,Cf.cells]
  ·rw[if_neg o1] at hi
   rw[decide_eq_false o1] at cc
   generalize fm id ms=f at cf hi
   obtain⟨fm1,fm2⟩:=f
   cases fm2
   ·rw[if_neg (by simp)] at hi
    rw[<- hi,if_neg (by decide:¬ (6:Int)=0),if_neg (by decide:¬ (6:Int)=0)] at hr
    repeat' first|((first|refine O _ ?_|refine O _ _ ?_|(clear O;refine O _ ?_));clear O)|(refine zJ fun K O=>?_)|((first|refine zH ?_|refine zN rfl (by kernel_rfl) ?_|refine zM ?_|refine zK (by kernel_rfl) ?_);simp only[vS,vR,strip])|((first|refine wIs fun K O=>?_|refine wOs fun K O=>?_|refine wQs fun K O=>?_|refine zW ?_|refine zX ?_|refine zY ?_|refine zL ?_);simp[h3,b3,h4,b4,h5,b5,h6,b6,h8,h44,h45,h46,hlt,hw,he,hF])|(refine wIn ?_;refine And.intro (by kernel_rfl) ?_;try simp only[zZ])|refine zR ?_|refine zT ?_|((first|refine zI ?_|refine zO ?_|refine zP ?_);try simp)|((first|refine zS ?_|refine wOn ?_|refine wQn ?_);try simp only[zZ])|refine zU.p cc rfl ?_|refine zU.l cc rfl ?_|refine zQ.pure cc rfl ?_|refine zQ.lent cc rfl ?_|refine zU.o cc ?_|refine zV.p cc rfl ?_|refine zV.l cc rfl ?_|refine zV.o cc ?_|refine zU.p cf rfl ?_|refine zU.l cf rfl ?_|refine zQ.pure cf rfl ?_|refine zQ.lent cf rfl ?_|refine zU.o cf ?_|refine zV.p cf rfl ?_|refine zV.l cf rfl ?_|refine zV.o cf ?_
    all_goals apply hr
    all_goals simp[Tryz.f14,mbs,h3,b3,h4,b4,h5,b5,h6,b6,h8,Cf.cells]
   ·rw[if_pos rfl] at hi
    repeat' first|((first|refine O _ ?_|refine O _ _ ?_|(clear O;refine O _ ?_));clear O)|(refine zJ fun K O=>?_)|((first|refine zH ?_|refine zN rfl (by kernel_rfl) ?_|refine zM ?_|refine zK (by kernel_rfl) ?_);simp only[vS,vR,strip])|((first|refine wIs fun K O=>?_|refine wOs fun K O=>?_|refine wQs fun K O=>?_|refine zW ?_|refine zX ?_|refine zY ?_|refine zL ?_);simp[h3,b3,h4,b4,h5,b5,h6,b6,h8,h44,h45,h46,hlt,hw,he,hF])|(refine wIn ?_;refine And.intro (by kernel_rfl) ?_;try simp only[zZ])|refine zR ?_|refine zT ?_|((first|refine zI ?_|refine zO ?_|refine zP ?_);try simp)|((first|refine zS ?_|refine wOn ?_|refine wQn ?_);try simp only[zZ])|refine zU.p cc rfl ?_|refine zU.l cc rfl ?_|refine zQ.pure cc rfl ?_|refine zQ.lent cc rfl ?_|refine zU.o cc ?_|refine zV.p cc rfl ?_|refine zV.l cc rfl ?_|refine zV.o cc ?_|refine zU.p cf rfl ?_|refine zU.l cf rfl ?_|refine zQ.pure cf rfl ?_|refine zQ.lent cf rfl ?_|refine zU.o cf ?_|refine zV.p cf rfl ?_|refine zV.l cf rfl ?_|refine zV.o cf ?_
    refine hL _ (N-1) (by omega) ⟨k+1,by omega,?_⟩
    simp[h3,b3,h4,b4,h5,b5,h6,b6,h8,h44,h45,hw,hi]
 rw[List.drop_of_length_le (by omega),dropE] at hi
 rw[<- hi,if_pos rfl] at hr
 clear cfi
 by_cases hk0':dk=0
 all_goals
  first|rw[if_pos hk0'] at hr c6|rw[if_neg hk0'] at hr c6
  repeat' first|((first|refine O _ ?_|refine O _ _ ?_|(clear O;refine O _ ?_));clear O)|(refine zJ fun K O=>?_)|((first|refine zH ?_|refine zN rfl (by kernel_rfl) ?_|refine zM ?_|refine zK (by kernel_rfl) ?_);simp only[vS,vR,strip])|((first|refine wIs fun K O=>?_|refine wOs fun K O=>?_|refine wQs fun K O=>?_|refine zW ?_|refine zX ?_|refine zY ?_|refine zL ?_);simp[h3,b3,h4,b4,h5,b5,h6,b6,h8,h44,h45,h46,hlt,hk0'])|(refine wIn ?_;refine And.intro (by kernel_rfl) ?_;try simp only[zZ])|refine zR ?_|refine zT ?_|((first|refine zI ?_|refine zO ?_|refine zP ?_);try simp)|((first|refine zS ?_|refine wOn ?_|refine wQn ?_);try simp only[zZ])|(refine Or.inl ?_)|(refine And.intro (by (try simp);omega) ?_)
  refine zC (fun N st=>∃ (k:Nat),k+N=ms.length/\st.s 3=.ptr 3 0/\st.b 3=some (.box 28 [.p (I ep),.p (I n),.p (I kind),.p (.sl 4 (mbs ms))])/\st.s 4=.ptr 4 0/\st.b 4=some (.box 39 [.p (I dk),.p (.sl 4 (mbs put)),.p (.sl 1 (ints drop))])/\st.s 6=.ptr 6 0/\st.b 6=some (.box 28 [.p (I 0),.p (I 0),.p (I 0),.nil 4])/\st.s 8=.p (.sl 1 (ints (xM put))) ∧
   st.s 13=.ptr 13 0/\st.s 14=.row 77/\st.b 77=some (.row 71 4 (mbs (put++yO ⟨ep,n,kind,ms.take k⟩ ⟨dk,put,drop⟩)))/\st.s 79=.p (.sl 4 (mbs ms))/\st.s 80=.p (I ms.length)/\st.s 81=.p (I k)/\∃z,st.b 13=some (.box 28 [.p (I e),.p (I nn),.p (I (if dk=0 then kind else dk)),z])) ms.length ⟨0,by simp[h3,b3,h4,b4,h6,b6,h8,hk0',yO]⟩ fun K N st hL ⟨k,hkN,h3,b3,h4,b4,h6,b6,h8,h13,h14,b77,h79,h80,h81,z,b13⟩=>?_
  by_cases hlt:k<ms.length
  ·have hw:=yU k _ hlt (by omega)
   have he:=mbs_get hlt
   have hsn:=kc k hlt
   try dsimp only at hsn
   have d1:=has06_con drop ms[k].i (by omega)
   have d2:=has06_con (xM put) ms[k].i hpl
   have hln:(put++yO ⟨ep,n,kind,ms.take k⟩ ⟨dk,put,drop⟩).length<=300000:=by
    have:=keepM_len ⟨ep,n,kind,ms.take k⟩ ⟨dk,put,drop⟩
    rw[List.length_append]
    simp only[List.length_take] at this
    omega
   generalize hF:ms[k]=m at *
   by_cases o1:m.i∈drop
   ·rw[if_pos o1] at hsn
    rw[decide_eq_true o1] at d1
    repeat' first|((first|refine O _ ?_|refine O _ _ ?_|(clear O;refine O _ ?_));clear O)|(refine zJ fun K O=>?_)|((first|refine zH ?_|refine zN rfl (by kernel_rfl) ?_|refine zM ?_|refine zK (by kernel_rfl) ?_);simp only[vS,vR,strip])|((first|refine wIs fun K O=>?_|refine wOs fun K O=>?_|refine wQs fun K O=>?_|refine zW ?_|refine zX ?_|refine zY ?_|refine zL ?_);simp[h3,b3,h4,b4,h6,b6,h8,h13,b13,h14,b77,h79,h80,h81,hlt,hw,he,hF])|(refine wIn ?_;refine And.intro (by kernel_rfl) ?_;try simp only[zZ])|refine zR ?_|refine zT ?_|((first|refine zI ?_|refine zO ?_|refine zP ?_);try simp)|((first|refine zS ?_|refine wOn ?_|refine wQn ?_);try simp only[zZ])|refine zU.p d1 rfl ?_|refine zU.l d1 rfl ?_|refine zQ.pure d1 rfl ?_|refine zQ.lent d1 rfl ?_|refine zU.o d1 ?_|refine zV.p d1 rfl ?_|refine zV.l d1 rfl ?_|refine zV.o d1 ?_
    refine hL _ (N-1) (by omega) ⟨k+1,by omega,?_⟩
    simp[h3,b3,h4,b4,h6,b6,h8,h13,b13,h14,b77,h79,h80,hw,hsn]
   ·rw[if_neg o1] at hsn
    rw[decide_eq_false o1] at d1
    by_cases o2:m.i∈xM put
    ·rw[if_pos o2] at hsn
     rw[decide_eq_true o2] at d2
     repeat' first|((first|refine O _ ?_|refine O _ _ ?_|(clear O;refine O _ ?_));clear O)|(refine zJ fun K O=>?_)|((first|refine zH ?_|refine zN rfl (by kernel_rfl) ?_|refine zM ?_|refine zK (by kernel_rfl) ?_);simp only[vS,vR,strip])|((first|refine wIs fun K O=>?_|refine wOs fun K O=>?_|refine wQs fun K O=>?_|refine zW ?_|refine zX ?_|refine zY ?_|refine zL ?_);simp[h3,b3,h4,b4,h6,b6,h8,h13,b13,h14,b77,h79,h80,h81,hlt,hw,he,hF])|(refine wIn ?_;refine And.intro (by kernel_rfl) ?_;try simp only[zZ])|refine zR ?_|refine zT ?_|((first|refine zI ?_|refine zO ?_|refine zP ?_);try simp)|((first|refine zS ?_|refine wOn ?_|refine wQn ?_);try simp only[zZ])|refine zU.p d1 rfl ?_|refine zU.l d1 rfl ?_|refine zQ.pure d1 rfl ?_|refine zQ.lent d1 rfl ?_|refine zU.o d1 ?_|refine zV.p d1 rfl ?_|refine zV.l d1 rfl ?_|refine zV.o d1 ?_|refine zU.p d2 rfl ?_|refine zU.l d2 rfl ?_|refine zQ.pure d2 rfl ?_|refine zQ.lent d2 rfl ?_|refine zU.o d2 ?_|refine zV.p d2 rfl ?_|refine zV.l d2 rfl ?_|refine zV.o d2 ?_
     refine hL _ (N-1) (by omega) ⟨k+1,by omega,?_⟩
     simp[h3,b3,h4,b4,h6,b6,h8,h13,b13,h14,b77,h79,h80,hw,hsn]
    ·rw[if_neg o2] at hsn
     rw[decide_eq_false o2] at d2
     have ha:=mbs_snoc (put++yO ⟨ep,n,kind,ms.take k⟩ ⟨dk,put,drop⟩) m
     rw[<- hsn] at ha
     generalize put++yO ⟨ep,n,kind,ms.take k⟩ ⟨dk,put,drop⟩=P at *
     generalize hP2:put++yO ⟨ep,n,kind,ms.take (k+1)⟩ ⟨dk,put,drop⟩=P2 at *
     repeat' first|((first|refine O _ ?_|refine O _ _ ?_|(clear O;refine O _ ?_));clear O)|(refine zJ fun K O=>?_)|((first|refine zH ?_|refine zN rfl (by kernel_rfl) ?_|refine zM ?_|refine zK (by kernel_rfl) ?_);simp only[vS,vR,strip])|((first|refine wIs fun K O=>?_|refine wOs fun K O=>?_|refine wQs fun K O=>?_|refine zW ?_|refine zX ?_|refine zY ?_|refine zL ?_);simp[h3,b3,h4,b4,h6,b6,h8,h13,b13,h14,b77,h79,h80,h81,hlt,hw,he,hF,ha])|(refine wIn ?_;refine And.intro (by kernel_rfl) ?_;try simp only[zZ])|refine zR ?_|refine zT ?_|((first|refine zI ?_|refine zO ?_|refine zP ?_);try simp)|((first|refine zS ?_|refine wOn ?_|refine wQn ?_);try simp only[zZ])|refine zU.p d1 rfl ?_|refine zU.l d1 rfl ?_|refine zQ.pure d1 rfl ?_|refine zQ.lent d1 rfl ?_|refine zU.o d1 ?_|refine zV.p d1 rfl ?_|refine zV.l d1 rfl ?_|refine zV.o d1 ?_|refine zU.p d2 rfl ?_|refine zU.l d2 rfl ?_|refine zQ.pure d2 rfl ?_|refine zQ.lent d2 rfl ?_|refine zU.o d2 ?_|refine zV.p d2 rfl ?_|refine zV.l d2 rfl ?_|refine zV.o d2 ?_|(refine And.intro (by (try simp);omega) ?_)
     refine hL _ (N-1) (by omega) ⟨k+1,by omega,?_⟩
     simp[h3,b3,h4,b4,h6,b6,h8,h13,b13,h14,b77,h79,h80,hw,ha,hP2]
  ·rw[List.take_of_length_le (by omega)] at b77
   generalize put++yO ⟨ep,n,kind,ms⟩ ⟨dk,put,drop⟩=P at *
   by_cases hcz:cz=0
   ·subst hcz
    rw[if_pos rfl] at hr
    repeat' first|((first|refine O _ ?_|refine O _ _ ?_|(clear O;refine O _ ?_));clear O)|(refine zJ fun K O=>?_)|((first|refine zH ?_|refine zN rfl (by kernel_rfl) ?_|refine zM ?_|refine zK (by kernel_rfl) ?_);simp only[vS,vR,strip])|((first|refine wIs fun K O=>?_|refine wOs fun K O=>?_|refine wQs fun K O=>?_|refine zW ?_|refine zX ?_|refine zY ?_|refine zL ?_);simp[h3,b3,h4,b4,h6,b6,h8,h13,b13,h14,b77,h79,h80,h81,hlt,hk0'])|(refine wIn ?_;refine And.intro (by kernel_rfl) ?_;try simp only[zZ])|refine zR ?_|refine zT ?_|((first|refine zI ?_|refine zO ?_|refine zP ?_);try simp)|((first|refine zS ?_|refine wOn ?_|refine wQn ?_);try simp only[zZ])|(refine zU.ownL c5 (flatL_mbs _) ?_)|refine zU.p c6 rfl ?_|refine zU.l c6 rfl ?_|refine zQ.pure c6 rfl ?_|refine zQ.lent c6 rfl ?_|refine zU.o c6 ?_|refine zV.p c6 rfl ?_|refine zV.l c6 rfl ?_|refine zV.o c6 ?_
    all_goals apply hr
    all_goals simp[Tryz.f14,h6,b6,Cf.cells]
   ·rw[if_neg hcz] at hr
    repeat' first|((first|refine O _ ?_|refine O _ _ ?_|(clear O;refine O _ ?_));clear O)|(refine zJ fun K O=>?_)|((first|refine zH ?_|refine zN rfl (by kernel_rfl) ?_|refine zM ?_|refine zK (by kernel_rfl) ?_);simp only[vS,vR,strip])|((first|refine wIs fun K O=>?_|refine wOs fun K O=>?_|refine wQs fun K O=>?_|refine zW ?_|refine zX ?_|refine zY ?_|refine zL ?_);simp[h3,b3,h4,b4,h6,b6,h8,h13,b13,h14,b77,h79,h80,h81,hlt,hk0',hcz])|(refine wIn ?_;refine And.intro (by kernel_rfl) ?_;try simp only[zZ])|refine zR ?_|refine zT ?_|((first|refine zI ?_|refine zO ?_|refine zP ?_);try simp)|((first|refine zS ?_|refine wOn ?_|refine wQn ?_);try simp only[zZ])|(refine zU.ownL c5 (flatL_mbs _) ?_)|refine zU.p c6 rfl ?_|refine zU.l c6 rfl ?_|refine zQ.pure c6 rfl ?_|refine zQ.lent c6 rfl ?_|refine zU.o c6 ?_|refine zV.p c6 rfl ?_|refine zV.l c6 rfl ?_|refine zV.o c6 ?_
    all_goals apply hr
    all_goals simp[Tryz.f14,h6,b6,Cf.cells,mbs]
end Go.Proofs.YtpihbhacmokekaaGreatDoor
