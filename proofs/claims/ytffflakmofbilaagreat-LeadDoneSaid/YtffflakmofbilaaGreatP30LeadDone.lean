/- Texts that the proof needs: KJQ XB IX XC XL XM NG NH XN XO XP HI KCM. -/
import Derived.Test.YtffflakmofbilaaGreatP24LeadDone
import Derived.Test.YtffflakmofbilaaGreatP28LeadDone
import Derived.Test.YtffflakmofbilaaGreatP26LeadDone
import Derived.Test.YtffflakmofbilaaGreatP23LeadDone
import Derived.Test.YtffflakmofbilaaGreatP18LeadDone
import Derived.Test.YtffflakmofbilaaGreatP27LeadDone
import Derived.Test.YtffflakmofbilaaGreatP12LeadDone
import Derived.WalkKit
import Derived.Deep.RegionLaw
import Derived.Test.YtffflakmofbilaaGreatP16LeadDone
import Derived.Test.YtffflakmofbilaaGreatP22LeadDone
namespace Go.Proofs.YtffflakmofbilaaGreat
set_option linter.unusedSimpArgs false
set_option linter.unusedVariables false
open Go Go.Av
attribute [local irreducible] Go.Av.yD Go.Av.zQ Go.Av.yC Go.Av.zJ Go.Av.xZ Go.Av.yT Go.Av.Con
theorem txns_take' (l : List Tx) (k : Nat) : (zA l).take k = zA (l.take k) := by simp [zA, List.map_take]
def comF (h : Hy) (self : Int) (l : List Lr) : List Tx -> Nat -> Int -> Int -> Int × Int
 | [],_,e,n=>(e,n)
 | t :: r,k,e,n=>if xM t.e t.n e n <= 0 then comF h self l r (k + 1) e n else if allQ (endN (wA h (h.lg.take (k + 1))) e n) (xS self 4 t.e t.n l) = true then comF h self l r (k + 1) t.e t.n else (e,n)
theorem sum_takeL {α : Type} (f : α -> Nat) : ∀ (l : List α) (k : Nat), ((l.take k).map f).sum <= (l.map f).sum
 | [],k=>by simp
 | x :: l,0=>by simp
 | x :: l, k + 1 => by
  have:=sum_takeL f l k
  rw [List.take_succ_cons,uP,uP,List.sum_cons,List.sum_cons]
  omega
theorem needs_take (h : Hy) (k : Nat) (e n : Int) : yY ⟨h.im, h.lg.take k⟩ e n = endN (wA h (h.lg.take k)) e n := rfl
theorem needs_ok {h : Hy} (hk : OkH h) (e n : Int) : ∀ c ∈ yY h e n, c.ms.length <= 1000 := by
 intro c hc
 obtain ⟨h1,h2⟩:=nsOf_ok hk (l:=h.lg) fun t ht=>ht
 unfold yY endN at hc
 split at hc
 ·simp only [List.mem_cons, List.not_mem_nil, or_false] at hc
  subst hc;exact h2
 ·simp only [List.mem_cons, List.not_mem_nil, or_false] at hc
  rcases hc with rfl | rfl
  ·exact h1
  ·exact h2
theorem endN_len (s : NS) (e n : Int) : (endN s e n).length <= 2 := by unfold endN; split <;> simp
set_option maxHeartbeats 8000000 in
theorem commit_con (h : Hy) (de dn self : Int) (l : List Lr) (hk : OkH h) (hl : l.length <= 100000) : zG Tryz.prog 87 [.p (.agg h.cells), .p (.agg [I de, I dn]), .p (I self), .p (.sl 8 (lrs l))] (.p (.agg [I (comF h self l h.lg 0 de dn).1, I (comF h self l h.lg 0 de dn).2])) := by
 have hlg:=hk.lg
 unfold Hy.cells
 refine zL Tryz.tab Tryz.mixed Tryz.func87 rfl rfl Tryz.ntmps87 (by simp) (by simp) fun Q hr hn=>?_
 repeat' first|(refine hK _ ?_;clear hK)|(refine zU fun K hK=>?_)|(refine zT ?_;simp only [uP,uO,strip])|(refine wOs fun K hK=>?_;simp)|(first | refine zW ?_ | refine wScope ?_)|((first | refine wLabel ?_ | refine wOn ?_);try simp only [zZ])
 refine yW (fun N st=>∃ (k : Nat) (e n : Int),k + N = h.lg.length /\ comF h self l (h.lg.drop k) k e n = comF h self l h.lg 0 de dn /\ st.s 2 = .p (I self) /\ st.s 3 = .p (.sl 8 (lrs l)) /\ st.s 4 = .ptr 4 0 /\ st.b 4 = some (.box 33 [.p (.sl 5 (zns h.im.ns)),.p (.sl 1 (ints h.im.ss)),.p (I h.im.nx),.p (I h.im.c.ep),.p (I h.im.c.n),.p (I h.im.c.kind),.p (.sl 4 (mbs h.im.c.ms)),.p (I h.im.ae),.p (I h.im.an),.p (.sl 8 (zA h.lg))]) /\ st.s 5 = .ptr 5 0 /\ st.b 5 = some (.box 25 [.p (I e),.p (I n)]) /\ st.s 8 = .ptr 8 0 /\ st.b 8 = some (.box 25 [.p (I 0),.p (I 0)]) /\ st.s 14 = .p (I h.lg.length) /\ st.s 15 = .p (I k)) h.lg.length ⟨0,de,dn,by simp⟩ fun K N st hL ⟨k,e,n,hkN,hi,g2,g3,g4,b4,gc,bc,g8,b8,gl,gk⟩=>?_
 by_cases hlt : k < h.lg.length
 ·have hlt' : (k : Int) < h.lg.length := by omega
  have hlt2 : k + 1 <= h.lg.length:=by omega
  have h0k : (0 : Int) <= (k : Int) + 1:=by omega
  have hw:=yV k _ hlt (by omega)
  have he:=xI hlt
  have ht:=txns_take' h.lg (k + 1)
  have c1:=uT h.lg[k].e h.lg[k].n e n
  rw [List.drop_eq_getElem_cons hlt] at hi
  simp only [comF] at hi
  by_cases o1 : xM h.lg[k].e h.lg[k].n e n <= 0
  ·rw [if_pos o1] at hi
   repeat' first|(refine hK _ ?_;clear hK)|(clear hK;refine hK _ ?_;clear hK)|(refine zU fun K hK=>?_)|(refine zT ?_;simp only [uP,uO,strip])|((first | refine wOs fun K hK=>?_ | refine zY ?_ | refine zX ?_);simp [g4,b4,gc,bc,gl,gk,hlt,hlt',o1,hw])|(first | refine zW ?_)|((first | refine zH ?_ | refine zR ?_);try simp)|(refine wOn ?_;try simp only [zZ])|(refine zQ.pure (c1) rfl ?_)
   refine hL _ (N - 1) (by omega) ⟨k + 1,e,n,by omega,hi,?_⟩
   simp [g2,g3,g4,b4,gc,bc,g8,b8,gl]
  ·rw [if_neg o1] at hi
   have hk2 : OkH ⟨h.im,h.lg.take (k + 1)⟩:=hk.take (k + 1)
   have c2:=needs_con ⟨h.im,h.lg.take (k + 1)⟩ e n hk2
   have hcf:=needs_ok hk2 e n
   rw [needs_take] at c2 hcf
   have c3:=set_con self 4 h.lg[k].e h.lg[k].n l hl
   have c4:=all_con (endN (wA h (h.lg.take (k + 1))) e n) (xS self 4 h.lg[k].e h.lg[k].n l) (by have:=endN_len (wA h (h.lg.take (k + 1))) e n;omega) (fun c hc=>by have:=hcf c hc;omega)
   unfold Hy.cells at c2
   simp only at c2
   generalize endN (wA h (h.lg.take (k + 1))) e n = nd at c2 c4 hi
   generalize xS self 4 h.lg[k].e h.lg[k].n l = ss at c3 c4 hi
   by_cases o2 : allQ nd ss = true
   ·rw [if_pos o2] at hi
    rw [o2] at c4
    repeat' first|(refine hK _ ?_;clear hK)|(refine zU fun K hK=>?_)|((first | refine zT ?_ | refine zE rfl (by kernel_rfl) ?_);simp only [uP,uO,strip])|((first | refine wOs fun K hK=>?_ | refine wQs fun K hK=>?_ | refine zY ?_ | refine zK ?_ | refine zX ?_);simp [g2,g3,g4,b4,gc,bc,gl,gk,hlt,hlt',hlt2,h0k,o1,hw,ht])|(first | refine zW ?_)|(refine zR ?_;try simp)|((first | refine wOn ?_ | refine wQn ?_);try simp only [zZ])|(refine zQ.pure (c1) rfl ?_)|(refine zJ.pure (c2) rfl ?_)|(refine zQ.pure (c3) rfl ?_)|(refine zQ.pure (c4) rfl ?_)
    refine hL _ (N - 1) (by omega) ⟨k + 1,_,_,by omega,hi,?_⟩
    simp [g2,g3,g4,b4,gc,g8,b8,gl]
   ·rw [if_neg o2] at hi
    rw [<- hi] at hr
    simp only [Bool.not_eq_true] at o2
    rw [o2] at c4
    repeat' first|(refine hK _ ?_;clear hK)|(clear hK;clear hK;refine hK _ ?_;clear hK)|(refine zU fun K hK=>?_)|((first | refine zT ?_ | refine zE rfl (by kernel_rfl) ?_);simp only [uP,uO,strip])|((first | refine wOs fun K hK=>?_ | refine wQs fun K hK=>?_ | refine zY ?_ | refine zK ?_ | refine zX ?_);simp [g2,g3,g4,b4,gc,bc,g8,b8,gl,gk,hlt,hlt',hlt2,h0k,o1,hw,ht])|(first | refine zW ?_)|((first | refine zN ?_ | refine zH ?_ | refine zR ?_);try simp)|((first | refine wOn ?_ | refine wQn ?_);try simp only [zZ])|(refine zQ.pure (c1) rfl ?_)|(refine zJ.pure (c2) rfl ?_)|(refine zQ.pure (c3) rfl ?_)|(refine zQ.pure (c4) rfl ?_)
    all_goals apply hr
    all_goals simp [Tryz.f87,g8]
 ·have hlt' : ¬ (k : Int) < h.lg.length := by omega
  rw [List.drop_of_length_le (by omega)] at hi
  simp only [comF] at hi
  rw [<- hi] at hr
  repeat' first|(refine hK _ ?_;clear hK)|(clear hK;refine hK _ ?_;clear hK)|(refine zU fun K hK=>?_)|(refine zT ?_;simp only [uP,uO,strip])|((first | refine wOs fun K hK=>?_ | refine zX ?_);simp [gc,bc,g8,b8,gl,gk,hlt'])|((first | refine zN ?_ | refine zH ?_);try simp)|(refine wOn ?_;try simp only [zZ])
  all_goals apply hr
  all_goals simp [Tryz.f87,g8]
theorem wrapX (k n : Nat) (h : k < n) (hn : n <= 9223372036854775807) : IntKind.i64.wrap ((k : Int) + 1) = ((k + 1 : Nat) : Int) := by
 rw [zD] <;> omega
def zis (l : List Int) : List (List PV) := l.map fun x => [I x]
@[simp] theorem zis_len (l : List Int) : (zis l).length = l.length := by simp [zis]
@[simp] theorem zis_getElem (l : List Int) (k : Nat) (h : k < (zis l).length) : (zis l)[k] = [I (l[k]'(by simpa using h))] := by simp [zis]
theorem zis_get {l : List Int} {k : Nat} (h : k < l.length) : (zis l)[k]? = some [I l[k]] := by simp [zis, h]
def but (l : List Int) (n : Int) : List Int := l.filter fun x => !decide (x = n)
theorem but_snoc {l : List Int} {k : Nat} (h : k < l.length) (n : Int) : but (l.take (k + 1)) n = if l[k] = n then but (l.take k) n else but (l.take k) n ++ [l[k]] := by
 rw [List.take_succ_eq_append_getElem h]
 unfold but
 rw [List.filter_append]
 by_cases g : l[k] = n <;> simp [g]
theorem but_len (l : List Int) (n : Int) : (but l n).length <= l.length := List.length_filter_le _ _
end Go.Proofs.YtffflakmofbilaaGreat
namespace Go.Proofs.YtffflakmofbilaaGreat
set_option linter.unusedSimpArgs false
set_option linter.unusedVariables false
open Go Go.Av Go.Lib Go.RowKit
end Go.Proofs.YtffflakmofbilaaGreat
namespace Go.Proofs.YtffflakmofbilaaGreat
set_option linter.unusedSimpArgs false
set_option linter.unusedVariables false
open Go Go.Av
attribute [local irreducible] Go.Av.yD Go.Av.zQ Go.Av.yC Go.Av.zJ Go.Av.xZ Go.Av.yT Go.Av.Con
def atI : List Int -> Int -> Nat
 | [],_=>0
 | x :: r,s=>if x < s then atI r s + 1 else 0
def insI (l : List Int) (s : Int) : List Int := (but l s).take (atI l s) ++ s :: (but l s).drop (atI l s)
def okS (s : Int) : Bool := decide (1 <= s /\ s <= 1099511627776)
def opnL (l : List Int) (s : Int) : List Int := if okS s = true then insI l s else l
def opnN (nx s : Int) : Int := if okS s = true then max nx (s + 1) else nx
theorem zis_snoc (l : List Int) (a : Int) : zis l ++ [[I a]] = zis (l ++ [a]) := by simp [zis]
theorem but_take_len (l : List Int) (n : Int) (k : Nat) : (but (l.take k) n).length <= k := Nat.le_trans (but_len _ _) (by simp; omega)
theorem without08_con (l : List Int) (n : Int) (hl : l.length <= 1000000) : zG Tryz.prog 135 [.p (.sl 1 (zis l)), .p (I n)] (.p (.sl 1 (zis (but l n)))) := by
 refine zL Tryz.tab Tryz.mixed Tryz.func135 rfl rfl Tryz.ntmps135 (by simp) (by simp) fun Q hr hn=>?_
 repeat' first|(refine hK _ ?_;clear hK)|(refine zU fun K hK=>?_)|(refine zT ?_;simp only [uP,uO,strip])|(refine wOs fun K hK=>?_;simp)|(first | refine zW ?_)|(refine wOn ?_;try simp only [zZ])
 refine wLoopG [.row 5 3 1] (fun N st=>∃ k,k + N = l.length /\ st.s 1 = .p (I n) /\ st.s 8 = .p (.sl 1 (zis l)) /\ st.s 9 = .p (I l.length) /\ st.s 10 = .p (I k) /\ st.s 5 = .row 5 /\ st.b 5 = some (.row 3 1 (zis (but (l.take k) n)))) l.length ⟨0,by simp [but,zis]⟩ fun K N st hL ⟨k,hk,g1,g8,g9,g10,g5,b5⟩=>?_
 have hkl:=but_take_len l n k
 by_cases hlt : k < l.length
 ·have hw := wrapX k _ hlt (by omega)
  have he:=zis_get hlt
  have hs:=but_snoc hlt n
  have hx:=zis_snoc (but (l.take k) n) l[k]
  by_cases o : l[k] = n
  ·rw [if_pos o] at hs
   repeat' first|(refine hK _ ?_;clear hK)|(refine zU fun K hK=>?_)|(refine zT ?_;simp only [uP,uO,strip])|((first | refine wOs fun K hK=>?_ | refine zX ?_);simp [g1,g8,g9,g10,hlt,hw,o])|(first | refine zW ?_)|(refine zR ?_;try simp)|(refine wOn ?_;try simp only [zZ])
   refine hL _ (N - 1) (by omega) ⟨k + 1,by omega,?_⟩
   simp [g1,g8,g9,g5,b5,hs]
  ·rw [if_neg o] at hs
   rw [<- hs] at hx
   repeat' first|(refine And.intro (by (try simp at hkl ⊢);omega) ?_)|(refine hK _ ?_;clear hK)|(refine zU fun K hK=>?_)|(refine zT ?_;simp only [uP,uO,strip])|((first | refine wOs fun K hK=>?_ | refine zX ?_);simp [g1,g8,g9,g10,g5,b5,hlt,hw,o])|(first | refine zW ?_)|(refine zR ?_;try simp)|(refine wOn ?_;try simp only [zZ])
   refine hL _ (N - 1) (by omega) ⟨k + 1,by omega,?_⟩
   simp [g1,g8,g9,hx]
 ·rw [List.take_of_length_le (by omega)] at b5
  repeat' first|(refine hK _ ?_;clear hK)|(clear hK;refine hK _ ?_;clear hK)|(refine zU fun K hK=>?_)|(refine zT ?_;simp only [uP,uO,strip])|((first | refine wOs fun K hK=>?_ | refine zX ?_);simp [g9,g10,g5,hlt])|((first | refine zN ?_ | refine zH ?_);try simp)|(refine wOn ?_;try simp only [zZ])
  all_goals apply hr
  all_goals simp [Tryz.f135,b5]
theorem copied08_con (e n k : Int) (ms : List (List PV)) (hl : ms.length <= 4398046510976) : zG Tryz.prog 63 [.p (.agg [I e, I n, I k, .sl 4 ms])] (.p (.agg [I e, I n, I k, .sl 4 ms])) := by
 refine zL Tryz.tab Tryz.mixed Tryz.func63 rfl rfl Tryz.ntmps63 (by simp) (by simp) fun Q hr hn=>?_
 repeat' first|(refine And.intro (by (try simp);omega) ?_)|(refine Or.inl ?_)|(refine hK _ ?_;clear hK)|(refine zU fun K hK=>?_)|(refine zT ?_;simp only [uP,uO,strip])|(refine wOs fun K hK=>?_;simp)|(refine zN ?_;try simp)|(refine wOn ?_;try simp only [zZ])
 all_goals apply hr
 all_goals simp [Tryz.f63]
def wst1 (n : Int) (q : List Int × Bool) (x : Int) : List Int × Bool :=
 if n <= x /\ q.2 = false then (if x = n then q.1 ++ [n] else q.1 ++ [n] ++ [x],true) else (if x = n then q.1 else q.1 ++ [x],q.2)
def wst (l : List Int) (n : Int) : List Int × Bool := l.foldl (wst1 n) ([], false)
theorem wst_snoc {l : List Int} {k : Nat} (h : k < l.length) (n : Int) : wst (l.take (k + 1)) n = wst1 n (wst (l.take k) n) l[k] := by
 rw [List.take_succ_eq_append_getElem h,wst,List.foldl_append];rfl
theorem wst_len (n : Int) : ∀ (l : List Int) (q : List Int × Bool), (l.foldl (wst1 n) q).1.length <= q.1.length + 2 * l.length
 | [],q=>by simp
 | x :: l, q => by
  have:=wst_len n l (wst1 n q x)
  have h1 : (wst1 n q x).1.length <= q.1.length + 2:=by unfold wst1;split <;> split <;> simp
  simp only [List.foldl_cons,List.length_cons]
  omega
def wth (l : List Int) (n : Int) : List Int := if (wst l n).2 = true then (wst l n).1 else (wst l n).1 ++ [n]
theorem wst_take_len (l : List Int) (n : Int) (k : Nat) : (wst (l.take k) n).1.length <= 2 * k := by
 have:=wst_len n (l.take k) ([],false)
 have h2 : (l.take k).length <= k:=by simp;omega
 unfold wst
 simp at this ⊢;omega
theorem with08_con (l : List Int) (n : Int) (hl : l.length <= 1000000) : zG Tryz.prog 134 [.p (.sl 1 (zis l)), .p (I n)] (.p (.sl 1 (zis (wth l n)))) := by
 refine zL Tryz.tab Tryz.mixed Tryz.func134 rfl rfl Tryz.ntmps134 (by simp) (by simp) fun Q hr hn=>?_
 repeat' first|(refine hK _ ?_;clear hK)|(refine zU fun K hK=>?_)|(refine zT ?_;simp only [uP,uO,strip])|(refine wOs fun K hK=>?_;simp)|(first | refine zW ?_)|(refine wOn ?_;try simp only [zZ])
 refine wLoopG [.row 5 3 1] (fun N st=>∃ k,k + N = l.length /\ st.s 1 = .p (I n) /\ st.s 9 = .p (.sl 1 (zis l)) /\ st.s 10 = .p (I l.length) /\ st.s 11 = .p (I k) /\ st.s 5 = .row 5 /\ st.s 6 = .p (B (wst (l.take k) n).2) /\ st.b 5 = some (.row 3 1 (zis (wst (l.take k) n).1))) l.length ⟨0,by simp [wst,zis]⟩ fun K N st hL ⟨k,hk,g1,g9,g10,g11,g5,g6,b5⟩=>?_
 have hkl:=wst_take_len l n k
 by_cases hlt : k < l.length
 ·have hw := wrapX k _ hlt (by omega)
  have he:=zis_get hlt
  have hs:=wst_snoc hlt n
  generalize wst (l.take k) n = q at hs g6 b5 hkl
  obtain ⟨o,d⟩:=q
  dsimp only at g6 b5 hkl
  generalize hx : l[k] = x at hs he
  by_cases h1 : n <= x
  ·cases d
   ·by_cases h2 : x = n
    ·have hs' : wst (l.take (k + 1)) n = (o ++ [n], true) := by rw [hs]; simp [wst1, h2]
     repeat' first|(refine And.intro (by (try simp at hkl ⊢);omega) ?_)|(refine hK _ ?_;clear hK)|(refine zU fun K hK=>?_)|(refine zT ?_;simp only [uP,uO,strip])|((first | refine wOs fun K hK=>?_ | refine zX ?_);simp [g1,g9,g10,g11,g5,g6,b5,hlt,hw,hx,h2,zis_snoc])|(first | refine zW ?_)|(refine zR ?_;try simp)|(refine wOn ?_;try simp only [zZ])
     refine hL _ (N - 1) (by omega) ⟨k + 1,by omega,?_⟩
     simp [g1,g9,g10,hs']
    ·have hs' : wst (l.take (k + 1)) n = (o ++ [n] ++ [x], true) := by rw [hs]; simp [wst1, h1, h2]
     repeat' first|(refine And.intro (by (try simp at hkl ⊢);omega) ?_)|(refine hK _ ?_;clear hK)|(refine zU fun K hK=>?_)|(refine zT ?_;simp only [uP,uO,strip])|((first | refine wOs fun K hK=>?_ | refine zX ?_);simp [g1,g9,g10,g11,g5,g6,b5,hlt,hw,hx,h1,h2,zis_snoc])|(first | refine zW ?_)|(refine zR ?_;try simp)|(refine wOn ?_;try simp only [zZ])
     refine hL _ (N - 1) (by omega) ⟨k + 1,by omega,?_⟩
     simp [g1,g9,g10,hs']
   ·by_cases h2 : x = n
    ·have hs' : wst (l.take (k + 1)) n = (o, true) := by rw [hs]; simp [wst1, h2]
     repeat' first|(refine hK _ ?_;clear hK)|(refine zU fun K hK=>?_)|(refine zT ?_;simp only [uP,uO,strip])|((first | refine wOs fun K hK=>?_ | refine zX ?_);simp [g1,g9,g10,g11,g6,hlt,hw,hx,h2])|(first | refine zW ?_)|(refine zR ?_;try simp)|(refine wOn ?_;try simp only [zZ])
     refine hL _ (N - 1) (by omega) ⟨k + 1,by omega,?_⟩
     simp [g1,g9,g10,g5,g6,b5,hs']
    ·have hs' : wst (l.take (k + 1)) n = (o ++ [x], true) := by rw [hs]; simp [wst1, h1, h2]
     repeat' first|(refine And.intro (by (try simp at hkl ⊢);omega) ?_)|(refine hK _ ?_;clear hK)|(refine zU fun K hK=>?_)|(refine zT ?_;simp only [uP,uO,strip])|((first | refine wOs fun K hK=>?_ | refine zX ?_);simp [g1,g9,g10,g11,g5,g6,b5,hlt,hw,hx,h1,h2,zis_snoc])|(first | refine zW ?_)|(refine zR ?_;try simp)|(refine wOn ?_;try simp only [zZ])
     refine hL _ (N - 1) (by omega) ⟨k + 1,by omega,?_⟩
     simp [g1,g9,g10,g6,hs']
  ·have h2 : ¬ x = n := by omega
   have hs' : wst (l.take (k + 1)) n = (o ++ [x],d):=by rw [hs];simp [wst1,h1,h2]
   repeat' first|(refine And.intro (by (try simp at hkl ⊢);omega) ?_)|(refine hK _ ?_;clear hK)|(refine zU fun K hK=>?_)|(refine zT ?_;simp only [uP,uO,strip])|((first | refine wOs fun K hK=>?_ | refine zX ?_);simp [g1,g9,g10,g11,g5,g6,b5,hlt,hw,hx,h1,h2,zis_snoc])|(first | refine zW ?_)|(refine zR ?_;try simp)|(refine wOn ?_;try simp only [zZ])
   refine hL _ (N - 1) (by omega) ⟨k + 1,by omega,?_⟩
   simp [g1,g9,g10,g6,hs']
 ·rw [List.take_of_length_le (by omega)] at b5 g6 hkl
  unfold wth at hr
  generalize wst l n = q at g6 b5 hkl hr
  obtain ⟨o,d⟩:=q
  dsimp only at g6 b5 hkl hr
  cases d
  ·simp only [Bool.false_eq_true, if_false] at hr
   repeat' first|(refine And.intro (by (try simp at hkl ⊢);omega) ?_)|(refine hK _ ?_;clear hK)|(clear hK;refine hK _ ?_;clear hK)|(refine zU fun K hK=>?_)|(refine zT ?_;simp only [uP,uO,strip])|((first | refine wOs fun K hK=>?_ | refine zX ?_);simp [g1,g10,g11,g5,g6,b5,hlt,zis_snoc])|((first | refine zN ?_ | refine zH ?_);try simp)|(refine wOn ?_;try simp only [zZ])
   all_goals apply hr
   all_goals simp [Tryz.f134]
  ·simp only [if_true] at hr
   repeat' first|(refine hK _ ?_;clear hK)|(clear hK;refine hK _ ?_;clear hK)|(refine zU fun K hK=>?_)|(refine zT ?_;simp only [uP,uO,strip])|((first | refine wOs fun K hK=>?_ | refine zX ?_);simp [g10,g11,g5,g6,hlt])|((first | refine zN ?_ | refine zH ?_ | refine zR ?_);try simp)|(refine wOn ?_;try simp only [zZ])
   all_goals apply hr
   all_goals simp [Tryz.f134,b5]
theorem wst_true (n : Int) : ∀ (l o : List Int), l.foldl (wst1 n) (o, true) = (o ++ but l n, true)
 | [],o=>by simp [but]
 | x :: l, o => by
  rw [List.foldl_cons]
  by_cases h : x = n
  ·rw [show wst1 n (o, true) x = (o, true) by simp [wst1, h], wst_true n l o]
   simp [but,h]
  ·rw [show wst1 n (o, true) x = (o ++ [x], true) by simp [wst1, h], wst_true n l (o ++ [x])]
   simp [but,h]
theorem wst_ins (n : Int) : ∀ (l o : List Int), (if (l.foldl (wst1 n) (o, false)).2 = true then (l.foldl (wst1 n) (o, false)).1 else (l.foldl (wst1 n) (o, false)).1 ++ [n]) = o ++ insI l n
 | [],o=>by simp [insI,but,atI]
 | x :: l, o => by
  rw [List.foldl_cons]
  by_cases h1 : n <= x
  ·have ha : atI (x :: l) n = 0 := by rw [atI, if_neg (by omega)]
   by_cases h : x = n
   ·rw [show wst1 n (o, false) x = (o ++ [n], true) by simp [wst1, h], wst_true]
    simp only [if_true,insI,ha]
    simp [but,h]
   ·rw [show wst1 n (o, false) x = (o ++ [n] ++ [x], true) by simp [wst1, h1, h], wst_true]
    simp only [if_true,insI,ha]
    simp [but,h]
  ·have h : ¬ x = n := by omega
   rw [show wst1 n (o,false) x = (o ++ [x],false) by simp [wst1,h1,h],wst_ins n l (o ++ [x])]
   have ha : atI (x :: l) n = atI l n + 1:=by rw [atI,if_pos (by omega)]
   simp only [insI,ha]
   simp [but,h]
theorem wth_ins (l : List Int) (n : Int) : wth l n = insI l n := by
 unfold wth wst
 rw [wst_ins n l []];rfl
end Go.Proofs.YtffflakmofbilaaGreat
namespace Go.Proofs.YtffflakmofbilaaGreat
set_option linter.unusedSimpArgs false
set_option linter.unusedVariables false
open Go Go.Av
theorem rst_sub (l : List Zn) (q : List UInt8) : (rst l q).Sublist l := by
 cases l with
 | nil=>exact .slnil
 | cons x r =>
  rw [rst];split
  ·exact List.sublist_cons_self x r
  ·exact List.Sublist.refl _
end Go.Proofs.YtffflakmofbilaaGreat
namespace Go.Proofs.YtffflakmofbilaaGreat
set_option linter.unusedSimpArgs false
set_option linter.unusedVariables false
open Go Go.Av
attribute [local irreducible] Go.Av.yD Go.Av.zQ Go.Av.yC Go.Av.zJ Go.Av.xZ Go.Av.yT Go.Av.Con
theorem rst_len (l : List Zn) (q : List UInt8) : (rst l q).length <= l.length := (rst_sub l q).length_le
theorem putZ_len (l : List Zn) (z : Zn) : (putZ l z).length <= l.length + 1 := by
 have:=rst_len (l.drop (att l z.p)) z.p
 have h2:=att_le l z.p
 unfold putZ
 simp at this ⊢
 omega
theorem goneZ_len (l : List Zn) (p : List UInt8) : (gone l p).length <= l.length := List.length_filter_le _ _
theorem ints_zis (l : List Int) : ints l = zis l := rfl
def vS (s : Sv) (p : Pt) : Sv :=
 if p.k = 1 then { s with ns:=putZ s.ns p.z } else if p.k = 2 then { s with ns:=gone s.ns p.z.p }
 else if p.k = 3 then { s with ss:=opnL s.ss p.s,nx:=opnN s.nx p.s } else if p.k = 4 then { s with ss:=but s.ss p.s }
 else if p.k = 5 then { s with c:=p.c } else s
def runP (s : Sv) (l : List Pt) : Sv := l.foldl vS s
theorem runP_snoc (s : Sv) {l : List Pt} {k : Nat} (h : k < l.length) : runP s (l.take (k + 1)) = vS (runP s (l.take k)) l[k] := by
 rw [List.take_succ_eq_append_getElem h,runP,List.foldl_append];rfl
def lateS (s : Sv) (e n : Int) : Sv := { s with ae := (lastZ [⟨s.ae, s.an⟩, ⟨e, n⟩]).e, an := (lastZ [⟨s.ae, s.an⟩, ⟨e, n⟩]).n }
def doS (s : Sv) (t : Tx) : Sv := lateS (runP s t.ps) t.e t.n
theorem insI_len (l : List Int) (s : Int) : (insI l s).length <= l.length + 1 := by
 have h:=but_len l s
 unfold insI
 simp
 omega
theorem opnL_len (l : List Int) (s : Int) : (opnL l s).length <= l.length + 1 := by
 unfold opnL
 split
 ·exact insI_len l s
 ·omega
theorem stepP_len (s : Sv) (p : Pt) : (vS s p).ns.length <= s.ns.length + 1 /\ (vS s p).ss.length <= s.ss.length + 1 := by
 have h1:=putZ_len s.ns p.z
 have h2:=goneZ_len s.ns p.z.p
 have h3:=opnL_len s.ss p.s
 have h4:=but_len s.ss p.s
 unfold vS
 split
 ·exact ⟨h1,by simp⟩
 split
 ·exact ⟨by show (gone s.ns p.z.p).length <= _;omega,by simp⟩
 split
 ·exact ⟨by simp,h3⟩
 split
 ·exact ⟨by simp,by show (but s.ss p.s).length <= _;omega⟩
 split <;> exact ⟨by simp,by simp⟩
theorem runP_len : ∀ (l : List Pt) (s : Sv), (runP s l).ns.length <= s.ns.length + l.length /\ (runP s l).ss.length <= s.ss.length + l.length
 | [],s=>⟨by simp [runP],by simp [runP]⟩
 | p :: l, s => by
  have h:=stepP_len s p
  have ih:=runP_len l (vS s p)
  have e : runP s (p :: l) = runP (vS s p) l:=rfl
  rw [e]
  simp only [List.length_cons]
  omega
theorem runP_take (s : Sv) (l : List Pt) (k : Nat) : (runP s (l.take k)).ns.length <= s.ns.length + l.length /\ (runP s (l.take k)).ss.length <= s.ss.length + l.length := by
 have h:=runP_len (l.take k) s
 have : (l.take k).length <= l.length:=by simp;omega
 omega
def okC (c : Cf) : Prop := c.ms.length <= 4398046510976
theorem stepP_c (s : Sv) (p : Pt) (hs : okC s.c) (hp : okC p.c) : okC (vS s p).c := by
 unfold vS
 split
 ·exact hs
 split
 ·exact hs
 split
 ·exact hs
 split
 ·exact hs
 split
 ·exact hp
 ·exact hs
theorem runP_c : ∀ (l : List Pt) (s : Sv), okC s.c -> (∀ p ∈ l, okC p.c) -> okC (runP s l).c
 | [],s,hs,_=>hs
 | p :: l,s,hs,hp=>runP_c l (vS s p) (stepP_c s p hs (hp p (by simp))) fun q hq=>hp q (by simp [hq])
def startS (c : Cf) : Sv := ⟨[⟨[47], [], 0, 0, 0⟩], [], 1, c, 0, 0⟩
structure Fits (s : Sv) (n : Nat) : Prop where
 ns : s.ns.length + n <= 1000000
 ss : s.ss.length + n <= 1000000
 c : okC s.c
def okT (t : Tx) : Prop := ∀ p ∈ t.ps, okC p.c
theorem doS_fits {s : Sv} {t : Tx} {n : Nat} (h : Fits s (t.ps.length + n)) (ht : okT t) : Fits (doS s t) n := by
 have h1:=runP_len t.ps s
 have h2:=runP_c t.ps s h.c ht
 refine ⟨?_,?_,h2⟩
 ·have := h.ns
  show (runP s t.ps).ns.length + n <= _
  omega
 ·have := h.ss
  show (runP s t.ps).ss.length + n <= _
  omega
def allS (s : Sv) (l : List Tx) : Sv := l.foldl doS s
theorem allS_snoc (s : Sv) {l : List Tx} {k : Nat} (h : k < l.length) : allS s (l.take (k + 1)) = doS (allS s (l.take k)) l[k] := by
 rw [List.take_succ_eq_append_getElem h,allS,List.foldl_append];rfl
def psum (l : List Tx) : Nat := (l.map fun t => t.ps.length).sum
theorem psum_cons (t : Tx) (l : List Tx) : psum (t :: l) = t.ps.length + psum l := by simp [psum]
theorem psum_drop {l : List Tx} {k : Nat} (h : k < l.length) : psum (l.drop k) = l[k].ps.length + psum (l.drop (k + 1)) := by
 rw [List.drop_eq_getElem_cons h,psum_cons]
theorem Fits.le {s : Sv} {n m : Nat} (h : Fits s n) (hm : m <= n) : Fits s m := ⟨by have := h.ns; omega, by have := h.ss; omega, h.c⟩
theorem start08_con (c : Cf) (hc : okC c) : zG Tryz.prog 32 [.p (.agg c.cells)] (.p (.agg (startS c).cells)) := by
 have c1:=root07_con
 have c2:=copied08_con c.ep c.n c.kind (mbs c.ms) (by rw [vL];exact hc)
 unfold startS Sv.cells Cf.cells
 dsimp only
 generalize zns [⟨[47],[],0,0,0⟩] = r at c1 ⊢
 rw [show ints [] = [] from rfl]
 refine zL Tryz.tab Tryz.mixed Tryz.func32 rfl rfl Tryz.ntmps32 (by simp) (by simp) fun Q hr hn=>?_
 repeat' first|(refine hK _ ?_;clear hK)|(refine hK _ _ ?_;clear hK)|(refine zU fun K hK=>?_)|((first | refine zT ?_ | refine yI ?_);simp only [uP,uO,strip])|((first | refine wIs fun K hK=>?_ | refine wOs fun K hK=>?_ | refine yR ?_);simp)|(refine wIn ?_;refine And.intro (by kernel_rfl) ?_;try simp only [zZ])|(refine zN ?_;try simp)|(refine wOn ?_;try simp only [zZ])|(refine yT.pure (c1) rfl ?_)|(refine yT.pure (c2) rfl ?_)
 all_goals apply hr
 all_goals simp [Tryz.f32]
theorem last2 (a b : Zx) : lastZ [a, b] = if 0 < xM b.e b.n a.e a.n then b else a := rfl
set_option maxHeartbeats 8000000 in
theorem apply08_con (s : Sv) (t : Tx) (h : Fits s t.ps.length) (ht : okT t) : zG Tryz.prog 104 [.p (.agg s.cells), .p (.agg t.cells)] (.p (.agg (doS s t).cells)) := by
 have h1:=h.ns
 have h2:=h.ss
 have c1:=copied08_con s.c.ep s.c.n s.c.kind (mbs s.c.ms) (by rw [vL];exact h.c)
 unfold Sv.cells Tx.cells
 simp only [ints_zis]
 refine zL Tryz.tab Tryz.mixed Tryz.func104 rfl rfl Tryz.ntmps104 (by simp) (by simp) fun Q hr hn=>?_
 repeat' first|(refine And.intro (by (try simp);omega) ?_)|(refine Or.inr ?_)|(refine hK _ ?_;clear hK)|(refine hK _ _ ?_;clear hK)|(refine zU fun K hK=>?_)|((first | refine zT ?_ | refine yI ?_);simp only [uP,uO,strip])|((first | refine wIs fun K hK=>?_ | refine wOs fun K hK=>?_ | refine yR ?_);simp)|(refine wIn ?_;refine And.intro (by kernel_rfl) ?_;try simp only [zZ])|(first | refine zW ?_)|(refine wOn ?_;try simp only [zZ])|(refine yT.pure (c1) rfl ?_)
 refine yW (fun N st=>∃ k,k + N = t.ps.length /\ st.s 4 = .ptr 4 0 /\ st.s 3 = .ptr 3 0 /\ st.s 5 = .ptr 5 0 /\ st.s 25 = .p (.sl 11 (pts t.ps)) /\ st.s 26 = .p (I t.ps.length) /\ st.s 27 = .p (I k) /\ st.b 4 = some (.box 30 [.nil 5,.nil 1,.p (I 0),.p (I 0),.p (I 0),.p (I 0),.nil 4,.p (I 0),.p (I 0)]) /\ st.b 3 = some (.box 58 [.p (I t.e),.p (I t.n),.p (I t.s),.p (I t.x),.p (I t.r),.p (I t.b),.p (SB t.m),.p (.sl 11 (pts t.ps))]) /\ st.b 5 = some (.box 30 [.p (.sl 5 (zns (runP s (t.ps.take k)).ns)),.p (.sl 1 (zis (runP s (t.ps.take k)).ss)),.p (I (runP s (t.ps.take k)).nx),.p (I (runP s (t.ps.take k)).c.ep),.p (I (runP s (t.ps.take k)).c.n),.p (I (runP s (t.ps.take k)).c.kind),.p (.sl 4 (mbs (runP s (t.ps.take k)).c.ms)),.p (I (runP s (t.ps.take k)).ae),.p (I (runP s (t.ps.take k)).an)])) t.ps.length ⟨0,by simp [runP]⟩ fun K N st hL ⟨k,hk,g4,g3,g5,g25,g26,g27,b4,b3,b5⟩=>?_
 have hlen:=runP_take s t.ps k
 by_cases hlt : k < t.ps.length
 ·have hw := wrapX k _ hlt (by omega)
  have he:=pts_get hlt
  have hs:=runP_snoc s hlt
  have hpc:=ht t.ps[k] (List.getElem_mem hlt)
  generalize runP s (t.ps.take k) = q at hs hlen b5
  unfold okC at hpc
  by_cases k1 : t.ps[k].k = 1
  ·have c := put07_con q.ns t.ps[k].z (by omega)
   unfold Zn.c at c
   have hs' : vS q t.ps[k] = { q with ns:=putZ q.ns t.ps[k].z }:=by unfold vS;rw [if_pos k1]
   generalize putZ q.ns t.ps[k].z = n1 at c hs'
   repeat' first|(refine hK _ ?_;clear hK)|(refine zU fun K hK=>?_)|(refine zT ?_;simp only [uP,uO,strip])|((first | refine wOs fun K hK=>?_ | refine zY ?_ | refine zX ?_);simp [g5,g25,g26,g27,b5,hlt,hw,k1])|(first | refine zW ?_)|(refine zR ?_;try simp)|(refine wOn ?_;try simp only [zZ])|(refine zQ.pure (c) rfl ?_)
   refine hL _ (N - 1) (by omega) ⟨k + 1,by omega,?_⟩
   simp [g4,g3,g5,g25,g26,b4,b3,hs,hs']
  by_cases k2 : t.ps[k].k = 2
  ·have c := gone07_con q.ns t.ps[k].z.p (by omega)
   have hs' : vS q t.ps[k] = { q with ns:=gone q.ns t.ps[k].z.p }:=by unfold vS;rw [if_neg k1,if_pos k2]
   generalize gone q.ns t.ps[k].z.p = n1 at c hs'
   repeat' first|(refine hK _ ?_;clear hK)|(refine zU fun K hK=>?_)|(refine zT ?_;simp only [uP,uO,strip])|((first | refine wOs fun K hK=>?_ | refine zY ?_ | refine zX ?_);simp [g5,g25,g26,g27,b5,hlt,hw,k2])|(first | refine zW ?_)|(refine zR ?_;try simp)|(refine wOn ?_;try simp only [zZ])|(refine zQ.pure (c) rfl ?_)
   refine hL _ (N - 1) (by omega) ⟨k + 1,by omega,?_⟩
   simp [g4,g3,g5,g25,g26,b4,b3,hs,hs']
  by_cases k3 : t.ps[k].k = 3
  ·have hs' : vS q t.ps[k] = { q with ss := opnL q.ss t.ps[k].s, nx := opnN q.nx t.ps[k].s } := by unfold vS; rw [if_neg k1, if_neg k2, if_pos k3]
   by_cases o1 : 1 <= t.ps[k].s
   ·by_cases o2 : t.ps[k].s <= 1099511627776
    ·have ho : okS t.ps[k].s = true := decide_eq_true ⟨o1, o2⟩
     have hw1 : IntKind.i64.wrap (t.ps[k].s + 1) = t.ps[k].s + 1:=by rw [zD] <;> omega
     have c:=with08_con q.ss t.ps[k].s (by omega)
     rw [wth_ins] at c
     have e1 : opnL q.ss t.ps[k].s = insI q.ss t.ps[k].s:=by unfold opnL;rw [if_pos ho]
     have e2 : opnN q.nx t.ps[k].s = max q.nx (t.ps[k].s + 1):=by unfold opnN;rw [if_pos ho]
     rw [e1,e2] at hs'
     generalize insI q.ss t.ps[k].s = n1 at c hs'
     repeat' first|(refine hK _ ?_;clear hK)|(refine zU fun K hK=>?_)|(refine zT ?_;simp only [uP,uO,strip])|((first | refine wOs fun K hK=>?_ | refine zY ?_ | refine zX ?_);simp [g5,g25,g26,g27,b5,hlt,hw,k3,o1,o2,hw1])|(first | refine zW ?_)|(refine zR ?_;try simp)|(refine wOn ?_;try simp only [zZ])|(refine zQ.pure (c) rfl ?_)
     all_goals refine hL _ (N - 1) (by omega) ⟨k + 1,by omega,?_⟩
     all_goals simp [g4,g3,g5,g25,g26,b4,b3,hs,hs']
     all_goals omega
    ·have ho : ¬ okS t.ps[k].s = true := by unfold okS; simp; omega
     have e1 : opnL q.ss t.ps[k].s = q.ss:=by unfold opnL;rw [if_neg ho]
     have e2 : opnN q.nx t.ps[k].s = q.nx:=by unfold opnN;rw [if_neg ho]
     rw [e1,e2] at hs'
     repeat' first|(refine hK _ ?_;clear hK)|(refine zU fun K hK=>?_)|(refine zT ?_;simp only [uP,uO,strip])|((first | refine wOs fun K hK=>?_ | refine zX ?_);simp [g25,g26,g27,hlt,hw,k3,o1,o2])|(first | refine zW ?_)|(refine zR ?_;try simp)|(refine wOn ?_;try simp only [zZ])
     all_goals refine hL _ (N - 1) (by omega) ⟨k + 1,by omega,?_⟩
     all_goals simp [g4,g3,g5,g25,g26,b4,b3,b5,hs,hs']
   ·have ho : ¬ okS t.ps[k].s = true := by unfold okS; simp; omega
    have e1 : opnL q.ss t.ps[k].s = q.ss:=by unfold opnL;rw [if_neg ho]
    have e2 : opnN q.nx t.ps[k].s = q.nx:=by unfold opnN;rw [if_neg ho]
    rw [e1,e2] at hs'
    repeat' first|(refine hK _ ?_;clear hK)|(refine zU fun K hK=>?_)|(refine zT ?_;simp only [uP,uO,strip])|((first | refine wOs fun K hK=>?_ | refine zX ?_);simp [g25,g26,g27,hlt,hw,k3,o1])|(first | refine zW ?_)|(refine zR ?_;try simp)|(refine wOn ?_;try simp only [zZ])
    all_goals refine hL _ (N - 1) (by omega) ⟨k + 1,by omega,?_⟩
    all_goals simp [g4,g3,g5,g25,g26,b4,b3,b5,hs,hs']
  by_cases k4 : t.ps[k].k = 4
  ·have c := without08_con q.ss t.ps[k].s (by omega)
   have hs' : vS q t.ps[k] = { q with ss:=but q.ss t.ps[k].s }:=by unfold vS;rw [if_neg k1,if_neg k2,if_neg k3,if_pos k4]
   generalize but q.ss t.ps[k].s = n1 at c hs'
   repeat' first|(refine hK _ ?_;clear hK)|(refine zU fun K hK=>?_)|(refine zT ?_;simp only [uP,uO,strip])|((first | refine wOs fun K hK=>?_ | refine zY ?_ | refine zX ?_);simp [g5,g25,g26,g27,b5,hlt,hw,k4])|(first | refine zW ?_)|(refine zR ?_;try simp)|(refine wOn ?_;try simp only [zZ])|(refine zQ.pure (c) rfl ?_)
   refine hL _ (N - 1) (by omega) ⟨k + 1,by omega,?_⟩
   simp [g4,g3,g5,g25,g26,b4,b3,hs,hs']
  by_cases k5 : t.ps[k].k = 5
  ·have c := copied08_con t.ps[k].c.ep t.ps[k].c.n t.ps[k].c.kind (mbs t.ps[k].c.ms) (by rw [vL]; exact hpc)
   have hs' : vS q t.ps[k] = { q with c:=t.ps[k].c }:=by unfold vS;rw [if_neg k1,if_neg k2,if_neg k3,if_neg k4,if_pos k5]
   repeat' first|(refine hK _ ?_;clear hK)|(refine zU fun K hK=>?_)|(refine zT ?_;simp only [uP,uO,strip])|((first | refine wOs fun K hK=>?_ | refine zY ?_ | refine zX ?_);simp [g5,g25,g26,g27,b5,hlt,hw,k5])|(first | refine zW ?_)|(refine zR ?_;try simp)|(refine wOn ?_;try simp only [zZ])|(refine zQ.pure (c) rfl ?_)
   refine hL _ (N - 1) (by omega) ⟨k + 1,by omega,?_⟩
   simp [g4,g3,g5,g25,g26,b4,b3,hs,hs']
  ·have hs' : vS q t.ps[k] = q := by unfold vS; rw [if_neg k1, if_neg k2, if_neg k3, if_neg k4, if_neg k5]
   repeat' first|(refine hK _ ?_;clear hK)|(refine zU fun K hK=>?_)|(refine zT ?_;simp only [uP,uO,strip])|((first | refine wOs fun K hK=>?_ | refine zX ?_);simp [g25,g26,g27,hlt,hw,k1,k2,k3,k4,k5])|(first | refine zW ?_)|(refine zR ?_;try simp)|(refine wOn ?_;try simp only [zZ])
   refine hL _ (N - 1) (by omega) ⟨k + 1,by omega,?_⟩
   simp [g4,g3,g5,g25,g26,b4,b3,b5,hs,hs']
 ·rw [List.take_of_length_le (by omega)] at b5
  unfold doS lateS at hr
  simp only [last2] at hr
  generalize runP s t.ps = q at hr b5
  have c:=cmp02_con t.e t.n q.ae q.an
  by_cases o : 0 < xM t.e t.n q.ae q.an
  ·simp only [if_pos o] at hr
   repeat' first|(refine hK _ ?_;clear hK)|(clear hK;refine hK _ ?_;clear hK)|(refine zU fun K hK=>?_)|(refine zT ?_;simp only [uP,uO,strip])|((first | refine wOs fun K hK=>?_ | refine zY ?_ | refine zX ?_);simp [g4,g3,g5,g26,g27,b4,b3,b5,hlt,o])|((first | refine zN ?_ | refine zH ?_);try simp)|(refine wOn ?_;try simp only [zZ])|(refine zQ.pure (c) rfl ?_)
   all_goals apply hr
   all_goals simp [Tryz.f104,g4]
  ·simp only [if_neg o] at hr
   repeat' first|(refine hK _ ?_;clear hK)|(clear hK;refine hK _ ?_;clear hK)|(refine zU fun K hK=>?_)|(refine zT ?_;simp only [uP,uO,strip])|((first | refine wOs fun K hK=>?_ | refine zY ?_ | refine zX ?_);simp [g4,g3,g5,g26,g27,b4,b3,b5,hlt,o])|((first | refine zN ?_ | refine zH ?_ | refine zR ?_);try simp)|(refine wOn ?_;try simp only [zZ])|(refine zQ.pure (c) rfl ?_)
   all_goals apply hr
   all_goals simp [Tryz.f104,g4]
theorem doS_at (s : Sv) (a b c d : Int) (m : List UInt8) : doS s ⟨s.ae, s.an, a, b, c, d, m, []⟩ = s := by
 unfold doS lateS runP
 rw [last2]
 simp [xM]
set_option maxHeartbeats 4000000 in
theorem all08_con (s : Sv) (l : List Tx) (hs : Fits s (psum l)) (ht : ∀ t ∈ l, okT t) : zG Tryz.prog 74 [.p (.agg s.cells), .p (.sl 8 (zA l))] (.p (.agg (allS s l).cells)) := by
 refine zG.len ⟨Tryz.f74,Tryz.func74,rfl,rfl⟩ 1 _ _ rfl fun hlen=>?_
 simp only [txns_len] at hlen
 have c1:=apply08_con s ⟨s.ae,s.an,0,0,0,0,[],[]⟩ (hs.le (by simp)) (fun p hp=>by simp at hp)
 rw [doS_at] at c1
 unfold Tx.cells Sv.cells at c1
 rw [show pts [] = [] from rfl] at c1
 unfold Sv.cells
 refine zL Tryz.tab Tryz.mixed Tryz.func74 rfl rfl Tryz.ntmps74 (by simp) (by simp) fun Q hr hn=>?_
 repeat' first|(refine hK _ ?_;clear hK)|(refine zU fun K hK=>?_)|(refine zT ?_;simp only [uP,uO,strip])|((first | refine wOs fun K hK=>?_ | refine zY ?_);simp)|(first | refine zW ?_)|(refine wOn ?_;try simp only [zZ])|(refine zQ.pure (c1) rfl ?_)
 refine yW (fun N st=>∃ k,k + N = l.length /\ Fits (allS s (l.take k)) (psum (l.drop k)) /\ st.s 5 = .ptr 5 0 /\ st.s 4 = .ptr 4 0 /\ st.s 13 = .p (.sl 8 (zA l)) /\ st.s 14 = .p (I l.length) /\ st.s 15 = .p (I k) /\ st.b 4 = some (.box 30 [.nil 5,.nil 1,.p (I 0),.p (I 0),.p (I 0),.p (I 0),.nil 4,.p (I 0),.p (I 0)]) /\ st.b 5 = some (.box 30 [.p (.sl 5 (zns (allS s (l.take k)).ns)),.p (.sl 1 (ints (allS s (l.take k)).ss)),.p (I (allS s (l.take k)).nx),.p (I (allS s (l.take k)).c.ep),.p (I (allS s (l.take k)).c.n),.p (I (allS s (l.take k)).c.kind),.p (.sl 4 (mbs (allS s (l.take k)).c.ms)),.p (I (allS s (l.take k)).ae),.p (I (allS s (l.take k)).an)])) l.length ⟨0,by simp [allS];exact hs⟩ fun K N st hL ⟨k,hk,hf,g5,g4,g13,g14,g15,b4,b5⟩=>?_
 by_cases hlt : k < l.length
 ·have hw := wrapX k _ hlt (by omega)
  have he:=xI hlt
  have hsn:=allS_snoc s hlt
  have hps:=psum_drop hlt
  have htk:=ht l[k] (List.getElem_mem hlt)
  rw [hps] at hf
  have hf2:=doS_fits hf htk
  rw [<- hsn] at hf2
  generalize allS s (l.take k) = q at hsn hf b5
  have c2:=apply08_con q l[k] (hf.le (by omega)) htk
  rw [<- hsn] at c2
  unfold Sv.cells Tx.cells at c2
  generalize hr' : allS s (l.take (k + 1)) = r at c2 hf2
  repeat' first|(refine hK _ ?_;clear hK)|(refine zU fun K hK=>?_)|(refine zT ?_;simp only [uP,uO,strip])|((first | refine wOs fun K hK=>?_ | refine zY ?_ | refine zX ?_);simp [g5,g13,g14,g15,b5,hlt,hw])|(first | refine zW ?_)|(refine zR ?_;try simp)|(refine wOn ?_;try simp only [zZ])|(refine zQ.pure (c2) rfl ?_)
  refine hL _ (N - 1) (by omega) ⟨k + 1,by omega,?_⟩
  simp [g5,g4,g13,g14,b4,hr']
  exact hf2
 ·rw [List.take_of_length_le (by omega)] at b5
  generalize allS s l = q at b5 hr
  repeat' first|(refine hK _ ?_;clear hK)|(clear hK;refine hK _ ?_;clear hK)|(refine zU fun K hK=>?_)|(refine zT ?_;simp only [uP,uO,strip])|((first | refine wOs fun K hK=>?_ | refine zX ?_);simp [g5,g4,g14,g15,b4,b5,hlt])|((first | refine zN ?_ | refine zH ?_);try simp)|(refine wOn ?_;try simp only [zZ])
  all_goals apply hr
  all_goals simp [Tryz.f74,g4]
theorem pts_snoc (l : List Pt) (x : Pt) : pts l ++ [[I x.k, SB x.z.p, SB x.z.d, I x.z.v, I x.z.k, I x.z.o, I x.s, I x.c.ep, I x.c.n, I x.c.kind, .sl 4 (mbs x.c.ms)]] = pts (l ++ [x]) := by simp [pts, Pt.cells]
theorem txns_snoc (l : List Tx) (t : Tx) : zA l ++ [[I t.e, I t.n, I t.s, I t.x, I t.r, I t.b, SB t.m, .sl 11 (pts t.ps)]] = zA (l ++ [t]) := by simp [zA, Tx.cells]
set_option maxHeartbeats 4000000 in
theorem copied16_con (t : Tx) (hl : t.ps.length <= 1000) (hc : ∀ p ∈ t.ps, p.c.ms.length <= 1000) : zG Tryz.prog 72 [.p (.agg t.cells)] (.p (.agg t.cells)) := by
 unfold Tx.cells
 refine zL Tryz.tab Tryz.mixed Tryz.func72 rfl rfl Tryz.ntmps72 (by simp) (by simp) fun Q hr hn=>?_
 repeat' first|(refine hK _ ?_;clear hK)|(refine zU fun K hK=>?_)|(refine zT ?_;simp only [uP,uO,strip])|(refine wOs fun K hK=>?_;simp)|(first | refine zW ?_)|(refine wOn ?_;try simp only [zZ])
 refine wLoopG [.cel 1 7 26 131 11] (fun N st=>∃ (k : Nat),k + N = t.ps.length /\ st.s 1 = .ptr 1 0 /\ st.b 1 = some (.box 58 [.p (I t.e),.p (I t.n),.p (I t.s),.p (I t.x),.p (I t.r),.p (I t.b),.p (SB t.m),.row 26]) /\ st.s 2 = .ptr 2 0 /\ st.b 2 = some (.box 58 [.p (I 0),.p (I 0),.p (I 0),.p (I 0),.p (I 0),.p (I 0),.p (SB []),.nil 11]) /\ st.b 26 = some (.row 131 11 (pts (t.ps.take k))) /\ st.s 9 = .p (.sl 11 (pts t.ps)) /\ st.s 10 = .p (I t.ps.length) /\ st.s 11 = .p (I k)) t.ps.length ⟨0,by simp [vT,gh1,pts]⟩ fun K N st hL ⟨k,hk,g1,b1,g2,b2,b26,g9,g10,g11⟩=>?_
 by_cases hlt : k < t.ps.length
 ·have hlt' : (k : Int) < t.ps.length := by omega
  have hw:=yV k _ hlt (by omega)
  have he:=pts_get hlt
  have hpc:=hc _ (List.getElem_mem hlt)
  have hs:=pts_snoc (t.ps.take k) t.ps[k]
  rw [<- List.take_succ_eq_append_getElem hlt] at hs
  have hll:=pts_len (t.ps.take k)
  rw [List.length_take] at hll
  repeat' first|(refine And.intro (by (try simp only [hll,vL,List.length_cons,List.length_nil]);omega) ?_)|(refine Or.inr ?_)|(refine hK _ ?_;clear hK)|(refine zU fun K hK=>?_)|(refine zT ?_;simp only [uP,uO,strip])|((first | refine wOs fun K hK=>?_ | refine zX ?_);simp [g1,b1,b26,g9,g10,g11,hlt,hlt',hw,Pt.cells,hs])|(first | refine zW ?_)|(refine zR ?_;try simp)|(refine wOn ?_;try simp only [zZ])
  refine hL _ (N - 1) (by omega) ⟨k + 1,by omega,?_⟩
  simp [g1,g2,b2,g9,g10]
 ·have hlt' : ¬ (k : Int) < t.ps.length := by omega
  rw [List.take_of_length_le (by omega)] at b26
  repeat' first|(refine hK _ ?_;clear hK)|(clear hK;refine hK _ ?_;clear hK)|(refine zU fun K hK=>?_)|(refine zT ?_;simp only [uP,uO,strip])|((first | refine wOs fun K hK=>?_ | refine zX ?_);simp [g1,b1,g2,b2,g10,g11,hlt'])|((first | refine zN ?_ | refine zH ?_);try simp)|(refine wOn ?_;try simp only [zZ])
  all_goals apply hr
  all_goals simp [Tryz.f72,g2,b26]
set_option maxHeartbeats 4000000 in
theorem all16_con (l : List Tx) (hl : l.length <= 1000) (hp : ∀ t ∈ l, t.ps.length <= 1000 /\ ∀ p ∈ t.ps, p.c.ms.length <= 1000) : zG Tryz.prog 44 [.p (.sl 8 (zA l)), .p (.sl 8 [])] (.p (.sl 8 (zA l))) := by
 refine zL Tryz.tab Tryz.mixed Tryz.func44 rfl rfl Tryz.ntmps44 (by simp) (by simp) fun Q hr hn=>?_
 repeat' first|(refine hK _ ?_;clear hK)|(refine zU fun K hK=>?_)|(refine zT ?_;simp only [uP,uO,strip])|(refine wOs fun K hK=>?_;simp)|(first | refine zW ?_)|(refine wOn ?_;try simp only [zZ])
 refine wLoopG [.row 5 58 8] (fun N st=>∃ (k : Nat),k + N = l.length /\ st.s 1 = .p (.sl 8 []) /\ st.s 5 = .row 5 /\ st.b 5 = some (.row 58 8 (zA (l.take k))) /\ st.s 10 = .p (.sl 8 (zA l)) /\ st.s 11 = .p (I l.length) /\ st.s 12 = .p (I k)) l.length ⟨0,by simp [vT,gh1,zA]⟩ fun K N st hL ⟨k,hk,g1,g5,b5,g10,g11,g12⟩=>?_
 by_cases hlt : k < l.length
 ·have hlt' : (k : Int) < l.length := by omega
  have hw:=yV k _ hlt (by omega)
  have he:=xI hlt
  obtain ⟨hp1,hp2⟩:=hp _ (List.getElem_mem hlt)
  have c:=copied16_con l[k] hp1 hp2
  unfold Tx.cells at c
  have hs:=txns_snoc (l.take k) l[k]
  rw [<- List.take_succ_eq_append_getElem hlt] at hs
  have hll:=txns_len (l.take k)
  rw [List.length_take] at hll
  repeat' first|(refine And.intro (by (try simp only [hll,List.length_cons,List.length_nil]);omega) ?_)|(refine hK _ ?_;clear hK)|(refine zU fun K hK=>?_)|(refine zT ?_;simp only [uP,uO,strip])|((first | refine wOs fun K hK=>?_ | refine zY ?_ | refine zX ?_);simp [g5,b5,g10,g11,g12,hlt,hlt',hw,hs])|(first | refine zW ?_)|(refine zR ?_;try simp)|(refine wOn ?_;try simp only [zZ])|(refine zQ.pure (c) rfl ?_)
  refine hL _ (N - 1) (by omega) ⟨k + 1,by omega,?_⟩
  simp [g1,g10,g11]
 ·have hlt' : ¬ (k : Int) < l.length := by omega
  rw [List.take_of_length_le (by omega)] at b5
  repeat' first|(refine hK _ ?_;clear hK)|(clear hK;refine hK _ ?_;clear hK)|(refine zU fun K hK=>?_)|(refine zT ?_;simp only [uP,uO,strip])|((first | refine wOs fun K hK=>?_ | refine zX ?_);simp [g1,g11,g12,hlt'])|(first | refine zW ?_)|(refine zH ?_;try simp)|(refine wOn ?_;try simp only [zZ])
  refine yW (fun N st=>st.s 5 = .row 5 /\ st.b 5 = some (.row 58 8 (zA l)) /\ st.s 22 = .p (.sl 8 []) /\ st.s 23 = .p (I 0) /\ st.s 24 = .p (I 0)) 0 (by simp [g5,b5]) fun K N st hL ⟨g5,b5,g22,g23,g24⟩=>?_
  repeat' first|(refine hK _ ?_;clear hK)|(clear hK;refine hK _ ?_;clear hK)|(refine zU fun K hK=>?_)|(refine zT ?_;simp only [uP,uO,strip])|((first | refine wOs fun K hK=>?_ | refine zX ?_);simp [g5,g23,g24])|((first | refine zN ?_ | refine zH ?_);try simp)|(refine wOn ?_;try simp only [zZ])
  all_goals apply hr
  all_goals simp [Tryz.f44,b5]
theorem own16_con (s : Sv) (h1 : s.ns.length <= 1000) (h2 : s.ss.length <= 1000) (h3 : s.c.ms.length <= 1000) : zG Tryz.prog 43 [.p (.agg s.cells)] (.p (.agg s.cells)) := by
 have c:=all08_con s [] ⟨by simp [psum];omega,by simp [psum];omega,by unfold okC;omega⟩ (by simp)
 rw [show allS s [] = s from rfl,show zA [] = [] from rfl] at c
 unfold Sv.cells at c ⊢
 refine zL Tryz.tab Tryz.mixed Tryz.func43 rfl rfl Tryz.ntmps43 (by simp) (by simp) fun Q hr hn=>?_
 repeat' first|(refine hK _ ?_;clear hK)|(refine zU fun K hK=>?_)|(refine zT ?_;simp only [uP,uO,strip])|((first | refine wOs fun K hK=>?_ | refine zY ?_);simp)|(refine zN ?_;try simp)|(refine wOn ?_;try simp only [zZ])|(refine zQ.pure (c) rfl ?_)
 all_goals apply hr
 all_goals simp [Tryz.f43]
set_option maxHeartbeats 1000000 in
theorem Own16_con (h : Hy) (hk : OkH h) : zG Tryz.prog 45 [.p (.agg h.cells)] (.p (.agg h.cells)) := by
 have c1:=own16_con h.im hk.ns hk.ss hk.c
 have c2:=all16_con h.lg hk.lg hk.ps
 unfold Hy.cells
 unfold Sv.cells at c1
 refine zL Tryz.tab Tryz.mixed Tryz.func45 rfl rfl Tryz.ntmps45 (by simp) (by simp) fun Q hr hn=>?_
 repeat' first|(refine hK _ ?_;clear hK)|(refine hK _ _ ?_;clear hK)|(refine zU fun K hK=>?_)|((first | refine zT ?_ | refine yI ?_);simp only [uP,uO,strip])|((first | refine wIs fun K hK=>?_ | refine wOs fun K hK=>?_ | refine yR ?_);simp)|(refine wIn ?_;refine And.intro (by kernel_rfl) ?_;try simp only [zZ])|(refine zN ?_;try simp)|(refine wOn ?_;try simp only [zZ])|(refine yT.pure (c1) rfl ?_)|(refine yT.pure (c2) rfl ?_)
 all_goals apply hr
 all_goals simp [Tryz.f45]
def comd (fe fn te tn : Int) (l : List Tx) : List Tx := l.filter fun t => decide (0 < xM t.e t.n fe fn /\ xM t.e t.n te tn <= 0)
theorem comd_snoc (fe fn te tn : Int) {l : List Tx} {k : Nat} (h : k < l.length) : comd fe fn te tn (l.take (k + 1)) = if 0 < xM l[k].e l[k].n fe fn /\ xM l[k].e l[k].n te tn <= 0 then comd fe fn te tn (l.take k) ++ [l[k]] else comd fe fn te tn (l.take k) := by
 rw [List.take_succ_eq_append_getElem h]
 unfold comd
 rw [List.filter_append]
 by_cases g : 0 < xM l[k].e l[k].n fe fn /\ xM l[k].e l[k].n te tn <= 0
 ·rw [if_pos g,List.filter_cons,if_pos (decide_eq_true g)];simp
 ·rw [if_neg g,List.filter_cons,if_neg (by simpa using g)];simp
theorem comd_len (fe fn te tn : Int) (l : List Tx) : (comd fe fn te tn l).length <= l.length := List.length_filter_le _ _
set_option maxHeartbeats 4000000 in
theorem committed_con (h : Hy) (fe fn te tn : Int) (hk : OkH h) : zG Tryz.prog 51 [.p (.agg h.cells), .p (.agg [I fe, I fn]), .p (.agg [I te, I tn])] (.p (.sl 8 (zA (comd fe fn te tn h.lg)))) := by
 have hlg:=hk.lg
 unfold Hy.cells
 refine zL Tryz.tab Tryz.mixed Tryz.func51 rfl rfl Tryz.ntmps51 (by simp) (by simp) fun Q hr hn=>?_
 repeat' first|(refine hK _ ?_;clear hK)|(refine zU fun K hK=>?_)|(refine zT ?_;simp only [uP,uO,strip])|(refine wOs fun K hK=>?_;simp)|(first | refine zW ?_)|(refine wOn ?_;try simp only [zZ])
 refine wLoopG [.row 7 58 8] (fun N st=>∃ (k : Nat),k + N = h.lg.length /\ st.s 4 = .ptr 4 0 /\ st.b 4 = some (.box 25 [.p (I fe),.p (I fn)]) /\ st.s 5 = .ptr 5 0 /\ st.b 5 = some (.box 25 [.p (I te),.p (I tn)]) /\ st.s 7 = .row 7 /\ st.b 7 = some (.row 58 8 (zA (comd fe fn te tn (h.lg.take k)))) /\ st.s 11 = .p (.sl 8 (zA h.lg)) /\ st.s 12 = .p (I h.lg.length) /\ st.s 13 = .p (I k)) h.lg.length ⟨0,by simp [vT,gh1,comd,zA]⟩ fun K N st hL ⟨k,hkN,g4,b4,g5,b5,g7,b7,gs,gl,gk⟩=>?_
 by_cases hlt : k < h.lg.length
 ·have hlt' : (k : Int) < h.lg.length := by omega
  have hw:=yV k _ hlt (by omega)
  have he:=xI hlt
  have c1:=uT h.lg[k].e h.lg[k].n fe fn
  have c2:=uT h.lg[k].e h.lg[k].n te tn
  have hsn:=comd_snoc fe fn te tn hlt
  have hcl:=comd_len fe fn te tn (h.lg.take k)
  rw [List.length_take] at hcl
  obtain ⟨hp1,hp2⟩:=hk.ps _ (List.getElem_mem hlt)
  have c3:=ownTxn_con h.lg[k] hp1 hp2
  unfold Tx.cells at c3
  have s1:=txns_snoc (comd fe fn te tn (h.lg.take k)) h.lg[k]
  by_cases o1 : 0 < xM h.lg[k].e h.lg[k].n fe fn
  ·by_cases o2 : xM h.lg[k].e h.lg[k].n te tn <= 0
   ·rw [if_pos ⟨o1, o2⟩] at hsn
    generalize comd fe fn te tn (h.lg.take k) = q at *
    have hql:=txns_len q
    repeat' first|(refine And.intro (by (try simp only [hql,List.length_cons,List.length_nil]);omega) ?_)|(refine hK _ ?_;clear hK)|(refine zU fun K hK=>?_)|(refine zT ?_;simp only [uP,uO,strip])|((first | refine wOs fun K hK=>?_ | refine zY ?_ | refine zX ?_);simp [g4,b4,g5,b5,g7,b7,gs,gl,gk,hlt,hlt',hw,o1,o2,s1])|(first | refine zW ?_)|(refine zR ?_;try simp)|(refine wOn ?_;try simp only [zZ])|(refine zQ.pure (c1) rfl ?_)|(refine zQ.pure (c2) rfl ?_)|(refine zQ.pure (c3) rfl ?_)
    refine hL _ (N - 1) (by omega) ⟨k + 1,by omega,?_⟩
    simp [g4,b4,g5,b5,gs,gl,hsn]
   ·rw [if_neg (fun h => o2 h.2)] at hsn
    repeat' first|(refine hK _ ?_;clear hK)|(refine zU fun K hK=>?_)|(refine zT ?_;simp only [uP,uO,strip])|((first | refine wOs fun K hK=>?_ | refine zY ?_ | refine zX ?_);simp [g4,b4,g5,b5,gs,gl,gk,hlt,hlt',hw,o1,o2])|(first | refine zW ?_)|(refine zR ?_;try simp)|(refine wOn ?_;try simp only [zZ])|(refine zQ.pure (c1) rfl ?_)|(refine zQ.pure (c2) rfl ?_)
    refine hL _ (N - 1) (by omega) ⟨k + 1,by omega,?_⟩
    simp [g4,b4,g5,b5,g7,b7,gs,gl,hsn]
  ·rw [if_neg (fun h => o1 h.1)] at hsn
   repeat' first|(refine hK _ ?_;clear hK)|(refine zU fun K hK=>?_)|(refine zT ?_;simp only [uP,uO,strip])|((first | refine wOs fun K hK=>?_ | refine zY ?_ | refine zX ?_);simp [g4,b4,g5,b5,gs,gl,gk,hlt,hlt',hw,o1])|(first | refine zW ?_)|(refine zR ?_;try simp)|(refine wOn ?_;try simp only [zZ])|(refine zQ.pure (c1) rfl ?_)
   refine hL _ (N - 1) (by omega) ⟨k + 1,by omega,?_⟩
   simp [g4,b4,g5,b5,g7,b7,gs,gl,hsn]
 ·have hlt' : ¬ (k : Int) < h.lg.length := by omega
  rw [List.take_of_length_le (by omega)] at b7
  repeat' first|(refine hK _ ?_;clear hK)|(clear hK;refine hK _ ?_;clear hK)|(refine zU fun K hK=>?_)|(refine zT ?_;simp only [uP,uO,strip])|((first | refine wOs fun K hK=>?_ | refine zX ?_);simp [g7,gl,gk,hlt'])|((first | refine zN ?_ | refine zH ?_);try simp)|(refine wOn ?_;try simp only [zZ])
  all_goals apply hr
  all_goals simp [Tryz.f51,b7]
end Go.Proofs.YtffflakmofbilaaGreat
