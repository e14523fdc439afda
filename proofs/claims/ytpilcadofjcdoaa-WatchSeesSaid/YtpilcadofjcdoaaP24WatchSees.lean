/- Texts that the proof needs: PD NA NB NC. -/
import Derived.Test.YtpilcadofjcdoaaP22WatchSees
import Derived.Test.YtpilcadofjcdoaaP23WatchSees
import Derived.Test.YtpilcadofjcdoaaP15WatchSees
namespace Go.Proofs.Ytpilcadofjcdoaa
set_option linter.unusedSimpArgs false
set_option linter.unusedVariables false
open Go Go.Av
attribute [local irreducible] Go.Av.yQ Go.Av.zZ Go.Av.yG Go.Av.zT Go.Av.yH Go.Av.zY Go.Av.Con
theorem name_con (l : List UInt8) (hl : l.length <= 9223372036854775807) : zF Try.prog 50 [.p (SB l)] (.p (SB (nam l))) := by
 have c:=child_con l hl
 unfold nam
 cases h : chd l
 ·rw [h] at c
  rw [if_neg (by simp)]
  refine zG Try.tab Try.mixed Try.func50 rfl rfl Try.ntmps50 (by simp) (by simp) fun Q hr hn=>?_
  repeat' first|(refine hK _ ?_;clear hK)|(refine hK _ _ ?_;clear hK)|(clear hK;refine hK _ ?_;clear hK)|(clear hK;clear hK;refine hK _ ?_;clear hK)|(clear hK;clear hK;clear hK;refine hK _ ?_;clear hK)|(clear hK;clear hK;clear hK;clear hK;refine hK _ ?_;clear hK)|(refine zJ fun K hK=>?_)|((first | refine zH ?_ | refine zN rfl (by kernel_rfl) ?_ | refine zM ?_ | refine zK (by kernel_rfl) ?_);simp only [wJ,wI,strip])|((first | refine wIs fun K hK=>?_ | refine wOs fun K hK=>?_ | refine wQs fun K hK=>?_ | refine zU ?_ | refine zV ?_ | refine zW ?_ | refine zL ?_);simp)|(refine wIn ?_;refine And.intro (by kernel_rfl) ?_;try simp only [zX])|(first | refine zQ ?_ | refine zS ?_)|((first | refine zI ?_ | refine zO ?_ | refine zP ?_);try simp)|((first | refine zR ?_ | refine wOn ?_ | refine wQn ?_);try simp only [zX])|(refine zZ.pure (c) rfl ?_)|(refine zZ.lent (c) rfl ?_)|(refine zT.pure (c) rfl ?_)|(refine zT.lent (c) rfl ?_)|(refine zZ.own (c) ?_)|(refine zY.pure (c) rfl ?_)|(refine zY.lent (c) rfl ?_)|(refine zY.own (c) ?_)
  all_goals apply hr
  all_goals simp [Try.f50]
 ·rw [h] at c
  rw [if_pos rfl]
  simp only [chd,decide_eq_true_eq] at h
  rcases chk_spec h.2 with h1 | ⟨-,R,rfl,hR⟩
  ·exact absurd h1 h.1
  have c2:=lastIx_con (47 :: R) hl rfl
  have hx:=lx_lt (47 :: R) (47 :: R).length (by simp)
  generalize lx (47 :: R) (47 :: R).length = x at c2 hx ⊢
  simp only [List.length_cons] at hx hl
  have hw : IntKind.i64.wrap ((x : Int) + 1) = (x : Int) + 1:=by rw [yW] <;> omega
  have h0 : (0 : Int) <= (x : Int) + 1:=by omega
  have hx' : x <= R.length:=by omega
  refine zG Try.tab Try.mixed Try.func50 rfl rfl Try.ntmps50 (by simp) (by simp) fun Q hr hn=>?_
  repeat' first|(refine hK _ ?_;clear hK)|(refine hK _ _ ?_;clear hK)|(clear hK;refine hK _ ?_;clear hK)|(clear hK;clear hK;refine hK _ ?_;clear hK)|(clear hK;clear hK;clear hK;refine hK _ ?_;clear hK)|(clear hK;clear hK;clear hK;clear hK;refine hK _ ?_;clear hK)|(refine zJ fun K hK=>?_)|((first | refine zH ?_ | refine zN rfl (by kernel_rfl) ?_ | refine zM ?_ | refine zK (by kernel_rfl) ?_);simp only [wJ,wI,strip])|((first | refine wIs fun K hK=>?_ | refine wOs fun K hK=>?_ | refine wQs fun K hK=>?_ | refine zU ?_ | refine zV ?_ | refine zW ?_ | refine zL ?_);simp [hw,h0,hx,hx'])|(refine wIn ?_;refine And.intro (by kernel_rfl) ?_;try simp only [zX])|(first | refine zQ ?_ | refine zS ?_)|((first | refine zI ?_ | refine zO ?_ | refine zP ?_);try simp)|((first | refine zR ?_ | refine wOn ?_ | refine wQn ?_);try simp only [zX])|(refine zZ.pure (c) rfl ?_)|(refine zZ.lent (c) rfl ?_)|(refine zT.pure (c) rfl ?_)|(refine zT.lent (c) rfl ?_)|(refine zZ.own (c) ?_)|(refine zY.pure (c) rfl ?_)|(refine zY.lent (c) rfl ?_)|(refine zY.own (c) ?_)|(refine zZ.pure (c2) rfl ?_)|(refine zZ.lent (c2) rfl ?_)|(refine zT.pure (c2) rfl ?_)|(refine zT.lent (c2) rfl ?_)|(refine zZ.own (c2) ?_)|(refine zY.pure (c2) rfl ?_)|(refine zY.lent (c2) rfl ?_)|(refine zY.own (c2) ?_)
  all_goals apply hr
  all_goals simp [Try.f50]
theorem name03_con (l : List UInt8) (hl : l.length <= 9223372036854775807) : zF Try.prog 52 [.p (SB l)] (.p (SB (nam l))) := by
 have c:=wR l hl
 unfold nam
 by_cases h0 : chk l = 0
 ·rw [h0] at c
  rcases chk_spec h0 with rfl | ⟨h1,R,rfl,hR⟩
  ·try rw [if_neg (by simp [chd])]
   have c2 : zF Try.prog 53 [.p (SB [47])] (.p (I 0)):=last03_con [47] (by simp)
   have w1 : IntKind.i64.wrap 1 = 1:=yW (by omega) (by omega)
   refine zG Try.tab Try.mixed Try.func52 rfl rfl Try.ntmps52 (by simp) (by simp) fun Q hr hn=>?_
   repeat' first|(refine hK _ ?_;clear hK)|(refine hK _ _ ?_;clear hK)|(clear hK;refine hK _ ?_;clear hK)|(clear hK;clear hK;refine hK _ ?_;clear hK)|(clear hK;clear hK;clear hK;refine hK _ ?_;clear hK)|(clear hK;clear hK;clear hK;clear hK;refine hK _ ?_;clear hK)|(refine zJ fun K hK=>?_)|((first | refine zH ?_ | refine zN rfl (by kernel_rfl) ?_ | refine zM ?_ | refine zK (by kernel_rfl) ?_);simp only [wJ,wI,strip])|((first | refine wIs fun K hK=>?_ | refine wOs fun K hK=>?_ | refine wQs fun K hK=>?_ | refine zU ?_ | refine zV ?_ | refine zW ?_ | refine zL ?_);simp [w1])|(refine wIn ?_;refine And.intro (by kernel_rfl) ?_;try simp only [zX])|(first | refine zQ ?_ | refine zS ?_)|((first | refine zI ?_ | refine zO ?_ | refine zP ?_);try simp)|((first | refine zR ?_ | refine wOn ?_ | refine wQn ?_);try simp only [zX])|(refine zZ.pure (c) rfl ?_)|(refine zZ.lent (c) rfl ?_)|(refine zT.pure (c) rfl ?_)|(refine zT.lent (c) rfl ?_)|(refine zZ.own (c) ?_)|(refine zY.pure (c) rfl ?_)|(refine zY.lent (c) rfl ?_)|(refine zY.own (c) ?_)|(refine zZ.pure (c2) rfl ?_)|(refine zZ.lent (c2) rfl ?_)|(refine zT.pure (c2) rfl ?_)|(refine zT.lent (c2) rfl ?_)|(refine zZ.own (c2) ?_)|(refine zY.pure (c2) rfl ?_)|(refine zY.lent (c2) rfl ?_)|(refine zY.own (c2) ?_)
   all_goals apply hr
   all_goals simp [Try.f52]
   all_goals rfl
  ·rw [if_pos (by simp [chd, h0, hR])]
   have c2:=last03_con (47 :: R) hl
   have hx:=lx_lt (47 :: R) (47 :: R).length (by simp)
   generalize lx (47 :: R) (47 :: R).length = x at c2 hx ⊢
   simp only [List.length_cons] at hx hl
   have hw : IntKind.i64.wrap ((x : Int) + 1) = (x : Int) + 1:=by rw [yW] <;> omega
   have h0 : (0 : Int) <= (x : Int) + 1:=by omega
   have hx' : x <= R.length:=by omega
   refine zG Try.tab Try.mixed Try.func52 rfl rfl Try.ntmps52 (by simp) (by simp) fun Q hr hn=>?_
   repeat' first|(refine hK _ ?_;clear hK)|(refine hK _ _ ?_;clear hK)|(clear hK;refine hK _ ?_;clear hK)|(clear hK;clear hK;refine hK _ ?_;clear hK)|(clear hK;clear hK;clear hK;refine hK _ ?_;clear hK)|(clear hK;clear hK;clear hK;clear hK;refine hK _ ?_;clear hK)|(refine zJ fun K hK=>?_)|((first | refine zH ?_ | refine zN rfl (by kernel_rfl) ?_ | refine zM ?_ | refine zK (by kernel_rfl) ?_);simp only [wJ,wI,strip])|((first | refine wIs fun K hK=>?_ | refine wOs fun K hK=>?_ | refine wQs fun K hK=>?_ | refine zU ?_ | refine zV ?_ | refine zW ?_ | refine zL ?_);simp [h1,hR,hw,h0,hx,hx'])|(refine wIn ?_;refine And.intro (by kernel_rfl) ?_;try simp only [zX])|(first | refine zQ ?_ | refine zS ?_)|((first | refine zI ?_ | refine zO ?_ | refine zP ?_);try simp)|((first | refine zR ?_ | refine wOn ?_ | refine wQn ?_);try simp only [zX])|(refine zZ.pure (c) rfl ?_)|(refine zZ.lent (c) rfl ?_)|(refine zT.pure (c) rfl ?_)|(refine zT.lent (c) rfl ?_)|(refine zZ.own (c) ?_)|(refine zY.pure (c) rfl ?_)|(refine zY.lent (c) rfl ?_)|(refine zY.own (c) ?_)|(refine zZ.pure (c2) rfl ?_)|(refine zZ.lent (c2) rfl ?_)|(refine zT.pure (c2) rfl ?_)|(refine zT.lent (c2) rfl ?_)|(refine zZ.own (c2) ?_)|(refine zY.pure (c2) rfl ?_)|(refine zY.lent (c2) rfl ?_)|(refine zY.own (c2) ?_)
   all_goals apply hr
   all_goals simp [Try.f52]
 ·rw [if_neg (by simp [chd, h0])]
  generalize chk l = e at c h0
  refine zG Try.tab Try.mixed Try.func52 rfl rfl Try.ntmps52 (by simp) (by simp) fun Q hr hn=>?_
  repeat' first|(refine hK _ ?_;clear hK)|(refine hK _ _ ?_;clear hK)|(clear hK;refine hK _ ?_;clear hK)|(clear hK;clear hK;refine hK _ ?_;clear hK)|(clear hK;clear hK;clear hK;refine hK _ ?_;clear hK)|(clear hK;clear hK;clear hK;clear hK;refine hK _ ?_;clear hK)|(refine zJ fun K hK=>?_)|((first | refine zH ?_ | refine zN rfl (by kernel_rfl) ?_ | refine zM ?_ | refine zK (by kernel_rfl) ?_);simp only [wJ,wI,strip])|((first | refine wIs fun K hK=>?_ | refine wOs fun K hK=>?_ | refine wQs fun K hK=>?_ | refine zU ?_ | refine zV ?_ | refine zW ?_ | refine zL ?_);simp [h0])|(refine wIn ?_;refine And.intro (by kernel_rfl) ?_;try simp only [zX])|(first | refine zQ ?_ | refine zS ?_)|((first | refine zI ?_ | refine zO ?_ | refine zP ?_);try simp)|((first | refine zR ?_ | refine wOn ?_ | refine wQn ?_);try simp only [zX])|(refine zZ.pure (c) rfl ?_)|(refine zZ.lent (c) rfl ?_)|(refine zT.pure (c) rfl ?_)|(refine zT.lent (c) rfl ?_)|(refine zZ.own (c) ?_)|(refine zY.pure (c) rfl ?_)|(refine zY.lent (c) rfl ?_)|(refine zY.own (c) ?_)
  all_goals apply hr
  all_goals simp [Try.f52]
@[simp] theorem empty_bs : ByteArray.empty = bs [] := rfl
structure Zn where
 (p d : List UInt8)
 (v k o : Int)
 deriving DecidableEq
def Zn.c (z : Zn) : List PV := [SB z.p, SB z.d, I z.v, I z.k, I z.o]
def zns (l : List Zn) : List (List PV) := l.map Zn.c
@[simp] theorem zns_len (l : List Zn) : (zns l).length = l.length := by simp [zns]
@[simp] theorem zns_getElem (l : List Zn) (k : Nat) (h : k < (zns l).length) : (zns l)[k] = [SB (l[k]'(by simpa using h)).p, SB (l[k]'(by simpa using h)).d, I (l[k]'(by simpa using h)).v, I (l[k]'(by simpa using h)).k, I (l[k]'(by simpa using h)).o] := by simp [zns, Zn.c]
theorem zns_get {l : List Zn} {k : Nat} (h : k < l.length) : (zns l)[k]? = some [SB l[k].p, SB l[k].d, I l[k].v, I l[k].k, I l[k].o] := by simp [zns, h, Zn.c]
theorem zns_snoc (l : List Zn) (z : Zn) : zns l ++ [[SB z.p, SB z.d, I z.v, I z.k, I z.o]] = zns (l ++ [z]) := by simp [zns, Zn.c]
theorem zns_take (l : List Zn) (k : Nat) : (zns l).take k = zns (l.take k) := by simp [zns, List.map_take]
theorem zns_drop (l : List Zn) (k : Nat) : (zns l).drop k = zns (l.drop k) := by simp [zns, List.map_drop]
def txs (l : List (List UInt8)) : List (List PV) := l.map fun x => [SB x]
@[simp] theorem txs_len (l : List (List UInt8)) : (txs l).length = l.length := by simp [txs]
@[simp] theorem txs_getElem (l : List (List UInt8)) (k : Nat) (h : k < (txs l).length) : (txs l)[k] = [SB (l[k]'(by simpa using h))] := by simp [txs]
theorem txs_get {l : List (List UInt8)} {k : Nat} (h : k < l.length) : (txs l)[k]? = some [SB l[k]] := by simp [txs, h]
theorem txs_snoc (l : List (List UInt8)) (x : List UInt8) : txs l ++ [[SB x]] = txs (l ++ [x]) := by simp [txs]
theorem take_snocN {α : Type} (l : List α) (k : Nat) (h : k < l.length) : l.take (k + 1) = l.take k ++ [l[k]] := List.take_succ_eq_append_getElem h
def zz : Zn := ⟨[], [], 0, 0, 0⟩
def fnd : List Zn -> List UInt8 -> Zn × Bool
 | [],_=>(zz,false)
 | z :: r,p=>if z.p = p then (z,true) else fnd r p
theorem fnd_step {l : List Zn} {k : Nat} (h : k < l.length) (p : List UInt8) : fnd (l.drop k) p = if l[k].p = p then (l[k], true) else fnd (l.drop (k + 1)) p := by
 rw [List.drop_eq_getElem_cons h];rfl
theorem find_con (l : List Zn) (p : List UInt8) : zF Try.prog 26 [.p (.sl 5 (zns l)), .p (SB p)] (.tup [.p (.agg (fnd l p).1.c), .p (B (fnd l p).2)]) := by
 refine zF.len ⟨Try.f26,Try.func26,rfl,rfl⟩ 0 _ _ rfl fun hlen=>?_
 simp only [zns_len] at hlen
 refine zG Try.tab Try.mixed Try.func26 rfl rfl Try.ntmps26 (by simp) (by simp) fun Q hr hn=>?_
 repeat' first|(refine hK _ ?_;clear hK)|(refine hK _ _ ?_;clear hK)|(clear hK;refine hK _ ?_;clear hK)|(clear hK;clear hK;refine hK _ ?_;clear hK)|(clear hK;clear hK;clear hK;refine hK _ ?_;clear hK)|(clear hK;clear hK;clear hK;clear hK;refine hK _ ?_;clear hK)|(refine zJ fun K hK=>?_)|((first | refine zH ?_ | refine zN rfl (by kernel_rfl) ?_ | refine zM ?_ | refine zK (by kernel_rfl) ?_);simp only [wJ,wI,strip])|((first | refine wIs fun K hK=>?_ | refine wOs fun K hK=>?_ | refine wQs fun K hK=>?_ | refine zU ?_ | refine zV ?_ | refine zW ?_ | refine zL ?_);simp)|(refine wIn ?_;refine And.intro (by kernel_rfl) ?_;try simp only [zX])|(first | refine zQ ?_ | refine zS ?_)|((first | refine zI ?_ | refine zO ?_ | refine zP ?_);try simp)|((first | refine zR ?_ | refine wOn ?_ | refine wQn ?_);try simp only [zX])
 refine xS (fun N st=>∃ k,k + N = l.length /\ st.s 1 = .p (SB p) /\ st.s 8 = .p (.sl 5 (zns l)) /\ st.s 9 = .p (I l.length) /\ st.s 10 = .p (I k) /\ st.s 4 = .ptr 4 0 /\ st.b 4 = some (.box 48 [.p (SB []),.p (SB []),.p (I 0),.p (I 0),.p (I 0)]) /\ fnd l p = fnd (l.drop k) p) l.length ⟨0,by simp⟩ fun K N st hL ⟨k,hk,g1,g8,g9,g10,g4,b4,hi⟩=>?_
 by_cases hlt : k < l.length
 ·have hw := xY k _ hlt hlen
  have he:=zns_get hlt
  rw [fnd_step hlt] at hi
  by_cases o : l[k].p = p
  ·rw [if_pos o] at hi
   rw [hi] at hr
   repeat' first|(refine hK _ ?_;clear hK)|(refine hK _ _ ?_;clear hK)|(clear hK;refine hK _ ?_;clear hK)|(clear hK;clear hK;refine hK _ ?_;clear hK)|(clear hK;clear hK;clear hK;refine hK _ ?_;clear hK)|(clear hK;clear hK;clear hK;clear hK;refine hK _ ?_;clear hK)|(refine zJ fun K hK=>?_)|((first | refine zH ?_ | refine zN rfl (by kernel_rfl) ?_ | refine zM ?_ | refine zK (by kernel_rfl) ?_);simp only [wJ,wI,strip])|((first | refine wIs fun K hK=>?_ | refine wOs fun K hK=>?_ | refine wQs fun K hK=>?_ | refine zU ?_ | refine zV ?_ | refine zW ?_ | refine zL ?_);simp [g1,g8,g9,g10,g4,b4,hlt,hw,he,o])|(refine wIn ?_;refine And.intro (by kernel_rfl) ?_;try simp only [zX])|(first | refine zQ ?_ | refine zS ?_)|((first | refine zI ?_ | refine zO ?_ | refine zP ?_);try simp)|((first | refine zR ?_ | refine wOn ?_ | refine wQn ?_);try simp only [zX])
   all_goals apply hr
   all_goals simp [Try.f26,Zn.c,g4,b4,o]
  ·rw [if_neg o] at hi
   repeat' first|(refine hK _ ?_;clear hK)|(refine hK _ _ ?_;clear hK)|(clear hK;refine hK _ ?_;clear hK)|(clear hK;clear hK;refine hK _ ?_;clear hK)|(clear hK;clear hK;clear hK;refine hK _ ?_;clear hK)|(clear hK;clear hK;clear hK;clear hK;refine hK _ ?_;clear hK)|(refine zJ fun K hK=>?_)|((first | refine zH ?_ | refine zN rfl (by kernel_rfl) ?_ | refine zM ?_ | refine zK (by kernel_rfl) ?_);simp only [wJ,wI,strip])|((first | refine wIs fun K hK=>?_ | refine wOs fun K hK=>?_ | refine wQs fun K hK=>?_ | refine zU ?_ | refine zV ?_ | refine zW ?_ | refine zL ?_);simp [g1,g8,g9,g10,g4,b4,hlt,hw,he,o])|(refine wIn ?_;refine And.intro (by kernel_rfl) ?_;try simp only [zX])|(first | refine zQ ?_ | refine zS ?_)|((first | refine zI ?_ | refine zO ?_ | refine zP ?_);try simp)|((first | refine zR ?_ | refine wOn ?_ | refine wQn ?_);try simp only [zX])
   refine hL _ (N - 1) (by omega) ⟨k + 1,by omega,?_⟩
   simp [g1,g8,g9,g10,g4,b4,hw,hi]
 ·have hd : l.drop k = [] := List.drop_of_length_le (by omega)
  rw [hd] at hi
  rw [hi] at hr
  repeat' first|(refine hK _ ?_;clear hK)|(refine hK _ _ ?_;clear hK)|(clear hK;refine hK _ ?_;clear hK)|(clear hK;clear hK;refine hK _ ?_;clear hK)|(clear hK;clear hK;clear hK;refine hK _ ?_;clear hK)|(clear hK;clear hK;clear hK;clear hK;refine hK _ ?_;clear hK)|(refine zJ fun K hK=>?_)|((first | refine zH ?_ | refine zN rfl (by kernel_rfl) ?_ | refine zM ?_ | refine zK (by kernel_rfl) ?_);simp only [wJ,wI,strip])|((first | refine wIs fun K hK=>?_ | refine wOs fun K hK=>?_ | refine wQs fun K hK=>?_ | refine zU ?_ | refine zV ?_ | refine zW ?_ | refine zL ?_);simp [g1,g8,g9,g10,g4,b4,hlt])|(refine wIn ?_;refine And.intro (by kernel_rfl) ?_;try simp only [zX])|(first | refine zQ ?_ | refine zS ?_)|((first | refine zI ?_ | refine zO ?_ | refine zP ?_);try simp)|((first | refine zR ?_ | refine wOn ?_ | refine wQn ?_);try simp only [zX])
  all_goals apply hr
  all_goals simp [Try.f26,Zn.c,fnd,zz,g4,b4]
theorem find07_con (l : List Zn) (p : List UInt8) : zF Try.prog 30 [.p (.sl 5 (zns l)), .p (SB p)] (.tup [.p (.agg (fnd l p).1.c), .p (B (fnd l p).2)]) := by
 refine zF.len ⟨Try.f30,Try.func30,rfl,rfl⟩ 0 _ _ rfl fun hlen=>?_
 simp only [zns_len] at hlen
 refine zG Try.tab Try.mixed Try.func30 rfl rfl Try.ntmps30 (by simp) (by simp) fun Q hr hn=>?_
 repeat' first|(refine hK _ ?_;clear hK)|(refine hK _ _ ?_;clear hK)|(clear hK;refine hK _ ?_;clear hK)|(clear hK;clear hK;refine hK _ ?_;clear hK)|(clear hK;clear hK;clear hK;refine hK _ ?_;clear hK)|(clear hK;clear hK;clear hK;clear hK;refine hK _ ?_;clear hK)|(refine zJ fun K hK=>?_)|((first | refine zH ?_ | refine zN rfl (by kernel_rfl) ?_ | refine zM ?_ | refine zK (by kernel_rfl) ?_);simp only [wJ,wI,strip])|((first | refine wIs fun K hK=>?_ | refine wOs fun K hK=>?_ | refine wQs fun K hK=>?_ | refine zU ?_ | refine zV ?_ | refine zW ?_ | refine zL ?_);simp)|(refine wIn ?_;refine And.intro (by kernel_rfl) ?_;try simp only [zX])|(first | refine zQ ?_ | refine zS ?_)|((first | refine zI ?_ | refine zO ?_ | refine zP ?_);try simp)|((first | refine zR ?_ | refine wOn ?_ | refine wQn ?_);try simp only [zX])
 refine xS (fun N st=>∃ k,k + N = l.length /\ st.s 1 = .p (SB p) /\ st.s 8 = .p (.sl 5 (zns l)) /\ st.s 9 = .p (I l.length) /\ st.s 10 = .p (I k) /\ st.s 4 = .ptr 4 0 /\ st.b 4 = some (.box 48 [.p (SB []),.p (SB []),.p (I 0),.p (I 0),.p (I 0)]) /\ fnd l p = fnd (l.drop k) p) l.length ⟨0,by simp⟩ fun K N st hL ⟨k,hk,g1,g8,g9,g10,g4,b4,hi⟩=>?_
 by_cases hlt : k < l.length
 ·have hw := xY k _ hlt hlen
  have he:=zns_get hlt
  rw [fnd_step hlt] at hi
  by_cases o : l[k].p = p
  ·rw [if_pos o] at hi
   rw [hi] at hr
   repeat' first|(refine hK _ ?_;clear hK)|(refine hK _ _ ?_;clear hK)|(clear hK;refine hK _ ?_;clear hK)|(clear hK;clear hK;refine hK _ ?_;clear hK)|(clear hK;clear hK;clear hK;refine hK _ ?_;clear hK)|(clear hK;clear hK;clear hK;clear hK;refine hK _ ?_;clear hK)|(refine zJ fun K hK=>?_)|((first | refine zH ?_ | refine zN rfl (by kernel_rfl) ?_ | refine zM ?_ | refine zK (by kernel_rfl) ?_);simp only [wJ,wI,strip])|((first | refine wIs fun K hK=>?_ | refine wOs fun K hK=>?_ | refine wQs fun K hK=>?_ | refine zU ?_ | refine zV ?_ | refine zW ?_ | refine zL ?_);simp [g1,g8,g9,g10,g4,b4,hlt,hw,he,o])|(refine wIn ?_;refine And.intro (by kernel_rfl) ?_;try simp only [zX])|(first | refine zQ ?_ | refine zS ?_)|((first | refine zI ?_ | refine zO ?_ | refine zP ?_);try simp)|((first | refine zR ?_ | refine wOn ?_ | refine wQn ?_);try simp only [zX])
   all_goals apply hr
   all_goals simp [Try.f30,Zn.c,g4,b4,o]
  ·rw [if_neg o] at hi
   repeat' first|(refine hK _ ?_;clear hK)|(refine hK _ _ ?_;clear hK)|(clear hK;refine hK _ ?_;clear hK)|(clear hK;clear hK;refine hK _ ?_;clear hK)|(clear hK;clear hK;clear hK;refine hK _ ?_;clear hK)|(clear hK;clear hK;clear hK;clear hK;refine hK _ ?_;clear hK)|(refine zJ fun K hK=>?_)|((first | refine zH ?_ | refine zN rfl (by kernel_rfl) ?_ | refine zM ?_ | refine zK (by kernel_rfl) ?_);simp only [wJ,wI,strip])|((first | refine wIs fun K hK=>?_ | refine wOs fun K hK=>?_ | refine wQs fun K hK=>?_ | refine zU ?_ | refine zV ?_ | refine zW ?_ | refine zL ?_);simp [g1,g8,g9,g10,g4,b4,hlt,hw,he,o])|(refine wIn ?_;refine And.intro (by kernel_rfl) ?_;try simp only [zX])|(first | refine zQ ?_ | refine zS ?_)|((first | refine zI ?_ | refine zO ?_ | refine zP ?_);try simp)|((first | refine zR ?_ | refine wOn ?_ | refine wQn ?_);try simp only [zX])
   refine hL _ (N - 1) (by omega) ⟨k + 1,by omega,?_⟩
   simp [g1,g8,g9,g10,g4,b4,hw,hi]
 ·have hd : l.drop k = [] := List.drop_of_length_le (by omega)
  rw [hd] at hi
  rw [hi] at hr
  repeat' first|(refine hK _ ?_;clear hK)|(refine hK _ _ ?_;clear hK)|(clear hK;refine hK _ ?_;clear hK)|(clear hK;clear hK;refine hK _ ?_;clear hK)|(clear hK;clear hK;clear hK;refine hK _ ?_;clear hK)|(clear hK;clear hK;clear hK;clear hK;refine hK _ ?_;clear hK)|(refine zJ fun K hK=>?_)|((first | refine zH ?_ | refine zN rfl (by kernel_rfl) ?_ | refine zM ?_ | refine zK (by kernel_rfl) ?_);simp only [wJ,wI,strip])|((first | refine wIs fun K hK=>?_ | refine wOs fun K hK=>?_ | refine wQs fun K hK=>?_ | refine zU ?_ | refine zV ?_ | refine zW ?_ | refine zL ?_);simp [g1,g8,g9,g10,g4,b4,hlt])|(refine wIn ?_;refine And.intro (by kernel_rfl) ?_;try simp only [zX])|(first | refine zQ ?_ | refine zS ?_)|((first | refine zI ?_ | refine zO ?_ | refine zP ?_);try simp)|((first | refine zR ?_ | refine wOn ?_ | refine wQn ?_);try simp only [zX])
  all_goals apply hr
  all_goals simp [Try.f30,Zn.c,fnd,zz,g4,b4]
def par (l : List UInt8) : List UInt8 × Bool := if chd l = true then (l.take (max (lx l l.length) 1), true) else ([], false)
theorem parV_par (l : List UInt8) : parV l = .tup [.p (SB (par l).1), .p (B (par l).2)] := by
 unfold parV par;split <;> rfl
def isk (p : List UInt8) (z : Zn) : Bool := (par z.p).2 && decide ((par z.p).1 = p)
def kds (l : List Zn) (p : List UInt8) : List (List UInt8) := (l.filter (isk p)).map fun z => nam z.p
theorem kds_snoc {l : List Zn} {k : Nat} (h : k < l.length) (p : List UInt8) : kds (l.take (k + 1)) p = if isk p l[k] = true then kds (l.take k) p ++ [nam l[k].p] else kds (l.take k) p := by
 unfold kds
 rw [take_snocN _ k h,List.filter_append]
 cases g : isk p l[k] <;> simp [g]
theorem kds_len (l : List Zn) (p : List UInt8) (k : Nat) : (kds (l.take k) p).length <= k := by
 unfold kds;rw [List.length_map]
 exact Nat.le_trans (List.length_filter_le _ _) (by simp;omega)
def long (z : Zn) : Prop := z.p.length <= 9223372036854775807 /\ z.d.length <= 9223372036854775807
theorem kids_con (l : List Zn) (p : List UInt8) (hl : l.length <= 1000000) (hz : ∀ z ∈ l, long z) : zF Try.prog 28 [.p (.sl 5 (zns l)), .p (SB p)] (.p (.sl 1 (txs (kds l p)))) := by
 refine zG Try.tab Try.mixed Try.func28 rfl rfl Try.ntmps28 (by simp) (by simp) fun Q hr hn=>?_
 repeat' first|(refine hK _ ?_;clear hK)|(refine hK _ _ ?_;clear hK)|(clear hK;refine hK _ ?_;clear hK)|(clear hK;clear hK;refine hK _ ?_;clear hK)|(clear hK;clear hK;clear hK;refine hK _ ?_;clear hK)|(clear hK;clear hK;clear hK;clear hK;refine hK _ ?_;clear hK)|(refine zJ fun K hK=>?_)|((first | refine zH ?_ | refine zN rfl (by kernel_rfl) ?_ | refine zM ?_ | refine zK (by kernel_rfl) ?_);simp only [wJ,wI,strip])|((first | refine wIs fun K hK=>?_ | refine wOs fun K hK=>?_ | refine wQs fun K hK=>?_ | refine zU ?_ | refine zV ?_ | refine zW ?_ | refine zL ?_);simp)|(refine wIn ?_;refine And.intro (by kernel_rfl) ?_;try simp only [zX])|(first | refine zQ ?_ | refine zS ?_)|((first | refine zI ?_ | refine zO ?_ | refine zP ?_);try simp)|((first | refine zR ?_ | refine wOn ?_ | refine wQn ?_);try simp only [zX])
 refine wLoopG [.row 5 9 1] (fun N st=>∃ k,k + N = l.length /\ st.s 1 = .p (SB p) /\ st.s 10 = .p (.sl 5 (zns l)) /\ st.s 11 = .p (I l.length) /\ st.s 12 = .p (I k) /\ st.s 5 = .row 5 /\ st.b 5 = some (.row 9 1 (txs (kds (l.take k) p)))) l.length ⟨0,by simp [kds,txs]⟩ fun K N st hL ⟨k,hk,g1,g10,g11,g12,g5,b5⟩=>?_
 have hkl:=kds_len l p k
 by_cases hlt : k < l.length
 ·have hw := xY k _ hlt (by omega)
  have he:=zns_get hlt
  have hs:=kds_snoc hlt p
  have hzk:=(hz l[k] (List.getElem_mem hlt)).1
  have c:=parent_con l[k].p hzk
  rw [parV_par] at c
  have c2:=name_con l[k].p hzk
  have hb : isk p l[k] = ((par l[k].p).2 && decide ((par l[k].p).1 = p)):=rfl
  generalize par l[k].p = q at c hb
  obtain ⟨q,b⟩:=q
  dsimp only at c hb
  have hx:=txs_snoc (kds (l.take k) p) (nam l[k].p)
  cases b
  ·rw [show isk p l[k] = false from hb, if_neg (by simp)] at hs
   repeat' first|(refine hK _ ?_;clear hK)|(refine hK _ _ ?_;clear hK)|(clear hK;refine hK _ ?_;clear hK)|(clear hK;clear hK;refine hK _ ?_;clear hK)|(clear hK;clear hK;clear hK;refine hK _ ?_;clear hK)|(clear hK;clear hK;clear hK;clear hK;refine hK _ ?_;clear hK)|(refine zJ fun K hK=>?_)|((first | refine zH ?_ | refine zN rfl (by kernel_rfl) ?_ | refine zM ?_ | refine zK (by kernel_rfl) ?_);simp only [wJ,wI,strip])|((first | refine wIs fun K hK=>?_ | refine wOs fun K hK=>?_ | refine wQs fun K hK=>?_ | refine zU ?_ | refine zV ?_ | refine zW ?_ | refine zL ?_);simp [g1,g10,g11,g12,g5,b5,hlt,hw,he])|(refine wIn ?_;refine And.intro (by kernel_rfl) ?_;try simp only [zX])|(first | refine zQ ?_ | refine zS ?_)|((first | refine zI ?_ | refine zO ?_ | refine zP ?_);try simp)|((first | refine zR ?_ | refine wOn ?_ | refine wQn ?_);try simp only [zX])|(refine zZ.pure (c) rfl ?_)|(refine zZ.lent (c) rfl ?_)|(refine zT.pure (c) rfl ?_)|(refine zT.lent (c) rfl ?_)|(refine zZ.own (c) ?_)|(refine zY.pure (c) rfl ?_)|(refine zY.lent (c) rfl ?_)|(refine zY.own (c) ?_)
   refine hL _ (N - 1) (by omega) ⟨k + 1,by omega,?_⟩
   simp [g1,g10,g11,g12,g5,b5,hw,hs]
  ·by_cases o : q = p
   ·rw [hb, if_pos (by simp [o])] at hs
    rw [<- hs] at hx
    repeat' first|(refine And.intro (by (try simp at hkl ⊢);omega) ?_)|(refine zZ.pure (c) rfl ?_)|(refine zZ.lent (c) rfl ?_)|(refine zT.pure (c) rfl ?_)|(refine zT.lent (c) rfl ?_)|(refine zZ.own (c) ?_)|(refine zY.pure (c) rfl ?_)|(refine zY.lent (c) rfl ?_)|(refine zY.own (c) ?_)|(refine zZ.pure (c2) rfl ?_)|(refine zZ.lent (c2) rfl ?_)|(refine zT.pure (c2) rfl ?_)|(refine zT.lent (c2) rfl ?_)|(refine zZ.own (c2) ?_)|(refine zY.pure (c2) rfl ?_)|(refine zY.lent (c2) rfl ?_)|(refine zY.own (c2) ?_)|(refine hK _ ?_;clear hK)|(refine hK _ _ ?_;clear hK)|(clear hK;refine hK _ ?_;clear hK)|(clear hK;clear hK;refine hK _ ?_;clear hK)|(clear hK;clear hK;clear hK;refine hK _ ?_;clear hK)|(clear hK;clear hK;clear hK;clear hK;refine hK _ ?_;clear hK)|(refine zJ fun K hK=>?_)|((first | refine zH ?_ | refine zN rfl (by kernel_rfl) ?_ | refine zM ?_ | refine zK (by kernel_rfl) ?_);simp only [wJ,wI,strip])|((first | refine wIs fun K hK=>?_ | refine wOs fun K hK=>?_ | refine wQs fun K hK=>?_ | refine zU ?_ | refine zV ?_ | refine zW ?_ | refine zL ?_);simp [g1,g10,g11,g12,g5,b5,hlt,hw,he,o])|(refine wIn ?_;refine And.intro (by kernel_rfl) ?_;try simp only [zX])|(first | refine zQ ?_ | refine zS ?_)|((first | refine zI ?_ | refine zO ?_ | refine zP ?_);try simp)|((first | refine zR ?_ | refine wOn ?_ | refine wQn ?_);try simp only [zX])
    refine hL _ (N - 1) (by omega) ⟨k + 1,by omega,?_⟩
    simp [g1,g10,g11,g12,g5,b5,hw,hx]
   ·rw [hb, if_neg (by simp [o])] at hs
    repeat' first|(refine hK _ ?_;clear hK)|(refine hK _ _ ?_;clear hK)|(clear hK;refine hK _ ?_;clear hK)|(clear hK;clear hK;refine hK _ ?_;clear hK)|(clear hK;clear hK;clear hK;refine hK _ ?_;clear hK)|(clear hK;clear hK;clear hK;clear hK;refine hK _ ?_;clear hK)|(refine zJ fun K hK=>?_)|((first | refine zH ?_ | refine zN rfl (by kernel_rfl) ?_ | refine zM ?_ | refine zK (by kernel_rfl) ?_);simp only [wJ,wI,strip])|((first | refine wIs fun K hK=>?_ | refine wOs fun K hK=>?_ | refine wQs fun K hK=>?_ | refine zU ?_ | refine zV ?_ | refine zW ?_ | refine zL ?_);simp [g1,g10,g11,g12,g5,b5,hlt,hw,he,o])|(refine wIn ?_;refine And.intro (by kernel_rfl) ?_;try simp only [zX])|(first | refine zQ ?_ | refine zS ?_)|((first | refine zI ?_ | refine zO ?_ | refine zP ?_);try simp)|((first | refine zR ?_ | refine wOn ?_ | refine wQn ?_);try simp only [zX])|(refine zZ.pure (c) rfl ?_)|(refine zZ.lent (c) rfl ?_)|(refine zT.pure (c) rfl ?_)|(refine zT.lent (c) rfl ?_)|(refine zZ.own (c) ?_)|(refine zY.pure (c) rfl ?_)|(refine zY.lent (c) rfl ?_)|(refine zY.own (c) ?_)
    refine hL _ (N - 1) (by omega) ⟨k + 1,by omega,?_⟩
    simp [g1,g10,g11,g12,g5,b5,hw,hs,o]
 ·rw [List.take_of_length_le (by omega)] at b5
  repeat' first|(refine hK _ ?_;clear hK)|(refine hK _ _ ?_;clear hK)|(clear hK;refine hK _ ?_;clear hK)|(clear hK;clear hK;refine hK _ ?_;clear hK)|(clear hK;clear hK;clear hK;refine hK _ ?_;clear hK)|(clear hK;clear hK;clear hK;clear hK;refine hK _ ?_;clear hK)|(refine zJ fun K hK=>?_)|((first | refine zH ?_ | refine zN rfl (by kernel_rfl) ?_ | refine zM ?_ | refine zK (by kernel_rfl) ?_);simp only [wJ,wI,strip])|((first | refine wIs fun K hK=>?_ | refine wOs fun K hK=>?_ | refine wQs fun K hK=>?_ | refine zU ?_ | refine zV ?_ | refine zW ?_ | refine zL ?_);simp [g1,g10,g11,g12,g5,b5,hlt])|(refine wIn ?_;refine And.intro (by kernel_rfl) ?_;try simp only [zX])|(first | refine zQ ?_ | refine zS ?_)|((first | refine zI ?_ | refine zO ?_ | refine zP ?_);try simp)|((first | refine zR ?_ | refine wOn ?_ | refine wQn ?_);try simp only [zX])
  all_goals apply hr
  all_goals simp [Try.f28,g5,b5]
theorem kids07_con (l : List Zn) (p : List UInt8) (hl : l.length <= 1000000) (hz : ∀ z ∈ l, long z) : zF Try.prog 31 [.p (.sl 5 (zns l)), .p (SB p)] (.p (.sl 1 (txs (kds l p)))) := by
 refine zG Try.tab Try.mixed Try.func31 rfl rfl Try.ntmps31 (by simp) (by simp) fun Q hr hn=>?_
 repeat' first|(refine hK _ ?_;clear hK)|(refine hK _ _ ?_;clear hK)|(clear hK;refine hK _ ?_;clear hK)|(clear hK;clear hK;refine hK _ ?_;clear hK)|(clear hK;clear hK;clear hK;refine hK _ ?_;clear hK)|(clear hK;clear hK;clear hK;clear hK;refine hK _ ?_;clear hK)|(refine zJ fun K hK=>?_)|((first | refine zH ?_ | refine zN rfl (by kernel_rfl) ?_ | refine zM ?_ | refine zK (by kernel_rfl) ?_);simp only [wJ,wI,strip])|((first | refine wIs fun K hK=>?_ | refine wOs fun K hK=>?_ | refine wQs fun K hK=>?_ | refine zU ?_ | refine zV ?_ | refine zW ?_ | refine zL ?_);simp)|(refine wIn ?_;refine And.intro (by kernel_rfl) ?_;try simp only [zX])|(first | refine zQ ?_ | refine zS ?_)|((first | refine zI ?_ | refine zO ?_ | refine zP ?_);try simp)|((first | refine zR ?_ | refine wOn ?_ | refine wQn ?_);try simp only [zX])
 refine wLoopG [.row 5 9 1] (fun N st=>∃ k,k + N = l.length /\ st.s 1 = .p (SB p) /\ st.s 10 = .p (.sl 5 (zns l)) /\ st.s 11 = .p (I l.length) /\ st.s 12 = .p (I k) /\ st.s 5 = .row 5 /\ st.b 5 = some (.row 9 1 (txs (kds (l.take k) p)))) l.length ⟨0,by simp [kds,txs]⟩ fun K N st hL ⟨k,hk,g1,g10,g11,g12,g5,b5⟩=>?_
 have hkl:=kds_len l p k
 by_cases hlt : k < l.length
 ·have hw := xY k _ hlt (by omega)
  have he:=zns_get hlt
  have hs:=kds_snoc hlt p
  have hzk:=(hz l[k] (List.getElem_mem hlt)).1
  have c:=xC l[k].p hzk
  rw [parV_par] at c
  have c2:=name03_con l[k].p hzk
  have hb : isk p l[k] = ((par l[k].p).2 && decide ((par l[k].p).1 = p)):=rfl
  generalize par l[k].p = q at c hb
  obtain ⟨q,b⟩:=q
  dsimp only at c hb
  have hx:=txs_snoc (kds (l.take k) p) (nam l[k].p)
  cases b
  ·rw [show isk p l[k] = false from hb, if_neg (by simp)] at hs
   repeat' first|(refine hK _ ?_;clear hK)|(refine hK _ _ ?_;clear hK)|(clear hK;refine hK _ ?_;clear hK)|(clear hK;clear hK;refine hK _ ?_;clear hK)|(clear hK;clear hK;clear hK;refine hK _ ?_;clear hK)|(clear hK;clear hK;clear hK;clear hK;refine hK _ ?_;clear hK)|(refine zJ fun K hK=>?_)|((first | refine zH ?_ | refine zN rfl (by kernel_rfl) ?_ | refine zM ?_ | refine zK (by kernel_rfl) ?_);simp only [wJ,wI,strip])|((first | refine wIs fun K hK=>?_ | refine wOs fun K hK=>?_ | refine wQs fun K hK=>?_ | refine zU ?_ | refine zV ?_ | refine zW ?_ | refine zL ?_);simp [g1,g10,g11,g12,g5,b5,hlt,hw,he])|(refine wIn ?_;refine And.intro (by kernel_rfl) ?_;try simp only [zX])|(first | refine zQ ?_ | refine zS ?_)|((first | refine zI ?_ | refine zO ?_ | refine zP ?_);try simp)|((first | refine zR ?_ | refine wOn ?_ | refine wQn ?_);try simp only [zX])|(refine zZ.pure (c) rfl ?_)|(refine zZ.lent (c) rfl ?_)|(refine zT.pure (c) rfl ?_)|(refine zT.lent (c) rfl ?_)|(refine zZ.own (c) ?_)|(refine zY.pure (c) rfl ?_)|(refine zY.lent (c) rfl ?_)|(refine zY.own (c) ?_)
   refine hL _ (N - 1) (by omega) ⟨k + 1,by omega,?_⟩
   simp [g1,g10,g11,g12,g5,b5,hw,hs]
  ·by_cases o : q = p
   ·rw [hb, if_pos (by simp [o])] at hs
    rw [<- hs] at hx
    repeat' first|(refine And.intro (by (try simp at hkl ⊢);omega) ?_)|(refine zZ.pure (c) rfl ?_)|(refine zZ.lent (c) rfl ?_)|(refine zT.pure (c) rfl ?_)|(refine zT.lent (c) rfl ?_)|(refine zZ.own (c) ?_)|(refine zY.pure (c) rfl ?_)|(refine zY.lent (c) rfl ?_)|(refine zY.own (c) ?_)|(refine zZ.pure (c2) rfl ?_)|(refine zZ.lent (c2) rfl ?_)|(refine zT.pure (c2) rfl ?_)|(refine zT.lent (c2) rfl ?_)|(refine zZ.own (c2) ?_)|(refine zY.pure (c2) rfl ?_)|(refine zY.lent (c2) rfl ?_)|(refine zY.own (c2) ?_)|(refine hK _ ?_;clear hK)|(refine hK _ _ ?_;clear hK)|(clear hK;refine hK _ ?_;clear hK)|(clear hK;clear hK;refine hK _ ?_;clear hK)|(clear hK;clear hK;clear hK;refine hK _ ?_;clear hK)|(clear hK;clear hK;clear hK;clear hK;refine hK _ ?_;clear hK)|(refine zJ fun K hK=>?_)|((first | refine zH ?_ | refine zN rfl (by kernel_rfl) ?_ | refine zM ?_ | refine zK (by kernel_rfl) ?_);simp only [wJ,wI,strip])|((first | refine wIs fun K hK=>?_ | refine wOs fun K hK=>?_ | refine wQs fun K hK=>?_ | refine zU ?_ | refine zV ?_ | refine zW ?_ | refine zL ?_);simp [g1,g10,g11,g12,g5,b5,hlt,hw,he,o])|(refine wIn ?_;refine And.intro (by kernel_rfl) ?_;try simp only [zX])|(first | refine zQ ?_ | refine zS ?_)|((first | refine zI ?_ | refine zO ?_ | refine zP ?_);try simp)|((first | refine zR ?_ | refine wOn ?_ | refine wQn ?_);try simp only [zX])
    refine hL _ (N - 1) (by omega) ⟨k + 1,by omega,?_⟩
    simp [g1,g10,g11,g12,g5,b5,hw,hx]
   ·rw [hb, if_neg (by simp [o])] at hs
    repeat' first|(refine hK _ ?_;clear hK)|(refine hK _ _ ?_;clear hK)|(clear hK;refine hK _ ?_;clear hK)|(clear hK;clear hK;refine hK _ ?_;clear hK)|(clear hK;clear hK;clear hK;refine hK _ ?_;clear hK)|(clear hK;clear hK;clear hK;clear hK;refine hK _ ?_;clear hK)|(refine zJ fun K hK=>?_)|((first | refine zH ?_ | refine zN rfl (by kernel_rfl) ?_ | refine zM ?_ | refine zK (by kernel_rfl) ?_);simp only [wJ,wI,strip])|((first | refine wIs fun K hK=>?_ | refine wOs fun K hK=>?_ | refine wQs fun K hK=>?_ | refine zU ?_ | refine zV ?_ | refine zW ?_ | refine zL ?_);simp [g1,g10,g11,g12,g5,b5,hlt,hw,he,o])|(refine wIn ?_;refine And.intro (by kernel_rfl) ?_;try simp only [zX])|(first | refine zQ ?_ | refine zS ?_)|((first | refine zI ?_ | refine zO ?_ | refine zP ?_);try simp)|((first | refine zR ?_ | refine wOn ?_ | refine wQn ?_);try simp only [zX])|(refine zZ.pure (c) rfl ?_)|(refine zZ.lent (c) rfl ?_)|(refine zT.pure (c) rfl ?_)|(refine zT.lent (c) rfl ?_)|(refine zZ.own (c) ?_)|(refine zY.pure (c) rfl ?_)|(refine zY.lent (c) rfl ?_)|(refine zY.own (c) ?_)
    refine hL _ (N - 1) (by omega) ⟨k + 1,by omega,?_⟩
    simp [g1,g10,g11,g12,g5,b5,hw,hs,o]
 ·rw [List.take_of_length_le (by omega)] at b5
  repeat' first|(refine hK _ ?_;clear hK)|(refine hK _ _ ?_;clear hK)|(clear hK;refine hK _ ?_;clear hK)|(clear hK;clear hK;refine hK _ ?_;clear hK)|(clear hK;clear hK;clear hK;refine hK _ ?_;clear hK)|(clear hK;clear hK;clear hK;clear hK;refine hK _ ?_;clear hK)|(refine zJ fun K hK=>?_)|((first | refine zH ?_ | refine zN rfl (by kernel_rfl) ?_ | refine zM ?_ | refine zK (by kernel_rfl) ?_);simp only [wJ,wI,strip])|((first | refine wIs fun K hK=>?_ | refine wOs fun K hK=>?_ | refine wQs fun K hK=>?_ | refine zU ?_ | refine zV ?_ | refine zW ?_ | refine zL ?_);simp [g1,g10,g11,g12,g5,b5,hlt])|(refine wIn ?_;refine And.intro (by kernel_rfl) ?_;try simp only [zX])|(first | refine zQ ?_ | refine zS ?_)|((first | refine zI ?_ | refine zO ?_ | refine zP ?_);try simp)|((first | refine zR ?_ | refine wOn ?_ | refine wQn ?_);try simp only [zX])
  all_goals apply hr
  all_goals simp [Try.f31,g5,b5]
theorem texts_con (a b : List (List UInt8)) : zF Try.prog 11 [.p (.sl 1 (txs a)), .p (.sl 1 (txs b))] (.p (B (decide (a = b)))) := by
 refine zF.len ⟨Try.f11,Try.func11,rfl,rfl⟩ 0 _ _ rfl fun hlen=>?_
 simp only [txs_len] at hlen
 by_cases hl : a.length = b.length
 ·refine zG Try.tab Try.mixed Try.func11 rfl rfl Try.ntmps11 (by simp) (by simp) fun Q hr hn => ?_
  repeat' first|(refine hK _ ?_;clear hK)|(refine hK _ _ ?_;clear hK)|(clear hK;refine hK _ ?_;clear hK)|(clear hK;clear hK;refine hK _ ?_;clear hK)|(clear hK;clear hK;clear hK;refine hK _ ?_;clear hK)|(clear hK;clear hK;clear hK;clear hK;refine hK _ ?_;clear hK)|(refine zJ fun K hK=>?_)|((first | refine zH ?_ | refine zN rfl (by kernel_rfl) ?_ | refine zM ?_ | refine zK (by kernel_rfl) ?_);simp only [wJ,wI,strip])|((first | refine wIs fun K hK=>?_ | refine wOs fun K hK=>?_ | refine wQs fun K hK=>?_ | refine zU ?_ | refine zV ?_ | refine zW ?_ | refine zL ?_);simp [hl])|(refine wIn ?_;refine And.intro (by kernel_rfl) ?_;try simp only [zX])|(first | refine zQ ?_ | refine zS ?_)|((first | refine zI ?_ | refine zO ?_ | refine zP ?_);try simp)|((first | refine zR ?_ | refine wOn ?_ | refine wQn ?_);try simp only [zX])
  refine xS (fun N st=>∃ k,k + N = a.length /\ st.s 0 = .p (.sl 1 (txs a)) /\ st.s 1 = .p (.sl 1 (txs b)) /\ st.s 12 = .p (I a.length) /\ st.s 13 = .p (I k) /\ (a = b ↔ a.drop k = b.drop k)) a.length ⟨0,by simp [hl]⟩ fun K N st hL ⟨k,hk,g0,g1,g12,g13,hi⟩=>?_
  by_cases hlt : k < a.length
  ·have hlt' : k < b.length := by omega
   have hw:=xY k _ hlt hlen
   have h1:=txs_get hlt
   have h2:=txs_get hlt'
   rw [List.drop_eq_getElem_cons hlt,List.drop_eq_getElem_cons hlt',List.cons.injEq] at hi
   by_cases o : a[k] = b[k]
   ·simp only [o, true_and] at hi
    repeat' first|(refine hK _ ?_;clear hK)|(refine hK _ _ ?_;clear hK)|(clear hK;refine hK _ ?_;clear hK)|(clear hK;clear hK;refine hK _ ?_;clear hK)|(clear hK;clear hK;clear hK;refine hK _ ?_;clear hK)|(clear hK;clear hK;clear hK;clear hK;refine hK _ ?_;clear hK)|(refine zJ fun K hK=>?_)|((first | refine zH ?_ | refine zN rfl (by kernel_rfl) ?_ | refine zM ?_ | refine zK (by kernel_rfl) ?_);simp only [wJ,wI,strip])|((first | refine wIs fun K hK=>?_ | refine wOs fun K hK=>?_ | refine wQs fun K hK=>?_ | refine zU ?_ | refine zV ?_ | refine zW ?_ | refine zL ?_);simp [g0,g1,g12,g13,hlt,hlt',hw,h1,h2,o])|(refine wIn ?_;refine And.intro (by kernel_rfl) ?_;try simp only [zX])|(first | refine zQ ?_ | refine zS ?_)|((first | refine zI ?_ | refine zO ?_ | refine zP ?_);try simp)|((first | refine zR ?_ | refine wOn ?_ | refine wQn ?_);try simp only [zX])
    refine hL _ (N - 1) (by omega) ⟨k + 1,by omega,?_⟩
    simp [g0,g1,g12,g13,hw]
    exact hi
   ·rw [show decide (a = b) = false from decide_eq_false fun h => o (hi.1 h).1] at hr
    repeat' first|(refine hK _ ?_;clear hK)|(refine hK _ _ ?_;clear hK)|(clear hK;refine hK _ ?_;clear hK)|(clear hK;clear hK;refine hK _ ?_;clear hK)|(clear hK;clear hK;clear hK;refine hK _ ?_;clear hK)|(clear hK;clear hK;clear hK;clear hK;refine hK _ ?_;clear hK)|(refine zJ fun K hK=>?_)|((first | refine zH ?_ | refine zN rfl (by kernel_rfl) ?_ | refine zM ?_ | refine zK (by kernel_rfl) ?_);simp only [wJ,wI,strip])|((first | refine wIs fun K hK=>?_ | refine wOs fun K hK=>?_ | refine wQs fun K hK=>?_ | refine zU ?_ | refine zV ?_ | refine zW ?_ | refine zL ?_);simp [g0,g1,g12,g13,hlt,hlt',hw,h1,h2,o])|(refine wIn ?_;refine And.intro (by kernel_rfl) ?_;try simp only [zX])|(first | refine zQ ?_ | refine zS ?_)|((first | refine zI ?_ | refine zO ?_ | refine zP ?_);try simp)|((first | refine zR ?_ | refine wOn ?_ | refine wQn ?_);try simp only [zX])
    all_goals apply hr
    all_goals simp [Try.f11]
  ·rw [List.drop_of_length_le (by omega), List.drop_of_length_le (by omega)] at hi
   rw [show decide (a = b) = true from decide_eq_true (hi.2 rfl)] at hr
   repeat' first|(refine hK _ ?_;clear hK)|(refine hK _ _ ?_;clear hK)|(clear hK;refine hK _ ?_;clear hK)|(clear hK;clear hK;refine hK _ ?_;clear hK)|(clear hK;clear hK;clear hK;refine hK _ ?_;clear hK)|(clear hK;clear hK;clear hK;clear hK;refine hK _ ?_;clear hK)|(refine zJ fun K hK=>?_)|((first | refine zH ?_ | refine zN rfl (by kernel_rfl) ?_ | refine zM ?_ | refine zK (by kernel_rfl) ?_);simp only [wJ,wI,strip])|((first | refine wIs fun K hK=>?_ | refine wOs fun K hK=>?_ | refine wQs fun K hK=>?_ | refine zU ?_ | refine zV ?_ | refine zW ?_ | refine zL ?_);simp [g0,g1,g12,g13,hlt])|(refine wIn ?_;refine And.intro (by kernel_rfl) ?_;try simp only [zX])|(first | refine zQ ?_ | refine zS ?_)|((first | refine zI ?_ | refine zO ?_ | refine zP ?_);try simp)|((first | refine zR ?_ | refine wOn ?_ | refine wQn ?_);try simp only [zX])
   all_goals apply hr
   all_goals simp [Try.f11]
 ·have hl' : ¬ (a.length : Int) = b.length := by omega
  rw [show decide (a = b) = false from decide_eq_false fun h=>hl (by rw [h])]
  refine zG Try.tab Try.mixed Try.func11 rfl rfl Try.ntmps11 (by simp) (by simp) fun Q hr hn=>?_
  repeat' first|(refine hK _ ?_;clear hK)|(refine hK _ _ ?_;clear hK)|(clear hK;refine hK _ ?_;clear hK)|(clear hK;clear hK;refine hK _ ?_;clear hK)|(clear hK;clear hK;clear hK;refine hK _ ?_;clear hK)|(clear hK;clear hK;clear hK;clear hK;refine hK _ ?_;clear hK)|(refine zJ fun K hK=>?_)|((first | refine zH ?_ | refine zN rfl (by kernel_rfl) ?_ | refine zM ?_ | refine zK (by kernel_rfl) ?_);simp only [wJ,wI,strip])|((first | refine wIs fun K hK=>?_ | refine wOs fun K hK=>?_ | refine wQs fun K hK=>?_ | refine zU ?_ | refine zV ?_ | refine zW ?_ | refine zL ?_);simp [hl,hl'])|(refine wIn ?_;refine And.intro (by kernel_rfl) ?_;try simp only [zX])|(first | refine zQ ?_ | refine zS ?_)|((first | refine zI ?_ | refine zO ?_ | refine zP ?_);try simp)|((first | refine zR ?_ | refine wOn ?_ | refine wQn ?_);try simp only [zX])
  all_goals apply hr
  all_goals simp [Try.f11]
def lss (a b : List UInt8) : Bool := Op.bytesLess a b
def att : List Zn -> List UInt8 -> Nat
 | [],_=>0
 | x :: r,q=>if lss x.p q = true then att r q + 1 else 0
theorem att_le : ∀ (l : List Zn) (q : List UInt8), att l q <= l.length
 | [],_=>Nat.le_refl 0
 | x :: r, q => by
  rw [att];split
  ·have:=att_le r q;simp;omega
  ·simp
theorem att_step {l : List Zn} {k : Nat} (h : k < l.length) (q : List UInt8) : att (l.drop k) q = if lss l[k].p q = true then att (l.drop (k + 1)) q + 1 else 0 := by
 rw [List.drop_eq_getElem_cons h];rfl
def rst : List Zn -> List UInt8 -> List Zn
 | [],_=>[]
 | x :: r,q=>if x.p = q then r else x :: r
def putZ (l : List Zn) (z : Zn) : List Zn := l.take (att l z.p) ++ z :: rst (l.drop (att l z.p)) z.p
theorem put07_con (l : List Zn) (z : Zn) (hl : l.length <= 1000000) : zF Try.prog 17 [.p (.sl 5 (zns l)), .p (.agg z.c)] (.p (.sl 5 (zns (putZ l z)))) := by
 refine zG Try.tab Try.mixed Try.func17 rfl rfl Try.ntmps17 (by simp) (by simp) fun Q hr hn=>?_
 repeat' first|(refine hK _ ?_;clear hK)|(refine hK _ _ ?_;clear hK)|(clear hK;refine hK _ ?_;clear hK)|(clear hK;clear hK;refine hK _ ?_;clear hK)|(clear hK;clear hK;clear hK;refine hK _ ?_;clear hK)|(clear hK;clear hK;clear hK;clear hK;refine hK _ ?_;clear hK)|(refine zJ fun K hK=>?_)|((first | refine zH ?_ | refine zN rfl (by kernel_rfl) ?_ | refine zM ?_ | refine zK (by kernel_rfl) ?_);simp only [wJ,wI,strip])|((first | refine wIs fun K hK=>?_ | refine wOs fun K hK=>?_ | refine wQs fun K hK=>?_ | refine zU ?_ | refine zV ?_ | refine zW ?_ | refine zL ?_);simp [Zn.c])|(refine wIn ?_;refine And.intro (by kernel_rfl) ?_;try simp only [zX])|(first | refine zQ ?_ | refine zS ?_)|((first | refine zI ?_ | refine zO ?_ | refine zP ?_);try simp)|((first | refine zR ?_ | refine wOn ?_ | refine wQn ?_);try simp only [zX])
 refine xS (fun N st=>∃ k,k + N = l.length /\ att l z.p = k + att (l.drop k) z.p /\ st.s 0 = .p (.sl 5 (zns l)) /\ st.s 5 = .p (I k) /\ st.s 3 = .ptr 3 0 /\ st.b 3 = some (.box 48 [.p (SB z.p),.p (SB z.d),.p (I z.v),.p (I z.k),.p (I z.o)])) l.length ⟨0,by simp⟩ fun K N st hL ⟨k,hk,hi,g0,g5,g3,b3⟩=>?_
 have hend : att (l.drop k) z.p = 0 -> putZ l z = l.take k ++ z :: rst (l.drop k) z.p := fun h => by
  unfold putZ;rw [hi,h,Nat.add_zero]
 by_cases hlt : k < l.length
 ·have hw := xY k _ hlt (by omega)
  have he:=zns_get hlt
  have hs:=att_step hlt z.p
  cases o : lss l[k].p z.p
  ·rw [o, if_neg (by simp)] at hs
   rw [hend hs] at hr
   have o' : Op.bytesLess l[k].p z.p = false:=o
   have hd:=List.drop_eq_getElem_cons hlt
   have hle : k <= l.length:=by omega
   have hdn : (l.drop (k + 1)).length <= 1000000:=by simp;omega
   rw [hd,rst] at hr
   have ht:=zns_take l k
   have hdr:=zns_drop l k
   have hdr2:=zns_drop l (k + 1)
   have hle1 : k + 1 <= l.length:=by omega
   have h0k : (0 : Int) <= (k : Int) + 1:=by omega
   have hw2 : IntKind.i64.wrap ((k : Int) + 1) = (((k + 1 : Nat)) : Int):=hw
   have hzn:=zns_snoc (l.take k) z
   have hzt:=zns_len (l.take k ++ [z])
   have hztc : (l.take k).length <= 1000000:=by simp;omega
   have hn0 : 0 < l.length - k:=by omega
   have hn1 : ¬ l.length - k = 0:=by omega
   have hn2 : 1 <= l.length - k:=by omega
   have htb : (zns (l.drop k)).take (l.length - k) = zns (l.drop k):=List.take_of_length_le (by simp)
   have hdr3 : (zns (l.drop k)).drop 1 = zns (l.drop (k + 1)):=by rw [zns_drop,List.drop_drop]
   have hta : (zns l).take l.length = zns l:=List.take_of_length_le (by simp)
   by_cases o2 : l[k].p = z.p
   ·rw [if_pos o2] at hr
    rw [o2] at o'
    repeat' first|(refine And.intro (by (try simp);omega) ?_)|(refine Or.inl ?_)|(refine hK _ ?_;clear hK)|(refine hK _ _ ?_;clear hK)|(clear hK;refine hK _ ?_;clear hK)|(clear hK;clear hK;refine hK _ ?_;clear hK)|(clear hK;clear hK;clear hK;refine hK _ ?_;clear hK)|(clear hK;clear hK;clear hK;clear hK;refine hK _ ?_;clear hK)|(refine zJ fun K hK=>?_)|((first | refine zH ?_ | refine zN rfl (by kernel_rfl) ?_ | refine zM ?_ | refine zK (by kernel_rfl) ?_);simp only [wJ,wI,strip])|((first | refine wIs fun K hK=>?_ | refine wOs fun K hK=>?_ | refine wQs fun K hK=>?_ | refine zU ?_ | refine zV ?_ | refine zW ?_ | refine zL ?_);simp [g0,g5,g3,b3,hlt,hw,he,o',o2,ht,hdr,hdr2,hle,hle1,h0k,hw2,hta,hzn,hzt,hztc])|(refine wIn ?_;refine And.intro (by kernel_rfl) ?_;try simp only [zX])|(first | refine zQ ?_ | refine zS ?_)|((first | refine zI ?_ | refine zO ?_ | refine zP ?_);try simp)|((first | refine zR ?_ | refine wOn ?_ | refine wQn ?_);try simp only [zX])
    all_goals apply hr
    all_goals simp [Try.f17,zns,Zn.c]
   ·rw [if_neg o2] at hr
    repeat' first|(refine And.intro (by (try simp);omega) ?_)|(refine Or.inl ?_)|(refine hK _ ?_;clear hK)|(refine hK _ _ ?_;clear hK)|(clear hK;refine hK _ ?_;clear hK)|(clear hK;clear hK;refine hK _ ?_;clear hK)|(clear hK;clear hK;clear hK;refine hK _ ?_;clear hK)|(clear hK;clear hK;clear hK;clear hK;refine hK _ ?_;clear hK)|(refine zJ fun K hK=>?_)|((first | refine zH ?_ | refine zN rfl (by kernel_rfl) ?_ | refine zM ?_ | refine zK (by kernel_rfl) ?_);simp only [wJ,wI,strip])|((first | refine wIs fun K hK=>?_ | refine wOs fun K hK=>?_ | refine wQs fun K hK=>?_ | refine zU ?_ | refine zV ?_ | refine zW ?_ | refine zL ?_);simp [g0,g5,g3,b3,hlt,hw,he,o',o2,ht,hdr,hdr2,hle,hle1,h0k,hw2,hta,hzn,hzt,hztc])|(refine wIn ?_;refine And.intro (by kernel_rfl) ?_;try simp only [zX])|(first | refine zQ ?_ | refine zS ?_)|((first | refine zI ?_ | refine zO ?_ | refine zP ?_);try simp)|((first | refine zR ?_ | refine wOn ?_ | refine wQn ?_);try simp only [zX])
    all_goals apply hr
    all_goals simp [Try.f17,zns,Zn.c]
  ·rw [o, if_pos rfl] at hs
   have o' : Op.bytesLess l[k].p z.p = true:=o
   repeat' first|(refine hK _ ?_;clear hK)|(refine hK _ _ ?_;clear hK)|(clear hK;refine hK _ ?_;clear hK)|(clear hK;clear hK;refine hK _ ?_;clear hK)|(clear hK;clear hK;clear hK;refine hK _ ?_;clear hK)|(clear hK;clear hK;clear hK;clear hK;refine hK _ ?_;clear hK)|(refine zJ fun K hK=>?_)|((first | refine zH ?_ | refine zN rfl (by kernel_rfl) ?_ | refine zM ?_ | refine zK (by kernel_rfl) ?_);simp only [wJ,wI,strip])|((first | refine wIs fun K hK=>?_ | refine wOs fun K hK=>?_ | refine wQs fun K hK=>?_ | refine zU ?_ | refine zV ?_ | refine zW ?_ | refine zL ?_);simp [g0,g5,g3,b3,hlt,hw,he,o'])|(refine wIn ?_;refine And.intro (by kernel_rfl) ?_;try simp only [zX])|(first | refine zQ ?_ | refine zS ?_)|((first | refine zI ?_ | refine zO ?_ | refine zP ?_);try simp)|((first | refine zR ?_ | refine wOn ?_ | refine wQn ?_);try simp only [zX])
   refine hL _ (N - 1) (by omega) ⟨k + 1,by omega,by omega,?_⟩
   simp [g0,g5,g3,b3,hw]
 ·obtain rfl : k = l.length := by omega
  have hd : l.drop l.length = []:=List.drop_of_length_le (by omega)
  rw [hd] at hend
  rw [hend rfl] at hr
  have hta : (zns l).take l.length = zns l:=List.take_of_length_le (by simp)
  have hta2 : l.take l.length = l:=List.take_of_length_le (by simp)
  have hdr : (zns l).drop l.length = []:=List.drop_of_length_le (by simp)
  have hsn:=zns_snoc l z
  rw [hta2,rst,<- hsn] at hr
  repeat' first|(refine And.intro (by (try simp);omega) ?_)|(refine Or.inl ?_)|(refine hK _ ?_;clear hK)|(refine hK _ _ ?_;clear hK)|(clear hK;refine hK _ ?_;clear hK)|(clear hK;clear hK;refine hK _ ?_;clear hK)|(clear hK;clear hK;clear hK;refine hK _ ?_;clear hK)|(clear hK;clear hK;clear hK;clear hK;refine hK _ ?_;clear hK)|(refine zJ fun K hK=>?_)|((first | refine zH ?_ | refine zN rfl (by kernel_rfl) ?_ | refine zM ?_ | refine zK (by kernel_rfl) ?_);simp only [wJ,wI,strip])|((first | refine wIs fun K hK=>?_ | refine wOs fun K hK=>?_ | refine wQs fun K hK=>?_ | refine zU ?_ | refine zV ?_ | refine zW ?_ | refine zL ?_);simp [g0,g5,g3,b3,hta,hdr])|(refine wIn ?_;refine And.intro (by kernel_rfl) ?_;try simp only [zX])|(first | refine zQ ?_ | refine zS ?_)|((first | refine zI ?_ | refine zO ?_ | refine zP ?_);try simp)|((first | refine zR ?_ | refine wOn ?_ | refine wQn ?_);try simp only [zX])
  all_goals apply hr
  all_goals simp [Try.f17]
def gone (l : List Zn) (p : List UInt8) : List Zn := l.filter fun z => !decide (z.p = p)
theorem gone_snoc {l : List Zn} {k : Nat} (h : k < l.length) (p : List UInt8) : gone (l.take (k + 1)) p = if l[k].p = p then gone (l.take k) p else gone (l.take k) p ++ [l[k]] := by
 unfold gone
 rw [take_snocN _ k h,List.filter_append]
 by_cases g : l[k].p = p <;> simp [g]
theorem gone_len (l : List Zn) (p : List UInt8) (k : Nat) : (gone (l.take k) p).length <= k := by
 unfold gone
 exact Nat.le_trans (List.length_filter_le _ _) (by simp;omega)
theorem gone07_con (l : List Zn) (p : List UInt8) (hl : l.length <= 1000000) : zF Try.prog 18 [.p (.sl 5 (zns l)), .p (SB p)] (.p (.sl 5 (zns (gone l p)))) := by
 refine zG Try.tab Try.mixed Try.func18 rfl rfl Try.ntmps18 (by simp) (by simp) fun Q hr hn=>?_
 repeat' first|(refine hK _ ?_;clear hK)|(refine hK _ _ ?_;clear hK)|(clear hK;refine hK _ ?_;clear hK)|(clear hK;clear hK;refine hK _ ?_;clear hK)|(clear hK;clear hK;clear hK;refine hK _ ?_;clear hK)|(clear hK;clear hK;clear hK;clear hK;refine hK _ ?_;clear hK)|(refine zJ fun K hK=>?_)|((first | refine zH ?_ | refine zN rfl (by kernel_rfl) ?_ | refine zM ?_ | refine zK (by kernel_rfl) ?_);simp only [wJ,wI,strip])|((first | refine wIs fun K hK=>?_ | refine wOs fun K hK=>?_ | refine wQs fun K hK=>?_ | refine zU ?_ | refine zV ?_ | refine zW ?_ | refine zL ?_);simp)|(refine wIn ?_;refine And.intro (by kernel_rfl) ?_;try simp only [zX])|(first | refine zQ ?_ | refine zS ?_)|((first | refine zI ?_ | refine zO ?_ | refine zP ?_);try simp)|((first | refine zR ?_ | refine wOn ?_ | refine wQn ?_);try simp only [zX])
 refine wLoopG [.row 5 48 5] (fun N st=>∃ k,k + N = l.length /\ st.s 1 = .p (SB p) /\ st.s 8 = .p (.sl 5 (zns l)) /\ st.s 9 = .p (I l.length) /\ st.s 10 = .p (I k) /\ st.s 5 = .row 5 /\ st.b 5 = some (.row 48 5 (zns (gone (l.take k) p)))) l.length ⟨0,by simp [gone,zns]⟩ fun K N st hL ⟨k,hk,g1,g8,g9,g10,g5,b5⟩=>?_
 have hkl:=gone_len l p k
 by_cases hlt : k < l.length
 ·have hw := xY k _ hlt (by omega)
  have he:=zns_get hlt
  have hs:=gone_snoc hlt p
  have hx:=zns_snoc (gone (l.take k) p) l[k]
  by_cases o : l[k].p = p
  ·rw [if_pos o] at hs
   repeat' first|(refine hK _ ?_;clear hK)|(refine hK _ _ ?_;clear hK)|(clear hK;refine hK _ ?_;clear hK)|(clear hK;clear hK;refine hK _ ?_;clear hK)|(clear hK;clear hK;clear hK;refine hK _ ?_;clear hK)|(clear hK;clear hK;clear hK;clear hK;refine hK _ ?_;clear hK)|(refine zJ fun K hK=>?_)|((first | refine zH ?_ | refine zN rfl (by kernel_rfl) ?_ | refine zM ?_ | refine zK (by kernel_rfl) ?_);simp only [wJ,wI,strip])|((first | refine wIs fun K hK=>?_ | refine wOs fun K hK=>?_ | refine wQs fun K hK=>?_ | refine zU ?_ | refine zV ?_ | refine zW ?_ | refine zL ?_);simp [g1,g8,g9,g10,g5,b5,hlt,hw,he,o])|(refine wIn ?_;refine And.intro (by kernel_rfl) ?_;try simp only [zX])|(first | refine zQ ?_ | refine zS ?_)|((first | refine zI ?_ | refine zO ?_ | refine zP ?_);try simp)|((first | refine zR ?_ | refine wOn ?_ | refine wQn ?_);try simp only [zX])
   refine hL _ (N - 1) (by omega) ⟨k + 1,by omega,?_⟩
   simp [g1,g8,g9,g10,g5,b5,hw,hs]
  ·rw [if_neg o] at hs
   rw [<- hs] at hx
   repeat' first|(refine And.intro (by (try simp at hkl ⊢);omega) ?_)|(refine hK _ ?_;clear hK)|(refine hK _ _ ?_;clear hK)|(clear hK;refine hK _ ?_;clear hK)|(clear hK;clear hK;refine hK _ ?_;clear hK)|(clear hK;clear hK;clear hK;refine hK _ ?_;clear hK)|(clear hK;clear hK;clear hK;clear hK;refine hK _ ?_;clear hK)|(refine zJ fun K hK=>?_)|((first | refine zH ?_ | refine zN rfl (by kernel_rfl) ?_ | refine zM ?_ | refine zK (by kernel_rfl) ?_);simp only [wJ,wI,strip])|((first | refine wIs fun K hK=>?_ | refine wOs fun K hK=>?_ | refine wQs fun K hK=>?_ | refine zU ?_ | refine zV ?_ | refine zW ?_ | refine zL ?_);simp [g1,g8,g9,g10,g5,b5,hlt,hw,he,o])|(refine wIn ?_;refine And.intro (by kernel_rfl) ?_;try simp only [zX])|(first | refine zQ ?_ | refine zS ?_)|((first | refine zI ?_ | refine zO ?_ | refine zP ?_);try simp)|((first | refine zR ?_ | refine wOn ?_ | refine wQn ?_);try simp only [zX])
   refine hL _ (N - 1) (by omega) ⟨k + 1,by omega,?_⟩
   simp [g1,g8,g9,g10,g5,b5,hw,hx]
 ·rw [List.take_of_length_le (by omega)] at b5
  repeat' first|(refine hK _ ?_;clear hK)|(refine hK _ _ ?_;clear hK)|(clear hK;refine hK _ ?_;clear hK)|(clear hK;clear hK;refine hK _ ?_;clear hK)|(clear hK;clear hK;clear hK;refine hK _ ?_;clear hK)|(clear hK;clear hK;clear hK;clear hK;refine hK _ ?_;clear hK)|(refine zJ fun K hK=>?_)|((first | refine zH ?_ | refine zN rfl (by kernel_rfl) ?_ | refine zM ?_ | refine zK (by kernel_rfl) ?_);simp only [wJ,wI,strip])|((first | refine wIs fun K hK=>?_ | refine wOs fun K hK=>?_ | refine wQs fun K hK=>?_ | refine zU ?_ | refine zV ?_ | refine zW ?_ | refine zL ?_);simp [g1,g8,g9,g10,g5,b5,hlt])|(refine wIn ?_;refine And.intro (by kernel_rfl) ?_;try simp only [zX])|(first | refine zQ ?_ | refine zS ?_)|((first | refine zI ?_ | refine zO ?_ | refine zP ?_);try simp)|((first | refine zR ?_ | refine wOn ?_ | refine wQn ?_);try simp only [zX])
  all_goals apply hr
  all_goals simp [Try.f18,g5,b5]
def rgz (z : Zn) : Bool := decide (chk z.p = 0 /\ (z.d.length : Int) <= 128 /\ 0 <= z.v /\ z.v <= 1099511627776 /\ 0 <= z.k /\ z.k <= 1099511627776 /\ 0 <= z.o)
theorem right07_con (z : Zn) (hz : long z) : zF Try.prog 32 [.p (.agg z.c)] (.p (B (rgz z))) := by
 have c1:=wR z.p hz.1
 unfold rgz Zn.c
 by_cases q0 : chk z.p = 0
 rotate_left
 ·rw [show decide (chk z.p = 0 /\ (z.d.length : Int) <= 128 /\ 0 <= z.v /\ z.v <= 1099511627776 /\ 0 <= z.k /\ z.k <= 1099511627776 /\ 0 <= z.o) = false from decide_eq_false fun h => q0 h.1]
  refine zG Try.tab Try.mixed Try.func32 rfl rfl Try.ntmps32 (by simp) (by simp) fun Q hr hn=>?_
  repeat' first|(refine hK _ ?_;clear hK)|(refine hK _ _ ?_;clear hK)|(clear hK;refine hK _ ?_;clear hK)|(clear hK;clear hK;refine hK _ ?_;clear hK)|(clear hK;clear hK;clear hK;refine hK _ ?_;clear hK)|(clear hK;clear hK;clear hK;clear hK;refine hK _ ?_;clear hK)|(refine zJ fun K hK=>?_)|((first | refine zH ?_ | refine zN rfl (by kernel_rfl) ?_ | refine zM ?_ | refine zK (by kernel_rfl) ?_);simp only [wJ,wI,strip])|((first | refine wIs fun K hK=>?_ | refine wOs fun K hK=>?_ | refine wQs fun K hK=>?_ | refine zU ?_ | refine zV ?_ | refine zW ?_ | refine zL ?_);simp [q0])|(refine wIn ?_;refine And.intro (by kernel_rfl) ?_;try simp only [zX])|(first | refine zQ ?_ | refine zS ?_)|((first | refine zI ?_ | refine zO ?_ | refine zP ?_);try simp)|((first | refine zR ?_ | refine wOn ?_ | refine wQn ?_);try simp only [zX])|(refine zZ.pure (c1) rfl ?_)|(refine zZ.lent (c1) rfl ?_)|(refine zT.pure (c1) rfl ?_)|(refine zT.lent (c1) rfl ?_)|(refine zZ.own (c1) ?_)|(refine zY.pure (c1) rfl ?_)|(refine zY.lent (c1) rfl ?_)|(refine zY.own (c1) ?_)
  all_goals apply hr
  all_goals simp [Try.f32]
 by_cases q1 : (z.d.length : Int) <= 128
 rotate_left
 ·rw [show decide (chk z.p = 0 /\ (z.d.length : Int) <= 128 /\ 0 <= z.v /\ z.v <= 1099511627776 /\ 0 <= z.k /\ z.k <= 1099511627776 /\ 0 <= z.o) = false from decide_eq_false fun h => q1 h.2.1]
  refine zG Try.tab Try.mixed Try.func32 rfl rfl Try.ntmps32 (by simp) (by simp) fun Q hr hn=>?_
  repeat' first|(refine hK _ ?_;clear hK)|(refine hK _ _ ?_;clear hK)|(clear hK;refine hK _ ?_;clear hK)|(clear hK;clear hK;refine hK _ ?_;clear hK)|(clear hK;clear hK;clear hK;refine hK _ ?_;clear hK)|(clear hK;clear hK;clear hK;clear hK;refine hK _ ?_;clear hK)|(refine zJ fun K hK=>?_)|((first | refine zH ?_ | refine zN rfl (by kernel_rfl) ?_ | refine zM ?_ | refine zK (by kernel_rfl) ?_);simp only [wJ,wI,strip])|((first | refine wIs fun K hK=>?_ | refine wOs fun K hK=>?_ | refine wQs fun K hK=>?_ | refine zU ?_ | refine zV ?_ | refine zW ?_ | refine zL ?_);simp [q0,q1])|(refine wIn ?_;refine And.intro (by kernel_rfl) ?_;try simp only [zX])|(first | refine zQ ?_ | refine zS ?_)|((first | refine zI ?_ | refine zO ?_ | refine zP ?_);try simp)|((first | refine zR ?_ | refine wOn ?_ | refine wQn ?_);try simp only [zX])|(refine zZ.pure (c1) rfl ?_)|(refine zZ.lent (c1) rfl ?_)|(refine zT.pure (c1) rfl ?_)|(refine zT.lent (c1) rfl ?_)|(refine zZ.own (c1) ?_)|(refine zY.pure (c1) rfl ?_)|(refine zY.lent (c1) rfl ?_)|(refine zY.own (c1) ?_)
  all_goals apply hr
  all_goals simp [Try.f32]
 by_cases q2 : 0 <= z.v
 rotate_left
 ·rw [show decide (chk z.p = 0 /\ (z.d.length : Int) <= 128 /\ 0 <= z.v /\ z.v <= 1099511627776 /\ 0 <= z.k /\ z.k <= 1099511627776 /\ 0 <= z.o) = false from decide_eq_false fun h => q2 h.2.2.1]
  refine zG Try.tab Try.mixed Try.func32 rfl rfl Try.ntmps32 (by simp) (by simp) fun Q hr hn=>?_
  repeat' first|(refine hK _ ?_;clear hK)|(refine hK _ _ ?_;clear hK)|(clear hK;refine hK _ ?_;clear hK)|(clear hK;clear hK;refine hK _ ?_;clear hK)|(clear hK;clear hK;clear hK;refine hK _ ?_;clear hK)|(clear hK;clear hK;clear hK;clear hK;refine hK _ ?_;clear hK)|(refine zJ fun K hK=>?_)|((first | refine zH ?_ | refine zN rfl (by kernel_rfl) ?_ | refine zM ?_ | refine zK (by kernel_rfl) ?_);simp only [wJ,wI,strip])|((first | refine wIs fun K hK=>?_ | refine wOs fun K hK=>?_ | refine wQs fun K hK=>?_ | refine zU ?_ | refine zV ?_ | refine zW ?_ | refine zL ?_);simp [q0,q1,q2])|(refine wIn ?_;refine And.intro (by kernel_rfl) ?_;try simp only [zX])|(first | refine zQ ?_ | refine zS ?_)|((first | refine zI ?_ | refine zO ?_ | refine zP ?_);try simp)|((first | refine zR ?_ | refine wOn ?_ | refine wQn ?_);try simp only [zX])|(refine zZ.pure (c1) rfl ?_)|(refine zZ.lent (c1) rfl ?_)|(refine zT.pure (c1) rfl ?_)|(refine zT.lent (c1) rfl ?_)|(refine zZ.own (c1) ?_)|(refine zY.pure (c1) rfl ?_)|(refine zY.lent (c1) rfl ?_)|(refine zY.own (c1) ?_)
  all_goals apply hr
  all_goals simp [Try.f32]
 by_cases q3 : z.v <= 1099511627776
 rotate_left
 ·rw [show decide (chk z.p = 0 /\ (z.d.length : Int) <= 128 /\ 0 <= z.v /\ z.v <= 1099511627776 /\ 0 <= z.k /\ z.k <= 1099511627776 /\ 0 <= z.o) = false from decide_eq_false fun h => q3 h.2.2.2.1]
  refine zG Try.tab Try.mixed Try.func32 rfl rfl Try.ntmps32 (by simp) (by simp) fun Q hr hn=>?_
  repeat' first|(refine hK _ ?_;clear hK)|(refine hK _ _ ?_;clear hK)|(clear hK;refine hK _ ?_;clear hK)|(clear hK;clear hK;refine hK _ ?_;clear hK)|(clear hK;clear hK;clear hK;refine hK _ ?_;clear hK)|(clear hK;clear hK;clear hK;clear hK;refine hK _ ?_;clear hK)|(refine zJ fun K hK=>?_)|((first | refine zH ?_ | refine zN rfl (by kernel_rfl) ?_ | refine zM ?_ | refine zK (by kernel_rfl) ?_);simp only [wJ,wI,strip])|((first | refine wIs fun K hK=>?_ | refine wOs fun K hK=>?_ | refine wQs fun K hK=>?_ | refine zU ?_ | refine zV ?_ | refine zW ?_ | refine zL ?_);simp [q0,q1,q2,q3])|(refine wIn ?_;refine And.intro (by kernel_rfl) ?_;try simp only [zX])|(first | refine zQ ?_ | refine zS ?_)|((first | refine zI ?_ | refine zO ?_ | refine zP ?_);try simp)|((first | refine zR ?_ | refine wOn ?_ | refine wQn ?_);try simp only [zX])|(refine zZ.pure (c1) rfl ?_)|(refine zZ.lent (c1) rfl ?_)|(refine zT.pure (c1) rfl ?_)|(refine zT.lent (c1) rfl ?_)|(refine zZ.own (c1) ?_)|(refine zY.pure (c1) rfl ?_)|(refine zY.lent (c1) rfl ?_)|(refine zY.own (c1) ?_)
  all_goals apply hr
  all_goals simp [Try.f32]
 by_cases q4 : 0 <= z.k
 rotate_left
 ·rw [show decide (chk z.p = 0 /\ (z.d.length : Int) <= 128 /\ 0 <= z.v /\ z.v <= 1099511627776 /\ 0 <= z.k /\ z.k <= 1099511627776 /\ 0 <= z.o) = false from decide_eq_false fun h => q4 h.2.2.2.2.1]
  refine zG Try.tab Try.mixed Try.func32 rfl rfl Try.ntmps32 (by simp) (by simp) fun Q hr hn=>?_
  repeat' first|(refine hK _ ?_;clear hK)|(refine hK _ _ ?_;clear hK)|(clear hK;refine hK _ ?_;clear hK)|(clear hK;clear hK;refine hK _ ?_;clear hK)|(clear hK;clear hK;clear hK;refine hK _ ?_;clear hK)|(clear hK;clear hK;clear hK;clear hK;refine hK _ ?_;clear hK)|(refine zJ fun K hK=>?_)|((first | refine zH ?_ | refine zN rfl (by kernel_rfl) ?_ | refine zM ?_ | refine zK (by kernel_rfl) ?_);simp only [wJ,wI,strip])|((first | refine wIs fun K hK=>?_ | refine wOs fun K hK=>?_ | refine wQs fun K hK=>?_ | refine zU ?_ | refine zV ?_ | refine zW ?_ | refine zL ?_);simp [q0,q1,q2,q3,q4])|(refine wIn ?_;refine And.intro (by kernel_rfl) ?_;try simp only [zX])|(first | refine zQ ?_ | refine zS ?_)|((first | refine zI ?_ | refine zO ?_ | refine zP ?_);try simp)|((first | refine zR ?_ | refine wOn ?_ | refine wQn ?_);try simp only [zX])|(refine zZ.pure (c1) rfl ?_)|(refine zZ.lent (c1) rfl ?_)|(refine zT.pure (c1) rfl ?_)|(refine zT.lent (c1) rfl ?_)|(refine zZ.own (c1) ?_)|(refine zY.pure (c1) rfl ?_)|(refine zY.lent (c1) rfl ?_)|(refine zY.own (c1) ?_)
  all_goals apply hr
  all_goals simp [Try.f32]
 by_cases q5 : z.k <= 1099511627776
 rotate_left
 ·rw [show decide (chk z.p = 0 /\ (z.d.length : Int) <= 128 /\ 0 <= z.v /\ z.v <= 1099511627776 /\ 0 <= z.k /\ z.k <= 1099511627776 /\ 0 <= z.o) = false from decide_eq_false fun h => q5 h.2.2.2.2.2.1]
  refine zG Try.tab Try.mixed Try.func32 rfl rfl Try.ntmps32 (by simp) (by simp) fun Q hr hn=>?_
  repeat' first|(refine hK _ ?_;clear hK)|(refine hK _ _ ?_;clear hK)|(clear hK;refine hK _ ?_;clear hK)|(clear hK;clear hK;refine hK _ ?_;clear hK)|(clear hK;clear hK;clear hK;refine hK _ ?_;clear hK)|(clear hK;clear hK;clear hK;clear hK;refine hK _ ?_;clear hK)|(refine zJ fun K hK=>?_)|((first | refine zH ?_ | refine zN rfl (by kernel_rfl) ?_ | refine zM ?_ | refine zK (by kernel_rfl) ?_);simp only [wJ,wI,strip])|((first | refine wIs fun K hK=>?_ | refine wOs fun K hK=>?_ | refine wQs fun K hK=>?_ | refine zU ?_ | refine zV ?_ | refine zW ?_ | refine zL ?_);simp [q0,q1,q2,q3,q4,q5])|(refine wIn ?_;refine And.intro (by kernel_rfl) ?_;try simp only [zX])|(first | refine zQ ?_ | refine zS ?_)|((first | refine zI ?_ | refine zO ?_ | refine zP ?_);try simp)|((first | refine zR ?_ | refine wOn ?_ | refine wQn ?_);try simp only [zX])|(refine zZ.pure (c1) rfl ?_)|(refine zZ.lent (c1) rfl ?_)|(refine zT.pure (c1) rfl ?_)|(refine zT.lent (c1) rfl ?_)|(refine zZ.own (c1) ?_)|(refine zY.pure (c1) rfl ?_)|(refine zY.lent (c1) rfl ?_)|(refine zY.own (c1) ?_)
  all_goals apply hr
  all_goals simp [Try.f32]
 by_cases q6 : 0 <= z.o
 rotate_left
 ·rw [show decide (chk z.p = 0 /\ (z.d.length : Int) <= 128 /\ 0 <= z.v /\ z.v <= 1099511627776 /\ 0 <= z.k /\ z.k <= 1099511627776 /\ 0 <= z.o) = false from decide_eq_false fun h => q6 h.2.2.2.2.2.2]
  refine zG Try.tab Try.mixed Try.func32 rfl rfl Try.ntmps32 (by simp) (by simp) fun Q hr hn=>?_
  repeat' first|(refine hK _ ?_;clear hK)|(refine hK _ _ ?_;clear hK)|(clear hK;refine hK _ ?_;clear hK)|(clear hK;clear hK;refine hK _ ?_;clear hK)|(clear hK;clear hK;clear hK;refine hK _ ?_;clear hK)|(clear hK;clear hK;clear hK;clear hK;refine hK _ ?_;clear hK)|(refine zJ fun K hK=>?_)|((first | refine zH ?_ | refine zN rfl (by kernel_rfl) ?_ | refine zM ?_ | refine zK (by kernel_rfl) ?_);simp only [wJ,wI,strip])|((first | refine wIs fun K hK=>?_ | refine wOs fun K hK=>?_ | refine wQs fun K hK=>?_ | refine zU ?_ | refine zV ?_ | refine zW ?_ | refine zL ?_);simp [q0,q1,q2,q3,q4,q5,q6])|(refine wIn ?_;refine And.intro (by kernel_rfl) ?_;try simp only [zX])|(first | refine zQ ?_ | refine zS ?_)|((first | refine zI ?_ | refine zO ?_ | refine zP ?_);try simp)|((first | refine zR ?_ | refine wOn ?_ | refine wQn ?_);try simp only [zX])|(refine zZ.pure (c1) rfl ?_)|(refine zZ.lent (c1) rfl ?_)|(refine zT.pure (c1) rfl ?_)|(refine zT.lent (c1) rfl ?_)|(refine zZ.own (c1) ?_)|(refine zY.pure (c1) rfl ?_)|(refine zY.lent (c1) rfl ?_)|(refine zY.own (c1) ?_)
  all_goals apply hr
  all_goals simp [Try.f32]
 rw [show decide (chk z.p = 0 /\ (z.d.length : Int) <= 128 /\ 0 <= z.v /\ z.v <= 1099511627776 /\ 0 <= z.k /\ z.k <= 1099511627776 /\ 0 <= z.o) = true from decide_eq_true ⟨q0,q1,q2,q3,q4,q5,q6⟩]
 refine zG Try.tab Try.mixed Try.func32 rfl rfl Try.ntmps32 (by simp) (by simp) fun Q hr hn=>?_
 repeat' first|(refine hK _ ?_;clear hK)|(refine hK _ _ ?_;clear hK)|(clear hK;refine hK _ ?_;clear hK)|(clear hK;clear hK;refine hK _ ?_;clear hK)|(clear hK;clear hK;clear hK;refine hK _ ?_;clear hK)|(clear hK;clear hK;clear hK;clear hK;refine hK _ ?_;clear hK)|(refine zJ fun K hK=>?_)|((first | refine zH ?_ | refine zN rfl (by kernel_rfl) ?_ | refine zM ?_ | refine zK (by kernel_rfl) ?_);simp only [wJ,wI,strip])|((first | refine wIs fun K hK=>?_ | refine wOs fun K hK=>?_ | refine wQs fun K hK=>?_ | refine zU ?_ | refine zV ?_ | refine zW ?_ | refine zL ?_);simp [q0,q1,q2,q3,q4,q5,q6])|(refine wIn ?_;refine And.intro (by kernel_rfl) ?_;try simp only [zX])|(first | refine zQ ?_ | refine zS ?_)|((first | refine zI ?_ | refine zO ?_ | refine zP ?_);try simp)|((first | refine zR ?_ | refine wOn ?_ | refine wQn ?_);try simp only [zX])|(refine zZ.pure (c1) rfl ?_)|(refine zZ.lent (c1) rfl ?_)|(refine zT.pure (c1) rfl ?_)|(refine zT.lent (c1) rfl ?_)|(refine zZ.own (c1) ?_)|(refine zY.pure (c1) rfl ?_)|(refine zY.lent (c1) rfl ?_)|(refine zY.own (c1) ?_)
 all_goals apply hr
 all_goals simp [Try.f32]
def hld (l : List Zn) (z : Zn) : Bool := (par z.p).2 && ((fnd l (par z.p).1).2 && decide ((fnd l (par z.p).1).1.o = 0))
end Go.Proofs.Ytpilcadofjcdoaa
