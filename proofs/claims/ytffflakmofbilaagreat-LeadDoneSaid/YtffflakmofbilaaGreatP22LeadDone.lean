/- Texts that the proof needs: PD NA NB NC ND PE PF PG PH NE NF QLib QA XG XH XI XJ XK. -/
import Derived.Test.YtffflakmofbilaaGreatP20LeadDone
import Derived.Test.YtffflakmofbilaaGreatP21LeadDone
import Derived.Test.YtffflakmofbilaaGreatP14LeadDone
import Derived.Test.YtffflakmofbilaaGreatP19LeadDone
import Derived.Test.YtffflakmofbilaaGreatP18LeadDone
import Derived.WalkKit
import Derived.Test.YtffflakmofbilaaGreatP17LeadDone
namespace Go.Proofs.YtffflakmofbilaaGreat
set_option linter.unusedSimpArgs false
set_option linter.unusedVariables false
open Go Go.Av
attribute [local irreducible] Go.Av.yD Go.Av.zQ Go.Av.yC Go.Av.zJ Go.Av.xZ Go.Av.yT Go.Av.Con
@[simp] theorem empty_bs : ByteArray.empty = bs [] := rfl
structure Zn where
 (p d : List UInt8)
 (v k o : Int)
 deriving DecidableEq
def Zn.c (z : Zn) : List PV := [SB z.p, SB z.d, I z.v, I z.k, I z.o]
theorem Zn.ext5 {x y : Zn} : x = y ↔ x.p = y.p /\ x.d = y.d /\ x.v = y.v /\ x.k = y.k /\ x.o = y.o := by cases x; cases y; simp
def zns (l : List Zn) : List (List PV) := l.map Zn.c
@[simp] theorem zns_len (l : List Zn) : (zns l).length = l.length := by simp [zns]
@[simp] theorem zns_getElem (l : List Zn) (k : Nat) (h : k < (zns l).length) : (zns l)[k] = [SB (l[k]'(by simpa using h)).p, SB (l[k]'(by simpa using h)).d, I (l[k]'(by simpa using h)).v, I (l[k]'(by simpa using h)).k, I (l[k]'(by simpa using h)).o] := by simp [zns, Zn.c]
theorem zns_get {l : List Zn} {k : Nat} (h : k < l.length) : (zns l)[k]? = some [SB l[k].p, SB l[k].d, I l[k].v, I l[k].k, I l[k].o] := by simp [zns, h, Zn.c]
theorem zns_snoc (l : List Zn) (z : Zn) : zns l ++ [[SB z.p, SB z.d, I z.v, I z.k, I z.o]] = zns (l ++ [z]) := by simp [zns, Zn.c]
theorem zns_take (l : List Zn) (k : Nat) : (zns l).take k = zns (l.take k) := by simp [zns, List.map_take]
theorem zns_drop (l : List Zn) (k : Nat) : (zns l).drop k = zns (l.drop k) := by simp [zns, List.map_drop]
theorem take_snocN {α : Type} (l : List α) (k : Nat) (h : k < l.length) : l.take (k + 1) = l.take k ++ [l[k]] := List.take_succ_eq_append_getElem h
def zz : Zn := ⟨[], [], 0, 0, 0⟩
def fnd : List Zn -> List UInt8 -> Zn × Bool
 | [],_=>(zz,false)
 | z :: r,p=>if z.p = p then (z,true) else fnd r p
def par (l : List UInt8) : List UInt8 × Bool := if chd l = true then (l.take (max (lx l l.length) 1), true) else ([], false)
def long (z : Zn) : Prop := z.p.length <= 9223372036854775807 /\ z.d.length <= 9223372036854775807
def lss (a b : List UInt8) : Bool := Op.bytesLess a b
def att : List Zn -> List UInt8 -> Nat
 | [],_=>0
 | x :: r,q=>if lss x.p q = true then att r q + 1 else 0
theorem att_le : ∀ (l : List Zn) (q : List UInt8), att l q <= l.length
 | [],_=>Nat.le_refl 0
 | x :: r, q => by
  rw [att];split
  ·have:=att_le r q;simp;omega
  ·simp
theorem att_step {l : List Zn} {k : Nat} (h : k < l.length) (q : List UInt8) : att (l.drop k) q = if lss l[k].p q = true then att (l.drop (k + 1)) q + 1 else 0 := by
 rw [List.drop_eq_getElem_cons h];rfl
def rst : List Zn -> List UInt8 -> List Zn
 | [],_=>[]
 | x :: r,q=>if x.p = q then r else x :: r
def putZ (l : List Zn) (z : Zn) : List Zn := l.take (att l z.p) ++ z :: rst (l.drop (att l z.p)) z.p
theorem put07_con (l : List Zn) (z : Zn) (hl : l.length <= 1000000) : zG Tryz.prog 132 [.p (.sl 5 (zns l)), .p (.agg z.c)] (.p (.sl 5 (zns (putZ l z)))) := by
 refine zL Tryz.tab Tryz.mixed Tryz.func132 rfl rfl Tryz.ntmps132 (by simp) (by simp) fun Q hr hn=>?_
 repeat' first|(refine hK _ ?_;clear hK)|(refine zU fun K hK=>?_)|(refine zT ?_;simp only [uP,uO,strip])|(refine wOs fun K hK=>?_;simp [Zn.c])|(first | refine zW ?_)|(refine wOn ?_;try simp only [zZ])
 refine yW (fun N st=>∃ k,k + N = l.length /\ att l z.p = k + att (l.drop k) z.p /\ st.s 0 = .p (.sl 5 (zns l)) /\ st.s 5 = .p (I k) /\ st.s 3 = .ptr 3 0 /\ st.b 3 = some (.box 129 [.p (SB z.p),.p (SB z.d),.p (I z.v),.p (I z.k),.p (I z.o)])) l.length ⟨0,by simp⟩ fun K N st hL ⟨k,hk,hi,g0,g5,g3,b3⟩=>?_
 have hend : att (l.drop k) z.p = 0 -> putZ l z = l.take k ++ z :: rst (l.drop k) z.p := fun h => by
  unfold putZ;rw [hi,h,Nat.add_zero]
 by_cases hlt : k < l.length
 ·have hw := yV k _ hlt (by omega)
  have he:=zns_get hlt
  have hs:=att_step hlt z.p
  cases o : lss l[k].p z.p
  ·rw [o, if_neg (by simp)] at hs
   rw [hend hs] at hr
   have o' : Op.bytesLess l[k].p z.p = false:=o
   have hd:=List.drop_eq_getElem_cons hlt
   have hle : k <= l.length:=by omega
   have hdn : (l.drop (k + 1)).length <= 1000000:=by simp;omega
   rw [hd,rst] at hr
   have ht:=zns_take l k
   have hdr:=zns_drop l k
   have hdr2:=zns_drop l (k + 1)
   have hle1 : k + 1 <= l.length:=by omega
   have h0k : (0 : Int) <= (k : Int) + 1:=by omega
   have hw2 : IntKind.i64.wrap ((k : Int) + 1) = (((k + 1 : Nat)) : Int):=hw
   have hzn:=zns_snoc (l.take k) z
   have hzt:=zns_len (l.take k ++ [z])
   have hztc : (l.take k).length <= 1000000:=by simp;omega
   have hn0 : 0 < l.length - k:=by omega
   have hn1 : ¬ l.length - k = 0:=by omega
   have hn2 : 1 <= l.length - k:=by omega
   have htb : (zns (l.drop k)).take (l.length - k) = zns (l.drop k):=List.take_of_length_le (by simp)
   have hdr3 : (zns (l.drop k)).drop 1 = zns (l.drop (k + 1)):=by rw [zns_drop,List.drop_drop]
   have hta : (zns l).take l.length = zns l:=List.take_of_length_le (by simp)
   by_cases o2 : l[k].p = z.p
   ·rw [if_pos o2] at hr
    rw [o2] at o'
    repeat' first|(refine And.intro (by (try simp);omega) ?_)|(refine Or.inl ?_)|(refine hK _ ?_;clear hK)|(refine hK _ _ ?_;clear hK)|(clear hK;refine hK _ ?_;clear hK)|(refine zU fun K hK=>?_)|((first | refine zT ?_ | refine zE rfl (by kernel_rfl) ?_ | refine yI ?_);simp only [uP,uO,strip])|((first | refine wIs fun K hK=>?_ | refine wOs fun K hK=>?_ | refine wQs fun K hK=>?_ | refine zX ?_);simp [g0,g5,g3,b3,hlt,hw,o',o2,ht,hdr2,hle,hle1,h0k,hta,hzn,hzt])|(refine wIn ?_;refine And.intro (by kernel_rfl) ?_;try simp only [zZ])|((first | refine zN ?_ | refine zH ?_);try simp)|((first | refine wOn ?_ | refine wQn ?_);try simp only [zZ])
    all_goals apply hr
    all_goals simp [Tryz.f132,zns,Zn.c]
   ·rw [if_neg o2] at hr
    repeat' first|(refine And.intro (by (try simp);omega) ?_)|(refine Or.inl ?_)|(refine hK _ ?_;clear hK)|(refine hK _ _ ?_;clear hK)|(clear hK;refine hK _ ?_;clear hK)|(refine zU fun K hK=>?_)|((first | refine zT ?_ | refine zE rfl (by kernel_rfl) ?_ | refine yI ?_);simp only [uP,uO,strip])|((first | refine wIs fun K hK=>?_ | refine wOs fun K hK=>?_ | refine wQs fun K hK=>?_ | refine zX ?_);simp [g0,g5,g3,b3,hlt,o',o2,ht,hdr,hle,hta,hzn,hzt])|(refine wIn ?_;refine And.intro (by kernel_rfl) ?_;try simp only [zZ])|((first | refine zN ?_ | refine zH ?_ | refine zR ?_);try simp)|((first | refine wOn ?_ | refine wQn ?_);try simp only [zZ])
    all_goals apply hr
    all_goals simp [Tryz.f132,zns,Zn.c]
  ·rw [o, if_pos rfl] at hs
   have o' : Op.bytesLess l[k].p z.p = true:=o
   repeat' first|(refine hK _ ?_;clear hK)|(refine zU fun K hK=>?_)|((first | refine zT ?_ | refine zE rfl (by kernel_rfl) ?_);simp only [uP,uO,strip])|((first | refine wOs fun K hK=>?_ | refine wQs fun K hK=>?_ | refine zX ?_);simp [g0,g5,g3,b3,hlt,hw,o'])|(first | refine zW ?_)|(refine zR ?_;try simp)|((first | refine wOn ?_ | refine wQn ?_);try simp only [zZ])
   refine hL _ (N - 1) (by omega) ⟨k + 1,by omega,by omega,?_⟩
   simp [g0,g3,b3]
 ·obtain rfl : k = l.length := by omega
  have hd : l.drop l.length = []:=List.drop_of_length_le (by omega)
  rw [hd] at hend
  rw [hend rfl] at hr
  have hta : (zns l).take l.length = zns l:=List.take_of_length_le (by simp)
  have hta2 : l.take l.length = l:=List.take_of_length_le (by simp)
  have hdr : (zns l).drop l.length = []:=List.drop_of_length_le (by simp)
  have hsn:=zns_snoc l z
  rw [hta2,rst,<- hsn] at hr
  repeat' first|(refine And.intro (by (try simp);omega) ?_)|(refine Or.inl ?_)|(refine hK _ ?_;clear hK)|(refine hK _ _ ?_;clear hK)|(clear hK;refine hK _ ?_;clear hK)|(refine zU fun K hK=>?_)|((first | refine zT ?_ | refine zE rfl (by kernel_rfl) ?_ | refine yI ?_);simp only [uP,uO,strip])|((first | refine wIs fun K hK=>?_ | refine wOs fun K hK=>?_ | refine wQs fun K hK=>?_ | refine zX ?_);simp [g0,g5,g3,b3,hta,hdr])|(refine wIn ?_;refine And.intro (by kernel_rfl) ?_;try simp only [zZ])|((first | refine zN ?_ | refine zH ?_ | refine zR ?_);try simp)|((first | refine wOn ?_ | refine wQn ?_);try simp only [zZ])
  all_goals apply hr
  all_goals simp [Tryz.f132]
def gone (l : List Zn) (p : List UInt8) : List Zn := l.filter fun z => !decide (z.p = p)
theorem gone_snoc {l : List Zn} {k : Nat} (h : k < l.length) (p : List UInt8) : gone (l.take (k + 1)) p = if l[k].p = p then gone (l.take k) p else gone (l.take k) p ++ [l[k]] := by
 unfold gone
 rw [take_snocN _ k h,List.filter_append]
 by_cases g : l[k].p = p <;> simp [g]
theorem gone_len (l : List Zn) (p : List UInt8) (k : Nat) : (gone (l.take k) p).length <= k := by
 unfold gone
 exact Nat.le_trans (List.length_filter_le _ _) (by simp;omega)
theorem gone07_con (l : List Zn) (p : List UInt8) (hl : l.length <= 1000000) : zG Tryz.prog 133 [.p (.sl 5 (zns l)), .p (SB p)] (.p (.sl 5 (zns (gone l p)))) := by
 refine zL Tryz.tab Tryz.mixed Tryz.func133 rfl rfl Tryz.ntmps133 (by simp) (by simp) fun Q hr hn=>?_
 repeat' first|(refine hK _ ?_;clear hK)|(refine zU fun K hK=>?_)|(refine zT ?_;simp only [uP,uO,strip])|(refine wOs fun K hK=>?_;simp)|(first | refine zW ?_)|(refine wOn ?_;try simp only [zZ])
 refine wLoopG [.row 5 129 5] (fun N st=>∃ k,k + N = l.length /\ st.s 1 = .p (SB p) /\ st.s 8 = .p (.sl 5 (zns l)) /\ st.s 9 = .p (I l.length) /\ st.s 10 = .p (I k) /\ st.s 5 = .row 5 /\ st.b 5 = some (.row 129 5 (zns (gone (l.take k) p)))) l.length ⟨0,by simp [gone,zns]⟩ fun K N st hL ⟨k,hk,g1,g8,g9,g10,g5,b5⟩=>?_
 have hkl:=gone_len l p k
 by_cases hlt : k < l.length
 ·have hw := yV k _ hlt (by omega)
  have he:=zns_get hlt
  have hs:=gone_snoc hlt p
  have hx:=zns_snoc (gone (l.take k) p) l[k]
  by_cases o : l[k].p = p
  ·rw [if_pos o] at hs
   repeat' first|(refine hK _ ?_;clear hK)|(refine zU fun K hK=>?_)|(refine zT ?_;simp only [uP,uO,strip])|((first | refine wOs fun K hK=>?_ | refine zX ?_);simp [g1,g8,g9,g10,hlt,hw,o])|(first | refine zW ?_)|(refine zR ?_;try simp)|(refine wOn ?_;try simp only [zZ])
   refine hL _ (N - 1) (by omega) ⟨k + 1,by omega,?_⟩
   simp [g1,g8,g9,g5,b5,hs]
  ·rw [if_neg o] at hs
   rw [<- hs] at hx
   repeat' first|(refine And.intro (by (try simp at hkl ⊢);omega) ?_)|(refine hK _ ?_;clear hK)|(refine zU fun K hK=>?_)|(refine zT ?_;simp only [uP,uO,strip])|((first | refine wOs fun K hK=>?_ | refine zX ?_);simp [g1,g8,g9,g10,g5,b5,hlt,hw,o])|(first | refine zW ?_)|(refine zR ?_;try simp)|(refine wOn ?_;try simp only [zZ])
   refine hL _ (N - 1) (by omega) ⟨k + 1,by omega,?_⟩
   simp [g1,g8,g9,hx]
 ·rw [List.take_of_length_le (by omega)] at b5
  repeat' first|(refine hK _ ?_;clear hK)|(clear hK;refine hK _ ?_;clear hK)|(refine zU fun K hK=>?_)|(refine zT ?_;simp only [uP,uO,strip])|((first | refine wOs fun K hK=>?_ | refine zX ?_);simp [g9,g10,g5,hlt])|((first | refine zN ?_ | refine zH ?_);try simp)|(refine wOn ?_;try simp only [zZ])
  all_goals apply hr
  all_goals simp [Tryz.f133,b5]
theorem root07_con : zG Tryz.prog 62 [] (.p (.sl 5 (zns [⟨[47], [], 0, 0, 0⟩]))) := by
 refine zL Tryz.tab Tryz.mixed Tryz.func62 rfl rfl Tryz.ntmps62 (by simp) (by simp) fun Q hr hn=>?_
 repeat' first|(refine hK _ ?_;clear hK)|(refine zU fun K hK=>?_)|(refine zT ?_;simp only [uP,uO,strip])|(refine wOs fun K hK=>?_;simp)|(refine zN ?_;try simp)|(refine wOn ?_;try simp only [zZ])
 all_goals apply hr
 all_goals simp [Tryz.f62,zns,Zn.c]
def hld (l : List Zn) (z : Zn) : Bool := (par z.p).2 && ((fnd l (par z.p).1).2 && decide ((fnd l (par z.p).1).1.o = 0))
end Go.Proofs.YtffflakmofbilaaGreat
namespace Go.Proofs.YtffflakmofbilaaGreat
set_option linter.unusedSimpArgs false
set_option linter.unusedVariables false
open Go Go.Av
end Go.Proofs.YtffflakmofbilaaGreat
namespace Go.Proofs.YtffflakmofbilaaGreat
set_option linter.unusedSimpArgs false
set_option linter.unusedVariables false
open Go Go.Av
attribute [local irreducible] Go.Av.yD Go.Av.zQ Go.Av.yC Go.Av.zJ Go.Av.xZ Go.Av.yT Go.Av.Con
theorem Zn.ofL {ps : List PV} (h : ShL [.str, .str, .int .i64, .int .i64, .int .i64] ps) : ∃ a : {z : Zn // long z}, ps = a.1.c := by
 obtain ⟨_,_,rfl,h0,h⟩:=h.cons
 obtain ⟨_,_,rfl,h1,h⟩:=h.cons
 obtain ⟨_,_,rfl,h2,h⟩:=h.cons
 obtain ⟨_,_,rfl,h3,h⟩:=h.cons
 obtain ⟨_,_,rfl,h4,h⟩:=h.cons
 obtain rfl:=h.nil
 obtain ⟨s,rfl,hs⟩:=h0.strI
 obtain ⟨d,rfl,hd⟩:=h1.strI
 obtain ⟨v,rfl,-⟩:=h2.intI
 obtain ⟨k,rfl,-⟩:=h3.intI
 obtain ⟨o,rfl,-⟩:=h4.intI
 have hl : ∀ s : ByteArray, s.size <= maxLen -> s.data.toList.length <= 9223372036854775807 := fun s hs => by
  have h1 : s.data.toList.length = s.size:=Array.length_toList
  have h2 : maxLen = 9223372036854775807:=rfl
  omega
 refine ⟨⟨⟨s.data.toList,d.data.toList,v,k,o⟩,hl s hs,hl d hd⟩,?_⟩
 obtain ⟨a,ha⟩:=bs_all s
 obtain ⟨b,hb⟩:=bs_all d
 subst ha;subst hb
 simp [Zn.c]
abbrev RCon (g : FuncId) (args : List V) (e c : Nat) (l : List (List PV)) : Prop := Con Tryz.prog g args [] (.ret (.row 2048) [.row e c l] [])
theorem take_snoc {α : Type} (l : List α) (k : Nat) (h : k < l.length) : l.take (k + 1) = l.take k ++ [l[k]] := List.take_succ_eq_append_getElem h
def idx (n : Int) : List Int -> Nat -> Int
 | [],_=>-1
 | a :: l,k=>if n = a then k else idx n l (k + 1)
theorem idx_mem (n : Int) : ∀ (l : List Int) (k : Nat), decide (0 <= idx n l k) = decide (n ∈ l)
 | [],k=>by simp [idx]
 | a :: l, k => by
  by_cases h : n = a
  ·subst h;simp [idx]
  ·simp [idx,h,idx_mem n l (k + 1)]
def ints (l : List Int) : List (List PV) := l.map fun n => [I n]
@[simp] theorem ints_len (l : List Int) : (ints l).length = l.length := by simp [ints]
@[simp] theorem ints_getElem (l : List Int) (k : Nat) (h : k < (ints l).length) : (ints l)[k] = [I (l[k]'(by simpa using h))] := by simp [ints]
theorem ints_get {l : List Int} {k : Nat} (h : k < l.length) : (ints l)[k]? = some [I l[k]] := by simp [ints, h]
theorem index_con (l : List Int) (n : Int) : zG Tryz.prog 113 [.p (.sl 1 (ints l)), .p (I n)] (.p (I (idx n l 0))) := by
 refine zG.len ⟨Tryz.f113,Tryz.func113,rfl,rfl⟩ 0 _ _ rfl fun hlen=>?_
 simp only [ints_len] at hlen
 refine zL Tryz.tab Tryz.mixed Tryz.func113 rfl rfl Tryz.ntmps113 (by simp) (by simp) fun Q hr hn=>?_
 repeat' first|(refine hK _ ?_;clear hK)|(refine zU fun K hK=>?_)|(refine zT ?_;simp only [uP,uO,strip])|(refine wOs fun K hK=>?_;simp)|(first | refine zW ?_)|(refine wOn ?_;try simp only [zZ])
 refine yW (fun N st=>∃ k,k + N = l.length /\ st.s 0 = .p (.sl 1 (ints l)) /\ st.s 1 = .p (I n) /\ st.s 7 = .p (I l.length) /\ st.s 8 = .p (I k) /\ idx n (l.drop k) k = idx n l 0) l.length ⟨0,by simp⟩ fun K N st hL ⟨k,hk,h0,h1,h7,h8,hi⟩=>?_
 by_cases hlt : k < l.length
 ·have hw := yV k _ hlt hlen
  have he:=ints_get hlt
  rw [List.drop_eq_getElem_cons hlt,idx] at hi
  repeat' first|(refine hK _ ?_;clear hK)|(refine zU fun K hK=>?_)|(refine zT ?_;simp only [uP,uO,strip])|((first | refine wOs fun K hK=>?_ | refine zX ?_);simp [h0,h1,h7,h8,hlt,hw])|(first | refine zW ?_)|((first | refine zN ?_ | refine zR ?_);try simp)|(refine wOn ?_;try simp only [zZ])|(refine And.intro (fun hc=>?_) (fun hc=>?_))
  ·apply hr
   rw [if_pos hc] at hi
   simp [Tryz.f113,hi]
  ·rw [if_neg hc] at hi
   refine hL _ (N - 1) (by omega) ⟨k + 1,by omega,?_⟩
   simp [h0,h1,h7,hi]
 ·have hd : l.drop k = [] := List.drop_of_length_le (by omega)
  rw [hd] at hi
  repeat' first|(refine hK _ ?_;clear hK)|(clear hK;refine hK _ ?_;clear hK)|(refine zU fun K hK=>?_)|(refine zT ?_;simp only [uP,uO,strip])|((first | refine wOs fun K hK=>?_ | refine zX ?_);simp [h7,h8,hlt])|((first | refine zN ?_ | refine zH ?_);try simp)|(refine wOn ?_;try simp only [zZ])
  apply hr
  simp [Tryz.f113,<- hi,idx]
theorem contains_con (l : List Int) (n : Int) : zG Tryz.prog 83 [.p (.sl 1 (ints l)), .p (I n)] (.p (B (decide (n ∈ l)))) := by
 have h:=index_con l n
 have hz:=idx_mem n l 0
 generalize idx n l 0 = z at h hz
 rw [<- hz]
 refine zL Tryz.tab Tryz.mixed Tryz.func83 rfl rfl Tryz.ntmps83 (by simp) (by simp) fun Q hr hn=>?_
 repeat' first|(refine hK _ ?_;clear hK)|(refine zU fun K hK=>?_)|(refine zT ?_;simp only [uP,uO,strip])|((first | refine wOs fun K hK=>?_ | refine zY ?_);simp)|(refine zN ?_;try simp)|(refine wOn ?_;try simp only [zZ])|(refine zQ.pure (h) rfl ?_)
 apply hr
 simp [Tryz.f83]
theorem has05_con (l : List Int) (n : Int) : zG Tryz.prog 71 [.p (.sl 1 (ints l)), .p (I n)] (.p (B (decide (n ∈ l)))) := by
 refine zG.len ⟨Tryz.f71,Tryz.func71,rfl,rfl⟩ 0 _ _ rfl fun hlen=>?_
 simp only [ints_len] at hlen
 refine zL Tryz.tab Tryz.mixed Tryz.func71 rfl rfl Tryz.ntmps71 (by simp) (by simp) fun Q hr hn=>?_
 repeat' first|(refine hK _ ?_;clear hK)|(refine zU fun K hK=>?_)|(refine zT ?_;simp only [uP,uO,strip])|(refine wOs fun K hK=>?_;simp)|(first | refine zW ?_)|(refine wOn ?_;try simp only [zZ])
 refine yW (fun N st=>∃ k,k + N = l.length /\ st.s 1 = .p (I n) /\ st.s 7 = .p (.sl 1 (ints l)) /\ st.s 8 = .p (I l.length) /\ st.s 9 = .p (I k) /\ (n ∈ l ↔ n ∈ l.drop k)) l.length ⟨0,by simp⟩ fun K N st hL ⟨k,hk,h1,h7,h8,h9,hi⟩=>?_
 by_cases hlt : k < l.length
 ·have hw := yV k _ hlt hlen
  have he:=ints_get hlt
  rw [List.drop_eq_getElem_cons hlt,List.mem_cons] at hi
  repeat' first|(refine hK _ ?_;clear hK)|(refine zU fun K hK=>?_)|(refine zT ?_;simp only [uP,uO,strip])|((first | refine wOs fun K hK=>?_ | refine zX ?_);simp [h1,h7,h8,h9,hlt,hw])|(first | refine zW ?_)|((first | refine zN ?_ | refine zR ?_);try simp)|(refine wOn ?_;try simp only [zZ])|(refine And.intro (fun hc=>?_) (fun hc=>?_))
  ·apply hr
   simp [Tryz.f71]
   rw [hi];exact .inl hc.symm
  ·refine hL _ (N - 1) (by omega) ⟨k + 1, by omega, ?_⟩
   have hc' : ¬ n = l[k]:=fun h=>hc h.symm
   simp [h1,h7,h8]
   rw [hi];simp [hc']
 ·have hd : l.drop k = [] := List.drop_of_length_le (by omega)
  rw [hd] at hi
  repeat' first|(refine hK _ ?_;clear hK)|(clear hK;refine hK _ ?_;clear hK)|(refine zU fun K hK=>?_)|(refine zT ?_;simp only [uP,uO,strip])|((first | refine wOs fun K hK=>?_ | refine zX ?_);simp [h8,h9,hlt])|((first | refine zN ?_ | refine zH ?_);try simp)|(refine wOn ?_;try simp only [zZ])
  apply hr
  simp [Tryz.f71]
  simpa using hi
structure Mb where
 (i r w g : Int)
 deriving DecidableEq
def Mb.cells (m : Mb) : List PV := [I m.i, I m.r, I m.w, I m.g]
def mbs (l : List Mb) : List (List PV) := l.map Mb.cells
@[simp] theorem vL (l : List Mb) : (mbs l).length = l.length := by simp [mbs]
@[simp] theorem mbs_getElem (l : List Mb) (k : Nat) (h : k < (mbs l).length) : (mbs l)[k] = [I (l[k]'(by simpa using h)).i, I (l[k]'(by simpa using h)).r, I (l[k]'(by simpa using h)).w, I (l[k]'(by simpa using h)).g] := by simp [mbs, Mb.cells]
theorem mbs_get {l : List Mb} {k : Nat} (h : k < l.length) : (mbs l)[k]? = some [I l[k].i, I l[k].r, I l[k].w, I l[k].g] := by simp [mbs, h, Mb.cells]
structure Cf where
 (ep n kind : Int)
 ms : List Mb
def Cf.cells (c : Cf) : List PV := [I c.ep, I c.n, I c.kind, .sl 4 (mbs c.ms)]
def okM (m : Mb) : Prop := (0 <= m.i /\ m.i <= 15) /\ (m.r = 1 \/ m.r = 2) /\ (0 <= m.w /\ m.w <= 100) /\ (0 <= m.g /\ m.g <= 7)
instance (m : Mb) : Decidable (okM m) := by unfold okM; infer_instance
theorem within_con (n l : Int) : zG Tryz.prog 156 [.p (I n), .p (I l)] (.p (B (decide (0 <= n /\ n <= l)))) := by
 by_cases h : 0 <= n
 ·refine zL Tryz.tab Tryz.mixed Tryz.func156 rfl rfl Tryz.ntmps156 (by simp) (by simp) fun Q hr hn => ?_
  repeat' first|(refine hK _ ?_;clear hK)|(refine zU fun K hK=>?_)|(refine zT ?_;simp only [uP,uO,strip])|(refine wOs fun K hK=>?_;simp [h])|(refine zN ?_;try simp)|(refine wOn ?_;try simp only [zZ])
  all_goals apply hr
  all_goals simp [Tryz.f156,h]
 ·refine zL Tryz.tab Tryz.mixed Tryz.func156 rfl rfl Tryz.ntmps156 (by simp) (by simp) fun Q hr hn => ?_
  repeat' first|(refine hK _ ?_;clear hK)|(refine zU fun K hK=>?_)|(refine zT ?_;simp only [uP,uO,strip])|(refine wOs fun K hK=>?_;simp [h])|(refine zN ?_;try simp)|(refine wOn ?_;try simp only [zZ])
  all_goals apply hr
  all_goals simp [Tryz.f156,h]
theorem right_con (m : Mb) : zG Tryz.prog 157 [.p (.agg m.cells)] (.p (B (decide (okM m)))) := by
 obtain ⟨i,r,w,g⟩:=m
 simp only [Mb.cells,okM]
 have c1:=within_con i 15
 have c2:=within_con w 100
 have c3:=within_con g 7
 by_cases h1 : 0 <= i /\ i <= 15
 ·rw [decide_eq_true h1] at c1
  by_cases h2 : r = 1
  ·by_cases h3 : 0 <= w /\ w <= 100
   ·rw [decide_eq_true h3] at c2
    refine zL Tryz.tab Tryz.mixed Tryz.func157 rfl rfl Tryz.ntmps157 (by simp) (by simp) fun Q hr hn=>?_
    repeat' first|(refine hK _ ?_;clear hK)|(refine zU fun K hK=>?_)|(refine zT ?_;simp only [uP,uO,strip])|((first | refine wOs fun K hK=>?_ | refine zY ?_);simp [h2])|(refine zN ?_;try simp)|(refine wOn ?_;try simp only [zZ])|(refine zQ.pure (c1) rfl ?_)|(refine zQ.pure (c2) rfl ?_)|(refine zQ.pure (c3) rfl ?_)
    all_goals apply hr
    all_goals simp [Tryz.f157,h1,h2,h3]
   ·rw [decide_eq_false h3] at c2
    refine zL Tryz.tab Tryz.mixed Tryz.func157 rfl rfl Tryz.ntmps157 (by simp) (by simp) fun Q hr hn=>?_
    repeat' first|(refine hK _ ?_;clear hK)|(refine zU fun K hK=>?_)|(refine zT ?_;simp only [uP,uO,strip])|((first | refine wOs fun K hK=>?_ | refine zY ?_);simp [h2])|(refine zN ?_;try simp)|(refine wOn ?_;try simp only [zZ])|(refine zQ.pure (c1) rfl ?_)|(refine zQ.pure (c2) rfl ?_)
    all_goals apply hr
    all_goals simp [Tryz.f157,h1,h2,h3]
  ·by_cases h2' : r = 2
   ·by_cases h3 : 0 <= w /\ w <= 100
    ·rw [decide_eq_true h3] at c2
     refine zL Tryz.tab Tryz.mixed Tryz.func157 rfl rfl Tryz.ntmps157 (by simp) (by simp) fun Q hr hn=>?_
     repeat' first|(refine hK _ ?_;clear hK)|(refine zU fun K hK=>?_)|(refine zT ?_;simp only [uP,uO,strip])|((first | refine wOs fun K hK=>?_ | refine zY ?_);simp [h2'])|(refine zN ?_;try simp)|(refine wOn ?_;try simp only [zZ])|(refine zQ.pure (c1) rfl ?_)|(refine zQ.pure (c2) rfl ?_)|(refine zQ.pure (c3) rfl ?_)
     all_goals apply hr
     all_goals simp [Tryz.f157,h1,h2',h3]
    ·rw [decide_eq_false h3] at c2
     refine zL Tryz.tab Tryz.mixed Tryz.func157 rfl rfl Tryz.ntmps157 (by simp) (by simp) fun Q hr hn=>?_
     repeat' first|(refine hK _ ?_;clear hK)|(refine zU fun K hK=>?_)|(refine zT ?_;simp only [uP,uO,strip])|((first | refine wOs fun K hK=>?_ | refine zY ?_);simp [h2'])|(refine zN ?_;try simp)|(refine wOn ?_;try simp only [zZ])|(refine zQ.pure (c1) rfl ?_)|(refine zQ.pure (c2) rfl ?_)
     all_goals apply hr
     all_goals simp [Tryz.f157,h1,h2',h3]
   ·refine zL Tryz.tab Tryz.mixed Tryz.func157 rfl rfl Tryz.ntmps157 (by simp) (by simp) fun Q hr hn => ?_
    repeat' first|(refine hK _ ?_;clear hK)|(refine zU fun K hK=>?_)|(refine zT ?_;simp only [uP,uO,strip])|((first | refine wOs fun K hK=>?_ | refine zY ?_);simp [h2,h2'])|(refine zN ?_;try simp)|(refine wOn ?_;try simp only [zZ])|(refine zQ.pure (c1) rfl ?_)
    all_goals apply hr
    all_goals simp [Tryz.f157,h1,h2,h2']
 ·rw [decide_eq_false h1] at c1
  refine zL Tryz.tab Tryz.mixed Tryz.func157 rfl rfl Tryz.ntmps157 (by simp) (by simp) fun Q hr hn=>?_
  repeat' first|(refine hK _ ?_;clear hK)|(refine zU fun K hK=>?_)|(refine zT ?_;simp only [uP,uO,strip])|((first | refine wOs fun K hK=>?_ | refine zY ?_);simp)|(refine zN ?_;try simp)|(refine wOn ?_;try simp only [zZ])|(refine zQ.pure (c1) rfl ?_)
  all_goals apply hr
  all_goals simp [Tryz.f157,h1]
set_option maxHeartbeats 8000000 in
theorem ok04_con (m : Mb) : zG Tryz.prog 61 [.p (.agg m.cells)] (.p (B (decide (okM m)))) := by
 obtain ⟨i,r,w,g⟩:=m
 simp only [Mb.cells,okM]
 by_cases h1 : 0 <= i
 ·by_cases h2 : i < 16
  ·by_cases h3 : r = 1
   ·by_cases h4 : 0 <= w
    ·by_cases h5 : w <= 100
     ·by_cases h6 : 0 <= g
      ·refine zL Tryz.tab Tryz.mixed Tryz.func61 rfl rfl Tryz.ntmps61 (by simp) (by simp) fun Q hr hn => ?_
       repeat' first|(refine hK _ ?_;clear hK)|(refine zU fun K hK=>?_)|(refine zT ?_;simp only [uP,uO,strip])|(refine wOs fun K hK=>?_;simp [h1,h2,h3,h4,h5,h6])|(refine zN ?_;try simp)|(refine wOn ?_;try simp only [zZ])
       all_goals apply hr
       all_goals simp [Tryz.f61,h1,h3,h4,h5,h6]
       all_goals omega
      ·refine zL Tryz.tab Tryz.mixed Tryz.func61 rfl rfl Tryz.ntmps61 (by simp) (by simp) fun Q hr hn => ?_
       repeat' first|(refine hK _ ?_;clear hK)|(refine zU fun K hK=>?_)|(refine zT ?_;simp only [uP,uO,strip])|(refine wOs fun K hK=>?_;simp [h1,h2,h3,h4,h5,h6])|(refine zN ?_;try simp)|(refine wOn ?_;try simp only [zZ])
       all_goals apply hr
       all_goals simp [Tryz.f61,h1,h3,h4,h5,h6]
     ·refine zL Tryz.tab Tryz.mixed Tryz.func61 rfl rfl Tryz.ntmps61 (by simp) (by simp) fun Q hr hn => ?_
      repeat' first|(refine hK _ ?_;clear hK)|(refine zU fun K hK=>?_)|(refine zT ?_;simp only [uP,uO,strip])|(refine wOs fun K hK=>?_;simp [h1,h2,h3,h4,h5])|(refine zN ?_;try simp)|(refine wOn ?_;try simp only [zZ])
      all_goals apply hr
      all_goals simp [Tryz.f61,h1,h3,h4,h5]
    ·refine zL Tryz.tab Tryz.mixed Tryz.func61 rfl rfl Tryz.ntmps61 (by simp) (by simp) fun Q hr hn => ?_
     repeat' first|(refine hK _ ?_;clear hK)|(refine zU fun K hK=>?_)|(refine zT ?_;simp only [uP,uO,strip])|(refine wOs fun K hK=>?_;simp [h1,h2,h3,h4])|(refine zN ?_;try simp)|(refine wOn ?_;try simp only [zZ])
     all_goals apply hr
     all_goals simp [Tryz.f61,h1,h3,h4]
   ·by_cases h3' : r = 2
    ·by_cases h4 : 0 <= w
     ·by_cases h5 : w <= 100
      ·by_cases h6 : 0 <= g
       ·refine zL Tryz.tab Tryz.mixed Tryz.func61 rfl rfl Tryz.ntmps61 (by simp) (by simp) fun Q hr hn => ?_
        repeat' first|(refine hK _ ?_;clear hK)|(refine zU fun K hK=>?_)|(refine zT ?_;simp only [uP,uO,strip])|(refine wOs fun K hK=>?_;simp [h1,h2,h3',h4,h5,h6])|(refine zN ?_;try simp)|(refine wOn ?_;try simp only [zZ])
        all_goals apply hr
        all_goals simp [Tryz.f61,h1,h3',h4,h5,h6]
        all_goals omega
       ·refine zL Tryz.tab Tryz.mixed Tryz.func61 rfl rfl Tryz.ntmps61 (by simp) (by simp) fun Q hr hn => ?_
        repeat' first|(refine hK _ ?_;clear hK)|(refine zU fun K hK=>?_)|(refine zT ?_;simp only [uP,uO,strip])|(refine wOs fun K hK=>?_;simp [h1,h2,h3',h4,h5,h6])|(refine zN ?_;try simp)|(refine wOn ?_;try simp only [zZ])
        all_goals apply hr
        all_goals simp [Tryz.f61,h1,h3',h4,h5,h6]
      ·refine zL Tryz.tab Tryz.mixed Tryz.func61 rfl rfl Tryz.ntmps61 (by simp) (by simp) fun Q hr hn => ?_
       repeat' first|(refine hK _ ?_;clear hK)|(refine zU fun K hK=>?_)|(refine zT ?_;simp only [uP,uO,strip])|(refine wOs fun K hK=>?_;simp [h1,h2,h3',h4,h5])|(refine zN ?_;try simp)|(refine wOn ?_;try simp only [zZ])
       all_goals apply hr
       all_goals simp [Tryz.f61,h1,h3',h4,h5]
     ·refine zL Tryz.tab Tryz.mixed Tryz.func61 rfl rfl Tryz.ntmps61 (by simp) (by simp) fun Q hr hn => ?_
      repeat' first|(refine hK _ ?_;clear hK)|(refine zU fun K hK=>?_)|(refine zT ?_;simp only [uP,uO,strip])|(refine wOs fun K hK=>?_;simp [h1,h2,h3',h4])|(refine zN ?_;try simp)|(refine wOn ?_;try simp only [zZ])
      all_goals apply hr
      all_goals simp [Tryz.f61,h1,h3',h4]
    ·refine zL Tryz.tab Tryz.mixed Tryz.func61 rfl rfl Tryz.ntmps61 (by simp) (by simp) fun Q hr hn => ?_
     repeat' first|(refine hK _ ?_;clear hK)|(refine zU fun K hK=>?_)|(refine zT ?_;simp only [uP,uO,strip])|(refine wOs fun K hK=>?_;simp [h1,h2,h3,h3'])|(refine zN ?_;try simp)|(refine wOn ?_;try simp only [zZ])
     all_goals apply hr
     all_goals simp [Tryz.f61,h1,h3,h3']
  ·refine zL Tryz.tab Tryz.mixed Tryz.func61 rfl rfl Tryz.ntmps61 (by simp) (by simp) fun Q hr hn => ?_
   repeat' first|(refine hK _ ?_;clear hK)|(refine zU fun K hK=>?_)|(refine zT ?_;simp only [uP,uO,strip])|(refine wOs fun K hK=>?_;simp [h1,h2])|(refine zN ?_;try simp)|(refine wOn ?_;try simp only [zZ])
   all_goals apply hr
   all_goals simp [Tryz.f61,h1]
   all_goals omega
 ·refine zL Tryz.tab Tryz.mixed Tryz.func61 rfl rfl Tryz.ntmps61 (by simp) (by simp) fun Q hr hn => ?_
  repeat' first|(refine hK _ ?_;clear hK)|(refine zU fun K hK=>?_)|(refine zT ?_;simp only [uP,uO,strip])|(refine wOs fun K hK=>?_;simp [h1])|(refine zN ?_;try simp)|(refine wOn ?_;try simp only [zZ])
  all_goals apply hr
  all_goals simp [Tryz.f61,h1]
theorem Mb.ext4 {x y : Mb} : x = y ↔ x.i = y.i /\ x.r = y.r /\ x.w = y.w /\ x.g = y.g := by cases x; cases y; simp
theorem Cf.ext4 {x y : Cf} : x = y ↔ x.ep = y.ep /\ x.n = y.n /\ x.kind = y.kind /\ x.ms = y.ms := by cases x; cases y; simp
instance : DecidableEq Cf := fun x y => decidable_of_iff _ Cf.ext4.symm
theorem cfSame04_con (a b : Cf) : zG Tryz.prog 73 [.p (.agg a.cells), .p (.agg b.cells)] (.p (B (decide (a = b)))) := by
 unfold Cf.cells
 refine zG.lenA ⟨Tryz.f73,Tryz.func73,rfl,rfl⟩ 0 3 4 (mbs a.ms) _ rfl rfl fun hlen=>?_
 simp only [vL] at hlen
 by_cases o1 : a.ep = b.ep
 rotate_left
 ·rw [decide_eq_false fun h => o1 (by rw [h])]
  refine zL Tryz.tab Tryz.mixed Tryz.func73 rfl rfl Tryz.ntmps73 (by simp) (by simp) fun Q hr hn=>?_
  repeat' first|(refine hK _ ?_;clear hK)|(refine zU fun K hK=>?_)|(refine zT ?_;simp only [uP,uO,strip])|((first | refine wOs fun K hK=>?_ | refine zX ?_);simp [o1])|(refine zN ?_;try simp)|(refine wOn ?_;try simp only [zZ])
  all_goals apply hr
  all_goals simp [Tryz.f73]
 by_cases o2 : a.n = b.n
 rotate_left
 ·rw [decide_eq_false fun h => o2 (by rw [h])]
  refine zL Tryz.tab Tryz.mixed Tryz.func73 rfl rfl Tryz.ntmps73 (by simp) (by simp) fun Q hr hn=>?_
  repeat' first|(refine hK _ ?_;clear hK)|(refine zU fun K hK=>?_)|(refine zT ?_;simp only [uP,uO,strip])|((first | refine wOs fun K hK=>?_ | refine zX ?_);simp [o1,o2])|(refine zN ?_;try simp)|(refine wOn ?_;try simp only [zZ])
  all_goals apply hr
  all_goals simp [Tryz.f73]
 by_cases o3 : a.kind = b.kind
 rotate_left
 ·rw [decide_eq_false fun h => o3 (by rw [h])]
  refine zL Tryz.tab Tryz.mixed Tryz.func73 rfl rfl Tryz.ntmps73 (by simp) (by simp) fun Q hr hn=>?_
  repeat' first|(refine hK _ ?_;clear hK)|(refine zU fun K hK=>?_)|(refine zT ?_;simp only [uP,uO,strip])|((first | refine wOs fun K hK=>?_ | refine zX ?_);simp [o1,o2,o3])|(refine zN ?_;try simp)|(refine wOn ?_;try simp only [zZ])
  all_goals apply hr
  all_goals simp [Tryz.f73]
 by_cases o4 : a.ms.length = b.ms.length
 rotate_left
 ·rw [decide_eq_false fun h => o4 (by rw [h])]
  have o4' : ¬ (a.ms.length : Int) = b.ms.length:=by omega
  refine zL Tryz.tab Tryz.mixed Tryz.func73 rfl rfl Tryz.ntmps73 (by simp) (by simp) fun Q hr hn=>?_
  repeat' first|(refine hK _ ?_;clear hK)|(refine zU fun K hK=>?_)|(refine zT ?_;simp only [uP,uO,strip])|((first | refine wOs fun K hK=>?_ | refine zX ?_);simp [o1,o2,o3,o4'])|(refine zN ?_;try simp)|(refine wOn ?_;try simp only [zZ])
  all_goals apply hr
  all_goals simp [Tryz.f73]
 have hd : (a = b) ↔ a.ms = b.ms:=by rw [Cf.ext4];simp [o1,o2,o3]
 refine zL Tryz.tab Tryz.mixed Tryz.func73 rfl rfl Tryz.ntmps73 (by simp) (by simp) fun Q hr hn=>?_
 repeat' first|(refine hK _ ?_;clear hK)|(refine zU fun K hK=>?_)|(refine zT ?_;simp only [uP,uO,strip])|((first | refine wOs fun K hK=>?_ | refine zX ?_);simp [o1,o2,o3,o4])|(first | refine zW ?_)|(refine zR ?_;try simp)|(refine wOn ?_;try simp only [zZ])
 refine yW (fun N st=>∃ k,k + N = a.ms.length /\ st.s 2 = .ptr 2 0 /\ st.s 3 = .ptr 3 0 /\ st.s 29 = .p (I a.ms.length) /\ st.s 30 = .p (I k) /\ st.b 2 = some (.box 28 [.p (I a.ep),.p (I a.n),.p (I a.kind),.p (.sl 4 (mbs a.ms))]) /\ st.b 3 = some (.box 28 [.p (I b.ep),.p (I b.n),.p (I b.kind),.p (.sl 4 (mbs b.ms))]) /\ (a.ms = b.ms ↔ a.ms.drop k = b.ms.drop k)) a.ms.length ⟨0,by simp [o1,o2,o3,o4]⟩ fun K N st hL ⟨k,hk,g2,g3,g29,g30,b2,b3,hi⟩=>?_
 by_cases hlt : k < a.ms.length
 ·have hlt' : k < b.ms.length := by omega
  have hw:=yV k _ hlt hlen
  have h1:=mbs_get hlt
  have h2:=mbs_get hlt'
  rw [List.drop_eq_getElem_cons hlt,List.drop_eq_getElem_cons hlt',List.cons.injEq,Mb.ext4] at hi
  by_cases o : a.ms[k].i = b.ms[k].i /\ a.ms[k].r = b.ms[k].r /\ a.ms[k].w = b.ms[k].w /\ a.ms[k].g = b.ms[k].g
  ·rw [and_iff_right o] at hi
   obtain ⟨q1,q2,q3,q4⟩:=o
   repeat' first|(refine hK _ ?_;clear hK)|(refine zU fun K hK=>?_)|((first | refine zT ?_ | refine zE rfl (by kernel_rfl) ?_);simp only [uP,uO,strip])|((first | refine wOs fun K hK=>?_ | refine wQs fun K hK=>?_ | refine zX ?_);simp [g2,g3,g29,g30,b2,b3,hlt,hlt',hw,q1,q2,q3,q4])|(first | refine zW ?_)|(refine zR ?_;try simp)|((first | refine wOn ?_ | refine wQn ?_);try simp only [zZ])
   refine hL _ (N - 1) (by omega) ⟨k + 1,by omega,?_⟩
   simp [g2,g3,g29,b2,b3,o1,o2,o3,o4]
   exact hi
  ·rw [show decide (a = b) = false from decide_eq_false fun h => o (hi.1 (hd.1 h)).1] at hr
   repeat' first|(refine hK _ ?_;clear hK)|(refine zU fun K hK=>?_)|((first | refine zT ?_ | refine zE rfl (by kernel_rfl) ?_);simp only [uP,uO,strip])|((first | refine wOs fun K hK=>?_ | refine wQs fun K hK=>?_ | refine zX ?_);simp [g2,g3,g29,g30,b2,b3,hlt,hlt',o])|(first | refine zW ?_)|((first | refine zN ?_ | refine zR ?_);try simp)|((first | refine wOn ?_ | refine wQn ?_);try simp only [zZ])|(intro _)
   all_goals first | skip
   all_goals apply hr
   all_goals simp [Tryz.f73]
 ·rw [List.drop_of_length_le (by omega), List.drop_of_length_le (by omega)] at hi
  rw [show decide (a = b) = true from decide_eq_true (hd.2 (hi.2 rfl))] at hr
  repeat' first|(refine hK _ ?_;clear hK)|(clear hK;refine hK _ ?_;clear hK)|(refine zU fun K hK=>?_)|(refine zT ?_;simp only [uP,uO,strip])|((first | refine wOs fun K hK=>?_ | refine zX ?_);simp [g29,g30,hlt])|((first | refine zN ?_ | refine zH ?_);try simp)|(refine wOn ?_;try simp only [zZ])
  all_goals apply hr
  all_goals simp [Tryz.f73]
structure Pt where
 (k : Int)
 (z : Zn)
 (s : Int)
 (c : Cf)
 deriving DecidableEq
def Pt.cells (x : Pt) : List PV := [I x.k, SB x.z.p, SB x.z.d, I x.z.v, I x.z.k, I x.z.o, I x.s, I x.c.ep, I x.c.n, I x.c.kind, .sl 4 (mbs x.c.ms)]
theorem Pt.ext8 {x y : Pt} : x = y ↔ x.k = y.k /\ x.z.p = y.z.p /\ x.z.d = y.z.d /\ x.z.v = y.z.v /\ x.z.k = y.z.k /\ x.z.o = y.z.o /\ x.s = y.s /\ x.c = y.c := by
 cases x;cases y;simp only [Pt.mk.injEq,Zn.ext5];simp only [and_assoc]
def pts (l : List Pt) : List (List PV) := l.map Pt.cells
@[simp] theorem pts_len (l : List Pt) : (pts l).length = l.length := by simp [pts]
@[simp] theorem pts_getElem (l : List Pt) (k : Nat) (h : k < (pts l).length) : (pts l)[k] = (l[k]'(by simpa using h)).cells := by simp [pts]
theorem pts_get {l : List Pt} {k : Nat} (h : k < l.length) : (pts l)[k]? = some [I l[k].k, SB l[k].z.p, SB l[k].z.d, I l[k].z.v, I l[k].z.k, I l[k].z.o, I l[k].s, I l[k].c.ep, I l[k].c.n, I l[k].c.kind, .sl 4 (mbs l[k].c.ms)] := by simp [pts, h, Pt.cells]
structure Sv where
 (ns : List Zn)
 (ss : List Int)
 (nx : Int)
 (c : Cf)
 (ae an : Int)
 deriving DecidableEq
def Sv.cells (s : Sv) : List PV := [.sl 5 (zns s.ns), .sl 1 (ints s.ss), I s.nx, I s.c.ep, I s.c.n, I s.c.kind, .sl 4 (mbs s.c.ms), I s.ae, I s.an]
structure Tx where
 (e n s x r b : Int)
 (m : List UInt8)
 (ps : List Pt)
 deriving DecidableEq
def Tx.cells (t : Tx) : List PV := [I t.e, I t.n, I t.s, I t.x, I t.r, I t.b, SB t.m, .sl 11 (pts t.ps)]
theorem Tx.ext8 {x y : Tx} : x = y ↔ x.e = y.e /\ x.n = y.n /\ x.s = y.s /\ x.x = y.x /\ x.r = y.r /\ x.b = y.b /\ x.m = y.m /\ x.ps = y.ps := by cases x; cases y; simp
attribute [-simp] pts_getElem
@[simp] theorem pts_getE (l : List Pt) (k : Nat) (h : k < (pts l).length) : (pts l)[k] = [I (l[k]'(by simpa using h)).k, SB (l[k]'(by simpa using h)).z.p, SB (l[k]'(by simpa using h)).z.d, I (l[k]'(by simpa using h)).z.v, I (l[k]'(by simpa using h)).z.k, I (l[k]'(by simpa using h)).z.o, I (l[k]'(by simpa using h)).s, I (l[k]'(by simpa using h)).c.ep, I (l[k]'(by simpa using h)).c.n, I (l[k]'(by simpa using h)).c.kind, .sl 4 (mbs (l[k]'(by simpa using h)).c.ms)] := by simp [pts, Pt.cells]
set_option maxHeartbeats 4000000 in
theorem sameT08_con (x y : Tx) : zG Tryz.prog 41 [.p (.agg x.cells), .p (.agg y.cells)] (.p (B (decide (x = y)))) := by
 unfold Tx.cells
 refine zG.lenA ⟨Tryz.f41,Tryz.func41,rfl,rfl⟩ 0 7 11 (pts x.ps) _ rfl rfl fun hlen=>?_
 simp only [pts_len] at hlen
 by_cases o0 : x.e = y.e
 rotate_left
 ·rw [decide_eq_false fun h => o0 (by rw [h])]
  refine zL Tryz.tab Tryz.mixed Tryz.func41 rfl rfl Tryz.ntmps41 (by simp) (by simp) fun Q hr hn=>?_
  repeat' first|(refine hK _ ?_;clear hK)|(refine zU fun K hK=>?_)|(refine zT ?_;simp only [uP,uO,strip])|((first | refine wOs fun K hK=>?_ | refine zX ?_);simp [o0])|(refine zN ?_;try simp)|(refine wOn ?_;try simp only [zZ])
  all_goals apply hr
  all_goals simp [Tryz.f41]
 by_cases o1 : x.n = y.n
 rotate_left
 ·rw [decide_eq_false fun h => o1 (by rw [h])]
  refine zL Tryz.tab Tryz.mixed Tryz.func41 rfl rfl Tryz.ntmps41 (by simp) (by simp) fun Q hr hn=>?_
  repeat' first|(refine hK _ ?_;clear hK)|(refine zU fun K hK=>?_)|(refine zT ?_;simp only [uP,uO,strip])|((first | refine wOs fun K hK=>?_ | refine zX ?_);simp [o0,o1])|(refine zN ?_;try simp)|(refine wOn ?_;try simp only [zZ])
  all_goals apply hr
  all_goals simp [Tryz.f41]
 by_cases o2 : x.s = y.s
 rotate_left
 ·rw [decide_eq_false fun h => o2 (by rw [h])]
  refine zL Tryz.tab Tryz.mixed Tryz.func41 rfl rfl Tryz.ntmps41 (by simp) (by simp) fun Q hr hn=>?_
  repeat' first|(refine hK _ ?_;clear hK)|(refine zU fun K hK=>?_)|(refine zT ?_;simp only [uP,uO,strip])|((first | refine wOs fun K hK=>?_ | refine zX ?_);simp [o0,o1,o2])|(refine zN ?_;try simp)|(refine wOn ?_;try simp only [zZ])
  all_goals apply hr
  all_goals simp [Tryz.f41]
 by_cases o3 : x.x = y.x
 rotate_left
 ·rw [decide_eq_false fun h => o3 (by rw [h])]
  refine zL Tryz.tab Tryz.mixed Tryz.func41 rfl rfl Tryz.ntmps41 (by simp) (by simp) fun Q hr hn=>?_
  repeat' first|(refine hK _ ?_;clear hK)|(refine zU fun K hK=>?_)|(refine zT ?_;simp only [uP,uO,strip])|((first | refine wOs fun K hK=>?_ | refine zX ?_);simp [o0,o1,o2,o3])|(refine zN ?_;try simp)|(refine wOn ?_;try simp only [zZ])
  all_goals apply hr
  all_goals simp [Tryz.f41]
 by_cases o4 : x.r = y.r
 rotate_left
 ·rw [decide_eq_false fun h => o4 (by rw [h])]
  refine zL Tryz.tab Tryz.mixed Tryz.func41 rfl rfl Tryz.ntmps41 (by simp) (by simp) fun Q hr hn=>?_
  repeat' first|(refine hK _ ?_;clear hK)|(refine zU fun K hK=>?_)|(refine zT ?_;simp only [uP,uO,strip])|((first | refine wOs fun K hK=>?_ | refine zX ?_);simp [o0,o1,o2,o3,o4])|(refine zN ?_;try simp)|(refine wOn ?_;try simp only [zZ])
  all_goals apply hr
  all_goals simp [Tryz.f41]
 by_cases o5 : x.b = y.b
 rotate_left
 ·rw [decide_eq_false fun h => o5 (by rw [h])]
  refine zL Tryz.tab Tryz.mixed Tryz.func41 rfl rfl Tryz.ntmps41 (by simp) (by simp) fun Q hr hn=>?_
  repeat' first|(refine hK _ ?_;clear hK)|(refine zU fun K hK=>?_)|(refine zT ?_;simp only [uP,uO,strip])|((first | refine wOs fun K hK=>?_ | refine zX ?_);simp [o0,o1,o2,o3,o4,o5])|(refine zN ?_;try simp)|(refine wOn ?_;try simp only [zZ])
  all_goals apply hr
  all_goals simp [Tryz.f41]
 by_cases o6 : x.m = y.m
 rotate_left
 ·rw [decide_eq_false fun h => o6 (by rw [h])]
  refine zL Tryz.tab Tryz.mixed Tryz.func41 rfl rfl Tryz.ntmps41 (by simp) (by simp) fun Q hr hn=>?_
  repeat' first|(refine hK _ ?_;clear hK)|(refine zU fun K hK=>?_)|(refine zT ?_;simp only [uP,uO,strip])|((first | refine wOs fun K hK=>?_ | refine zX ?_);simp [o0,o1,o2,o3,o4,o5,o6])|(refine zN ?_;try simp)|(refine wOn ?_;try simp only [zZ])
  all_goals apply hr
  all_goals simp [Tryz.f41]
 by_cases o7 : x.ps.length = y.ps.length
 rotate_left
 ·rw [decide_eq_false fun h => o7 (by rw [h])]
  have o7' : ¬ (x.ps.length : Int) = y.ps.length:=by omega
  refine zL Tryz.tab Tryz.mixed Tryz.func41 rfl rfl Tryz.ntmps41 (by simp) (by simp) fun Q hr hn=>?_
  repeat' first|(refine hK _ ?_;clear hK)|(refine zU fun K hK=>?_)|(refine zT ?_;simp only [uP,uO,strip])|((first | refine wOs fun K hK=>?_ | refine zX ?_);simp [o0,o1,o2,o3,o4,o5,o6,o7'])|(refine zN ?_;try simp)|(refine wOn ?_;try simp only [zZ])
  all_goals apply hr
  all_goals simp [Tryz.f41]
 have hd : (x = y) ↔ x.ps = y.ps:=by rw [Tx.ext8];simp [o0,o1,o2,o3,o4,o5,o6]
 refine zL Tryz.tab Tryz.mixed Tryz.func41 rfl rfl Tryz.ntmps41 (by simp) (by simp) fun Q hr hn=>?_
 repeat' first|(refine hK _ ?_;clear hK)|(refine zU fun K hK=>?_)|(refine zT ?_;simp only [uP,uO,strip])|((first | refine wOs fun K hK=>?_ | refine zX ?_);simp [o0,o1,o2,o3,o4,o5,o6,o7])|(first | refine zW ?_)|(refine zR ?_;try simp)|(refine wOn ?_;try simp only [zZ])
 refine yW (fun N st=>∃ k,k + N = x.ps.length /\ st.s 2 = .ptr 2 0 /\ st.s 3 = .ptr 3 0 /\ st.s 59 = .p (I x.ps.length) /\ st.s 60 = .p (I k) /\ st.b 2 = some (.box 58 [.p (I x.e),.p (I x.n),.p (I x.s),.p (I x.x),.p (I x.r),.p (I x.b),.p (SB x.m),.p (.sl 11 (pts x.ps))]) /\ st.b 3 = some (.box 58 [.p (I y.e),.p (I y.n),.p (I y.s),.p (I y.x),.p (I y.r),.p (I y.b),.p (SB y.m),.p (.sl 11 (pts y.ps))]) /\ (x.ps = y.ps ↔ x.ps.drop k = y.ps.drop k)) x.ps.length ⟨0,by simp [o0,o1,o2,o3,o4,o5,o6,o7]⟩ fun K N st hL ⟨k,hk,g2,g3,g59,g60,b2,b3,hi⟩=>?_
 by_cases hlt : k < x.ps.length
 ·have hlt' : k < y.ps.length := by omega
  have hw:=yV k _ hlt hlen
  have h1:=pts_get hlt
  have h2:=pts_get hlt'
  have c:=cfSame04_con x.ps[k].c y.ps[k].c
  unfold Cf.cells at c
  rw [List.drop_eq_getElem_cons hlt,List.drop_eq_getElem_cons hlt',List.cons.injEq] at hi
  have hn : ¬ x.ps[k] = y.ps[k] -> decide (x = y) = false:=fun o=>decide_eq_false fun h=>o (hi.1 (hd.1 h)).1
  generalize hb : decide (x.ps[k].c = y.ps[k].c) = b at c
  by_cases q0 : x.ps[k].k = y.ps[k].k
  rotate_left
  ·rw [hn fun h => q0 (by rw [h])] at hr
   repeat' first|(refine hK _ ?_;clear hK)|(refine hK _ _ ?_;clear hK)|(refine zU fun K hK=>?_)|((first | refine zT ?_ | refine yI ?_);simp only [uP,uO,strip])|((first | refine wIs fun K hK=>?_ | refine wOs fun K hK=>?_ | refine zX ?_);simp [g2,g3,g59,g60,b2,b3,hlt,hlt',q0])|(refine wIn ?_;refine And.intro (by kernel_rfl) ?_;try simp only [zZ])|(first | refine zW ?_)|((first | refine zN ?_ | refine zR ?_);try simp)|(refine wOn ?_;try simp only [zZ])
   all_goals apply hr
   all_goals simp [Tryz.f41]
  by_cases q1 : x.ps[k].z.p = y.ps[k].z.p
  rotate_left
  ·rw [hn fun h => q1 (by rw [h])] at hr
   repeat' first|(refine hK _ ?_;clear hK)|(refine hK _ _ ?_;clear hK)|(refine zU fun K hK=>?_)|((first | refine zT ?_ | refine yI ?_);simp only [uP,uO,strip])|((first | refine wIs fun K hK=>?_ | refine wOs fun K hK=>?_ | refine zX ?_);simp [g2,g3,g59,g60,b2,b3,hlt,hlt',q0,q1])|(refine wIn ?_;refine And.intro (by kernel_rfl) ?_;try simp only [zZ])|(first | refine zW ?_)|((first | refine zN ?_ | refine zR ?_);try simp)|(refine wOn ?_;try simp only [zZ])
   all_goals apply hr
   all_goals simp [Tryz.f41]
  by_cases q2 : x.ps[k].z.d = y.ps[k].z.d
  rotate_left
  ·rw [hn fun h => q2 (by rw [h])] at hr
   repeat' first|(refine hK _ ?_;clear hK)|(refine hK _ _ ?_;clear hK)|(refine zU fun K hK=>?_)|((first | refine zT ?_ | refine yI ?_);simp only [uP,uO,strip])|((first | refine wIs fun K hK=>?_ | refine wOs fun K hK=>?_ | refine zX ?_);simp [g2,g3,g59,g60,b2,b3,hlt,hlt',q0,q1,q2])|(refine wIn ?_;refine And.intro (by kernel_rfl) ?_;try simp only [zZ])|(first | refine zW ?_)|((first | refine zN ?_ | refine zR ?_);try simp)|(refine wOn ?_;try simp only [zZ])
   all_goals apply hr
   all_goals simp [Tryz.f41]
  by_cases q3 : x.ps[k].z.v = y.ps[k].z.v
  rotate_left
  ·rw [hn fun h => q3 (by rw [h])] at hr
   repeat' first|(refine hK _ ?_;clear hK)|(refine hK _ _ ?_;clear hK)|(refine zU fun K hK=>?_)|((first | refine zT ?_ | refine yI ?_);simp only [uP,uO,strip])|((first | refine wIs fun K hK=>?_ | refine wOs fun K hK=>?_ | refine zX ?_);simp [g2,g3,g59,g60,b2,b3,hlt,hlt',q0,q1,q2,q3])|(refine wIn ?_;refine And.intro (by kernel_rfl) ?_;try simp only [zZ])|(first | refine zW ?_)|((first | refine zN ?_ | refine zR ?_);try simp)|(refine wOn ?_;try simp only [zZ])
   all_goals apply hr
   all_goals simp [Tryz.f41]
  by_cases q4 : x.ps[k].z.k = y.ps[k].z.k
  rotate_left
  ·rw [hn fun h => q4 (by rw [h])] at hr
   repeat' first|(refine hK _ ?_;clear hK)|(refine hK _ _ ?_;clear hK)|(refine zU fun K hK=>?_)|((first | refine zT ?_ | refine yI ?_);simp only [uP,uO,strip])|((first | refine wIs fun K hK=>?_ | refine wOs fun K hK=>?_ | refine zX ?_);simp [g2,g3,g59,g60,b2,b3,hlt,hlt',q0,q1,q2,q3,q4])|(refine wIn ?_;refine And.intro (by kernel_rfl) ?_;try simp only [zZ])|(first | refine zW ?_)|((first | refine zN ?_ | refine zR ?_);try simp)|(refine wOn ?_;try simp only [zZ])
   all_goals apply hr
   all_goals simp [Tryz.f41]
  by_cases q5 : x.ps[k].z.o = y.ps[k].z.o
  rotate_left
  ·rw [hn fun h => q5 (by rw [h])] at hr
   repeat' first|(refine hK _ ?_;clear hK)|(refine hK _ _ ?_;clear hK)|(refine zU fun K hK=>?_)|((first | refine zT ?_ | refine yI ?_);simp only [uP,uO,strip])|((first | refine wIs fun K hK=>?_ | refine wOs fun K hK=>?_ | refine zX ?_);simp [g2,g3,g59,g60,b2,b3,hlt,hlt',q0,q1,q2,q3,q4,q5])|(refine wIn ?_;refine And.intro (by kernel_rfl) ?_;try simp only [zZ])|(first | refine zW ?_)|((first | refine zN ?_ | refine zR ?_);try simp)|(refine wOn ?_;try simp only [zZ])
   all_goals apply hr
   all_goals simp [Tryz.f41]
  by_cases q6 : x.ps[k].s = y.ps[k].s
  rotate_left
  ·rw [hn fun h => q6 (by rw [h])] at hr
   repeat' first|(refine hK _ ?_;clear hK)|(refine hK _ _ ?_;clear hK)|(refine zU fun K hK=>?_)|((first | refine zT ?_ | refine yI ?_);simp only [uP,uO,strip])|((first | refine wIs fun K hK=>?_ | refine wOs fun K hK=>?_ | refine zX ?_);simp [g2,g3,g59,g60,b2,b3,hlt,hlt',q0,q1,q2,q3,q4,q5,q6])|(refine wIn ?_;refine And.intro (by kernel_rfl) ?_;try simp only [zZ])|(first | refine zW ?_)|((first | refine zN ?_ | refine zR ?_);try simp)|(refine wOn ?_;try simp only [zZ])
   all_goals apply hr
   all_goals simp [Tryz.f41]
  by_cases q7 : b = true
  rotate_left
  ·rw [hn fun h => q7 (by rw [<- hb, h]; simp)] at hr
   repeat' first|(refine hK _ ?_;clear hK)|(refine hK _ _ ?_;clear hK)|(refine zU fun K hK=>?_)|((first | refine zT ?_ | refine yI ?_);simp only [uP,uO,strip])|((first | refine wIs fun K hK=>?_ | refine wOs fun K hK=>?_ | refine zY ?_ | refine zX ?_);simp [g2,g3,g59,g60,b2,b3,hlt,hlt',q0,q1,q2,q3,q4,q5,q6,q7])|(refine wIn ?_;refine And.intro (by kernel_rfl) ?_;try simp only [zZ])|(first | refine zW ?_)|((first | refine zN ?_ | refine zR ?_);try simp)|(refine wOn ?_;try simp only [zZ])|(refine zQ.pure (c) rfl ?_)
   all_goals apply hr
   all_goals simp [Tryz.f41]
  have he : x.ps[k] = y.ps[k]:=Pt.ext8.2 ⟨q0,q1,q2,q3,q4,q5,q6,by rw [<- hb] at q7;simpa using q7⟩
  rw [and_iff_right he] at hi
  clear he
  repeat' first|(refine hK _ ?_;clear hK)|(refine hK _ _ ?_;clear hK)|(refine zU fun K hK=>?_)|((first | refine zT ?_ | refine yI ?_);simp only [uP,uO,strip])|((first | refine wIs fun K hK=>?_ | refine wOs fun K hK=>?_ | refine zY ?_ | refine zX ?_);simp [g2,g3,g59,g60,b2,b3,hlt,hlt',hw,q0,q1,q2,q3,q4,q5,q6,q7])|(refine wIn ?_;refine And.intro (by kernel_rfl) ?_;try simp only [zZ])|(first | refine zW ?_)|(refine zR ?_;try simp)|(refine wOn ?_;try simp only [zZ])|(refine zQ.pure (c) rfl ?_)
  refine hL _ (N - 1) (by omega) ⟨k + 1,by omega,?_⟩
  simp [g2,g3,g59,b2,b3,o0,o1,o2,o3,o4,o5,o6]
  exact hi
 ·rw [List.drop_of_length_le (by omega), List.drop_of_length_le (by omega)] at hi
  rw [show decide (x = y) = true from decide_eq_true (hd.2 (hi.2 rfl))] at hr
  repeat' first|(refine hK _ ?_;clear hK)|(clear hK;refine hK _ ?_;clear hK)|(refine zU fun K hK=>?_)|(refine zT ?_;simp only [uP,uO,strip])|((first | refine wOs fun K hK=>?_ | refine zX ?_);simp [g59,g60,hlt])|((first | refine zN ?_ | refine zH ?_);try simp)|(refine wOn ?_;try simp only [zZ])
  all_goals apply hr
  all_goals simp [Tryz.f41]
def zA (l : List Tx) : List (List PV) := l.map Tx.cells
@[simp] theorem txns_len (l : List Tx) : (zA l).length = l.length := by simp [zA]
@[simp] theorem txns_getElem (l : List Tx) (k : Nat) (h : k < (zA l).length) : (zA l)[k] = [I (l[k]'(by simpa using h)).e, I (l[k]'(by simpa using h)).n, I (l[k]'(by simpa using h)).s, I (l[k]'(by simpa using h)).x, I (l[k]'(by simpa using h)).r, I (l[k]'(by simpa using h)).b, SB (l[k]'(by simpa using h)).m, .sl 11 (pts (l[k]'(by simpa using h)).ps)] := by simp [zA, Tx.cells]
theorem xI {l : List Tx} {k : Nat} (h : k < l.length) : (zA l)[k]? = some [I l[k].e, I l[k].n, I l[k].s, I l[k].x, I l[k].r, I l[k].b, SB l[k].m, .sl 11 (pts l[k].ps)] := by simp [zA, h, Tx.cells]
end Go.Proofs.YtffflakmofbilaaGreat
