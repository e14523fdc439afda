/- Texts that the proof needs: PD NA NB NC ND PE PF PG PH NE NF QLib QA XG XH XI. -/
import Derived.Test.YtffflakmofbilaaGreatP20LeadOrder
import Derived.Test.YtffflakmofbilaaGreatP21LeadOrder
import Derived.Test.YtffflakmofbilaaGreatP14LeadOrder
import Derived.Test.YtffflakmofbilaaGreatP19LeadOrder
import Derived.Test.YtffflakmofbilaaGreatP18LeadOrder
import Derived.WalkKit
import Derived.Test.YtffflakmofbilaaGreatP17LeadOrder
namespace Go.Proofs.YtffflakmofbilaaGreat
set_option linter.unusedSimpArgs false
set_option linter.unusedVariables false
open Go Go.Av
attribute [local irreducible] Go.Av.yA Go.Av.zR Go.Av.xZ Go.Av.zJ Go.Av.xV Go.Av.zG Go.Av.Con
@[simp] theorem empty_bs : ByteArray.empty = bs [] := rfl
structure Zn where
 (p d : List UInt8)
 (v k o : Int)
 deriving DecidableEq
def Zn.c (z : Zn) : List PV := [SB z.p, SB z.d, I z.v, I z.k, I z.o]
def zns (l : List Zn) : List (List PV) := l.map Zn.c
@[simp] theorem zns_len (l : List Zn) : (zns l).length = l.length := by simp [zns]
def zz : Zn := ⟨[], [], 0, 0, 0⟩
def fnd : List Zn -> List UInt8 -> Zn × Bool
 | [],_=>(zz,false)
 | z :: r,p=>if z.p = p then (z,true) else fnd r p
def par (l : List UInt8) : List UInt8 × Bool := if chd l = true then (l.take (max (lx l l.length) 1), true) else ([], false)
def long (z : Zn) : Prop := z.p.length <= 9223372036854775807 /\ z.d.length <= 9223372036854775807
def lss (a b : List UInt8) : Bool := Op.bytesLess a b
def att : List Zn -> List UInt8 -> Nat
 | [],_=>0
 | x :: r,q=>if lss x.p q = true then att r q + 1 else 0
def rst : List Zn -> List UInt8 -> List Zn
 | [],_=>[]
 | x :: r,q=>if x.p = q then r else x :: r
def putZ (l : List Zn) (z : Zn) : List Zn := l.take (att l z.p) ++ z :: rst (l.drop (att l z.p)) z.p
def gone (l : List Zn) (p : List UInt8) : List Zn := l.filter fun z => !decide (z.p = p)
theorem root07_con : zB Tryz.prog 62 [] (.p (.sl 5 (zns [⟨[47], [], 0, 0, 0⟩]))) := by
 refine zK Tryz.tab Tryz.mixed Tryz.func62 rfl rfl Tryz.ntmps62 (by simp) (by simp) fun Q hr hn=>?_
 repeat' first|(refine hK _ ?_;clear hK)|(refine zT fun K hK=>?_)|(refine zS ?_;simp only [tZ,tY,strip])|(refine wOs fun K hK=>?_;simp)|(refine zL ?_;try simp)|(refine wOn ?_;try simp only [zZ])
 all_goals apply hr
 all_goals simp [Tryz.f62,zns,Zn.c]
def hld (l : List Zn) (z : Zn) : Bool := (par z.p).2 && ((fnd l (par z.p).1).2 && decide ((fnd l (par z.p).1).1.o = 0))
end Go.Proofs.YtffflakmofbilaaGreat
namespace Go.Proofs.YtffflakmofbilaaGreat
set_option linter.unusedSimpArgs false
set_option linter.unusedVariables false
open Go Go.Av
end Go.Proofs.YtffflakmofbilaaGreat
namespace Go.Proofs.YtffflakmofbilaaGreat
set_option linter.unusedSimpArgs false
set_option linter.unusedVariables false
open Go Go.Av
attribute [local irreducible] Go.Av.yA Go.Av.zR Go.Av.xZ Go.Av.zJ Go.Av.xV Go.Av.zG Go.Av.Con
theorem Zn.ofL {ps : List PV} (h : ShL [.str, .str, .int .i64, .int .i64, .int .i64] ps) : ∃ a : {z : Zn // long z}, ps = a.1.c := by
 obtain ⟨_,_,rfl,h0,h⟩:=h.cons
 obtain ⟨_,_,rfl,h1,h⟩:=h.cons
 obtain ⟨_,_,rfl,h2,h⟩:=h.cons
 obtain ⟨_,_,rfl,h3,h⟩:=h.cons
 obtain ⟨_,_,rfl,h4,h⟩:=h.cons
 obtain rfl:=h.nil
 obtain ⟨s,rfl,hs⟩:=h0.strI
 obtain ⟨d,rfl,hd⟩:=h1.strI
 obtain ⟨v,rfl,-⟩:=h2.intI
 obtain ⟨k,rfl,-⟩:=h3.intI
 obtain ⟨o,rfl,-⟩:=h4.intI
 have hl : ∀ s : ByteArray, s.size <= maxLen -> s.data.toList.length <= 9223372036854775807 := fun s hs => by
  have h1 : s.data.toList.length = s.size:=Array.length_toList
  have h2 : maxLen = 9223372036854775807:=rfl
  omega
 refine ⟨⟨⟨s.data.toList,d.data.toList,v,k,o⟩,hl s hs,hl d hd⟩,?_⟩
 obtain ⟨a,ha⟩:=bs_all s
 obtain ⟨b,hb⟩:=bs_all d
 subst ha;subst hb
 simp [Zn.c]
abbrev RCon (g : FuncId) (args : List V) (e c : Nat) (l : List (List PV)) : Prop := Con Tryz.prog g args [] (.ret (.row 2048) [.row e c l] [])
theorem take_snoc {α : Type} (l : List α) (k : Nat) (h : k < l.length) : l.take (k + 1) = l.take k ++ [l[k]] := List.take_succ_eq_append_getElem h
def idx (n : Int) : List Int -> Nat -> Int
 | [],_=>-1
 | a :: l,k=>if n = a then k else idx n l (k + 1)
theorem idx_mem (n : Int) : ∀ (l : List Int) (k : Nat), decide (0 <= idx n l k) = decide (n ∈ l)
 | [],k=>by simp [idx]
 | a :: l, k => by
  by_cases h : n = a
  ·subst h;simp [idx]
  ·simp [idx,h,idx_mem n l (k + 1)]
def ints (l : List Int) : List (List PV) := l.map fun n => [I n]
@[simp] theorem ints_len (l : List Int) : (ints l).length = l.length := by simp [ints]
@[simp] theorem ints_getElem (l : List Int) (k : Nat) (h : k < (ints l).length) : (ints l)[k] = [I (l[k]'(by simpa using h))] := by simp [ints]
theorem ints_get {l : List Int} {k : Nat} (h : k < l.length) : (ints l)[k]? = some [I l[k]] := by simp [ints, h]
theorem index_con (l : List Int) (n : Int) : zB Tryz.prog 113 [.p (.sl 1 (ints l)), .p (I n)] (.p (I (idx n l 0))) := by
 refine zB.len ⟨Tryz.f113,Tryz.func113,rfl,rfl⟩ 0 _ _ rfl fun hlen=>?_
 simp only [ints_len] at hlen
 refine zK Tryz.tab Tryz.mixed Tryz.func113 rfl rfl Tryz.ntmps113 (by simp) (by simp) fun Q hr hn=>?_
 repeat' first|(refine hK _ ?_;clear hK)|(refine zT fun K hK=>?_)|(refine zS ?_;simp only [tZ,tY,strip])|(refine wOs fun K hK=>?_;simp)|(first | refine zU ?_)|(refine wOn ?_;try simp only [zZ])
 refine yJ (fun N st=>∃ k,k + N = l.length /\ st.s 0 = .p (.sl 1 (ints l)) /\ st.s 1 = .p (I n) /\ st.s 7 = .p (I l.length) /\ st.s 8 = .p (I k) /\ idx n (l.drop k) k = idx n l 0) l.length ⟨0,by simp⟩ fun K N st hL ⟨k,hk,h0,h1,h7,h8,hi⟩=>?_
 by_cases hlt : k < l.length
 ·have hw := yF k _ hlt hlen
  have he:=ints_get hlt
  rw [List.drop_eq_getElem_cons hlt,idx] at hi
  repeat' first|(refine hK _ ?_;clear hK)|(refine zT fun K hK=>?_)|(refine zS ?_;simp only [tZ,tY,strip])|((first | refine wOs fun K hK=>?_ | refine zW ?_);simp [h0,h1,h7,h8,hlt,hw])|(first | refine zU ?_)|((first | refine zL ?_ | refine zP ?_);try simp)|(refine wOn ?_;try simp only [zZ])|(refine And.intro (fun hc=>?_) (fun hc=>?_))
  ·apply hr
   rw [if_pos hc] at hi
   simp [Tryz.f113,hi]
  ·rw [if_neg hc] at hi
   refine hL _ (N - 1) (by omega) ⟨k + 1,by omega,?_⟩
   simp [h0,h1,h7,hi]
 ·have hd : l.drop k = [] := List.drop_of_length_le (by omega)
  rw [hd] at hi
  repeat' first|(refine hK _ ?_;clear hK)|(clear hK;refine hK _ ?_;clear hK)|(refine zT fun K hK=>?_)|(refine zS ?_;simp only [tZ,tY,strip])|((first | refine wOs fun K hK=>?_ | refine zW ?_);simp [h7,h8,hlt])|((first | refine zL ?_ | refine zC ?_);try simp)|(refine wOn ?_;try simp only [zZ])
  apply hr
  simp [Tryz.f113,<- hi,idx]
theorem contains_con (l : List Int) (n : Int) : zB Tryz.prog 83 [.p (.sl 1 (ints l)), .p (I n)] (.p (B (decide (n ∈ l)))) := by
 have h:=index_con l n
 have hz:=idx_mem n l 0
 generalize idx n l 0 = z at h hz
 rw [<- hz]
 refine zK Tryz.tab Tryz.mixed Tryz.func83 rfl rfl Tryz.ntmps83 (by simp) (by simp) fun Q hr hn=>?_
 repeat' first|(refine hK _ ?_;clear hK)|(refine zT fun K hK=>?_)|(refine zS ?_;simp only [tZ,tY,strip])|((first | refine wOs fun K hK=>?_ | refine zY ?_);simp)|(refine zL ?_;try simp)|(refine wOn ?_;try simp only [zZ])|(refine zR.pure (h) rfl ?_)
 apply hr
 simp [Tryz.f83]
structure Mb where
 (i r w g : Int)
 deriving DecidableEq
def Mb.cells (m : Mb) : List PV := [I m.i, I m.r, I m.w, I m.g]
def mbs (l : List Mb) : List (List PV) := l.map Mb.cells
@[simp] theorem mbs_len (l : List Mb) : (mbs l).length = l.length := by simp [mbs]
@[simp] theorem mbs_getElem (l : List Mb) (k : Nat) (h : k < (mbs l).length) : (mbs l)[k] = [I (l[k]'(by simpa using h)).i, I (l[k]'(by simpa using h)).r, I (l[k]'(by simpa using h)).w, I (l[k]'(by simpa using h)).g] := by simp [mbs, Mb.cells]
structure Cf where
 (ep n kind : Int)
 ms : List Mb
def Cf.cells (c : Cf) : List PV := [I c.ep, I c.n, I c.kind, .sl 4 (mbs c.ms)]
def okM (m : Mb) : Prop := (0 <= m.i /\ m.i <= 15) /\ (m.r = 1 \/ m.r = 2) /\ (0 <= m.w /\ m.w <= 100) /\ (0 <= m.g /\ m.g <= 7)
instance (m : Mb) : Decidable (okM m) := by unfold okM; infer_instance
theorem within_con (n l : Int) : zB Tryz.prog 156 [.p (I n), .p (I l)] (.p (B (decide (0 <= n /\ n <= l)))) := by
 by_cases h : 0 <= n
 ·refine zK Tryz.tab Tryz.mixed Tryz.func156 rfl rfl Tryz.ntmps156 (by simp) (by simp) fun Q hr hn => ?_
  repeat' first|(refine hK _ ?_;clear hK)|(refine zT fun K hK=>?_)|(refine zS ?_;simp only [tZ,tY,strip])|(refine wOs fun K hK=>?_;simp [h])|(refine zL ?_;try simp)|(refine wOn ?_;try simp only [zZ])
  all_goals apply hr
  all_goals simp [Tryz.f156,h]
 ·refine zK Tryz.tab Tryz.mixed Tryz.func156 rfl rfl Tryz.ntmps156 (by simp) (by simp) fun Q hr hn => ?_
  repeat' first|(refine hK _ ?_;clear hK)|(refine zT fun K hK=>?_)|(refine zS ?_;simp only [tZ,tY,strip])|(refine wOs fun K hK=>?_;simp [h])|(refine zL ?_;try simp)|(refine wOn ?_;try simp only [zZ])
  all_goals apply hr
  all_goals simp [Tryz.f156,h]
theorem right_con (m : Mb) : zB Tryz.prog 157 [.p (.agg m.cells)] (.p (B (decide (okM m)))) := by
 obtain ⟨i,r,w,g⟩:=m
 simp only [Mb.cells,okM]
 have c1:=within_con i 15
 have c2:=within_con w 100
 have c3:=within_con g 7
 by_cases h1 : 0 <= i /\ i <= 15
 ·rw [decide_eq_true h1] at c1
  by_cases h2 : r = 1
  ·by_cases h3 : 0 <= w /\ w <= 100
   ·rw [decide_eq_true h3] at c2
    refine zK Tryz.tab Tryz.mixed Tryz.func157 rfl rfl Tryz.ntmps157 (by simp) (by simp) fun Q hr hn=>?_
    repeat' first|(refine hK _ ?_;clear hK)|(refine zT fun K hK=>?_)|(refine zS ?_;simp only [tZ,tY,strip])|((first | refine wOs fun K hK=>?_ | refine zY ?_);simp [h2])|(refine zL ?_;try simp)|(refine wOn ?_;try simp only [zZ])|(refine zR.pure (c1) rfl ?_)|(refine zR.pure (c2) rfl ?_)|(refine zR.pure (c3) rfl ?_)
    all_goals apply hr
    all_goals simp [Tryz.f157,h1,h2,h3]
   ·rw [decide_eq_false h3] at c2
    refine zK Tryz.tab Tryz.mixed Tryz.func157 rfl rfl Tryz.ntmps157 (by simp) (by simp) fun Q hr hn=>?_
    repeat' first|(refine hK _ ?_;clear hK)|(refine zT fun K hK=>?_)|(refine zS ?_;simp only [tZ,tY,strip])|((first | refine wOs fun K hK=>?_ | refine zY ?_);simp [h2])|(refine zL ?_;try simp)|(refine wOn ?_;try simp only [zZ])|(refine zR.pure (c1) rfl ?_)|(refine zR.pure (c2) rfl ?_)
    all_goals apply hr
    all_goals simp [Tryz.f157,h1,h2,h3]
  ·by_cases h2' : r = 2
   ·by_cases h3 : 0 <= w /\ w <= 100
    ·rw [decide_eq_true h3] at c2
     refine zK Tryz.tab Tryz.mixed Tryz.func157 rfl rfl Tryz.ntmps157 (by simp) (by simp) fun Q hr hn=>?_
     repeat' first|(refine hK _ ?_;clear hK)|(refine zT fun K hK=>?_)|(refine zS ?_;simp only [tZ,tY,strip])|((first | refine wOs fun K hK=>?_ | refine zY ?_);simp [h2'])|(refine zL ?_;try simp)|(refine wOn ?_;try simp only [zZ])|(refine zR.pure (c1) rfl ?_)|(refine zR.pure (c2) rfl ?_)|(refine zR.pure (c3) rfl ?_)
     all_goals apply hr
     all_goals simp [Tryz.f157,h1,h2',h3]
    ·rw [decide_eq_false h3] at c2
     refine zK Tryz.tab Tryz.mixed Tryz.func157 rfl rfl Tryz.ntmps157 (by simp) (by simp) fun Q hr hn=>?_
     repeat' first|(refine hK _ ?_;clear hK)|(refine zT fun K hK=>?_)|(refine zS ?_;simp only [tZ,tY,strip])|((first | refine wOs fun K hK=>?_ | refine zY ?_);simp [h2'])|(refine zL ?_;try simp)|(refine wOn ?_;try simp only [zZ])|(refine zR.pure (c1) rfl ?_)|(refine zR.pure (c2) rfl ?_)
     all_goals apply hr
     all_goals simp [Tryz.f157,h1,h2',h3]
   ·refine zK Tryz.tab Tryz.mixed Tryz.func157 rfl rfl Tryz.ntmps157 (by simp) (by simp) fun Q hr hn => ?_
    repeat' first|(refine hK _ ?_;clear hK)|(refine zT fun K hK=>?_)|(refine zS ?_;simp only [tZ,tY,strip])|((first | refine wOs fun K hK=>?_ | refine zY ?_);simp [h2,h2'])|(refine zL ?_;try simp)|(refine wOn ?_;try simp only [zZ])|(refine zR.pure (c1) rfl ?_)
    all_goals apply hr
    all_goals simp [Tryz.f157,h1,h2,h2']
 ·rw [decide_eq_false h1] at c1
  refine zK Tryz.tab Tryz.mixed Tryz.func157 rfl rfl Tryz.ntmps157 (by simp) (by simp) fun Q hr hn=>?_
  repeat' first|(refine hK _ ?_;clear hK)|(refine zT fun K hK=>?_)|(refine zS ?_;simp only [tZ,tY,strip])|((first | refine wOs fun K hK=>?_ | refine zY ?_);simp)|(refine zL ?_;try simp)|(refine wOn ?_;try simp only [zZ])|(refine zR.pure (c1) rfl ?_)
  all_goals apply hr
  all_goals simp [Tryz.f157,h1]
set_option maxHeartbeats 8000000 in
theorem ok04_con (m : Mb) : zB Tryz.prog 61 [.p (.agg m.cells)] (.p (B (decide (okM m)))) := by
 obtain ⟨i,r,w,g⟩:=m
 simp only [Mb.cells,okM]
 by_cases h1 : 0 <= i
 ·by_cases h2 : i < 16
  ·by_cases h3 : r = 1
   ·by_cases h4 : 0 <= w
    ·by_cases h5 : w <= 100
     ·by_cases h6 : 0 <= g
      ·refine zK Tryz.tab Tryz.mixed Tryz.func61 rfl rfl Tryz.ntmps61 (by simp) (by simp) fun Q hr hn => ?_
       repeat' first|(refine hK _ ?_;clear hK)|(refine zT fun K hK=>?_)|(refine zS ?_;simp only [tZ,tY,strip])|(refine wOs fun K hK=>?_;simp [h1,h2,h3,h4,h5,h6])|(refine zL ?_;try simp)|(refine wOn ?_;try simp only [zZ])
       all_goals apply hr
       all_goals simp [Tryz.f61,h1,h3,h4,h5,h6]
       all_goals omega
      ·refine zK Tryz.tab Tryz.mixed Tryz.func61 rfl rfl Tryz.ntmps61 (by simp) (by simp) fun Q hr hn => ?_
       repeat' first|(refine hK _ ?_;clear hK)|(refine zT fun K hK=>?_)|(refine zS ?_;simp only [tZ,tY,strip])|(refine wOs fun K hK=>?_;simp [h1,h2,h3,h4,h5,h6])|(refine zL ?_;try simp)|(refine wOn ?_;try simp only [zZ])
       all_goals apply hr
       all_goals simp [Tryz.f61,h1,h3,h4,h5,h6]
     ·refine zK Tryz.tab Tryz.mixed Tryz.func61 rfl rfl Tryz.ntmps61 (by simp) (by simp) fun Q hr hn => ?_
      repeat' first|(refine hK _ ?_;clear hK)|(refine zT fun K hK=>?_)|(refine zS ?_;simp only [tZ,tY,strip])|(refine wOs fun K hK=>?_;simp [h1,h2,h3,h4,h5])|(refine zL ?_;try simp)|(refine wOn ?_;try simp only [zZ])
      all_goals apply hr
      all_goals simp [Tryz.f61,h1,h3,h4,h5]
    ·refine zK Tryz.tab Tryz.mixed Tryz.func61 rfl rfl Tryz.ntmps61 (by simp) (by simp) fun Q hr hn => ?_
     repeat' first|(refine hK _ ?_;clear hK)|(refine zT fun K hK=>?_)|(refine zS ?_;simp only [tZ,tY,strip])|(refine wOs fun K hK=>?_;simp [h1,h2,h3,h4])|(refine zL ?_;try simp)|(refine wOn ?_;try simp only [zZ])
     all_goals apply hr
     all_goals simp [Tryz.f61,h1,h3,h4]
   ·by_cases h3' : r = 2
    ·by_cases h4 : 0 <= w
     ·by_cases h5 : w <= 100
      ·by_cases h6 : 0 <= g
       ·refine zK Tryz.tab Tryz.mixed Tryz.func61 rfl rfl Tryz.ntmps61 (by simp) (by simp) fun Q hr hn => ?_
        repeat' first|(refine hK _ ?_;clear hK)|(refine zT fun K hK=>?_)|(refine zS ?_;simp only [tZ,tY,strip])|(refine wOs fun K hK=>?_;simp [h1,h2,h3',h4,h5,h6])|(refine zL ?_;try simp)|(refine wOn ?_;try simp only [zZ])
        all_goals apply hr
        all_goals simp [Tryz.f61,h1,h3',h4,h5,h6]
        all_goals omega
       ·refine zK Tryz.tab Tryz.mixed Tryz.func61 rfl rfl Tryz.ntmps61 (by simp) (by simp) fun Q hr hn => ?_
        repeat' first|(refine hK _ ?_;clear hK)|(refine zT fun K hK=>?_)|(refine zS ?_;simp only [tZ,tY,strip])|(refine wOs fun K hK=>?_;simp [h1,h2,h3',h4,h5,h6])|(refine zL ?_;try simp)|(refine wOn ?_;try simp only [zZ])
        all_goals apply hr
        all_goals simp [Tryz.f61,h1,h3',h4,h5,h6]
      ·refine zK Tryz.tab Tryz.mixed Tryz.func61 rfl rfl Tryz.ntmps61 (by simp) (by simp) fun Q hr hn => ?_
       repeat' first|(refine hK _ ?_;clear hK)|(refine zT fun K hK=>?_)|(refine zS ?_;simp only [tZ,tY,strip])|(refine wOs fun K hK=>?_;simp [h1,h2,h3',h4,h5])|(refine zL ?_;try simp)|(refine wOn ?_;try simp only [zZ])
       all_goals apply hr
       all_goals simp [Tryz.f61,h1,h3',h4,h5]
     ·refine zK Tryz.tab Tryz.mixed Tryz.func61 rfl rfl Tryz.ntmps61 (by simp) (by simp) fun Q hr hn => ?_
      repeat' first|(refine hK _ ?_;clear hK)|(refine zT fun K hK=>?_)|(refine zS ?_;simp only [tZ,tY,strip])|(refine wOs fun K hK=>?_;simp [h1,h2,h3',h4])|(refine zL ?_;try simp)|(refine wOn ?_;try simp only [zZ])
      all_goals apply hr
      all_goals simp [Tryz.f61,h1,h3',h4]
    ·refine zK Tryz.tab Tryz.mixed Tryz.func61 rfl rfl Tryz.ntmps61 (by simp) (by simp) fun Q hr hn => ?_
     repeat' first|(refine hK _ ?_;clear hK)|(refine zT fun K hK=>?_)|(refine zS ?_;simp only [tZ,tY,strip])|(refine wOs fun K hK=>?_;simp [h1,h2,h3,h3'])|(refine zL ?_;try simp)|(refine wOn ?_;try simp only [zZ])
     all_goals apply hr
     all_goals simp [Tryz.f61,h1,h3,h3']
  ·refine zK Tryz.tab Tryz.mixed Tryz.func61 rfl rfl Tryz.ntmps61 (by simp) (by simp) fun Q hr hn => ?_
   repeat' first|(refine hK _ ?_;clear hK)|(refine zT fun K hK=>?_)|(refine zS ?_;simp only [tZ,tY,strip])|(refine wOs fun K hK=>?_;simp [h1,h2])|(refine zL ?_;try simp)|(refine wOn ?_;try simp only [zZ])
   all_goals apply hr
   all_goals simp [Tryz.f61,h1]
   all_goals omega
 ·refine zK Tryz.tab Tryz.mixed Tryz.func61 rfl rfl Tryz.ntmps61 (by simp) (by simp) fun Q hr hn => ?_
  repeat' first|(refine hK _ ?_;clear hK)|(refine zT fun K hK=>?_)|(refine zS ?_;simp only [tZ,tY,strip])|(refine wOs fun K hK=>?_;simp [h1])|(refine zL ?_;try simp)|(refine wOn ?_;try simp only [zZ])
  all_goals apply hr
  all_goals simp [Tryz.f61,h1]
theorem Cf.ext4 {x y : Cf} : x = y ↔ x.ep = y.ep /\ x.n = y.n /\ x.kind = y.kind /\ x.ms = y.ms := by cases x; cases y; simp
instance : DecidableEq Cf := fun x y => decidable_of_iff _ Cf.ext4.symm
structure Pt where
 (k : Int)
 (z : Zn)
 (s : Int)
 (c : Cf)
 deriving DecidableEq
def Pt.cells (x : Pt) : List PV := [I x.k, SB x.z.p, SB x.z.d, I x.z.v, I x.z.k, I x.z.o, I x.s, I x.c.ep, I x.c.n, I x.c.kind, .sl 4 (mbs x.c.ms)]
def pts (l : List Pt) : List (List PV) := l.map Pt.cells
@[simp] theorem pts_len (l : List Pt) : (pts l).length = l.length := by simp [pts]
@[simp] theorem pts_getElem (l : List Pt) (k : Nat) (h : k < (pts l).length) : (pts l)[k] = (l[k]'(by simpa using h)).cells := by simp [pts]
theorem pts_get {l : List Pt} {k : Nat} (h : k < l.length) : (pts l)[k]? = some [I l[k].k, SB l[k].z.p, SB l[k].z.d, I l[k].z.v, I l[k].z.k, I l[k].z.o, I l[k].s, I l[k].c.ep, I l[k].c.n, I l[k].c.kind, .sl 4 (mbs l[k].c.ms)] := by simp [pts, h, Pt.cells]
structure Sv where
 (ns : List Zn)
 (ss : List Int)
 (nx : Int)
 (c : Cf)
 (ae an : Int)
 deriving DecidableEq
def Sv.cells (s : Sv) : List PV := [.sl 5 (zns s.ns), .sl 1 (ints s.ss), I s.nx, I s.c.ep, I s.c.n, I s.c.kind, .sl 4 (mbs s.c.ms), I s.ae, I s.an]
end Go.Proofs.YtffflakmofbilaaGreat
