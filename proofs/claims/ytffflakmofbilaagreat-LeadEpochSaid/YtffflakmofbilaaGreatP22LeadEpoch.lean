/- Texts that the proof needs: PD NA NB NC ND PE PF PG PH NE NF QLib QA XG XH XI XJ XK ZC ZA HF XA. -/
import Derived.Test.YtffflakmofbilaaGreatP20LeadEpoch
import Derived.Test.YtffflakmofbilaaGreatP21LeadEpoch
import Derived.Test.YtffflakmofbilaaGreatP14LeadEpoch
import Derived.Test.YtffflakmofbilaaGreatP19LeadEpoch
import Derived.Test.YtffflakmofbilaaGreatP18LeadEpoch
import Derived.WalkKit
import Derived.Test.YtffflakmofbilaaGreatP17LeadEpoch
import Derived.Test.YtffflakmofbilaaGreatP16LeadEpoch
namespace Go.Proofs.YtffflakmofbilaaGreat
set_option linter.unusedSimpArgs false
set_option linter.unusedVariables false
open Go Go.Av
attribute [local irreducible] Go.Av.yG Go.Av.zQ Go.Av.yD Go.Av.zI Go.Av.yA Go.Av.yX Go.Av.Con
@[simp] theorem empty_bs : ByteArray.empty = bs [] := rfl
structure Zn where
 (p d : List UInt8)
 (v k o : Int)
 deriving DecidableEq
def Zn.c (z : Zn) : List PV := [SB z.p, SB z.d, I z.v, I z.k, I z.o]
def zns (l : List Zn) : List (List PV) := l.map Zn.c
@[simp] theorem zns_len (l : List Zn) : (zns l).length = l.length := by simp [zns]
@[simp] theorem zns_getElem (l : List Zn) (k : Nat) (h : k < (zns l).length) : (zns l)[k] = [SB (l[k]'(by simpa using h)).p, SB (l[k]'(by simpa using h)).d, I (l[k]'(by simpa using h)).v, I (l[k]'(by simpa using h)).k, I (l[k]'(by simpa using h)).o] := by simp [zns, Zn.c]
theorem zns_get {l : List Zn} {k : Nat} (h : k < l.length) : (zns l)[k]? = some [SB l[k].p, SB l[k].d, I l[k].v, I l[k].k, I l[k].o] := by simp [zns, h, Zn.c]
theorem zns_snoc (l : List Zn) (z : Zn) : zns l ++ [[SB z.p, SB z.d, I z.v, I z.k, I z.o]] = zns (l ++ [z]) := by simp [zns, Zn.c]
theorem zns_take (l : List Zn) (k : Nat) : (zns l).take k = zns (l.take k) := by simp [zns, List.map_take]
theorem zns_drop (l : List Zn) (k : Nat) : (zns l).drop k = zns (l.drop k) := by simp [zns, List.map_drop]
theorem take_snocN {α : Type} (l : List α) (k : Nat) (h : k < l.length) : l.take (k + 1) = l.take k ++ [l[k]] := List.take_succ_eq_append_getElem h
def zz : Zn := ⟨[], [], 0, 0, 0⟩
def fnd : List Zn -> List UInt8 -> Zn × Bool
 | [], _ => (zz, false)
 | z :: r, p => if z.p = p then (z, true) else fnd r p
def par (l : List UInt8) : List UInt8 × Bool := if chd l = true then (l.take (max (lx l l.length) 1), true) else ([], false)
def long (z : Zn) : Prop := z.p.length <= 9223372036854775807 /\ z.d.length <= 9223372036854775807
def lss (a b : List UInt8) : Bool := Op.bytesLess a b
def att : List Zn -> List UInt8 -> Nat
 | [], _ => 0
 | x :: r, q => if lss x.p q = true then att r q + 1 else 0
theorem att_le : ∀ (l : List Zn) (q : List UInt8), att l q <= l.length
 | [], _ => Nat.le_refl 0
 | x :: r, q => by
  rw [att]; split
  ·have := att_le r q; simp; omega
  ·simp
theorem att_step {l : List Zn} {k : Nat} (h : k < l.length) (q : List UInt8) : att (l.drop k) q = if lss l[k].p q = true then att (l.drop (k + 1)) q + 1 else 0 := by
 rw [List.drop_eq_getElem_cons h]; rfl
def rst : List Zn -> List UInt8 -> List Zn
 | [], _ => []
 | x :: r, q => if x.p = q then r else x :: r
def putZ (l : List Zn) (z : Zn) : List Zn := l.take (att l z.p) ++ z :: rst (l.drop (att l z.p)) z.p
theorem put07_con (l : List Zn) (z : Zn) (hl : l.length <= 1000000) : zF Tryz.prog 132 [.p (.sl 5 (zns l)), .p (.agg z.c)] (.p (.sl 5 (zns (putZ l z)))) := by
 refine zL Tryz.tab Tryz.mixed Tryz.func132 rfl rfl Tryz.ntmps132 (by simp) (by simp) fun Q hr hn => ?_
 repeat' first | (refine hK _ ?_; clear hK) | (refine zU fun K hK => ?_) | (refine zS ?_; simp only [uU, uT, strip]) | (refine wOs fun K hK => ?_; simp [Zn.c]) | (first | refine zV ?_) | (refine wOn ?_; try simp only [zZ])
 refine yU (fun N st => ∃ k, k + N = l.length /\ att l z.p = k + att (l.drop k) z.p /\ st.s 0 = .p (.sl 5 (zns l)) /\ st.s 5 = .p (I k) /\ st.s 3 = .ptr 3 0 /\ st.b 3 = some (.box 129 [.p (SB z.p), .p (SB z.d), .p (I z.v), .p (I z.k), .p (I z.o)])) l.length ⟨0, by simp⟩ fun K N st hL ⟨k, hk, hi, g0, g5, g3, b3⟩ => ?_
 have hend : att (l.drop k) z.p = 0 -> putZ l z = l.take k ++ z :: rst (l.drop k) z.p := fun h => by
  unfold putZ; rw [hi, h, Nat.add_zero]
 by_cases hlt : k < l.length
 ·have hw := yT k _ hlt (by omega)
  have he := zns_get hlt
  have hs := att_step hlt z.p
  cases o : lss l[k].p z.p
  ·rw [o, if_neg (by simp)] at hs
   rw [hend hs] at hr
   have o' : Op.bytesLess l[k].p z.p = false := o
   have hd := List.drop_eq_getElem_cons hlt
   have hle : k <= l.length := by omega
   have hdn : (l.drop (k + 1)).length <= 1000000 := by simp; omega
   rw [hd, rst] at hr
   have ht := zns_take l k
   have hdr := zns_drop l k
   have hdr2 := zns_drop l (k + 1)
   have hle1 : k + 1 <= l.length := by omega
   have h0k : (0 : Int) <= (k : Int) + 1 := by omega
   have hw2 : IntKind.i64.wrap ((k : Int) + 1) = (((k + 1 : Nat)) : Int) := hw
   have hzn := zns_snoc (l.take k) z
   have hzt := zns_len (l.take k ++ [z])
   have hztc : (l.take k).length <= 1000000 := by simp; omega
   have hn0 : 0 < l.length - k := by omega
   have hn1 : ¬ l.length - k = 0 := by omega
   have hn2 : 1 <= l.length - k := by omega
   have htb : (zns (l.drop k)).take (l.length - k) = zns (l.drop k) := List.take_of_length_le (by simp)
   have hdr3 : (zns (l.drop k)).drop 1 = zns (l.drop (k + 1)) := by rw [zns_drop, List.drop_drop]
   have hta : (zns l).take l.length = zns l := List.take_of_length_le (by simp)
   by_cases o2 : l[k].p = z.p
   ·rw [if_pos o2] at hr
    rw [o2] at o'
    repeat' first | (refine And.intro (by (try simp); omega) ?_) | (refine Or.inl ?_) | (refine hK _ ?_; clear hK) | (refine hK _ _ ?_; clear hK) | (clear hK; refine hK _ ?_; clear hK) | (refine zU fun K hK => ?_) | ((first | refine zS ?_ | refine zA rfl (by kernel_rfl) ?_ | refine yE ?_); simp only [uU, uT, strip]) | ((first | refine wIs fun K hK => ?_ | refine wOs fun K hK => ?_ | refine wQs fun K hK => ?_ | refine zX ?_); simp [g0, g5, g3, b3, hlt, hw, o', o2, ht, hdr2, hle, hle1, h0k, hta, hzn, hzt]) | (refine wIn ?_; refine And.intro (by kernel_rfl) ?_; try simp only [zZ]) | ((first | refine zM ?_ | refine zH ?_); try simp) | ((first | refine wOn ?_ | refine wQn ?_); try simp only [zZ])
    all_goals apply hr
    all_goals simp [Tryz.f132, zns, Zn.c]
   ·rw [if_neg o2] at hr
    repeat' first | (refine And.intro (by (try simp); omega) ?_) | (refine Or.inl ?_) | (refine hK _ ?_; clear hK) | (refine hK _ _ ?_; clear hK) | (clear hK; refine hK _ ?_; clear hK) | (refine zU fun K hK => ?_) | ((first | refine zS ?_ | refine zA rfl (by kernel_rfl) ?_ | refine yE ?_); simp only [uU, uT, strip]) | ((first | refine wIs fun K hK => ?_ | refine wOs fun K hK => ?_ | refine wQs fun K hK => ?_ | refine zX ?_); simp [g0, g5, g3, b3, hlt, o', o2, ht, hdr, hle, hta, hzn, hzt]) | (refine wIn ?_; refine And.intro (by kernel_rfl) ?_; try simp only [zZ]) | ((first | refine zM ?_ | refine zH ?_ | refine zR ?_); try simp) | ((first | refine wOn ?_ | refine wQn ?_); try simp only [zZ])
    all_goals apply hr
    all_goals simp [Tryz.f132, zns, Zn.c]
  ·rw [o, if_pos rfl] at hs
   have o' : Op.bytesLess l[k].p z.p = true := o
   repeat' first | (refine hK _ ?_; clear hK) | (refine zU fun K hK => ?_) | ((first | refine zS ?_ | refine zA rfl (by kernel_rfl) ?_); simp only [uU, uT, strip]) | ((first | refine wOs fun K hK => ?_ | refine wQs fun K hK => ?_ | refine zX ?_); simp [g0, g5, g3, b3, hlt, hw, o']) | (first | refine zV ?_) | (refine zR ?_; try simp) | ((first | refine wOn ?_ | refine wQn ?_); try simp only [zZ])
   refine hL _ (N - 1) (by omega) ⟨k + 1, by omega, by omega, ?_⟩
   simp [g0, g3, b3]
 ·obtain rfl : k = l.length := by omega
  have hd : l.drop l.length = [] := List.drop_of_length_le (by omega)
  rw [hd] at hend
  rw [hend rfl] at hr
  have hta : (zns l).take l.length = zns l := List.take_of_length_le (by simp)
  have hta2 : l.take l.length = l := List.take_of_length_le (by simp)
  have hdr : (zns l).drop l.length = [] := List.drop_of_length_le (by simp)
  have hsn := zns_snoc l z
  rw [hta2, rst, <- hsn] at hr
  repeat' first | (refine And.intro (by (try simp); omega) ?_) | (refine Or.inl ?_) | (refine hK _ ?_; clear hK) | (refine hK _ _ ?_; clear hK) | (clear hK; refine hK _ ?_; clear hK) | (refine zU fun K hK => ?_) | ((first | refine zS ?_ | refine zA rfl (by kernel_rfl) ?_ | refine yE ?_); simp only [uU, uT, strip]) | ((first | refine wIs fun K hK => ?_ | refine wOs fun K hK => ?_ | refine wQs fun K hK => ?_ | refine zX ?_); simp [g0, g5, g3, b3, hta, hdr]) | (refine wIn ?_; refine And.intro (by kernel_rfl) ?_; try simp only [zZ]) | ((first | refine zM ?_ | refine zH ?_ | refine zR ?_); try simp) | ((first | refine wOn ?_ | refine wQn ?_); try simp only [zZ])
  all_goals apply hr
  all_goals simp [Tryz.f132]
def gone (l : List Zn) (p : List UInt8) : List Zn := l.filter fun z => !decide (z.p = p)
theorem gone_snoc {l : List Zn} {k : Nat} (h : k < l.length) (p : List UInt8) : gone (l.take (k + 1)) p = if l[k].p = p then gone (l.take k) p else gone (l.take k) p ++ [l[k]] := by
 unfold gone
 rw [take_snocN _ k h, List.filter_append]
 by_cases g : l[k].p = p <;> simp [g]
theorem gone_len (l : List Zn) (p : List UInt8) (k : Nat) : (gone (l.take k) p).length <= k := by
 unfold gone
 exact Nat.le_trans (List.length_filter_le _ _) (by simp; omega)
theorem gone07_con (l : List Zn) (p : List UInt8) (hl : l.length <= 1000000) : zF Tryz.prog 133 [.p (.sl 5 (zns l)), .p (SB p)] (.p (.sl 5 (zns (gone l p)))) := by
 refine zL Tryz.tab Tryz.mixed Tryz.func133 rfl rfl Tryz.ntmps133 (by simp) (by simp) fun Q hr hn => ?_
 repeat' first | (refine hK _ ?_; clear hK) | (refine zU fun K hK => ?_) | (refine zS ?_; simp only [uU, uT, strip]) | (refine wOs fun K hK => ?_; simp) | (first | refine zV ?_) | (refine wOn ?_; try simp only [zZ])
 refine wLoopG [.row 5 129 5] (fun N st => ∃ k, k + N = l.length /\ st.s 1 = .p (SB p) /\ st.s 8 = .p (.sl 5 (zns l)) /\ st.s 9 = .p (I l.length) /\ st.s 10 = .p (I k) /\ st.s 5 = .row 5 /\ st.b 5 = some (.row 129 5 (zns (gone (l.take k) p)))) l.length ⟨0, by simp [gone, zns]⟩ fun K N st hL ⟨k, hk, g1, g8, g9, g10, g5, b5⟩ => ?_
 have hkl := gone_len l p k
 by_cases hlt : k < l.length
 ·have hw := yT k _ hlt (by omega)
  have he := zns_get hlt
  have hs := gone_snoc hlt p
  have hx := zns_snoc (gone (l.take k) p) l[k]
  by_cases o : l[k].p = p
  ·rw [if_pos o] at hs
   repeat' first | (refine hK _ ?_; clear hK) | (refine zU fun K hK => ?_) | (refine zS ?_; simp only [uU, uT, strip]) | ((first | refine wOs fun K hK => ?_ | refine zX ?_); simp [g1, g8, g9, g10, hlt, hw, o]) | (first | refine zV ?_) | (refine zR ?_; try simp) | (refine wOn ?_; try simp only [zZ])
   refine hL _ (N - 1) (by omega) ⟨k + 1, by omega, ?_⟩
   simp [g1, g8, g9, g5, b5, hs]
  ·rw [if_neg o] at hs
   rw [<- hs] at hx
   repeat' first | (refine And.intro (by (try simp at hkl ⊢); omega) ?_) | (refine hK _ ?_; clear hK) | (refine zU fun K hK => ?_) | (refine zS ?_; simp only [uU, uT, strip]) | ((first | refine wOs fun K hK => ?_ | refine zX ?_); simp [g1, g8, g9, g10, g5, b5, hlt, hw, o]) | (first | refine zV ?_) | (refine zR ?_; try simp) | (refine wOn ?_; try simp only [zZ])
   refine hL _ (N - 1) (by omega) ⟨k + 1, by omega, ?_⟩
   simp [g1, g8, g9, hx]
 ·rw [List.take_of_length_le (by omega)] at b5
  repeat' first | (refine hK _ ?_; clear hK) | (clear hK; refine hK _ ?_; clear hK) | (refine zU fun K hK => ?_) | (refine zS ?_; simp only [uU, uT, strip]) | ((first | refine wOs fun K hK => ?_ | refine zX ?_); simp [g9, g10, g5, hlt]) | ((first | refine zM ?_ | refine zH ?_); try simp) | (refine wOn ?_; try simp only [zZ])
  all_goals apply hr
  all_goals simp [Tryz.f133, b5]
theorem root07_con : zF Tryz.prog 62 [] (.p (.sl 5 (zns [⟨[47], [], 0, 0, 0⟩]))) := by
 refine zL Tryz.tab Tryz.mixed Tryz.func62 rfl rfl Tryz.ntmps62 (by simp) (by simp) fun Q hr hn => ?_
 repeat' first | (refine hK _ ?_; clear hK) | (refine zU fun K hK => ?_) | (refine zS ?_; simp only [uU, uT, strip]) | (refine wOs fun K hK => ?_; simp) | (refine zM ?_; try simp) | (refine wOn ?_; try simp only [zZ])
 all_goals apply hr
 all_goals simp [Tryz.f62, zns, Zn.c]
def hld (l : List Zn) (z : Zn) : Bool := (par z.p).2 && ((fnd l (par z.p).1).2 && decide ((fnd l (par z.p).1).1.o = 0))
end Go.Proofs.YtffflakmofbilaaGreat
namespace Go.Proofs.YtffflakmofbilaaGreat
set_option linter.unusedSimpArgs false
set_option linter.unusedVariables false
open Go Go.Av
end Go.Proofs.YtffflakmofbilaaGreat
namespace Go.Proofs.YtffflakmofbilaaGreat
set_option linter.unusedSimpArgs false
set_option linter.unusedVariables false
open Go Go.Av
attribute [local irreducible] Go.Av.yG Go.Av.zQ Go.Av.yD Go.Av.zI Go.Av.yA Go.Av.yX Go.Av.Con
theorem Zn.ofL {ps : List PV} (h : ShL [.str, .str, .int .i64, .int .i64, .int .i64] ps) : ∃ a : {z : Zn // long z}, ps = a.1.c := by
 obtain ⟨_, _, rfl, h0, h⟩ := h.cons
 obtain ⟨_, _, rfl, h1, h⟩ := h.cons
 obtain ⟨_, _, rfl, h2, h⟩ := h.cons
 obtain ⟨_, _, rfl, h3, h⟩ := h.cons
 obtain ⟨_, _, rfl, h4, h⟩ := h.cons
 obtain rfl := h.nil
 obtain ⟨s, rfl, hs⟩ := h0.strI
 obtain ⟨d, rfl, hd⟩ := h1.strI
 obtain ⟨v, rfl, -⟩ := h2.intI
 obtain ⟨k, rfl, -⟩ := h3.intI
 obtain ⟨o, rfl, -⟩ := h4.intI
 have hl : ∀ s : ByteArray, s.size <= maxLen -> s.data.toList.length <= 9223372036854775807 := fun s hs => by
  have h1 : s.data.toList.length = s.size := Array.length_toList
  have h2 : maxLen = 9223372036854775807 := rfl
  omega
 refine ⟨⟨⟨s.data.toList, d.data.toList, v, k, o⟩, hl s hs, hl d hd⟩, ?_⟩
 obtain ⟨a, ha⟩ := bs_all s
 obtain ⟨b, hb⟩ := bs_all d
 subst ha; subst hb
 simp [Zn.c]
abbrev RCon (g : FuncId) (args : List V) (e c : Nat) (l : List (List PV)) : Prop := Con Tryz.prog g args [] (.ret (.row 2048) [.row e c l] [])
theorem take_snoc {α : Type} (l : List α) (k : Nat) (h : k < l.length) : l.take (k + 1) = l.take k ++ [l[k]] := List.take_succ_eq_append_getElem h
def idx (n : Int) : List Int -> Nat -> Int
 | [], _ => -1
 | a :: l, k => if n = a then k else idx n l (k + 1)
theorem idx_mem (n : Int) : ∀ (l : List Int) (k : Nat), decide (0 <= idx n l k) = decide (n ∈ l)
 | [], k => by simp [idx]
 | a :: l, k => by
  by_cases h : n = a
  ·subst h; simp [idx]
  ·simp [idx, h, idx_mem n l (k + 1)]
def ints (l : List Int) : List (List PV) := l.map fun n => [I n]
@[simp] theorem ints_len (l : List Int) : (ints l).length = l.length := by simp [ints]
@[simp] theorem ints_getElem (l : List Int) (k : Nat) (h : k < (ints l).length) : (ints l)[k] = [I (l[k]'(by simpa using h))] := by simp [ints]
theorem ints_get {l : List Int} {k : Nat} (h : k < l.length) : (ints l)[k]? = some [I l[k]] := by simp [ints, h]
theorem index_con (l : List Int) (n : Int) : zF Tryz.prog 113 [.p (.sl 1 (ints l)), .p (I n)] (.p (I (idx n l 0))) := by
 refine zF.len ⟨Tryz.f113, Tryz.func113, rfl, rfl⟩ 0 _ _ rfl fun hlen => ?_
 simp only [ints_len] at hlen
 refine zL Tryz.tab Tryz.mixed Tryz.func113 rfl rfl Tryz.ntmps113 (by simp) (by simp) fun Q hr hn => ?_
 repeat' first | (refine hK _ ?_; clear hK) | (refine zU fun K hK => ?_) | (refine zS ?_; simp only [uU, uT, strip]) | (refine wOs fun K hK => ?_; simp) | (first | refine zV ?_) | (refine wOn ?_; try simp only [zZ])
 refine yU (fun N st => ∃ k, k + N = l.length /\ st.s 0 = .p (.sl 1 (ints l)) /\ st.s 1 = .p (I n) /\ st.s 7 = .p (I l.length) /\ st.s 8 = .p (I k) /\ idx n (l.drop k) k = idx n l 0) l.length ⟨0, by simp⟩ fun K N st hL ⟨k, hk, h0, h1, h7, h8, hi⟩ => ?_
 by_cases hlt : k < l.length
 ·have hw := yT k _ hlt hlen
  have he := ints_get hlt
  rw [List.drop_eq_getElem_cons hlt, idx] at hi
  repeat' first | (refine hK _ ?_; clear hK) | (refine zU fun K hK => ?_) | (refine zS ?_; simp only [uU, uT, strip]) | ((first | refine wOs fun K hK => ?_ | refine zX ?_); simp [h0, h1, h7, h8, hlt, hw]) | (first | refine zV ?_) | ((first | refine zM ?_ | refine zR ?_); try simp) | (refine wOn ?_; try simp only [zZ]) | (refine And.intro (fun hc => ?_) (fun hc => ?_))
  ·apply hr
   rw [if_pos hc] at hi
   simp [Tryz.f113, hi]
  ·rw [if_neg hc] at hi
   refine hL _ (N - 1) (by omega) ⟨k + 1, by omega, ?_⟩
   simp [h0, h1, h7, hi]
 ·have hd : l.drop k = [] := List.drop_of_length_le (by omega)
  rw [hd] at hi
  repeat' first | (refine hK _ ?_; clear hK) | (clear hK; refine hK _ ?_; clear hK) | (refine zU fun K hK => ?_) | (refine zS ?_; simp only [uU, uT, strip]) | ((first | refine wOs fun K hK => ?_ | refine zX ?_); simp [h7, h8, hlt]) | ((first | refine zM ?_ | refine zH ?_); try simp) | (refine wOn ?_; try simp only [zZ])
  apply hr
  simp [Tryz.f113, <- hi, idx]
theorem contains_con (l : List Int) (n : Int) : zF Tryz.prog 83 [.p (.sl 1 (ints l)), .p (I n)] (.p (B (decide (n ∈ l)))) := by
 have h := index_con l n
 have hz := idx_mem n l 0
 generalize idx n l 0 = z at h hz
 rw [<- hz]
 refine zL Tryz.tab Tryz.mixed Tryz.func83 rfl rfl Tryz.ntmps83 (by simp) (by simp) fun Q hr hn => ?_
 repeat' first | (refine hK _ ?_; clear hK) | (refine zU fun K hK => ?_) | (refine zS ?_; simp only [uU, uT, strip]) | ((first | refine wOs fun K hK => ?_ | refine zY ?_); simp) | (refine zM ?_; try simp) | (refine wOn ?_; try simp only [zZ]) | (refine zQ.pure (h) rfl ?_)
 apply hr
 simp [Tryz.f83]
theorem has05_con (l : List Int) (n : Int) : zF Tryz.prog 71 [.p (.sl 1 (ints l)), .p (I n)] (.p (B (decide (n ∈ l)))) := by
 refine zF.len ⟨Tryz.f71, Tryz.func71, rfl, rfl⟩ 0 _ _ rfl fun hlen => ?_
 simp only [ints_len] at hlen
 refine zL Tryz.tab Tryz.mixed Tryz.func71 rfl rfl Tryz.ntmps71 (by simp) (by simp) fun Q hr hn => ?_
 repeat' first | (refine hK _ ?_; clear hK) | (refine zU fun K hK => ?_) | (refine zS ?_; simp only [uU, uT, strip]) | (refine wOs fun K hK => ?_; simp) | (first | refine zV ?_) | (refine wOn ?_; try simp only [zZ])
 refine yU (fun N st => ∃ k, k + N = l.length /\ st.s 1 = .p (I n) /\ st.s 7 = .p (.sl 1 (ints l)) /\ st.s 8 = .p (I l.length) /\ st.s 9 = .p (I k) /\ (n ∈ l ↔ n ∈ l.drop k)) l.length ⟨0, by simp⟩ fun K N st hL ⟨k, hk, h1, h7, h8, h9, hi⟩ => ?_
 by_cases hlt : k < l.length
 ·have hw := yT k _ hlt hlen
  have he := ints_get hlt
  rw [List.drop_eq_getElem_cons hlt, List.mem_cons] at hi
  repeat' first | (refine hK _ ?_; clear hK) | (refine zU fun K hK => ?_) | (refine zS ?_; simp only [uU, uT, strip]) | ((first | refine wOs fun K hK => ?_ | refine zX ?_); simp [h1, h7, h8, h9, hlt, hw]) | (first | refine zV ?_) | ((first | refine zM ?_ | refine zR ?_); try simp) | (refine wOn ?_; try simp only [zZ]) | (refine And.intro (fun hc => ?_) (fun hc => ?_))
  ·apply hr
   simp [Tryz.f71]
   rw [hi]; exact .inl hc.symm
  ·refine hL _ (N - 1) (by omega) ⟨k + 1, by omega, ?_⟩
   have hc' : ¬ n = l[k] := fun h => hc h.symm
   simp [h1, h7, h8]
   rw [hi]; simp [hc']
 ·have hd : l.drop k = [] := List.drop_of_length_le (by omega)
  rw [hd] at hi
  repeat' first | (refine hK _ ?_; clear hK) | (clear hK; refine hK _ ?_; clear hK) | (refine zU fun K hK => ?_) | (refine zS ?_; simp only [uU, uT, strip]) | ((first | refine wOs fun K hK => ?_ | refine zX ?_); simp [h8, h9, hlt]) | ((first | refine zM ?_ | refine zH ?_); try simp) | (refine wOn ?_; try simp only [zZ])
  apply hr
  simp [Tryz.f71]
  simpa using hi
structure Mb where
 (i r w g : Int)
 deriving DecidableEq
def Mb.cells (m : Mb) : List PV := [I m.i, I m.r, I m.w, I m.g]
def mbs (l : List Mb) : List (List PV) := l.map Mb.cells
@[simp] theorem uY (l : List Mb) : (mbs l).length = l.length := by simp [mbs]
@[simp] theorem mbs_getElem (l : List Mb) (k : Nat) (h : k < (mbs l).length) : (mbs l)[k] = [I (l[k]'(by simpa using h)).i, I (l[k]'(by simpa using h)).r, I (l[k]'(by simpa using h)).w, I (l[k]'(by simpa using h)).g] := by simp [mbs, Mb.cells]
structure Cf where
 (ep n kind : Int)
 ms : List Mb
def Cf.cells (c : Cf) : List PV := [I c.ep, I c.n, I c.kind, .sl 4 (mbs c.ms)]
def okM (m : Mb) : Prop := (0 <= m.i /\ m.i <= 15) /\ (m.r = 1 \/ m.r = 2) /\ (0 <= m.w /\ m.w <= 100) /\ (0 <= m.g /\ m.g <= 7)
instance (m : Mb) : Decidable (okM m) := by unfold okM; infer_instance
theorem within_con (n l : Int) : zF Tryz.prog 156 [.p (I n), .p (I l)] (.p (B (decide (0 <= n /\ n <= l)))) := by
 by_cases h : 0 <= n
 ·refine zL Tryz.tab Tryz.mixed Tryz.func156 rfl rfl Tryz.ntmps156 (by simp) (by simp) fun Q hr hn => ?_
  repeat' first | (refine hK _ ?_; clear hK) | (refine zU fun K hK => ?_) | (refine zS ?_; simp only [uU, uT, strip]) | (refine wOs fun K hK => ?_; simp [h]) | (refine zM ?_; try simp) | (refine wOn ?_; try simp only [zZ])
  all_goals apply hr
  all_goals simp [Tryz.f156, h]
 ·refine zL Tryz.tab Tryz.mixed Tryz.func156 rfl rfl Tryz.ntmps156 (by simp) (by simp) fun Q hr hn => ?_
  repeat' first | (refine hK _ ?_; clear hK) | (refine zU fun K hK => ?_) | (refine zS ?_; simp only [uU, uT, strip]) | (refine wOs fun K hK => ?_; simp [h]) | (refine zM ?_; try simp) | (refine wOn ?_; try simp only [zZ])
  all_goals apply hr
  all_goals simp [Tryz.f156, h]
theorem right_con (m : Mb) : zF Tryz.prog 157 [.p (.agg m.cells)] (.p (B (decide (okM m)))) := by
 obtain ⟨i, r, w, g⟩ := m
 simp only [Mb.cells, okM]
 have c1 := within_con i 15
 have c2 := within_con w 100
 have c3 := within_con g 7
 by_cases h1 : 0 <= i /\ i <= 15
 ·rw [decide_eq_true h1] at c1
  by_cases h2 : r = 1
  ·by_cases h3 : 0 <= w /\ w <= 100
   ·rw [decide_eq_true h3] at c2
    refine zL Tryz.tab Tryz.mixed Tryz.func157 rfl rfl Tryz.ntmps157 (by simp) (by simp) fun Q hr hn => ?_
    repeat' first | (refine hK _ ?_; clear hK) | (refine zU fun K hK => ?_) | (refine zS ?_; simp only [uU, uT, strip]) | ((first | refine wOs fun K hK => ?_ | refine zY ?_); simp [h2]) | (refine zM ?_; try simp) | (refine wOn ?_; try simp only [zZ]) | (refine zQ.pure (c1) rfl ?_) | (refine zQ.pure (c2) rfl ?_) | (refine zQ.pure (c3) rfl ?_)
    all_goals apply hr
    all_goals simp [Tryz.f157, h1, h2, h3]
   ·rw [decide_eq_false h3] at c2
    refine zL Tryz.tab Tryz.mixed Tryz.func157 rfl rfl Tryz.ntmps157 (by simp) (by simp) fun Q hr hn => ?_
    repeat' first | (refine hK _ ?_; clear hK) | (refine zU fun K hK => ?_) | (refine zS ?_; simp only [uU, uT, strip]) | ((first | refine wOs fun K hK => ?_ | refine zY ?_); simp [h2]) | (refine zM ?_; try simp) | (refine wOn ?_; try simp only [zZ]) | (refine zQ.pure (c1) rfl ?_) | (refine zQ.pure (c2) rfl ?_)
    all_goals apply hr
    all_goals simp [Tryz.f157, h1, h2, h3]
  ·by_cases h2' : r = 2
   ·by_cases h3 : 0 <= w /\ w <= 100
    ·rw [decide_eq_true h3] at c2
     refine zL Tryz.tab Tryz.mixed Tryz.func157 rfl rfl Tryz.ntmps157 (by simp) (by simp) fun Q hr hn => ?_
     repeat' first | (refine hK _ ?_; clear hK) | (refine zU fun K hK => ?_) | (refine zS ?_; simp only [uU, uT, strip]) | ((first | refine wOs fun K hK => ?_ | refine zY ?_); simp [h2']) | (refine zM ?_; try simp) | (refine wOn ?_; try simp only [zZ]) | (refine zQ.pure (c1) rfl ?_) | (refine zQ.pure (c2) rfl ?_) | (refine zQ.pure (c3) rfl ?_)
     all_goals apply hr
     all_goals simp [Tryz.f157, h1, h2', h3]
    ·rw [decide_eq_false h3] at c2
     refine zL Tryz.tab Tryz.mixed Tryz.func157 rfl rfl Tryz.ntmps157 (by simp) (by simp) fun Q hr hn => ?_
     repeat' first | (refine hK _ ?_; clear hK) | (refine zU fun K hK => ?_) | (refine zS ?_; simp only [uU, uT, strip]) | ((first | refine wOs fun K hK => ?_ | refine zY ?_); simp [h2']) | (refine zM ?_; try simp) | (refine wOn ?_; try simp only [zZ]) | (refine zQ.pure (c1) rfl ?_) | (refine zQ.pure (c2) rfl ?_)
     all_goals apply hr
     all_goals simp [Tryz.f157, h1, h2', h3]
   ·refine zL Tryz.tab Tryz.mixed Tryz.func157 rfl rfl Tryz.ntmps157 (by simp) (by simp) fun Q hr hn => ?_
    repeat' first | (refine hK _ ?_; clear hK) | (refine zU fun K hK => ?_) | (refine zS ?_; simp only [uU, uT, strip]) | ((first | refine wOs fun K hK => ?_ | refine zY ?_); simp [h2, h2']) | (refine zM ?_; try simp) | (refine wOn ?_; try simp only [zZ]) | (refine zQ.pure (c1) rfl ?_)
    all_goals apply hr
    all_goals simp [Tryz.f157, h1, h2, h2']
 ·rw [decide_eq_false h1] at c1
  refine zL Tryz.tab Tryz.mixed Tryz.func157 rfl rfl Tryz.ntmps157 (by simp) (by simp) fun Q hr hn => ?_
  repeat' first | (refine hK _ ?_; clear hK) | (refine zU fun K hK => ?_) | (refine zS ?_; simp only [uU, uT, strip]) | ((first | refine wOs fun K hK => ?_ | refine zY ?_); simp) | (refine zM ?_; try simp) | (refine wOn ?_; try simp only [zZ]) | (refine zQ.pure (c1) rfl ?_)
  all_goals apply hr
  all_goals simp [Tryz.f157, h1]
set_option maxHeartbeats 8000000 in
theorem ok04_con (m : Mb) : zF Tryz.prog 61 [.p (.agg m.cells)] (.p (B (decide (okM m)))) := by
 obtain ⟨i, r, w, g⟩ := m
 simp only [Mb.cells, okM]
 by_cases h1 : 0 <= i
 ·by_cases h2 : i < 16
  ·by_cases h3 : r = 1
   ·by_cases h4 : 0 <= w
    ·by_cases h5 : w <= 100
     ·by_cases h6 : 0 <= g
      ·refine zL Tryz.tab Tryz.mixed Tryz.func61 rfl rfl Tryz.ntmps61 (by simp) (by simp) fun Q hr hn => ?_
       repeat' first | (refine hK _ ?_; clear hK) | (refine zU fun K hK => ?_) | (refine zS ?_; simp only [uU, uT, strip]) | (refine wOs fun K hK => ?_; simp [h1, h2, h3, h4, h5, h6]) | (refine zM ?_; try simp) | (refine wOn ?_; try simp only [zZ])
       all_goals apply hr
       all_goals simp [Tryz.f61, h1, h3, h4, h5, h6]
       all_goals omega
      ·refine zL Tryz.tab Tryz.mixed Tryz.func61 rfl rfl Tryz.ntmps61 (by simp) (by simp) fun Q hr hn => ?_
       repeat' first | (refine hK _ ?_; clear hK) | (refine zU fun K hK => ?_) | (refine zS ?_; simp only [uU, uT, strip]) | (refine wOs fun K hK => ?_; simp [h1, h2, h3, h4, h5, h6]) | (refine zM ?_; try simp) | (refine wOn ?_; try simp only [zZ])
       all_goals apply hr
       all_goals simp [Tryz.f61, h1, h3, h4, h5, h6]
     ·refine zL Tryz.tab Tryz.mixed Tryz.func61 rfl rfl Tryz.ntmps61 (by simp) (by simp) fun Q hr hn => ?_
      repeat' first | (refine hK _ ?_; clear hK) | (refine zU fun K hK => ?_) | (refine zS ?_; simp only [uU, uT, strip]) | (refine wOs fun K hK => ?_; simp [h1, h2, h3, h4, h5]) | (refine zM ?_; try simp) | (refine wOn ?_; try simp only [zZ])
      all_goals apply hr
      all_goals simp [Tryz.f61, h1, h3, h4, h5]
    ·refine zL Tryz.tab Tryz.mixed Tryz.func61 rfl rfl Tryz.ntmps61 (by simp) (by simp) fun Q hr hn => ?_
     repeat' first | (refine hK _ ?_; clear hK) | (refine zU fun K hK => ?_) | (refine zS ?_; simp only [uU, uT, strip]) | (refine wOs fun K hK => ?_; simp [h1, h2, h3, h4]) | (refine zM ?_; try simp) | (refine wOn ?_; try simp only [zZ])
     all_goals apply hr
     all_goals simp [Tryz.f61, h1, h3, h4]
   ·by_cases h3' : r = 2
    ·by_cases h4 : 0 <= w
     ·by_cases h5 : w <= 100
      ·by_cases h6 : 0 <= g
       ·refine zL Tryz.tab Tryz.mixed Tryz.func61 rfl rfl Tryz.ntmps61 (by simp) (by simp) fun Q hr hn => ?_
        repeat' first | (refine hK _ ?_; clear hK) | (refine zU fun K hK => ?_) | (refine zS ?_; simp only [uU, uT, strip]) | (refine wOs fun K hK => ?_; simp [h1, h2, h3', h4, h5, h6]) | (refine zM ?_; try simp) | (refine wOn ?_; try simp only [zZ])
        all_goals apply hr
        all_goals simp [Tryz.f61, h1, h3', h4, h5, h6]
        all_goals omega
       ·refine zL Tryz.tab Tryz.mixed Tryz.func61 rfl rfl Tryz.ntmps61 (by simp) (by simp) fun Q hr hn => ?_
        repeat' first | (refine hK _ ?_; clear hK) | (refine zU fun K hK => ?_) | (refine zS ?_; simp only [uU, uT, strip]) | (refine wOs fun K hK => ?_; simp [h1, h2, h3', h4, h5, h6]) | (refine zM ?_; try simp) | (refine wOn ?_; try simp only [zZ])
        all_goals apply hr
        all_goals simp [Tryz.f61, h1, h3', h4, h5, h6]
      ·refine zL Tryz.tab Tryz.mixed Tryz.func61 rfl rfl Tryz.ntmps61 (by simp) (by simp) fun Q hr hn => ?_
       repeat' first | (refine hK _ ?_; clear hK) | (refine zU fun K hK => ?_) | (refine zS ?_; simp only [uU, uT, strip]) | (refine wOs fun K hK => ?_; simp [h1, h2, h3', h4, h5]) | (refine zM ?_; try simp) | (refine wOn ?_; try simp only [zZ])
       all_goals apply hr
       all_goals simp [Tryz.f61, h1, h3', h4, h5]
     ·refine zL Tryz.tab Tryz.mixed Tryz.func61 rfl rfl Tryz.ntmps61 (by simp) (by simp) fun Q hr hn => ?_
      repeat' first | (refine hK _ ?_; clear hK) | (refine zU fun K hK => ?_) | (refine zS ?_; simp only [uU, uT, strip]) | (refine wOs fun K hK => ?_; simp [h1, h2, h3', h4]) | (refine zM ?_; try simp) | (refine wOn ?_; try simp only [zZ])
      all_goals apply hr
      all_goals simp [Tryz.f61, h1, h3', h4]
    ·refine zL Tryz.tab Tryz.mixed Tryz.func61 rfl rfl Tryz.ntmps61 (by simp) (by simp) fun Q hr hn => ?_
     repeat' first | (refine hK _ ?_; clear hK) | (refine zU fun K hK => ?_) | (refine zS ?_; simp only [uU, uT, strip]) | (refine wOs fun K hK => ?_; simp [h1, h2, h3, h3']) | (refine zM ?_; try simp) | (refine wOn ?_; try simp only [zZ])
     all_goals apply hr
     all_goals simp [Tryz.f61, h1, h3, h3']
  ·refine zL Tryz.tab Tryz.mixed Tryz.func61 rfl rfl Tryz.ntmps61 (by simp) (by simp) fun Q hr hn => ?_
   repeat' first | (refine hK _ ?_; clear hK) | (refine zU fun K hK => ?_) | (refine zS ?_; simp only [uU, uT, strip]) | (refine wOs fun K hK => ?_; simp [h1, h2]) | (refine zM ?_; try simp) | (refine wOn ?_; try simp only [zZ])
   all_goals apply hr
   all_goals simp [Tryz.f61, h1]
   all_goals omega
 ·refine zL Tryz.tab Tryz.mixed Tryz.func61 rfl rfl Tryz.ntmps61 (by simp) (by simp) fun Q hr hn => ?_
  repeat' first | (refine hK _ ?_; clear hK) | (refine zU fun K hK => ?_) | (refine zS ?_; simp only [uU, uT, strip]) | (refine wOs fun K hK => ?_; simp [h1]) | (refine zM ?_; try simp) | (refine wOn ?_; try simp only [zZ])
  all_goals apply hr
  all_goals simp [Tryz.f61, h1]
theorem Cf.ext4 {x y : Cf} : x = y ↔ x.ep = y.ep /\ x.n = y.n /\ x.kind = y.kind /\ x.ms = y.ms := by cases x; cases y; simp
instance : DecidableEq Cf := fun x y => decidable_of_iff _ Cf.ext4.symm
structure Pt where
 (k : Int)
 (z : Zn)
 (s : Int)
 (c : Cf)
 deriving DecidableEq
def Pt.cells (x : Pt) : List PV := [I x.k, SB x.z.p, SB x.z.d, I x.z.v, I x.z.k, I x.z.o, I x.s, I x.c.ep, I x.c.n, I x.c.kind, .sl 4 (mbs x.c.ms)]
def pts (l : List Pt) : List (List PV) := l.map Pt.cells
@[simp] theorem pts_len (l : List Pt) : (pts l).length = l.length := by simp [pts]
@[simp] theorem pts_getElem (l : List Pt) (k : Nat) (h : k < (pts l).length) : (pts l)[k] = (l[k]'(by simpa using h)).cells := by simp [pts]
theorem pts_get {l : List Pt} {k : Nat} (h : k < l.length) : (pts l)[k]? = some [I l[k].k, SB l[k].z.p, SB l[k].z.d, I l[k].z.v, I l[k].z.k, I l[k].z.o, I l[k].s, I l[k].c.ep, I l[k].c.n, I l[k].c.kind, .sl 4 (mbs l[k].c.ms)] := by simp [pts, h, Pt.cells]
structure Sv where
 (ns : List Zn)
 (ss : List Int)
 (nx : Int)
 (c : Cf)
 (ae an : Int)
 deriving DecidableEq
def Sv.cells (s : Sv) : List PV := [.sl 5 (zns s.ns), .sl 1 (ints s.ss), I s.nx, I s.c.ep, I s.c.n, I s.c.kind, .sl 4 (mbs s.c.ms), I s.ae, I s.an]
structure Tx where
 (e n s x r b : Int)
 (m : List UInt8)
 (ps : List Pt)
 deriving DecidableEq
def Tx.cells (t : Tx) : List PV := [I t.e, I t.n, I t.s, I t.x, I t.r, I t.b, SB t.m, .sl 11 (pts t.ps)]
attribute [-simp] pts_getElem
def yY (l : List Tx) : List (List PV) := l.map Tx.cells
@[simp] theorem txns_len (l : List Tx) : (yY l).length = l.length := by simp [yY]
@[simp] theorem txns_getElem (l : List Tx) (k : Nat) (h : k < (yY l).length) : (yY l)[k] = [I (l[k]'(by simpa using h)).e, I (l[k]'(by simpa using h)).n, I (l[k]'(by simpa using h)).s, I (l[k]'(by simpa using h)).x, I (l[k]'(by simpa using h)).r, I (l[k]'(by simpa using h)).b, SB (l[k]'(by simpa using h)).m, .sl 11 (pts (l[k]'(by simpa using h)).ps)] := by simp [yY, Tx.cells]
theorem wR {l : List Tx} {k : Nat} (h : k < l.length) : (yY l)[k]? = some [I l[k].e, I l[k].n, I l[k].s, I l[k].x, I l[k].r, I l[k].b, SB l[k].m, .sl 11 (pts l[k].ps)] := by simp [yY, h, Tx.cells]
theorem isNaN_con (n : Int) : zF Tryz.prog 139 [.p (I n)] (.p (B false)) := by
 refine zL Tryz.tab Tryz.mixed Tryz.func139 rfl rfl Tryz.ntmps139 (by simp) (by simp) fun Q hr hn => ?_
 repeat' first | (refine hK _ ?_; clear hK) | (refine zU fun K hK => ?_) | (refine zS ?_; simp only [uU, uT, strip]) | (refine wOs fun K hK => ?_; simp) | (refine zM ?_; try simp) | (refine wOn ?_; try simp only [zZ])
 apply hr
 simp [Tryz.f139]
def cmpInt (a b : Int) : Int := if a < b then -1 else if b < a then 1 else 0
theorem compare_con (a b : Int) : zF Tryz.prog 115 [.p (I a), .p (I b)] (.p (I (cmpInt a b))) := by
 refine zL Tryz.tab Tryz.mixed Tryz.func115 rfl rfl Tryz.ntmps115 (by simp) (by simp) fun Q hr hn => ?_
 repeat' first | (refine hK _ ?_; clear hK) | (refine zU fun K hK => ?_) | (refine zS ?_; simp only [uU, uT, strip]) | ((first | refine wOs fun K hK => ?_ | refine zY ?_ | refine zX ?_); simp) | ((first | refine zM ?_ | refine zR ?_); try simp) | (refine wOn ?_; try simp only [zZ]) | (refine zQ.pure (isNaN_con _) rfl ?_) | (refine And.intro (fun _ => ?_) (fun _ => ?_))
 all_goals (apply hr; simp [Tryz.f115, cmpInt]; try omega)
def orL : List Int -> Int
 | [] => 0
 | a :: l => if a = 0 then orL l else a
theorem or_con (l : List Int) : zF Tryz.prog 114 [.p (.sl 1 (l.map fun n => [I n]))] (.p (I (orL l))) := by
 refine zF.len ⟨Tryz.f114, Tryz.func114, rfl, rfl⟩ 0 _ _ rfl fun hlen => ?_
 simp only [List.length_map] at hlen
 refine zL Tryz.tab Tryz.mixed Tryz.func114 rfl rfl Tryz.ntmps114 (by simp) (by simp) fun Q hr hn => ?_
 repeat' first | (refine hK _ ?_; clear hK) | (refine zU fun K hK => ?_) | (refine zS ?_; simp only [uU, uT, strip]) | (refine wOs fun K hK => ?_; simp) | (first | refine zV ?_) | (refine wOn ?_; try simp only [zZ])
 refine yU (fun n st => ∃ k, k + n = l.length /\ st.s 6 = .p (.sl 1 (l.map fun n => [I n])) /\ st.s 7 = .p (I l.length) /\ st.s 8 = .p (I k) /\ st.s 3 = .p (I 0) /\ orL (l.drop k) = orL l) l.length ⟨0, by simp⟩ fun K n st hL ⟨k, hk, h6, h7, h8, h3, hor⟩ => ?_
 by_cases hlt : k < l.length
 ·have hw := yT k _ hlt hlen
  have hd : l.drop k = l[k] :: l.drop (k + 1) := List.drop_eq_getElem_cons hlt
  have he : l[k]? = some l[k] := List.getElem?_eq_getElem hlt
  rw [hd, orL] at hor
  repeat' first | (refine hK _ ?_; clear hK) | (refine zU fun K hK => ?_) | (refine zS ?_; simp only [uU, uT, strip]) | ((first | refine wOs fun K hK => ?_ | refine zX ?_); simp [h6, h7, h8, h3, hlt, hw]) | (first | refine zV ?_) | ((first | refine zM ?_ | refine zR ?_); try simp) | (refine wOn ?_; try simp only [zZ]) | (refine And.intro (fun hc => ?_) (fun hc => ?_))
  ·apply hr
   simp [Tryz.f114]
   rw [if_neg hc] at hor; exact hor.symm
  ·refine hL _ (n - 1) (by omega) ⟨k + 1, by omega, ?_⟩
   rw [if_pos hc] at hor
   simp [h6, h7, h3, hor]
 ·have hd : l.drop k = [] := List.drop_of_length_le (by omega)
  rw [hd] at hor
  repeat' first | (refine hK _ ?_; clear hK) | (clear hK; refine hK _ ?_; clear hK) | (refine zU fun K hK => ?_) | (refine zS ?_; simp only [uU, uT, strip]) | ((first | refine wOs fun K hK => ?_ | refine zX ?_); simp [h7, h8, h3, hlt]) | ((first | refine zM ?_ | refine zH ?_); try simp) | (refine wOn ?_; try simp only [zZ])
  apply hr
  simp [Tryz.f114, <- hor, orL]
def xF (a b c d : Int) : Int := if a = c /\ b = d then 0 else orL [cmpInt a c, cmpInt b d]
theorem uW (a b c d : Int) : zF Tryz.prog 84 [.p (.agg [I a, I b]), .p (.agg [I c, I d])] (.p (I (xF a b c d))) := by
 have hor := or_con [cmpInt a c, cmpInt b d]
 simp only [uU, uT] at hor
 by_cases hab : a = c /\ b = d
 ·obtain ⟨rfl, rfl⟩ := hab
  refine zL Tryz.tab Tryz.mixed Tryz.func84 rfl rfl Tryz.ntmps84 (by simp) (by simp) fun Q hr hn => ?_
  repeat' first | (refine hK _ ?_; clear hK) | (refine zU fun K hK => ?_) | (refine zS ?_; simp only [uU, uT, strip]) | ((first | refine wOs fun K hK => ?_ | refine zX ?_); simp) | (refine zM ?_; try simp) | (refine wOn ?_; try simp only [zZ])
  apply hr
  simp [Tryz.f84, xF]
 ·refine zL Tryz.tab Tryz.mixed Tryz.func84 rfl rfl Tryz.ntmps84 (by simp) (by simp) fun Q hr hn => ?_
  repeat' first | (refine hK _ ?_; clear hK) | (refine zU fun K hK => ?_) | ((first | refine zS ?_ | refine zA rfl (by kernel_rfl) ?_); simp only [uU, uT, strip]) | ((first | refine wOs fun K hK => ?_ | refine wQs fun K hK => ?_ | refine zK ?_ | refine zX ?_); simp [hab]) | ((first | refine zM ?_ | refine zR ?_); try simp) | ((first | refine wOn ?_ | refine wQn ?_); try simp only [zZ]) | (refine zI.pure (compare_con _ _) rfl ?_) | (refine zI.pure (hor) rfl ?_) | (intro _)
  all_goals first | skip
  apply hr
  simp [Tryz.f84, xF, hab]
theorem zcmp_spec (a b c d : Int) : xF a b c d = if a = c /\ b = d then 0 else if a < c \/ (a = c /\ b < d) then -1 else 1 := by
 unfold xF cmpInt
 simp only [orL]
 repeat' split
 all_goals omega
theorem cmp02_con (a b c d : Int) : zF Tryz.prog 17 [.p (.agg [I a, I b]), .p (.agg [I c, I d])] (.p (I (xF a b c d))) := by
 rw [zcmp_spec]
 by_cases hab : a = c /\ b = d
 ·rw [if_pos hab]
  obtain ⟨rfl, rfl⟩ := hab
  refine zL Tryz.tab Tryz.mixed Tryz.func17 rfl rfl Tryz.ntmps17 (by simp) (by simp) fun Q hr hn => ?_
  repeat' first | (refine hK _ ?_; clear hK) | (refine zU fun K hK => ?_) | (refine zS ?_; simp only [uU, uT, strip]) | ((first | refine wOs fun K hK => ?_ | refine zX ?_); simp) | (first | refine zV ?_) | (refine zM ?_; try simp) | (refine wOn ?_; try simp only [zZ])
  all_goals apply hr
  all_goals simp [Tryz.f17]
 ·rw [if_neg hab]
  by_cases h1 : a < c
  ·have h2 : ¬ a = c := by omega
   refine zL Tryz.tab Tryz.mixed Tryz.func17 rfl rfl Tryz.ntmps17 (by simp) (by simp) fun Q hr hn => ?_
   repeat' first | (refine hK _ ?_; clear hK) | (refine zU fun K hK => ?_) | (refine zS ?_; simp only [uU, uT, strip]) | ((first | refine wOs fun K hK => ?_ | refine zX ?_); simp [h1, h2]) | (first | refine zV ?_) | (refine zM ?_; try simp) | (refine wOn ?_; try simp only [zZ])
   all_goals first | skip
   all_goals apply hr
   all_goals simp [Tryz.f17, h1]
  ·by_cases h2 : a = c
   ·by_cases h3 : b < d
    ·have h4 : ¬ b = d := by omega
     refine zL Tryz.tab Tryz.mixed Tryz.func17 rfl rfl Tryz.ntmps17 (by simp) (by simp) fun Q hr hn => ?_
     repeat' first | (refine hK _ ?_; clear hK) | (refine zU fun K hK => ?_) | (refine zS ?_; simp only [uU, uT, strip]) | ((first | refine wOs fun K hK => ?_ | refine zX ?_); simp [h2, h3, h4]) | (first | refine zV ?_) | (refine zM ?_; try simp) | (refine wOn ?_; try simp only [zZ])
     all_goals first | skip
     all_goals apply hr
     all_goals simp [Tryz.f17, h2, h3]
    ·have h4 : ¬ b = d := fun h => hab ⟨h2, h⟩
     refine zL Tryz.tab Tryz.mixed Tryz.func17 rfl rfl Tryz.ntmps17 (by simp) (by simp) fun Q hr hn => ?_
     repeat' first | (refine hK _ ?_; clear hK) | (refine zU fun K hK => ?_) | (refine zS ?_; simp only [uU, uT, strip]) | ((first | refine wOs fun K hK => ?_ | refine zX ?_); simp [h2, h3, h4]) | (first | refine zV ?_) | ((first | refine zM ?_ | refine zR ?_); try simp) | (refine wOn ?_; try simp only [zZ])
     all_goals first | skip
     all_goals apply hr
     all_goals simp [Tryz.f17, h2, h3]
   ·refine zL Tryz.tab Tryz.mixed Tryz.func17 rfl rfl Tryz.ntmps17 (by simp) (by simp) fun Q hr hn => ?_
    repeat' first | (refine hK _ ?_; clear hK) | (refine zU fun K hK => ?_) | (refine zS ?_; simp only [uU, uT, strip]) | ((first | refine wOs fun K hK => ?_ | refine zX ?_); simp [h1, h2]) | (first | refine zV ?_) | ((first | refine zM ?_ | refine zR ?_); try simp) | (refine wOn ?_; try simp only [zZ])
    all_goals first | skip
    all_goals apply hr
    all_goals simp [Tryz.f17, h1, h2]
theorem counts_con (n : Int) : zF Tryz.prog 106 [.p (I n)] (.p (B (decide (0 <= n /\ n <= 1099511627776)))) := by
 by_cases h1 : 0 <= n <;> by_cases h2 : n <= 1099511627776
 all_goals (have h1' : (n ≥ 0) ↔ (0 <= n) := Iff.rfl)
 all_goals refine zL Tryz.tab Tryz.mixed Tryz.func106 rfl rfl Tryz.ntmps106 (by simp) (by simp) fun Q hr hn => ?_
 all_goals repeat' first | (refine hK _ ?_; clear hK) | (refine zU fun K hK => ?_) | (refine zS ?_; simp only [uU, uT, strip]) | (refine wOs fun K hK => ?_; simp [h1, h2]) | (refine zM ?_; try simp) | (refine wOn ?_; try simp only [zZ])
 all_goals apply hr
 all_goals simp [Tryz.f106, h1, h2]
def uZ (e n : Int) : Int := if ¬ (0 <= e /\ e <= 1099511627776) \/ n < 0 then 1 else if 1099511627776 <= n then 5 else 0
def vA (e n : Int) : Int × Int := if uZ e n = 0 then (e, n + 1) else (0, 0)
theorem next_con (e n : Int) : zF Tryz.prog 76 [.p (.agg [I e, I n])] (.tup [.p (.agg [I (vA e n).1, I (vA e n).2]), .p (I (uZ e n))]) := by
 have hc := counts_con e
 by_cases h1 : 0 <= e /\ e <= 1099511627776
 ·rw [decide_eq_true h1] at hc
  by_cases h2 : n < 0
  ·simp only [vA, uZ, h1, h2, or_true, if_true]
   refine zL Tryz.tab Tryz.mixed Tryz.func76 rfl rfl Tryz.ntmps76 (by simp) (by simp) fun Q hr hn => ?_
   repeat' first | (refine hK _ ?_; clear hK) | (refine zU fun K hK => ?_) | (refine zS ?_; simp only [uU, uT, strip]) | ((first | refine wOs fun K hK => ?_ | refine zY ?_ | refine zX ?_); simp [h2]) | (first | refine zV ?_) | (refine zM ?_; try simp) | (refine wOn ?_; try simp only [zZ]) | (refine zQ.pure (hc) rfl ?_)
   all_goals apply hr
   all_goals simp [Tryz.f76]
  by_cases h3 : 1099511627776 <= n
  ·simp only [vA, uZ, h1, h2, h3, and_self, not_true_eq_false, or_false, if_false, if_true]
   refine zL Tryz.tab Tryz.mixed Tryz.func76 rfl rfl Tryz.ntmps76 (by simp) (by simp) fun Q hr hn => ?_
   repeat' first | (refine hK _ ?_; clear hK) | (refine zU fun K hK => ?_) | (refine zS ?_; simp only [uU, uT, strip]) | ((first | refine wOs fun K hK => ?_ | refine zY ?_ | refine zX ?_); simp [h2, h3]) | (first | refine zV ?_) | (refine zM ?_; try simp) | (refine wOn ?_; try simp only [zZ]) | (refine zQ.pure (hc) rfl ?_)
   all_goals apply hr
   all_goals simp [Tryz.f76]
  ·have hw : IntKind.i64.wrap (n + 1) = n + 1 := zE (by omega) (by omega)
   simp only [vA, uZ, h1, h2, h3, and_self, not_true_eq_false, or_false, if_false, if_true]
   refine zL Tryz.tab Tryz.mixed Tryz.func76 rfl rfl Tryz.ntmps76 (by simp) (by simp) fun Q hr hn => ?_
   repeat' first | (refine hK _ ?_; clear hK) | (refine zU fun K hK => ?_) | (refine zS ?_; simp only [uU, uT, strip]) | ((first | refine wOs fun K hK => ?_ | refine zY ?_ | refine zX ?_); simp [h2, h3, hw]) | (first | refine zV ?_) | ((first | refine zM ?_ | refine zR ?_); try simp) | (refine wOn ?_; try simp only [zZ]) | (refine zQ.pure (hc) rfl ?_)
   all_goals apply hr
   all_goals simp [Tryz.f76]
 ·rw [decide_eq_false h1] at hc
  simp only [vA, uZ, h1, not_false_eq_true, true_or, if_true]
  refine zL Tryz.tab Tryz.mixed Tryz.func76 rfl rfl Tryz.ntmps76 (by simp) (by simp) fun Q hr hn => ?_
  repeat' first | (refine hK _ ?_; clear hK) | (refine zU fun K hK => ?_) | (refine zS ?_; simp only [uU, uT, strip]) | ((first | refine wOs fun K hK => ?_ | refine zY ?_ | refine zX ?_); simp) | (first | refine zV ?_) | (refine zM ?_; try simp) | (refine wOn ?_; try simp only [zZ]) | (refine zQ.pure (hc) rfl ?_)
  all_goals apply hr
  all_goals simp [Tryz.f76]
theorem next02_con (e n : Int) : zF Tryz.prog 47 [.p (.agg [I e, I n])] (.tup [.p (.agg [I (vA e n).1, I (vA e n).2]), .p (I (uZ e n))]) := by
 by_cases h0 : e < 0
 ·have h1 : ¬ (0 <= e /\ e <= 1099511627776) := by omega
  simp only [vA, uZ, h1, not_false_eq_true, true_or, if_true]
  refine zL Tryz.tab Tryz.mixed Tryz.func47 rfl rfl Tryz.ntmps47 (by simp) (by simp) fun Q hr hn => ?_
  repeat' first | (refine hK _ ?_; clear hK) | (refine zU fun K hK => ?_) | (refine zS ?_; simp only [uU, uT, strip]) | ((first | refine wOs fun K hK => ?_ | refine zX ?_); simp [h0]) | (refine zM ?_; try simp) | (refine wOn ?_; try simp only [zZ])
  all_goals apply hr
  all_goals simp [Tryz.f47]
 by_cases h01 : 1099511627776 < e
 ·have h1 : ¬ (0 <= e /\ e <= 1099511627776) := by omega
  simp only [vA, uZ, h1, not_false_eq_true, true_or, if_true]
  refine zL Tryz.tab Tryz.mixed Tryz.func47 rfl rfl Tryz.ntmps47 (by simp) (by simp) fun Q hr hn => ?_
  repeat' first | (refine hK _ ?_; clear hK) | (refine zU fun K hK => ?_) | (refine zS ?_; simp only [uU, uT, strip]) | ((first | refine wOs fun K hK => ?_ | refine zX ?_); simp [h0, h01]) | (refine zM ?_; try simp) | (refine wOn ?_; try simp only [zZ])
  all_goals apply hr
  all_goals simp [Tryz.f47]
 have h1 : 0 <= e /\ e <= 1099511627776 := by omega
 by_cases h2 : n < 0
 ·simp only [vA, uZ, h1, h2, or_true, if_true]
  refine zL Tryz.tab Tryz.mixed Tryz.func47 rfl rfl Tryz.ntmps47 (by simp) (by simp) fun Q hr hn => ?_
  repeat' first | (refine hK _ ?_; clear hK) | (refine zU fun K hK => ?_) | (refine zS ?_; simp only [uU, uT, strip]) | ((first | refine wOs fun K hK => ?_ | refine zX ?_); simp [h0, h01, h2]) | (refine zM ?_; try simp) | (refine wOn ?_; try simp only [zZ])
  all_goals apply hr
  all_goals simp [Tryz.f47]
 by_cases h3 : 1099511627776 <= n
 ·simp only [vA, uZ, h1, h2, h3, and_self, not_true_eq_false, or_false, if_false, if_true]
  refine zL Tryz.tab Tryz.mixed Tryz.func47 rfl rfl Tryz.ntmps47 (by simp) (by simp) fun Q hr hn => ?_
  repeat' first | (refine hK _ ?_; clear hK) | (refine zU fun K hK => ?_) | (refine zS ?_; simp only [uU, uT, strip]) | ((first | refine wOs fun K hK => ?_ | refine zX ?_); simp [h0, h01, h2, h3]) | ((first | refine zM ?_ | refine zR ?_); try simp) | (refine wOn ?_; try simp only [zZ])
  all_goals apply hr
  all_goals simp [Tryz.f47]
 ·have hw : IntKind.i64.wrap (n + 1) = n + 1 := zE (by omega) (by omega)
  simp only [vA, uZ, h1, h2, h3, and_self, not_true_eq_false, or_false, if_false, if_true]
  refine zL Tryz.tab Tryz.mixed Tryz.func47 rfl rfl Tryz.ntmps47 (by simp) (by simp) fun Q hr hn => ?_
  repeat' first | (refine hK _ ?_; clear hK) | (refine zU fun K hK => ?_) | (refine zS ?_; simp only [uU, uT, strip]) | ((first | refine wOs fun K hK => ?_ | refine zX ?_); simp [h0, h01, h2, h3, hw]) | ((first | refine zM ?_ | refine zR ?_); try simp) | (refine wOn ?_; try simp only [zZ])
  all_goals apply hr
  all_goals simp [Tryz.f47]
def owner (n : Int) : Int := if n < 1 then -1 else n.tmod 16
theorem owner02_con (n : Int) : zF Tryz.prog 13 [.p (I n)] (.p (I (owner n))) := by
 unfold owner
 by_cases h : n < 1
 ·rw [if_pos h]
  refine zL Tryz.tab Tryz.mixed Tryz.func13 rfl rfl Tryz.ntmps13 (by simp) (by simp) fun Q hr hn => ?_
  repeat' first | (refine hK _ ?_; clear hK) | (refine zU fun K hK => ?_) | (refine zS ?_; simp only [uU, uT, strip]) | ((first | refine wOs fun K hK => ?_ | refine zX ?_); simp [h]) | (refine zM ?_; try simp) | (refine wOn ?_; try simp only [zZ])
  all_goals apply hr
  all_goals simp [Tryz.f13]
 ·rw [if_neg h]
  refine zL Tryz.tab Tryz.mixed Tryz.func13 rfl rfl Tryz.ntmps13 (by simp) (by simp) fun Q hr hn => ?_
  repeat' first | (refine hK _ ?_; clear hK) | (refine zU fun K hK => ?_) | (refine zS ?_; simp only [uU, uT, strip]) | ((first | refine wOs fun K hK => ?_ | refine zX ?_); simp [h]) | ((first | refine zM ?_ | refine zR ?_); try simp) | (refine wOn ?_; try simp only [zZ])
  all_goals apply hr
  all_goals simp [Tryz.f13]
def freshE (e i : Int) : Int := if i < 0 \/ 16 <= i \/ e < 0 then 1 else if 1099511627760 < e then 5 else 0
def wM (e i : Int) : Int := if freshE e i ≠ 0 then 0 else if e - e.tmod 16 + i <= e then e - e.tmod 16 + i + 16 else e - e.tmod 16 + i
theorem fresh_con (e i : Int) : zF Tryz.prog 67 [.p (I e), .p (I i)] (.tup [.p (I (wM e i)), .p (I (freshE e i))]) := by
 unfold wM freshE
 by_cases h1 : i < 0
 ·simp only [h1, true_or, if_true]
  refine zL Tryz.tab Tryz.mixed Tryz.func67 rfl rfl Tryz.ntmps67 (by simp) (by simp) fun Q hr hn => ?_
  repeat' first | (refine hK _ ?_; clear hK) | (refine zU fun K hK => ?_) | (refine zS ?_; simp only [uU, uT, strip]) | ((first | refine wOs fun K hK => ?_ | refine zX ?_); simp [h1]) | (first | refine zV ?_) | (refine zM ?_; try simp) | (refine wOn ?_; try simp only [zZ])
  all_goals apply hr
  all_goals simp [Tryz.f67]
 by_cases h2 : 16 <= i
 ·simp only [h1, h2, false_or, true_or, if_true]
  refine zL Tryz.tab Tryz.mixed Tryz.func67 rfl rfl Tryz.ntmps67 (by simp) (by simp) fun Q hr hn => ?_
  repeat' first | (refine hK _ ?_; clear hK) | (refine zU fun K hK => ?_) | (refine zS ?_; simp only [uU, uT, strip]) | ((first | refine wOs fun K hK => ?_ | refine zX ?_); simp [h1, h2]) | (first | refine zV ?_) | (refine zM ?_; try simp) | (refine wOn ?_; try simp only [zZ])
  all_goals apply hr
  all_goals simp [Tryz.f67]
 by_cases h3 : e < 0
 ·simp only [h1, h2, h3, false_or, if_true]
  refine zL Tryz.tab Tryz.mixed Tryz.func67 rfl rfl Tryz.ntmps67 (by simp) (by simp) fun Q hr hn => ?_
  repeat' first | (refine hK _ ?_; clear hK) | (refine zU fun K hK => ?_) | (refine zS ?_; simp only [uU, uT, strip]) | ((first | refine wOs fun K hK => ?_ | refine zX ?_); simp [h1, h2, h3]) | (first | refine zV ?_) | (refine zM ?_; try simp) | (refine wOn ?_; try simp only [zZ])
  all_goals apply hr
  all_goals simp [Tryz.f67]
 by_cases h4 : 1099511627760 < e
 ·simp only [h1, h2, h3, h4, or_self, if_true, if_false]
  refine zL Tryz.tab Tryz.mixed Tryz.func67 rfl rfl Tryz.ntmps67 (by simp) (by simp) fun Q hr hn => ?_
  repeat' first | (refine hK _ ?_; clear hK) | (refine zU fun K hK => ?_) | (refine zS ?_; simp only [uU, uT, strip]) | ((first | refine wOs fun K hK => ?_ | refine zX ?_); simp [h1, h2, h3, h4]) | (first | refine zV ?_) | (refine zM ?_; try simp) | (refine wOn ?_; try simp only [zZ])
  all_goals apply hr
  all_goals simp [Tryz.f67]
 have hm : e.tmod 16 = e % 16 := Int.tmod_eq_emod_of_nonneg (by omega)
 have w0 : IntKind.i64.wrap (e.tmod 16) = e.tmod 16 := zE (by omega) (by omega)
 have w1 : IntKind.i64.wrap (e - e.tmod 16) = e - e.tmod 16 := zE (by omega) (by omega)
 have w2 : IntKind.i64.wrap (e - e.tmod 16 + i) = e - e.tmod 16 + i := zE (by omega) (by omega)
 have w3 : IntKind.i64.wrap (e - e.tmod 16 + i + 16) = e - e.tmod 16 + i + 16 := zE (by omega) (by omega)
 by_cases h5 : e - e.tmod 16 + i <= e
 ·simp only [h1, h2, h3, h4, h5, or_self, if_true, if_false, ne_eq, not_true_eq_false]
  refine zL Tryz.tab Tryz.mixed Tryz.func67 rfl rfl Tryz.ntmps67 (by simp) (by simp) fun Q hr hn => ?_
  repeat' first | (refine hK _ ?_; clear hK) | (refine zU fun K hK => ?_) | (refine zS ?_; simp only [uU, uT, strip]) | ((first | refine wOs fun K hK => ?_ | refine zX ?_); simp [h1, h2, h3, h4, h5, w1, w2, w3]) | (first | refine zV ?_) | ((first | refine zM ?_ | refine zR ?_); try simp) | (refine wOn ?_; try simp only [zZ])
  all_goals apply hr
  all_goals simp [Tryz.f67]
 ·simp only [h1, h2, h3, h4, h5, or_self, if_false, ne_eq, not_true_eq_false]
  refine zL Tryz.tab Tryz.mixed Tryz.func67 rfl rfl Tryz.ntmps67 (by simp) (by simp) fun Q hr hn => ?_
  repeat' first | (refine hK _ ?_; clear hK) | (refine zU fun K hK => ?_) | (refine zS ?_; simp only [uU, uT, strip]) | ((first | refine wOs fun K hK => ?_ | refine zX ?_); simp [h1, h2, h3, h4, h5, w1, w2]) | (first | refine zV ?_) | ((first | refine zM ?_ | refine zR ?_); try simp) | (refine wOn ?_; try simp only [zZ])
  all_goals apply hr
  all_goals simp [Tryz.f67]
structure Zx where
 (e n : Int)
 deriving DecidableEq
def zxs (l : List Zx) : List (List PV) := l.map fun z => [I z.e, I z.n]
@[simp] theorem wV (l : List Zx) : (zxs l).length = l.length := by simp [zxs]
@[simp] theorem zxs_getE {l : List Zx} {k : Nat} (h : k < (zxs l).length) : (zxs l)[k] = [I (l[k]'(by simpa using h)).e, I (l[k]'(by simpa using h)).n] := by simp [zxs]
def lastZ : List Zx -> Zx
 | [] => ⟨0, 0⟩
 | a :: r => r.foldl (fun m x => if 0 < xF x.e x.n m.e m.n then x else m) a
structure Hy where
 (im : Sv)
 (lg : List Tx)
 deriving DecidableEq
def Hy.cells (h : Hy) : List PV := [.sl 5 (zns h.im.ns), .sl 1 (ints h.im.ss), I h.im.nx, I h.im.c.ep, I h.im.c.n, I h.im.c.kind, .sl 4 (mbs h.im.c.ms), I h.im.ae, I h.im.an, .sl 8 (yY h.lg)]
def wT (t : Tx) : Nat := t.ps.length + (t.ps.map fun p => p.c.ms.length).sum
def wH (h : Hy) : Nat := h.im.ns.length + h.im.c.ms.length + h.im.ss.length + (h.lg.map wT).sum
def near16 (h : Hy) : Prop := h.lg.length <= 90 /\ (∀ t ∈ h.lg, t.ps.length <= 50) /\ wH h + h.lg.length <= 300
instance (h : Hy) : Decidable (near16 h) := by unfold near16; infer_instance
structure SmallH (h : Hy) : Prop where
 ns : h.im.ns.length <= 140737488355328
 ss : h.im.ss.length <= 140737488355328
 ms : h.im.c.ms.length <= 140737488355328
 ps : ∀ t ∈ h.lg, t.ps.length <= 140737488355328 /\ ∀ p ∈ t.ps, p.c.ms.length <= 140737488355328
theorem sum_snoc {α : Type} (f : α -> Nat) {l : List α} {k : Nat} (h : k < l.length) : ((l.take (k + 1)).map f).sum = ((l.take k).map f).sum + f l[k] := by
 rw [List.take_succ_eq_append_getElem h, List.map_append, List.sum_append]; simp
theorem wrapN (a b : Nat) (h : a + b <= 9223372036854775807) : IntKind.i64.wrap ((a : Int) + (b : Int)) = (a : Int) + (b : Int) := by
 rw [zE] <;> omega
abbrev RConX (g : FuncId) (args : List V) (e c : Nat) (l : List (List PV)) : Prop := Con Tryz.prog g args [] (.ret (.row 2048) [.row e c l] [])
theorem cloneM (l : List (List PV)) (hl : l.length <= 4398046510976) : RConX 140 [.p (.sl 4 l)] 133 4 l := by
 refine wBodyR Tryz.tab Tryz.mixed Tryz.func140 rfl rfl Tryz.ntmps140 rfl (by simp) (by simp) fun Q hr hn => ?_
 repeat' first | (refine wRetG [.row 2 133 4] ?_) | (refine And.intro (by omega) (Or.inl ?_)) | (refine And.intro ?_ (fun hnil => ?_)) | (refine hK _ ?_; clear hK) | (refine zU fun K hK => ?_) | (refine zS ?_; simp only [uU, uT, strip]) | ((first | refine wOs fun K hK => ?_ | refine zX ?_); simp) | (refine zR ?_; try simp) | (refine wOn ?_; try simp only [zZ])
 ·refine hr _ 7 (by simp) (by simp) (by omega)
 ·subst hnil
  simp only [thenA_r]
  refine hr _ 2 (by simp) (by simp) (by omega)
theorem cloneZ (l : List (List PV)) (hl : l.length <= 1000000) : RConX 153 [.p (.sl 5 l)] 129 5 l := by
 refine wBodyR Tryz.tab Tryz.mixed Tryz.func153 rfl rfl Tryz.ntmps153 rfl (by simp) (by simp) fun Q hr hn => ?_
 repeat' first | (refine wRetG [.row 2 129 5] ?_) | (refine And.intro (by omega) (Or.inl ?_)) | (refine And.intro ?_ (fun hnil => ?_)) | (refine hK _ ?_; clear hK) | (refine zU fun K hK => ?_) | (refine zS ?_; simp only [uU, uT, strip]) | ((first | refine wOs fun K hK => ?_ | refine zX ?_); simp) | (refine zR ?_; try simp) | (refine wOn ?_; try simp only [zZ])
 ·refine hr _ 7 (by simp) (by simp) (by omega)
 ·subst hnil
  simp only [thenA_r]
  refine hr _ 2 (by simp) (by simp) (by omega)
theorem cloneI (l : List (List PV)) (hl : l.length <= 1000000) : RConX 154 [.p (.sl 1 l)] 3 1 l := by
 refine wBodyR Tryz.tab Tryz.mixed Tryz.func154 rfl rfl Tryz.ntmps154 rfl (by simp) (by simp) fun Q hr hn => ?_
 repeat' first | (refine wRetG [.row 2 3 1] ?_) | (refine And.intro (by omega) (Or.inl ?_)) | (refine And.intro ?_ (fun hnil => ?_)) | (refine hK _ ?_; clear hK) | (refine zU fun K hK => ?_) | (refine zS ?_; simp only [uU, uT, strip]) | ((first | refine wOs fun K hK => ?_ | refine zX ?_); simp) | (refine zR ?_; try simp) | (refine wOn ?_; try simp only [zZ])
 ·refine hr _ 7 (by simp) (by simp) (by omega)
 ·subst hnil
  simp only [thenA_r]
  refine hr _ 2 (by simp) (by simp) (by omega)
theorem ownConfig_con (e n k : Int) (ms : List (List PV)) (hl : ms.length <= 4398046510976) : zF Tryz.prog 116 [.p (.agg [I e, I n, I k, .sl 4 ms])] (.p (.agg [I e, I n, I k, .sl 4 ms])) := by
 have c := cloneM ms hl
 refine zL Tryz.tab Tryz.mixed Tryz.func116 rfl rfl Tryz.ntmps116 (by simp) (by simp) fun Q hr hn => ?_
 repeat' first | (refine hK _ ?_; clear hK) | (refine zU fun K hK => ?_) | (refine zS ?_; simp only [uU, uT, strip]) | ((first | refine wOs fun K hK => ?_ | refine zY ?_); simp) | (refine zM ?_; try simp) | (refine wOn ?_; try simp only [zZ]) | (refine zQ.own (c) ?_)
 all_goals apply hr
 all_goals simp [Tryz.f116]
end Go.Proofs.YtffflakmofbilaaGreat
