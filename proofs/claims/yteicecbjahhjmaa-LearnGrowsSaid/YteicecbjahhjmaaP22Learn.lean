/- Texts that the proof needs: PD NA NB NC ND PE PF PG PH NE NF QLib QA XG XH XI XJ XK. -/
import Derived.Test.YteicecbjahhjmaaP20Learn
import Derived.Test.YteicecbjahhjmaaP21Learn
import Derived.Test.YteicecbjahhjmaaP14Learn
import Derived.Test.YteicecbjahhjmaaP19Learn
import Derived.Test.YteicecbjahhjmaaP18Learn
import Derived.WalkKit
import Derived.Test.YteicecbjahhjmaaP17Learn
/- Layer 3: names, depths, long texts; the law PathChecks. -/
namespace Go.Proofs.Yteicecbjahhjmaa
set_option linter.unusedSimpArgs false
set_option linter.unusedVariables false
open Go Go.Av
attribute [local simp] Try.T1 Try.T2 Try.T3 Try.T4 Try.T5 Try.T9 Try.T12 Try.T15 Try.T16 Try.T17 Try.T21 Try.T22 Try.T23 Try.T25 Try.T26 Try.T28 Try.T30 Try.T31 Try.T33 Try.T35 Try.T36 Try.T37 Try.T38 Try.T39 Try.T41 Try.T42 Try.T44 Try.T45 Try.T47 Try.T48 Try.T50 Try.T51 Try.T52 Try.T54 Try.T55 Try.T56 Try.T58 Try.T59 Try.T61 Try.T63 Try.T65 Try.T67 Try.T68 Try.T69 Try.T70 Try.T72 Try.T73 Try.T74 Try.T75 Try.T76 Try.T77 Try.T78 Try.T79 Try.T80 Try.T81 Try.T83 Try.T84 Try.T85 Try.T87 Try.T88 Try.T89 Try.T90 Try.T91 Try.T92 Try.T93 Try.T94 Try.T95 Try.T96 Try.T97 Try.T98 Try.T99 Try.T101 Try.T103 Try.T104 Try.T105 Try.T106 Try.T107 Try.T108 Try.T109 Try.T110 Try.T111 Try.T113 Try.T114 Try.T115 Try.T116 Try.T117 Try.T118 Try.T119 Try.T120 Try.T121 Try.T122 Try.T123 Try.T124 Try.T125 Try.T126 Try.T127 Try.T128 Try.T129 Try.T130 Try.T131 Try.T132 Try.T133 Try.T134 Try.T135 Try.T137 Try.T138 Try.T139 Try.T140 Try.T141 Try.T142 Try.T143 Try.T144 Try.T145 Try.T146 Try.T147 Try.T148 Try.T149 Try.T150 Try.T153 Try.T156 Try.T157 Try.T160 Try.T161 Try.T167
attribute [local irreducible] Go.Av.CallK Go.Av.CallE Go.Av.CallQ Go.Av.CallF Go.Av.CallR Go.Av.CallH Go.Av.Con
/- Nodes of the tree: lists of them; Find, Children, Texts, Root. -/
@[simp] theorem empty_bs : ByteArray.empty = bs [] := rfl
structure Zn where
  (p d : List UInt8)
  (v k o : Int)
  deriving DecidableEq
def Zn.c (z : Zn) : List PV := [SB z.p, SB z.d, I z.v, I z.k, I z.o]
theorem Zn.ext5 {x y : Zn} : x = y ↔ x.p = y.p ∧ x.d = y.d ∧ x.v = y.v ∧ x.k = y.k ∧ x.o = y.o := by cases x; cases y; simp
def zns (l : List Zn) : List (List PV) := l.map Zn.c
@[simp] theorem zns_len (l : List Zn) : (zns l).length = l.length := by simp [zns]
@[simp] theorem zns_getElem (l : List Zn) (k : Nat) (h : k < (zns l).length) : (zns l)[k] = [SB (l[k]'(by simpa using h)).p, SB (l[k]'(by simpa using h)).d, I (l[k]'(by simpa using h)).v, I (l[k]'(by simpa using h)).k, I (l[k]'(by simpa using h)).o] := by simp [zns, Zn.c]
theorem zns_get {l : List Zn} {k : Nat} (h : k < l.length) : (zns l)[k]? = some [SB l[k].p, SB l[k].d, I l[k].v, I l[k].k, I l[k].o] := by simp [zns, h, Zn.c]
theorem zns_snoc (l : List Zn) (z : Zn) : zns l ++ [[SB z.p, SB z.d, I z.v, I z.k, I z.o]] = zns (l ++ [z]) := by simp [zns, Zn.c]
theorem zns_take (l : List Zn) (k : Nat) : (zns l).take k = zns (l.take k) := by simp [zns, List.map_take]
theorem zns_drop (l : List Zn) (k : Nat) : (zns l).drop k = zns (l.drop k) := by simp [zns, List.map_drop]
def txs (l : List (List UInt8)) : List (List PV) := l.map fun x => [SB x]
@[simp] theorem txs_len (l : List (List UInt8)) : (txs l).length = l.length := by simp [txs]
@[simp] theorem txs_getElem (l : List (List UInt8)) (k : Nat) (h : k < (txs l).length) : (txs l)[k] = [SB (l[k]'(by simpa using h))] := by simp [txs]
theorem take_snocN {α : Type} (l : List α) (k : Nat) (h : k < l.length) : l.take (k + 1) = l.take k ++ [l[k]] := List.take_succ_eq_append_getElem h
/-! ### Find -/
def zz : Zn := ⟨[], [], 0, 0, 0⟩
def fnd : List Zn → List UInt8 → Zn × Bool
  | [], _ => (zz, false)
  | z :: r, p => if z.p = p then (z, true) else fnd r p
/- Nodes of the tree: lists of them: children, Put, Gone, Same, Root. -/
/-! ### Children -/
def par (l : List UInt8) : List UInt8 × Bool := if chd l = true then (l.take (max (lx l l.length) 1), true) else ([], false)
def long (z : Zn) : Prop := z.p.length ≤ 9223372036854775807 ∧ z.d.length ≤ 9223372036854775807
/-! ### Put, Gone, Root -/
def lss (a b : List UInt8) : Bool := Op.bytesLess a b
def att : List Zn → List UInt8 → Nat
  | [], _ => 0
  | x :: r, q => if lss x.p q = true then att r q + 1 else 0
theorem att_le : ∀ (l : List Zn) (q : List UInt8), att l q ≤ l.length
  | [], _ => Nat.le_refl 0
  | x :: r, q => by
    rw [att]; split
    · have := att_le r q; simp; omega
    · simp
theorem att_step {l : List Zn} {k : Nat} (h : k < l.length) (q : List UInt8) : att (l.drop k) q = if lss l[k].p q = true then att (l.drop (k + 1)) q + 1 else 0 := by
  rw [List.drop_eq_getElem_cons h]; rfl
def rst : List Zn → List UInt8 → List Zn
  | [], _ => []
  | x :: r, q => if x.p = q then r else x :: r
def putZ (l : List Zn) (z : Zn) : List Zn := l.take (att l z.p) ++ z :: rst (l.drop (att l z.p)) z.p
theorem put07_con (l : List Zn) (z : Zn) (hl : l.length ≤ 1000000) : ACon Try.prog 74 [.p (.sl 5 (zns l)), .p (.agg z.c)] (.p (.sl 5 (zns (putZ l z)))) := by
  refine wBody Try.tab Try.mixed Try.func74 rfl rfl Try.ntmps74 (by simp) (by simp) fun Q hr hn => ?_
  repeat' first | (refine hK _ ?_; clear hK) | (refine hK _ _ ?_; clear hK) | (clear hK; refine hK _ ?_; clear hK) | (clear hK; clear hK; refine hK _ ?_; clear hK) | (clear hK; clear hK; clear hK; refine hK _ ?_; clear hK) | (clear hK; clear hK; clear hK; clear hK; refine hK _ ?_; clear hK) | (refine wSeq fun K hK => ?_) | ((first | refine wReg ?_ | refine wDrwQ rfl (by kernel_rfl) ?_ | refine wDrwI ?_ | refine wDrw (by kernel_rfl) ?_); simp only [List.map_cons, List.map_nil, strip]) | ((first | refine wIs fun K hK => ?_ | refine wOs fun K hK => ?_ | refine wQs fun K hK => ?_ | refine CallK_plain ?_ | refine CallQ_plain ?_ | refine CallR_plain ?_ | refine wCond ?_); simp [Zn.c]) | (refine wIn ?_; refine And.intro (by kernel_rfl) ?_; try simp only [thenA_n]) | (first | refine wBlock ?_ | refine wScope ?_) | ((first | refine wRet ?_ | refine wExit ?_ | refine wSkip ?_); try simp) | ((first | refine wLabel ?_ | refine wOn ?_ | refine wQn ?_); try simp only [thenA_n])
  refine wLoop (fun N st => ∃ k, k + N = l.length ∧ att l z.p = k + att (l.drop k) z.p ∧ st.s 0 = .p (.sl 5 (zns l)) ∧ st.s 5 = .p (I k) ∧ st.s 3 = .ptr 3 0 ∧ st.b 3 = some (.box 101 [.p (SB z.p), .p (SB z.d), .p (I z.v), .p (I z.k), .p (I z.o)])) l.length ⟨0, by simp⟩ fun K N st hL ⟨k, hk, hi, g0, g5, g3, b3⟩ => ?_
  have hend : att (l.drop k) z.p = 0 → putZ l z = l.take k ++ z :: rst (l.drop k) z.p := fun h => by
    unfold putZ; rw [hi, h, Nat.add_zero]
  by_cases hlt : k < l.length
  · have hw := wrapS k _ hlt (by omega)
    have he := zns_get hlt
    have hs := att_step hlt z.p
    cases o : lss l[k].p z.p
    · rw [o, if_neg (by simp)] at hs
      rw [hend hs] at hr
      have o' : Op.bytesLess l[k].p z.p = false := o
      have hd := List.drop_eq_getElem_cons hlt
      have hle : k ≤ l.length := by omega
      have hdn : (l.drop (k + 1)).length ≤ 1000000 := by simp; omega
      rw [hd, rst] at hr
      have ht := zns_take l k
      have hdr := zns_drop l k
      have hdr2 := zns_drop l (k + 1)
      have hle1 : k + 1 ≤ l.length := by omega
      have h0k : (0 : Int) ≤ (k : Int) + 1 := by omega
      have hw2 : IntKind.i64.wrap ((k : Int) + 1) = (((k + 1 : Nat)) : Int) := hw
      have hzn := zns_snoc (l.take k) z
      have hzt := zns_len (l.take k ++ [z])
      have hztc : (l.take k).length ≤ 1000000 := by simp; omega
      have hn0 : 0 < l.length - k := by omega
      have hn1 : ¬ l.length - k = 0 := by omega
      have hn2 : 1 ≤ l.length - k := by omega
      have htb : (zns (l.drop k)).take (l.length - k) = zns (l.drop k) := List.take_of_length_le (by simp)
      have hdr3 : (zns (l.drop k)).drop 1 = zns (l.drop (k + 1)) := by rw [zns_drop, List.drop_drop]
      have hta : (zns l).take l.length = zns l := List.take_of_length_le (by simp)
      by_cases o2 : l[k].p = z.p
      · rw [if_pos o2] at hr
        rw [o2] at o'
        repeat' first | (refine And.intro (by (try simp); omega) ?_) | (refine Or.inl ?_) | (refine hK _ ?_; clear hK) | (refine hK _ _ ?_; clear hK) | (clear hK; refine hK _ ?_; clear hK) | (clear hK; clear hK; refine hK _ ?_; clear hK) | (clear hK; clear hK; clear hK; refine hK _ ?_; clear hK) | (clear hK; clear hK; clear hK; clear hK; refine hK _ ?_; clear hK) | (refine wSeq fun K hK => ?_) | ((first | refine wReg ?_ | refine wDrwQ rfl (by kernel_rfl) ?_ | refine wDrwI ?_ | refine wDrw (by kernel_rfl) ?_); simp only [List.map_cons, List.map_nil, strip]) | ((first | refine wIs fun K hK => ?_ | refine wOs fun K hK => ?_ | refine wQs fun K hK => ?_ | refine CallK_plain ?_ | refine CallQ_plain ?_ | refine CallR_plain ?_ | refine wCond ?_); simp [g0, g5, g3, b3, hlt, hw, he, o', o2, ht, hdr, hdr2, hle, hle1, h0k, hw2, hta, hzn, hzt, hztc]) | (refine wIn ?_; refine And.intro (by kernel_rfl) ?_; try simp only [thenA_n]) | (first | refine wBlock ?_ | refine wScope ?_) | ((first | refine wRet ?_ | refine wExit ?_ | refine wSkip ?_); try simp) | ((first | refine wLabel ?_ | refine wOn ?_ | refine wQn ?_); try simp only [thenA_n])
        all_goals apply hr
        all_goals simp [Try.f74, zns, Zn.c]
      · rw [if_neg o2] at hr
        repeat' first | (refine And.intro (by (try simp); omega) ?_) | (refine Or.inl ?_) | (refine hK _ ?_; clear hK) | (refine hK _ _ ?_; clear hK) | (clear hK; refine hK _ ?_; clear hK) | (clear hK; clear hK; refine hK _ ?_; clear hK) | (clear hK; clear hK; clear hK; refine hK _ ?_; clear hK) | (clear hK; clear hK; clear hK; clear hK; refine hK _ ?_; clear hK) | (refine wSeq fun K hK => ?_) | ((first | refine wReg ?_ | refine wDrwQ rfl (by kernel_rfl) ?_ | refine wDrwI ?_ | refine wDrw (by kernel_rfl) ?_); simp only [List.map_cons, List.map_nil, strip]) | ((first | refine wIs fun K hK => ?_ | refine wOs fun K hK => ?_ | refine wQs fun K hK => ?_ | refine CallK_plain ?_ | refine CallQ_plain ?_ | refine CallR_plain ?_ | refine wCond ?_); simp [g0, g5, g3, b3, hlt, hw, he, o', o2, ht, hdr, hdr2, hle, hle1, h0k, hw2, hta, hzn, hzt, hztc]) | (refine wIn ?_; refine And.intro (by kernel_rfl) ?_; try simp only [thenA_n]) | (first | refine wBlock ?_ | refine wScope ?_) | ((first | refine wRet ?_ | refine wExit ?_ | refine wSkip ?_); try simp) | ((first | refine wLabel ?_ | refine wOn ?_ | refine wQn ?_); try simp only [thenA_n])
        all_goals apply hr
        all_goals simp [Try.f74, zns, Zn.c]
    · rw [o, if_pos rfl] at hs
      have o' : Op.bytesLess l[k].p z.p = true := o
      repeat' first | (refine hK _ ?_; clear hK) | (refine hK _ _ ?_; clear hK) | (clear hK; refine hK _ ?_; clear hK) | (clear hK; clear hK; refine hK _ ?_; clear hK) | (clear hK; clear hK; clear hK; refine hK _ ?_; clear hK) | (clear hK; clear hK; clear hK; clear hK; refine hK _ ?_; clear hK) | (refine wSeq fun K hK => ?_) | ((first | refine wReg ?_ | refine wDrwQ rfl (by kernel_rfl) ?_ | refine wDrwI ?_ | refine wDrw (by kernel_rfl) ?_); simp only [List.map_cons, List.map_nil, strip]) | ((first | refine wIs fun K hK => ?_ | refine wOs fun K hK => ?_ | refine wQs fun K hK => ?_ | refine CallK_plain ?_ | refine CallQ_plain ?_ | refine CallR_plain ?_ | refine wCond ?_); simp [g0, g5, g3, b3, hlt, hw, he, o']) | (refine wIn ?_; refine And.intro (by kernel_rfl) ?_; try simp only [thenA_n]) | (first | refine wBlock ?_ | refine wScope ?_) | ((first | refine wRet ?_ | refine wExit ?_ | refine wSkip ?_); try simp) | ((first | refine wLabel ?_ | refine wOn ?_ | refine wQn ?_); try simp only [thenA_n])
      refine hL _ (N - 1) (by omega) ⟨k + 1, by omega, by omega, ?_⟩
      simp [g0, g5, g3, b3, hw]
  · obtain rfl : k = l.length := by omega
    have hd : l.drop l.length = [] := List.drop_of_length_le (by omega)
    rw [hd] at hend
    rw [hend rfl] at hr
    have hta : (zns l).take l.length = zns l := List.take_of_length_le (by simp)
    have hta2 : l.take l.length = l := List.take_of_length_le (by simp)
    have hdr : (zns l).drop l.length = [] := List.drop_of_length_le (by simp)
    have hsn := zns_snoc l z
    rw [hta2, rst, ← hsn] at hr
    repeat' first | (refine And.intro (by (try simp); omega) ?_) | (refine Or.inl ?_) | (refine hK _ ?_; clear hK) | (refine hK _ _ ?_; clear hK) | (clear hK; refine hK _ ?_; clear hK) | (clear hK; clear hK; refine hK _ ?_; clear hK) | (clear hK; clear hK; clear hK; refine hK _ ?_; clear hK) | (clear hK; clear hK; clear hK; clear hK; refine hK _ ?_; clear hK) | (refine wSeq fun K hK => ?_) | ((first | refine wReg ?_ | refine wDrwQ rfl (by kernel_rfl) ?_ | refine wDrwI ?_ | refine wDrw (by kernel_rfl) ?_); simp only [List.map_cons, List.map_nil, strip]) | ((first | refine wIs fun K hK => ?_ | refine wOs fun K hK => ?_ | refine wQs fun K hK => ?_ | refine CallK_plain ?_ | refine CallQ_plain ?_ | refine CallR_plain ?_ | refine wCond ?_); simp [g0, g5, g3, b3, hta, hdr]) | (refine wIn ?_; refine And.intro (by kernel_rfl) ?_; try simp only [thenA_n]) | (first | refine wBlock ?_ | refine wScope ?_) | ((first | refine wRet ?_ | refine wExit ?_ | refine wSkip ?_); try simp) | ((first | refine wLabel ?_ | refine wOn ?_ | refine wQn ?_); try simp only [thenA_n])
    all_goals apply hr
    all_goals simp [Try.f74]
def gone (l : List Zn) (p : List UInt8) : List Zn := l.filter fun z => !decide (z.p = p)
theorem gone_snoc {l : List Zn} {k : Nat} (h : k < l.length) (p : List UInt8) : gone (l.take (k + 1)) p = if l[k].p = p then gone (l.take k) p else gone (l.take k) p ++ [l[k]] := by
  unfold gone
  rw [take_snocN _ k h, List.filter_append]
  by_cases g : l[k].p = p <;> simp [g]
theorem gone_len (l : List Zn) (p : List UInt8) (k : Nat) : (gone (l.take k) p).length ≤ k := by
  unfold gone
  exact Nat.le_trans (List.length_filter_le _ _) (by simp; omega)
theorem gone07_con (l : List Zn) (p : List UInt8) (hl : l.length ≤ 1000000) : ACon Try.prog 75 [.p (.sl 5 (zns l)), .p (SB p)] (.p (.sl 5 (zns (gone l p)))) := by
  refine wBody Try.tab Try.mixed Try.func75 rfl rfl Try.ntmps75 (by simp) (by simp) fun Q hr hn => ?_
  repeat' first | (refine hK _ ?_; clear hK) | (refine hK _ _ ?_; clear hK) | (clear hK; refine hK _ ?_; clear hK) | (clear hK; clear hK; refine hK _ ?_; clear hK) | (clear hK; clear hK; clear hK; refine hK _ ?_; clear hK) | (clear hK; clear hK; clear hK; clear hK; refine hK _ ?_; clear hK) | (refine wSeq fun K hK => ?_) | ((first | refine wReg ?_ | refine wDrwQ rfl (by kernel_rfl) ?_ | refine wDrwI ?_ | refine wDrw (by kernel_rfl) ?_); simp only [List.map_cons, List.map_nil, strip]) | ((first | refine wIs fun K hK => ?_ | refine wOs fun K hK => ?_ | refine wQs fun K hK => ?_ | refine CallK_plain ?_ | refine CallQ_plain ?_ | refine CallR_plain ?_ | refine wCond ?_); simp) | (refine wIn ?_; refine And.intro (by kernel_rfl) ?_; try simp only [thenA_n]) | (first | refine wBlock ?_ | refine wScope ?_) | ((first | refine wRet ?_ | refine wExit ?_ | refine wSkip ?_); try simp) | ((first | refine wLabel ?_ | refine wOn ?_ | refine wQn ?_); try simp only [thenA_n])
  refine wLoopG [.row 5 101 5] (fun N st => ∃ k, k + N = l.length ∧ st.s 1 = .p (SB p) ∧ st.s 8 = .p (.sl 5 (zns l)) ∧ st.s 9 = .p (I l.length) ∧ st.s 10 = .p (I k) ∧ st.s 5 = .row 5 ∧ st.b 5 = some (.row 101 5 (zns (gone (l.take k) p)))) l.length ⟨0, by simp [gone, zns]⟩ fun K N st hL ⟨k, hk, g1, g8, g9, g10, g5, b5⟩ => ?_
  have hkl := gone_len l p k
  by_cases hlt : k < l.length
  · have hw := wrapS k _ hlt (by omega)
    have he := zns_get hlt
    have hs := gone_snoc hlt p
    have hx := zns_snoc (gone (l.take k) p) l[k]
    by_cases o : l[k].p = p
    · rw [if_pos o] at hs
      repeat' first | (refine hK _ ?_; clear hK) | (refine hK _ _ ?_; clear hK) | (clear hK; refine hK _ ?_; clear hK) | (clear hK; clear hK; refine hK _ ?_; clear hK) | (clear hK; clear hK; clear hK; refine hK _ ?_; clear hK) | (clear hK; clear hK; clear hK; clear hK; refine hK _ ?_; clear hK) | (refine wSeq fun K hK => ?_) | ((first | refine wReg ?_ | refine wDrwQ rfl (by kernel_rfl) ?_ | refine wDrwI ?_ | refine wDrw (by kernel_rfl) ?_); simp only [List.map_cons, List.map_nil, strip]) | ((first | refine wIs fun K hK => ?_ | refine wOs fun K hK => ?_ | refine wQs fun K hK => ?_ | refine CallK_plain ?_ | refine CallQ_plain ?_ | refine CallR_plain ?_ | refine wCond ?_); simp [g1, g8, g9, g10, g5, b5, hlt, hw, he, o]) | (refine wIn ?_; refine And.intro (by kernel_rfl) ?_; try simp only [thenA_n]) | (first | refine wBlock ?_ | refine wScope ?_) | ((first | refine wRet ?_ | refine wExit ?_ | refine wSkip ?_); try simp) | ((first | refine wLabel ?_ | refine wOn ?_ | refine wQn ?_); try simp only [thenA_n])
      refine hL _ (N - 1) (by omega) ⟨k + 1, by omega, ?_⟩
      simp [g1, g8, g9, g10, g5, b5, hw, hs]
    · rw [if_neg o] at hs
      rw [← hs] at hx
      repeat' first | (refine And.intro (by (try simp at hkl ⊢); omega) ?_) | (refine hK _ ?_; clear hK) | (refine hK _ _ ?_; clear hK) | (clear hK; refine hK _ ?_; clear hK) | (clear hK; clear hK; refine hK _ ?_; clear hK) | (clear hK; clear hK; clear hK; refine hK _ ?_; clear hK) | (clear hK; clear hK; clear hK; clear hK; refine hK _ ?_; clear hK) | (refine wSeq fun K hK => ?_) | ((first | refine wReg ?_ | refine wDrwQ rfl (by kernel_rfl) ?_ | refine wDrwI ?_ | refine wDrw (by kernel_rfl) ?_); simp only [List.map_cons, List.map_nil, strip]) | ((first | refine wIs fun K hK => ?_ | refine wOs fun K hK => ?_ | refine wQs fun K hK => ?_ | refine CallK_plain ?_ | refine CallQ_plain ?_ | refine CallR_plain ?_ | refine wCond ?_); simp [g1, g8, g9, g10, g5, b5, hlt, hw, he, o]) | (refine wIn ?_; refine And.intro (by kernel_rfl) ?_; try simp only [thenA_n]) | (first | refine wBlock ?_ | refine wScope ?_) | ((first | refine wRet ?_ | refine wExit ?_ | refine wSkip ?_); try simp) | ((first | refine wLabel ?_ | refine wOn ?_ | refine wQn ?_); try simp only [thenA_n])
      refine hL _ (N - 1) (by omega) ⟨k + 1, by omega, ?_⟩
      simp [g1, g8, g9, g10, g5, b5, hw, hx]
  · rw [List.take_of_length_le (by omega)] at b5
    repeat' first | (refine hK _ ?_; clear hK) | (refine hK _ _ ?_; clear hK) | (clear hK; refine hK _ ?_; clear hK) | (clear hK; clear hK; refine hK _ ?_; clear hK) | (clear hK; clear hK; clear hK; refine hK _ ?_; clear hK) | (clear hK; clear hK; clear hK; clear hK; refine hK _ ?_; clear hK) | (refine wSeq fun K hK => ?_) | ((first | refine wReg ?_ | refine wDrwQ rfl (by kernel_rfl) ?_ | refine wDrwI ?_ | refine wDrw (by kernel_rfl) ?_); simp only [List.map_cons, List.map_nil, strip]) | ((first | refine wIs fun K hK => ?_ | refine wOs fun K hK => ?_ | refine wQs fun K hK => ?_ | refine CallK_plain ?_ | refine CallQ_plain ?_ | refine CallR_plain ?_ | refine wCond ?_); simp [g1, g8, g9, g10, g5, b5, hlt]) | (refine wIn ?_; refine And.intro (by kernel_rfl) ?_; try simp only [thenA_n]) | (first | refine wBlock ?_ | refine wScope ?_) | ((first | refine wRet ?_ | refine wExit ?_ | refine wSkip ?_); try simp) | ((first | refine wLabel ?_ | refine wOn ?_ | refine wQn ?_); try simp only [thenA_n])
    all_goals apply hr
    all_goals simp [Try.f75, g5, b5]
theorem same07_con (a b : List Zn) : ACon Try.prog 47 [.p (.sl 5 (zns a)), .p (.sl 5 (zns b))] (.p (B (decide (a = b)))) := by
  refine ACon.len ⟨Try.f47, Try.func47, rfl, rfl⟩ 0 _ _ rfl fun hlen => ?_
  simp only [zns_len] at hlen
  by_cases hl : a.length = b.length
  · refine wBody Try.tab Try.mixed Try.func47 rfl rfl Try.ntmps47 (by simp) (by simp) fun Q hr hn => ?_
    repeat' first | (refine hK _ ?_; clear hK) | (refine hK _ _ ?_; clear hK) | (clear hK; refine hK _ ?_; clear hK) | (clear hK; clear hK; refine hK _ ?_; clear hK) | (clear hK; clear hK; clear hK; refine hK _ ?_; clear hK) | (clear hK; clear hK; clear hK; clear hK; refine hK _ ?_; clear hK) | (refine wSeq fun K hK => ?_) | ((first | refine wReg ?_ | refine wDrwQ rfl (by kernel_rfl) ?_ | refine wDrwI ?_ | refine wDrw (by kernel_rfl) ?_); simp only [List.map_cons, List.map_nil, strip]) | ((first | refine wIs fun K hK => ?_ | refine wOs fun K hK => ?_ | refine wQs fun K hK => ?_ | refine CallK_plain ?_ | refine CallQ_plain ?_ | refine CallR_plain ?_ | refine wCond ?_); simp [hl]) | (refine wIn ?_; refine And.intro (by kernel_rfl) ?_; try simp only [thenA_n]) | (first | refine wBlock ?_ | refine wScope ?_) | ((first | refine wRet ?_ | refine wExit ?_ | refine wSkip ?_); try simp) | ((first | refine wLabel ?_ | refine wOn ?_ | refine wQn ?_); try simp only [thenA_n])
    refine wLoop (fun N st => ∃ k, k + N = a.length ∧ st.s 0 = .p (.sl 5 (zns a)) ∧ st.s 1 = .p (.sl 5 (zns b)) ∧ st.s 12 = .p (I a.length) ∧ st.s 13 = .p (I k) ∧ (a = b ↔ a.drop k = b.drop k)) a.length ⟨0, by simp [hl]⟩ fun K N st hL ⟨k, hk, g0, g1, g12, g13, hi⟩ => ?_
    by_cases hlt : k < a.length
    · have hlt' : k < b.length := by omega
      have hw := wrapS k _ hlt hlen
      have h1 := zns_get hlt
      have h2 := zns_get hlt'
      rw [List.drop_eq_getElem_cons hlt, List.drop_eq_getElem_cons hlt', List.cons.injEq, Zn.ext5] at hi
      by_cases o : a[k].p = b[k].p ∧ a[k].d = b[k].d ∧ a[k].v = b[k].v ∧ a[k].k = b[k].k ∧ a[k].o = b[k].o
      · rw [and_iff_right o] at hi
        obtain ⟨o1, o2, o3, o4, o5⟩ := o
        repeat' first | (refine hK _ ?_; clear hK) | (refine hK _ _ ?_; clear hK) | (clear hK; refine hK _ ?_; clear hK) | (clear hK; clear hK; refine hK _ ?_; clear hK) | (clear hK; clear hK; clear hK; refine hK _ ?_; clear hK) | (clear hK; clear hK; clear hK; clear hK; refine hK _ ?_; clear hK) | (refine wSeq fun K hK => ?_) | ((first | refine wReg ?_ | refine wDrwQ rfl (by kernel_rfl) ?_ | refine wDrwI ?_ | refine wDrw (by kernel_rfl) ?_); simp only [List.map_cons, List.map_nil, strip]) | ((first | refine wIs fun K hK => ?_ | refine wOs fun K hK => ?_ | refine wQs fun K hK => ?_ | refine CallK_plain ?_ | refine CallQ_plain ?_ | refine CallR_plain ?_ | refine wCond ?_); simp [g0, g1, g12, g13, hlt, hlt', hw, h1, h2, o1, o2, o3, o4, o5]) | (refine wIn ?_; refine And.intro (by kernel_rfl) ?_; try simp only [thenA_n]) | (first | refine wBlock ?_ | refine wScope ?_) | ((first | refine wRet ?_ | refine wExit ?_ | refine wSkip ?_); try simp) | ((first | refine wLabel ?_ | refine wOn ?_ | refine wQn ?_); try simp only [thenA_n])
        refine hL _ (N - 1) (by omega) ⟨k + 1, by omega, ?_⟩
        simp [g0, g1, g12, g13, hw]
        exact hi
      · rw [show decide (a = b) = false from decide_eq_false fun h => o (hi.1 h).1] at hr
        repeat' first | (refine hK _ ?_; clear hK) | (refine hK _ _ ?_; clear hK) | (clear hK; refine hK _ ?_; clear hK) | (clear hK; clear hK; refine hK _ ?_; clear hK) | (clear hK; clear hK; clear hK; refine hK _ ?_; clear hK) | (clear hK; clear hK; clear hK; clear hK; refine hK _ ?_; clear hK) | (refine wSeq fun K hK => ?_) | ((first | refine wReg ?_ | refine wDrwQ rfl (by kernel_rfl) ?_ | refine wDrwI ?_ | refine wDrw (by kernel_rfl) ?_); simp only [List.map_cons, List.map_nil, strip]) | ((first | refine wIs fun K hK => ?_ | refine wOs fun K hK => ?_ | refine wQs fun K hK => ?_ | refine CallK_plain ?_ | refine CallQ_plain ?_ | refine CallR_plain ?_ | refine wCond ?_); simp [g0, g1, g12, g13, hlt, hlt', hw, h1, h2, o]) | (refine wIn ?_; refine And.intro (by kernel_rfl) ?_; try simp only [thenA_n]) | (first | refine wBlock ?_ | refine wScope ?_) | ((first | refine wRet ?_ | refine wExit ?_ | refine wSkip ?_); try simp) | ((first | refine wLabel ?_ | refine wOn ?_ | refine wQn ?_); try simp only [thenA_n]) | (intro _)
        all_goals first | exact o | skip
        all_goals apply hr
        all_goals simp [Try.f47]
    · rw [List.drop_of_length_le (by omega), List.drop_of_length_le (by omega)] at hi
      rw [show decide (a = b) = true from decide_eq_true (hi.2 rfl)] at hr
      repeat' first | (refine hK _ ?_; clear hK) | (refine hK _ _ ?_; clear hK) | (clear hK; refine hK _ ?_; clear hK) | (clear hK; clear hK; refine hK _ ?_; clear hK) | (clear hK; clear hK; clear hK; refine hK _ ?_; clear hK) | (clear hK; clear hK; clear hK; clear hK; refine hK _ ?_; clear hK) | (refine wSeq fun K hK => ?_) | ((first | refine wReg ?_ | refine wDrwQ rfl (by kernel_rfl) ?_ | refine wDrwI ?_ | refine wDrw (by kernel_rfl) ?_); simp only [List.map_cons, List.map_nil, strip]) | ((first | refine wIs fun K hK => ?_ | refine wOs fun K hK => ?_ | refine wQs fun K hK => ?_ | refine CallK_plain ?_ | refine CallQ_plain ?_ | refine CallR_plain ?_ | refine wCond ?_); simp [g0, g1, g12, g13, hlt]) | (refine wIn ?_; refine And.intro (by kernel_rfl) ?_; try simp only [thenA_n]) | (first | refine wBlock ?_ | refine wScope ?_) | ((first | refine wRet ?_ | refine wExit ?_ | refine wSkip ?_); try simp) | ((first | refine wLabel ?_ | refine wOn ?_ | refine wQn ?_); try simp only [thenA_n])
      all_goals apply hr
      all_goals simp [Try.f47]
  · have hl' : ¬ (a.length : Int) = b.length := by omega
    rw [show decide (a = b) = false from decide_eq_false fun h => hl (by rw [h])]
    refine wBody Try.tab Try.mixed Try.func47 rfl rfl Try.ntmps47 (by simp) (by simp) fun Q hr hn => ?_
    repeat' first | (refine hK _ ?_; clear hK) | (refine hK _ _ ?_; clear hK) | (clear hK; refine hK _ ?_; clear hK) | (clear hK; clear hK; refine hK _ ?_; clear hK) | (clear hK; clear hK; clear hK; refine hK _ ?_; clear hK) | (clear hK; clear hK; clear hK; clear hK; refine hK _ ?_; clear hK) | (refine wSeq fun K hK => ?_) | ((first | refine wReg ?_ | refine wDrwQ rfl (by kernel_rfl) ?_ | refine wDrwI ?_ | refine wDrw (by kernel_rfl) ?_); simp only [List.map_cons, List.map_nil, strip]) | ((first | refine wIs fun K hK => ?_ | refine wOs fun K hK => ?_ | refine wQs fun K hK => ?_ | refine CallK_plain ?_ | refine CallQ_plain ?_ | refine CallR_plain ?_ | refine wCond ?_); simp [hl, hl']) | (refine wIn ?_; refine And.intro (by kernel_rfl) ?_; try simp only [thenA_n]) | (first | refine wBlock ?_ | refine wScope ?_) | ((first | refine wRet ?_ | refine wExit ?_ | refine wSkip ?_); try simp) | ((first | refine wLabel ?_ | refine wOn ?_ | refine wQn ?_); try simp only [thenA_n])
    all_goals apply hr
    all_goals simp [Try.f47]
/- Nodes of the tree: what may be a tree; Same. -/
theorem root07_con : ACon Try.prog 40 [] (.p (.sl 5 (zns [⟨[47], [], 0, 0, 0⟩]))) := by
  refine wBody Try.tab Try.mixed Try.func40 rfl rfl Try.ntmps40 (by simp) (by simp) fun Q hr hn => ?_
  repeat' first | (refine hK _ ?_; clear hK) | (refine hK _ _ ?_; clear hK) | (clear hK; refine hK _ ?_; clear hK) | (clear hK; clear hK; refine hK _ ?_; clear hK) | (clear hK; clear hK; clear hK; refine hK _ ?_; clear hK) | (clear hK; clear hK; clear hK; clear hK; refine hK _ ?_; clear hK) | (refine wSeq fun K hK => ?_) | ((first | refine wReg ?_ | refine wDrwQ rfl (by kernel_rfl) ?_ | refine wDrwI ?_ | refine wDrw (by kernel_rfl) ?_); simp only [List.map_cons, List.map_nil, strip]) | ((first | refine wIs fun K hK => ?_ | refine wOs fun K hK => ?_ | refine wQs fun K hK => ?_ | refine CallK_plain ?_ | refine CallQ_plain ?_ | refine CallR_plain ?_ | refine wCond ?_); simp) | (refine wIn ?_; refine And.intro (by kernel_rfl) ?_; try simp only [thenA_n]) | (first | refine wBlock ?_ | refine wScope ?_) | ((first | refine wRet ?_ | refine wExit ?_ | refine wSkip ?_); try simp) | ((first | refine wLabel ?_ | refine wOn ?_ | refine wQn ?_); try simp only [thenA_n])
  all_goals apply hr
  all_goals simp [Try.f40, zns, Zn.c]
/-- Whether a node may be so, by itself. -/
def rgz (z : Zn) : Bool := decide (chk z.p = 0 ∧ (z.d.length : Int) ≤ 128 ∧ 0 ≤ z.v ∧ z.v ≤ 1099511627776 ∧ 0 ≤ z.k ∧ z.k ≤ 1099511627776 ∧ 0 ≤ z.o)
/-- Whether the parent of z is there, and nobody's. -/
def hld (l : List Zn) (z : Zn) : Bool := (par z.p).2 && ((fnd l (par z.p).1).2 && decide ((fnd l (par z.p).1).1.o = 0))
/- Nodes of the tree: what is a tree. -/
def okA (l : List Zn) (i : Nat) : Bool := match l[i]? with
  | some z => rgz z && (match i with
    | 0 => true
    | j + 1 => match l[j]? with
      | some y => lss y.p z.p && hld (l.take (j + 1)) z
      | none => false)
  | none => false
def okR (l : List Zn) (i : Nat) : Bool := match l[i]? with
  | some z => rgz z && (match i with
    | 0 => true
    | j + 1 => match l[j]? with
      | some y => lss y.p z.p && ((fnd l (par z.p).1).2 && decide ((fnd l (par z.p).1).1.o = 0))
      | none => false)
  | none => false
/- Layer 3: what lies below a path: path.below, path.Below. -/
/- Layer 3: joined paths: path.Join. -/
/- Layer 3: a path is its parent with its name; the law PathBack. -/
/- Layer 3: what is below what; the law PathBelow. -/
end Go.Proofs.Yteicecbjahhjmaa
/- Nodes of the tree: both ways to say what is a tree are one; order of paths. -/
namespace Go.Proofs.Yteicecbjahhjmaa
set_option linter.unusedSimpArgs false
set_option linter.unusedVariables false
open Go Go.Av
end Go.Proofs.Yteicecbjahhjmaa
/- Nodes of the tree: Same, far, what comes in; the laws ZnodePuts, ZnodeAsks. -/
namespace Go.Proofs.Yteicecbjahhjmaa
set_option linter.unusedSimpArgs false
set_option linter.unusedVariables false
open Go Go.Av
attribute [local simp] Try.T1 Try.T2 Try.T3 Try.T4 Try.T5 Try.T9 Try.T12 Try.T15 Try.T16 Try.T17 Try.T21 Try.T22 Try.T23 Try.T25 Try.T26 Try.T28 Try.T30 Try.T31 Try.T33 Try.T35 Try.T36 Try.T37 Try.T38 Try.T39 Try.T41 Try.T42 Try.T44 Try.T45 Try.T47 Try.T48 Try.T50 Try.T51 Try.T52 Try.T54 Try.T55 Try.T56 Try.T58 Try.T59 Try.T61 Try.T63 Try.T65 Try.T67 Try.T68 Try.T69 Try.T70 Try.T72 Try.T73 Try.T74 Try.T75 Try.T76 Try.T77 Try.T78 Try.T79 Try.T80 Try.T81 Try.T83 Try.T84 Try.T85 Try.T87 Try.T88 Try.T89 Try.T90 Try.T91 Try.T92 Try.T93 Try.T94 Try.T95 Try.T96 Try.T97 Try.T98 Try.T99 Try.T101 Try.T103 Try.T104 Try.T105 Try.T106 Try.T107 Try.T108 Try.T109 Try.T110 Try.T111 Try.T113 Try.T114 Try.T115 Try.T116 Try.T117 Try.T118 Try.T119 Try.T120 Try.T121 Try.T122 Try.T123 Try.T124 Try.T125 Try.T126 Try.T127 Try.T128 Try.T129 Try.T130 Try.T131 Try.T132 Try.T133 Try.T134 Try.T135 Try.T137 Try.T138 Try.T139 Try.T140 Try.T141 Try.T142 Try.T143 Try.T144 Try.T145 Try.T146 Try.T147 Try.T148 Try.T149 Try.T150 Try.T153 Try.T156 Try.T157 Try.T160 Try.T161 Try.T167
attribute [local irreducible] Go.Av.CallK Go.Av.CallE Go.Av.CallQ Go.Av.CallF Go.Av.CallR Go.Av.CallH Go.Av.Con
/-! ### What comes in -/
theorem Zn.ofL {ps : List PV} (h : ShL [.str, .str, .int .i64, .int .i64, .int .i64] ps) : ∃ a : {z : Zn // long z}, ps = a.1.c := by
  obtain ⟨_, _, rfl, h0, h⟩ := h.cons
  obtain ⟨_, _, rfl, h1, h⟩ := h.cons
  obtain ⟨_, _, rfl, h2, h⟩ := h.cons
  obtain ⟨_, _, rfl, h3, h⟩ := h.cons
  obtain ⟨_, _, rfl, h4, h⟩ := h.cons
  obtain rfl := h.nil
  obtain ⟨s, rfl, hs⟩ := h0.strI
  obtain ⟨d, rfl, hd⟩ := h1.strI
  obtain ⟨v, rfl, -⟩ := h2.intI
  obtain ⟨k, rfl, -⟩ := h3.intI
  obtain ⟨o, rfl, -⟩ := h4.intI
  have hl : ∀ s : ByteArray, s.size ≤ maxLen → s.data.toList.length ≤ 9223372036854775807 := fun s hs => by
    have h1 : s.data.toList.length = s.size := Array.length_toList
    have h2 : maxLen = 9223372036854775807 := rfl
    omega
  refine ⟨⟨⟨s.data.toList, d.data.toList, v, k, o⟩, hl s hs, hl d hd⟩, ?_⟩
  obtain ⟨a, ha⟩ := bs_all s
  obtain ⟨b, hb⟩ := bs_all d
  subst ha; subst hb
  simp [Zn.c]
theorem Zn.open {p : PV} (hp : ShT Try.T 101 p) : ∃ z : Zn, long z ∧ p = .agg z.c := by
  obtain ⟨ps, rfl, h⟩ := hp.agg (E := [.str, .str, .int .i64, .int .i64, .int .i64]) rfl rfl rfl
  obtain ⟨⟨z, hz⟩, rfl⟩ := Zn.ofL h
  exact ⟨z, hz, rfl⟩
/-! ### The laws -/
/- Small functions of the library; the closed calls of layers 5 and 17. -/
abbrev RCon (g : FuncId) (args : List V) (e c : Nat) (l : List (List PV)) : Prop := Con Try.prog g args [] (.ret (.row 2048) [.row e c l] [])
/- Layer 5's leaves: what is in a list, members, and what may be. -/
def ints (l : List Int) : List (List PV) := l.map fun n => [I n]
@[simp] theorem ints_len (l : List Int) : (ints l).length = l.length := by simp [ints]
@[simp] theorem ints_getElem (l : List Int) (k : Nat) (h : k < (ints l).length) : (ints l)[k] = [I (l[k]'(by simpa using h))] := by simp [ints]
theorem ints_get {l : List Int} {k : Nat} (h : k < l.length) : (ints l)[k]? = some [I l[k]] := by simp [ints, h]
/-! ### Members -/
structure Mb where
  (i r w g : Int)
  deriving DecidableEq
def Mb.cells (m : Mb) : List PV := [I m.i, I m.r, I m.w, I m.g]
def mbs (l : List Mb) : List (List PV) := l.map Mb.cells
@[simp] theorem mbs_len (l : List Mb) : (mbs l).length = l.length := by simp [mbs]
@[simp] theorem mbs_getElem (l : List Mb) (k : Nat) (h : k < (mbs l).length) : (mbs l)[k] = [I (l[k]'(by simpa using h)).i, I (l[k]'(by simpa using h)).r, I (l[k]'(by simpa using h)).w, I (l[k]'(by simpa using h)).g] := by simp [mbs, Mb.cells]
theorem mbs_get {l : List Mb} {k : Nat} (h : k < l.length) : (mbs l)[k]? = some [I l[k].i, I l[k].r, I l[k].w, I l[k].g] := by simp [mbs, h, Mb.cells]
structure Cf where
  (ep n kind : Int)
  ms : List Mb
def Cf.cells (c : Cf) : List PV := [I c.ep, I c.n, I c.kind, .sl 4 (mbs c.ms)]
def okM (m : Mb) : Prop := (0 ≤ m.i ∧ m.i ≤ 15) ∧ (m.r = 1 ∨ m.r = 2) ∧ (0 ≤ m.w ∧ m.w ≤ 100) ∧ (0 ≤ m.g ∧ m.g ≤ 7)
instance (m : Mb) : Decidable (okM m) := by unfold okM; infer_instance
/- States: when configs, lists of numbers, parts are the same. -/
theorem Mb.ext4 {x y : Mb} : x = y ↔ x.i = y.i ∧ x.r = y.r ∧ x.w = y.w ∧ x.g = y.g := by cases x; cases y; simp
theorem Cf.ext4 {x y : Cf} : x = y ↔ x.ep = y.ep ∧ x.n = y.n ∧ x.kind = y.kind ∧ x.ms = y.ms := by cases x; cases y; simp
instance : DecidableEq Cf := fun x y => decidable_of_iff _ Cf.ext4.symm
theorem cfSame04_con (a b : Cf) : ACon Try.prog 46 [.p (.agg a.cells), .p (.agg b.cells)] (.p (B (decide (a = b)))) := by
  unfold Cf.cells
  refine ACon.lenA ⟨Try.f46, Try.func46, rfl, rfl⟩ 0 3 4 (mbs a.ms) _ rfl rfl fun hlen => ?_
  simp only [mbs_len] at hlen
  by_cases o1 : a.ep = b.ep
  rotate_left
  · rw [decide_eq_false fun h => o1 (by rw [h])]
    refine wBody Try.tab Try.mixed Try.func46 rfl rfl Try.ntmps46 (by simp) (by simp) fun Q hr hn => ?_
    repeat' first | (refine hK _ ?_; clear hK) | (refine hK _ _ ?_; clear hK) | (clear hK; refine hK _ ?_; clear hK) | (clear hK; clear hK; refine hK _ ?_; clear hK) | (clear hK; clear hK; clear hK; refine hK _ ?_; clear hK) | (clear hK; clear hK; clear hK; clear hK; refine hK _ ?_; clear hK) | (refine wSeq fun K hK => ?_) | ((first | refine wReg ?_ | refine wDrwQ rfl (by kernel_rfl) ?_ | refine wDrwI ?_ | refine wDrw (by kernel_rfl) ?_); simp only [List.map_cons, List.map_nil, strip]) | ((first | refine wIs fun K hK => ?_ | refine wOs fun K hK => ?_ | refine wQs fun K hK => ?_ | refine CallK_plain ?_ | refine CallQ_plain ?_ | refine CallR_plain ?_ | refine wCond ?_); simp [o1]) | (refine wIn ?_; refine And.intro (by kernel_rfl) ?_; try simp only [thenA_n]) | (first | refine wBlock ?_ | refine wScope ?_) | ((first | refine wRet ?_ | refine wExit ?_ | refine wSkip ?_); try simp) | ((first | refine wLabel ?_ | refine wOn ?_ | refine wQn ?_); try simp only [thenA_n])
    all_goals apply hr
    all_goals simp [Try.f46]
  by_cases o2 : a.n = b.n
  rotate_left
  · rw [decide_eq_false fun h => o2 (by rw [h])]
    refine wBody Try.tab Try.mixed Try.func46 rfl rfl Try.ntmps46 (by simp) (by simp) fun Q hr hn => ?_
    repeat' first | (refine hK _ ?_; clear hK) | (refine hK _ _ ?_; clear hK) | (clear hK; refine hK _ ?_; clear hK) | (clear hK; clear hK; refine hK _ ?_; clear hK) | (clear hK; clear hK; clear hK; refine hK _ ?_; clear hK) | (clear hK; clear hK; clear hK; clear hK; refine hK _ ?_; clear hK) | (refine wSeq fun K hK => ?_) | ((first | refine wReg ?_ | refine wDrwQ rfl (by kernel_rfl) ?_ | refine wDrwI ?_ | refine wDrw (by kernel_rfl) ?_); simp only [List.map_cons, List.map_nil, strip]) | ((first | refine wIs fun K hK => ?_ | refine wOs fun K hK => ?_ | refine wQs fun K hK => ?_ | refine CallK_plain ?_ | refine CallQ_plain ?_ | refine CallR_plain ?_ | refine wCond ?_); simp [o1, o2]) | (refine wIn ?_; refine And.intro (by kernel_rfl) ?_; try simp only [thenA_n]) | (first | refine wBlock ?_ | refine wScope ?_) | ((first | refine wRet ?_ | refine wExit ?_ | refine wSkip ?_); try simp) | ((first | refine wLabel ?_ | refine wOn ?_ | refine wQn ?_); try simp only [thenA_n])
    all_goals apply hr
    all_goals simp [Try.f46]
  by_cases o3 : a.kind = b.kind
  rotate_left
  · rw [decide_eq_false fun h => o3 (by rw [h])]
    refine wBody Try.tab Try.mixed Try.func46 rfl rfl Try.ntmps46 (by simp) (by simp) fun Q hr hn => ?_
    repeat' first | (refine hK _ ?_; clear hK) | (refine hK _ _ ?_; clear hK) | (clear hK; refine hK _ ?_; clear hK) | (clear hK; clear hK; refine hK _ ?_; clear hK) | (clear hK; clear hK; clear hK; refine hK _ ?_; clear hK) | (clear hK; clear hK; clear hK; clear hK; refine hK _ ?_; clear hK) | (refine wSeq fun K hK => ?_) | ((first | refine wReg ?_ | refine wDrwQ rfl (by kernel_rfl) ?_ | refine wDrwI ?_ | refine wDrw (by kernel_rfl) ?_); simp only [List.map_cons, List.map_nil, strip]) | ((first | refine wIs fun K hK => ?_ | refine wOs fun K hK => ?_ | refine wQs fun K hK => ?_ | refine CallK_plain ?_ | refine CallQ_plain ?_ | refine CallR_plain ?_ | refine wCond ?_); simp [o1, o2, o3]) | (refine wIn ?_; refine And.intro (by kernel_rfl) ?_; try simp only [thenA_n]) | (first | refine wBlock ?_ | refine wScope ?_) | ((first | refine wRet ?_ | refine wExit ?_ | refine wSkip ?_); try simp) | ((first | refine wLabel ?_ | refine wOn ?_ | refine wQn ?_); try simp only [thenA_n])
    all_goals apply hr
    all_goals simp [Try.f46]
  by_cases o4 : a.ms.length = b.ms.length
  rotate_left
  · rw [decide_eq_false fun h => o4 (by rw [h])]
    have o4' : ¬ (a.ms.length : Int) = b.ms.length := by omega
    refine wBody Try.tab Try.mixed Try.func46 rfl rfl Try.ntmps46 (by simp) (by simp) fun Q hr hn => ?_
    repeat' first | (refine hK _ ?_; clear hK) | (refine hK _ _ ?_; clear hK) | (clear hK; refine hK _ ?_; clear hK) | (clear hK; clear hK; refine hK _ ?_; clear hK) | (clear hK; clear hK; clear hK; refine hK _ ?_; clear hK) | (clear hK; clear hK; clear hK; clear hK; refine hK _ ?_; clear hK) | (refine wSeq fun K hK => ?_) | ((first | refine wReg ?_ | refine wDrwQ rfl (by kernel_rfl) ?_ | refine wDrwI ?_ | refine wDrw (by kernel_rfl) ?_); simp only [List.map_cons, List.map_nil, strip]) | ((first | refine wIs fun K hK => ?_ | refine wOs fun K hK => ?_ | refine wQs fun K hK => ?_ | refine CallK_plain ?_ | refine CallQ_plain ?_ | refine CallR_plain ?_ | refine wCond ?_); simp [o1, o2, o3, o4, o4']) | (refine wIn ?_; refine And.intro (by kernel_rfl) ?_; try simp only [thenA_n]) | (first | refine wBlock ?_ | refine wScope ?_) | ((first | refine wRet ?_ | refine wExit ?_ | refine wSkip ?_); try simp) | ((first | refine wLabel ?_ | refine wOn ?_ | refine wQn ?_); try simp only [thenA_n])
    all_goals apply hr
    all_goals simp [Try.f46]
  have hd : (a = b) ↔ a.ms = b.ms := by rw [Cf.ext4]; simp [o1, o2, o3]
  refine wBody Try.tab Try.mixed Try.func46 rfl rfl Try.ntmps46 (by simp) (by simp) fun Q hr hn => ?_
  repeat' first | (refine hK _ ?_; clear hK) | (refine hK _ _ ?_; clear hK) | (clear hK; refine hK _ ?_; clear hK) | (clear hK; clear hK; refine hK _ ?_; clear hK) | (clear hK; clear hK; clear hK; refine hK _ ?_; clear hK) | (clear hK; clear hK; clear hK; clear hK; refine hK _ ?_; clear hK) | (refine wSeq fun K hK => ?_) | ((first | refine wReg ?_ | refine wDrwQ rfl (by kernel_rfl) ?_ | refine wDrwI ?_ | refine wDrw (by kernel_rfl) ?_); simp only [List.map_cons, List.map_nil, strip]) | ((first | refine wIs fun K hK => ?_ | refine wOs fun K hK => ?_ | refine wQs fun K hK => ?_ | refine CallK_plain ?_ | refine CallQ_plain ?_ | refine CallR_plain ?_ | refine wCond ?_); simp [o1, o2, o3, o4]) | (refine wIn ?_; refine And.intro (by kernel_rfl) ?_; try simp only [thenA_n]) | (first | refine wBlock ?_ | refine wScope ?_) | ((first | refine wRet ?_ | refine wExit ?_ | refine wSkip ?_); try simp) | ((first | refine wLabel ?_ | refine wOn ?_ | refine wQn ?_); try simp only [thenA_n])
  refine wLoop (fun N st => ∃ k, k + N = a.ms.length ∧ st.s 2 = .ptr 2 0 ∧ st.s 3 = .ptr 3 0 ∧ st.s 29 = .p (I a.ms.length) ∧ st.s 30 = .p (I k) ∧ st.b 2 = some (.box 28 [.p (I a.ep), .p (I a.n), .p (I a.kind), .p (.sl 4 (mbs a.ms))]) ∧ st.b 3 = some (.box 28 [.p (I b.ep), .p (I b.n), .p (I b.kind), .p (.sl 4 (mbs b.ms))]) ∧ (a.ms = b.ms ↔ a.ms.drop k = b.ms.drop k)) a.ms.length ⟨0, by simp [o1, o2, o3, o4]⟩ fun K N st hL ⟨k, hk, g2, g3, g29, g30, b2, b3, hi⟩ => ?_
  by_cases hlt : k < a.ms.length
  · have hlt' : k < b.ms.length := by omega
    have hw := wrapS k _ hlt hlen
    have h1 := mbs_get hlt
    have h2 := mbs_get hlt'
    rw [List.drop_eq_getElem_cons hlt, List.drop_eq_getElem_cons hlt', List.cons.injEq, Mb.ext4] at hi
    by_cases o : a.ms[k].i = b.ms[k].i ∧ a.ms[k].r = b.ms[k].r ∧ a.ms[k].w = b.ms[k].w ∧ a.ms[k].g = b.ms[k].g
    · rw [and_iff_right o] at hi
      obtain ⟨q1, q2, q3, q4⟩ := o
      repeat' first | (refine hK _ ?_; clear hK) | (refine hK _ _ ?_; clear hK) | (clear hK; refine hK _ ?_; clear hK) | (clear hK; clear hK; refine hK _ ?_; clear hK) | (clear hK; clear hK; clear hK; refine hK _ ?_; clear hK) | (clear hK; clear hK; clear hK; clear hK; refine hK _ ?_; clear hK) | (refine wSeq fun K hK => ?_) | ((first | refine wReg ?_ | refine wDrwQ rfl (by kernel_rfl) ?_ | refine wDrwI ?_ | refine wDrw (by kernel_rfl) ?_); simp only [List.map_cons, List.map_nil, strip]) | ((first | refine wIs fun K hK => ?_ | refine wOs fun K hK => ?_ | refine wQs fun K hK => ?_ | refine CallK_plain ?_ | refine CallQ_plain ?_ | refine CallR_plain ?_ | refine wCond ?_); simp [g2, g3, g29, g30, b2, b3, hlt, hlt', hw, h1, h2, q1, q2, q3, q4]) | (refine wIn ?_; refine And.intro (by kernel_rfl) ?_; try simp only [thenA_n]) | (first | refine wBlock ?_ | refine wScope ?_) | ((first | refine wRet ?_ | refine wExit ?_ | refine wSkip ?_); try simp) | ((first | refine wLabel ?_ | refine wOn ?_ | refine wQn ?_); try simp only [thenA_n])
      refine hL _ (N - 1) (by omega) ⟨k + 1, by omega, ?_⟩
      simp [g2, g3, g29, g30, b2, b3, hw, o1, o2, o3, o4]
      exact hi
    · rw [show decide (a = b) = false from decide_eq_false fun h => o (hi.1 (hd.1 h)).1] at hr
      repeat' first | (refine hK _ ?_; clear hK) | (refine hK _ _ ?_; clear hK) | (clear hK; refine hK _ ?_; clear hK) | (clear hK; clear hK; refine hK _ ?_; clear hK) | (clear hK; clear hK; clear hK; refine hK _ ?_; clear hK) | (clear hK; clear hK; clear hK; clear hK; refine hK _ ?_; clear hK) | (refine wSeq fun K hK => ?_) | ((first | refine wReg ?_ | refine wDrwQ rfl (by kernel_rfl) ?_ | refine wDrwI ?_ | refine wDrw (by kernel_rfl) ?_); simp only [List.map_cons, List.map_nil, strip]) | ((first | refine wIs fun K hK => ?_ | refine wOs fun K hK => ?_ | refine wQs fun K hK => ?_ | refine CallK_plain ?_ | refine CallQ_plain ?_ | refine CallR_plain ?_ | refine wCond ?_); simp [g2, g3, g29, g30, b2, b3, hlt, hlt', hw, h1, h2, o]) | (refine wIn ?_; refine And.intro (by kernel_rfl) ?_; try simp only [thenA_n]) | (first | refine wBlock ?_ | refine wScope ?_) | ((first | refine wRet ?_ | refine wExit ?_ | refine wSkip ?_); try simp) | ((first | refine wLabel ?_ | refine wOn ?_ | refine wQn ?_); try simp only [thenA_n]) | (intro _)
      all_goals first | exact o | skip
      all_goals apply hr
      all_goals simp [Try.f46]
  · rw [List.drop_of_length_le (by omega), List.drop_of_length_le (by omega)] at hi
    rw [show decide (a = b) = true from decide_eq_true (hd.2 (hi.2 rfl))] at hr
    repeat' first | (refine hK _ ?_; clear hK) | (refine hK _ _ ?_; clear hK) | (clear hK; refine hK _ ?_; clear hK) | (clear hK; clear hK; refine hK _ ?_; clear hK) | (clear hK; clear hK; clear hK; refine hK _ ?_; clear hK) | (clear hK; clear hK; clear hK; clear hK; refine hK _ ?_; clear hK) | (refine wSeq fun K hK => ?_) | ((first | refine wReg ?_ | refine wDrwQ rfl (by kernel_rfl) ?_ | refine wDrwI ?_ | refine wDrw (by kernel_rfl) ?_); simp only [List.map_cons, List.map_nil, strip]) | ((first | refine wIs fun K hK => ?_ | refine wOs fun K hK => ?_ | refine wQs fun K hK => ?_ | refine CallK_plain ?_ | refine CallQ_plain ?_ | refine CallR_plain ?_ | refine wCond ?_); simp [g2, g3, g29, g30, b2, b3, hlt]) | (refine wIn ?_; refine And.intro (by kernel_rfl) ?_; try simp only [thenA_n]) | (first | refine wBlock ?_ | refine wScope ?_) | ((first | refine wRet ?_ | refine wExit ?_ | refine wSkip ?_); try simp) | ((first | refine wLabel ?_ | refine wOn ?_ | refine wQn ?_); try simp only [thenA_n])
    all_goals apply hr
    all_goals simp [Try.f46]
/- States: when lists of numbers, parts, transactions, states are the same. -/
theorem ints08_con (a b : List Int) : ACon Try.prog 48 [.p (.sl 1 (ints a)), .p (.sl 1 (ints b))] (.p (B (decide (a = b)))) := by
  refine ACon.len ⟨Try.f48, Try.func48, rfl, rfl⟩ 0 _ _ rfl fun hlen => ?_
  simp only [ints_len] at hlen
  by_cases hl : a.length = b.length
  · refine wBody Try.tab Try.mixed Try.func48 rfl rfl Try.ntmps48 (by simp) (by simp) fun Q hr hn => ?_
    repeat' first | (refine hK _ ?_; clear hK) | (refine hK _ _ ?_; clear hK) | (clear hK; refine hK _ ?_; clear hK) | (clear hK; clear hK; refine hK _ ?_; clear hK) | (clear hK; clear hK; clear hK; refine hK _ ?_; clear hK) | (clear hK; clear hK; clear hK; clear hK; refine hK _ ?_; clear hK) | (refine wSeq fun K hK => ?_) | ((first | refine wReg ?_ | refine wDrwQ rfl (by kernel_rfl) ?_ | refine wDrwI ?_ | refine wDrw (by kernel_rfl) ?_); simp only [List.map_cons, List.map_nil, strip]) | ((first | refine wIs fun K hK => ?_ | refine wOs fun K hK => ?_ | refine wQs fun K hK => ?_ | refine CallK_plain ?_ | refine CallQ_plain ?_ | refine CallR_plain ?_ | refine wCond ?_); simp [hl]) | (refine wIn ?_; refine And.intro (by kernel_rfl) ?_; try simp only [thenA_n]) | (first | refine wBlock ?_ | refine wScope ?_) | ((first | refine wRet ?_ | refine wExit ?_ | refine wSkip ?_); try simp) | ((first | refine wLabel ?_ | refine wOn ?_ | refine wQn ?_); try simp only [thenA_n])
    refine wLoop (fun N st => ∃ k, k + N = a.length ∧ st.s 0 = .p (.sl 1 (ints a)) ∧ st.s 1 = .p (.sl 1 (ints b)) ∧ st.s 12 = .p (I a.length) ∧ st.s 13 = .p (I k) ∧ (a = b ↔ a.drop k = b.drop k)) a.length ⟨0, by simp [hl]⟩ fun K N st hL ⟨k, hk, h0, h1, h12, h13, hi⟩ => ?_
    by_cases hlt : k < a.length
    · have hw := wrapS k _ hlt hlen
      have he := ints_get hlt
      have he' := ints_get (l := b) (k := k) (by omega)
      rw [List.drop_eq_getElem_cons hlt, List.drop_eq_getElem_cons (l := b) (by omega), List.cons.injEq] at hi
      repeat' first | (refine hK _ ?_; clear hK) | (refine hK _ _ ?_; clear hK) | (clear hK; refine hK _ ?_; clear hK) | (clear hK; clear hK; refine hK _ ?_; clear hK) | (clear hK; clear hK; clear hK; refine hK _ ?_; clear hK) | (clear hK; clear hK; clear hK; clear hK; refine hK _ ?_; clear hK) | (refine wSeq fun K hK => ?_) | ((first | refine wReg ?_ | refine wDrwQ rfl (by kernel_rfl) ?_ | refine wDrwI ?_ | refine wDrw (by kernel_rfl) ?_); simp only [List.map_cons, List.map_nil, strip]) | ((first | refine wIs fun K hK => ?_ | refine wOs fun K hK => ?_ | refine wQs fun K hK => ?_ | refine CallK_plain ?_ | refine CallQ_plain ?_ | refine CallR_plain ?_ | refine wCond ?_); simp [h0, h1, h12, h13, hlt, hw, he, he']) | (refine wIn ?_; refine And.intro (by kernel_rfl) ?_; try simp only [thenA_n]) | (first | refine wBlock ?_ | refine wScope ?_) | ((first | refine wRet ?_ | refine wExit ?_ | refine wSkip ?_); try simp) | ((first | refine wLabel ?_ | refine wOn ?_ | refine wQn ?_); try simp only [thenA_n]) | (refine And.intro (fun hc => ?_) (fun hc => ?_))
      · apply hr
        simp [Try.f48]
        intro h
        exact hc (hi.1 h).1
      · refine hL _ (N - 1) (by omega) ⟨k + 1, by omega, ?_⟩
        simp [h0, h1, h12, hw]
        rw [hi]; simp [hc]
    · have hd : a.drop k = [] := List.drop_of_length_le (by omega)
      have hd' : b.drop k = [] := List.drop_of_length_le (by omega)
      rw [hd, hd'] at hi
      repeat' first | (refine hK _ ?_; clear hK) | (refine hK _ _ ?_; clear hK) | (clear hK; refine hK _ ?_; clear hK) | (clear hK; clear hK; refine hK _ ?_; clear hK) | (clear hK; clear hK; clear hK; refine hK _ ?_; clear hK) | (clear hK; clear hK; clear hK; clear hK; refine hK _ ?_; clear hK) | (refine wSeq fun K hK => ?_) | ((first | refine wReg ?_ | refine wDrwQ rfl (by kernel_rfl) ?_ | refine wDrwI ?_ | refine wDrw (by kernel_rfl) ?_); simp only [List.map_cons, List.map_nil, strip]) | ((first | refine wIs fun K hK => ?_ | refine wOs fun K hK => ?_ | refine wQs fun K hK => ?_ | refine CallK_plain ?_ | refine CallQ_plain ?_ | refine CallR_plain ?_ | refine wCond ?_); simp [h0, h1, h12, h13, hlt]) | (refine wIn ?_; refine And.intro (by kernel_rfl) ?_; try simp only [thenA_n]) | (first | refine wBlock ?_ | refine wScope ?_) | ((first | refine wRet ?_ | refine wExit ?_ | refine wSkip ?_); try simp) | ((first | refine wLabel ?_ | refine wOn ?_ | refine wQn ?_); try simp only [thenA_n])
      apply hr
      simp [Try.f48]
      simpa using hi
  · have hne : ¬ a = b := fun h => hl (by rw [h])
    have hl' : ¬ ((a.length : Int) = b.length) := by omega
    refine wBody Try.tab Try.mixed Try.func48 rfl rfl Try.ntmps48 (by simp) (by simp) fun Q hr hn => ?_
    repeat' first | (refine hK _ ?_; clear hK) | (refine hK _ _ ?_; clear hK) | (clear hK; refine hK _ ?_; clear hK) | (clear hK; clear hK; refine hK _ ?_; clear hK) | (clear hK; clear hK; clear hK; refine hK _ ?_; clear hK) | (clear hK; clear hK; clear hK; clear hK; refine hK _ ?_; clear hK) | (refine wSeq fun K hK => ?_) | ((first | refine wReg ?_ | refine wDrwQ rfl (by kernel_rfl) ?_ | refine wDrwI ?_ | refine wDrw (by kernel_rfl) ?_); simp only [List.map_cons, List.map_nil, strip]) | ((first | refine wIs fun K hK => ?_ | refine wOs fun K hK => ?_ | refine wQs fun K hK => ?_ | refine CallK_plain ?_ | refine CallQ_plain ?_ | refine CallR_plain ?_ | refine wCond ?_); simp [hl, hl']) | (refine wIn ?_; refine And.intro (by kernel_rfl) ?_; try simp only [thenA_n]) | (first | refine wBlock ?_ | refine wScope ?_) | ((first | refine wRet ?_ | refine wExit ?_ | refine wSkip ?_); try simp) | ((first | refine wLabel ?_ | refine wOn ?_ | refine wQn ?_); try simp only [thenA_n])
    all_goals apply hr
    all_goals simp [Try.f48, hne]
structure Pt where
  (k : Int)
  (z : Zn)
  (s : Int)
  (c : Cf)
  deriving DecidableEq
def Pt.cells (x : Pt) : List PV := [I x.k, SB x.z.p, SB x.z.d, I x.z.v, I x.z.k, I x.z.o, I x.s, I x.c.ep, I x.c.n, I x.c.kind, .sl 4 (mbs x.c.ms)]
theorem Pt.ext8 {x y : Pt} : x = y ↔ x.k = y.k ∧ x.z.p = y.z.p ∧ x.z.d = y.z.d ∧ x.z.v = y.z.v ∧ x.z.k = y.z.k ∧ x.z.o = y.z.o ∧ x.s = y.s ∧ x.c = y.c := by
  cases x; cases y; simp only [Pt.mk.injEq, Zn.ext5]; simp only [and_assoc]
def pts (l : List Pt) : List (List PV) := l.map Pt.cells
@[simp] theorem pts_len (l : List Pt) : (pts l).length = l.length := by simp [pts]
@[simp] theorem pts_getElem (l : List Pt) (k : Nat) (h : k < (pts l).length) : (pts l)[k] = (l[k]'(by simpa using h)).cells := by simp [pts]
/- States: when transactions, states are the same. -/
theorem pts_get {l : List Pt} {k : Nat} (h : k < l.length) : (pts l)[k]? = some [I l[k].k, SB l[k].z.p, SB l[k].z.d, I l[k].z.v, I l[k].z.k, I l[k].z.o, I l[k].s, I l[k].c.ep, I l[k].c.n, I l[k].c.kind, .sl 4 (mbs l[k].c.ms)] := by simp [pts, h, Pt.cells]
structure Sv where
  (ns : List Zn)
  (ss : List Int)
  (nx : Int)
  (c : Cf)
  (ae an : Int)
  deriving DecidableEq
def Sv.cells (s : Sv) : List PV := [.sl 5 (zns s.ns), .sl 1 (ints s.ss), I s.nx, I s.c.ep, I s.c.n, I s.c.kind, .sl 4 (mbs s.c.ms), I s.ae, I s.an]
theorem Sv.ext6 {x y : Sv} : x = y ↔ x.ae = y.ae ∧ x.an = y.an ∧ x.nx = y.nx ∧ x.ns = y.ns ∧ x.ss = y.ss ∧ x.c = y.c := by
  cases x; cases y; simp only [Sv.mk.injEq]
  constructor
  · rintro ⟨a, b, c, d, e, f⟩; exact ⟨e, f, c, a, b, d⟩
  · rintro ⟨e, f, c, a, b, d⟩; exact ⟨a, b, c, d, e, f⟩
theorem sameS08_con (x y : Sv) : ACon Try.prog 35 [.p (.agg x.cells), .p (.agg y.cells)] (.p (B (decide (x = y)))) := by
  have c1 := same07_con x.ns y.ns
  have c2 := ints08_con x.ss y.ss
  have c3 := cfSame04_con x.c y.c
  have he : decide (x = y) = decide (decide (x.ns = y.ns) = true ∧ decide (x.ss = y.ss) = true ∧ x.nx = y.nx ∧ decide (x.c = y.c) = true ∧ x.ae = y.ae ∧ x.an = y.an) := by
    rw [decide_eq_decide, Sv.ext6]
    simp only [decide_eq_true_eq]
    constructor
    · rintro ⟨a, b, c, d, e, f⟩; exact ⟨d, e, c, f, a, b⟩
    · rintro ⟨d, e, c, f, a, b⟩; exact ⟨a, b, c, d, e, f⟩
  rw [he]
  generalize decide (x.ns = y.ns) = b1 at c1 ⊢
  generalize decide (x.ss = y.ss) = b2 at c2 ⊢
  generalize decide (x.c = y.c) = b3 at c3 ⊢
  clear he
  unfold Sv.cells
  unfold Cf.cells at c3
  generalize zns x.ns = n1 at c1 ⊢
  generalize zns y.ns = n2 at c1 ⊢
  generalize ints x.ss = i1 at c2 ⊢
  generalize ints y.ss = i2 at c2 ⊢
  by_cases q0 : b1 = true
  rotate_left
  · rw [show decide (b1 = true ∧ b2 = true ∧ x.nx = y.nx ∧ b3 = true ∧ x.ae = y.ae ∧ x.an = y.an) = false from decide_eq_false fun h => q0 h.1]
    refine wBody Try.tab Try.mixed Try.func35 rfl rfl Try.ntmps35 (by simp) (by simp) fun Q hr hn => ?_
    repeat' first | (refine hK _ ?_; clear hK) | (refine hK _ _ ?_; clear hK) | (clear hK; refine hK _ ?_; clear hK) | (clear hK; clear hK; refine hK _ ?_; clear hK) | (clear hK; clear hK; clear hK; refine hK _ ?_; clear hK) | (clear hK; clear hK; clear hK; clear hK; refine hK _ ?_; clear hK) | (refine wSeq fun K hK => ?_) | ((first | refine wReg ?_ | refine wDrwQ rfl (by kernel_rfl) ?_ | refine wDrwI ?_ | refine wDrw (by kernel_rfl) ?_); simp only [List.map_cons, List.map_nil, strip]) | ((first | refine wIs fun K hK => ?_ | refine wOs fun K hK => ?_ | refine wQs fun K hK => ?_ | refine CallK_plain ?_ | refine CallQ_plain ?_ | refine CallR_plain ?_ | refine wCond ?_); simp [q0]) | (refine wIn ?_; refine And.intro (by kernel_rfl) ?_; try simp only [thenA_n]) | (first | refine wBlock ?_ | refine wScope ?_) | ((first | refine wRet ?_ | refine wExit ?_ | refine wSkip ?_); try simp) | ((first | refine wLabel ?_ | refine wOn ?_ | refine wQn ?_); try simp only [thenA_n]) | (refine CallE.pure (c1) rfl ?_) | (refine CallE.lent (c1) rfl ?_) | (refine CallF.pure (c1) rfl ?_) | (refine CallF.lent (c1) rfl ?_) | (refine CallE.own (c1) ?_) | (refine CallH.pure (c1) rfl ?_) | (refine CallH.lent (c1) rfl ?_) | (refine CallH.own (c1) ?_) | (refine CallE.pure (c2) rfl ?_) | (refine CallE.lent (c2) rfl ?_) | (refine CallF.pure (c2) rfl ?_) | (refine CallF.lent (c2) rfl ?_) | (refine CallE.own (c2) ?_) | (refine CallH.pure (c2) rfl ?_) | (refine CallH.lent (c2) rfl ?_) | (refine CallH.own (c2) ?_) | (refine CallE.pure (c3) rfl ?_) | (refine CallE.lent (c3) rfl ?_) | (refine CallF.pure (c3) rfl ?_) | (refine CallF.lent (c3) rfl ?_) | (refine CallE.own (c3) ?_) | (refine CallH.pure (c3) rfl ?_) | (refine CallH.lent (c3) rfl ?_) | (refine CallH.own (c3) ?_)
    all_goals apply hr
    all_goals simp [Try.f35]
    all_goals (intros; simp_all)
  by_cases q1 : b2 = true
  rotate_left
  · rw [show decide (b1 = true ∧ b2 = true ∧ x.nx = y.nx ∧ b3 = true ∧ x.ae = y.ae ∧ x.an = y.an) = false from decide_eq_false fun h => q1 h.2.1]
    refine wBody Try.tab Try.mixed Try.func35 rfl rfl Try.ntmps35 (by simp) (by simp) fun Q hr hn => ?_
    repeat' first | (refine hK _ ?_; clear hK) | (refine hK _ _ ?_; clear hK) | (clear hK; refine hK _ ?_; clear hK) | (clear hK; clear hK; refine hK _ ?_; clear hK) | (clear hK; clear hK; clear hK; refine hK _ ?_; clear hK) | (clear hK; clear hK; clear hK; clear hK; refine hK _ ?_; clear hK) | (refine wSeq fun K hK => ?_) | ((first | refine wReg ?_ | refine wDrwQ rfl (by kernel_rfl) ?_ | refine wDrwI ?_ | refine wDrw (by kernel_rfl) ?_); simp only [List.map_cons, List.map_nil, strip]) | ((first | refine wIs fun K hK => ?_ | refine wOs fun K hK => ?_ | refine wQs fun K hK => ?_ | refine CallK_plain ?_ | refine CallQ_plain ?_ | refine CallR_plain ?_ | refine wCond ?_); simp [q0, q1]) | (refine wIn ?_; refine And.intro (by kernel_rfl) ?_; try simp only [thenA_n]) | (first | refine wBlock ?_ | refine wScope ?_) | ((first | refine wRet ?_ | refine wExit ?_ | refine wSkip ?_); try simp) | ((first | refine wLabel ?_ | refine wOn ?_ | refine wQn ?_); try simp only [thenA_n]) | (refine CallE.pure (c1) rfl ?_) | (refine CallE.lent (c1) rfl ?_) | (refine CallF.pure (c1) rfl ?_) | (refine CallF.lent (c1) rfl ?_) | (refine CallE.own (c1) ?_) | (refine CallH.pure (c1) rfl ?_) | (refine CallH.lent (c1) rfl ?_) | (refine CallH.own (c1) ?_) | (refine CallE.pure (c2) rfl ?_) | (refine CallE.lent (c2) rfl ?_) | (refine CallF.pure (c2) rfl ?_) | (refine CallF.lent (c2) rfl ?_) | (refine CallE.own (c2) ?_) | (refine CallH.pure (c2) rfl ?_) | (refine CallH.lent (c2) rfl ?_) | (refine CallH.own (c2) ?_) | (refine CallE.pure (c3) rfl ?_) | (refine CallE.lent (c3) rfl ?_) | (refine CallF.pure (c3) rfl ?_) | (refine CallF.lent (c3) rfl ?_) | (refine CallE.own (c3) ?_) | (refine CallH.pure (c3) rfl ?_) | (refine CallH.lent (c3) rfl ?_) | (refine CallH.own (c3) ?_)
    all_goals apply hr
    all_goals simp [Try.f35]
    all_goals (intros; simp_all)
  by_cases q2 : x.nx = y.nx
  rotate_left
  · rw [show decide (b1 = true ∧ b2 = true ∧ x.nx = y.nx ∧ b3 = true ∧ x.ae = y.ae ∧ x.an = y.an) = false from decide_eq_false fun h => q2 h.2.2.1]
    refine wBody Try.tab Try.mixed Try.func35 rfl rfl Try.ntmps35 (by simp) (by simp) fun Q hr hn => ?_
    repeat' first | (refine hK _ ?_; clear hK) | (refine hK _ _ ?_; clear hK) | (clear hK; refine hK _ ?_; clear hK) | (clear hK; clear hK; refine hK _ ?_; clear hK) | (clear hK; clear hK; clear hK; refine hK _ ?_; clear hK) | (clear hK; clear hK; clear hK; clear hK; refine hK _ ?_; clear hK) | (refine wSeq fun K hK => ?_) | ((first | refine wReg ?_ | refine wDrwQ rfl (by kernel_rfl) ?_ | refine wDrwI ?_ | refine wDrw (by kernel_rfl) ?_); simp only [List.map_cons, List.map_nil, strip]) | ((first | refine wIs fun K hK => ?_ | refine wOs fun K hK => ?_ | refine wQs fun K hK => ?_ | refine CallK_plain ?_ | refine CallQ_plain ?_ | refine CallR_plain ?_ | refine wCond ?_); simp [q0, q1, q2]) | (refine wIn ?_; refine And.intro (by kernel_rfl) ?_; try simp only [thenA_n]) | (first | refine wBlock ?_ | refine wScope ?_) | ((first | refine wRet ?_ | refine wExit ?_ | refine wSkip ?_); try simp) | ((first | refine wLabel ?_ | refine wOn ?_ | refine wQn ?_); try simp only [thenA_n]) | (refine CallE.pure (c1) rfl ?_) | (refine CallE.lent (c1) rfl ?_) | (refine CallF.pure (c1) rfl ?_) | (refine CallF.lent (c1) rfl ?_) | (refine CallE.own (c1) ?_) | (refine CallH.pure (c1) rfl ?_) | (refine CallH.lent (c1) rfl ?_) | (refine CallH.own (c1) ?_) | (refine CallE.pure (c2) rfl ?_) | (refine CallE.lent (c2) rfl ?_) | (refine CallF.pure (c2) rfl ?_) | (refine CallF.lent (c2) rfl ?_) | (refine CallE.own (c2) ?_) | (refine CallH.pure (c2) rfl ?_) | (refine CallH.lent (c2) rfl ?_) | (refine CallH.own (c2) ?_) | (refine CallE.pure (c3) rfl ?_) | (refine CallE.lent (c3) rfl ?_) | (refine CallF.pure (c3) rfl ?_) | (refine CallF.lent (c3) rfl ?_) | (refine CallE.own (c3) ?_) | (refine CallH.pure (c3) rfl ?_) | (refine CallH.lent (c3) rfl ?_) | (refine CallH.own (c3) ?_)
    all_goals apply hr
    all_goals simp [Try.f35]
    all_goals (intros; simp_all)
  by_cases q3 : b3 = true
  rotate_left
  · rw [show decide (b1 = true ∧ b2 = true ∧ x.nx = y.nx ∧ b3 = true ∧ x.ae = y.ae ∧ x.an = y.an) = false from decide_eq_false fun h => q3 h.2.2.2.1]
    refine wBody Try.tab Try.mixed Try.func35 rfl rfl Try.ntmps35 (by simp) (by simp) fun Q hr hn => ?_
    repeat' first | (refine hK _ ?_; clear hK) | (refine hK _ _ ?_; clear hK) | (clear hK; refine hK _ ?_; clear hK) | (clear hK; clear hK; refine hK _ ?_; clear hK) | (clear hK; clear hK; clear hK; refine hK _ ?_; clear hK) | (clear hK; clear hK; clear hK; clear hK; refine hK _ ?_; clear hK) | (refine wSeq fun K hK => ?_) | ((first | refine wReg ?_ | refine wDrwQ rfl (by kernel_rfl) ?_ | refine wDrwI ?_ | refine wDrw (by kernel_rfl) ?_); simp only [List.map_cons, List.map_nil, strip]) | ((first | refine wIs fun K hK => ?_ | refine wOs fun K hK => ?_ | refine wQs fun K hK => ?_ | refine CallK_plain ?_ | refine CallQ_plain ?_ | refine CallR_plain ?_ | refine wCond ?_); simp [q0, q1, q2, q3]) | (refine wIn ?_; refine And.intro (by kernel_rfl) ?_; try simp only [thenA_n]) | (first | refine wBlock ?_ | refine wScope ?_) | ((first | refine wRet ?_ | refine wExit ?_ | refine wSkip ?_); try simp) | ((first | refine wLabel ?_ | refine wOn ?_ | refine wQn ?_); try simp only [thenA_n]) | (refine CallE.pure (c1) rfl ?_) | (refine CallE.lent (c1) rfl ?_) | (refine CallF.pure (c1) rfl ?_) | (refine CallF.lent (c1) rfl ?_) | (refine CallE.own (c1) ?_) | (refine CallH.pure (c1) rfl ?_) | (refine CallH.lent (c1) rfl ?_) | (refine CallH.own (c1) ?_) | (refine CallE.pure (c2) rfl ?_) | (refine CallE.lent (c2) rfl ?_) | (refine CallF.pure (c2) rfl ?_) | (refine CallF.lent (c2) rfl ?_) | (refine CallE.own (c2) ?_) | (refine CallH.pure (c2) rfl ?_) | (refine CallH.lent (c2) rfl ?_) | (refine CallH.own (c2) ?_) | (refine CallE.pure (c3) rfl ?_) | (refine CallE.lent (c3) rfl ?_) | (refine CallF.pure (c3) rfl ?_) | (refine CallF.lent (c3) rfl ?_) | (refine CallE.own (c3) ?_) | (refine CallH.pure (c3) rfl ?_) | (refine CallH.lent (c3) rfl ?_) | (refine CallH.own (c3) ?_)
    all_goals apply hr
    all_goals simp [Try.f35]
    all_goals (intros; simp_all)
  by_cases q4 : x.ae = y.ae
  rotate_left
  · rw [show decide (b1 = true ∧ b2 = true ∧ x.nx = y.nx ∧ b3 = true ∧ x.ae = y.ae ∧ x.an = y.an) = false from decide_eq_false fun h => q4 h.2.2.2.2.1]
    refine wBody Try.tab Try.mixed Try.func35 rfl rfl Try.ntmps35 (by simp) (by simp) fun Q hr hn => ?_
    repeat' first | (refine hK _ ?_; clear hK) | (refine hK _ _ ?_; clear hK) | (clear hK; refine hK _ ?_; clear hK) | (clear hK; clear hK; refine hK _ ?_; clear hK) | (clear hK; clear hK; clear hK; refine hK _ ?_; clear hK) | (clear hK; clear hK; clear hK; clear hK; refine hK _ ?_; clear hK) | (refine wSeq fun K hK => ?_) | ((first | refine wReg ?_ | refine wDrwQ rfl (by kernel_rfl) ?_ | refine wDrwI ?_ | refine wDrw (by kernel_rfl) ?_); simp only [List.map_cons, List.map_nil, strip]) | ((first | refine wIs fun K hK => ?_ | refine wOs fun K hK => ?_ | refine wQs fun K hK => ?_ | refine CallK_plain ?_ | refine CallQ_plain ?_ | refine CallR_plain ?_ | refine wCond ?_); simp [q0, q1, q2, q3, q4]) | (refine wIn ?_; refine And.intro (by kernel_rfl) ?_; try simp only [thenA_n]) | (first | refine wBlock ?_ | refine wScope ?_) | ((first | refine wRet ?_ | refine wExit ?_ | refine wSkip ?_); try simp) | ((first | refine wLabel ?_ | refine wOn ?_ | refine wQn ?_); try simp only [thenA_n]) | (refine CallE.pure (c1) rfl ?_) | (refine CallE.lent (c1) rfl ?_) | (refine CallF.pure (c1) rfl ?_) | (refine CallF.lent (c1) rfl ?_) | (refine CallE.own (c1) ?_) | (refine CallH.pure (c1) rfl ?_) | (refine CallH.lent (c1) rfl ?_) | (refine CallH.own (c1) ?_) | (refine CallE.pure (c2) rfl ?_) | (refine CallE.lent (c2) rfl ?_) | (refine CallF.pure (c2) rfl ?_) | (refine CallF.lent (c2) rfl ?_) | (refine CallE.own (c2) ?_) | (refine CallH.pure (c2) rfl ?_) | (refine CallH.lent (c2) rfl ?_) | (refine CallH.own (c2) ?_) | (refine CallE.pure (c3) rfl ?_) | (refine CallE.lent (c3) rfl ?_) | (refine CallF.pure (c3) rfl ?_) | (refine CallF.lent (c3) rfl ?_) | (refine CallE.own (c3) ?_) | (refine CallH.pure (c3) rfl ?_) | (refine CallH.lent (c3) rfl ?_) | (refine CallH.own (c3) ?_)
    all_goals apply hr
    all_goals simp [Try.f35]
    all_goals (intros; simp_all)
  by_cases q5 : x.an = y.an
  rotate_left
  · rw [show decide (b1 = true ∧ b2 = true ∧ x.nx = y.nx ∧ b3 = true ∧ x.ae = y.ae ∧ x.an = y.an) = false from decide_eq_false fun h => q5 h.2.2.2.2.2]
    refine wBody Try.tab Try.mixed Try.func35 rfl rfl Try.ntmps35 (by simp) (by simp) fun Q hr hn => ?_
    repeat' first | (refine hK _ ?_; clear hK) | (refine hK _ _ ?_; clear hK) | (clear hK; refine hK _ ?_; clear hK) | (clear hK; clear hK; refine hK _ ?_; clear hK) | (clear hK; clear hK; clear hK; refine hK _ ?_; clear hK) | (clear hK; clear hK; clear hK; clear hK; refine hK _ ?_; clear hK) | (refine wSeq fun K hK => ?_) | ((first | refine wReg ?_ | refine wDrwQ rfl (by kernel_rfl) ?_ | refine wDrwI ?_ | refine wDrw (by kernel_rfl) ?_); simp only [List.map_cons, List.map_nil, strip]) | ((first | refine wIs fun K hK => ?_ | refine wOs fun K hK => ?_ | refine wQs fun K hK => ?_ | refine CallK_plain ?_ | refine CallQ_plain ?_ | refine CallR_plain ?_ | refine wCond ?_); simp [q0, q1, q2, q3, q4, q5]) | (refine wIn ?_; refine And.intro (by kernel_rfl) ?_; try simp only [thenA_n]) | (first | refine wBlock ?_ | refine wScope ?_) | ((first | refine wRet ?_ | refine wExit ?_ | refine wSkip ?_); try simp) | ((first | refine wLabel ?_ | refine wOn ?_ | refine wQn ?_); try simp only [thenA_n]) | (refine CallE.pure (c1) rfl ?_) | (refine CallE.lent (c1) rfl ?_) | (refine CallF.pure (c1) rfl ?_) | (refine CallF.lent (c1) rfl ?_) | (refine CallE.own (c1) ?_) | (refine CallH.pure (c1) rfl ?_) | (refine CallH.lent (c1) rfl ?_) | (refine CallH.own (c1) ?_) | (refine CallE.pure (c2) rfl ?_) | (refine CallE.lent (c2) rfl ?_) | (refine CallF.pure (c2) rfl ?_) | (refine CallF.lent (c2) rfl ?_) | (refine CallE.own (c2) ?_) | (refine CallH.pure (c2) rfl ?_) | (refine CallH.lent (c2) rfl ?_) | (refine CallH.own (c2) ?_) | (refine CallE.pure (c3) rfl ?_) | (refine CallE.lent (c3) rfl ?_) | (refine CallF.pure (c3) rfl ?_) | (refine CallF.lent (c3) rfl ?_) | (refine CallE.own (c3) ?_) | (refine CallH.pure (c3) rfl ?_) | (refine CallH.lent (c3) rfl ?_) | (refine CallH.own (c3) ?_)
    all_goals apply hr
    all_goals simp [Try.f35]
    all_goals (intros; simp_all)
  rw [show decide (b1 = true ∧ b2 = true ∧ x.nx = y.nx ∧ b3 = true ∧ x.ae = y.ae ∧ x.an = y.an) = true from decide_eq_true ⟨q0, q1, q2, q3, q4, q5⟩]
  refine wBody Try.tab Try.mixed Try.func35 rfl rfl Try.ntmps35 (by simp) (by simp) fun Q hr hn => ?_
  repeat' first | (refine hK _ ?_; clear hK) | (refine hK _ _ ?_; clear hK) | (clear hK; refine hK _ ?_; clear hK) | (clear hK; clear hK; refine hK _ ?_; clear hK) | (clear hK; clear hK; clear hK; refine hK _ ?_; clear hK) | (clear hK; clear hK; clear hK; clear hK; refine hK _ ?_; clear hK) | (refine wSeq fun K hK => ?_) | ((first | refine wReg ?_ | refine wDrwQ rfl (by kernel_rfl) ?_ | refine wDrwI ?_ | refine wDrw (by kernel_rfl) ?_); simp only [List.map_cons, List.map_nil, strip]) | ((first | refine wIs fun K hK => ?_ | refine wOs fun K hK => ?_ | refine wQs fun K hK => ?_ | refine CallK_plain ?_ | refine CallQ_plain ?_ | refine CallR_plain ?_ | refine wCond ?_); simp [q0, q1, q2, q3, q4, q5]) | (refine wIn ?_; refine And.intro (by kernel_rfl) ?_; try simp only [thenA_n]) | (first | refine wBlock ?_ | refine wScope ?_) | ((first | refine wRet ?_ | refine wExit ?_ | refine wSkip ?_); try simp) | ((first | refine wLabel ?_ | refine wOn ?_ | refine wQn ?_); try simp only [thenA_n]) | (refine CallE.pure (c1) rfl ?_) | (refine CallE.lent (c1) rfl ?_) | (refine CallF.pure (c1) rfl ?_) | (refine CallF.lent (c1) rfl ?_) | (refine CallE.own (c1) ?_) | (refine CallH.pure (c1) rfl ?_) | (refine CallH.lent (c1) rfl ?_) | (refine CallH.own (c1) ?_) | (refine CallE.pure (c2) rfl ?_) | (refine CallE.lent (c2) rfl ?_) | (refine CallF.pure (c2) rfl ?_) | (refine CallF.lent (c2) rfl ?_) | (refine CallE.own (c2) ?_) | (refine CallH.pure (c2) rfl ?_) | (refine CallH.lent (c2) rfl ?_) | (refine CallH.own (c2) ?_) | (refine CallE.pure (c3) rfl ?_) | (refine CallE.lent (c3) rfl ?_) | (refine CallF.pure (c3) rfl ?_) | (refine CallF.lent (c3) rfl ?_) | (refine CallE.own (c3) ?_) | (refine CallH.pure (c3) rfl ?_) | (refine CallH.lent (c3) rfl ?_) | (refine CallH.own (c3) ?_)
  all_goals apply hr
  all_goals simp [Try.f35]
  all_goals (intros; simp_all)
/- States: when transactions are the same. -/
structure Tx where
  (e n s x r b : Int)
  (m : List UInt8)
  (ps : List Pt)
  deriving DecidableEq
def Tx.cells (t : Tx) : List PV := [I t.e, I t.n, I t.s, I t.x, I t.r, I t.b, SB t.m, .sl 11 (pts t.ps)]
theorem Tx.ext8 {x y : Tx} : x = y ↔ x.e = y.e ∧ x.n = y.n ∧ x.s = y.s ∧ x.x = y.x ∧ x.r = y.r ∧ x.b = y.b ∧ x.m = y.m ∧ x.ps = y.ps := by cases x; cases y; simp
attribute [-simp] pts_getElem
@[simp] theorem pts_getE (l : List Pt) (k : Nat) (h : k < (pts l).length) : (pts l)[k] = [I (l[k]'(by simpa using h)).k, SB (l[k]'(by simpa using h)).z.p, SB (l[k]'(by simpa using h)).z.d, I (l[k]'(by simpa using h)).z.v, I (l[k]'(by simpa using h)).z.k, I (l[k]'(by simpa using h)).z.o, I (l[k]'(by simpa using h)).s, I (l[k]'(by simpa using h)).c.ep, I (l[k]'(by simpa using h)).c.n, I (l[k]'(by simpa using h)).c.kind, .sl 4 (mbs (l[k]'(by simpa using h)).c.ms)] := by simp [pts, Pt.cells]
set_option maxHeartbeats 4000000 in
theorem sameT08_con (x y : Tx) : ACon Try.prog 34 [.p (.agg x.cells), .p (.agg y.cells)] (.p (B (decide (x = y)))) := by
  unfold Tx.cells
  refine ACon.lenA ⟨Try.f34, Try.func34, rfl, rfl⟩ 0 7 11 (pts x.ps) _ rfl rfl fun hlen => ?_
  simp only [pts_len] at hlen
  by_cases o0 : x.e = y.e
  rotate_left
  · rw [decide_eq_false fun h => o0 (by rw [h])]
    refine wBody Try.tab Try.mixed Try.func34 rfl rfl Try.ntmps34 (by simp) (by simp) fun Q hr hn => ?_
    repeat' first | (refine hK _ ?_; clear hK) | (refine hK _ _ ?_; clear hK) | (clear hK; refine hK _ ?_; clear hK) | (clear hK; clear hK; refine hK _ ?_; clear hK) | (clear hK; clear hK; clear hK; refine hK _ ?_; clear hK) | (clear hK; clear hK; clear hK; clear hK; refine hK _ ?_; clear hK) | (refine wSeq fun K hK => ?_) | ((first | refine wReg ?_ | refine wDrwQ rfl (by kernel_rfl) ?_ | refine wDrwI ?_ | refine wDrw (by kernel_rfl) ?_); simp only [List.map_cons, List.map_nil, strip]) | ((first | refine wIs fun K hK => ?_ | refine wOs fun K hK => ?_ | refine wQs fun K hK => ?_ | refine CallK_plain ?_ | refine CallQ_plain ?_ | refine CallR_plain ?_ | refine wCond ?_); simp [o0]) | (refine wIn ?_; refine And.intro (by kernel_rfl) ?_; try simp only [thenA_n]) | (first | refine wBlock ?_ | refine wScope ?_) | ((first | refine wRet ?_ | refine wExit ?_ | refine wSkip ?_); try simp) | ((first | refine wLabel ?_ | refine wOn ?_ | refine wQn ?_); try simp only [thenA_n])
    all_goals apply hr
    all_goals simp [Try.f34]
  by_cases o1 : x.n = y.n
  rotate_left
  · rw [decide_eq_false fun h => o1 (by rw [h])]
    refine wBody Try.tab Try.mixed Try.func34 rfl rfl Try.ntmps34 (by simp) (by simp) fun Q hr hn => ?_
    repeat' first | (refine hK _ ?_; clear hK) | (refine hK _ _ ?_; clear hK) | (clear hK; refine hK _ ?_; clear hK) | (clear hK; clear hK; refine hK _ ?_; clear hK) | (clear hK; clear hK; clear hK; refine hK _ ?_; clear hK) | (clear hK; clear hK; clear hK; clear hK; refine hK _ ?_; clear hK) | (refine wSeq fun K hK => ?_) | ((first | refine wReg ?_ | refine wDrwQ rfl (by kernel_rfl) ?_ | refine wDrwI ?_ | refine wDrw (by kernel_rfl) ?_); simp only [List.map_cons, List.map_nil, strip]) | ((first | refine wIs fun K hK => ?_ | refine wOs fun K hK => ?_ | refine wQs fun K hK => ?_ | refine CallK_plain ?_ | refine CallQ_plain ?_ | refine CallR_plain ?_ | refine wCond ?_); simp [o0, o1]) | (refine wIn ?_; refine And.intro (by kernel_rfl) ?_; try simp only [thenA_n]) | (first | refine wBlock ?_ | refine wScope ?_) | ((first | refine wRet ?_ | refine wExit ?_ | refine wSkip ?_); try simp) | ((first | refine wLabel ?_ | refine wOn ?_ | refine wQn ?_); try simp only [thenA_n])
    all_goals apply hr
    all_goals simp [Try.f34]
  by_cases o2 : x.s = y.s
  rotate_left
  · rw [decide_eq_false fun h => o2 (by rw [h])]
    refine wBody Try.tab Try.mixed Try.func34 rfl rfl Try.ntmps34 (by simp) (by simp) fun Q hr hn => ?_
    repeat' first | (refine hK _ ?_; clear hK) | (refine hK _ _ ?_; clear hK) | (clear hK; refine hK _ ?_; clear hK) | (clear hK; clear hK; refine hK _ ?_; clear hK) | (clear hK; clear hK; clear hK; refine hK _ ?_; clear hK) | (clear hK; clear hK; clear hK; clear hK; refine hK _ ?_; clear hK) | (refine wSeq fun K hK => ?_) | ((first | refine wReg ?_ | refine wDrwQ rfl (by kernel_rfl) ?_ | refine wDrwI ?_ | refine wDrw (by kernel_rfl) ?_); simp only [List.map_cons, List.map_nil, strip]) | ((first | refine wIs fun K hK => ?_ | refine wOs fun K hK => ?_ | refine wQs fun K hK => ?_ | refine CallK_plain ?_ | refine CallQ_plain ?_ | refine CallR_plain ?_ | refine wCond ?_); simp [o0, o1, o2]) | (refine wIn ?_; refine And.intro (by kernel_rfl) ?_; try simp only [thenA_n]) | (first | refine wBlock ?_ | refine wScope ?_) | ((first | refine wRet ?_ | refine wExit ?_ | refine wSkip ?_); try simp) | ((first | refine wLabel ?_ | refine wOn ?_ | refine wQn ?_); try simp only [thenA_n])
    all_goals apply hr
    all_goals simp [Try.f34]
  by_cases o3 : x.x = y.x
  rotate_left
  · rw [decide_eq_false fun h => o3 (by rw [h])]
    refine wBody Try.tab Try.mixed Try.func34 rfl rfl Try.ntmps34 (by simp) (by simp) fun Q hr hn => ?_
    repeat' first | (refine hK _ ?_; clear hK) | (refine hK _ _ ?_; clear hK) | (clear hK; refine hK _ ?_; clear hK) | (clear hK; clear hK; refine hK _ ?_; clear hK) | (clear hK; clear hK; clear hK; refine hK _ ?_; clear hK) | (clear hK; clear hK; clear hK; clear hK; refine hK _ ?_; clear hK) | (refine wSeq fun K hK => ?_) | ((first | refine wReg ?_ | refine wDrwQ rfl (by kernel_rfl) ?_ | refine wDrwI ?_ | refine wDrw (by kernel_rfl) ?_); simp only [List.map_cons, List.map_nil, strip]) | ((first | refine wIs fun K hK => ?_ | refine wOs fun K hK => ?_ | refine wQs fun K hK => ?_ | refine CallK_plain ?_ | refine CallQ_plain ?_ | refine CallR_plain ?_ | refine wCond ?_); simp [o0, o1, o2, o3]) | (refine wIn ?_; refine And.intro (by kernel_rfl) ?_; try simp only [thenA_n]) | (first | refine wBlock ?_ | refine wScope ?_) | ((first | refine wRet ?_ | refine wExit ?_ | refine wSkip ?_); try simp) | ((first | refine wLabel ?_ | refine wOn ?_ | refine wQn ?_); try simp only [thenA_n])
    all_goals apply hr
    all_goals simp [Try.f34]
  by_cases o4 : x.r = y.r
  rotate_left
  · rw [decide_eq_false fun h => o4 (by rw [h])]
    refine wBody Try.tab Try.mixed Try.func34 rfl rfl Try.ntmps34 (by simp) (by simp) fun Q hr hn => ?_
    repeat' first | (refine hK _ ?_; clear hK) | (refine hK _ _ ?_; clear hK) | (clear hK; refine hK _ ?_; clear hK) | (clear hK; clear hK; refine hK _ ?_; clear hK) | (clear hK; clear hK; clear hK; refine hK _ ?_; clear hK) | (clear hK; clear hK; clear hK; clear hK; refine hK _ ?_; clear hK) | (refine wSeq fun K hK => ?_) | ((first | refine wReg ?_ | refine wDrwQ rfl (by kernel_rfl) ?_ | refine wDrwI ?_ | refine wDrw (by kernel_rfl) ?_); simp only [List.map_cons, List.map_nil, strip]) | ((first | refine wIs fun K hK => ?_ | refine wOs fun K hK => ?_ | refine wQs fun K hK => ?_ | refine CallK_plain ?_ | refine CallQ_plain ?_ | refine CallR_plain ?_ | refine wCond ?_); simp [o0, o1, o2, o3, o4]) | (refine wIn ?_; refine And.intro (by kernel_rfl) ?_; try simp only [thenA_n]) | (first | refine wBlock ?_ | refine wScope ?_) | ((first | refine wRet ?_ | refine wExit ?_ | refine wSkip ?_); try simp) | ((first | refine wLabel ?_ | refine wOn ?_ | refine wQn ?_); try simp only [thenA_n])
    all_goals apply hr
    all_goals simp [Try.f34]
  by_cases o5 : x.b = y.b
  rotate_left
  · rw [decide_eq_false fun h => o5 (by rw [h])]
    refine wBody Try.tab Try.mixed Try.func34 rfl rfl Try.ntmps34 (by simp) (by simp) fun Q hr hn => ?_
    repeat' first | (refine hK _ ?_; clear hK) | (refine hK _ _ ?_; clear hK) | (clear hK; refine hK _ ?_; clear hK) | (clear hK; clear hK; refine hK _ ?_; clear hK) | (clear hK; clear hK; clear hK; refine hK _ ?_; clear hK) | (clear hK; clear hK; clear hK; clear hK; refine hK _ ?_; clear hK) | (refine wSeq fun K hK => ?_) | ((first | refine wReg ?_ | refine wDrwQ rfl (by kernel_rfl) ?_ | refine wDrwI ?_ | refine wDrw (by kernel_rfl) ?_); simp only [List.map_cons, List.map_nil, strip]) | ((first | refine wIs fun K hK => ?_ | refine wOs fun K hK => ?_ | refine wQs fun K hK => ?_ | refine CallK_plain ?_ | refine CallQ_plain ?_ | refine CallR_plain ?_ | refine wCond ?_); simp [o0, o1, o2, o3, o4, o5]) | (refine wIn ?_; refine And.intro (by kernel_rfl) ?_; try simp only [thenA_n]) | (first | refine wBlock ?_ | refine wScope ?_) | ((first | refine wRet ?_ | refine wExit ?_ | refine wSkip ?_); try simp) | ((first | refine wLabel ?_ | refine wOn ?_ | refine wQn ?_); try simp only [thenA_n])
    all_goals apply hr
    all_goals simp [Try.f34]
  by_cases o6 : x.m = y.m
  rotate_left
  · rw [decide_eq_false fun h => o6 (by rw [h])]
    refine wBody Try.tab Try.mixed Try.func34 rfl rfl Try.ntmps34 (by simp) (by simp) fun Q hr hn => ?_
    repeat' first | (refine hK _ ?_; clear hK) | (refine hK _ _ ?_; clear hK) | (clear hK; refine hK _ ?_; clear hK) | (clear hK; clear hK; refine hK _ ?_; clear hK) | (clear hK; clear hK; clear hK; refine hK _ ?_; clear hK) | (clear hK; clear hK; clear hK; clear hK; refine hK _ ?_; clear hK) | (refine wSeq fun K hK => ?_) | ((first | refine wReg ?_ | refine wDrwQ rfl (by kernel_rfl) ?_ | refine wDrwI ?_ | refine wDrw (by kernel_rfl) ?_); simp only [List.map_cons, List.map_nil, strip]) | ((first | refine wIs fun K hK => ?_ | refine wOs fun K hK => ?_ | refine wQs fun K hK => ?_ | refine CallK_plain ?_ | refine CallQ_plain ?_ | refine CallR_plain ?_ | refine wCond ?_); simp [o0, o1, o2, o3, o4, o5, o6]) | (refine wIn ?_; refine And.intro (by kernel_rfl) ?_; try simp only [thenA_n]) | (first | refine wBlock ?_ | refine wScope ?_) | ((first | refine wRet ?_ | refine wExit ?_ | refine wSkip ?_); try simp) | ((first | refine wLabel ?_ | refine wOn ?_ | refine wQn ?_); try simp only [thenA_n])
    all_goals apply hr
    all_goals simp [Try.f34]
  by_cases o7 : x.ps.length = y.ps.length
  rotate_left
  · rw [decide_eq_false fun h => o7 (by rw [h])]
    have o7' : ¬ (x.ps.length : Int) = y.ps.length := by omega
    refine wBody Try.tab Try.mixed Try.func34 rfl rfl Try.ntmps34 (by simp) (by simp) fun Q hr hn => ?_
    repeat' first | (refine hK _ ?_; clear hK) | (refine hK _ _ ?_; clear hK) | (clear hK; refine hK _ ?_; clear hK) | (clear hK; clear hK; refine hK _ ?_; clear hK) | (clear hK; clear hK; clear hK; refine hK _ ?_; clear hK) | (clear hK; clear hK; clear hK; clear hK; refine hK _ ?_; clear hK) | (refine wSeq fun K hK => ?_) | ((first | refine wReg ?_ | refine wDrwQ rfl (by kernel_rfl) ?_ | refine wDrwI ?_ | refine wDrw (by kernel_rfl) ?_); simp only [List.map_cons, List.map_nil, strip]) | ((first | refine wIs fun K hK => ?_ | refine wOs fun K hK => ?_ | refine wQs fun K hK => ?_ | refine CallK_plain ?_ | refine CallQ_plain ?_ | refine CallR_plain ?_ | refine wCond ?_); simp [o0, o1, o2, o3, o4, o5, o6, o7, o7']) | (refine wIn ?_; refine And.intro (by kernel_rfl) ?_; try simp only [thenA_n]) | (first | refine wBlock ?_ | refine wScope ?_) | ((first | refine wRet ?_ | refine wExit ?_ | refine wSkip ?_); try simp) | ((first | refine wLabel ?_ | refine wOn ?_ | refine wQn ?_); try simp only [thenA_n])
    all_goals apply hr
    all_goals simp [Try.f34]
  have hd : (x = y) ↔ x.ps = y.ps := by rw [Tx.ext8]; simp [o0, o1, o2, o3, o4, o5, o6]
  refine wBody Try.tab Try.mixed Try.func34 rfl rfl Try.ntmps34 (by simp) (by simp) fun Q hr hn => ?_
  repeat' first | (refine hK _ ?_; clear hK) | (refine hK _ _ ?_; clear hK) | (clear hK; refine hK _ ?_; clear hK) | (clear hK; clear hK; refine hK _ ?_; clear hK) | (clear hK; clear hK; clear hK; refine hK _ ?_; clear hK) | (clear hK; clear hK; clear hK; clear hK; refine hK _ ?_; clear hK) | (refine wSeq fun K hK => ?_) | ((first | refine wReg ?_ | refine wDrwQ rfl (by kernel_rfl) ?_ | refine wDrwI ?_ | refine wDrw (by kernel_rfl) ?_); simp only [List.map_cons, List.map_nil, strip]) | ((first | refine wIs fun K hK => ?_ | refine wOs fun K hK => ?_ | refine wQs fun K hK => ?_ | refine CallK_plain ?_ | refine CallQ_plain ?_ | refine CallR_plain ?_ | refine wCond ?_); simp [o0, o1, o2, o3, o4, o5, o6, o7]) | (refine wIn ?_; refine And.intro (by kernel_rfl) ?_; try simp only [thenA_n]) | (first | refine wBlock ?_ | refine wScope ?_) | ((first | refine wRet ?_ | refine wExit ?_ | refine wSkip ?_); try simp) | ((first | refine wLabel ?_ | refine wOn ?_ | refine wQn ?_); try simp only [thenA_n])
  refine wLoop (fun N st => ∃ k, k + N = x.ps.length ∧ st.s 2 = .ptr 2 0 ∧ st.s 3 = .ptr 3 0 ∧ st.s 59 = .p (I x.ps.length) ∧ st.s 60 = .p (I k) ∧ st.b 2 = some (.box 58 [.p (I x.e), .p (I x.n), .p (I x.s), .p (I x.x), .p (I x.r), .p (I x.b), .p (SB x.m), .p (.sl 11 (pts x.ps))]) ∧ st.b 3 = some (.box 58 [.p (I y.e), .p (I y.n), .p (I y.s), .p (I y.x), .p (I y.r), .p (I y.b), .p (SB y.m), .p (.sl 11 (pts y.ps))]) ∧ (x.ps = y.ps ↔ x.ps.drop k = y.ps.drop k)) x.ps.length ⟨0, by simp [o0, o1, o2, o3, o4, o5, o6, o7]⟩ fun K N st hL ⟨k, hk, g2, g3, g59, g60, b2, b3, hi⟩ => ?_
  by_cases hlt : k < x.ps.length
  · have hlt' : k < y.ps.length := by omega
    have hw := wrapS k _ hlt hlen
    have h1 := pts_get hlt
    have h2 := pts_get hlt'
    have c := cfSame04_con x.ps[k].c y.ps[k].c
    unfold Cf.cells at c
    rw [List.drop_eq_getElem_cons hlt, List.drop_eq_getElem_cons hlt', List.cons.injEq] at hi
    have hn : ¬ x.ps[k] = y.ps[k] → decide (x = y) = false := fun o => decide_eq_false fun h => o (hi.1 (hd.1 h)).1
    generalize hb : decide (x.ps[k].c = y.ps[k].c) = b at c
    by_cases q0 : x.ps[k].k = y.ps[k].k
    rotate_left
    · rw [hn fun h => q0 (by rw [h])] at hr
      repeat' first | (refine hK _ ?_; clear hK) | (refine hK _ _ ?_; clear hK) | (clear hK; refine hK _ ?_; clear hK) | (clear hK; clear hK; refine hK _ ?_; clear hK) | (clear hK; clear hK; clear hK; refine hK _ ?_; clear hK) | (clear hK; clear hK; clear hK; clear hK; refine hK _ ?_; clear hK) | (refine wSeq fun K hK => ?_) | ((first | refine wReg ?_ | refine wDrwQ rfl (by kernel_rfl) ?_ | refine wDrwI ?_ | refine wDrw (by kernel_rfl) ?_); simp only [List.map_cons, List.map_nil, strip]) | ((first | refine wIs fun K hK => ?_ | refine wOs fun K hK => ?_ | refine wQs fun K hK => ?_ | refine CallK_plain ?_ | refine CallQ_plain ?_ | refine CallR_plain ?_ | refine wCond ?_); simp [g2, g3, g59, g60, b2, b3, hlt, hlt', hw, h1, h2, q0]) | (refine wIn ?_; refine And.intro (by kernel_rfl) ?_; try simp only [thenA_n]) | (first | refine wBlock ?_ | refine wScope ?_) | ((first | refine wRet ?_ | refine wExit ?_ | refine wSkip ?_); try simp) | ((first | refine wLabel ?_ | refine wOn ?_ | refine wQn ?_); try simp only [thenA_n]) | (refine CallE.pure (c) rfl ?_) | (refine CallE.lent (c) rfl ?_) | (refine CallF.pure (c) rfl ?_) | (refine CallF.lent (c) rfl ?_) | (refine CallE.own (c) ?_) | (refine CallH.pure (c) rfl ?_) | (refine CallH.lent (c) rfl ?_) | (refine CallH.own (c) ?_)
      all_goals apply hr
      all_goals simp [Try.f34]
    by_cases q1 : x.ps[k].z.p = y.ps[k].z.p
    rotate_left
    · rw [hn fun h => q1 (by rw [h])] at hr
      repeat' first | (refine hK _ ?_; clear hK) | (refine hK _ _ ?_; clear hK) | (clear hK; refine hK _ ?_; clear hK) | (clear hK; clear hK; refine hK _ ?_; clear hK) | (clear hK; clear hK; clear hK; refine hK _ ?_; clear hK) | (clear hK; clear hK; clear hK; clear hK; refine hK _ ?_; clear hK) | (refine wSeq fun K hK => ?_) | ((first | refine wReg ?_ | refine wDrwQ rfl (by kernel_rfl) ?_ | refine wDrwI ?_ | refine wDrw (by kernel_rfl) ?_); simp only [List.map_cons, List.map_nil, strip]) | ((first | refine wIs fun K hK => ?_ | refine wOs fun K hK => ?_ | refine wQs fun K hK => ?_ | refine CallK_plain ?_ | refine CallQ_plain ?_ | refine CallR_plain ?_ | refine wCond ?_); simp [g2, g3, g59, g60, b2, b3, hlt, hlt', hw, h1, h2, q0, q1]) | (refine wIn ?_; refine And.intro (by kernel_rfl) ?_; try simp only [thenA_n]) | (first | refine wBlock ?_ | refine wScope ?_) | ((first | refine wRet ?_ | refine wExit ?_ | refine wSkip ?_); try simp) | ((first | refine wLabel ?_ | refine wOn ?_ | refine wQn ?_); try simp only [thenA_n]) | (refine CallE.pure (c) rfl ?_) | (refine CallE.lent (c) rfl ?_) | (refine CallF.pure (c) rfl ?_) | (refine CallF.lent (c) rfl ?_) | (refine CallE.own (c) ?_) | (refine CallH.pure (c) rfl ?_) | (refine CallH.lent (c) rfl ?_) | (refine CallH.own (c) ?_)
      all_goals apply hr
      all_goals simp [Try.f34]
    by_cases q2 : x.ps[k].z.d = y.ps[k].z.d
    rotate_left
    · rw [hn fun h => q2 (by rw [h])] at hr
      repeat' first | (refine hK _ ?_; clear hK) | (refine hK _ _ ?_; clear hK) | (clear hK; refine hK _ ?_; clear hK) | (clear hK; clear hK; refine hK _ ?_; clear hK) | (clear hK; clear hK; clear hK; refine hK _ ?_; clear hK) | (clear hK; clear hK; clear hK; clear hK; refine hK _ ?_; clear hK) | (refine wSeq fun K hK => ?_) | ((first | refine wReg ?_ | refine wDrwQ rfl (by kernel_rfl) ?_ | refine wDrwI ?_ | refine wDrw (by kernel_rfl) ?_); simp only [List.map_cons, List.map_nil, strip]) | ((first | refine wIs fun K hK => ?_ | refine wOs fun K hK => ?_ | refine wQs fun K hK => ?_ | refine CallK_plain ?_ | refine CallQ_plain ?_ | refine CallR_plain ?_ | refine wCond ?_); simp [g2, g3, g59, g60, b2, b3, hlt, hlt', hw, h1, h2, q0, q1, q2]) | (refine wIn ?_; refine And.intro (by kernel_rfl) ?_; try simp only [thenA_n]) | (first | refine wBlock ?_ | refine wScope ?_) | ((first | refine wRet ?_ | refine wExit ?_ | refine wSkip ?_); try simp) | ((first | refine wLabel ?_ | refine wOn ?_ | refine wQn ?_); try simp only [thenA_n]) | (refine CallE.pure (c) rfl ?_) | (refine CallE.lent (c) rfl ?_) | (refine CallF.pure (c) rfl ?_) | (refine CallF.lent (c) rfl ?_) | (refine CallE.own (c) ?_) | (refine CallH.pure (c) rfl ?_) | (refine CallH.lent (c) rfl ?_) | (refine CallH.own (c) ?_)
      all_goals apply hr
      all_goals simp [Try.f34]
    by_cases q3 : x.ps[k].z.v = y.ps[k].z.v
    rotate_left
    · rw [hn fun h => q3 (by rw [h])] at hr
      repeat' first | (refine hK _ ?_; clear hK) | (refine hK _ _ ?_; clear hK) | (clear hK; refine hK _ ?_; clear hK) | (clear hK; clear hK; refine hK _ ?_; clear hK) | (clear hK; clear hK; clear hK; refine hK _ ?_; clear hK) | (clear hK; clear hK; clear hK; clear hK; refine hK _ ?_; clear hK) | (refine wSeq fun K hK => ?_) | ((first | refine wReg ?_ | refine wDrwQ rfl (by kernel_rfl) ?_ | refine wDrwI ?_ | refine wDrw (by kernel_rfl) ?_); simp only [List.map_cons, List.map_nil, strip]) | ((first | refine wIs fun K hK => ?_ | refine wOs fun K hK => ?_ | refine wQs fun K hK => ?_ | refine CallK_plain ?_ | refine CallQ_plain ?_ | refine CallR_plain ?_ | refine wCond ?_); simp [g2, g3, g59, g60, b2, b3, hlt, hlt', hw, h1, h2, q0, q1, q2, q3]) | (refine wIn ?_; refine And.intro (by kernel_rfl) ?_; try simp only [thenA_n]) | (first | refine wBlock ?_ | refine wScope ?_) | ((first | refine wRet ?_ | refine wExit ?_ | refine wSkip ?_); try simp) | ((first | refine wLabel ?_ | refine wOn ?_ | refine wQn ?_); try simp only [thenA_n]) | (refine CallE.pure (c) rfl ?_) | (refine CallE.lent (c) rfl ?_) | (refine CallF.pure (c) rfl ?_) | (refine CallF.lent (c) rfl ?_) | (refine CallE.own (c) ?_) | (refine CallH.pure (c) rfl ?_) | (refine CallH.lent (c) rfl ?_) | (refine CallH.own (c) ?_)
      all_goals apply hr
      all_goals simp [Try.f34]
    by_cases q4 : x.ps[k].z.k = y.ps[k].z.k
    rotate_left
    · rw [hn fun h => q4 (by rw [h])] at hr
      repeat' first | (refine hK _ ?_; clear hK) | (refine hK _ _ ?_; clear hK) | (clear hK; refine hK _ ?_; clear hK) | (clear hK; clear hK; refine hK _ ?_; clear hK) | (clear hK; clear hK; clear hK; refine hK _ ?_; clear hK) | (clear hK; clear hK; clear hK; clear hK; refine hK _ ?_; clear hK) | (refine wSeq fun K hK => ?_) | ((first | refine wReg ?_ | refine wDrwQ rfl (by kernel_rfl) ?_ | refine wDrwI ?_ | refine wDrw (by kernel_rfl) ?_); simp only [List.map_cons, List.map_nil, strip]) | ((first | refine wIs fun K hK => ?_ | refine wOs fun K hK => ?_ | refine wQs fun K hK => ?_ | refine CallK_plain ?_ | refine CallQ_plain ?_ | refine CallR_plain ?_ | refine wCond ?_); simp [g2, g3, g59, g60, b2, b3, hlt, hlt', hw, h1, h2, q0, q1, q2, q3, q4]) | (refine wIn ?_; refine And.intro (by kernel_rfl) ?_; try simp only [thenA_n]) | (first | refine wBlock ?_ | refine wScope ?_) | ((first | refine wRet ?_ | refine wExit ?_ | refine wSkip ?_); try simp) | ((first | refine wLabel ?_ | refine wOn ?_ | refine wQn ?_); try simp only [thenA_n]) | (refine CallE.pure (c) rfl ?_) | (refine CallE.lent (c) rfl ?_) | (refine CallF.pure (c) rfl ?_) | (refine CallF.lent (c) rfl ?_) | (refine CallE.own (c) ?_) | (refine CallH.pure (c) rfl ?_) | (refine CallH.lent (c) rfl ?_) | (refine CallH.own (c) ?_)
      all_goals apply hr
      all_goals simp [Try.f34]
    by_cases q5 : x.ps[k].z.o = y.ps[k].z.o
    rotate_left
    · rw [hn fun h => q5 (by rw [h])] at hr
      repeat' first | (refine hK _ ?_; clear hK) | (refine hK _ _ ?_; clear hK) | (clear hK; refine hK _ ?_; clear hK) | (clear hK; clear hK; refine hK _ ?_; clear hK) | (clear hK; clear hK; clear hK; refine hK _ ?_; clear hK) | (clear hK; clear hK; clear hK; clear hK; refine hK _ ?_; clear hK) | (refine wSeq fun K hK => ?_) | ((first | refine wReg ?_ | refine wDrwQ rfl (by kernel_rfl) ?_ | refine wDrwI ?_ | refine wDrw (by kernel_rfl) ?_); simp only [List.map_cons, List.map_nil, strip]) | ((first | refine wIs fun K hK => ?_ | refine wOs fun K hK => ?_ | refine wQs fun K hK => ?_ | refine CallK_plain ?_ | refine CallQ_plain ?_ | refine CallR_plain ?_ | refine wCond ?_); simp [g2, g3, g59, g60, b2, b3, hlt, hlt', hw, h1, h2, q0, q1, q2, q3, q4, q5]) | (refine wIn ?_; refine And.intro (by kernel_rfl) ?_; try simp only [thenA_n]) | (first | refine wBlock ?_ | refine wScope ?_) | ((first | refine wRet ?_ | refine wExit ?_ | refine wSkip ?_); try simp) | ((first | refine wLabel ?_ | refine wOn ?_ | refine wQn ?_); try simp only [thenA_n]) | (refine CallE.pure (c) rfl ?_) | (refine CallE.lent (c) rfl ?_) | (refine CallF.pure (c) rfl ?_) | (refine CallF.lent (c) rfl ?_) | (refine CallE.own (c) ?_) | (refine CallH.pure (c) rfl ?_) | (refine CallH.lent (c) rfl ?_) | (refine CallH.own (c) ?_)
      all_goals apply hr
      all_goals simp [Try.f34]
    by_cases q6 : x.ps[k].s = y.ps[k].s
    rotate_left
    · rw [hn fun h => q6 (by rw [h])] at hr
      repeat' first | (refine hK _ ?_; clear hK) | (refine hK _ _ ?_; clear hK) | (clear hK; refine hK _ ?_; clear hK) | (clear hK; clear hK; refine hK _ ?_; clear hK) | (clear hK; clear hK; clear hK; refine hK _ ?_; clear hK) | (clear hK; clear hK; clear hK; clear hK; refine hK _ ?_; clear hK) | (refine wSeq fun K hK => ?_) | ((first | refine wReg ?_ | refine wDrwQ rfl (by kernel_rfl) ?_ | refine wDrwI ?_ | refine wDrw (by kernel_rfl) ?_); simp only [List.map_cons, List.map_nil, strip]) | ((first | refine wIs fun K hK => ?_ | refine wOs fun K hK => ?_ | refine wQs fun K hK => ?_ | refine CallK_plain ?_ | refine CallQ_plain ?_ | refine CallR_plain ?_ | refine wCond ?_); simp [g2, g3, g59, g60, b2, b3, hlt, hlt', hw, h1, h2, q0, q1, q2, q3, q4, q5, q6]) | (refine wIn ?_; refine And.intro (by kernel_rfl) ?_; try simp only [thenA_n]) | (first | refine wBlock ?_ | refine wScope ?_) | ((first | refine wRet ?_ | refine wExit ?_ | refine wSkip ?_); try simp) | ((first | refine wLabel ?_ | refine wOn ?_ | refine wQn ?_); try simp only [thenA_n]) | (refine CallE.pure (c) rfl ?_) | (refine CallE.lent (c) rfl ?_) | (refine CallF.pure (c) rfl ?_) | (refine CallF.lent (c) rfl ?_) | (refine CallE.own (c) ?_) | (refine CallH.pure (c) rfl ?_) | (refine CallH.lent (c) rfl ?_) | (refine CallH.own (c) ?_)
      all_goals apply hr
      all_goals simp [Try.f34]
    by_cases q7 : b = true
    rotate_left
    · rw [hn fun h => q7 (by rw [← hb, h]; simp)] at hr
      repeat' first | (refine hK _ ?_; clear hK) | (refine hK _ _ ?_; clear hK) | (clear hK; refine hK _ ?_; clear hK) | (clear hK; clear hK; refine hK _ ?_; clear hK) | (clear hK; clear hK; clear hK; refine hK _ ?_; clear hK) | (clear hK; clear hK; clear hK; clear hK; refine hK _ ?_; clear hK) | (refine wSeq fun K hK => ?_) | ((first | refine wReg ?_ | refine wDrwQ rfl (by kernel_rfl) ?_ | refine wDrwI ?_ | refine wDrw (by kernel_rfl) ?_); simp only [List.map_cons, List.map_nil, strip]) | ((first | refine wIs fun K hK => ?_ | refine wOs fun K hK => ?_ | refine wQs fun K hK => ?_ | refine CallK_plain ?_ | refine CallQ_plain ?_ | refine CallR_plain ?_ | refine wCond ?_); simp [g2, g3, g59, g60, b2, b3, hlt, hlt', hw, h1, h2, q0, q1, q2, q3, q4, q5, q6, q7]) | (refine wIn ?_; refine And.intro (by kernel_rfl) ?_; try simp only [thenA_n]) | (first | refine wBlock ?_ | refine wScope ?_) | ((first | refine wRet ?_ | refine wExit ?_ | refine wSkip ?_); try simp) | ((first | refine wLabel ?_ | refine wOn ?_ | refine wQn ?_); try simp only [thenA_n]) | (refine CallE.pure (c) rfl ?_) | (refine CallE.lent (c) rfl ?_) | (refine CallF.pure (c) rfl ?_) | (refine CallF.lent (c) rfl ?_) | (refine CallE.own (c) ?_) | (refine CallH.pure (c) rfl ?_) | (refine CallH.lent (c) rfl ?_) | (refine CallH.own (c) ?_)
      all_goals apply hr
      all_goals simp [Try.f34]
    have he : x.ps[k] = y.ps[k] := Pt.ext8.2 ⟨q0, q1, q2, q3, q4, q5, q6, by rw [← hb] at q7; simpa using q7⟩
    rw [and_iff_right he] at hi
    clear he
    repeat' first | (refine hK _ ?_; clear hK) | (refine hK _ _ ?_; clear hK) | (clear hK; refine hK _ ?_; clear hK) | (clear hK; clear hK; refine hK _ ?_; clear hK) | (clear hK; clear hK; clear hK; refine hK _ ?_; clear hK) | (clear hK; clear hK; clear hK; clear hK; refine hK _ ?_; clear hK) | (refine wSeq fun K hK => ?_) | ((first | refine wReg ?_ | refine wDrwQ rfl (by kernel_rfl) ?_ | refine wDrwI ?_ | refine wDrw (by kernel_rfl) ?_); simp only [List.map_cons, List.map_nil, strip]) | ((first | refine wIs fun K hK => ?_ | refine wOs fun K hK => ?_ | refine wQs fun K hK => ?_ | refine CallK_plain ?_ | refine CallQ_plain ?_ | refine CallR_plain ?_ | refine wCond ?_); simp [g2, g3, g59, g60, b2, b3, hlt, hlt', hw, h1, h2, q0, q1, q2, q3, q4, q5, q6, q7]) | (refine wIn ?_; refine And.intro (by kernel_rfl) ?_; try simp only [thenA_n]) | (first | refine wBlock ?_ | refine wScope ?_) | ((first | refine wRet ?_ | refine wExit ?_ | refine wSkip ?_); try simp) | ((first | refine wLabel ?_ | refine wOn ?_ | refine wQn ?_); try simp only [thenA_n]) | (refine CallE.pure (c) rfl ?_) | (refine CallE.lent (c) rfl ?_) | (refine CallF.pure (c) rfl ?_) | (refine CallF.lent (c) rfl ?_) | (refine CallE.own (c) ?_) | (refine CallH.pure (c) rfl ?_) | (refine CallH.lent (c) rfl ?_) | (refine CallH.own (c) ?_)
    refine hL _ (N - 1) (by omega) ⟨k + 1, by omega, ?_⟩
    simp [g2, g3, g59, g60, b2, b3, hw, o0, o1, o2, o3, o4, o5, o6]
    exact hi
  · rw [List.drop_of_length_le (by omega), List.drop_of_length_le (by omega)] at hi
    rw [show decide (x = y) = true from decide_eq_true (hd.2 (hi.2 rfl))] at hr
    repeat' first | (refine hK _ ?_; clear hK) | (refine hK _ _ ?_; clear hK) | (clear hK; refine hK _ ?_; clear hK) | (clear hK; clear hK; refine hK _ ?_; clear hK) | (clear hK; clear hK; clear hK; refine hK _ ?_; clear hK) | (clear hK; clear hK; clear hK; clear hK; refine hK _ ?_; clear hK) | (refine wSeq fun K hK => ?_) | ((first | refine wReg ?_ | refine wDrwQ rfl (by kernel_rfl) ?_ | refine wDrwI ?_ | refine wDrw (by kernel_rfl) ?_); simp only [List.map_cons, List.map_nil, strip]) | ((first | refine wIs fun K hK => ?_ | refine wOs fun K hK => ?_ | refine wQs fun K hK => ?_ | refine CallK_plain ?_ | refine CallQ_plain ?_ | refine CallR_plain ?_ | refine wCond ?_); simp [g2, g3, g59, g60, b2, b3, hlt]) | (refine wIn ?_; refine And.intro (by kernel_rfl) ?_; try simp only [thenA_n]) | (first | refine wBlock ?_ | refine wScope ?_) | ((first | refine wRet ?_ | refine wExit ?_ | refine wSkip ?_); try simp) | ((first | refine wLabel ?_ | refine wOn ?_ | refine wQn ?_); try simp only [thenA_n])
    all_goals apply hr
    all_goals simp [Try.f34]
/- States: far, of any transactions. -/
def txns (l : List Tx) : List (List PV) := l.map Tx.cells
@[simp] theorem txns_len (l : List Tx) : (txns l).length = l.length := by simp [txns]
@[simp] theorem txns_getElem (l : List Tx) (k : Nat) (h : k < (txns l).length) : (txns l)[k] = [I (l[k]'(by simpa using h)).e, I (l[k]'(by simpa using h)).n, I (l[k]'(by simpa using h)).s, I (l[k]'(by simpa using h)).x, I (l[k]'(by simpa using h)).r, I (l[k]'(by simpa using h)).b, SB (l[k]'(by simpa using h)).m, .sl 11 (pts (l[k]'(by simpa using h)).ps)] := by simp [txns, Tx.cells]
theorem txns_get {l : List Tx} {k : Nat} (h : k < l.length) : (txns l)[k]? = some [I l[k].e, I l[k].n, I l[k].s, I l[k].x, I l[k].r, I l[k].b, SB l[k].m, .sl 11 (pts l[k].ps)] := by simp [txns, h, Tx.cells]
end Go.Proofs.Yteicecbjahhjmaa
