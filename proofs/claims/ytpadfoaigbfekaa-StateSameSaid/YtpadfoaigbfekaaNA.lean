/- Nodes of the tree: lists of them; Find, Children, Texts, Root. -/
import Derived.Test.YtpadfoaigbfekaaPD
namespace Go.Proofs.Ytpadfoaigbfekaa
set_option linter.unusedSimpArgs false
set_option linter.unusedVariables false
open Go Go.Av
attribute [local simp] Try.T1 Try.T2 Try.T3 Try.T4 Try.T5 Try.T9 Try.T12 Try.T21 Try.T22 Try.T24 Try.T25 Try.T26 Try.T27 Try.T28 Try.T29 Try.T30 Try.T31 Try.T33 Try.T34 Try.T35 Try.T36 Try.T37 Try.T38 Try.T39 Try.T41 Try.T42 Try.T43 Try.T44 Try.T46 Try.T47 Try.T49 Try.T51 Try.T52 Try.T53 Try.T54 Try.T56 Try.T57 Try.T58 Try.T59 Try.T60 Try.T62 Try.T64 Try.T65 Try.T66 Try.T67 Try.T68 Try.T69 Try.T70 Try.T71 Try.T72 Try.T73 Try.T75 Try.T76 Try.T77 Try.T78 Try.T79 Try.T80 Try.T82 Try.T83 Try.T84 Try.T85 Try.T87 Try.T88 Try.T89 Try.T90 Try.T91 Try.T92 Try.T93 Try.T94 Try.T95 Try.T96 Try.T97 Try.T98 Try.T99 Try.T100 Try.T102 Try.T103 Try.T104 Try.T105 Try.T106 Try.T107 Try.T109 Try.T110 Try.T111 Try.T112 Try.T113 Try.T114 Try.T115 Try.T116 Try.T117 Try.T123 Try.T126
attribute [local irreducible] Go.Av.CallK Go.Av.CallE Go.Av.CallQ Go.Av.CallF Go.Av.CallR Go.Av.CallH Go.Av.Con

@[simp] theorem empty_bs : ByteArray.empty = bs [] := rfl
structure Zn where
  (p d : List UInt8)
  (v k o : Int)
  deriving DecidableEq
def Zn.c (z : Zn) : List PV := [SB z.p, SB z.d, I z.v, I z.k, I z.o]
theorem Zn.ext5 {x y : Zn} : x = y ↔ x.p = y.p ∧ x.d = y.d ∧ x.v = y.v ∧ x.k = y.k ∧ x.o = y.o := by cases x; cases y; simp
def zns (l : List Zn) : List (List PV) := l.map Zn.c
@[simp] theorem zns_len (l : List Zn) : (zns l).length = l.length := by simp [zns]
@[simp] theorem zns_getElem (l : List Zn) (k : Nat) (h : k < (zns l).length) : (zns l)[k] = [SB (l[k]'(by simpa using h)).p, SB (l[k]'(by simpa using h)).d, I (l[k]'(by simpa using h)).v, I (l[k]'(by simpa using h)).k, I (l[k]'(by simpa using h)).o] := by simp [zns, Zn.c]
theorem zns_get {l : List Zn} {k : Nat} (h : k < l.length) : (zns l)[k]? = some [SB l[k].p, SB l[k].d, I l[k].v, I l[k].k, I l[k].o] := by simp [zns, h, Zn.c]
theorem zns_snoc (l : List Zn) (z : Zn) : zns l ++ [[SB z.p, SB z.d, I z.v, I z.k, I z.o]] = zns (l ++ [z]) := by simp [zns, Zn.c]
theorem zns_take (l : List Zn) (k : Nat) : (zns l).take k = zns (l.take k) := by simp [zns, List.map_take]
theorem zns_drop (l : List Zn) (k : Nat) : (zns l).drop k = zns (l.drop k) := by simp [zns, List.map_drop]
theorem zns_app (l m : List Zn) : zns l ++ zns m = zns (l ++ m) := by simp [zns]
def txs (l : List (List UInt8)) : List (List PV) := l.map fun x => [SB x]
@[simp] theorem txs_len (l : List (List UInt8)) : (txs l).length = l.length := by simp [txs]
@[simp] theorem txs_getElem (l : List (List UInt8)) (k : Nat) (h : k < (txs l).length) : (txs l)[k] = [SB (l[k]'(by simpa using h))] := by simp [txs]
theorem txs_get {l : List (List UInt8)} {k : Nat} (h : k < l.length) : (txs l)[k]? = some [SB l[k]] := by simp [txs, h]
theorem txs_snoc (l : List (List UInt8)) (x : List UInt8) : txs l ++ [[SB x]] = txs (l ++ [x]) := by simp [txs]
theorem take_snocN {α : Type} (l : List α) (k : Nat) (h : k < l.length) : l.take (k + 1) = l.take k ++ [l[k]] := List.take_succ_eq_append_getElem h

/-! ### Find -/
def zz : Zn := ⟨[], [], 0, 0, 0⟩
def fnd : List Zn → List UInt8 → Zn × Bool
  | [], _ => (zz, false)
  | z :: r, p => if z.p = p then (z, true) else fnd r p
theorem fnd_step {l : List Zn} {k : Nat} (h : k < l.length) (p : List UInt8) : fnd (l.drop k) p = if l[k].p = p then (l[k], true) else fnd (l.drop (k + 1)) p := by
  rw [List.drop_eq_getElem_cons h]; rfl
theorem find_con (l : List Zn) (p : List UInt8) : ACon Try.prog 23 [.p (.sl 5 (zns l)), .p (SB p)] (.tup [.p (.agg (fnd l p).1.c), .p (B (fnd l p).2)]) := by
  refine ACon.len ⟨Try.f23, Try.func23, rfl, rfl⟩ 0 _ _ rfl fun hlen => ?_
  simp only [zns_len] at hlen
  refine wBody Try.tab Try.mixed Try.func23 rfl rfl Try.ntmps23 (by simp) (by simp) fun Q hr hn => ?_
  repeat' first | (refine hK _ ?_; clear hK) | (refine hK _ _ ?_; clear hK) | (clear hK; refine hK _ ?_; clear hK) | (clear hK; clear hK; refine hK _ ?_; clear hK) | (clear hK; clear hK; clear hK; refine hK _ ?_; clear hK) | (clear hK; clear hK; clear hK; clear hK; refine hK _ ?_; clear hK) | (refine wSeq fun K hK => ?_) | ((first | refine wReg ?_ | refine wDrwQ rfl (by kernel_rfl) ?_ | refine wDrwI ?_ | refine wDrw (by kernel_rfl) ?_); simp only [List.map_cons, List.map_nil, strip]) | ((first | refine wIs fun K hK => ?_ | refine wOs fun K hK => ?_ | refine wQs fun K hK => ?_ | refine CallK_plain ?_ | refine CallQ_plain ?_ | refine CallR_plain ?_ | refine wCond ?_); simp) | (refine wIn ?_; refine And.intro (by kernel_rfl) ?_; try simp only [thenA_n]) | (first | refine wBlock ?_ | refine wScope ?_) | ((first | refine wRet ?_ | refine wExit ?_ | refine wSkip ?_); try simp) | ((first | refine wLabel ?_ | refine wOn ?_ | refine wQn ?_); try simp only [thenA_n])
  refine wLoop (fun N st => ∃ k, k + N = l.length ∧ st.s 1 = .p (SB p) ∧ st.s 8 = .p (.sl 5 (zns l)) ∧ st.s 9 = .p (I l.length) ∧ st.s 10 = .p (I k) ∧ st.s 4 = .ptr 4 0 ∧ st.b 4 = some (.box 24 [.p (SB []), .p (SB []), .p (I 0), .p (I 0), .p (I 0)]) ∧ fnd l p = fnd (l.drop k) p) l.length ⟨0, by simp⟩ fun K N st hL ⟨k, hk, g1, g8, g9, g10, g4, b4, hi⟩ => ?_
  by_cases hlt : k < l.length
  · have hw := wrapS k _ hlt hlen
    have he := zns_get hlt
    rw [fnd_step hlt] at hi
    by_cases o : l[k].p = p
    · rw [if_pos o] at hi
      rw [hi] at hr
      repeat' first | (refine hK _ ?_; clear hK) | (refine hK _ _ ?_; clear hK) | (clear hK; refine hK _ ?_; clear hK) | (clear hK; clear hK; refine hK _ ?_; clear hK) | (clear hK; clear hK; clear hK; refine hK _ ?_; clear hK) | (clear hK; clear hK; clear hK; clear hK; refine hK _ ?_; clear hK) | (refine wSeq fun K hK => ?_) | ((first | refine wReg ?_ | refine wDrwQ rfl (by kernel_rfl) ?_ | refine wDrwI ?_ | refine wDrw (by kernel_rfl) ?_); simp only [List.map_cons, List.map_nil, strip]) | ((first | refine wIs fun K hK => ?_ | refine wOs fun K hK => ?_ | refine wQs fun K hK => ?_ | refine CallK_plain ?_ | refine CallQ_plain ?_ | refine CallR_plain ?_ | refine wCond ?_); simp [g1, g8, g9, g10, g4, b4, hlt, hw, he, o]) | (refine wIn ?_; refine And.intro (by kernel_rfl) ?_; try simp only [thenA_n]) | (first | refine wBlock ?_ | refine wScope ?_) | ((first | refine wRet ?_ | refine wExit ?_ | refine wSkip ?_); try simp) | ((first | refine wLabel ?_ | refine wOn ?_ | refine wQn ?_); try simp only [thenA_n])
      all_goals apply hr
      all_goals simp [Try.f23, Zn.c, g4, b4, o]
    · rw [if_neg o] at hi
      repeat' first | (refine hK _ ?_; clear hK) | (refine hK _ _ ?_; clear hK) | (clear hK; refine hK _ ?_; clear hK) | (clear hK; clear hK; refine hK _ ?_; clear hK) | (clear hK; clear hK; clear hK; refine hK _ ?_; clear hK) | (clear hK; clear hK; clear hK; clear hK; refine hK _ ?_; clear hK) | (refine wSeq fun K hK => ?_) | ((first | refine wReg ?_ | refine wDrwQ rfl (by kernel_rfl) ?_ | refine wDrwI ?_ | refine wDrw (by kernel_rfl) ?_); simp only [List.map_cons, List.map_nil, strip]) | ((first | refine wIs fun K hK => ?_ | refine wOs fun K hK => ?_ | refine wQs fun K hK => ?_ | refine CallK_plain ?_ | refine CallQ_plain ?_ | refine CallR_plain ?_ | refine wCond ?_); simp [g1, g8, g9, g10, g4, b4, hlt, hw, he, o]) | (refine wIn ?_; refine And.intro (by kernel_rfl) ?_; try simp only [thenA_n]) | (first | refine wBlock ?_ | refine wScope ?_) | ((first | refine wRet ?_ | refine wExit ?_ | refine wSkip ?_); try simp) | ((first | refine wLabel ?_ | refine wOn ?_ | refine wQn ?_); try simp only [thenA_n])
      refine hL _ (N - 1) (by omega) ⟨k + 1, by omega, ?_⟩
      simp [g1, g8, g9, g10, g4, b4, hw, hi]
  · have hd : l.drop k = [] := List.drop_of_length_le (by omega)
    rw [hd] at hi
    rw [hi] at hr
    repeat' first | (refine hK _ ?_; clear hK) | (refine hK _ _ ?_; clear hK) | (clear hK; refine hK _ ?_; clear hK) | (clear hK; clear hK; refine hK _ ?_; clear hK) | (clear hK; clear hK; clear hK; refine hK _ ?_; clear hK) | (clear hK; clear hK; clear hK; clear hK; refine hK _ ?_; clear hK) | (refine wSeq fun K hK => ?_) | ((first | refine wReg ?_ | refine wDrwQ rfl (by kernel_rfl) ?_ | refine wDrwI ?_ | refine wDrw (by kernel_rfl) ?_); simp only [List.map_cons, List.map_nil, strip]) | ((first | refine wIs fun K hK => ?_ | refine wOs fun K hK => ?_ | refine wQs fun K hK => ?_ | refine CallK_plain ?_ | refine CallQ_plain ?_ | refine CallR_plain ?_ | refine wCond ?_); simp [g1, g8, g9, g10, g4, b4, hlt]) | (refine wIn ?_; refine And.intro (by kernel_rfl) ?_; try simp only [thenA_n]) | (first | refine wBlock ?_ | refine wScope ?_) | ((first | refine wRet ?_ | refine wExit ?_ | refine wSkip ?_); try simp) | ((first | refine wLabel ?_ | refine wOn ?_ | refine wQn ?_); try simp only [thenA_n])
    all_goals apply hr
    all_goals simp [Try.f23, Zn.c, fnd, zz, g4, b4]
theorem find07_con (l : List Zn) (p : List UInt8) : ACon Try.prog 24 [.p (.sl 5 (zns l)), .p (SB p)] (.tup [.p (.agg (fnd l p).1.c), .p (B (fnd l p).2)]) := by
  refine ACon.len ⟨Try.f24, Try.func24, rfl, rfl⟩ 0 _ _ rfl fun hlen => ?_
  simp only [zns_len] at hlen
  refine wBody Try.tab Try.mixed Try.func24 rfl rfl Try.ntmps24 (by simp) (by simp) fun Q hr hn => ?_
  repeat' first | (refine hK _ ?_; clear hK) | (refine hK _ _ ?_; clear hK) | (clear hK; refine hK _ ?_; clear hK) | (clear hK; clear hK; refine hK _ ?_; clear hK) | (clear hK; clear hK; clear hK; refine hK _ ?_; clear hK) | (clear hK; clear hK; clear hK; clear hK; refine hK _ ?_; clear hK) | (refine wSeq fun K hK => ?_) | ((first | refine wReg ?_ | refine wDrwQ rfl (by kernel_rfl) ?_ | refine wDrwI ?_ | refine wDrw (by kernel_rfl) ?_); simp only [List.map_cons, List.map_nil, strip]) | ((first | refine wIs fun K hK => ?_ | refine wOs fun K hK => ?_ | refine wQs fun K hK => ?_ | refine CallK_plain ?_ | refine CallQ_plain ?_ | refine CallR_plain ?_ | refine wCond ?_); simp) | (refine wIn ?_; refine And.intro (by kernel_rfl) ?_; try simp only [thenA_n]) | (first | refine wBlock ?_ | refine wScope ?_) | ((first | refine wRet ?_ | refine wExit ?_ | refine wSkip ?_); try simp) | ((first | refine wLabel ?_ | refine wOn ?_ | refine wQn ?_); try simp only [thenA_n])
  refine wLoop (fun N st => ∃ k, k + N = l.length ∧ st.s 1 = .p (SB p) ∧ st.s 8 = .p (.sl 5 (zns l)) ∧ st.s 9 = .p (I l.length) ∧ st.s 10 = .p (I k) ∧ st.s 4 = .ptr 4 0 ∧ st.b 4 = some (.box 24 [.p (SB []), .p (SB []), .p (I 0), .p (I 0), .p (I 0)]) ∧ fnd l p = fnd (l.drop k) p) l.length ⟨0, by simp⟩ fun K N st hL ⟨k, hk, g1, g8, g9, g10, g4, b4, hi⟩ => ?_
  by_cases hlt : k < l.length
  · have hw := wrapS k _ hlt hlen
    have he := zns_get hlt
    rw [fnd_step hlt] at hi
    by_cases o : l[k].p = p
    · rw [if_pos o] at hi
      rw [hi] at hr
      repeat' first | (refine hK _ ?_; clear hK) | (refine hK _ _ ?_; clear hK) | (clear hK; refine hK _ ?_; clear hK) | (clear hK; clear hK; refine hK _ ?_; clear hK) | (clear hK; clear hK; clear hK; refine hK _ ?_; clear hK) | (clear hK; clear hK; clear hK; clear hK; refine hK _ ?_; clear hK) | (refine wSeq fun K hK => ?_) | ((first | refine wReg ?_ | refine wDrwQ rfl (by kernel_rfl) ?_ | refine wDrwI ?_ | refine wDrw (by kernel_rfl) ?_); simp only [List.map_cons, List.map_nil, strip]) | ((first | refine wIs fun K hK => ?_ | refine wOs fun K hK => ?_ | refine wQs fun K hK => ?_ | refine CallK_plain ?_ | refine CallQ_plain ?_ | refine CallR_plain ?_ | refine wCond ?_); simp [g1, g8, g9, g10, g4, b4, hlt, hw, he, o]) | (refine wIn ?_; refine And.intro (by kernel_rfl) ?_; try simp only [thenA_n]) | (first | refine wBlock ?_ | refine wScope ?_) | ((first | refine wRet ?_ | refine wExit ?_ | refine wSkip ?_); try simp) | ((first | refine wLabel ?_ | refine wOn ?_ | refine wQn ?_); try simp only [thenA_n])
      all_goals apply hr
      all_goals simp [Try.f24, Zn.c, g4, b4, o]
    · rw [if_neg o] at hi
      repeat' first | (refine hK _ ?_; clear hK) | (refine hK _ _ ?_; clear hK) | (clear hK; refine hK _ ?_; clear hK) | (clear hK; clear hK; refine hK _ ?_; clear hK) | (clear hK; clear hK; clear hK; refine hK _ ?_; clear hK) | (clear hK; clear hK; clear hK; clear hK; refine hK _ ?_; clear hK) | (refine wSeq fun K hK => ?_) | ((first | refine wReg ?_ | refine wDrwQ rfl (by kernel_rfl) ?_ | refine wDrwI ?_ | refine wDrw (by kernel_rfl) ?_); simp only [List.map_cons, List.map_nil, strip]) | ((first | refine wIs fun K hK => ?_ | refine wOs fun K hK => ?_ | refine wQs fun K hK => ?_ | refine CallK_plain ?_ | refine CallQ_plain ?_ | refine CallR_plain ?_ | refine wCond ?_); simp [g1, g8, g9, g10, g4, b4, hlt, hw, he, o]) | (refine wIn ?_; refine And.intro (by kernel_rfl) ?_; try simp only [thenA_n]) | (first | refine wBlock ?_ | refine wScope ?_) | ((first | refine wRet ?_ | refine wExit ?_ | refine wSkip ?_); try simp) | ((first | refine wLabel ?_ | refine wOn ?_ | refine wQn ?_); try simp only [thenA_n])
      refine hL _ (N - 1) (by omega) ⟨k + 1, by omega, ?_⟩
      simp [g1, g8, g9, g10, g4, b4, hw, hi]
  · have hd : l.drop k = [] := List.drop_of_length_le (by omega)
    rw [hd] at hi
    rw [hi] at hr
    repeat' first | (refine hK _ ?_; clear hK) | (refine hK _ _ ?_; clear hK) | (clear hK; refine hK _ ?_; clear hK) | (clear hK; clear hK; refine hK _ ?_; clear hK) | (clear hK; clear hK; clear hK; refine hK _ ?_; clear hK) | (clear hK; clear hK; clear hK; clear hK; refine hK _ ?_; clear hK) | (refine wSeq fun K hK => ?_) | ((first | refine wReg ?_ | refine wDrwQ rfl (by kernel_rfl) ?_ | refine wDrwI ?_ | refine wDrw (by kernel_rfl) ?_); simp only [List.map_cons, List.map_nil, strip]) | ((first | refine wIs fun K hK => ?_ | refine wOs fun K hK => ?_ | refine wQs fun K hK => ?_ | refine CallK_plain ?_ | refine CallQ_plain ?_ | refine CallR_plain ?_ | refine wCond ?_); simp [g1, g8, g9, g10, g4, b4, hlt]) | (refine wIn ?_; refine And.intro (by kernel_rfl) ?_; try simp only [thenA_n]) | (first | refine wBlock ?_ | refine wScope ?_) | ((first | refine wRet ?_ | refine wExit ?_ | refine wSkip ?_); try simp) | ((first | refine wLabel ?_ | refine wOn ?_ | refine wQn ?_); try simp only [thenA_n])
    all_goals apply hr
    all_goals simp [Try.f24, Zn.c, fnd, zz, g4, b4]
end Go.Proofs.Ytpadfoaigbfekaa
