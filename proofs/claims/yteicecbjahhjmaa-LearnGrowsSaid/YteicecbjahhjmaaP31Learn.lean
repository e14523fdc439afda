/- Texts that the proof needs: IX XC XL XM NG NH XN XO XP HI HV LNP. -/
import Derived.Test.YteicecbjahhjmaaP18Learn
import Derived.Test.YteicecbjahhjmaaP30Learn
import Derived.Test.YteicecbjahhjmaaP12Learn
import Derived.WalkKit
import Derived.Deep.RegionLaw
import Derived.Test.YteicecbjahhjmaaP29Learn
import Derived.Test.YteicecbjahhjmaaP16Learn
import Derived.Test.YteicecbjahhjmaaP22Learn
import Derived.Test.YteicecbjahhjmaaP23Learn
import Derived.Test.YteicecbjahhjmaaP25Learn
/- slices.Insert of one number. -/
namespace Go.Proofs.Yteicecbjahhjmaa
set_option linter.unusedSimpArgs false
set_option linter.unusedVariables false
open Go Go.Av Go.Lib Go.RowKit
end Go.Proofs.Yteicecbjahhjmaa
/- States: a session opened, a session closed. -/
namespace Go.Proofs.Yteicecbjahhjmaa
set_option linter.unusedSimpArgs false
set_option linter.unusedVariables false
open Go Go.Av
attribute [local simp] Try.T1 Try.T2 Try.T3 Try.T4 Try.T5 Try.T9 Try.T12 Try.T15 Try.T16 Try.T17 Try.T21 Try.T22 Try.T23 Try.T25 Try.T26 Try.T28 Try.T30 Try.T31 Try.T33 Try.T35 Try.T36 Try.T37 Try.T38 Try.T39 Try.T41 Try.T42 Try.T44 Try.T45 Try.T47 Try.T48 Try.T50 Try.T51 Try.T52 Try.T54 Try.T55 Try.T56 Try.T58 Try.T59 Try.T61 Try.T63 Try.T65 Try.T67 Try.T68 Try.T69 Try.T70 Try.T72 Try.T73 Try.T74 Try.T75 Try.T76 Try.T77 Try.T78 Try.T79 Try.T80 Try.T81 Try.T83 Try.T84 Try.T85 Try.T87 Try.T88 Try.T89 Try.T90 Try.T91 Try.T92 Try.T93 Try.T94 Try.T95 Try.T96 Try.T97 Try.T98 Try.T99 Try.T101 Try.T103 Try.T104 Try.T105 Try.T106 Try.T107 Try.T108 Try.T109 Try.T110 Try.T111 Try.T113 Try.T114 Try.T115 Try.T116 Try.T117 Try.T118 Try.T119 Try.T120 Try.T121 Try.T122 Try.T123 Try.T124 Try.T125 Try.T126 Try.T127 Try.T128 Try.T129 Try.T130 Try.T131 Try.T132 Try.T133 Try.T134 Try.T135 Try.T137 Try.T138 Try.T139 Try.T140 Try.T141 Try.T142 Try.T143 Try.T144 Try.T145 Try.T146 Try.T147 Try.T148 Try.T149 Try.T150 Try.T153 Try.T156 Try.T157 Try.T160 Try.T161 Try.T167
attribute [local irreducible] Go.Av.CallK Go.Av.CallE Go.Av.CallQ Go.Av.CallF Go.Av.CallR Go.Av.CallH Go.Av.Con
/-! ### Where a session stands -/
def atI : List Int → Int → Nat
  | [], _ => 0
  | x :: r, s => if x < s then atI r s + 1 else 0
def insI (l : List Int) (s : Int) : List Int := (but l s).take (atI l s) ++ s :: (but l s).drop (atI l s)
def okS (s : Int) : Bool := decide (1 ≤ s ∧ s ≤ 1099511627776)
def opnL (l : List Int) (s : Int) : List Int := if okS s = true then insI l s else l
def opnN (nx s : Int) : Int := if okS s = true then max nx (s + 1) else nx
/- States: the document's copies and lists without a number. -/
theorem zis_snoc (l : List Int) (a : Int) : zis l ++ [[I a]] = zis (l ++ [a]) := by simp [zis]
theorem but_take_len (l : List Int) (n : Int) (k : Nat) : (but (l.take k) n).length ≤ k := Nat.le_trans (but_len _ _) (by simp; omega)
theorem without08_con (l : List Int) (n : Int) (hl : l.length ≤ 1000000) : ACon Try.prog 77 [.p (.sl 1 (zis l)), .p (I n)] (.p (.sl 1 (zis (but l n)))) := by
  refine wBody Try.tab Try.mixed Try.func77 rfl rfl Try.ntmps77 (by simp) (by simp) fun Q hr hn => ?_
  repeat' first | (refine hK _ ?_; clear hK) | (refine hK _ _ ?_; clear hK) | (clear hK; refine hK _ ?_; clear hK) | (clear hK; clear hK; refine hK _ ?_; clear hK) | (clear hK; clear hK; clear hK; refine hK _ ?_; clear hK) | (clear hK; clear hK; clear hK; clear hK; refine hK _ ?_; clear hK) | (refine wSeq fun K hK => ?_) | ((first | refine wReg ?_ | refine wDrwQ rfl (by kernel_rfl) ?_ | refine wDrwI ?_ | refine wDrw (by kernel_rfl) ?_); simp only [List.map_cons, List.map_nil, strip]) | ((first | refine wIs fun K hK => ?_ | refine wOs fun K hK => ?_ | refine wQs fun K hK => ?_ | refine CallK_plain ?_ | refine CallQ_plain ?_ | refine CallR_plain ?_ | refine wCond ?_); simp) | (refine wIn ?_; refine And.intro (by kernel_rfl) ?_; try simp only [thenA_n]) | (first | refine wBlock ?_ | refine wScope ?_) | ((first | refine wRet ?_ | refine wExit ?_ | refine wSkip ?_); try simp) | ((first | refine wLabel ?_ | refine wOn ?_ | refine wQn ?_); try simp only [thenA_n])
  refine wLoopG [.row 5 3 1] (fun N st => ∃ k, k + N = l.length ∧ st.s 1 = .p (I n) ∧ st.s 8 = .p (.sl 1 (zis l)) ∧ st.s 9 = .p (I l.length) ∧ st.s 10 = .p (I k) ∧ st.s 5 = .row 5 ∧ st.b 5 = some (.row 3 1 (zis (but (l.take k) n)))) l.length ⟨0, by simp [but, zis]⟩ fun K N st hL ⟨k, hk, g1, g8, g9, g10, g5, b5⟩ => ?_
  have hkl := but_take_len l n k
  by_cases hlt : k < l.length
  · have hw := wrapX k _ hlt (by omega)
    have he := zis_get hlt
    have hs := but_snoc hlt n
    have hx := zis_snoc (but (l.take k) n) l[k]
    by_cases o : l[k] = n
    · rw [if_pos o] at hs
      repeat' first | (refine hK _ ?_; clear hK) | (refine hK _ _ ?_; clear hK) | (clear hK; refine hK _ ?_; clear hK) | (clear hK; clear hK; refine hK _ ?_; clear hK) | (clear hK; clear hK; clear hK; refine hK _ ?_; clear hK) | (clear hK; clear hK; clear hK; clear hK; refine hK _ ?_; clear hK) | (refine wSeq fun K hK => ?_) | ((first | refine wReg ?_ | refine wDrwQ rfl (by kernel_rfl) ?_ | refine wDrwI ?_ | refine wDrw (by kernel_rfl) ?_); simp only [List.map_cons, List.map_nil, strip]) | ((first | refine wIs fun K hK => ?_ | refine wOs fun K hK => ?_ | refine wQs fun K hK => ?_ | refine CallK_plain ?_ | refine CallQ_plain ?_ | refine CallR_plain ?_ | refine wCond ?_); simp [g1, g8, g9, g10, g5, b5, hlt, hw, he, o]) | (refine wIn ?_; refine And.intro (by kernel_rfl) ?_; try simp only [thenA_n]) | (first | refine wBlock ?_ | refine wScope ?_) | ((first | refine wRet ?_ | refine wExit ?_ | refine wSkip ?_); try simp) | ((first | refine wLabel ?_ | refine wOn ?_ | refine wQn ?_); try simp only [thenA_n])
      refine hL _ (N - 1) (by omega) ⟨k + 1, by omega, ?_⟩
      simp [g1, g8, g9, g10, g5, b5, hw, hs]
    · rw [if_neg o] at hs
      rw [← hs] at hx
      repeat' first | (refine And.intro (by (try simp at hkl ⊢); omega) ?_) | (refine hK _ ?_; clear hK) | (refine hK _ _ ?_; clear hK) | (clear hK; refine hK _ ?_; clear hK) | (clear hK; clear hK; refine hK _ ?_; clear hK) | (clear hK; clear hK; clear hK; refine hK _ ?_; clear hK) | (clear hK; clear hK; clear hK; clear hK; refine hK _ ?_; clear hK) | (refine wSeq fun K hK => ?_) | ((first | refine wReg ?_ | refine wDrwQ rfl (by kernel_rfl) ?_ | refine wDrwI ?_ | refine wDrw (by kernel_rfl) ?_); simp only [List.map_cons, List.map_nil, strip]) | ((first | refine wIs fun K hK => ?_ | refine wOs fun K hK => ?_ | refine wQs fun K hK => ?_ | refine CallK_plain ?_ | refine CallQ_plain ?_ | refine CallR_plain ?_ | refine wCond ?_); simp [g1, g8, g9, g10, g5, b5, hlt, hw, he, o]) | (refine wIn ?_; refine And.intro (by kernel_rfl) ?_; try simp only [thenA_n]) | (first | refine wBlock ?_ | refine wScope ?_) | ((first | refine wRet ?_ | refine wExit ?_ | refine wSkip ?_); try simp) | ((first | refine wLabel ?_ | refine wOn ?_ | refine wQn ?_); try simp only [thenA_n])
      refine hL _ (N - 1) (by omega) ⟨k + 1, by omega, ?_⟩
      simp [g1, g8, g9, g10, g5, b5, hw, hx]
  · rw [List.take_of_length_le (by omega)] at b5
    repeat' first | (refine hK _ ?_; clear hK) | (refine hK _ _ ?_; clear hK) | (clear hK; refine hK _ ?_; clear hK) | (clear hK; clear hK; refine hK _ ?_; clear hK) | (clear hK; clear hK; clear hK; refine hK _ ?_; clear hK) | (clear hK; clear hK; clear hK; clear hK; refine hK _ ?_; clear hK) | (refine wSeq fun K hK => ?_) | ((first | refine wReg ?_ | refine wDrwQ rfl (by kernel_rfl) ?_ | refine wDrwI ?_ | refine wDrw (by kernel_rfl) ?_); simp only [List.map_cons, List.map_nil, strip]) | ((first | refine wIs fun K hK => ?_ | refine wOs fun K hK => ?_ | refine wQs fun K hK => ?_ | refine CallK_plain ?_ | refine CallQ_plain ?_ | refine CallR_plain ?_ | refine wCond ?_); simp [g1, g8, g9, g10, g5, b5, hlt]) | (refine wIn ?_; refine And.intro (by kernel_rfl) ?_; try simp only [thenA_n]) | (first | refine wBlock ?_ | refine wScope ?_) | ((first | refine wRet ?_ | refine wExit ?_ | refine wSkip ?_); try simp) | ((first | refine wLabel ?_ | refine wOn ?_ | refine wQn ?_); try simp only [thenA_n])
    all_goals apply hr
    all_goals simp [Try.f77, g5, b5]
theorem copied08_con (e n k : Int) (ms : List (List PV)) (hl : ms.length ≤ 4398046510976) : ACon Try.prog 41 [.p (.agg [I e, I n, I k, .sl 4 ms])] (.p (.agg [I e, I n, I k, .sl 4 ms])) := by
  refine wBody Try.tab Try.mixed Try.func41 rfl rfl Try.ntmps41 (by simp) (by simp) fun Q hr hn => ?_
  repeat' first | (refine And.intro (by (try simp); omega) ?_) | (refine Or.inl ?_) | (refine hK _ ?_; clear hK) | (refine hK _ _ ?_; clear hK) | (clear hK; refine hK _ ?_; clear hK) | (clear hK; clear hK; refine hK _ ?_; clear hK) | (clear hK; clear hK; clear hK; refine hK _ ?_; clear hK) | (clear hK; clear hK; clear hK; clear hK; refine hK _ ?_; clear hK) | (refine wSeq fun K hK => ?_) | ((first | refine wReg ?_ | refine wDrwQ rfl (by kernel_rfl) ?_ | refine wDrwI ?_ | refine wDrw (by kernel_rfl) ?_); simp only [List.map_cons, List.map_nil, strip]) | ((first | refine wIs fun K hK => ?_ | refine wOs fun K hK => ?_ | refine wQs fun K hK => ?_ | refine CallK_plain ?_ | refine CallQ_plain ?_ | refine CallR_plain ?_ | refine wCond ?_); simp) | (refine wIn ?_; refine And.intro (by kernel_rfl) ?_; try simp only [thenA_n]) | (first | refine wBlock ?_ | refine wScope ?_) | ((first | refine wRet ?_ | refine wExit ?_ | refine wSkip ?_); try simp) | ((first | refine wLabel ?_ | refine wOn ?_ | refine wQn ?_); try simp only [thenA_n])
  all_goals apply hr
  all_goals simp [Try.f41]
/- States: the document's list with a number. -/
def wst1 (n : Int) (q : List Int × Bool) (x : Int) : List Int × Bool :=
  if n ≤ x ∧ q.2 = false then (if x = n then q.1 ++ [n] else q.1 ++ [n] ++ [x], true) else (if x = n then q.1 else q.1 ++ [x], q.2)
def wst (l : List Int) (n : Int) : List Int × Bool := l.foldl (wst1 n) ([], false)
theorem wst_snoc {l : List Int} {k : Nat} (h : k < l.length) (n : Int) : wst (l.take (k + 1)) n = wst1 n (wst (l.take k) n) l[k] := by
  rw [List.take_succ_eq_append_getElem h, wst, List.foldl_append]; rfl
theorem wst_len (n : Int) : ∀ (l : List Int) (q : List Int × Bool), (l.foldl (wst1 n) q).1.length ≤ q.1.length + 2 * l.length
  | [], q => by simp
  | x :: l, q => by
    have := wst_len n l (wst1 n q x)
    have h1 : (wst1 n q x).1.length ≤ q.1.length + 2 := by unfold wst1; split <;> split <;> simp
    simp only [List.foldl_cons, List.length_cons]
    omega
def wth (l : List Int) (n : Int) : List Int := if (wst l n).2 = true then (wst l n).1 else (wst l n).1 ++ [n]
theorem wst_take_len (l : List Int) (n : Int) (k : Nat) : (wst (l.take k) n).1.length ≤ 2 * k := by
  have := wst_len n (l.take k) ([], false)
  have h2 : (l.take k).length ≤ k := by simp; omega
  unfold wst
  simp at this ⊢; omega
theorem with08_con (l : List Int) (n : Int) (hl : l.length ≤ 1000000) : ACon Try.prog 76 [.p (.sl 1 (zis l)), .p (I n)] (.p (.sl 1 (zis (wth l n)))) := by
  refine wBody Try.tab Try.mixed Try.func76 rfl rfl Try.ntmps76 (by simp) (by simp) fun Q hr hn => ?_
  repeat' first | (refine hK _ ?_; clear hK) | (refine hK _ _ ?_; clear hK) | (clear hK; refine hK _ ?_; clear hK) | (clear hK; clear hK; refine hK _ ?_; clear hK) | (clear hK; clear hK; clear hK; refine hK _ ?_; clear hK) | (clear hK; clear hK; clear hK; clear hK; refine hK _ ?_; clear hK) | (refine wSeq fun K hK => ?_) | ((first | refine wReg ?_ | refine wDrwQ rfl (by kernel_rfl) ?_ | refine wDrwI ?_ | refine wDrw (by kernel_rfl) ?_); simp only [List.map_cons, List.map_nil, strip]) | ((first | refine wIs fun K hK => ?_ | refine wOs fun K hK => ?_ | refine wQs fun K hK => ?_ | refine CallK_plain ?_ | refine CallQ_plain ?_ | refine CallR_plain ?_ | refine wCond ?_); simp) | (refine wIn ?_; refine And.intro (by kernel_rfl) ?_; try simp only [thenA_n]) | (first | refine wBlock ?_ | refine wScope ?_) | ((first | refine wRet ?_ | refine wExit ?_ | refine wSkip ?_); try simp) | ((first | refine wLabel ?_ | refine wOn ?_ | refine wQn ?_); try simp only [thenA_n])
  refine wLoopG [.row 5 3 1] (fun N st => ∃ k, k + N = l.length ∧ st.s 1 = .p (I n) ∧ st.s 9 = .p (.sl 1 (zis l)) ∧ st.s 10 = .p (I l.length) ∧ st.s 11 = .p (I k) ∧ st.s 5 = .row 5 ∧ st.s 6 = .p (B (wst (l.take k) n).2) ∧ st.b 5 = some (.row 3 1 (zis (wst (l.take k) n).1))) l.length ⟨0, by simp [wst, zis]⟩ fun K N st hL ⟨k, hk, g1, g9, g10, g11, g5, g6, b5⟩ => ?_
  have hkl := wst_take_len l n k
  by_cases hlt : k < l.length
  · have hw := wrapX k _ hlt (by omega)
    have he := zis_get hlt
    have hs := wst_snoc hlt n
    generalize wst (l.take k) n = q at hs g6 b5 hkl
    obtain ⟨o, d⟩ := q
    dsimp only at g6 b5 hkl
    generalize hx : l[k] = x at hs he
    by_cases h1 : n ≤ x
    · cases d
      · by_cases h2 : x = n
        · have hs' : wst (l.take (k + 1)) n = (o ++ [n], true) := by rw [hs]; simp [wst1, h1, h2]
          repeat' first | (refine And.intro (by (try simp at hkl ⊢); omega) ?_) | (refine hK _ ?_; clear hK) | (refine hK _ _ ?_; clear hK) | (clear hK; refine hK _ ?_; clear hK) | (clear hK; clear hK; refine hK _ ?_; clear hK) | (clear hK; clear hK; clear hK; refine hK _ ?_; clear hK) | (clear hK; clear hK; clear hK; clear hK; refine hK _ ?_; clear hK) | (refine wSeq fun K hK => ?_) | ((first | refine wReg ?_ | refine wDrwQ rfl (by kernel_rfl) ?_ | refine wDrwI ?_ | refine wDrw (by kernel_rfl) ?_); simp only [List.map_cons, List.map_nil, strip]) | ((first | refine wIs fun K hK => ?_ | refine wOs fun K hK => ?_ | refine wQs fun K hK => ?_ | refine CallK_plain ?_ | refine CallQ_plain ?_ | refine CallR_plain ?_ | refine wCond ?_); simp [g1, g9, g10, g11, g5, g6, b5, hlt, hw, he, hx, h1, h2, zis_snoc]) | (refine wIn ?_; refine And.intro (by kernel_rfl) ?_; try simp only [thenA_n]) | (first | refine wBlock ?_ | refine wScope ?_) | ((first | refine wRet ?_ | refine wExit ?_ | refine wSkip ?_); try simp) | ((first | refine wLabel ?_ | refine wOn ?_ | refine wQn ?_); try simp only [thenA_n])
          refine hL _ (N - 1) (by omega) ⟨k + 1, by omega, ?_⟩
          simp [g1, g9, g10, g11, g5, g6, b5, hw, hs', zis_snoc]
        · have hs' : wst (l.take (k + 1)) n = (o ++ [n] ++ [x], true) := by rw [hs]; simp [wst1, h1, h2]
          repeat' first | (refine And.intro (by (try simp at hkl ⊢); omega) ?_) | (refine hK _ ?_; clear hK) | (refine hK _ _ ?_; clear hK) | (clear hK; refine hK _ ?_; clear hK) | (clear hK; clear hK; refine hK _ ?_; clear hK) | (clear hK; clear hK; clear hK; refine hK _ ?_; clear hK) | (clear hK; clear hK; clear hK; clear hK; refine hK _ ?_; clear hK) | (refine wSeq fun K hK => ?_) | ((first | refine wReg ?_ | refine wDrwQ rfl (by kernel_rfl) ?_ | refine wDrwI ?_ | refine wDrw (by kernel_rfl) ?_); simp only [List.map_cons, List.map_nil, strip]) | ((first | refine wIs fun K hK => ?_ | refine wOs fun K hK => ?_ | refine wQs fun K hK => ?_ | refine CallK_plain ?_ | refine CallQ_plain ?_ | refine CallR_plain ?_ | refine wCond ?_); simp [g1, g9, g10, g11, g5, g6, b5, hlt, hw, he, hx, h1, h2, zis_snoc]) | (refine wIn ?_; refine And.intro (by kernel_rfl) ?_; try simp only [thenA_n]) | (first | refine wBlock ?_ | refine wScope ?_) | ((first | refine wRet ?_ | refine wExit ?_ | refine wSkip ?_); try simp) | ((first | refine wLabel ?_ | refine wOn ?_ | refine wQn ?_); try simp only [thenA_n])
          refine hL _ (N - 1) (by omega) ⟨k + 1, by omega, ?_⟩
          simp [g1, g9, g10, g11, g5, g6, b5, hw, hs', zis_snoc]
      · by_cases h2 : x = n
        · have hs' : wst (l.take (k + 1)) n = (o, true) := by rw [hs]; simp [wst1, h1, h2]
          repeat' first | (refine hK _ ?_; clear hK) | (refine hK _ _ ?_; clear hK) | (clear hK; refine hK _ ?_; clear hK) | (clear hK; clear hK; refine hK _ ?_; clear hK) | (clear hK; clear hK; clear hK; refine hK _ ?_; clear hK) | (clear hK; clear hK; clear hK; clear hK; refine hK _ ?_; clear hK) | (refine wSeq fun K hK => ?_) | ((first | refine wReg ?_ | refine wDrwQ rfl (by kernel_rfl) ?_ | refine wDrwI ?_ | refine wDrw (by kernel_rfl) ?_); simp only [List.map_cons, List.map_nil, strip]) | ((first | refine wIs fun K hK => ?_ | refine wOs fun K hK => ?_ | refine wQs fun K hK => ?_ | refine CallK_plain ?_ | refine CallQ_plain ?_ | refine CallR_plain ?_ | refine wCond ?_); simp [g1, g9, g10, g11, g5, g6, b5, hlt, hw, he, hx, h1, h2]) | (refine wIn ?_; refine And.intro (by kernel_rfl) ?_; try simp only [thenA_n]) | (first | refine wBlock ?_ | refine wScope ?_) | ((first | refine wRet ?_ | refine wExit ?_ | refine wSkip ?_); try simp) | ((first | refine wLabel ?_ | refine wOn ?_ | refine wQn ?_); try simp only [thenA_n])
          refine hL _ (N - 1) (by omega) ⟨k + 1, by omega, ?_⟩
          simp [g1, g9, g10, g11, g5, g6, b5, hw, hs']
        · have hs' : wst (l.take (k + 1)) n = (o ++ [x], true) := by rw [hs]; simp [wst1, h1, h2]
          repeat' first | (refine And.intro (by (try simp at hkl ⊢); omega) ?_) | (refine hK _ ?_; clear hK) | (refine hK _ _ ?_; clear hK) | (clear hK; refine hK _ ?_; clear hK) | (clear hK; clear hK; refine hK _ ?_; clear hK) | (clear hK; clear hK; clear hK; refine hK _ ?_; clear hK) | (clear hK; clear hK; clear hK; clear hK; refine hK _ ?_; clear hK) | (refine wSeq fun K hK => ?_) | ((first | refine wReg ?_ | refine wDrwQ rfl (by kernel_rfl) ?_ | refine wDrwI ?_ | refine wDrw (by kernel_rfl) ?_); simp only [List.map_cons, List.map_nil, strip]) | ((first | refine wIs fun K hK => ?_ | refine wOs fun K hK => ?_ | refine wQs fun K hK => ?_ | refine CallK_plain ?_ | refine CallQ_plain ?_ | refine CallR_plain ?_ | refine wCond ?_); simp [g1, g9, g10, g11, g5, g6, b5, hlt, hw, he, hx, h1, h2, zis_snoc]) | (refine wIn ?_; refine And.intro (by kernel_rfl) ?_; try simp only [thenA_n]) | (first | refine wBlock ?_ | refine wScope ?_) | ((first | refine wRet ?_ | refine wExit ?_ | refine wSkip ?_); try simp) | ((first | refine wLabel ?_ | refine wOn ?_ | refine wQn ?_); try simp only [thenA_n])
          refine hL _ (N - 1) (by omega) ⟨k + 1, by omega, ?_⟩
          simp [g1, g9, g10, g11, g5, g6, b5, hw, hs', zis_snoc]
    · have h2 : ¬ x = n := by omega
      have hs' : wst (l.take (k + 1)) n = (o ++ [x], d) := by rw [hs]; simp [wst1, h1, h2]
      repeat' first | (refine And.intro (by (try simp at hkl ⊢); omega) ?_) | (refine hK _ ?_; clear hK) | (refine hK _ _ ?_; clear hK) | (clear hK; refine hK _ ?_; clear hK) | (clear hK; clear hK; refine hK _ ?_; clear hK) | (clear hK; clear hK; clear hK; refine hK _ ?_; clear hK) | (clear hK; clear hK; clear hK; clear hK; refine hK _ ?_; clear hK) | (refine wSeq fun K hK => ?_) | ((first | refine wReg ?_ | refine wDrwQ rfl (by kernel_rfl) ?_ | refine wDrwI ?_ | refine wDrw (by kernel_rfl) ?_); simp only [List.map_cons, List.map_nil, strip]) | ((first | refine wIs fun K hK => ?_ | refine wOs fun K hK => ?_ | refine wQs fun K hK => ?_ | refine CallK_plain ?_ | refine CallQ_plain ?_ | refine CallR_plain ?_ | refine wCond ?_); simp [g1, g9, g10, g11, g5, g6, b5, hlt, hw, he, hx, h1, h2, zis_snoc]) | (refine wIn ?_; refine And.intro (by kernel_rfl) ?_; try simp only [thenA_n]) | (first | refine wBlock ?_ | refine wScope ?_) | ((first | refine wRet ?_ | refine wExit ?_ | refine wSkip ?_); try simp) | ((first | refine wLabel ?_ | refine wOn ?_ | refine wQn ?_); try simp only [thenA_n])
      refine hL _ (N - 1) (by omega) ⟨k + 1, by omega, ?_⟩
      simp [g1, g9, g10, g11, g5, g6, b5, hw, hs', zis_snoc]
  · rw [List.take_of_length_le (by omega)] at b5 g6 hkl
    unfold wth at hr
    generalize wst l n = q at g6 b5 hkl hr
    obtain ⟨o, d⟩ := q
    dsimp only at g6 b5 hkl hr
    cases d
    · simp only [Bool.false_eq_true, if_false] at hr
      repeat' first | (refine And.intro (by (try simp at hkl ⊢); omega) ?_) | (refine hK _ ?_; clear hK) | (refine hK _ _ ?_; clear hK) | (clear hK; refine hK _ ?_; clear hK) | (clear hK; clear hK; refine hK _ ?_; clear hK) | (clear hK; clear hK; clear hK; refine hK _ ?_; clear hK) | (clear hK; clear hK; clear hK; clear hK; refine hK _ ?_; clear hK) | (refine wSeq fun K hK => ?_) | ((first | refine wReg ?_ | refine wDrwQ rfl (by kernel_rfl) ?_ | refine wDrwI ?_ | refine wDrw (by kernel_rfl) ?_); simp only [List.map_cons, List.map_nil, strip]) | ((first | refine wIs fun K hK => ?_ | refine wOs fun K hK => ?_ | refine wQs fun K hK => ?_ | refine CallK_plain ?_ | refine CallQ_plain ?_ | refine CallR_plain ?_ | refine wCond ?_); simp [g1, g9, g10, g11, g5, g6, b5, hlt, zis_snoc]) | (refine wIn ?_; refine And.intro (by kernel_rfl) ?_; try simp only [thenA_n]) | (first | refine wBlock ?_ | refine wScope ?_) | ((first | refine wRet ?_ | refine wExit ?_ | refine wSkip ?_); try simp) | ((first | refine wLabel ?_ | refine wOn ?_ | refine wQn ?_); try simp only [thenA_n])
      all_goals apply hr
      all_goals simp [Try.f76, g5, b5, zis_snoc]
    · simp only [if_true] at hr
      repeat' first | (refine hK _ ?_; clear hK) | (refine hK _ _ ?_; clear hK) | (clear hK; refine hK _ ?_; clear hK) | (clear hK; clear hK; refine hK _ ?_; clear hK) | (clear hK; clear hK; clear hK; refine hK _ ?_; clear hK) | (clear hK; clear hK; clear hK; clear hK; refine hK _ ?_; clear hK) | (refine wSeq fun K hK => ?_) | ((first | refine wReg ?_ | refine wDrwQ rfl (by kernel_rfl) ?_ | refine wDrwI ?_ | refine wDrw (by kernel_rfl) ?_); simp only [List.map_cons, List.map_nil, strip]) | ((first | refine wIs fun K hK => ?_ | refine wOs fun K hK => ?_ | refine wQs fun K hK => ?_ | refine CallK_plain ?_ | refine CallQ_plain ?_ | refine CallR_plain ?_ | refine wCond ?_); simp [g1, g9, g10, g11, g5, g6, b5, hlt]) | (refine wIn ?_; refine And.intro (by kernel_rfl) ?_; try simp only [thenA_n]) | (first | refine wBlock ?_ | refine wScope ?_) | ((first | refine wRet ?_ | refine wExit ?_ | refine wSkip ?_); try simp) | ((first | refine wLabel ?_ | refine wOn ?_ | refine wQn ?_); try simp only [thenA_n])
      all_goals apply hr
      all_goals simp [Try.f76, g5, b5]
theorem wst_true (n : Int) : ∀ (l o : List Int), l.foldl (wst1 n) (o, true) = (o ++ but l n, true)
  | [], o => by simp [but]
  | x :: l, o => by
    rw [List.foldl_cons]
    by_cases h : x = n
    · rw [show wst1 n (o, true) x = (o, true) by simp [wst1, h], wst_true n l o]
      simp [but, h]
    · rw [show wst1 n (o, true) x = (o ++ [x], true) by simp [wst1, h], wst_true n l (o ++ [x])]
      simp [but, h]
theorem wst_ins (n : Int) : ∀ (l o : List Int), (if (l.foldl (wst1 n) (o, false)).2 = true then (l.foldl (wst1 n) (o, false)).1 else (l.foldl (wst1 n) (o, false)).1 ++ [n]) = o ++ insI l n
  | [], o => by simp [insI, but, atI]
  | x :: l, o => by
    rw [List.foldl_cons]
    by_cases h1 : n ≤ x
    · have ha : atI (x :: l) n = 0 := by rw [atI, if_neg (by omega)]
      by_cases h : x = n
      · rw [show wst1 n (o, false) x = (o ++ [n], true) by simp [wst1, h1, h], wst_true]
        simp only [if_true, insI, ha]
        simp [but, h]
      · rw [show wst1 n (o, false) x = (o ++ [n] ++ [x], true) by simp [wst1, h1, h], wst_true]
        simp only [if_true, insI, ha]
        simp [but, h]
    · have h : ¬ x = n := by omega
      rw [show wst1 n (o, false) x = (o ++ [x], false) by simp [wst1, h1, h], wst_ins n l (o ++ [x])]
      have ha : atI (x :: l) n = atI l n + 1 := by rw [atI, if_pos (by omega)]
      simp only [insI, ha]
      simp [but, h]
theorem wth_ins (l : List Int) (n : Int) : wth l n = insI l n := by
  unfold wth wst
  rw [wst_ins n l []]; rfl
end Go.Proofs.Yteicecbjahhjmaa
/- Nodes of the tree: what Put and Gone come to. -/
namespace Go.Proofs.Yteicecbjahhjmaa
set_option linter.unusedSimpArgs false
set_option linter.unusedVariables false
open Go Go.Av
theorem rst_sub (l : List Zn) (q : List UInt8) : (rst l q).Sublist l := by
  cases l with
  | nil => exact .slnil
  | cons x r =>
    rw [rst]; split
    · exact List.sublist_cons_self x r
    · exact List.Sublist.refl _
end Go.Proofs.Yteicecbjahhjmaa
/- Nodes of the tree: the law ZnodeStays. -/
namespace Go.Proofs.Yteicecbjahhjmaa
set_option linter.unusedSimpArgs false
set_option linter.unusedVariables false
open Go Go.Av
attribute [local simp] Try.T1 Try.T2 Try.T3 Try.T4 Try.T5 Try.T9 Try.T12 Try.T15 Try.T16 Try.T17 Try.T21 Try.T22 Try.T23 Try.T25 Try.T26 Try.T28 Try.T30 Try.T31 Try.T33 Try.T35 Try.T36 Try.T37 Try.T38 Try.T39 Try.T41 Try.T42 Try.T44 Try.T45 Try.T47 Try.T48 Try.T50 Try.T51 Try.T52 Try.T54 Try.T55 Try.T56 Try.T58 Try.T59 Try.T61 Try.T63 Try.T65 Try.T67 Try.T68 Try.T69 Try.T70 Try.T72 Try.T73 Try.T74 Try.T75 Try.T76 Try.T77 Try.T78 Try.T79 Try.T80 Try.T81 Try.T83 Try.T84 Try.T85 Try.T87 Try.T88 Try.T89 Try.T90 Try.T91 Try.T92 Try.T93 Try.T94 Try.T95 Try.T96 Try.T97 Try.T98 Try.T99 Try.T101 Try.T103 Try.T104 Try.T105 Try.T106 Try.T107 Try.T108 Try.T109 Try.T110 Try.T111 Try.T113 Try.T114 Try.T115 Try.T116 Try.T117 Try.T118 Try.T119 Try.T120 Try.T121 Try.T122 Try.T123 Try.T124 Try.T125 Try.T126 Try.T127 Try.T128 Try.T129 Try.T130 Try.T131 Try.T132 Try.T133 Try.T134 Try.T135 Try.T137 Try.T138 Try.T139 Try.T140 Try.T141 Try.T142 Try.T143 Try.T144 Try.T145 Try.T146 Try.T147 Try.T148 Try.T149 Try.T150 Try.T153 Try.T156 Try.T157 Try.T160 Try.T161 Try.T167
attribute [local irreducible] Go.Av.CallK Go.Av.CallE Go.Av.CallQ Go.Av.CallF Go.Av.CallR Go.Av.CallH Go.Av.Con
theorem rst_len (l : List Zn) (q : List UInt8) : (rst l q).length ≤ l.length := (rst_sub l q).length_le
theorem putZ_len (l : List Zn) (z : Zn) : (putZ l z).length ≤ l.length + 1 := by
  have := rst_len (l.drop (att l z.p)) z.p
  have h2 := att_le l z.p
  unfold putZ
  simp at this ⊢
  omega
theorem goneZ_len (l : List Zn) (p : List UInt8) : (gone l p).length ≤ l.length := List.length_filter_le _ _
/- States: what a transaction does. -/
theorem ints_zis (l : List Int) : ints l = zis l := rfl
def stepP (s : Sv) (p : Pt) : Sv :=
  if p.k = 1 then { s with ns := putZ s.ns p.z } else if p.k = 2 then { s with ns := gone s.ns p.z.p }
  else if p.k = 3 then { s with ss := opnL s.ss p.s, nx := opnN s.nx p.s } else if p.k = 4 then { s with ss := but s.ss p.s }
  else if p.k = 5 then { s with c := p.c } else s
def runP (s : Sv) (l : List Pt) : Sv := l.foldl stepP s
theorem runP_snoc (s : Sv) {l : List Pt} {k : Nat} (h : k < l.length) : runP s (l.take (k + 1)) = stepP (runP s (l.take k)) l[k] := by
  rw [List.take_succ_eq_append_getElem h, runP, List.foldl_append]; rfl
def lateS (s : Sv) (e n : Int) : Sv := { s with ae := (lastZ [⟨s.ae, s.an⟩, ⟨e, n⟩]).e, an := (lastZ [⟨s.ae, s.an⟩, ⟨e, n⟩]).n }
def doS (s : Sv) (t : Tx) : Sv := lateS (runP s t.ps) t.e t.n
theorem insI_len (l : List Int) (s : Int) : (insI l s).length ≤ l.length + 1 := by
  have h := but_len l s
  unfold insI
  simp
  omega
theorem opnL_len (l : List Int) (s : Int) : (opnL l s).length ≤ l.length + 1 := by
  unfold opnL
  split
  · exact insI_len l s
  · omega
theorem stepP_len (s : Sv) (p : Pt) : (stepP s p).ns.length ≤ s.ns.length + 1 ∧ (stepP s p).ss.length ≤ s.ss.length + 1 := by
  have h1 := putZ_len s.ns p.z
  have h2 := goneZ_len s.ns p.z.p
  have h3 := opnL_len s.ss p.s
  have h4 := but_len s.ss p.s
  unfold stepP
  split
  · exact ⟨h1, by simp⟩
  split
  · exact ⟨by show (gone s.ns p.z.p).length ≤ _; omega, by simp⟩
  split
  · exact ⟨by simp, h3⟩
  split
  · exact ⟨by simp, by show (but s.ss p.s).length ≤ _; omega⟩
  split <;> exact ⟨by simp, by simp⟩
theorem runP_len : ∀ (l : List Pt) (s : Sv), (runP s l).ns.length ≤ s.ns.length + l.length ∧ (runP s l).ss.length ≤ s.ss.length + l.length
  | [], s => ⟨by simp [runP], by simp [runP]⟩
  | p :: l, s => by
    have h := stepP_len s p
    have ih := runP_len l (stepP s p)
    have e : runP s (p :: l) = runP (stepP s p) l := rfl
    rw [e]
    simp only [List.length_cons]
    omega
theorem runP_take (s : Sv) (l : List Pt) (k : Nat) : (runP s (l.take k)).ns.length ≤ s.ns.length + l.length ∧ (runP s (l.take k)).ss.length ≤ s.ss.length + l.length := by
  have h := runP_len (l.take k) s
  have : (l.take k).length ≤ l.length := by simp; omega
  omega
def okC (c : Cf) : Prop := c.ms.length ≤ 4398046510976
theorem stepP_c (s : Sv) (p : Pt) (hs : okC s.c) (hp : okC p.c) : okC (stepP s p).c := by
  unfold stepP
  split
  · exact hs
  split
  · exact hs
  split
  · exact hs
  split
  · exact hs
  split
  · exact hp
  · exact hs
theorem runP_c : ∀ (l : List Pt) (s : Sv), okC s.c → (∀ p ∈ l, okC p.c) → okC (runP s l).c
  | [], s, hs, _ => hs
  | p :: l, s, hs, hp => runP_c l (stepP s p) (stepP_c s p hs (hp p (by simp))) fun q hq => hp q (by simp [hq])
/- States: transactions, one by one and at once. -/
def startS (c : Cf) : Sv := ⟨[⟨[47], [], 0, 0, 0⟩], [], 1, c, 0, 0⟩
/-- What a call to do must be handed. -/
structure Fits (s : Sv) (n : Nat) : Prop where
  ns : s.ns.length + n ≤ 1000000
  ss : s.ss.length + n ≤ 1000000
  c : okC s.c
def okT (t : Tx) : Prop := ∀ p ∈ t.ps, okC p.c
theorem doS_fits {s : Sv} {t : Tx} {n : Nat} (h : Fits s (t.ps.length + n)) (ht : okT t) : Fits (doS s t) n := by
  have h1 := runP_len t.ps s
  have h2 := runP_c t.ps s h.c ht
  refine ⟨?_, ?_, h2⟩
  · have := h.ns
    show (runP s t.ps).ns.length + n ≤ _
    omega
  · have := h.ss
    show (runP s t.ps).ss.length + n ≤ _
    omega
def allS (s : Sv) (l : List Tx) : Sv := l.foldl doS s
theorem allS_snoc (s : Sv) {l : List Tx} {k : Nat} (h : k < l.length) : allS s (l.take (k + 1)) = doS (allS s (l.take k)) l[k] := by
  rw [List.take_succ_eq_append_getElem h, allS, List.foldl_append]; rfl
def psum (l : List Tx) : Nat := (l.map fun t => t.ps.length).sum
theorem psum_cons (t : Tx) (l : List Tx) : psum (t :: l) = t.ps.length + psum l := by simp [psum]
theorem psum_drop {l : List Tx} {k : Nat} (h : k < l.length) : psum (l.drop k) = l[k].ps.length + psum (l.drop (k + 1)) := by
  rw [List.drop_eq_getElem_cons h, psum_cons]
theorem allS_fits : ∀ (l : List Tx) {s : Sv} {n : Nat}, Fits s (psum l + n) → (∀ t ∈ l, okT t) → Fits (allS s l) n
  | [], s, n, h, _ => by simpa [psum, allS] using h
  | t :: l, s, n, h, ht => by
    have h' : Fits s (t.ps.length + (psum l + n)) := by
      rw [psum_cons, Nat.add_assoc] at h; exact h
    exact allS_fits l (doS_fits h' (ht t (by simp))) fun t' h' => ht t' (by simp [h'])
theorem Fits.le {s : Sv} {n m : Nat} (h : Fits s n) (hm : m ≤ n) : Fits s m := ⟨by have := h.ns; omega, by have := h.ss; omega, h.c⟩
/- States: what the document does. -/
theorem start08_con (c : Cf) (hc : okC c) : ACon Try.prog 23 [.p (.agg c.cells)] (.p (.agg (startS c).cells)) := by
  have c1 := root07_con
  have c2 := copied08_con c.ep c.n c.kind (mbs c.ms) (by rw [mbs_len]; exact hc)
  unfold startS Sv.cells Cf.cells
  dsimp only
  generalize zns [⟨[47], [], 0, 0, 0⟩] = r at c1 ⊢
  rw [show ints [] = [] from rfl]
  refine wBody Try.tab Try.mixed Try.func23 rfl rfl Try.ntmps23 (by simp) (by simp) fun Q hr hn => ?_
  repeat' first | (refine hK _ ?_; clear hK) | (refine hK _ _ ?_; clear hK) | (clear hK; refine hK _ ?_; clear hK) | (clear hK; clear hK; refine hK _ ?_; clear hK) | (clear hK; clear hK; clear hK; refine hK _ ?_; clear hK) | (clear hK; clear hK; clear hK; clear hK; refine hK _ ?_; clear hK) | (refine wSeq fun K hK => ?_) | ((first | refine wReg ?_ | refine wDrwQ rfl (by kernel_rfl) ?_ | refine wDrwI ?_ | refine wDrw (by kernel_rfl) ?_); simp only [List.map_cons, List.map_nil, strip]) | ((first | refine wIs fun K hK => ?_ | refine wOs fun K hK => ?_ | refine wQs fun K hK => ?_ | refine CallK_plain ?_ | refine CallQ_plain ?_ | refine CallR_plain ?_ | refine wCond ?_); simp) | (refine wIn ?_; refine And.intro (by kernel_rfl) ?_; try simp only [thenA_n]) | (first | refine wBlock ?_ | refine wScope ?_) | ((first | refine wRet ?_ | refine wExit ?_ | refine wSkip ?_); try simp) | ((first | refine wLabel ?_ | refine wOn ?_ | refine wQn ?_); try simp only [thenA_n]) | (refine CallE.pure (c1) rfl ?_) | (refine CallE.lent (c1) rfl ?_) | (refine CallF.pure (c1) rfl ?_) | (refine CallF.lent (c1) rfl ?_) | (refine CallE.own (c1) ?_) | (refine CallH.pure (c1) rfl ?_) | (refine CallH.lent (c1) rfl ?_) | (refine CallH.own (c1) ?_) | (refine CallE.pure (c2) rfl ?_) | (refine CallE.lent (c2) rfl ?_) | (refine CallF.pure (c2) rfl ?_) | (refine CallF.lent (c2) rfl ?_) | (refine CallE.own (c2) ?_) | (refine CallH.pure (c2) rfl ?_) | (refine CallH.lent (c2) rfl ?_) | (refine CallH.own (c2) ?_)
  all_goals apply hr
  all_goals simp [Try.f23]
theorem last2 (a b : Zx) : lastZ [a, b] = if 0 < zcmp b.e b.n a.e a.n then b else a := rfl
set_option maxHeartbeats 8000000 in
theorem apply08_con (s : Sv) (t : Tx) (h : Fits s t.ps.length) (ht : okT t) : ACon Try.prog 55 [.p (.agg s.cells), .p (.agg t.cells)] (.p (.agg (doS s t).cells)) := by
  have h1 := h.ns
  have h2 := h.ss
  have c1 := copied08_con s.c.ep s.c.n s.c.kind (mbs s.c.ms) (by rw [mbs_len]; exact h.c)
  unfold Sv.cells Tx.cells
  simp only [ints_zis]
  refine wBody Try.tab Try.mixed Try.func55 rfl rfl Try.ntmps55 (by simp) (by simp) fun Q hr hn => ?_
  repeat' first | (refine And.intro (by (try simp); omega) ?_) | (refine Or.inr ?_) | (refine hK _ ?_; clear hK) | (refine hK _ _ ?_; clear hK) | (clear hK; refine hK _ ?_; clear hK) | (clear hK; clear hK; refine hK _ ?_; clear hK) | (clear hK; clear hK; clear hK; refine hK _ ?_; clear hK) | (clear hK; clear hK; clear hK; clear hK; refine hK _ ?_; clear hK) | (refine wSeq fun K hK => ?_) | ((first | refine wReg ?_ | refine wDrwQ rfl (by kernel_rfl) ?_ | refine wDrwI ?_ | refine wDrw (by kernel_rfl) ?_); simp only [List.map_cons, List.map_nil, strip]) | ((first | refine wIs fun K hK => ?_ | refine wOs fun K hK => ?_ | refine wQs fun K hK => ?_ | refine CallK_plain ?_ | refine CallQ_plain ?_ | refine CallR_plain ?_ | refine wCond ?_); simp) | (refine wIn ?_; refine And.intro (by kernel_rfl) ?_; try simp only [thenA_n]) | (first | refine wBlock ?_ | refine wScope ?_) | ((first | refine wRet ?_ | refine wExit ?_ | refine wSkip ?_); try simp) | ((first | refine wLabel ?_ | refine wOn ?_ | refine wQn ?_); try simp only [thenA_n]) | (refine CallE.pure (c1) rfl ?_) | (refine CallE.lent (c1) rfl ?_) | (refine CallF.pure (c1) rfl ?_) | (refine CallF.lent (c1) rfl ?_) | (refine CallE.own (c1) ?_) | (refine CallH.pure (c1) rfl ?_) | (refine CallH.lent (c1) rfl ?_) | (refine CallH.own (c1) ?_)
  refine wLoop (fun N st => ∃ k, k + N = t.ps.length ∧ st.s 4 = .ptr 4 0 ∧ st.s 3 = .ptr 3 0 ∧ st.s 5 = .ptr 5 0 ∧ st.s 25 = .p (.sl 11 (pts t.ps)) ∧ st.s 26 = .p (I t.ps.length) ∧ st.s 27 = .p (I k) ∧ st.b 4 = some (.box 30 [.nil 5, .nil 1, .p (I 0), .p (I 0), .p (I 0), .p (I 0), .nil 4, .p (I 0), .p (I 0)]) ∧ st.b 3 = some (.box 58 [.p (I t.e), .p (I t.n), .p (I t.s), .p (I t.x), .p (I t.r), .p (I t.b), .p (SB t.m), .p (.sl 11 (pts t.ps))]) ∧ st.b 5 = some (.box 30 [.p (.sl 5 (zns (runP s (t.ps.take k)).ns)), .p (.sl 1 (zis (runP s (t.ps.take k)).ss)), .p (I (runP s (t.ps.take k)).nx), .p (I (runP s (t.ps.take k)).c.ep), .p (I (runP s (t.ps.take k)).c.n), .p (I (runP s (t.ps.take k)).c.kind), .p (.sl 4 (mbs (runP s (t.ps.take k)).c.ms)), .p (I (runP s (t.ps.take k)).ae), .p (I (runP s (t.ps.take k)).an)])) t.ps.length ⟨0, by simp [runP]⟩ fun K N st hL ⟨k, hk, g4, g3, g5, g25, g26, g27, b4, b3, b5⟩ => ?_
  have hlen := runP_take s t.ps k
  by_cases hlt : k < t.ps.length
  · have hw := wrapX k _ hlt (by omega)
    have he := pts_get hlt
    have hs := runP_snoc s hlt
    have hpc := ht t.ps[k] (List.getElem_mem hlt)
    generalize runP s (t.ps.take k) = q at hs hlen b5
    unfold okC at hpc
    by_cases k1 : t.ps[k].k = 1
    · have c := put07_con q.ns t.ps[k].z (by omega)
      unfold Zn.c at c
      have hs' : stepP q t.ps[k] = { q with ns := putZ q.ns t.ps[k].z } := by unfold stepP; rw [if_pos k1]
      generalize putZ q.ns t.ps[k].z = n1 at c hs'
      repeat' first | (refine hK _ ?_; clear hK) | (refine hK _ _ ?_; clear hK) | (clear hK; refine hK _ ?_; clear hK) | (clear hK; clear hK; refine hK _ ?_; clear hK) | (clear hK; clear hK; clear hK; refine hK _ ?_; clear hK) | (clear hK; clear hK; clear hK; clear hK; refine hK _ ?_; clear hK) | (refine wSeq fun K hK => ?_) | ((first | refine wReg ?_ | refine wDrwQ rfl (by kernel_rfl) ?_ | refine wDrwI ?_ | refine wDrw (by kernel_rfl) ?_); simp only [List.map_cons, List.map_nil, strip]) | ((first | refine wIs fun K hK => ?_ | refine wOs fun K hK => ?_ | refine wQs fun K hK => ?_ | refine CallK_plain ?_ | refine CallQ_plain ?_ | refine CallR_plain ?_ | refine wCond ?_); simp [g4, g3, g5, g25, g26, g27, b4, b3, b5, hlt, hw, he, k1]) | (refine wIn ?_; refine And.intro (by kernel_rfl) ?_; try simp only [thenA_n]) | (first | refine wBlock ?_ | refine wScope ?_) | ((first | refine wRet ?_ | refine wExit ?_ | refine wSkip ?_); try simp) | ((first | refine wLabel ?_ | refine wOn ?_ | refine wQn ?_); try simp only [thenA_n]) | (refine CallE.pure (c) rfl ?_) | (refine CallE.lent (c) rfl ?_) | (refine CallF.pure (c) rfl ?_) | (refine CallF.lent (c) rfl ?_) | (refine CallE.own (c) ?_) | (refine CallH.pure (c) rfl ?_) | (refine CallH.lent (c) rfl ?_) | (refine CallH.own (c) ?_)
      refine hL _ (N - 1) (by omega) ⟨k + 1, by omega, ?_⟩
      simp [g4, g3, g5, g25, g26, g27, b4, b3, b5, hw, hs, hs']
    by_cases k2 : t.ps[k].k = 2
    · have c := gone07_con q.ns t.ps[k].z.p (by omega)
      have hs' : stepP q t.ps[k] = { q with ns := gone q.ns t.ps[k].z.p } := by unfold stepP; rw [if_neg k1, if_pos k2]
      generalize gone q.ns t.ps[k].z.p = n1 at c hs'
      repeat' first | (refine hK _ ?_; clear hK) | (refine hK _ _ ?_; clear hK) | (clear hK; refine hK _ ?_; clear hK) | (clear hK; clear hK; refine hK _ ?_; clear hK) | (clear hK; clear hK; clear hK; refine hK _ ?_; clear hK) | (clear hK; clear hK; clear hK; clear hK; refine hK _ ?_; clear hK) | (refine wSeq fun K hK => ?_) | ((first | refine wReg ?_ | refine wDrwQ rfl (by kernel_rfl) ?_ | refine wDrwI ?_ | refine wDrw (by kernel_rfl) ?_); simp only [List.map_cons, List.map_nil, strip]) | ((first | refine wIs fun K hK => ?_ | refine wOs fun K hK => ?_ | refine wQs fun K hK => ?_ | refine CallK_plain ?_ | refine CallQ_plain ?_ | refine CallR_plain ?_ | refine wCond ?_); simp [g4, g3, g5, g25, g26, g27, b4, b3, b5, hlt, hw, he, k1, k2]) | (refine wIn ?_; refine And.intro (by kernel_rfl) ?_; try simp only [thenA_n]) | (first | refine wBlock ?_ | refine wScope ?_) | ((first | refine wRet ?_ | refine wExit ?_ | refine wSkip ?_); try simp) | ((first | refine wLabel ?_ | refine wOn ?_ | refine wQn ?_); try simp only [thenA_n]) | (refine CallE.pure (c) rfl ?_) | (refine CallE.lent (c) rfl ?_) | (refine CallF.pure (c) rfl ?_) | (refine CallF.lent (c) rfl ?_) | (refine CallE.own (c) ?_) | (refine CallH.pure (c) rfl ?_) | (refine CallH.lent (c) rfl ?_) | (refine CallH.own (c) ?_)
      refine hL _ (N - 1) (by omega) ⟨k + 1, by omega, ?_⟩
      simp [g4, g3, g5, g25, g26, g27, b4, b3, b5, hw, hs, hs']
    by_cases k3 : t.ps[k].k = 3
    · have hs' : stepP q t.ps[k] = { q with ss := opnL q.ss t.ps[k].s, nx := opnN q.nx t.ps[k].s } := by unfold stepP; rw [if_neg k1, if_neg k2, if_pos k3]
      by_cases o1 : 1 ≤ t.ps[k].s
      · by_cases o2 : t.ps[k].s ≤ 1099511627776
        · have ho : okS t.ps[k].s = true := decide_eq_true ⟨o1, o2⟩
          have hw1 : IntKind.i64.wrap (t.ps[k].s + 1) = t.ps[k].s + 1 := by rw [wrap_id] <;> omega
          have c := with08_con q.ss t.ps[k].s (by omega)
          rw [wth_ins] at c
          have e1 : opnL q.ss t.ps[k].s = insI q.ss t.ps[k].s := by unfold opnL; rw [if_pos ho]
          have e2 : opnN q.nx t.ps[k].s = max q.nx (t.ps[k].s + 1) := by unfold opnN; rw [if_pos ho]
          rw [e1, e2] at hs'
          generalize insI q.ss t.ps[k].s = n1 at c hs'
          repeat' first | (refine hK _ ?_; clear hK) | (refine hK _ _ ?_; clear hK) | (clear hK; refine hK _ ?_; clear hK) | (clear hK; clear hK; refine hK _ ?_; clear hK) | (clear hK; clear hK; clear hK; refine hK _ ?_; clear hK) | (clear hK; clear hK; clear hK; clear hK; refine hK _ ?_; clear hK) | (refine wSeq fun K hK => ?_) | ((first | refine wReg ?_ | refine wDrwQ rfl (by kernel_rfl) ?_ | refine wDrwI ?_ | refine wDrw (by kernel_rfl) ?_); simp only [List.map_cons, List.map_nil, strip]) | ((first | refine wIs fun K hK => ?_ | refine wOs fun K hK => ?_ | refine wQs fun K hK => ?_ | refine CallK_plain ?_ | refine CallQ_plain ?_ | refine CallR_plain ?_ | refine wCond ?_); simp [g4, g3, g5, g25, g26, g27, b4, b3, b5, hlt, hw, he, k1, k2, k3, o1, o2, hw1]) | (refine wIn ?_; refine And.intro (by kernel_rfl) ?_; try simp only [thenA_n]) | (first | refine wBlock ?_ | refine wScope ?_) | ((first | refine wRet ?_ | refine wExit ?_ | refine wSkip ?_); try simp) | ((first | refine wLabel ?_ | refine wOn ?_ | refine wQn ?_); try simp only [thenA_n]) | (refine CallE.pure (c) rfl ?_) | (refine CallE.lent (c) rfl ?_) | (refine CallF.pure (c) rfl ?_) | (refine CallF.lent (c) rfl ?_) | (refine CallE.own (c) ?_) | (refine CallH.pure (c) rfl ?_) | (refine CallH.lent (c) rfl ?_) | (refine CallH.own (c) ?_)
          all_goals refine hL _ (N - 1) (by omega) ⟨k + 1, by omega, ?_⟩
          all_goals simp [g4, g3, g5, g25, g26, g27, b4, b3, b5, hw, hs, hs', hw1]
          all_goals omega
        · have ho : ¬ okS t.ps[k].s = true := by unfold okS; simp; omega
          have e1 : opnL q.ss t.ps[k].s = q.ss := by unfold opnL; rw [if_neg ho]
          have e2 : opnN q.nx t.ps[k].s = q.nx := by unfold opnN; rw [if_neg ho]
          rw [e1, e2] at hs'
          repeat' first | (refine hK _ ?_; clear hK) | (refine hK _ _ ?_; clear hK) | (clear hK; refine hK _ ?_; clear hK) | (clear hK; clear hK; refine hK _ ?_; clear hK) | (clear hK; clear hK; clear hK; refine hK _ ?_; clear hK) | (clear hK; clear hK; clear hK; clear hK; refine hK _ ?_; clear hK) | (refine wSeq fun K hK => ?_) | ((first | refine wReg ?_ | refine wDrwQ rfl (by kernel_rfl) ?_ | refine wDrwI ?_ | refine wDrw (by kernel_rfl) ?_); simp only [List.map_cons, List.map_nil, strip]) | ((first | refine wIs fun K hK => ?_ | refine wOs fun K hK => ?_ | refine wQs fun K hK => ?_ | refine CallK_plain ?_ | refine CallQ_plain ?_ | refine CallR_plain ?_ | refine wCond ?_); simp [g4, g3, g5, g25, g26, g27, b4, b3, b5, hlt, hw, he, k1, k2, k3, o1, o2]) | (refine wIn ?_; refine And.intro (by kernel_rfl) ?_; try simp only [thenA_n]) | (first | refine wBlock ?_ | refine wScope ?_) | ((first | refine wRet ?_ | refine wExit ?_ | refine wSkip ?_); try simp) | ((first | refine wLabel ?_ | refine wOn ?_ | refine wQn ?_); try simp only [thenA_n])
          all_goals refine hL _ (N - 1) (by omega) ⟨k + 1, by omega, ?_⟩
          all_goals simp [g4, g3, g5, g25, g26, g27, b4, b3, b5, hw, hs, hs']
      · have ho : ¬ okS t.ps[k].s = true := by unfold okS; simp; omega
        have e1 : opnL q.ss t.ps[k].s = q.ss := by unfold opnL; rw [if_neg ho]
        have e2 : opnN q.nx t.ps[k].s = q.nx := by unfold opnN; rw [if_neg ho]
        rw [e1, e2] at hs'
        repeat' first | (refine hK _ ?_; clear hK) | (refine hK _ _ ?_; clear hK) | (clear hK; refine hK _ ?_; clear hK) | (clear hK; clear hK; refine hK _ ?_; clear hK) | (clear hK; clear hK; clear hK; refine hK _ ?_; clear hK) | (clear hK; clear hK; clear hK; clear hK; refine hK _ ?_; clear hK) | (refine wSeq fun K hK => ?_) | ((first | refine wReg ?_ | refine wDrwQ rfl (by kernel_rfl) ?_ | refine wDrwI ?_ | refine wDrw (by kernel_rfl) ?_); simp only [List.map_cons, List.map_nil, strip]) | ((first | refine wIs fun K hK => ?_ | refine wOs fun K hK => ?_ | refine wQs fun K hK => ?_ | refine CallK_plain ?_ | refine CallQ_plain ?_ | refine CallR_plain ?_ | refine wCond ?_); simp [g4, g3, g5, g25, g26, g27, b4, b3, b5, hlt, hw, he, k1, k2, k3, o1]) | (refine wIn ?_; refine And.intro (by kernel_rfl) ?_; try simp only [thenA_n]) | (first | refine wBlock ?_ | refine wScope ?_) | ((first | refine wRet ?_ | refine wExit ?_ | refine wSkip ?_); try simp) | ((first | refine wLabel ?_ | refine wOn ?_ | refine wQn ?_); try simp only [thenA_n])
        all_goals refine hL _ (N - 1) (by omega) ⟨k + 1, by omega, ?_⟩
        all_goals simp [g4, g3, g5, g25, g26, g27, b4, b3, b5, hw, hs, hs']
    by_cases k4 : t.ps[k].k = 4
    · have c := without08_con q.ss t.ps[k].s (by omega)
      have hs' : stepP q t.ps[k] = { q with ss := but q.ss t.ps[k].s } := by unfold stepP; rw [if_neg k1, if_neg k2, if_neg k3, if_pos k4]
      generalize but q.ss t.ps[k].s = n1 at c hs'
      repeat' first | (refine hK _ ?_; clear hK) | (refine hK _ _ ?_; clear hK) | (clear hK; refine hK _ ?_; clear hK) | (clear hK; clear hK; refine hK _ ?_; clear hK) | (clear hK; clear hK; clear hK; refine hK _ ?_; clear hK) | (clear hK; clear hK; clear hK; clear hK; refine hK _ ?_; clear hK) | (refine wSeq fun K hK => ?_) | ((first | refine wReg ?_ | refine wDrwQ rfl (by kernel_rfl) ?_ | refine wDrwI ?_ | refine wDrw (by kernel_rfl) ?_); simp only [List.map_cons, List.map_nil, strip]) | ((first | refine wIs fun K hK => ?_ | refine wOs fun K hK => ?_ | refine wQs fun K hK => ?_ | refine CallK_plain ?_ | refine CallQ_plain ?_ | refine CallR_plain ?_ | refine wCond ?_); simp [g4, g3, g5, g25, g26, g27, b4, b3, b5, hlt, hw, he, k1, k2, k3, k4]) | (refine wIn ?_; refine And.intro (by kernel_rfl) ?_; try simp only [thenA_n]) | (first | refine wBlock ?_ | refine wScope ?_) | ((first | refine wRet ?_ | refine wExit ?_ | refine wSkip ?_); try simp) | ((first | refine wLabel ?_ | refine wOn ?_ | refine wQn ?_); try simp only [thenA_n]) | (refine CallE.pure (c) rfl ?_) | (refine CallE.lent (c) rfl ?_) | (refine CallF.pure (c) rfl ?_) | (refine CallF.lent (c) rfl ?_) | (refine CallE.own (c) ?_) | (refine CallH.pure (c) rfl ?_) | (refine CallH.lent (c) rfl ?_) | (refine CallH.own (c) ?_)
      refine hL _ (N - 1) (by omega) ⟨k + 1, by omega, ?_⟩
      simp [g4, g3, g5, g25, g26, g27, b4, b3, b5, hw, hs, hs']
    by_cases k5 : t.ps[k].k = 5
    · have c := copied08_con t.ps[k].c.ep t.ps[k].c.n t.ps[k].c.kind (mbs t.ps[k].c.ms) (by rw [mbs_len]; exact hpc)
      have hs' : stepP q t.ps[k] = { q with c := t.ps[k].c } := by unfold stepP; rw [if_neg k1, if_neg k2, if_neg k3, if_neg k4, if_pos k5]
      repeat' first | (refine hK _ ?_; clear hK) | (refine hK _ _ ?_; clear hK) | (clear hK; refine hK _ ?_; clear hK) | (clear hK; clear hK; refine hK _ ?_; clear hK) | (clear hK; clear hK; clear hK; refine hK _ ?_; clear hK) | (clear hK; clear hK; clear hK; clear hK; refine hK _ ?_; clear hK) | (refine wSeq fun K hK => ?_) | ((first | refine wReg ?_ | refine wDrwQ rfl (by kernel_rfl) ?_ | refine wDrwI ?_ | refine wDrw (by kernel_rfl) ?_); simp only [List.map_cons, List.map_nil, strip]) | ((first | refine wIs fun K hK => ?_ | refine wOs fun K hK => ?_ | refine wQs fun K hK => ?_ | refine CallK_plain ?_ | refine CallQ_plain ?_ | refine CallR_plain ?_ | refine wCond ?_); simp [g4, g3, g5, g25, g26, g27, b4, b3, b5, hlt, hw, he, k1, k2, k3, k4, k5]) | (refine wIn ?_; refine And.intro (by kernel_rfl) ?_; try simp only [thenA_n]) | (first | refine wBlock ?_ | refine wScope ?_) | ((first | refine wRet ?_ | refine wExit ?_ | refine wSkip ?_); try simp) | ((first | refine wLabel ?_ | refine wOn ?_ | refine wQn ?_); try simp only [thenA_n]) | (refine CallE.pure (c) rfl ?_) | (refine CallE.lent (c) rfl ?_) | (refine CallF.pure (c) rfl ?_) | (refine CallF.lent (c) rfl ?_) | (refine CallE.own (c) ?_) | (refine CallH.pure (c) rfl ?_) | (refine CallH.lent (c) rfl ?_) | (refine CallH.own (c) ?_)
      refine hL _ (N - 1) (by omega) ⟨k + 1, by omega, ?_⟩
      simp [g4, g3, g5, g25, g26, g27, b4, b3, b5, hw, hs, hs']
    · have hs' : stepP q t.ps[k] = q := by unfold stepP; rw [if_neg k1, if_neg k2, if_neg k3, if_neg k4, if_neg k5]
      repeat' first | (refine hK _ ?_; clear hK) | (refine hK _ _ ?_; clear hK) | (clear hK; refine hK _ ?_; clear hK) | (clear hK; clear hK; refine hK _ ?_; clear hK) | (clear hK; clear hK; clear hK; refine hK _ ?_; clear hK) | (clear hK; clear hK; clear hK; clear hK; refine hK _ ?_; clear hK) | (refine wSeq fun K hK => ?_) | ((first | refine wReg ?_ | refine wDrwQ rfl (by kernel_rfl) ?_ | refine wDrwI ?_ | refine wDrw (by kernel_rfl) ?_); simp only [List.map_cons, List.map_nil, strip]) | ((first | refine wIs fun K hK => ?_ | refine wOs fun K hK => ?_ | refine wQs fun K hK => ?_ | refine CallK_plain ?_ | refine CallQ_plain ?_ | refine CallR_plain ?_ | refine wCond ?_); simp [g4, g3, g5, g25, g26, g27, b4, b3, b5, hlt, hw, he, k1, k2, k3, k4, k5]) | (refine wIn ?_; refine And.intro (by kernel_rfl) ?_; try simp only [thenA_n]) | (first | refine wBlock ?_ | refine wScope ?_) | ((first | refine wRet ?_ | refine wExit ?_ | refine wSkip ?_); try simp) | ((first | refine wLabel ?_ | refine wOn ?_ | refine wQn ?_); try simp only [thenA_n])
      refine hL _ (N - 1) (by omega) ⟨k + 1, by omega, ?_⟩
      simp [g4, g3, g5, g25, g26, g27, b4, b3, b5, hw, hs, hs']
  · rw [List.take_of_length_le (by omega)] at b5
    unfold doS lateS at hr
    simp only [last2] at hr
    generalize runP s t.ps = q at hr b5
    have c := cmp02_con t.e t.n q.ae q.an
    by_cases o : 0 < zcmp t.e t.n q.ae q.an
    · simp only [if_pos o] at hr
      repeat' first | (refine hK _ ?_; clear hK) | (refine hK _ _ ?_; clear hK) | (clear hK; refine hK _ ?_; clear hK) | (clear hK; clear hK; refine hK _ ?_; clear hK) | (clear hK; clear hK; clear hK; refine hK _ ?_; clear hK) | (clear hK; clear hK; clear hK; clear hK; refine hK _ ?_; clear hK) | (refine wSeq fun K hK => ?_) | ((first | refine wReg ?_ | refine wDrwQ rfl (by kernel_rfl) ?_ | refine wDrwI ?_ | refine wDrw (by kernel_rfl) ?_); simp only [List.map_cons, List.map_nil, strip]) | ((first | refine wIs fun K hK => ?_ | refine wOs fun K hK => ?_ | refine wQs fun K hK => ?_ | refine CallK_plain ?_ | refine CallQ_plain ?_ | refine CallR_plain ?_ | refine wCond ?_); simp [g4, g3, g5, g25, g26, g27, b4, b3, b5, hlt, o]) | (refine wIn ?_; refine And.intro (by kernel_rfl) ?_; try simp only [thenA_n]) | (first | refine wBlock ?_ | refine wScope ?_) | ((first | refine wRet ?_ | refine wExit ?_ | refine wSkip ?_); try simp) | ((first | refine wLabel ?_ | refine wOn ?_ | refine wQn ?_); try simp only [thenA_n]) | (refine CallE.pure (c) rfl ?_) | (refine CallE.lent (c) rfl ?_) | (refine CallF.pure (c) rfl ?_) | (refine CallF.lent (c) rfl ?_) | (refine CallE.own (c) ?_) | (refine CallH.pure (c) rfl ?_) | (refine CallH.lent (c) rfl ?_) | (refine CallH.own (c) ?_)
      all_goals apply hr
      all_goals simp [Try.f55, g4, b4, b5]
    · simp only [if_neg o] at hr
      repeat' first | (refine hK _ ?_; clear hK) | (refine hK _ _ ?_; clear hK) | (clear hK; refine hK _ ?_; clear hK) | (clear hK; clear hK; refine hK _ ?_; clear hK) | (clear hK; clear hK; clear hK; refine hK _ ?_; clear hK) | (clear hK; clear hK; clear hK; clear hK; refine hK _ ?_; clear hK) | (refine wSeq fun K hK => ?_) | ((first | refine wReg ?_ | refine wDrwQ rfl (by kernel_rfl) ?_ | refine wDrwI ?_ | refine wDrw (by kernel_rfl) ?_); simp only [List.map_cons, List.map_nil, strip]) | ((first | refine wIs fun K hK => ?_ | refine wOs fun K hK => ?_ | refine wQs fun K hK => ?_ | refine CallK_plain ?_ | refine CallQ_plain ?_ | refine CallR_plain ?_ | refine wCond ?_); simp [g4, g3, g5, g25, g26, g27, b4, b3, b5, hlt, o]) | (refine wIn ?_; refine And.intro (by kernel_rfl) ?_; try simp only [thenA_n]) | (first | refine wBlock ?_ | refine wScope ?_) | ((first | refine wRet ?_ | refine wExit ?_ | refine wSkip ?_); try simp) | ((first | refine wLabel ?_ | refine wOn ?_ | refine wQn ?_); try simp only [thenA_n]) | (refine CallE.pure (c) rfl ?_) | (refine CallE.lent (c) rfl ?_) | (refine CallF.pure (c) rfl ?_) | (refine CallF.lent (c) rfl ?_) | (refine CallE.own (c) ?_) | (refine CallH.pure (c) rfl ?_) | (refine CallH.lent (c) rfl ?_) | (refine CallH.own (c) ?_)
      all_goals apply hr
      all_goals simp [Try.f55, g4, b4, b5]
theorem doS_at (s : Sv) (a b c d : Int) (m : List UInt8) : doS s ⟨s.ae, s.an, a, b, c, d, m, []⟩ = s := by
  unfold doS lateS runP
  rw [last2]
  simp [zcmp]
set_option maxHeartbeats 4000000 in
theorem all08_con (s : Sv) (l : List Tx) (hs : Fits s (psum l)) (ht : ∀ t ∈ l, okT t) : ACon Try.prog 44 [.p (.agg s.cells), .p (.sl 8 (txns l))] (.p (.agg (allS s l).cells)) := by
  refine ACon.len ⟨Try.f44, Try.func44, rfl, rfl⟩ 1 _ _ rfl fun hlen => ?_
  simp only [txns_len] at hlen
  have c1 := apply08_con s ⟨s.ae, s.an, 0, 0, 0, 0, [], []⟩ (hs.le (by simp)) (fun p hp => by simp at hp)
  rw [doS_at] at c1
  unfold Tx.cells Sv.cells at c1
  rw [show pts [] = [] from rfl] at c1
  unfold Sv.cells
  refine wBody Try.tab Try.mixed Try.func44 rfl rfl Try.ntmps44 (by simp) (by simp) fun Q hr hn => ?_
  repeat' first | (refine hK _ ?_; clear hK) | (refine hK _ _ ?_; clear hK) | (clear hK; refine hK _ ?_; clear hK) | (clear hK; clear hK; refine hK _ ?_; clear hK) | (clear hK; clear hK; clear hK; refine hK _ ?_; clear hK) | (clear hK; clear hK; clear hK; clear hK; refine hK _ ?_; clear hK) | (refine wSeq fun K hK => ?_) | ((first | refine wReg ?_ | refine wDrwQ rfl (by kernel_rfl) ?_ | refine wDrwI ?_ | refine wDrw (by kernel_rfl) ?_); simp only [List.map_cons, List.map_nil, strip]) | ((first | refine wIs fun K hK => ?_ | refine wOs fun K hK => ?_ | refine wQs fun K hK => ?_ | refine CallK_plain ?_ | refine CallQ_plain ?_ | refine CallR_plain ?_ | refine wCond ?_); simp) | (refine wIn ?_; refine And.intro (by kernel_rfl) ?_; try simp only [thenA_n]) | (first | refine wBlock ?_ | refine wScope ?_) | ((first | refine wRet ?_ | refine wExit ?_ | refine wSkip ?_); try simp) | ((first | refine wLabel ?_ | refine wOn ?_ | refine wQn ?_); try simp only [thenA_n]) | (refine CallE.pure (c1) rfl ?_) | (refine CallE.lent (c1) rfl ?_) | (refine CallF.pure (c1) rfl ?_) | (refine CallF.lent (c1) rfl ?_) | (refine CallE.own (c1) ?_) | (refine CallH.pure (c1) rfl ?_) | (refine CallH.lent (c1) rfl ?_) | (refine CallH.own (c1) ?_)
  refine wLoop (fun N st => ∃ k, k + N = l.length ∧ Fits (allS s (l.take k)) (psum (l.drop k)) ∧ st.s 5 = .ptr 5 0 ∧ st.s 4 = .ptr 4 0 ∧ st.s 13 = .p (.sl 8 (txns l)) ∧ st.s 14 = .p (I l.length) ∧ st.s 15 = .p (I k) ∧ st.b 4 = some (.box 30 [.nil 5, .nil 1, .p (I 0), .p (I 0), .p (I 0), .p (I 0), .nil 4, .p (I 0), .p (I 0)]) ∧ st.b 5 = some (.box 30 [.p (.sl 5 (zns (allS s (l.take k)).ns)), .p (.sl 1 (ints (allS s (l.take k)).ss)), .p (I (allS s (l.take k)).nx), .p (I (allS s (l.take k)).c.ep), .p (I (allS s (l.take k)).c.n), .p (I (allS s (l.take k)).c.kind), .p (.sl 4 (mbs (allS s (l.take k)).c.ms)), .p (I (allS s (l.take k)).ae), .p (I (allS s (l.take k)).an)])) l.length ⟨0, by simp [allS]; exact hs⟩ fun K N st hL ⟨k, hk, hf, g5, g4, g13, g14, g15, b4, b5⟩ => ?_
  by_cases hlt : k < l.length
  · have hw := wrapX k _ hlt (by omega)
    have he := txns_get hlt
    have hsn := allS_snoc s hlt
    have hps := psum_drop hlt
    have htk := ht l[k] (List.getElem_mem hlt)
    rw [hps] at hf
    have hf2 := doS_fits hf htk
    rw [← hsn] at hf2
    generalize allS s (l.take k) = q at hsn hf b5
    have c2 := apply08_con q l[k] (hf.le (by omega)) htk
    rw [← hsn] at c2
    unfold Sv.cells Tx.cells at c2
    generalize hr' : allS s (l.take (k + 1)) = r at c2 hf2
    repeat' first | (refine hK _ ?_; clear hK) | (refine hK _ _ ?_; clear hK) | (clear hK; refine hK _ ?_; clear hK) | (clear hK; clear hK; refine hK _ ?_; clear hK) | (clear hK; clear hK; clear hK; refine hK _ ?_; clear hK) | (clear hK; clear hK; clear hK; clear hK; refine hK _ ?_; clear hK) | (refine wSeq fun K hK => ?_) | ((first | refine wReg ?_ | refine wDrwQ rfl (by kernel_rfl) ?_ | refine wDrwI ?_ | refine wDrw (by kernel_rfl) ?_); simp only [List.map_cons, List.map_nil, strip]) | ((first | refine wIs fun K hK => ?_ | refine wOs fun K hK => ?_ | refine wQs fun K hK => ?_ | refine CallK_plain ?_ | refine CallQ_plain ?_ | refine CallR_plain ?_ | refine wCond ?_); simp [g5, g4, g13, g14, g15, b4, b5, hlt, hw, he]) | (refine wIn ?_; refine And.intro (by kernel_rfl) ?_; try simp only [thenA_n]) | (first | refine wBlock ?_ | refine wScope ?_) | ((first | refine wRet ?_ | refine wExit ?_ | refine wSkip ?_); try simp) | ((first | refine wLabel ?_ | refine wOn ?_ | refine wQn ?_); try simp only [thenA_n]) | (refine CallE.pure (c2) rfl ?_) | (refine CallE.lent (c2) rfl ?_) | (refine CallF.pure (c2) rfl ?_) | (refine CallF.lent (c2) rfl ?_) | (refine CallE.own (c2) ?_) | (refine CallH.pure (c2) rfl ?_) | (refine CallH.lent (c2) rfl ?_) | (refine CallH.own (c2) ?_)
    refine hL _ (N - 1) (by omega) ⟨k + 1, by omega, ?_⟩
    simp [g5, g4, g13, g14, g15, b4, b5, hw, hr']
    exact hf2
  · rw [List.take_of_length_le (by omega)] at b5
    generalize allS s l = q at b5 hr
    repeat' first | (refine hK _ ?_; clear hK) | (refine hK _ _ ?_; clear hK) | (clear hK; refine hK _ ?_; clear hK) | (clear hK; clear hK; refine hK _ ?_; clear hK) | (clear hK; clear hK; clear hK; refine hK _ ?_; clear hK) | (clear hK; clear hK; clear hK; clear hK; refine hK _ ?_; clear hK) | (refine wSeq fun K hK => ?_) | ((first | refine wReg ?_ | refine wDrwQ rfl (by kernel_rfl) ?_ | refine wDrwI ?_ | refine wDrw (by kernel_rfl) ?_); simp only [List.map_cons, List.map_nil, strip]) | ((first | refine wIs fun K hK => ?_ | refine wOs fun K hK => ?_ | refine wQs fun K hK => ?_ | refine CallK_plain ?_ | refine CallQ_plain ?_ | refine CallR_plain ?_ | refine wCond ?_); simp [g5, g4, g13, g14, g15, b4, b5, hlt]) | (refine wIn ?_; refine And.intro (by kernel_rfl) ?_; try simp only [thenA_n]) | (first | refine wBlock ?_ | refine wScope ?_) | ((first | refine wRet ?_ | refine wExit ?_ | refine wSkip ?_); try simp) | ((first | refine wLabel ?_ | refine wOn ?_ | refine wQn ?_); try simp only [thenA_n])
    all_goals apply hr
    all_goals simp [Try.f44, g4, g5, b4, b5]
/- Histories: what the document makes of them: copies, configs, those that are needed. -/
theorem pts_snoc (l : List Pt) (x : Pt) : pts l ++ [[I x.k, SB x.z.p, SB x.z.d, I x.z.v, I x.z.k, I x.z.o, I x.s, I x.c.ep, I x.c.n, I x.c.kind, .sl 4 (mbs x.c.ms)]] = pts (l ++ [x]) := by simp [pts, Pt.cells]
theorem txns_snoc (l : List Tx) (t : Tx) : txns l ++ [[I t.e, I t.n, I t.s, I t.x, I t.r, I t.b, SB t.m, .sl 11 (pts t.ps)]] = txns (l ++ [t]) := by simp [txns, Tx.cells]
theorem txns_take (l : List Tx) (k : Nat) : (txns l).take k = txns (l.take k) := by simp [txns, List.map_take]
set_option maxHeartbeats 4000000 in
theorem copied16_con (t : Tx) (hl : t.ps.length ≤ 1000) (hc : ∀ p ∈ t.ps, p.c.ms.length ≤ 1000) : ACon Try.prog 45 [.p (.agg t.cells)] (.p (.agg t.cells)) := by
  unfold Tx.cells
  refine wBody Try.tab Try.mixed Try.func45 rfl rfl Try.ntmps45 (by simp) (by simp) fun Q hr hn => ?_
  repeat' first | (refine hK _ ?_; clear hK) | (refine hK _ _ ?_; clear hK) | (clear hK; refine hK _ ?_; clear hK) | (clear hK; clear hK; refine hK _ ?_; clear hK) | (clear hK; clear hK; clear hK; refine hK _ ?_; clear hK) | (clear hK; clear hK; clear hK; clear hK; refine hK _ ?_; clear hK) | (refine wSeq fun K hK => ?_) | ((first | refine wReg ?_ | refine wDrwQ rfl (by kernel_rfl) ?_ | refine wDrwI ?_ | refine wDrw (by kernel_rfl) ?_); simp only [List.map_cons, List.map_nil, strip]) | ((first | refine wIs fun K hK => ?_ | refine wOs fun K hK => ?_ | refine wQs fun K hK => ?_ | refine CallK_plain ?_ | refine CallQ_plain ?_ | refine CallR_plain ?_ | refine wCond ?_); simp) | (refine wIn ?_; refine And.intro (by kernel_rfl) ?_; try simp only [thenA_n]) | (first | refine wBlock ?_ | refine wScope ?_) | ((first | refine wRet ?_ | refine wExit ?_ | refine wSkip ?_); try simp) | ((first | refine wLabel ?_ | refine wOn ?_ | refine wQn ?_); try simp only [thenA_n])
  refine wLoopG [.cel 1 7 26 103 11] (fun N st => ∃ (k : Nat), k + N = t.ps.length ∧ st.s 1 = .ptr 1 0 ∧ st.b 1 = some (.box 58 [.p (I t.e), .p (I t.n), .p (I t.s), .p (I t.x), .p (I t.r), .p (I t.b), .p (SB t.m), .row 26]) ∧ st.s 2 = .ptr 2 0 ∧ st.b 2 = some (.box 58 [.p (I 0), .p (I 0), .p (I 0), .p (I 0), .p (I 0), .p (I 0), .p (SB []), .nil 11]) ∧ st.b 26 = some (.row 103 11 (pts (t.ps.take k))) ∧ st.s 9 = .p (.sl 11 (pts t.ps)) ∧ st.s 10 = .p (I t.ps.length) ∧ st.s 11 = .p (I k)) t.ps.length ⟨0, by simp [frzL, gh1, pts]⟩ fun K N st hL ⟨k, hk, g1, b1, g2, b2, b26, g9, g10, g11⟩ => ?_
  by_cases hlt : k < t.ps.length
  · have hlt' : (k : Int) < t.ps.length := by omega
    have hw := wrapS k _ hlt (by omega)
    have he := pts_get hlt
    have hpc := hc _ (List.getElem_mem hlt)
    have hs := pts_snoc (t.ps.take k) t.ps[k]
    rw [← List.take_succ_eq_append_getElem hlt] at hs
    have hll := pts_len (t.ps.take k)
    rw [List.length_take] at hll
    repeat' first | (refine And.intro (by (try simp only [hll, mbs_len, List.length_cons, List.length_nil]); omega) ?_) | (refine Or.inr ?_) | (refine hK _ ?_; clear hK) | (refine hK _ _ ?_; clear hK) | (clear hK; refine hK _ ?_; clear hK) | (clear hK; clear hK; refine hK _ ?_; clear hK) | (clear hK; clear hK; clear hK; refine hK _ ?_; clear hK) | (clear hK; clear hK; clear hK; clear hK; refine hK _ ?_; clear hK) | (refine wSeq fun K hK => ?_) | ((first | refine wReg ?_ | refine wDrwQ rfl (by kernel_rfl) ?_ | refine wDrwI ?_ | refine wDrw (by kernel_rfl) ?_); simp only [List.map_cons, List.map_nil, strip]) | ((first | refine wIs fun K hK => ?_ | refine wOs fun K hK => ?_ | refine wQs fun K hK => ?_ | refine CallK_plain ?_ | refine CallQ_plain ?_ | refine CallR_plain ?_ | refine wCond ?_); simp [g1, b1, g2, b2, b26, g9, g10, g11, hlt, hlt', hw, he, Pt.cells, hs]) | (refine wIn ?_; refine And.intro (by kernel_rfl) ?_; try simp only [thenA_n]) | (first | refine wBlock ?_ | refine wScope ?_) | ((first | refine wRet ?_ | refine wExit ?_ | refine wSkip ?_); try simp) | ((first | refine wLabel ?_ | refine wOn ?_ | refine wQn ?_); try simp only [thenA_n])
    refine hL _ (N - 1) (by omega) ⟨k + 1, by omega, ?_⟩
    simp [g1, b1, g2, b2, b26, g9, g10, g11, hw, hs]
  · have hlt' : ¬ (k : Int) < t.ps.length := by omega
    rw [List.take_of_length_le (by omega)] at b26
    repeat' first | (refine hK _ ?_; clear hK) | (refine hK _ _ ?_; clear hK) | (clear hK; refine hK _ ?_; clear hK) | (clear hK; clear hK; refine hK _ ?_; clear hK) | (clear hK; clear hK; clear hK; refine hK _ ?_; clear hK) | (clear hK; clear hK; clear hK; clear hK; refine hK _ ?_; clear hK) | (refine wSeq fun K hK => ?_) | ((first | refine wReg ?_ | refine wDrwQ rfl (by kernel_rfl) ?_ | refine wDrwI ?_ | refine wDrw (by kernel_rfl) ?_); simp only [List.map_cons, List.map_nil, strip]) | ((first | refine wIs fun K hK => ?_ | refine wOs fun K hK => ?_ | refine wQs fun K hK => ?_ | refine CallK_plain ?_ | refine CallQ_plain ?_ | refine CallR_plain ?_ | refine wCond ?_); simp [g1, b1, g2, b2, b26, g9, g10, g11, hlt, hlt']) | (refine wIn ?_; refine And.intro (by kernel_rfl) ?_; try simp only [thenA_n]) | (first | refine wBlock ?_ | refine wScope ?_) | ((first | refine wRet ?_ | refine wExit ?_ | refine wSkip ?_); try simp) | ((first | refine wLabel ?_ | refine wOn ?_ | refine wQn ?_); try simp only [thenA_n])
    all_goals apply hr
    all_goals simp [Try.f45, g2, b26]
set_option maxHeartbeats 4000000 in
theorem all16_con (l : List Tx) (hl : l.length ≤ 1000) (hp : ∀ t ∈ l, t.ps.length ≤ 1000 ∧ ∀ p ∈ t.ps, p.c.ms.length ≤ 1000) : ACon Try.prog 32 [.p (.sl 8 (txns l)), .p (.sl 8 [])] (.p (.sl 8 (txns l))) := by
  refine wBody Try.tab Try.mixed Try.func32 rfl rfl Try.ntmps32 (by simp) (by simp) fun Q hr hn => ?_
  repeat' first | (refine hK _ ?_; clear hK) | (refine hK _ _ ?_; clear hK) | (clear hK; refine hK _ ?_; clear hK) | (clear hK; clear hK; refine hK _ ?_; clear hK) | (clear hK; clear hK; clear hK; refine hK _ ?_; clear hK) | (clear hK; clear hK; clear hK; clear hK; refine hK _ ?_; clear hK) | (refine wSeq fun K hK => ?_) | ((first | refine wReg ?_ | refine wDrwQ rfl (by kernel_rfl) ?_ | refine wDrwI ?_ | refine wDrw (by kernel_rfl) ?_); simp only [List.map_cons, List.map_nil, strip]) | ((first | refine wIs fun K hK => ?_ | refine wOs fun K hK => ?_ | refine wQs fun K hK => ?_ | refine CallK_plain ?_ | refine CallQ_plain ?_ | refine CallR_plain ?_ | refine wCond ?_); simp) | (refine wIn ?_; refine And.intro (by kernel_rfl) ?_; try simp only [thenA_n]) | (first | refine wBlock ?_ | refine wScope ?_) | ((first | refine wRet ?_ | refine wExit ?_ | refine wSkip ?_); try simp) | ((first | refine wLabel ?_ | refine wOn ?_ | refine wQn ?_); try simp only [thenA_n])
  refine wLoopG [.row 5 58 8] (fun N st => ∃ (k : Nat), k + N = l.length ∧ st.s 1 = .p (.sl 8 []) ∧ st.s 5 = .row 5 ∧ st.b 5 = some (.row 58 8 (txns (l.take k))) ∧ st.s 10 = .p (.sl 8 (txns l)) ∧ st.s 11 = .p (I l.length) ∧ st.s 12 = .p (I k)) l.length ⟨0, by simp [frzL, gh1, txns]⟩ fun K N st hL ⟨k, hk, g1, g5, b5, g10, g11, g12⟩ => ?_
  by_cases hlt : k < l.length
  · have hlt' : (k : Int) < l.length := by omega
    have hw := wrapS k _ hlt (by omega)
    have he := txns_get hlt
    obtain ⟨hp1, hp2⟩ := hp _ (List.getElem_mem hlt)
    have c := copied16_con l[k] hp1 hp2
    unfold Tx.cells at c
    have hs := txns_snoc (l.take k) l[k]
    rw [← List.take_succ_eq_append_getElem hlt] at hs
    have hll := txns_len (l.take k)
    rw [List.length_take] at hll
    repeat' first | (refine And.intro (by (try simp only [hll, List.length_cons, List.length_nil]); omega) ?_) | (refine hK _ ?_; clear hK) | (refine hK _ _ ?_; clear hK) | (clear hK; refine hK _ ?_; clear hK) | (clear hK; clear hK; refine hK _ ?_; clear hK) | (clear hK; clear hK; clear hK; refine hK _ ?_; clear hK) | (clear hK; clear hK; clear hK; clear hK; refine hK _ ?_; clear hK) | (refine wSeq fun K hK => ?_) | ((first | refine wReg ?_ | refine wDrwQ rfl (by kernel_rfl) ?_ | refine wDrwI ?_ | refine wDrw (by kernel_rfl) ?_); simp only [List.map_cons, List.map_nil, strip]) | ((first | refine wIs fun K hK => ?_ | refine wOs fun K hK => ?_ | refine wQs fun K hK => ?_ | refine CallK_plain ?_ | refine CallQ_plain ?_ | refine CallR_plain ?_ | refine wCond ?_); simp [g1, g5, b5, g10, g11, g12, hlt, hlt', hw, he, hs]) | (refine wIn ?_; refine And.intro (by kernel_rfl) ?_; try simp only [thenA_n]) | (first | refine wBlock ?_ | refine wScope ?_) | ((first | refine wRet ?_ | refine wExit ?_ | refine wSkip ?_); try simp) | ((first | refine wLabel ?_ | refine wOn ?_ | refine wQn ?_); try simp only [thenA_n]) | (refine CallE.pure (c) rfl ?_) | (refine CallE.lent (c) rfl ?_) | (refine CallF.pure (c) rfl ?_) | (refine CallF.lent (c) rfl ?_) | (refine CallE.own (c) ?_) | (refine CallH.pure (c) rfl ?_) | (refine CallH.lent (c) rfl ?_) | (refine CallH.own (c) ?_)
    refine hL _ (N - 1) (by omega) ⟨k + 1, by omega, ?_⟩
    simp [g1, g5, b5, g10, g11, g12, hw, hs]
  · have hlt' : ¬ (k : Int) < l.length := by omega
    rw [List.take_of_length_le (by omega)] at b5
    repeat' first | (refine hK _ ?_; clear hK) | (refine hK _ _ ?_; clear hK) | (clear hK; refine hK _ ?_; clear hK) | (clear hK; clear hK; refine hK _ ?_; clear hK) | (clear hK; clear hK; clear hK; refine hK _ ?_; clear hK) | (clear hK; clear hK; clear hK; clear hK; refine hK _ ?_; clear hK) | (refine wSeq fun K hK => ?_) | ((first | refine wReg ?_ | refine wDrwQ rfl (by kernel_rfl) ?_ | refine wDrwI ?_ | refine wDrw (by kernel_rfl) ?_); simp only [List.map_cons, List.map_nil, strip]) | ((first | refine wIs fun K hK => ?_ | refine wOs fun K hK => ?_ | refine wQs fun K hK => ?_ | refine CallK_plain ?_ | refine CallQ_plain ?_ | refine CallR_plain ?_ | refine wCond ?_); simp [g1, g5, b5, g10, g11, g12, hlt, hlt']) | (refine wIn ?_; refine And.intro (by kernel_rfl) ?_; try simp only [thenA_n]) | (first | refine wBlock ?_ | refine wScope ?_) | ((first | refine wRet ?_ | refine wExit ?_ | refine wSkip ?_); try simp) | ((first | refine wLabel ?_ | refine wOn ?_ | refine wQn ?_); try simp only [thenA_n])
    refine wLoop (fun N st => st.s 5 = .row 5 ∧ st.b 5 = some (.row 58 8 (txns l)) ∧ st.s 22 = .p (.sl 8 []) ∧ st.s 23 = .p (I 0) ∧ st.s 24 = .p (I 0)) 0 (by simp [g5, b5]) fun K N st hL ⟨g5, b5, g22, g23, g24⟩ => ?_
    repeat' first | (refine hK _ ?_; clear hK) | (refine hK _ _ ?_; clear hK) | (clear hK; refine hK _ ?_; clear hK) | (clear hK; clear hK; refine hK _ ?_; clear hK) | (clear hK; clear hK; clear hK; refine hK _ ?_; clear hK) | (clear hK; clear hK; clear hK; clear hK; refine hK _ ?_; clear hK) | (refine wSeq fun K hK => ?_) | ((first | refine wReg ?_ | refine wDrwQ rfl (by kernel_rfl) ?_ | refine wDrwI ?_ | refine wDrw (by kernel_rfl) ?_); simp only [List.map_cons, List.map_nil, strip]) | ((first | refine wIs fun K hK => ?_ | refine wOs fun K hK => ?_ | refine wQs fun K hK => ?_ | refine CallK_plain ?_ | refine CallQ_plain ?_ | refine CallR_plain ?_ | refine wCond ?_); simp [g5, b5, g22, g23, g24]) | (refine wIn ?_; refine And.intro (by kernel_rfl) ?_; try simp only [thenA_n]) | (first | refine wBlock ?_ | refine wScope ?_) | ((first | refine wRet ?_ | refine wExit ?_ | refine wSkip ?_); try simp) | ((first | refine wLabel ?_ | refine wOn ?_ | refine wQn ?_); try simp only [thenA_n])
    all_goals apply hr
    all_goals simp [Try.f32, g5, b5]
theorem own16_con (s : Sv) (h1 : s.ns.length ≤ 1000) (h2 : s.ss.length ≤ 1000) (h3 : s.c.ms.length ≤ 1000) : ACon Try.prog 31 [.p (.agg s.cells)] (.p (.agg s.cells)) := by
  have c := all08_con s [] ⟨by simp [psum]; omega, by simp [psum]; omega, by unfold okC; omega⟩ (by simp)
  rw [show allS s [] = s from rfl, show txns [] = [] from rfl] at c
  unfold Sv.cells at c ⊢
  refine wBody Try.tab Try.mixed Try.func31 rfl rfl Try.ntmps31 (by simp) (by simp) fun Q hr hn => ?_
  repeat' first | (refine hK _ ?_; clear hK) | (refine hK _ _ ?_; clear hK) | (clear hK; refine hK _ ?_; clear hK) | (clear hK; clear hK; refine hK _ ?_; clear hK) | (clear hK; clear hK; clear hK; refine hK _ ?_; clear hK) | (clear hK; clear hK; clear hK; clear hK; refine hK _ ?_; clear hK) | (refine wSeq fun K hK => ?_) | ((first | refine wReg ?_ | refine wDrwQ rfl (by kernel_rfl) ?_ | refine wDrwI ?_ | refine wDrw (by kernel_rfl) ?_); simp only [List.map_cons, List.map_nil, strip]) | ((first | refine wIs fun K hK => ?_ | refine wOs fun K hK => ?_ | refine wQs fun K hK => ?_ | refine CallK_plain ?_ | refine CallQ_plain ?_ | refine CallR_plain ?_ | refine wCond ?_); simp) | (refine wIn ?_; refine And.intro (by kernel_rfl) ?_; try simp only [thenA_n]) | (first | refine wBlock ?_ | refine wScope ?_) | ((first | refine wRet ?_ | refine wExit ?_ | refine wSkip ?_); try simp) | ((first | refine wLabel ?_ | refine wOn ?_ | refine wQn ?_); try simp only [thenA_n]) | (refine CallE.pure (c) rfl ?_) | (refine CallE.lent (c) rfl ?_) | (refine CallF.pure (c) rfl ?_) | (refine CallF.lent (c) rfl ?_) | (refine CallE.own (c) ?_) | (refine CallH.pure (c) rfl ?_) | (refine CallH.lent (c) rfl ?_) | (refine CallH.own (c) ?_)
  all_goals apply hr
  all_goals simp [Try.f31]
/- Histories, the document's: marks, whether they rise, the last, the state at a place. -/
set_option maxHeartbeats 1000000 in
theorem marks16_con (h : Hy) (hl : h.lg.length ≤ 1000) : ACon Try.prog 33 [.p (.agg h.cells)] (.p (.sl 2 (zxs (mks h)))) := by
  have hz0 : (mks h).take 1 = [⟨h.im.ae, h.im.an⟩] := rfl
  have hmt := mks_take h
  have hml := mks_len h
  generalize mks h = M at *
  unfold Hy.cells at *
  refine wBody Try.tab Try.mixed Try.func33 rfl rfl Try.ntmps33 (by simp) (by simp) fun Q hr hn => ?_
  repeat' first | (refine hK _ ?_; clear hK) | (refine hK _ _ ?_; clear hK) | (clear hK; refine hK _ ?_; clear hK) | (clear hK; clear hK; refine hK _ ?_; clear hK) | (clear hK; clear hK; clear hK; refine hK _ ?_; clear hK) | (clear hK; clear hK; clear hK; clear hK; refine hK _ ?_; clear hK) | (refine wSeq fun K hK => ?_) | ((first | refine wReg ?_ | refine wDrwQ rfl (by kernel_rfl) ?_ | refine wDrwI ?_ | refine wDrw (by kernel_rfl) ?_); simp only [List.map_cons, List.map_nil, strip]) | ((first | refine wIs fun K hK => ?_ | refine wOs fun K hK => ?_ | refine wQs fun K hK => ?_ | refine CallK_plain ?_ | refine CallQ_plain ?_ | refine CallR_plain ?_ | refine wCond ?_); simp) | (refine wIn ?_; refine And.intro (by kernel_rfl) ?_; try simp only [thenA_n]) | (first | refine wBlock ?_ | refine wScope ?_) | ((first | refine wRet ?_ | refine wExit ?_ | refine wSkip ?_); try simp) | ((first | refine wLabel ?_ | refine wOn ?_ | refine wQn ?_); try simp only [thenA_n])
  refine wLoop (fun N st => ∃ k, k + N = h.lg.length ∧ st.s 11 = .p (.sl 8 (txns h.lg)) ∧ st.s 12 = .p (I h.lg.length) ∧ st.s 13 = .p (I k) ∧ (k = 0 ∧ st.s 3 = .full 2 (zxs (M.take 1)) ∨ 0 < k ∧ st.s 3 = .row 21 ∧ st.b 21 = some (.row 25 2 (zxs (M.take (k + 1)))))) h.lg.length ⟨0, by simp [hz0, zxs]⟩ fun K N st hL ⟨k, hk, g11, g12, g13, hc⟩ => ?_
  by_cases hlt : k < h.lg.length
  · have hw := wrapS k _ hlt (by omega)
    have he := txns_get hlt
    have hs := zxs_app (M.take (k + 1)) [⟨h.lg[k].e, h.lg[k].n⟩]
    rw [← hmt k hlt] at hs
    have hs' : zxs (M.take (k + 1)) ++ [[I h.lg[k].e, I h.lg[k].n]] = zxs (M.take (k + 1 + 1)) := hs.symm
    have hw1 : IntKind.i64.wrap 1 = 1 := by rw [wrap_id] <;> omega
    have hln : (zxs (M.take (k + 1))).length ≤ 1001 := by rw [zxs_len, List.length_take]; omega
    rcases hc with ⟨rfl, g3⟩ | ⟨hk0, g3, b21⟩
    · repeat' first | (refine Or.inl ?_) | (refine And.intro (by (try simp); omega) ?_) | (refine hK _ ?_; clear hK) | (refine hK _ _ ?_; clear hK) | (clear hK; refine hK _ ?_; clear hK) | (clear hK; clear hK; refine hK _ ?_; clear hK) | (clear hK; clear hK; clear hK; refine hK _ ?_; clear hK) | (clear hK; clear hK; clear hK; clear hK; refine hK _ ?_; clear hK) | (refine wSeq fun K hK => ?_) | ((first | refine wReg ?_ | refine wDrwQ rfl (by kernel_rfl) ?_ | refine wDrwI ?_ | refine wDrw (by kernel_rfl) ?_); simp only [List.map_cons, List.map_nil, strip]) | ((first | refine wIs fun K hK => ?_ | refine wOs fun K hK => ?_ | refine wQs fun K hK => ?_ | refine CallK_plain ?_ | refine CallQ_plain ?_ | refine CallR_plain ?_ | refine wCond ?_); simp [g11, g12, g13, g3, hlt, hw, he]) | (refine wIn ?_; refine And.intro (by kernel_rfl) ?_; try simp only [thenA_n]) | (first | refine wBlock ?_ | refine wScope ?_) | ((first | refine wRet ?_ | refine wExit ?_ | refine wSkip ?_); try simp) | ((first | refine wLabel ?_ | refine wOn ?_ | refine wQn ?_); try simp only [thenA_n])
      refine hL _ (N - 1) (by omega) ⟨1, by omega, ?_⟩
      simp only [Nat.zero_add] at hs'
      simp [g11, g12, hw1, hs']
    · repeat' first | (refine And.intro (by (try simp); omega) ?_) | (refine hK _ ?_; clear hK) | (refine hK _ _ ?_; clear hK) | (clear hK; refine hK _ ?_; clear hK) | (clear hK; clear hK; refine hK _ ?_; clear hK) | (clear hK; clear hK; clear hK; refine hK _ ?_; clear hK) | (clear hK; clear hK; clear hK; clear hK; refine hK _ ?_; clear hK) | (refine wSeq fun K hK => ?_) | ((first | refine wReg ?_ | refine wDrwQ rfl (by kernel_rfl) ?_ | refine wDrwI ?_ | refine wDrw (by kernel_rfl) ?_); simp only [List.map_cons, List.map_nil, strip]) | ((first | refine wIs fun K hK => ?_ | refine wOs fun K hK => ?_ | refine wQs fun K hK => ?_ | refine CallK_plain ?_ | refine CallQ_plain ?_ | refine CallR_plain ?_ | refine wCond ?_); simp [g11, g12, g13, g3, b21, hlt, hw, he]) | (refine wIn ?_; refine And.intro (by kernel_rfl) ?_; try simp only [thenA_n]) | (first | refine wBlock ?_ | refine wScope ?_) | ((first | refine wRet ?_ | refine wExit ?_ | refine wSkip ?_); try simp) | ((first | refine wLabel ?_ | refine wOn ?_ | refine wQn ?_); try simp only [thenA_n])
      refine hL _ (N - 1) (by omega) ⟨k + 1, by omega, ?_⟩
      simp [g11, g12, g3, b21, hw, hs']
  · have hk0 : k = h.lg.length := by omega
    rcases hc with ⟨h0, g3⟩ | ⟨hk0, g3, b21⟩
    · rw [List.take_of_length_le (by omega)] at g3
      repeat' first | (refine hK _ ?_; clear hK) | (refine hK _ _ ?_; clear hK) | (clear hK; refine hK _ ?_; clear hK) | (clear hK; clear hK; refine hK _ ?_; clear hK) | (clear hK; clear hK; clear hK; refine hK _ ?_; clear hK) | (clear hK; clear hK; clear hK; clear hK; refine hK _ ?_; clear hK) | (refine wSeq fun K hK => ?_) | ((first | refine wReg ?_ | refine wDrwQ rfl (by kernel_rfl) ?_ | refine wDrwI ?_ | refine wDrw (by kernel_rfl) ?_); simp only [List.map_cons, List.map_nil, strip]) | ((first | refine wIs fun K hK => ?_ | refine wOs fun K hK => ?_ | refine wQs fun K hK => ?_ | refine CallK_plain ?_ | refine CallQ_plain ?_ | refine CallR_plain ?_ | refine wCond ?_); simp [g11, g12, g13, g3, hlt]) | (refine wIn ?_; refine And.intro (by kernel_rfl) ?_; try simp only [thenA_n]) | (first | refine wBlock ?_ | refine wScope ?_) | ((first | refine wRet ?_ | refine wExit ?_ | refine wSkip ?_); try simp) | ((first | refine wLabel ?_ | refine wOn ?_ | refine wQn ?_); try simp only [thenA_n])
      all_goals apply hr
      all_goals simp [Try.f33, g3]
    · rw [List.take_of_length_le (by omega)] at b21
      repeat' first | (refine hK _ ?_; clear hK) | (refine hK _ _ ?_; clear hK) | (clear hK; refine hK _ ?_; clear hK) | (clear hK; clear hK; refine hK _ ?_; clear hK) | (clear hK; clear hK; clear hK; refine hK _ ?_; clear hK) | (clear hK; clear hK; clear hK; clear hK; refine hK _ ?_; clear hK) | (refine wSeq fun K hK => ?_) | ((first | refine wReg ?_ | refine wDrwQ rfl (by kernel_rfl) ?_ | refine wDrwI ?_ | refine wDrw (by kernel_rfl) ?_); simp only [List.map_cons, List.map_nil, strip]) | ((first | refine wIs fun K hK => ?_ | refine wOs fun K hK => ?_ | refine wQs fun K hK => ?_ | refine CallK_plain ?_ | refine CallQ_plain ?_ | refine CallR_plain ?_ | refine wCond ?_); simp [g11, g12, g13, g3, b21, hlt]) | (refine wIn ?_; refine And.intro (by kernel_rfl) ?_; try simp only [thenA_n]) | (first | refine wBlock ?_ | refine wScope ?_) | ((first | refine wRet ?_ | refine wExit ?_ | refine wSkip ?_); try simp) | ((first | refine wLabel ?_ | refine wOn ?_ | refine wQn ?_); try simp only [thenA_n])
      all_goals apply hr
      all_goals simp [Try.f33, g3, b21]
def zlt (a b : Zx) : Prop := zcmp a.e a.n b.e b.n < 0
theorem zlt_iff (a b : Zx) : zlt a b ↔ a.e < b.e ∨ a.e = b.e ∧ a.n < b.n := by
  unfold zlt
  rw [zcmp_spec]
  repeat' split
  all_goals omega
theorem zlt_trans {a b c : Zx} (h : zlt a b) (g : zlt b c) : zlt a c := by rw [zlt_iff] at *; omega
def risesB : List Zx → Bool
  | [] => true
  | [_] => true
  | a :: b :: l => decide (zcmp a.e a.n b.e b.n < 0) && risesB (b :: l)
theorem rises_all : ∀ (l : List Zx) (a : Zx), risesB (a :: l) = true → ∀ x ∈ l, zlt a x
  | [], _, _, x, hx => by simp at hx
  | b :: l, a, h, x, hx => by
    simp only [risesB, Bool.and_eq_true, decide_eq_true_eq] at h
    rcases List.mem_cons.1 hx with rfl | hx
    · exact h.1
    · exact zlt_trans h.1 (rises_all l b h.2 x hx)
theorem rises_tail {a : Zx} {l : List Zx} (h : risesB (a :: l) = true) : risesB l = true := by
  cases l with
  | nil => rfl
  | cons b l => simp only [risesB, Bool.and_eq_true] at h; exact h.2
theorem rises_pw : ∀ {l : List Zx}, risesB l = true → l.Pairwise zlt
  | [], _ => .nil
  | a :: l, h => .cons (rises_all l a h) (rises_pw (rises_tail h))
theorem pw_rises : ∀ {l : List Zx}, l.Pairwise zlt → risesB l = true
  | [], _ => rfl
  | [_], _ => rfl
  | a :: b :: l, .cons h g => by
    simp only [risesB, Bool.and_eq_true, decide_eq_true_eq]
    exact ⟨h b (by simp), pw_rises g⟩
set_option maxHeartbeats 1000000 in
theorem check16_con (h : Hy) (hl : h.lg.length ≤ 1000) : ACon Try.prog 15 [.p (.agg h.cells)] (.p (B (risesB (mks h)))) := by
  have c1 := marks16_con h hl
  have hml := mks_len h
  generalize mks h = M at *
  unfold Hy.cells at *
  refine wBody Try.tab Try.mixed Try.func15 rfl rfl Try.ntmps15 (by simp) (by simp) fun Q hr hn => ?_
  repeat' first | (refine CallE.pure (c1) rfl ?_) | (refine CallE.lent (c1) rfl ?_) | (refine CallF.pure (c1) rfl ?_) | (refine CallF.lent (c1) rfl ?_) | (refine CallE.own (c1) ?_) | (refine CallH.pure (c1) rfl ?_) | (refine CallH.lent (c1) rfl ?_) | (refine CallH.own (c1) ?_) | (refine hK _ ?_; clear hK) | (refine hK _ _ ?_; clear hK) | (clear hK; refine hK _ ?_; clear hK) | (clear hK; clear hK; refine hK _ ?_; clear hK) | (clear hK; clear hK; clear hK; refine hK _ ?_; clear hK) | (clear hK; clear hK; clear hK; clear hK; refine hK _ ?_; clear hK) | (refine wSeq fun K hK => ?_) | ((first | refine wReg ?_ | refine wDrwQ rfl (by kernel_rfl) ?_ | refine wDrwI ?_ | refine wDrw (by kernel_rfl) ?_); simp only [List.map_cons, List.map_nil, strip]) | ((first | refine wIs fun K hK => ?_ | refine wOs fun K hK => ?_ | refine wQs fun K hK => ?_ | refine CallK_plain ?_ | refine CallQ_plain ?_ | refine CallR_plain ?_ | refine wCond ?_); simp) | (refine wIn ?_; refine And.intro (by kernel_rfl) ?_; try simp only [thenA_n]) | (first | refine wBlock ?_ | refine wScope ?_) | ((first | refine wRet ?_ | refine wExit ?_ | refine wSkip ?_); try simp) | ((first | refine wLabel ?_ | refine wOn ?_ | refine wQn ?_); try simp only [thenA_n])
  refine wLoop (fun N st => ∃ k, k + 1 + N = M.length ∧ st.s 3 = .p (.sl 2 (zxs M)) ∧ st.s 4 = .p (I ((k + 1 : Nat) : Int)) ∧ risesB (M.drop k) = risesB M) (M.length - 1) ⟨0, by omega, by simp⟩ fun K N st hL ⟨k, hk, g3, g4, hi⟩ => ?_
  by_cases hlt : k + 1 < M.length
  · have hlt' : ((k + 1 : Nat) : Int) < M.length := by omega
    have hk0 : k < M.length := by omega
    have hw : IntKind.i64.wrap (((k + 1 : Nat) : Int) + 1) = ((k + 1 + 1 : Nat) : Int) := by rw [wrap_id] <;> omega
    have hw2 : IntKind.i64.wrap (((k + 1 : Nat) : Int) - 1) = (k : Int) := by rw [wrap_id] <;> omega
    rw [List.drop_eq_getElem_cons hk0, List.drop_eq_getElem_cons hlt, risesB, ← List.drop_eq_getElem_cons hlt] at hi
    have cc := cmp02_con M[k].e M[k].n M[k + 1].e M[k + 1].n
    generalize zcmp M[k].e M[k].n M[k + 1].e M[k + 1].n = q at *
    generalize hj : k + 1 = j at *
    by_cases o : q < 0
    · rw [decide_eq_true o, Bool.true_and] at hi
      have o' : ¬ (0 ≤ q) := by omega
      repeat' first | (refine CallE.pure (cc) rfl ?_) | (refine CallE.lent (cc) rfl ?_) | (refine CallF.pure (cc) rfl ?_) | (refine CallF.lent (cc) rfl ?_) | (refine CallE.own (cc) ?_) | (refine CallH.pure (cc) rfl ?_) | (refine CallH.lent (cc) rfl ?_) | (refine CallH.own (cc) ?_) | (refine hK _ ?_; clear hK) | (refine hK _ _ ?_; clear hK) | (clear hK; refine hK _ ?_; clear hK) | (clear hK; clear hK; refine hK _ ?_; clear hK) | (clear hK; clear hK; clear hK; refine hK _ ?_; clear hK) | (clear hK; clear hK; clear hK; clear hK; refine hK _ ?_; clear hK) | (refine wSeq fun K hK => ?_) | ((first | refine wReg ?_ | refine wDrwQ rfl (by kernel_rfl) ?_ | refine wDrwI ?_ | refine wDrw (by kernel_rfl) ?_); simp only [List.map_cons, List.map_nil, strip]) | ((first | refine wIs fun K hK => ?_ | refine wOs fun K hK => ?_ | refine wQs fun K hK => ?_ | refine CallK_plain ?_ | refine CallQ_plain ?_ | refine CallR_plain ?_ | refine wCond ?_); simp [g3, g4, hlt, hlt', hk0, hw, hw2, o, o']) | (refine wIn ?_; refine And.intro (by kernel_rfl) ?_; try simp only [thenA_n]) | (first | refine wBlock ?_ | refine wScope ?_) | ((first | refine wRet ?_ | refine wExit ?_ | refine wSkip ?_); try simp) | ((first | refine wLabel ?_ | refine wOn ?_ | refine wQn ?_); try simp only [thenA_n])
      refine hL _ (N - 1) (by omega) ⟨j, by omega, ?_⟩
      simp [g3, g4, hw, hi]
    · rw [decide_eq_false o, Bool.false_and] at hi
      have o' : 0 ≤ q := by omega
      rw [← hi] at hr
      repeat' first | (refine CallE.pure (cc) rfl ?_) | (refine CallE.lent (cc) rfl ?_) | (refine CallF.pure (cc) rfl ?_) | (refine CallF.lent (cc) rfl ?_) | (refine CallE.own (cc) ?_) | (refine CallH.pure (cc) rfl ?_) | (refine CallH.lent (cc) rfl ?_) | (refine CallH.own (cc) ?_) | (refine hK _ ?_; clear hK) | (refine hK _ _ ?_; clear hK) | (clear hK; refine hK _ ?_; clear hK) | (clear hK; clear hK; refine hK _ ?_; clear hK) | (clear hK; clear hK; clear hK; refine hK _ ?_; clear hK) | (clear hK; clear hK; clear hK; clear hK; refine hK _ ?_; clear hK) | (refine wSeq fun K hK => ?_) | ((first | refine wReg ?_ | refine wDrwQ rfl (by kernel_rfl) ?_ | refine wDrwI ?_ | refine wDrw (by kernel_rfl) ?_); simp only [List.map_cons, List.map_nil, strip]) | ((first | refine wIs fun K hK => ?_ | refine wOs fun K hK => ?_ | refine wQs fun K hK => ?_ | refine CallK_plain ?_ | refine CallQ_plain ?_ | refine CallR_plain ?_ | refine wCond ?_); simp [g3, g4, hlt, hlt', hk0, hw, hw2, o, o']) | (refine wIn ?_; refine And.intro (by kernel_rfl) ?_; try simp only [thenA_n]) | (first | refine wBlock ?_ | refine wScope ?_) | ((first | refine wRet ?_ | refine wExit ?_ | refine wSkip ?_); try simp) | ((first | refine wLabel ?_ | refine wOn ?_ | refine wQn ?_); try simp only [thenA_n])
      all_goals apply hr
      all_goals simp [Try.f15]
  · have hlt' : ¬ ((k + 1 : Nat) : Int) < M.length := by omega
    have hd : risesB (M.drop k) = true := by
      have : (M.drop k).length = 1 := by rw [List.length_drop]; omega
      match hm : M.drop k, this with
      | [x], _ => rfl
    rw [hd] at hi
    rw [← hi] at hr
    generalize k + 1 = j at *
    repeat' first | (refine hK _ ?_; clear hK) | (refine hK _ _ ?_; clear hK) | (clear hK; refine hK _ ?_; clear hK) | (clear hK; clear hK; refine hK _ ?_; clear hK) | (clear hK; clear hK; clear hK; refine hK _ ?_; clear hK) | (clear hK; clear hK; clear hK; clear hK; refine hK _ ?_; clear hK) | (refine wSeq fun K hK => ?_) | ((first | refine wReg ?_ | refine wDrwQ rfl (by kernel_rfl) ?_ | refine wDrwI ?_ | refine wDrw (by kernel_rfl) ?_); simp only [List.map_cons, List.map_nil, strip]) | ((first | refine wIs fun K hK => ?_ | refine wOs fun K hK => ?_ | refine wQs fun K hK => ?_ | refine CallK_plain ?_ | refine CallQ_plain ?_ | refine CallR_plain ?_ | refine wCond ?_); simp [g3, g4, hlt, hlt']) | (refine wIn ?_; refine And.intro (by kernel_rfl) ?_; try simp only [thenA_n]) | (first | refine wBlock ?_ | refine wScope ?_) | ((first | refine wRet ?_ | refine wExit ?_ | refine wSkip ?_); try simp) | ((first | refine wLabel ?_ | refine wOn ?_ | refine wQn ?_); try simp only [thenA_n])
    all_goals apply hr
    all_goals simp [Try.f15]
theorem lastH16_con (h : Hy) (hl : h.lg.length ≤ 1000) : ACon Try.prog 16 [.p (.agg h.cells)] (.p (.agg [I (lastH h).e, I (lastH h).n])) := by
  unfold lastH
  by_cases h0 : h.lg.length = 0
  · have h0' : (h.lg.length : Int) = 0 := by omega
    rw [if_pos h0]
    unfold Hy.cells at *
    refine wBody Try.tab Try.mixed Try.func16 rfl rfl Try.ntmps16 (by simp) (by simp) fun Q hr hn => ?_
    repeat' first | (refine hK _ ?_; clear hK) | (refine hK _ _ ?_; clear hK) | (clear hK; refine hK _ ?_; clear hK) | (clear hK; clear hK; refine hK _ ?_; clear hK) | (clear hK; clear hK; clear hK; refine hK _ ?_; clear hK) | (clear hK; clear hK; clear hK; clear hK; refine hK _ ?_; clear hK) | (refine wSeq fun K hK => ?_) | ((first | refine wReg ?_ | refine wDrwQ rfl (by kernel_rfl) ?_ | refine wDrwI ?_ | refine wDrw (by kernel_rfl) ?_); simp only [List.map_cons, List.map_nil, strip]) | ((first | refine wIs fun K hK => ?_ | refine wOs fun K hK => ?_ | refine wQs fun K hK => ?_ | refine CallK_plain ?_ | refine CallQ_plain ?_ | refine CallR_plain ?_ | refine wCond ?_); simp [h0, h0']) | (refine wIn ?_; refine And.intro (by kernel_rfl) ?_; try simp only [thenA_n]) | (first | refine wBlock ?_ | refine wScope ?_) | ((first | refine wRet ?_ | refine wExit ?_ | refine wSkip ?_); try simp) | ((first | refine wLabel ?_ | refine wOn ?_ | refine wQn ?_); try simp only [thenA_n])
    all_goals apply hr
    all_goals simp [Try.f16]
  · have h0' : ¬ (h.lg.length : Int) = 0 := by omega
    rw [if_neg h0]
    have hlt : h.lg.length - 1 < h.lg.length := by omega
    have hg : h.lg.getD (h.lg.length - 1) tx0 = h.lg[h.lg.length - 1] := by rw [List.getD_eq_getElem?_getD, List.getElem?_eq_getElem hlt]; rfl
    rw [hg]
    have hw : IntKind.i64.wrap ((h.lg.length : Int) - 1) = ((h.lg.length - 1 : Nat) : Int) := by rw [wrap_id] <;> omega
    have he := txns_get hlt
    generalize h.lg.length - 1 = j at *
    unfold Hy.cells at *
    refine wBody Try.tab Try.mixed Try.func16 rfl rfl Try.ntmps16 (by simp) (by simp) fun Q hr hn => ?_
    repeat' first | (refine hK _ ?_; clear hK) | (refine hK _ _ ?_; clear hK) | (clear hK; refine hK _ ?_; clear hK) | (clear hK; clear hK; refine hK _ ?_; clear hK) | (clear hK; clear hK; clear hK; refine hK _ ?_; clear hK) | (clear hK; clear hK; clear hK; clear hK; refine hK _ ?_; clear hK) | (refine wSeq fun K hK => ?_) | ((first | refine wReg ?_ | refine wDrwQ rfl (by kernel_rfl) ?_ | refine wDrwI ?_ | refine wDrw (by kernel_rfl) ?_); simp only [List.map_cons, List.map_nil, strip]) | ((first | refine wIs fun K hK => ?_ | refine wOs fun K hK => ?_ | refine wQs fun K hK => ?_ | refine CallK_plain ?_ | refine CallQ_plain ?_ | refine CallR_plain ?_ | refine wCond ?_); simp [h0, h0', hw, hlt, he]) | (refine wIn ?_; refine And.intro (by kernel_rfl) ?_; try simp only [thenA_n]) | (first | refine wBlock ?_ | refine wScope ?_) | ((first | refine wRet ?_ | refine wExit ?_ | refine wSkip ?_); try simp) | ((first | refine wLabel ?_ | refine wOn ?_ | refine wQn ?_); try simp only [thenA_n])
    all_goals apply hr
    all_goals simp [Try.f16]
def upL (z : Zx) (l : List Tx) : List Tx := l.filter fun t => decide (zcmp t.e t.n z.e z.n ≤ 0)
theorem psum_filter (p : Tx → Bool) : ∀ l : List Tx, psum (l.filter p) ≤ psum l
  | [] => by simp
  | t :: l => by
    have := psum_filter p l
    rw [List.filter_cons, psum_cons]
    split
    · rw [psum_cons]; omega
    · omega
theorem OkH.fits {h : Hy} (hk : OkH h) (n : Nat) (hn : n ≤ 900000) : Fits h.im n := ⟨by have := hk.ns; omega, by have := hk.ss; omega, by have := hk.c; unfold okC; omega⟩
theorem OkH.okT {h : Hy} (hk : OkH h) : ∀ t ∈ h.lg, okT t := fun t ht p hp => by have := (hk.ps t ht).2 p hp; unfold okC; omega
theorem OkH.up {h : Hy} (hk : OkH h) (z : Zx) (l : List Tx) (hl : ∀ t ∈ l, t ∈ h.lg) (hp : psum l ≤ 100000) : Fits (allS h.im (upL z l)) 100000 :=
  allS_fits (n := 100000) _ (hk.fits _ (by have := psum_filter (fun t => decide (zcmp t.e t.n z.e z.n ≤ 0)) l; unfold upL; omega)) fun t ht => hk.okT t (hl t (List.mem_filter.1 ht).1)
end Go.Proofs.Yteicecbjahhjmaa
/- Learners: what stays true of one, whatever happens to it. -/
namespace Go.Proofs.Yteicecbjahhjmaa
set_option linter.unusedSimpArgs false
set_option linter.unusedVariables false
open Go Go.Av
/-- What happens to a learner. -/
structure Ev22 where
  (k n : Int)
  (m : Mg)
def tickM (p : Lp) : List Mg := if p.mo = 3 ∧ ¬ 8 < (tickP p).wt ∧ p.ph = 1 then [comeM p] else []
def actR (p : Lp) (e : Ev22) : HR :=
  if e.k = 0 then hearR p e.m else if e.k = 1 then ⟨tickQ p, tickM p, !decide (p.mo = 3 ∧ 8 < (tickP p).wt)⟩ else ⟨p, [], !decide (p.mo = 3 ∧ e.n = p.ld)⟩
/-- A history without too much in it. -/
structure HB (k : Nat) (h : Hy) : Prop where
  ns : h.im.ns.length ≤ 200
  ss : h.im.ss.length ≤ 200
  c : h.im.c.ms.length ≤ 200
  lg : h.lg.length ≤ k
  ps : ∀ t ∈ h.lg, t.ps.length ≤ 200 ∧ ∀ x ∈ t.ps, x.c.ms.length ≤ 200
theorem HB.mono {k l : Nat} {h : Hy} (b : HB k h) (hl : k ≤ l) : HB l h := ⟨b.ns, b.ss, b.c, Nat.le_trans b.lg hl, b.ps⟩
theorem HB.ok {k : Nat} {h : Hy} (b : HB k h) (hk : k ≤ 400) : OkH h := by
  have hlg := b.lg
  refine ⟨by have := b.ns; omega, by have := b.ss; omega, by have := b.c; omega, by omega, fun t ht => ⟨by have := (b.ps t ht).1; omega, fun p hp => by have := (b.ps t ht).2 p hp; omega⟩, ?_⟩
  have key : ∀ l : List Tx, (∀ t ∈ l, t.ps.length ≤ 200) → (l.map fun t => t.ps.length).sum ≤ l.length * 200 := by
    intro l
    induction l with
    | nil => intro _; simp
    | cons t l ih =>
      intro h
      have h1 := h t (by simp)
      have h2 := ih fun t' h' => h t' (by simp [h'])
      simp only [List.map_cons, List.sum_cons, List.length_cons]; omega
  have := key h.lg fun t ht => (b.ps t ht).1
  omega
/-- Whose plans and transactions are not too large. -/
structure NearM (m : Mg) : Prop where
  pl : HB 30 ⟨m.pim, m.pl⟩
  tx : m.tx.ps.length ≤ 200 ∧ ∀ x ∈ m.tx.ps, x.c.ms.length ≤ 200
theorem NearM.ok {m : Mg} (h : NearM m) : OkM m := by
  refine ⟨?_, by have := h.pl.lg; simp only at this; omega, fun x hx => ?_, ?_⟩
  · exact HB.ok (k := 0) ⟨h.pl.ns, h.pl.ss, h.pl.c, by simp, by simp⟩ (by omega)
  · have := h.pl.ps x hx
    exact ⟨by omega, fun p hp => by have := this.2 p hp; omega⟩
  · exact ⟨by have := h.tx.1; omega, fun p hp => by have := h.tx.2 p hp; omega⟩
theorem sum_mem : ∀ {l : List Nat} {x : Nat}, x ∈ l → x ≤ l.sum
  | a :: l, x, h => by
    rw [List.sum_cons]
    rcases List.mem_cons.1 h with rfl | h
    · omega
    · have := sum_mem h; omega
theorem near_HB {h : Hy} (hn : near22 h) : HB 30 h := by
  obtain ⟨h1, h2, h3⟩ := hn
  unfold wH at h3
  refine ⟨by omega, by omega, by omega, h1, fun t ht => ⟨by have := h2 t ht; omega, fun p hp => ?_⟩⟩
  have a : wT t ≤ (h.lg.map wT).sum := sum_mem (List.mem_map.2 ⟨t, ht, rfl⟩)
  have b : p.c.ms.length ≤ (t.ps.map fun p => p.c.ms.length).sum := sum_mem (List.mem_map.2 ⟨p, hp, rfl⟩)
  have a' : wT t = t.ps.length + (t.ps.map fun p => p.c.ms.length).sum := rfl
  omega
/-! ### What grows, rises -/
theorem follows_risesL : ∀ (l : List Tx) (z : Zx), follows z l = risesB (z :: l.map fun t => ⟨t.e, t.n⟩)
  | [], _ => rfl
  | t :: l, z => by
    rw [follows, follows_risesL l, List.map_cons, risesB]
    have : zcmp t.e t.n z.e z.n ≤ 0 ↔ ¬ zcmp z.e z.n t.e t.n < 0 := by
      have a := zlt_iff z ⟨t.e, t.n⟩
      unfold zlt at a
      rw [a, show zcmp t.e t.n z.e z.n ≤ 0 ↔ ¬ 0 < zcmp t.e t.n z.e z.n by omega, zcmp_pos]
      first | omega | (simp only; omega) | skip
    by_cases o : zcmp t.e t.n z.e z.n ≤ 0
    · rw [if_pos o, decide_eq_false (this.1 o), Bool.false_and]
    · rw [if_neg o, decide_eq_true (by rw [this] at o; exact Decidable.not_not.1 o), Bool.true_and]
theorem lastH_mksL (h : Hy) : ∃ hj : h.lg.length < (mks h).length, lastH h = (mks h)[h.lg.length] := by
  have hml := mks_len h
  refine ⟨by omega, ?_⟩
  unfold lastH mks
  by_cases h0 : h.lg.length = 0
  · rw [if_pos h0]
    have e : h.lg = [] := List.length_eq_zero_iff.1 h0
    simp [e]
  · rw [if_neg h0]
    obtain ⟨j, hj⟩ : ∃ j, h.lg.length = j + 1 := ⟨h.lg.length - 1, by omega⟩
    have hlt : j < h.lg.length := by omega
    simp only [hj, Nat.add_sub_cancel, List.getElem_cons_succ, List.getElem_map]
    rw [List.getD_eq_getElem?_getD, List.getElem?_eq_getElem hlt]; rfl
theorem grow_rises {h : Hy} {l : List Tx} (hr : risesB (mks h) = true) (hg : growOk h l = true) : risesB (mks { h with lg := h.lg ++ l }) = true := by
  have e : mks { h with lg := h.lg ++ l } = mks h ++ l.map fun t => (⟨t.e, t.n⟩ : Zx) := by simp [mks]
  rw [e]
  refine pw_rises (List.pairwise_append.2 ⟨rises_pw hr, ?_, fun a ha b hb => ?_⟩)
  · unfold growOk at hg
    rw [follows_risesL] at hg
    exact rises_pw (rises_tail hg)
  · unfold growOk at hg
    rw [follows_risesL] at hg
    have hlast := rises_all _ _ hg b hb
    obtain ⟨hj, he⟩ := lastH_mksL h
    rw [he] at hlast
    obtain ⟨i, hi, rfl⟩ := List.getElem_of_mem ha
    have hml := mks_len h
    by_cases o : i = h.lg.length
    · subst o; exact hlast
    · exact zlt_trans (List.pairwise_iff_getElem.1 (rises_pw hr) i h.lg.length hi hj (by omega)) hlast
theorem take_rises {h : Hy} (hr : risesB (mks h) = true) (n : Nat) : risesB (mks { h with lg := h.lg.take n }) = true := by
  refine pw_rises ((rises_pw hr).sublist ?_)
  unfold mks
  simp only
  refine List.Sublist.cons_cons _ ?_
  exact (List.take_sublist n h.lg).map _
theorem upto_rises {h : Hy} (hr : risesB (mks h) = true) (z : Zx) : risesB (mks (uptoH h z)) = true := by
  unfold uptoH
  split
  · exact take_rises hr _
  · exact hr
theorem plan_rises {h : Hy} {m : Mg} (hr : risesB (mks h) = true) (he : (planOf h m).2 = 0) : risesB (mks (planOf h m).1) = true := by
  unfold planOf doG at *
  by_cases h12 : m.pk = 1 ∨ m.pk = 2
  · rw [if_pos h12] at he ⊢
    unfold doH at he ⊢
    by_cases q1 : m.pk = 2 ∧ plc m.pz (mks h) 0 = none
    · rw [if_pos q1] at he; simp at he
    rw [if_neg q1] at he ⊢
    by_cases q2 : growOk (if m.pk = 2 then uptoH h m.pz else h) m.pl = true
    · rw [if_pos q2]
      refine grow_rises ?_ q2
      split
      · exact upto_rises hr _
      · exact hr
    · rw [if_neg q2] at he; simp at he
  rw [if_neg h12] at he ⊢
  by_cases h3 : m.pk = 3
  · rw [if_pos h3] at he ⊢
    by_cases q : growOk ⟨m.pim, []⟩ m.pl = true
    · simp only [if_pos q]
      have := grow_rises (h := ⟨m.pim, []⟩) (by rfl) q
      simpa using this
    · simp only [if_neg q] at he; simp at he
  · rw [if_neg h3] at he; simp at he
theorem plan_HB {k : Nat} {h : Hy} {m : Mg} (b : HB k h) (hm : NearM m) : HB (k + 30) (planOf h m).1 := by
  have hp := hm.pl
  have hlg := hp.lg
  simp only at hlg
  have key : ∀ g : Hy, HB k g → HB (k + 30) { g with lg := g.lg ++ m.pl } := fun g c => by
    refine ⟨c.ns, c.ss, c.c, ?_, fun t ht => ?_⟩
    · have := c.lg; simp; omega
    · rcases List.mem_append.1 ht with ht | ht
      · exact c.ps t ht
      · exact hp.ps t ht
  have hu : HB k (uptoH h m.pz) := by
    unfold uptoH
    split
    · refine ⟨b.ns, b.ss, b.c, ?_, fun t ht => b.ps t (List.mem_of_mem_take ht)⟩
      have := b.lg; simp; omega
    · exact b
  unfold planOf doG
  by_cases h12 : m.pk = 1 ∨ m.pk = 2
  · rw [if_pos h12]
    unfold doH
    by_cases q1 : m.pk = 2 ∧ plc m.pz (mks h) 0 = none
    · rw [if_pos q1]; exact b.mono (by omega)
    rw [if_neg q1]
    by_cases q2 : growOk (if m.pk = 2 then uptoH h m.pz else h) m.pl = true
    · rw [if_pos q2]
      by_cases q3 : m.pk = 2
      · rw [if_pos q3]; exact key _ hu
      · rw [if_neg q3]; exact key _ b
    · rw [if_neg q2]; exact b.mono (by omega)
  rw [if_neg h12]
  by_cases h3 : m.pk = 3
  · rw [if_pos h3]
    by_cases q : growOk ⟨m.pim, []⟩ m.pl = true
    · simp only [if_pos q]; exact hp.mono (by omega)
    · simp only [if_neg q]; exact b.mono (by omega)
  · rw [if_neg h3]; exact b.mono (by omega)
/-! ### A learner -/
structure Wh where
  (id ld ac cu : Int)
  (h : Hy)
structure Inv (w : Wh) (j : Nat) (p : Lp) : Prop where
  id : p.id = w.id
  ld : p.ld = w.ld
  mo : p.mo = 3
  ph : p.ph = 1 ∨ p.ph = 2 ∨ p.ph = 3 ∨ p.ph = 4
  wh : HB 30 w.h
  early : p.ph = 1 ∨ p.ph = 2 → p.h = w.h
  hb : HB (60 + j) p.h
  ep : ¬ p.ph = 1 → p.ep = p.ac ∧ owner p.ep = p.ld
  cu : p.ph = 3 ∨ p.ph = 4 → p.cu = p.ep
  ri : risesB (mks p.h) = true
  dn : p.d ∈ mks p.h
theorem Inv.mono {w : Wh} {j k : Nat} {p : Lp} (i : Inv w j p) (h : j ≤ k) : Inv w k p := ⟨i.id, i.ld, i.mo, i.ph, i.wh, i.early, i.hb.mono (by omega), i.ep, i.cu, i.ri, i.dn⟩
theorem Inv.wait {w : Wh} {j : Nat} {p : Lp} (i : Inv w j p) (x : Int) : Inv w j { p with wt := x } := ⟨i.id, i.ld, i.mo, i.ph, i.wh, i.early, i.hb, i.ep, i.cu, i.ri, i.dn⟩
theorem Inv.known {w : Wh} {j : Nat} {p : Lp} (i : Inv w j p) (z : Zx) : Inv w j (knownP p z) := by
  unfold knownP
  split
  · rename_i h
    exact ⟨i.id, i.ld, i.mo, i.ph, i.wh, i.early, i.hb, i.ep, i.cu, i.ri, h.1⟩
  · exact i
theorem Inv.grown {w : Wh} {j : Nat} {p : Lp} (i : Inv w j p) (h34 : p.ph = 3 ∨ p.ph = 4) {t : Tx} (ht : t.ps.length ≤ 200 ∧ ∀ x ∈ t.ps, x.c.ms.length ≤ 200) (hg : growOk p.h [t] = true) : Inv w (j + 1) { p with h := { p.h with lg := p.h.lg ++ [t] } } := by
  refine ⟨i.id, i.ld, i.mo, i.ph, i.wh, fun h => ?_, ⟨i.hb.ns, i.hb.ss, i.hb.c, ?_, fun s hs => ?_⟩, i.ep, i.cu, grow_rises i.ri hg, ?_⟩
  · simp only at h; omega
  · have := i.hb.lg; simp; omega
  · rcases List.mem_append.1 hs with hs | hs
    · exact i.hb.ps s hs
    · rw [List.mem_singleton.1 hs]; exact ht
  · have := i.dn
    unfold mks at *
    simp only [List.map_append, List.mem_cons, List.mem_append] at *
    rcases this with h | h
    · exact .inl h
    · exact .inr (.inl h)
theorem Inv.growP {w : Wh} {j : Nat} {p : Lp} (i : Inv w j p) (h34 : p.ph = 3 ∨ p.ph = 4) {t : Tx} (ht : t.ps.length ≤ 200 ∧ ∀ x ∈ t.ps, x.c.ms.length ≤ 200) : Inv w (j + 1) (growP p t) := by
  unfold Go.Proofs.Yteicecbjahhjmaa.growP
  split
  · rename_i hg; exact i.grown h34 ht hg
  · exact i.mono (by omega)
theorem Inv.hear {w : Wh} {j : Nat} {p : Lp} {m : Mg} (i : Inv w j p) (hm : NearM m) : Inv w (j + 1) (hearR p m).p := by
  unfold hearR
  split
  case isFalse => exact i.mono (by omega)
  rename_i hf
  split
  · rename_i h1
    split
    · unfold promR
      split
      · rename_i ho
        split
        · exact i.mono (by omega)
        · exact ⟨i.id, i.ld, i.mo, .inr (.inl rfl), i.wh, fun _ => i.early (.inl h1), i.hb.mono (by omega), fun _ => ⟨rfl, ho⟩, fun h => by simp [promP] at h, i.ri, i.dn⟩
      · exact i.mono (by omega)
    · exact i.mono (by omega)
  rename_i h1
  split
  · rename_i h2
    split
    · unfold syncR
      split
      · rename_i he
        have hw := i.early (.inr h2)
        have hb30 : HB 30 p.h := by rw [hw]; exact i.wh
        have hb := plan_HB hb30 hm
        have hr := plan_rises i.ri he
        refine ⟨i.id, i.ld, i.mo, .inr (.inr (.inl rfl)), i.wh, fun h => by simp [syncP] at h, hb.mono (by omega), fun _ => i.ep h1, fun _ => rfl, hr, ?_⟩
        show doneZ p (planOf p.h m).1 ∈ mks (planOf p.h m).1
        unfold doneZ
        split
        · assumption
        · simp [mks]
      · exact i.mono (by omega)
    · exact i.mono (by omega)
  split
  case isFalse => exact i.mono (by omega)
  rename_i h2 h34
  unfold followR
  split
  · unfold propR
    split
    · rename_i hg
      exact (i.wait 0).grown h34 hm.tx hg
    · exact (i.wait 0).mono (by omega)
  split
  · show Inv w (j + 1) (informP p m)
    unfold informP
    split
    · exact ((i.wait 0).growP h34 hm.tx).known _
    · exact (i.wait 0).growP h34 hm.tx
  split
  · refine Inv.known (j := j + 1) ?_ _
    exact ⟨i.id, i.ld, i.mo, .inr (.inr (.inr rfl)), i.wh, fun h => by simp at h, i.hb.mono (by omega), fun _ => i.ep h1, fun _ => i.cu h34, i.ri, i.dn⟩
  split
  · show Inv w (j + 1) (commitP p m)
    unfold commitP
    split
    · exact ((i.wait 0).known _).mono (by omega)
    · exact (i.wait 0).mono (by omega)
  split
  · exact (i.wait 0).mono (by omega)
  · exact i.mono (by omega)
theorem Inv.act {w : Wh} {j : Nat} {p : Lp} {e : Ev22} (i : Inv w j p) (hm : NearM e.m) : Inv w (j + 1) (actR p e).p := by
  unfold actR
  split
  · exact i.hear hm
  split
  · show Inv w (j + 1) (tickQ p)
    unfold tickQ
    split
    · exact (i.wait _).mono (by omega)
    · exact i.mono (by omega)
  · exact i.mono (by omega)
def beg (w : Wh) : Lp := ⟨w.id, w.ac, w.cu, w.h, ⟨w.h.im.ae, w.h.im.an⟩, 0, 0, 0, 0, 0⟩
theorem Inv.begin {w : Wh} (hb : HB 30 w.h) (hr : risesB (mks w.h) = true) : Inv w 0 (beginP (beg w) w.ld) :=
  ⟨rfl, rfl, rfl, .inl rfl, hb, fun _ => rfl, hb.mono (by omega), fun h => absurd rfl h, fun h => by simp [beginP] at h, hr, by simp [beginP, beg, mks]⟩
/-! ### What is sent -/
theorem act_ac {w : Wh} {j : Nat} {p : Lp} {e : Ev22} (i : Inv w j p) : p.ac ≤ (actR p e).p.ac := by
  have kn : ∀ (q : Lp) (z : Zx), (knownP q z).ac = q.ac := fun q z => by unfold knownP; split <;> rfl
  have gr : ∀ (q : Lp) (t : Tx), (growP q t).ac = q.ac := fun q t => by unfold growP; split <;> rfl
  unfold actR
  split
  · unfold hearR promR syncR followR propR informP commitP
    repeat' split
    all_goals simp only [promP, syncP, tookP, kn, gr]
    all_goals omega
  split
  · unfold tickQ tickP; split <;> simp
  · simp
theorem act_out {w : Wh} {j : Nat} {p : Lp} {e : Ev22} (i : Inv w j p) : ∀ x ∈ (actR p e).l, x.fr = w.id ∧ x.to = w.ld ∧ x.ep = (actR p e).p.ac ∧ (x.kd = 2 ∨ owner x.ep = w.ld) := by
  have hid := i.id
  have hld := i.ld
  unfold actR
  split
  · unfold hearR
    split
    case isFalse => simp
    split
    · split
      · unfold promR
        split
        · rename_i ho
          split
          · simp
          · intro x hx
            obtain rfl := List.mem_singleton.1 hx
            exact ⟨hid, hld, rfl, .inr (by rw [← hld]; exact ho)⟩
        · simp
      · simp
    rename_i h1
    obtain ⟨e1, e2⟩ := i.ep h1
    split
    · split
      · unfold syncR
        split
        · intro x hx
          obtain rfl := List.mem_singleton.1 hx
          exact ⟨hid, hld, e1, .inr (by rw [← hld]; exact e2)⟩
        · simp
      · simp
    split
    case isFalse => simp
    unfold followR
    split
    · unfold propR
      split
      · intro x hx
        obtain rfl := List.mem_singleton.1 hx
        exact ⟨hid, hld, e1, .inr (by rw [← hld]; exact e2)⟩
      · simp
    repeat' split
    all_goals try simp only [List.not_mem_nil, false_implies, implies_true]
    all_goals intro x hx
    all_goals obtain rfl := List.mem_singleton.1 hx
    all_goals exact ⟨hid, hld, e1, .inr (by rw [← hld]; exact e2)⟩
  split
  · have hac : (tickQ p).ac = p.ac := by unfold tickQ tickP; split <;> rfl
    show ∀ x ∈ tickM p, _ ∧ _ ∧ x.ep = (tickQ p).ac ∧ _
    rw [hac]
    unfold tickM
    split
    · intro x hx
      obtain rfl := List.mem_singleton.1 hx
      exact ⟨hid, hld, rfl, .inl rfl⟩
    · simp
  · simp
end Go.Proofs.Yteicecbjahhjmaa
