/- Texts that the proof needs: IX XC XL XM NG NH XN XO XP HI HM IB. -/
import Derived.Test.YtegoihognjpcjaaP18HistoryOne
import Derived.Test.YtegoihognjpcjaaP24HistoryOne
import Derived.Test.YtegoihognjpcjaaP12HistoryOne
import Derived.WalkKit
import Derived.Deep.RegionLaw
import Derived.Test.YtegoihognjpcjaaP23HistoryOne
import Derived.Test.YtegoihognjpcjaaP16HistoryOne
import Derived.Test.YtegoihognjpcjaaP22HistoryOne
import Derived.TacticsInMore
import Derived.LoopNIn
import Derived.LoopIn
import Derived.OwnWalkIn
/- slices.Insert of one number. -/
namespace Go.Proofs.Ytegoihognjpcjaa
set_option linter.unusedSimpArgs false
set_option linter.unusedVariables false
open Go Go.Av Go.Lib Go.RowKit
end Go.Proofs.Ytegoihognjpcjaa


/- States: a session opened, a session closed. -/
namespace Go.Proofs.Ytegoihognjpcjaa
set_option linter.unusedSimpArgs false
set_option linter.unusedVariables false
open Go Go.Av
attribute [local simp] Try.T1 Try.T2 Try.T3 Try.T4 Try.T5 Try.T9 Try.T12 Try.T15 Try.T16 Try.T17 Try.T21 Try.T22 Try.T23 Try.T25 Try.T26 Try.T28 Try.T30 Try.T31 Try.T33 Try.T34 Try.T35 Try.T36 Try.T37 Try.T38 Try.T40 Try.T42 Try.T43 Try.T44 Try.T45 Try.T46 Try.T48 Try.T49 Try.T50 Try.T51 Try.T52 Try.T53 Try.T54 Try.T55 Try.T56 Try.T57 Try.T58 Try.T59 Try.T60 Try.T61 Try.T62 Try.T64 Try.T66 Try.T67 Try.T68 Try.T69 Try.T70 Try.T71 Try.T72 Try.T73 Try.T74 Try.T75 Try.T76 Try.T77 Try.T78 Try.T80 Try.T81 Try.T82 Try.T83 Try.T84 Try.T85 Try.T86 Try.T88 Try.T89 Try.T90 Try.T91 Try.T92 Try.T93 Try.T94 Try.T95 Try.T96 Try.T97 Try.T98 Try.T99 Try.T100 Try.T101 Try.T102 Try.T103 Try.T104 Try.T105 Try.T106 Try.T107 Try.T108 Try.T109 Try.T110 Try.T111 Try.T112 Try.T113 Try.T116 Try.T119 Try.T120 Try.T123 Try.T124
attribute [local irreducible] Go.Av.CallK Go.Av.CallE Go.Av.CallQ Go.Av.CallF Go.Av.CallR Go.Av.CallH Go.Av.Con
/-! ### Where a session stands -/
def atI : List Int → Int → Nat
  | [], _ => 0
  | x :: r, s => if x < s then atI r s + 1 else 0
def insI (l : List Int) (s : Int) : List Int := (but l s).take (atI l s) ++ s :: (but l s).drop (atI l s)
def okS (s : Int) : Bool := decide (1 ≤ s ∧ s ≤ 1099511627776)
def opnL (l : List Int) (s : Int) : List Int := if okS s = true then insI l s else l
def opnN (nx s : Int) : Int := if okS s = true then max nx (s + 1) else nx
end Go.Proofs.Ytegoihognjpcjaa


/- States: the document's copies and lists without a number. -/
namespace Go.Proofs.Ytegoihognjpcjaa
set_option linter.unusedSimpArgs false
set_option linter.unusedVariables false
open Go Go.Av
attribute [local simp] Try.T1 Try.T2 Try.T3 Try.T4 Try.T5 Try.T9 Try.T12 Try.T15 Try.T16 Try.T17 Try.T21 Try.T22 Try.T23 Try.T25 Try.T26 Try.T28 Try.T30 Try.T31 Try.T33 Try.T34 Try.T35 Try.T36 Try.T37 Try.T38 Try.T40 Try.T42 Try.T43 Try.T44 Try.T45 Try.T46 Try.T48 Try.T49 Try.T50 Try.T51 Try.T52 Try.T53 Try.T54 Try.T55 Try.T56 Try.T57 Try.T58 Try.T59 Try.T60 Try.T61 Try.T62 Try.T64 Try.T66 Try.T67 Try.T68 Try.T69 Try.T70 Try.T71 Try.T72 Try.T73 Try.T74 Try.T75 Try.T76 Try.T77 Try.T78 Try.T80 Try.T81 Try.T82 Try.T83 Try.T84 Try.T85 Try.T86 Try.T88 Try.T89 Try.T90 Try.T91 Try.T92 Try.T93 Try.T94 Try.T95 Try.T96 Try.T97 Try.T98 Try.T99 Try.T100 Try.T101 Try.T102 Try.T103 Try.T104 Try.T105 Try.T106 Try.T107 Try.T108 Try.T109 Try.T110 Try.T111 Try.T112 Try.T113 Try.T116 Try.T119 Try.T120 Try.T123 Try.T124
attribute [local irreducible] Go.Av.CallK Go.Av.CallE Go.Av.CallQ Go.Av.CallF Go.Av.CallR Go.Av.CallH Go.Av.Con
theorem zis_snoc (l : List Int) (a : Int) : zis l ++ [[I a]] = zis (l ++ [a]) := by simp [zis]
theorem but_take_len (l : List Int) (n : Int) (k : Nat) : (but (l.take k) n).length ≤ k := Nat.le_trans (but_len _ _) (by simp; omega)
theorem without08_con (l : List Int) (n : Int) (hl : l.length ≤ 1000000) : ACon Try.prog 64 [.p (.sl 1 (zis l)), .p (I n)] (.p (.sl 1 (zis (but l n)))) := by
  refine wBody Try.tab Try.mixed Try.func64 rfl rfl Try.ntmps64 (by simp) (by simp) fun Q hr hn => ?_
  repeat' first | (refine hK _ ?_; clear hK) | (refine hK _ _ ?_; clear hK) | (clear hK; refine hK _ ?_; clear hK) | (clear hK; clear hK; refine hK _ ?_; clear hK) | (clear hK; clear hK; clear hK; refine hK _ ?_; clear hK) | (clear hK; clear hK; clear hK; clear hK; refine hK _ ?_; clear hK) | (refine wSeq fun K hK => ?_) | ((first | refine wReg ?_ | refine wDrwQ rfl (by kernel_rfl) ?_ | refine wDrwI ?_ | refine wDrw (by kernel_rfl) ?_); simp only [List.map_cons, List.map_nil, strip]) | ((first | refine wIs fun K hK => ?_ | refine wOs fun K hK => ?_ | refine wQs fun K hK => ?_ | refine CallK_plain ?_ | refine CallQ_plain ?_ | refine CallR_plain ?_ | refine wCond ?_); simp) | (refine wIn ?_; refine And.intro (by kernel_rfl) ?_; try simp only [thenA_n]) | (first | refine wBlock ?_ | refine wScope ?_) | ((first | refine wRet ?_ | refine wExit ?_ | refine wSkip ?_); try simp) | ((first | refine wLabel ?_ | refine wOn ?_ | refine wQn ?_); try simp only [thenA_n])
  refine wLoopG [.row 5 3 1] (fun N st => ∃ k, k + N = l.length ∧ st.s 1 = .p (I n) ∧ st.s 8 = .p (.sl 1 (zis l)) ∧ st.s 9 = .p (I l.length) ∧ st.s 10 = .p (I k) ∧ st.s 5 = .row 5 ∧ st.b 5 = some (.row 3 1 (zis (but (l.take k) n)))) l.length ⟨0, by simp [but, zis]⟩ fun K N st hL ⟨k, hk, g1, g8, g9, g10, g5, b5⟩ => ?_
  have hkl := but_take_len l n k
  by_cases hlt : k < l.length
  · have hw := wrapX k _ hlt (by omega)
    have he := zis_get hlt
    have hs := but_snoc hlt n
    have hx := zis_snoc (but (l.take k) n) l[k]
    by_cases o : l[k] = n
    · rw [if_pos o] at hs
      repeat' first | (refine hK _ ?_; clear hK) | (refine hK _ _ ?_; clear hK) | (clear hK; refine hK _ ?_; clear hK) | (clear hK; clear hK; refine hK _ ?_; clear hK) | (clear hK; clear hK; clear hK; refine hK _ ?_; clear hK) | (clear hK; clear hK; clear hK; clear hK; refine hK _ ?_; clear hK) | (refine wSeq fun K hK => ?_) | ((first | refine wReg ?_ | refine wDrwQ rfl (by kernel_rfl) ?_ | refine wDrwI ?_ | refine wDrw (by kernel_rfl) ?_); simp only [List.map_cons, List.map_nil, strip]) | ((first | refine wIs fun K hK => ?_ | refine wOs fun K hK => ?_ | refine wQs fun K hK => ?_ | refine CallK_plain ?_ | refine CallQ_plain ?_ | refine CallR_plain ?_ | refine wCond ?_); simp [g1, g8, g9, g10, g5, b5, hlt, hw, he, o]) | (refine wIn ?_; refine And.intro (by kernel_rfl) ?_; try simp only [thenA_n]) | (first | refine wBlock ?_ | refine wScope ?_) | ((first | refine wRet ?_ | refine wExit ?_ | refine wSkip ?_); try simp) | ((first | refine wLabel ?_ | refine wOn ?_ | refine wQn ?_); try simp only [thenA_n])
      refine hL _ (N - 1) (by omega) ⟨k + 1, by omega, ?_⟩
      simp [g1, g8, g9, g10, g5, b5, hw, hs]
    · rw [if_neg o] at hs
      rw [← hs] at hx
      repeat' first | (refine And.intro (by (try simp at hkl ⊢); omega) ?_) | (refine hK _ ?_; clear hK) | (refine hK _ _ ?_; clear hK) | (clear hK; refine hK _ ?_; clear hK) | (clear hK; clear hK; refine hK _ ?_; clear hK) | (clear hK; clear hK; clear hK; refine hK _ ?_; clear hK) | (clear hK; clear hK; clear hK; clear hK; refine hK _ ?_; clear hK) | (refine wSeq fun K hK => ?_) | ((first | refine wReg ?_ | refine wDrwQ rfl (by kernel_rfl) ?_ | refine wDrwI ?_ | refine wDrw (by kernel_rfl) ?_); simp only [List.map_cons, List.map_nil, strip]) | ((first | refine wIs fun K hK => ?_ | refine wOs fun K hK => ?_ | refine wQs fun K hK => ?_ | refine CallK_plain ?_ | refine CallQ_plain ?_ | refine CallR_plain ?_ | refine wCond ?_); simp [g1, g8, g9, g10, g5, b5, hlt, hw, he, o]) | (refine wIn ?_; refine And.intro (by kernel_rfl) ?_; try simp only [thenA_n]) | (first | refine wBlock ?_ | refine wScope ?_) | ((first | refine wRet ?_ | refine wExit ?_ | refine wSkip ?_); try simp) | ((first | refine wLabel ?_ | refine wOn ?_ | refine wQn ?_); try simp only [thenA_n])
      refine hL _ (N - 1) (by omega) ⟨k + 1, by omega, ?_⟩
      simp [g1, g8, g9, g10, g5, b5, hw, hx]
  · rw [List.take_of_length_le (by omega)] at b5
    repeat' first | (refine hK _ ?_; clear hK) | (refine hK _ _ ?_; clear hK) | (clear hK; refine hK _ ?_; clear hK) | (clear hK; clear hK; refine hK _ ?_; clear hK) | (clear hK; clear hK; clear hK; refine hK _ ?_; clear hK) | (clear hK; clear hK; clear hK; clear hK; refine hK _ ?_; clear hK) | (refine wSeq fun K hK => ?_) | ((first | refine wReg ?_ | refine wDrwQ rfl (by kernel_rfl) ?_ | refine wDrwI ?_ | refine wDrw (by kernel_rfl) ?_); simp only [List.map_cons, List.map_nil, strip]) | ((first | refine wIs fun K hK => ?_ | refine wOs fun K hK => ?_ | refine wQs fun K hK => ?_ | refine CallK_plain ?_ | refine CallQ_plain ?_ | refine CallR_plain ?_ | refine wCond ?_); simp [g1, g8, g9, g10, g5, b5, hlt]) | (refine wIn ?_; refine And.intro (by kernel_rfl) ?_; try simp only [thenA_n]) | (first | refine wBlock ?_ | refine wScope ?_) | ((first | refine wRet ?_ | refine wExit ?_ | refine wSkip ?_); try simp) | ((first | refine wLabel ?_ | refine wOn ?_ | refine wQn ?_); try simp only [thenA_n])
    all_goals apply hr
    all_goals simp [Try.f64, g5, b5]
theorem copied08_con (e n k : Int) (ms : List (List PV)) (hl : ms.length ≤ 4398046510976) : ACon Try.prog 60 [.p (.agg [I e, I n, I k, .sl 4 ms])] (.p (.agg [I e, I n, I k, .sl 4 ms])) := by
  refine wBody Try.tab Try.mixed Try.func60 rfl rfl Try.ntmps60 (by simp) (by simp) fun Q hr hn => ?_
  repeat' first | (refine And.intro (by (try simp); omega) ?_) | (refine Or.inl ?_) | (refine hK _ ?_; clear hK) | (refine hK _ _ ?_; clear hK) | (clear hK; refine hK _ ?_; clear hK) | (clear hK; clear hK; refine hK _ ?_; clear hK) | (clear hK; clear hK; clear hK; refine hK _ ?_; clear hK) | (clear hK; clear hK; clear hK; clear hK; refine hK _ ?_; clear hK) | (refine wSeq fun K hK => ?_) | ((first | refine wReg ?_ | refine wDrwQ rfl (by kernel_rfl) ?_ | refine wDrwI ?_ | refine wDrw (by kernel_rfl) ?_); simp only [List.map_cons, List.map_nil, strip]) | ((first | refine wIs fun K hK => ?_ | refine wOs fun K hK => ?_ | refine wQs fun K hK => ?_ | refine CallK_plain ?_ | refine CallQ_plain ?_ | refine CallR_plain ?_ | refine wCond ?_); simp) | (refine wIn ?_; refine And.intro (by kernel_rfl) ?_; try simp only [thenA_n]) | (first | refine wBlock ?_ | refine wScope ?_) | ((first | refine wRet ?_ | refine wExit ?_ | refine wSkip ?_); try simp) | ((first | refine wLabel ?_ | refine wOn ?_ | refine wQn ?_); try simp only [thenA_n])
  all_goals apply hr
  all_goals simp [Try.f60]
end Go.Proofs.Ytegoihognjpcjaa


/- States: the document's list with a number. -/
namespace Go.Proofs.Ytegoihognjpcjaa
set_option linter.unusedSimpArgs false
set_option linter.unusedVariables false
open Go Go.Av
attribute [local simp] Try.T1 Try.T2 Try.T3 Try.T4 Try.T5 Try.T9 Try.T12 Try.T15 Try.T16 Try.T17 Try.T21 Try.T22 Try.T23 Try.T25 Try.T26 Try.T28 Try.T30 Try.T31 Try.T33 Try.T34 Try.T35 Try.T36 Try.T37 Try.T38 Try.T40 Try.T42 Try.T43 Try.T44 Try.T45 Try.T46 Try.T48 Try.T49 Try.T50 Try.T51 Try.T52 Try.T53 Try.T54 Try.T55 Try.T56 Try.T57 Try.T58 Try.T59 Try.T60 Try.T61 Try.T62 Try.T64 Try.T66 Try.T67 Try.T68 Try.T69 Try.T70 Try.T71 Try.T72 Try.T73 Try.T74 Try.T75 Try.T76 Try.T77 Try.T78 Try.T80 Try.T81 Try.T82 Try.T83 Try.T84 Try.T85 Try.T86 Try.T88 Try.T89 Try.T90 Try.T91 Try.T92 Try.T93 Try.T94 Try.T95 Try.T96 Try.T97 Try.T98 Try.T99 Try.T100 Try.T101 Try.T102 Try.T103 Try.T104 Try.T105 Try.T106 Try.T107 Try.T108 Try.T109 Try.T110 Try.T111 Try.T112 Try.T113 Try.T116 Try.T119 Try.T120 Try.T123 Try.T124
attribute [local irreducible] Go.Av.CallK Go.Av.CallE Go.Av.CallQ Go.Av.CallF Go.Av.CallR Go.Av.CallH Go.Av.Con
def wst1 (n : Int) (q : List Int × Bool) (x : Int) : List Int × Bool :=
  if n ≤ x ∧ q.2 = false then (if x = n then q.1 ++ [n] else q.1 ++ [n] ++ [x], true) else (if x = n then q.1 else q.1 ++ [x], q.2)
def wst (l : List Int) (n : Int) : List Int × Bool := l.foldl (wst1 n) ([], false)
theorem wst_snoc {l : List Int} {k : Nat} (h : k < l.length) (n : Int) : wst (l.take (k + 1)) n = wst1 n (wst (l.take k) n) l[k] := by
  rw [List.take_succ_eq_append_getElem h, wst, List.foldl_append]; rfl
theorem wst_len (n : Int) : ∀ (l : List Int) (q : List Int × Bool), (l.foldl (wst1 n) q).1.length ≤ q.1.length + 2 * l.length
  | [], q => by simp
  | x :: l, q => by
    have := wst_len n l (wst1 n q x)
    have h1 : (wst1 n q x).1.length ≤ q.1.length + 2 := by unfold wst1; split <;> split <;> simp
    simp only [List.foldl_cons, List.length_cons]
    omega
def wth (l : List Int) (n : Int) : List Int := if (wst l n).2 = true then (wst l n).1 else (wst l n).1 ++ [n]
theorem wst_take_len (l : List Int) (n : Int) (k : Nat) : (wst (l.take k) n).1.length ≤ 2 * k := by
  have := wst_len n (l.take k) ([], false)
  have h2 : (l.take k).length ≤ k := by simp; omega
  unfold wst
  simp at this ⊢; omega
theorem with08_con (l : List Int) (n : Int) (hl : l.length ≤ 1000000) : ACon Try.prog 63 [.p (.sl 1 (zis l)), .p (I n)] (.p (.sl 1 (zis (wth l n)))) := by
  refine wBody Try.tab Try.mixed Try.func63 rfl rfl Try.ntmps63 (by simp) (by simp) fun Q hr hn => ?_
  repeat' first | (refine hK _ ?_; clear hK) | (refine hK _ _ ?_; clear hK) | (clear hK; refine hK _ ?_; clear hK) | (clear hK; clear hK; refine hK _ ?_; clear hK) | (clear hK; clear hK; clear hK; refine hK _ ?_; clear hK) | (clear hK; clear hK; clear hK; clear hK; refine hK _ ?_; clear hK) | (refine wSeq fun K hK => ?_) | ((first | refine wReg ?_ | refine wDrwQ rfl (by kernel_rfl) ?_ | refine wDrwI ?_ | refine wDrw (by kernel_rfl) ?_); simp only [List.map_cons, List.map_nil, strip]) | ((first | refine wIs fun K hK => ?_ | refine wOs fun K hK => ?_ | refine wQs fun K hK => ?_ | refine CallK_plain ?_ | refine CallQ_plain ?_ | refine CallR_plain ?_ | refine wCond ?_); simp) | (refine wIn ?_; refine And.intro (by kernel_rfl) ?_; try simp only [thenA_n]) | (first | refine wBlock ?_ | refine wScope ?_) | ((first | refine wRet ?_ | refine wExit ?_ | refine wSkip ?_); try simp) | ((first | refine wLabel ?_ | refine wOn ?_ | refine wQn ?_); try simp only [thenA_n])
  refine wLoopG [.row 5 3 1] (fun N st => ∃ k, k + N = l.length ∧ st.s 1 = .p (I n) ∧ st.s 9 = .p (.sl 1 (zis l)) ∧ st.s 10 = .p (I l.length) ∧ st.s 11 = .p (I k) ∧ st.s 5 = .row 5 ∧ st.s 6 = .p (B (wst (l.take k) n).2) ∧ st.b 5 = some (.row 3 1 (zis (wst (l.take k) n).1))) l.length ⟨0, by simp [wst, zis]⟩ fun K N st hL ⟨k, hk, g1, g9, g10, g11, g5, g6, b5⟩ => ?_
  have hkl := wst_take_len l n k
  by_cases hlt : k < l.length
  · have hw := wrapX k _ hlt (by omega)
    have he := zis_get hlt
    have hs := wst_snoc hlt n
    generalize wst (l.take k) n = q at hs g6 b5 hkl
    obtain ⟨o, d⟩ := q
    dsimp only at g6 b5 hkl
    generalize hx : l[k] = x at hs he
    by_cases h1 : n ≤ x
    · cases d
      · by_cases h2 : x = n
        · have hs' : wst (l.take (k + 1)) n = (o ++ [n], true) := by rw [hs]; simp [wst1, h1, h2]
          repeat' first | (refine And.intro (by (try simp at hkl ⊢); omega) ?_) | (refine hK _ ?_; clear hK) | (refine hK _ _ ?_; clear hK) | (clear hK; refine hK _ ?_; clear hK) | (clear hK; clear hK; refine hK _ ?_; clear hK) | (clear hK; clear hK; clear hK; refine hK _ ?_; clear hK) | (clear hK; clear hK; clear hK; clear hK; refine hK _ ?_; clear hK) | (refine wSeq fun K hK => ?_) | ((first | refine wReg ?_ | refine wDrwQ rfl (by kernel_rfl) ?_ | refine wDrwI ?_ | refine wDrw (by kernel_rfl) ?_); simp only [List.map_cons, List.map_nil, strip]) | ((first | refine wIs fun K hK => ?_ | refine wOs fun K hK => ?_ | refine wQs fun K hK => ?_ | refine CallK_plain ?_ | refine CallQ_plain ?_ | refine CallR_plain ?_ | refine wCond ?_); simp [g1, g9, g10, g11, g5, g6, b5, hlt, hw, he, hx, h1, h2, zis_snoc]) | (refine wIn ?_; refine And.intro (by kernel_rfl) ?_; try simp only [thenA_n]) | (first | refine wBlock ?_ | refine wScope ?_) | ((first | refine wRet ?_ | refine wExit ?_ | refine wSkip ?_); try simp) | ((first | refine wLabel ?_ | refine wOn ?_ | refine wQn ?_); try simp only [thenA_n])
          refine hL _ (N - 1) (by omega) ⟨k + 1, by omega, ?_⟩
          simp [g1, g9, g10, g11, g5, g6, b5, hw, hs', zis_snoc]
        · have hs' : wst (l.take (k + 1)) n = (o ++ [n] ++ [x], true) := by rw [hs]; simp [wst1, h1, h2]
          repeat' first | (refine And.intro (by (try simp at hkl ⊢); omega) ?_) | (refine hK _ ?_; clear hK) | (refine hK _ _ ?_; clear hK) | (clear hK; refine hK _ ?_; clear hK) | (clear hK; clear hK; refine hK _ ?_; clear hK) | (clear hK; clear hK; clear hK; refine hK _ ?_; clear hK) | (clear hK; clear hK; clear hK; clear hK; refine hK _ ?_; clear hK) | (refine wSeq fun K hK => ?_) | ((first | refine wReg ?_ | refine wDrwQ rfl (by kernel_rfl) ?_ | refine wDrwI ?_ | refine wDrw (by kernel_rfl) ?_); simp only [List.map_cons, List.map_nil, strip]) | ((first | refine wIs fun K hK => ?_ | refine wOs fun K hK => ?_ | refine wQs fun K hK => ?_ | refine CallK_plain ?_ | refine CallQ_plain ?_ | refine CallR_plain ?_ | refine wCond ?_); simp [g1, g9, g10, g11, g5, g6, b5, hlt, hw, he, hx, h1, h2, zis_snoc]) | (refine wIn ?_; refine And.intro (by kernel_rfl) ?_; try simp only [thenA_n]) | (first | refine wBlock ?_ | refine wScope ?_) | ((first | refine wRet ?_ | refine wExit ?_ | refine wSkip ?_); try simp) | ((first | refine wLabel ?_ | refine wOn ?_ | refine wQn ?_); try simp only [thenA_n])
          refine hL _ (N - 1) (by omega) ⟨k + 1, by omega, ?_⟩
          simp [g1, g9, g10, g11, g5, g6, b5, hw, hs', zis_snoc]
      · by_cases h2 : x = n
        · have hs' : wst (l.take (k + 1)) n = (o, true) := by rw [hs]; simp [wst1, h1, h2]
          repeat' first | (refine hK _ ?_; clear hK) | (refine hK _ _ ?_; clear hK) | (clear hK; refine hK _ ?_; clear hK) | (clear hK; clear hK; refine hK _ ?_; clear hK) | (clear hK; clear hK; clear hK; refine hK _ ?_; clear hK) | (clear hK; clear hK; clear hK; clear hK; refine hK _ ?_; clear hK) | (refine wSeq fun K hK => ?_) | ((first | refine wReg ?_ | refine wDrwQ rfl (by kernel_rfl) ?_ | refine wDrwI ?_ | refine wDrw (by kernel_rfl) ?_); simp only [List.map_cons, List.map_nil, strip]) | ((first | refine wIs fun K hK => ?_ | refine wOs fun K hK => ?_ | refine wQs fun K hK => ?_ | refine CallK_plain ?_ | refine CallQ_plain ?_ | refine CallR_plain ?_ | refine wCond ?_); simp [g1, g9, g10, g11, g5, g6, b5, hlt, hw, he, hx, h1, h2]) | (refine wIn ?_; refine And.intro (by kernel_rfl) ?_; try simp only [thenA_n]) | (first | refine wBlock ?_ | refine wScope ?_) | ((first | refine wRet ?_ | refine wExit ?_ | refine wSkip ?_); try simp) | ((first | refine wLabel ?_ | refine wOn ?_ | refine wQn ?_); try simp only [thenA_n])
          refine hL _ (N - 1) (by omega) ⟨k + 1, by omega, ?_⟩
          simp [g1, g9, g10, g11, g5, g6, b5, hw, hs']
        · have hs' : wst (l.take (k + 1)) n = (o ++ [x], true) := by rw [hs]; simp [wst1, h1, h2]
          repeat' first | (refine And.intro (by (try simp at hkl ⊢); omega) ?_) | (refine hK _ ?_; clear hK) | (refine hK _ _ ?_; clear hK) | (clear hK; refine hK _ ?_; clear hK) | (clear hK; clear hK; refine hK _ ?_; clear hK) | (clear hK; clear hK; clear hK; refine hK _ ?_; clear hK) | (clear hK; clear hK; clear hK; clear hK; refine hK _ ?_; clear hK) | (refine wSeq fun K hK => ?_) | ((first | refine wReg ?_ | refine wDrwQ rfl (by kernel_rfl) ?_ | refine wDrwI ?_ | refine wDrw (by kernel_rfl) ?_); simp only [List.map_cons, List.map_nil, strip]) | ((first | refine wIs fun K hK => ?_ | refine wOs fun K hK => ?_ | refine wQs fun K hK => ?_ | refine CallK_plain ?_ | refine CallQ_plain ?_ | refine CallR_plain ?_ | refine wCond ?_); simp [g1, g9, g10, g11, g5, g6, b5, hlt, hw, he, hx, h1, h2, zis_snoc]) | (refine wIn ?_; refine And.intro (by kernel_rfl) ?_; try simp only [thenA_n]) | (first | refine wBlock ?_ | refine wScope ?_) | ((first | refine wRet ?_ | refine wExit ?_ | refine wSkip ?_); try simp) | ((first | refine wLabel ?_ | refine wOn ?_ | refine wQn ?_); try simp only [thenA_n])
          refine hL _ (N - 1) (by omega) ⟨k + 1, by omega, ?_⟩
          simp [g1, g9, g10, g11, g5, g6, b5, hw, hs', zis_snoc]
    · have h2 : ¬ x = n := by omega
      have hs' : wst (l.take (k + 1)) n = (o ++ [x], d) := by rw [hs]; simp [wst1, h1, h2]
      repeat' first | (refine And.intro (by (try simp at hkl ⊢); omega) ?_) | (refine hK _ ?_; clear hK) | (refine hK _ _ ?_; clear hK) | (clear hK; refine hK _ ?_; clear hK) | (clear hK; clear hK; refine hK _ ?_; clear hK) | (clear hK; clear hK; clear hK; refine hK _ ?_; clear hK) | (clear hK; clear hK; clear hK; clear hK; refine hK _ ?_; clear hK) | (refine wSeq fun K hK => ?_) | ((first | refine wReg ?_ | refine wDrwQ rfl (by kernel_rfl) ?_ | refine wDrwI ?_ | refine wDrw (by kernel_rfl) ?_); simp only [List.map_cons, List.map_nil, strip]) | ((first | refine wIs fun K hK => ?_ | refine wOs fun K hK => ?_ | refine wQs fun K hK => ?_ | refine CallK_plain ?_ | refine CallQ_plain ?_ | refine CallR_plain ?_ | refine wCond ?_); simp [g1, g9, g10, g11, g5, g6, b5, hlt, hw, he, hx, h1, h2, zis_snoc]) | (refine wIn ?_; refine And.intro (by kernel_rfl) ?_; try simp only [thenA_n]) | (first | refine wBlock ?_ | refine wScope ?_) | ((first | refine wRet ?_ | refine wExit ?_ | refine wSkip ?_); try simp) | ((first | refine wLabel ?_ | refine wOn ?_ | refine wQn ?_); try simp only [thenA_n])
      refine hL _ (N - 1) (by omega) ⟨k + 1, by omega, ?_⟩
      simp [g1, g9, g10, g11, g5, g6, b5, hw, hs', zis_snoc]
  · rw [List.take_of_length_le (by omega)] at b5 g6 hkl
    unfold wth at hr
    generalize wst l n = q at g6 b5 hkl hr
    obtain ⟨o, d⟩ := q
    dsimp only at g6 b5 hkl hr
    cases d
    · simp only [Bool.false_eq_true, if_false] at hr
      repeat' first | (refine And.intro (by (try simp at hkl ⊢); omega) ?_) | (refine hK _ ?_; clear hK) | (refine hK _ _ ?_; clear hK) | (clear hK; refine hK _ ?_; clear hK) | (clear hK; clear hK; refine hK _ ?_; clear hK) | (clear hK; clear hK; clear hK; refine hK _ ?_; clear hK) | (clear hK; clear hK; clear hK; clear hK; refine hK _ ?_; clear hK) | (refine wSeq fun K hK => ?_) | ((first | refine wReg ?_ | refine wDrwQ rfl (by kernel_rfl) ?_ | refine wDrwI ?_ | refine wDrw (by kernel_rfl) ?_); simp only [List.map_cons, List.map_nil, strip]) | ((first | refine wIs fun K hK => ?_ | refine wOs fun K hK => ?_ | refine wQs fun K hK => ?_ | refine CallK_plain ?_ | refine CallQ_plain ?_ | refine CallR_plain ?_ | refine wCond ?_); simp [g1, g9, g10, g11, g5, g6, b5, hlt, zis_snoc]) | (refine wIn ?_; refine And.intro (by kernel_rfl) ?_; try simp only [thenA_n]) | (first | refine wBlock ?_ | refine wScope ?_) | ((first | refine wRet ?_ | refine wExit ?_ | refine wSkip ?_); try simp) | ((first | refine wLabel ?_ | refine wOn ?_ | refine wQn ?_); try simp only [thenA_n])
      all_goals apply hr
      all_goals simp [Try.f63, g5, b5, zis_snoc]
    · simp only [if_true] at hr
      repeat' first | (refine hK _ ?_; clear hK) | (refine hK _ _ ?_; clear hK) | (clear hK; refine hK _ ?_; clear hK) | (clear hK; clear hK; refine hK _ ?_; clear hK) | (clear hK; clear hK; clear hK; refine hK _ ?_; clear hK) | (clear hK; clear hK; clear hK; clear hK; refine hK _ ?_; clear hK) | (refine wSeq fun K hK => ?_) | ((first | refine wReg ?_ | refine wDrwQ rfl (by kernel_rfl) ?_ | refine wDrwI ?_ | refine wDrw (by kernel_rfl) ?_); simp only [List.map_cons, List.map_nil, strip]) | ((first | refine wIs fun K hK => ?_ | refine wOs fun K hK => ?_ | refine wQs fun K hK => ?_ | refine CallK_plain ?_ | refine CallQ_plain ?_ | refine CallR_plain ?_ | refine wCond ?_); simp [g1, g9, g10, g11, g5, g6, b5, hlt]) | (refine wIn ?_; refine And.intro (by kernel_rfl) ?_; try simp only [thenA_n]) | (first | refine wBlock ?_ | refine wScope ?_) | ((first | refine wRet ?_ | refine wExit ?_ | refine wSkip ?_); try simp) | ((first | refine wLabel ?_ | refine wOn ?_ | refine wQn ?_); try simp only [thenA_n])
      all_goals apply hr
      all_goals simp [Try.f63, g5, b5]
theorem wst_true (n : Int) : ∀ (l o : List Int), l.foldl (wst1 n) (o, true) = (o ++ but l n, true)
  | [], o => by simp [but]
  | x :: l, o => by
    rw [List.foldl_cons]
    by_cases h : x = n
    · rw [show wst1 n (o, true) x = (o, true) by simp [wst1, h], wst_true n l o]
      simp [but, h]
    · rw [show wst1 n (o, true) x = (o ++ [x], true) by simp [wst1, h], wst_true n l (o ++ [x])]
      simp [but, h]
theorem wst_ins (n : Int) : ∀ (l o : List Int), (if (l.foldl (wst1 n) (o, false)).2 = true then (l.foldl (wst1 n) (o, false)).1 else (l.foldl (wst1 n) (o, false)).1 ++ [n]) = o ++ insI l n
  | [], o => by simp [insI, but, atI]
  | x :: l, o => by
    rw [List.foldl_cons]
    by_cases h1 : n ≤ x
    · have ha : atI (x :: l) n = 0 := by rw [atI, if_neg (by omega)]
      by_cases h : x = n
      · rw [show wst1 n (o, false) x = (o ++ [n], true) by simp [wst1, h1, h], wst_true]
        simp only [if_true, insI, ha]
        simp [but, h]
      · rw [show wst1 n (o, false) x = (o ++ [n] ++ [x], true) by simp [wst1, h1, h], wst_true]
        simp only [if_true, insI, ha]
        simp [but, h]
    · have h : ¬ x = n := by omega
      rw [show wst1 n (o, false) x = (o ++ [x], false) by simp [wst1, h1, h], wst_ins n l (o ++ [x])]
      have ha : atI (x :: l) n = atI l n + 1 := by rw [atI, if_pos (by omega)]
      simp only [insI, ha]
      simp [but, h]
theorem wth_ins (l : List Int) (n : Int) : wth l n = insI l n := by
  unfold wth wst
  rw [wst_ins n l []]; rfl
end Go.Proofs.Ytegoihognjpcjaa


/- Nodes of the tree: what Put and Gone come to. -/
namespace Go.Proofs.Ytegoihognjpcjaa
set_option linter.unusedSimpArgs false
set_option linter.unusedVariables false
open Go Go.Av
theorem rst_sub (l : List Zn) (q : List UInt8) : (rst l q).Sublist l := by
  cases l with
  | nil => exact .slnil
  | cons x r =>
    rw [rst]; split
    · exact List.sublist_cons_self x r
    · exact List.Sublist.refl _
end Go.Proofs.Ytegoihognjpcjaa


/- Nodes of the tree: the law ZnodeStays. -/
namespace Go.Proofs.Ytegoihognjpcjaa
set_option linter.unusedSimpArgs false
set_option linter.unusedVariables false
open Go Go.Av
attribute [local simp] Try.T1 Try.T2 Try.T3 Try.T4 Try.T5 Try.T9 Try.T12 Try.T15 Try.T16 Try.T17 Try.T21 Try.T22 Try.T23 Try.T25 Try.T26 Try.T28 Try.T30 Try.T31 Try.T33 Try.T34 Try.T35 Try.T36 Try.T37 Try.T38 Try.T40 Try.T42 Try.T43 Try.T44 Try.T45 Try.T46 Try.T48 Try.T49 Try.T50 Try.T51 Try.T52 Try.T53 Try.T54 Try.T55 Try.T56 Try.T57 Try.T58 Try.T59 Try.T60 Try.T61 Try.T62 Try.T64 Try.T66 Try.T67 Try.T68 Try.T69 Try.T70 Try.T71 Try.T72 Try.T73 Try.T74 Try.T75 Try.T76 Try.T77 Try.T78 Try.T80 Try.T81 Try.T82 Try.T83 Try.T84 Try.T85 Try.T86 Try.T88 Try.T89 Try.T90 Try.T91 Try.T92 Try.T93 Try.T94 Try.T95 Try.T96 Try.T97 Try.T98 Try.T99 Try.T100 Try.T101 Try.T102 Try.T103 Try.T104 Try.T105 Try.T106 Try.T107 Try.T108 Try.T109 Try.T110 Try.T111 Try.T112 Try.T113 Try.T116 Try.T119 Try.T120 Try.T123 Try.T124
attribute [local irreducible] Go.Av.CallK Go.Av.CallE Go.Av.CallQ Go.Av.CallF Go.Av.CallR Go.Av.CallH Go.Av.Con
theorem rst_len (l : List Zn) (q : List UInt8) : (rst l q).length ≤ l.length := (rst_sub l q).length_le
theorem putZ_len (l : List Zn) (z : Zn) : (putZ l z).length ≤ l.length + 1 := by
  have := rst_len (l.drop (att l z.p)) z.p
  have h2 := att_le l z.p
  unfold putZ
  simp at this ⊢
  omega
theorem goneZ_len (l : List Zn) (p : List UInt8) : (gone l p).length ≤ l.length := List.length_filter_le _ _
end Go.Proofs.Ytegoihognjpcjaa


/- States: what a transaction does. -/
namespace Go.Proofs.Ytegoihognjpcjaa
set_option linter.unusedSimpArgs false
set_option linter.unusedVariables false
open Go Go.Av
attribute [local simp] Try.T1 Try.T2 Try.T3 Try.T4 Try.T5 Try.T9 Try.T12 Try.T15 Try.T16 Try.T17 Try.T21 Try.T22 Try.T23 Try.T25 Try.T26 Try.T28 Try.T30 Try.T31 Try.T33 Try.T34 Try.T35 Try.T36 Try.T37 Try.T38 Try.T40 Try.T42 Try.T43 Try.T44 Try.T45 Try.T46 Try.T48 Try.T49 Try.T50 Try.T51 Try.T52 Try.T53 Try.T54 Try.T55 Try.T56 Try.T57 Try.T58 Try.T59 Try.T60 Try.T61 Try.T62 Try.T64 Try.T66 Try.T67 Try.T68 Try.T69 Try.T70 Try.T71 Try.T72 Try.T73 Try.T74 Try.T75 Try.T76 Try.T77 Try.T78 Try.T80 Try.T81 Try.T82 Try.T83 Try.T84 Try.T85 Try.T86 Try.T88 Try.T89 Try.T90 Try.T91 Try.T92 Try.T93 Try.T94 Try.T95 Try.T96 Try.T97 Try.T98 Try.T99 Try.T100 Try.T101 Try.T102 Try.T103 Try.T104 Try.T105 Try.T106 Try.T107 Try.T108 Try.T109 Try.T110 Try.T111 Try.T112 Try.T113 Try.T116 Try.T119 Try.T120 Try.T123 Try.T124
attribute [local irreducible] Go.Av.CallK Go.Av.CallE Go.Av.CallQ Go.Av.CallF Go.Av.CallR Go.Av.CallH Go.Av.Con
theorem ints_zis (l : List Int) : ints l = zis l := rfl
def stepP (s : Sv) (p : Pt) : Sv :=
  if p.k = 1 then { s with ns := putZ s.ns p.z } else if p.k = 2 then { s with ns := gone s.ns p.z.p }
  else if p.k = 3 then { s with ss := opnL s.ss p.s, nx := opnN s.nx p.s } else if p.k = 4 then { s with ss := but s.ss p.s }
  else if p.k = 5 then { s with c := p.c } else s
def runP (s : Sv) (l : List Pt) : Sv := l.foldl stepP s
theorem runP_snoc (s : Sv) {l : List Pt} {k : Nat} (h : k < l.length) : runP s (l.take (k + 1)) = stepP (runP s (l.take k)) l[k] := by
  rw [List.take_succ_eq_append_getElem h, runP, List.foldl_append]; rfl
def lateS (s : Sv) (e n : Int) : Sv := { s with ae := (lastZ [⟨s.ae, s.an⟩, ⟨e, n⟩]).e, an := (lastZ [⟨s.ae, s.an⟩, ⟨e, n⟩]).n }
def doS (s : Sv) (t : Tx) : Sv := lateS (runP s t.ps) t.e t.n
theorem insI_len (l : List Int) (s : Int) : (insI l s).length ≤ l.length + 1 := by
  have h := but_len l s
  unfold insI
  simp
  omega
theorem opnL_len (l : List Int) (s : Int) : (opnL l s).length ≤ l.length + 1 := by
  unfold opnL
  split
  · exact insI_len l s
  · omega
theorem stepP_len (s : Sv) (p : Pt) : (stepP s p).ns.length ≤ s.ns.length + 1 ∧ (stepP s p).ss.length ≤ s.ss.length + 1 := by
  have h1 := putZ_len s.ns p.z
  have h2 := goneZ_len s.ns p.z.p
  have h3 := opnL_len s.ss p.s
  have h4 := but_len s.ss p.s
  unfold stepP
  split
  · exact ⟨h1, by simp⟩
  split
  · exact ⟨by show (gone s.ns p.z.p).length ≤ _; omega, by simp⟩
  split
  · exact ⟨by simp, h3⟩
  split
  · exact ⟨by simp, by show (but s.ss p.s).length ≤ _; omega⟩
  split <;> exact ⟨by simp, by simp⟩
theorem runP_len : ∀ (l : List Pt) (s : Sv), (runP s l).ns.length ≤ s.ns.length + l.length ∧ (runP s l).ss.length ≤ s.ss.length + l.length
  | [], s => ⟨by simp [runP], by simp [runP]⟩
  | p :: l, s => by
    have h := stepP_len s p
    have ih := runP_len l (stepP s p)
    have e : runP s (p :: l) = runP (stepP s p) l := rfl
    rw [e]
    simp only [List.length_cons]
    omega
theorem runP_take (s : Sv) (l : List Pt) (k : Nat) : (runP s (l.take k)).ns.length ≤ s.ns.length + l.length ∧ (runP s (l.take k)).ss.length ≤ s.ss.length + l.length := by
  have h := runP_len (l.take k) s
  have : (l.take k).length ≤ l.length := by simp; omega
  omega
def okC (c : Cf) : Prop := c.ms.length ≤ 4398046510976
theorem stepP_c (s : Sv) (p : Pt) (hs : okC s.c) (hp : okC p.c) : okC (stepP s p).c := by
  unfold stepP
  split
  · exact hs
  split
  · exact hs
  split
  · exact hs
  split
  · exact hs
  split
  · exact hp
  · exact hs
theorem runP_c : ∀ (l : List Pt) (s : Sv), okC s.c → (∀ p ∈ l, okC p.c) → okC (runP s l).c
  | [], s, hs, _ => hs
  | p :: l, s, hs, hp => runP_c l (stepP s p) (stepP_c s p hs (hp p (by simp))) fun q hq => hp q (by simp [hq])
end Go.Proofs.Ytegoihognjpcjaa


/- States: transactions, one by one and at once. -/
namespace Go.Proofs.Ytegoihognjpcjaa
set_option linter.unusedSimpArgs false
set_option linter.unusedVariables false
open Go Go.Av
attribute [local simp] Try.T1 Try.T2 Try.T3 Try.T4 Try.T5 Try.T9 Try.T12 Try.T15 Try.T16 Try.T17 Try.T21 Try.T22 Try.T23 Try.T25 Try.T26 Try.T28 Try.T30 Try.T31 Try.T33 Try.T34 Try.T35 Try.T36 Try.T37 Try.T38 Try.T40 Try.T42 Try.T43 Try.T44 Try.T45 Try.T46 Try.T48 Try.T49 Try.T50 Try.T51 Try.T52 Try.T53 Try.T54 Try.T55 Try.T56 Try.T57 Try.T58 Try.T59 Try.T60 Try.T61 Try.T62 Try.T64 Try.T66 Try.T67 Try.T68 Try.T69 Try.T70 Try.T71 Try.T72 Try.T73 Try.T74 Try.T75 Try.T76 Try.T77 Try.T78 Try.T80 Try.T81 Try.T82 Try.T83 Try.T84 Try.T85 Try.T86 Try.T88 Try.T89 Try.T90 Try.T91 Try.T92 Try.T93 Try.T94 Try.T95 Try.T96 Try.T97 Try.T98 Try.T99 Try.T100 Try.T101 Try.T102 Try.T103 Try.T104 Try.T105 Try.T106 Try.T107 Try.T108 Try.T109 Try.T110 Try.T111 Try.T112 Try.T113 Try.T116 Try.T119 Try.T120 Try.T123 Try.T124
attribute [local irreducible] Go.Av.CallK Go.Av.CallE Go.Av.CallQ Go.Av.CallF Go.Av.CallR Go.Av.CallH Go.Av.Con
/-- What a call to do must be handed. -/
structure Fits (s : Sv) (n : Nat) : Prop where
  ns : s.ns.length + n ≤ 1000000
  ss : s.ss.length + n ≤ 1000000
  c : okC s.c
def okT (t : Tx) : Prop := ∀ p ∈ t.ps, okC p.c
theorem doS_fits {s : Sv} {t : Tx} {n : Nat} (h : Fits s (t.ps.length + n)) (ht : okT t) : Fits (doS s t) n := by
  have h1 := runP_len t.ps s
  have h2 := runP_c t.ps s h.c ht
  refine ⟨?_, ?_, h2⟩
  · have := h.ns
    show (runP s t.ps).ns.length + n ≤ _
    omega
  · have := h.ss
    show (runP s t.ps).ss.length + n ≤ _
    omega
def allS (s : Sv) (l : List Tx) : Sv := l.foldl doS s
theorem allS_snoc (s : Sv) {l : List Tx} {k : Nat} (h : k < l.length) : allS s (l.take (k + 1)) = doS (allS s (l.take k)) l[k] := by
  rw [List.take_succ_eq_append_getElem h, allS, List.foldl_append]; rfl
def psum (l : List Tx) : Nat := (l.map fun t => t.ps.length).sum
theorem psum_cons (t : Tx) (l : List Tx) : psum (t :: l) = t.ps.length + psum l := by simp [psum]
theorem psum_drop {l : List Tx} {k : Nat} (h : k < l.length) : psum (l.drop k) = l[k].ps.length + psum (l.drop (k + 1)) := by
  rw [List.drop_eq_getElem_cons h, psum_cons]
theorem allS_fits : ∀ (l : List Tx) {s : Sv} {n : Nat}, Fits s (psum l + n) → (∀ t ∈ l, okT t) → Fits (allS s l) n
  | [], s, n, h, _ => by simpa [psum, allS] using h
  | t :: l, s, n, h, ht => by
    have h' : Fits s (t.ps.length + (psum l + n)) := by
      rw [psum_cons, Nat.add_assoc] at h; exact h
    exact allS_fits l (doS_fits h' (ht t (by simp))) fun t' h' => ht t' (by simp [h'])
theorem Fits.le {s : Sv} {n m : Nat} (h : Fits s n) (hm : m ≤ n) : Fits s m := ⟨by have := h.ns; omega, by have := h.ss; omega, h.c⟩
end Go.Proofs.Ytegoihognjpcjaa


/- States: what the document does. -/
namespace Go.Proofs.Ytegoihognjpcjaa
set_option linter.unusedSimpArgs false
set_option linter.unusedVariables false
open Go Go.Av
attribute [local simp] Try.T1 Try.T2 Try.T3 Try.T4 Try.T5 Try.T9 Try.T12 Try.T15 Try.T16 Try.T17 Try.T21 Try.T22 Try.T23 Try.T25 Try.T26 Try.T28 Try.T30 Try.T31 Try.T33 Try.T34 Try.T35 Try.T36 Try.T37 Try.T38 Try.T40 Try.T42 Try.T43 Try.T44 Try.T45 Try.T46 Try.T48 Try.T49 Try.T50 Try.T51 Try.T52 Try.T53 Try.T54 Try.T55 Try.T56 Try.T57 Try.T58 Try.T59 Try.T60 Try.T61 Try.T62 Try.T64 Try.T66 Try.T67 Try.T68 Try.T69 Try.T70 Try.T71 Try.T72 Try.T73 Try.T74 Try.T75 Try.T76 Try.T77 Try.T78 Try.T80 Try.T81 Try.T82 Try.T83 Try.T84 Try.T85 Try.T86 Try.T88 Try.T89 Try.T90 Try.T91 Try.T92 Try.T93 Try.T94 Try.T95 Try.T96 Try.T97 Try.T98 Try.T99 Try.T100 Try.T101 Try.T102 Try.T103 Try.T104 Try.T105 Try.T106 Try.T107 Try.T108 Try.T109 Try.T110 Try.T111 Try.T112 Try.T113 Try.T116 Try.T119 Try.T120 Try.T123 Try.T124
attribute [local irreducible] Go.Av.CallK Go.Av.CallE Go.Av.CallQ Go.Av.CallF Go.Av.CallR Go.Av.CallH Go.Av.Con
theorem last2 (a b : Zx) : lastZ [a, b] = if 0 < zcmp b.e b.n a.e a.n then b else a := rfl
set_option maxHeartbeats 8000000 in
theorem apply08_con (s : Sv) (t : Tx) (h : Fits s t.ps.length) (ht : okT t) : ACon Try.prog 46 [.p (.agg s.cells), .p (.agg t.cells)] (.p (.agg (doS s t).cells)) := by
  have h1 := h.ns
  have h2 := h.ss
  have c1 := copied08_con s.c.ep s.c.n s.c.kind (mbs s.c.ms) (by rw [mbs_len]; exact h.c)
  unfold Sv.cells Tx.cells
  simp only [ints_zis]
  refine wBody Try.tab Try.mixed Try.func46 rfl rfl Try.ntmps46 (by simp) (by simp) fun Q hr hn => ?_
  repeat' first | (refine And.intro (by (try simp); omega) ?_) | (refine Or.inr ?_) | (refine hK _ ?_; clear hK) | (refine hK _ _ ?_; clear hK) | (clear hK; refine hK _ ?_; clear hK) | (clear hK; clear hK; refine hK _ ?_; clear hK) | (clear hK; clear hK; clear hK; refine hK _ ?_; clear hK) | (clear hK; clear hK; clear hK; clear hK; refine hK _ ?_; clear hK) | (refine wSeq fun K hK => ?_) | ((first | refine wReg ?_ | refine wDrwQ rfl (by kernel_rfl) ?_ | refine wDrwI ?_ | refine wDrw (by kernel_rfl) ?_); simp only [List.map_cons, List.map_nil, strip]) | ((first | refine wIs fun K hK => ?_ | refine wOs fun K hK => ?_ | refine wQs fun K hK => ?_ | refine CallK_plain ?_ | refine CallQ_plain ?_ | refine CallR_plain ?_ | refine wCond ?_); simp) | (refine wIn ?_; refine And.intro (by kernel_rfl) ?_; try simp only [thenA_n]) | (first | refine wBlock ?_ | refine wScope ?_) | ((first | refine wRet ?_ | refine wExit ?_ | refine wSkip ?_); try simp) | ((first | refine wLabel ?_ | refine wOn ?_ | refine wQn ?_); try simp only [thenA_n]) | (refine CallE.pure (c1) rfl ?_) | (refine CallE.lent (c1) rfl ?_) | (refine CallF.pure (c1) rfl ?_) | (refine CallF.lent (c1) rfl ?_) | (refine CallE.own (c1) ?_) | (refine CallH.pure (c1) rfl ?_) | (refine CallH.lent (c1) rfl ?_) | (refine CallH.own (c1) ?_)
  refine wLoop (fun N st => ∃ k, k + N = t.ps.length ∧ st.s 4 = .ptr 4 0 ∧ st.s 3 = .ptr 3 0 ∧ st.s 5 = .ptr 5 0 ∧ st.s 25 = .p (.sl 11 (pts t.ps)) ∧ st.s 26 = .p (I t.ps.length) ∧ st.s 27 = .p (I k) ∧ st.b 4 = some (.box 30 [.nil 5, .nil 1, .p (I 0), .p (I 0), .p (I 0), .p (I 0), .nil 4, .p (I 0), .p (I 0)]) ∧ st.b 3 = some (.box 40 [.p (I t.e), .p (I t.n), .p (I t.s), .p (I t.x), .p (I t.r), .p (I t.b), .p (SB t.m), .p (.sl 11 (pts t.ps))]) ∧ st.b 5 = some (.box 30 [.p (.sl 5 (zns (runP s (t.ps.take k)).ns)), .p (.sl 1 (zis (runP s (t.ps.take k)).ss)), .p (I (runP s (t.ps.take k)).nx), .p (I (runP s (t.ps.take k)).c.ep), .p (I (runP s (t.ps.take k)).c.n), .p (I (runP s (t.ps.take k)).c.kind), .p (.sl 4 (mbs (runP s (t.ps.take k)).c.ms)), .p (I (runP s (t.ps.take k)).ae), .p (I (runP s (t.ps.take k)).an)])) t.ps.length ⟨0, by simp [runP]⟩ fun K N st hL ⟨k, hk, g4, g3, g5, g25, g26, g27, b4, b3, b5⟩ => ?_
  have hlen := runP_take s t.ps k
  by_cases hlt : k < t.ps.length
  · have hw := wrapX k _ hlt (by omega)
    have he := pts_get hlt
    have hs := runP_snoc s hlt
    have hpc := ht t.ps[k] (List.getElem_mem hlt)
    generalize runP s (t.ps.take k) = q at hs hlen b5
    unfold okC at hpc
    by_cases k1 : t.ps[k].k = 1
    · have c := put07_con q.ns t.ps[k].z (by omega)
      unfold Zn.c at c
      have hs' : stepP q t.ps[k] = { q with ns := putZ q.ns t.ps[k].z } := by unfold stepP; rw [if_pos k1]
      generalize putZ q.ns t.ps[k].z = n1 at c hs'
      repeat' first | (refine hK _ ?_; clear hK) | (refine hK _ _ ?_; clear hK) | (clear hK; refine hK _ ?_; clear hK) | (clear hK; clear hK; refine hK _ ?_; clear hK) | (clear hK; clear hK; clear hK; refine hK _ ?_; clear hK) | (clear hK; clear hK; clear hK; clear hK; refine hK _ ?_; clear hK) | (refine wSeq fun K hK => ?_) | ((first | refine wReg ?_ | refine wDrwQ rfl (by kernel_rfl) ?_ | refine wDrwI ?_ | refine wDrw (by kernel_rfl) ?_); simp only [List.map_cons, List.map_nil, strip]) | ((first | refine wIs fun K hK => ?_ | refine wOs fun K hK => ?_ | refine wQs fun K hK => ?_ | refine CallK_plain ?_ | refine CallQ_plain ?_ | refine CallR_plain ?_ | refine wCond ?_); simp [g4, g3, g5, g25, g26, g27, b4, b3, b5, hlt, hw, he, k1]) | (refine wIn ?_; refine And.intro (by kernel_rfl) ?_; try simp only [thenA_n]) | (first | refine wBlock ?_ | refine wScope ?_) | ((first | refine wRet ?_ | refine wExit ?_ | refine wSkip ?_); try simp) | ((first | refine wLabel ?_ | refine wOn ?_ | refine wQn ?_); try simp only [thenA_n]) | (refine CallE.pure (c) rfl ?_) | (refine CallE.lent (c) rfl ?_) | (refine CallF.pure (c) rfl ?_) | (refine CallF.lent (c) rfl ?_) | (refine CallE.own (c) ?_) | (refine CallH.pure (c) rfl ?_) | (refine CallH.lent (c) rfl ?_) | (refine CallH.own (c) ?_)
      refine hL _ (N - 1) (by omega) ⟨k + 1, by omega, ?_⟩
      simp [g4, g3, g5, g25, g26, g27, b4, b3, b5, hw, hs, hs']
    by_cases k2 : t.ps[k].k = 2
    · have c := gone07_con q.ns t.ps[k].z.p (by omega)
      have hs' : stepP q t.ps[k] = { q with ns := gone q.ns t.ps[k].z.p } := by unfold stepP; rw [if_neg k1, if_pos k2]
      generalize gone q.ns t.ps[k].z.p = n1 at c hs'
      repeat' first | (refine hK _ ?_; clear hK) | (refine hK _ _ ?_; clear hK) | (clear hK; refine hK _ ?_; clear hK) | (clear hK; clear hK; refine hK _ ?_; clear hK) | (clear hK; clear hK; clear hK; refine hK _ ?_; clear hK) | (clear hK; clear hK; clear hK; clear hK; refine hK _ ?_; clear hK) | (refine wSeq fun K hK => ?_) | ((first | refine wReg ?_ | refine wDrwQ rfl (by kernel_rfl) ?_ | refine wDrwI ?_ | refine wDrw (by kernel_rfl) ?_); simp only [List.map_cons, List.map_nil, strip]) | ((first | refine wIs fun K hK => ?_ | refine wOs fun K hK => ?_ | refine wQs fun K hK => ?_ | refine CallK_plain ?_ | refine CallQ_plain ?_ | refine CallR_plain ?_ | refine wCond ?_); simp [g4, g3, g5, g25, g26, g27, b4, b3, b5, hlt, hw, he, k1, k2]) | (refine wIn ?_; refine And.intro (by kernel_rfl) ?_; try simp only [thenA_n]) | (first | refine wBlock ?_ | refine wScope ?_) | ((first | refine wRet ?_ | refine wExit ?_ | refine wSkip ?_); try simp) | ((first | refine wLabel ?_ | refine wOn ?_ | refine wQn ?_); try simp only [thenA_n]) | (refine CallE.pure (c) rfl ?_) | (refine CallE.lent (c) rfl ?_) | (refine CallF.pure (c) rfl ?_) | (refine CallF.lent (c) rfl ?_) | (refine CallE.own (c) ?_) | (refine CallH.pure (c) rfl ?_) | (refine CallH.lent (c) rfl ?_) | (refine CallH.own (c) ?_)
      refine hL _ (N - 1) (by omega) ⟨k + 1, by omega, ?_⟩
      simp [g4, g3, g5, g25, g26, g27, b4, b3, b5, hw, hs, hs']
    by_cases k3 : t.ps[k].k = 3
    · have hs' : stepP q t.ps[k] = { q with ss := opnL q.ss t.ps[k].s, nx := opnN q.nx t.ps[k].s } := by unfold stepP; rw [if_neg k1, if_neg k2, if_pos k3]
      by_cases o1 : 1 ≤ t.ps[k].s
      · by_cases o2 : t.ps[k].s ≤ 1099511627776
        · have ho : okS t.ps[k].s = true := decide_eq_true ⟨o1, o2⟩
          have hw1 : IntKind.i64.wrap (t.ps[k].s + 1) = t.ps[k].s + 1 := by rw [wrap_id] <;> omega
          have c := with08_con q.ss t.ps[k].s (by omega)
          rw [wth_ins] at c
          have e1 : opnL q.ss t.ps[k].s = insI q.ss t.ps[k].s := by unfold opnL; rw [if_pos ho]
          have e2 : opnN q.nx t.ps[k].s = max q.nx (t.ps[k].s + 1) := by unfold opnN; rw [if_pos ho]
          rw [e1, e2] at hs'
          generalize insI q.ss t.ps[k].s = n1 at c hs'
          repeat' first | (refine hK _ ?_; clear hK) | (refine hK _ _ ?_; clear hK) | (clear hK; refine hK _ ?_; clear hK) | (clear hK; clear hK; refine hK _ ?_; clear hK) | (clear hK; clear hK; clear hK; refine hK _ ?_; clear hK) | (clear hK; clear hK; clear hK; clear hK; refine hK _ ?_; clear hK) | (refine wSeq fun K hK => ?_) | ((first | refine wReg ?_ | refine wDrwQ rfl (by kernel_rfl) ?_ | refine wDrwI ?_ | refine wDrw (by kernel_rfl) ?_); simp only [List.map_cons, List.map_nil, strip]) | ((first | refine wIs fun K hK => ?_ | refine wOs fun K hK => ?_ | refine wQs fun K hK => ?_ | refine CallK_plain ?_ | refine CallQ_plain ?_ | refine CallR_plain ?_ | refine wCond ?_); simp [g4, g3, g5, g25, g26, g27, b4, b3, b5, hlt, hw, he, k1, k2, k3, o1, o2, hw1]) | (refine wIn ?_; refine And.intro (by kernel_rfl) ?_; try simp only [thenA_n]) | (first | refine wBlock ?_ | refine wScope ?_) | ((first | refine wRet ?_ | refine wExit ?_ | refine wSkip ?_); try simp) | ((first | refine wLabel ?_ | refine wOn ?_ | refine wQn ?_); try simp only [thenA_n]) | (refine CallE.pure (c) rfl ?_) | (refine CallE.lent (c) rfl ?_) | (refine CallF.pure (c) rfl ?_) | (refine CallF.lent (c) rfl ?_) | (refine CallE.own (c) ?_) | (refine CallH.pure (c) rfl ?_) | (refine CallH.lent (c) rfl ?_) | (refine CallH.own (c) ?_)
          all_goals refine hL _ (N - 1) (by omega) ⟨k + 1, by omega, ?_⟩
          all_goals simp [g4, g3, g5, g25, g26, g27, b4, b3, b5, hw, hs, hs', hw1]
          all_goals omega
        · have ho : ¬ okS t.ps[k].s = true := by unfold okS; simp; omega
          have e1 : opnL q.ss t.ps[k].s = q.ss := by unfold opnL; rw [if_neg ho]
          have e2 : opnN q.nx t.ps[k].s = q.nx := by unfold opnN; rw [if_neg ho]
          rw [e1, e2] at hs'
          repeat' first | (refine hK _ ?_; clear hK) | (refine hK _ _ ?_; clear hK) | (clear hK; refine hK _ ?_; clear hK) | (clear hK; clear hK; refine hK _ ?_; clear hK) | (clear hK; clear hK; clear hK; refine hK _ ?_; clear hK) | (clear hK; clear hK; clear hK; clear hK; refine hK _ ?_; clear hK) | (refine wSeq fun K hK => ?_) | ((first | refine wReg ?_ | refine wDrwQ rfl (by kernel_rfl) ?_ | refine wDrwI ?_ | refine wDrw (by kernel_rfl) ?_); simp only [List.map_cons, List.map_nil, strip]) | ((first | refine wIs fun K hK => ?_ | refine wOs fun K hK => ?_ | refine wQs fun K hK => ?_ | refine CallK_plain ?_ | refine CallQ_plain ?_ | refine CallR_plain ?_ | refine wCond ?_); simp [g4, g3, g5, g25, g26, g27, b4, b3, b5, hlt, hw, he, k1, k2, k3, o1, o2]) | (refine wIn ?_; refine And.intro (by kernel_rfl) ?_; try simp only [thenA_n]) | (first | refine wBlock ?_ | refine wScope ?_) | ((first | refine wRet ?_ | refine wExit ?_ | refine wSkip ?_); try simp) | ((first | refine wLabel ?_ | refine wOn ?_ | refine wQn ?_); try simp only [thenA_n])
          all_goals refine hL _ (N - 1) (by omega) ⟨k + 1, by omega, ?_⟩
          all_goals simp [g4, g3, g5, g25, g26, g27, b4, b3, b5, hw, hs, hs']
      · have ho : ¬ okS t.ps[k].s = true := by unfold okS; simp; omega
        have e1 : opnL q.ss t.ps[k].s = q.ss := by unfold opnL; rw [if_neg ho]
        have e2 : opnN q.nx t.ps[k].s = q.nx := by unfold opnN; rw [if_neg ho]
        rw [e1, e2] at hs'
        repeat' first | (refine hK _ ?_; clear hK) | (refine hK _ _ ?_; clear hK) | (clear hK; refine hK _ ?_; clear hK) | (clear hK; clear hK; refine hK _ ?_; clear hK) | (clear hK; clear hK; clear hK; refine hK _ ?_; clear hK) | (clear hK; clear hK; clear hK; clear hK; refine hK _ ?_; clear hK) | (refine wSeq fun K hK => ?_) | ((first | refine wReg ?_ | refine wDrwQ rfl (by kernel_rfl) ?_ | refine wDrwI ?_ | refine wDrw (by kernel_rfl) ?_); simp only [List.map_cons, List.map_nil, strip]) | ((first | refine wIs fun K hK => ?_ | refine wOs fun K hK => ?_ | refine wQs fun K hK => ?_ | refine CallK_plain ?_ | refine CallQ_plain ?_ | refine CallR_plain ?_ | refine wCond ?_); simp [g4, g3, g5, g25, g26, g27, b4, b3, b5, hlt, hw, he, k1, k2, k3, o1]) | (refine wIn ?_; refine And.intro (by kernel_rfl) ?_; try simp only [thenA_n]) | (first | refine wBlock ?_ | refine wScope ?_) | ((first | refine wRet ?_ | refine wExit ?_ | refine wSkip ?_); try simp) | ((first | refine wLabel ?_ | refine wOn ?_ | refine wQn ?_); try simp only [thenA_n])
        all_goals refine hL _ (N - 1) (by omega) ⟨k + 1, by omega, ?_⟩
        all_goals simp [g4, g3, g5, g25, g26, g27, b4, b3, b5, hw, hs, hs']
    by_cases k4 : t.ps[k].k = 4
    · have c := without08_con q.ss t.ps[k].s (by omega)
      have hs' : stepP q t.ps[k] = { q with ss := but q.ss t.ps[k].s } := by unfold stepP; rw [if_neg k1, if_neg k2, if_neg k3, if_pos k4]
      generalize but q.ss t.ps[k].s = n1 at c hs'
      repeat' first | (refine hK _ ?_; clear hK) | (refine hK _ _ ?_; clear hK) | (clear hK; refine hK _ ?_; clear hK) | (clear hK; clear hK; refine hK _ ?_; clear hK) | (clear hK; clear hK; clear hK; refine hK _ ?_; clear hK) | (clear hK; clear hK; clear hK; clear hK; refine hK _ ?_; clear hK) | (refine wSeq fun K hK => ?_) | ((first | refine wReg ?_ | refine wDrwQ rfl (by kernel_rfl) ?_ | refine wDrwI ?_ | refine wDrw (by kernel_rfl) ?_); simp only [List.map_cons, List.map_nil, strip]) | ((first | refine wIs fun K hK => ?_ | refine wOs fun K hK => ?_ | refine wQs fun K hK => ?_ | refine CallK_plain ?_ | refine CallQ_plain ?_ | refine CallR_plain ?_ | refine wCond ?_); simp [g4, g3, g5, g25, g26, g27, b4, b3, b5, hlt, hw, he, k1, k2, k3, k4]) | (refine wIn ?_; refine And.intro (by kernel_rfl) ?_; try simp only [thenA_n]) | (first | refine wBlock ?_ | refine wScope ?_) | ((first | refine wRet ?_ | refine wExit ?_ | refine wSkip ?_); try simp) | ((first | refine wLabel ?_ | refine wOn ?_ | refine wQn ?_); try simp only [thenA_n]) | (refine CallE.pure (c) rfl ?_) | (refine CallE.lent (c) rfl ?_) | (refine CallF.pure (c) rfl ?_) | (refine CallF.lent (c) rfl ?_) | (refine CallE.own (c) ?_) | (refine CallH.pure (c) rfl ?_) | (refine CallH.lent (c) rfl ?_) | (refine CallH.own (c) ?_)
      refine hL _ (N - 1) (by omega) ⟨k + 1, by omega, ?_⟩
      simp [g4, g3, g5, g25, g26, g27, b4, b3, b5, hw, hs, hs']
    by_cases k5 : t.ps[k].k = 5
    · have c := copied08_con t.ps[k].c.ep t.ps[k].c.n t.ps[k].c.kind (mbs t.ps[k].c.ms) (by rw [mbs_len]; exact hpc)
      have hs' : stepP q t.ps[k] = { q with c := t.ps[k].c } := by unfold stepP; rw [if_neg k1, if_neg k2, if_neg k3, if_neg k4, if_pos k5]
      repeat' first | (refine hK _ ?_; clear hK) | (refine hK _ _ ?_; clear hK) | (clear hK; refine hK _ ?_; clear hK) | (clear hK; clear hK; refine hK _ ?_; clear hK) | (clear hK; clear hK; clear hK; refine hK _ ?_; clear hK) | (clear hK; clear hK; clear hK; clear hK; refine hK _ ?_; clear hK) | (refine wSeq fun K hK => ?_) | ((first | refine wReg ?_ | refine wDrwQ rfl (by kernel_rfl) ?_ | refine wDrwI ?_ | refine wDrw (by kernel_rfl) ?_); simp only [List.map_cons, List.map_nil, strip]) | ((first | refine wIs fun K hK => ?_ | refine wOs fun K hK => ?_ | refine wQs fun K hK => ?_ | refine CallK_plain ?_ | refine CallQ_plain ?_ | refine CallR_plain ?_ | refine wCond ?_); simp [g4, g3, g5, g25, g26, g27, b4, b3, b5, hlt, hw, he, k1, k2, k3, k4, k5]) | (refine wIn ?_; refine And.intro (by kernel_rfl) ?_; try simp only [thenA_n]) | (first | refine wBlock ?_ | refine wScope ?_) | ((first | refine wRet ?_ | refine wExit ?_ | refine wSkip ?_); try simp) | ((first | refine wLabel ?_ | refine wOn ?_ | refine wQn ?_); try simp only [thenA_n]) | (refine CallE.pure (c) rfl ?_) | (refine CallE.lent (c) rfl ?_) | (refine CallF.pure (c) rfl ?_) | (refine CallF.lent (c) rfl ?_) | (refine CallE.own (c) ?_) | (refine CallH.pure (c) rfl ?_) | (refine CallH.lent (c) rfl ?_) | (refine CallH.own (c) ?_)
      refine hL _ (N - 1) (by omega) ⟨k + 1, by omega, ?_⟩
      simp [g4, g3, g5, g25, g26, g27, b4, b3, b5, hw, hs, hs']
    · have hs' : stepP q t.ps[k] = q := by unfold stepP; rw [if_neg k1, if_neg k2, if_neg k3, if_neg k4, if_neg k5]
      repeat' first | (refine hK _ ?_; clear hK) | (refine hK _ _ ?_; clear hK) | (clear hK; refine hK _ ?_; clear hK) | (clear hK; clear hK; refine hK _ ?_; clear hK) | (clear hK; clear hK; clear hK; refine hK _ ?_; clear hK) | (clear hK; clear hK; clear hK; clear hK; refine hK _ ?_; clear hK) | (refine wSeq fun K hK => ?_) | ((first | refine wReg ?_ | refine wDrwQ rfl (by kernel_rfl) ?_ | refine wDrwI ?_ | refine wDrw (by kernel_rfl) ?_); simp only [List.map_cons, List.map_nil, strip]) | ((first | refine wIs fun K hK => ?_ | refine wOs fun K hK => ?_ | refine wQs fun K hK => ?_ | refine CallK_plain ?_ | refine CallQ_plain ?_ | refine CallR_plain ?_ | refine wCond ?_); simp [g4, g3, g5, g25, g26, g27, b4, b3, b5, hlt, hw, he, k1, k2, k3, k4, k5]) | (refine wIn ?_; refine And.intro (by kernel_rfl) ?_; try simp only [thenA_n]) | (first | refine wBlock ?_ | refine wScope ?_) | ((first | refine wRet ?_ | refine wExit ?_ | refine wSkip ?_); try simp) | ((first | refine wLabel ?_ | refine wOn ?_ | refine wQn ?_); try simp only [thenA_n])
      refine hL _ (N - 1) (by omega) ⟨k + 1, by omega, ?_⟩
      simp [g4, g3, g5, g25, g26, g27, b4, b3, b5, hw, hs, hs']
  · rw [List.take_of_length_le (by omega)] at b5
    unfold doS lateS at hr
    simp only [last2] at hr
    generalize runP s t.ps = q at hr b5
    have c := cmp02_con t.e t.n q.ae q.an
    by_cases o : 0 < zcmp t.e t.n q.ae q.an
    · simp only [if_pos o] at hr
      repeat' first | (refine hK _ ?_; clear hK) | (refine hK _ _ ?_; clear hK) | (clear hK; refine hK _ ?_; clear hK) | (clear hK; clear hK; refine hK _ ?_; clear hK) | (clear hK; clear hK; clear hK; refine hK _ ?_; clear hK) | (clear hK; clear hK; clear hK; clear hK; refine hK _ ?_; clear hK) | (refine wSeq fun K hK => ?_) | ((first | refine wReg ?_ | refine wDrwQ rfl (by kernel_rfl) ?_ | refine wDrwI ?_ | refine wDrw (by kernel_rfl) ?_); simp only [List.map_cons, List.map_nil, strip]) | ((first | refine wIs fun K hK => ?_ | refine wOs fun K hK => ?_ | refine wQs fun K hK => ?_ | refine CallK_plain ?_ | refine CallQ_plain ?_ | refine CallR_plain ?_ | refine wCond ?_); simp [g4, g3, g5, g25, g26, g27, b4, b3, b5, hlt, o]) | (refine wIn ?_; refine And.intro (by kernel_rfl) ?_; try simp only [thenA_n]) | (first | refine wBlock ?_ | refine wScope ?_) | ((first | refine wRet ?_ | refine wExit ?_ | refine wSkip ?_); try simp) | ((first | refine wLabel ?_ | refine wOn ?_ | refine wQn ?_); try simp only [thenA_n]) | (refine CallE.pure (c) rfl ?_) | (refine CallE.lent (c) rfl ?_) | (refine CallF.pure (c) rfl ?_) | (refine CallF.lent (c) rfl ?_) | (refine CallE.own (c) ?_) | (refine CallH.pure (c) rfl ?_) | (refine CallH.lent (c) rfl ?_) | (refine CallH.own (c) ?_)
      all_goals apply hr
      all_goals simp [Try.f46, g4, b4, b5]
    · simp only [if_neg o] at hr
      repeat' first | (refine hK _ ?_; clear hK) | (refine hK _ _ ?_; clear hK) | (clear hK; refine hK _ ?_; clear hK) | (clear hK; clear hK; refine hK _ ?_; clear hK) | (clear hK; clear hK; clear hK; refine hK _ ?_; clear hK) | (clear hK; clear hK; clear hK; clear hK; refine hK _ ?_; clear hK) | (refine wSeq fun K hK => ?_) | ((first | refine wReg ?_ | refine wDrwQ rfl (by kernel_rfl) ?_ | refine wDrwI ?_ | refine wDrw (by kernel_rfl) ?_); simp only [List.map_cons, List.map_nil, strip]) | ((first | refine wIs fun K hK => ?_ | refine wOs fun K hK => ?_ | refine wQs fun K hK => ?_ | refine CallK_plain ?_ | refine CallQ_plain ?_ | refine CallR_plain ?_ | refine wCond ?_); simp [g4, g3, g5, g25, g26, g27, b4, b3, b5, hlt, o]) | (refine wIn ?_; refine And.intro (by kernel_rfl) ?_; try simp only [thenA_n]) | (first | refine wBlock ?_ | refine wScope ?_) | ((first | refine wRet ?_ | refine wExit ?_ | refine wSkip ?_); try simp) | ((first | refine wLabel ?_ | refine wOn ?_ | refine wQn ?_); try simp only [thenA_n]) | (refine CallE.pure (c) rfl ?_) | (refine CallE.lent (c) rfl ?_) | (refine CallF.pure (c) rfl ?_) | (refine CallF.lent (c) rfl ?_) | (refine CallE.own (c) ?_) | (refine CallH.pure (c) rfl ?_) | (refine CallH.lent (c) rfl ?_) | (refine CallH.own (c) ?_)
      all_goals apply hr
      all_goals simp [Try.f46, g4, b4, b5]
theorem doS_at (s : Sv) (a b c d : Int) (m : List UInt8) : doS s ⟨s.ae, s.an, a, b, c, d, m, []⟩ = s := by
  unfold doS lateS runP
  rw [last2]
  simp [zcmp]
set_option maxHeartbeats 4000000 in
theorem all08_con (s : Sv) (l : List Tx) (hs : Fits s (psum l)) (ht : ∀ t ∈ l, okT t) : ACon Try.prog 47 [.p (.agg s.cells), .p (.sl 8 (txns l))] (.p (.agg (allS s l).cells)) := by
  refine ACon.len ⟨Try.f47, Try.func47, rfl, rfl⟩ 1 _ _ rfl fun hlen => ?_
  simp only [txns_len] at hlen
  have c1 := apply08_con s ⟨s.ae, s.an, 0, 0, 0, 0, [], []⟩ (hs.le (by simp)) (fun p hp => by simp at hp)
  rw [doS_at] at c1
  unfold Tx.cells Sv.cells at c1
  rw [show pts [] = [] from rfl] at c1
  unfold Sv.cells
  refine wBody Try.tab Try.mixed Try.func47 rfl rfl Try.ntmps47 (by simp) (by simp) fun Q hr hn => ?_
  repeat' first | (refine hK _ ?_; clear hK) | (refine hK _ _ ?_; clear hK) | (clear hK; refine hK _ ?_; clear hK) | (clear hK; clear hK; refine hK _ ?_; clear hK) | (clear hK; clear hK; clear hK; refine hK _ ?_; clear hK) | (clear hK; clear hK; clear hK; clear hK; refine hK _ ?_; clear hK) | (refine wSeq fun K hK => ?_) | ((first | refine wReg ?_ | refine wDrwQ rfl (by kernel_rfl) ?_ | refine wDrwI ?_ | refine wDrw (by kernel_rfl) ?_); simp only [List.map_cons, List.map_nil, strip]) | ((first | refine wIs fun K hK => ?_ | refine wOs fun K hK => ?_ | refine wQs fun K hK => ?_ | refine CallK_plain ?_ | refine CallQ_plain ?_ | refine CallR_plain ?_ | refine wCond ?_); simp) | (refine wIn ?_; refine And.intro (by kernel_rfl) ?_; try simp only [thenA_n]) | (first | refine wBlock ?_ | refine wScope ?_) | ((first | refine wRet ?_ | refine wExit ?_ | refine wSkip ?_); try simp) | ((first | refine wLabel ?_ | refine wOn ?_ | refine wQn ?_); try simp only [thenA_n]) | (refine CallE.pure (c1) rfl ?_) | (refine CallE.lent (c1) rfl ?_) | (refine CallF.pure (c1) rfl ?_) | (refine CallF.lent (c1) rfl ?_) | (refine CallE.own (c1) ?_) | (refine CallH.pure (c1) rfl ?_) | (refine CallH.lent (c1) rfl ?_) | (refine CallH.own (c1) ?_)
  refine wLoop (fun N st => ∃ k, k + N = l.length ∧ Fits (allS s (l.take k)) (psum (l.drop k)) ∧ st.s 5 = .ptr 5 0 ∧ st.s 4 = .ptr 4 0 ∧ st.s 13 = .p (.sl 8 (txns l)) ∧ st.s 14 = .p (I l.length) ∧ st.s 15 = .p (I k) ∧ st.b 4 = some (.box 30 [.nil 5, .nil 1, .p (I 0), .p (I 0), .p (I 0), .p (I 0), .nil 4, .p (I 0), .p (I 0)]) ∧ st.b 5 = some (.box 30 [.p (.sl 5 (zns (allS s (l.take k)).ns)), .p (.sl 1 (ints (allS s (l.take k)).ss)), .p (I (allS s (l.take k)).nx), .p (I (allS s (l.take k)).c.ep), .p (I (allS s (l.take k)).c.n), .p (I (allS s (l.take k)).c.kind), .p (.sl 4 (mbs (allS s (l.take k)).c.ms)), .p (I (allS s (l.take k)).ae), .p (I (allS s (l.take k)).an)])) l.length ⟨0, by simp [allS]; exact hs⟩ fun K N st hL ⟨k, hk, hf, g5, g4, g13, g14, g15, b4, b5⟩ => ?_
  by_cases hlt : k < l.length
  · have hw := wrapX k _ hlt (by omega)
    have he := txns_get hlt
    have hsn := allS_snoc s hlt
    have hps := psum_drop hlt
    have htk := ht l[k] (List.getElem_mem hlt)
    rw [hps] at hf
    have hf2 := doS_fits hf htk
    rw [← hsn] at hf2
    generalize allS s (l.take k) = q at hsn hf b5
    have c2 := apply08_con q l[k] (hf.le (by omega)) htk
    rw [← hsn] at c2
    unfold Sv.cells Tx.cells at c2
    generalize hr' : allS s (l.take (k + 1)) = r at c2 hf2
    repeat' first | (refine hK _ ?_; clear hK) | (refine hK _ _ ?_; clear hK) | (clear hK; refine hK _ ?_; clear hK) | (clear hK; clear hK; refine hK _ ?_; clear hK) | (clear hK; clear hK; clear hK; refine hK _ ?_; clear hK) | (clear hK; clear hK; clear hK; clear hK; refine hK _ ?_; clear hK) | (refine wSeq fun K hK => ?_) | ((first | refine wReg ?_ | refine wDrwQ rfl (by kernel_rfl) ?_ | refine wDrwI ?_ | refine wDrw (by kernel_rfl) ?_); simp only [List.map_cons, List.map_nil, strip]) | ((first | refine wIs fun K hK => ?_ | refine wOs fun K hK => ?_ | refine wQs fun K hK => ?_ | refine CallK_plain ?_ | refine CallQ_plain ?_ | refine CallR_plain ?_ | refine wCond ?_); simp [g5, g4, g13, g14, g15, b4, b5, hlt, hw, he]) | (refine wIn ?_; refine And.intro (by kernel_rfl) ?_; try simp only [thenA_n]) | (first | refine wBlock ?_ | refine wScope ?_) | ((first | refine wRet ?_ | refine wExit ?_ | refine wSkip ?_); try simp) | ((first | refine wLabel ?_ | refine wOn ?_ | refine wQn ?_); try simp only [thenA_n]) | (refine CallE.pure (c2) rfl ?_) | (refine CallE.lent (c2) rfl ?_) | (refine CallF.pure (c2) rfl ?_) | (refine CallF.lent (c2) rfl ?_) | (refine CallE.own (c2) ?_) | (refine CallH.pure (c2) rfl ?_) | (refine CallH.lent (c2) rfl ?_) | (refine CallH.own (c2) ?_)
    refine hL _ (N - 1) (by omega) ⟨k + 1, by omega, ?_⟩
    simp [g5, g4, g13, g14, g15, b4, b5, hw, hr']
    exact hf2
  · rw [List.take_of_length_le (by omega)] at b5
    generalize allS s l = q at b5 hr
    repeat' first | (refine hK _ ?_; clear hK) | (refine hK _ _ ?_; clear hK) | (clear hK; refine hK _ ?_; clear hK) | (clear hK; clear hK; refine hK _ ?_; clear hK) | (clear hK; clear hK; clear hK; refine hK _ ?_; clear hK) | (clear hK; clear hK; clear hK; clear hK; refine hK _ ?_; clear hK) | (refine wSeq fun K hK => ?_) | ((first | refine wReg ?_ | refine wDrwQ rfl (by kernel_rfl) ?_ | refine wDrwI ?_ | refine wDrw (by kernel_rfl) ?_); simp only [List.map_cons, List.map_nil, strip]) | ((first | refine wIs fun K hK => ?_ | refine wOs fun K hK => ?_ | refine wQs fun K hK => ?_ | refine CallK_plain ?_ | refine CallQ_plain ?_ | refine CallR_plain ?_ | refine wCond ?_); simp [g5, g4, g13, g14, g15, b4, b5, hlt]) | (refine wIn ?_; refine And.intro (by kernel_rfl) ?_; try simp only [thenA_n]) | (first | refine wBlock ?_ | refine wScope ?_) | ((first | refine wRet ?_ | refine wExit ?_ | refine wSkip ?_); try simp) | ((first | refine wLabel ?_ | refine wOn ?_ | refine wQn ?_); try simp only [thenA_n])
    all_goals apply hr
    all_goals simp [Try.f47, g4, g5, b4, b5]
end Go.Proofs.Ytegoihognjpcjaa


/- Histories: what the document makes of them: copies, configs, those that are needed. -/
namespace Go.Proofs.Ytegoihognjpcjaa
set_option linter.unusedSimpArgs false
set_option linter.unusedVariables false
open Go Go.Av
attribute [local simp] Try.T1 Try.T2 Try.T3 Try.T4 Try.T5 Try.T9 Try.T12 Try.T15 Try.T16 Try.T17 Try.T21 Try.T22 Try.T23 Try.T25 Try.T26 Try.T28 Try.T30 Try.T31 Try.T33 Try.T34 Try.T35 Try.T36 Try.T37 Try.T38 Try.T40 Try.T42 Try.T43 Try.T44 Try.T45 Try.T46 Try.T48 Try.T49 Try.T50 Try.T51 Try.T52 Try.T53 Try.T54 Try.T55 Try.T56 Try.T57 Try.T58 Try.T59 Try.T60 Try.T61 Try.T62 Try.T64 Try.T66 Try.T67 Try.T68 Try.T69 Try.T70 Try.T71 Try.T72 Try.T73 Try.T74 Try.T75 Try.T76 Try.T77 Try.T78 Try.T80 Try.T81 Try.T82 Try.T83 Try.T84 Try.T85 Try.T86 Try.T88 Try.T89 Try.T90 Try.T91 Try.T92 Try.T93 Try.T94 Try.T95 Try.T96 Try.T97 Try.T98 Try.T99 Try.T100 Try.T101 Try.T102 Try.T103 Try.T104 Try.T105 Try.T106 Try.T107 Try.T108 Try.T109 Try.T110 Try.T111 Try.T112 Try.T113 Try.T116 Try.T119 Try.T120 Try.T123 Try.T124
attribute [local irreducible] Go.Av.CallK Go.Av.CallE Go.Av.CallQ Go.Av.CallF Go.Av.CallR Go.Av.CallH Go.Av.Con
theorem pts_snoc (l : List Pt) (x : Pt) : pts l ++ [[I x.k, SB x.z.p, SB x.z.d, I x.z.v, I x.z.k, I x.z.o, I x.s, I x.c.ep, I x.c.n, I x.c.kind, .sl 4 (mbs x.c.ms)]] = pts (l ++ [x]) := by simp [pts, Pt.cells]
theorem txns_snoc (l : List Tx) (t : Tx) : txns l ++ [[I t.e, I t.n, I t.s, I t.x, I t.r, I t.b, SB t.m, .sl 11 (pts t.ps)]] = txns (l ++ [t]) := by simp [txns, Tx.cells]
set_option maxHeartbeats 4000000 in
theorem copied16_con (t : Tx) (hl : t.ps.length ≤ 1000) (hc : ∀ p ∈ t.ps, p.c.ms.length ≤ 1000) : ACon Try.prog 48 [.p (.agg t.cells)] (.p (.agg t.cells)) := by
  unfold Tx.cells
  refine wBody Try.tab Try.mixed Try.func48 rfl rfl Try.ntmps48 (by simp) (by simp) fun Q hr hn => ?_
  repeat' first | (refine hK _ ?_; clear hK) | (refine hK _ _ ?_; clear hK) | (clear hK; refine hK _ ?_; clear hK) | (clear hK; clear hK; refine hK _ ?_; clear hK) | (clear hK; clear hK; clear hK; refine hK _ ?_; clear hK) | (clear hK; clear hK; clear hK; clear hK; refine hK _ ?_; clear hK) | (refine wSeq fun K hK => ?_) | ((first | refine wReg ?_ | refine wDrwQ rfl (by kernel_rfl) ?_ | refine wDrwI ?_ | refine wDrw (by kernel_rfl) ?_); simp only [List.map_cons, List.map_nil, strip]) | ((first | refine wIs fun K hK => ?_ | refine wOs fun K hK => ?_ | refine wQs fun K hK => ?_ | refine CallK_plain ?_ | refine CallQ_plain ?_ | refine CallR_plain ?_ | refine wCond ?_); simp) | (refine wIn ?_; refine And.intro (by kernel_rfl) ?_; try simp only [thenA_n]) | (first | refine wBlock ?_ | refine wScope ?_) | ((first | refine wRet ?_ | refine wExit ?_ | refine wSkip ?_); try simp) | ((first | refine wLabel ?_ | refine wOn ?_ | refine wQn ?_); try simp only [thenA_n])
  refine wLoopG [.cel 1 7 26 66 11] (fun N st => ∃ (k : Nat), k + N = t.ps.length ∧ st.s 1 = .ptr 1 0 ∧ st.b 1 = some (.box 40 [.p (I t.e), .p (I t.n), .p (I t.s), .p (I t.x), .p (I t.r), .p (I t.b), .p (SB t.m), .row 26]) ∧ st.s 2 = .ptr 2 0 ∧ st.b 2 = some (.box 40 [.p (I 0), .p (I 0), .p (I 0), .p (I 0), .p (I 0), .p (I 0), .p (SB []), .nil 11]) ∧ st.b 26 = some (.row 66 11 (pts (t.ps.take k))) ∧ st.s 9 = .p (.sl 11 (pts t.ps)) ∧ st.s 10 = .p (I t.ps.length) ∧ st.s 11 = .p (I k)) t.ps.length ⟨0, by simp [frzL, gh1, pts]⟩ fun K N st hL ⟨k, hk, g1, b1, g2, b2, b26, g9, g10, g11⟩ => ?_
  by_cases hlt : k < t.ps.length
  · have hlt' : (k : Int) < t.ps.length := by omega
    have hw := wrapS k _ hlt (by omega)
    have he := pts_get hlt
    have hpc := hc _ (List.getElem_mem hlt)
    have hs := pts_snoc (t.ps.take k) t.ps[k]
    rw [← List.take_succ_eq_append_getElem hlt] at hs
    have hll := pts_len (t.ps.take k)
    rw [List.length_take] at hll
    repeat' first | (refine And.intro (by (try simp only [hll, mbs_len, List.length_cons, List.length_nil]); omega) ?_) | (refine Or.inr ?_) | (refine hK _ ?_; clear hK) | (refine hK _ _ ?_; clear hK) | (clear hK; refine hK _ ?_; clear hK) | (clear hK; clear hK; refine hK _ ?_; clear hK) | (clear hK; clear hK; clear hK; refine hK _ ?_; clear hK) | (clear hK; clear hK; clear hK; clear hK; refine hK _ ?_; clear hK) | (refine wSeq fun K hK => ?_) | ((first | refine wReg ?_ | refine wDrwQ rfl (by kernel_rfl) ?_ | refine wDrwI ?_ | refine wDrw (by kernel_rfl) ?_); simp only [List.map_cons, List.map_nil, strip]) | ((first | refine wIs fun K hK => ?_ | refine wOs fun K hK => ?_ | refine wQs fun K hK => ?_ | refine CallK_plain ?_ | refine CallQ_plain ?_ | refine CallR_plain ?_ | refine wCond ?_); simp [g1, b1, g2, b2, b26, g9, g10, g11, hlt, hlt', hw, he, Pt.cells, hs]) | (refine wIn ?_; refine And.intro (by kernel_rfl) ?_; try simp only [thenA_n]) | (first | refine wBlock ?_ | refine wScope ?_) | ((first | refine wRet ?_ | refine wExit ?_ | refine wSkip ?_); try simp) | ((first | refine wLabel ?_ | refine wOn ?_ | refine wQn ?_); try simp only [thenA_n])
    refine hL _ (N - 1) (by omega) ⟨k + 1, by omega, ?_⟩
    simp [g1, b1, g2, b2, b26, g9, g10, g11, hw, hs]
  · have hlt' : ¬ (k : Int) < t.ps.length := by omega
    rw [List.take_of_length_le (by omega)] at b26
    repeat' first | (refine hK _ ?_; clear hK) | (refine hK _ _ ?_; clear hK) | (clear hK; refine hK _ ?_; clear hK) | (clear hK; clear hK; refine hK _ ?_; clear hK) | (clear hK; clear hK; clear hK; refine hK _ ?_; clear hK) | (clear hK; clear hK; clear hK; clear hK; refine hK _ ?_; clear hK) | (refine wSeq fun K hK => ?_) | ((first | refine wReg ?_ | refine wDrwQ rfl (by kernel_rfl) ?_ | refine wDrwI ?_ | refine wDrw (by kernel_rfl) ?_); simp only [List.map_cons, List.map_nil, strip]) | ((first | refine wIs fun K hK => ?_ | refine wOs fun K hK => ?_ | refine wQs fun K hK => ?_ | refine CallK_plain ?_ | refine CallQ_plain ?_ | refine CallR_plain ?_ | refine wCond ?_); simp [g1, b1, g2, b2, b26, g9, g10, g11, hlt, hlt']) | (refine wIn ?_; refine And.intro (by kernel_rfl) ?_; try simp only [thenA_n]) | (first | refine wBlock ?_ | refine wScope ?_) | ((first | refine wRet ?_ | refine wExit ?_ | refine wSkip ?_); try simp) | ((first | refine wLabel ?_ | refine wOn ?_ | refine wQn ?_); try simp only [thenA_n])
    all_goals apply hr
    all_goals simp [Try.f48, g2, b26]
set_option maxHeartbeats 4000000 in
theorem all16_con (l : List Tx) (hl : l.length ≤ 1000) (hp : ∀ t ∈ l, t.ps.length ≤ 1000 ∧ ∀ p ∈ t.ps, p.c.ms.length ≤ 1000) : ACon Try.prog 28 [.p (.sl 8 (txns l)), .p (.sl 8 [])] (.p (.sl 8 (txns l))) := by
  refine wBody Try.tab Try.mixed Try.func28 rfl rfl Try.ntmps28 (by simp) (by simp) fun Q hr hn => ?_
  repeat' first | (refine hK _ ?_; clear hK) | (refine hK _ _ ?_; clear hK) | (clear hK; refine hK _ ?_; clear hK) | (clear hK; clear hK; refine hK _ ?_; clear hK) | (clear hK; clear hK; clear hK; refine hK _ ?_; clear hK) | (clear hK; clear hK; clear hK; clear hK; refine hK _ ?_; clear hK) | (refine wSeq fun K hK => ?_) | ((first | refine wReg ?_ | refine wDrwQ rfl (by kernel_rfl) ?_ | refine wDrwI ?_ | refine wDrw (by kernel_rfl) ?_); simp only [List.map_cons, List.map_nil, strip]) | ((first | refine wIs fun K hK => ?_ | refine wOs fun K hK => ?_ | refine wQs fun K hK => ?_ | refine CallK_plain ?_ | refine CallQ_plain ?_ | refine CallR_plain ?_ | refine wCond ?_); simp) | (refine wIn ?_; refine And.intro (by kernel_rfl) ?_; try simp only [thenA_n]) | (first | refine wBlock ?_ | refine wScope ?_) | ((first | refine wRet ?_ | refine wExit ?_ | refine wSkip ?_); try simp) | ((first | refine wLabel ?_ | refine wOn ?_ | refine wQn ?_); try simp only [thenA_n])
  refine wLoopG [.row 5 40 8] (fun N st => ∃ (k : Nat), k + N = l.length ∧ st.s 1 = .p (.sl 8 []) ∧ st.s 5 = .row 5 ∧ st.b 5 = some (.row 40 8 (txns (l.take k))) ∧ st.s 10 = .p (.sl 8 (txns l)) ∧ st.s 11 = .p (I l.length) ∧ st.s 12 = .p (I k)) l.length ⟨0, by simp [frzL, gh1, txns]⟩ fun K N st hL ⟨k, hk, g1, g5, b5, g10, g11, g12⟩ => ?_
  by_cases hlt : k < l.length
  · have hlt' : (k : Int) < l.length := by omega
    have hw := wrapS k _ hlt (by omega)
    have he := txns_get hlt
    obtain ⟨hp1, hp2⟩ := hp _ (List.getElem_mem hlt)
    have c := copied16_con l[k] hp1 hp2
    unfold Tx.cells at c
    have hs := txns_snoc (l.take k) l[k]
    rw [← List.take_succ_eq_append_getElem hlt] at hs
    have hll := txns_len (l.take k)
    rw [List.length_take] at hll
    repeat' first | (refine And.intro (by (try simp only [hll, List.length_cons, List.length_nil]); omega) ?_) | (refine hK _ ?_; clear hK) | (refine hK _ _ ?_; clear hK) | (clear hK; refine hK _ ?_; clear hK) | (clear hK; clear hK; refine hK _ ?_; clear hK) | (clear hK; clear hK; clear hK; refine hK _ ?_; clear hK) | (clear hK; clear hK; clear hK; clear hK; refine hK _ ?_; clear hK) | (refine wSeq fun K hK => ?_) | ((first | refine wReg ?_ | refine wDrwQ rfl (by kernel_rfl) ?_ | refine wDrwI ?_ | refine wDrw (by kernel_rfl) ?_); simp only [List.map_cons, List.map_nil, strip]) | ((first | refine wIs fun K hK => ?_ | refine wOs fun K hK => ?_ | refine wQs fun K hK => ?_ | refine CallK_plain ?_ | refine CallQ_plain ?_ | refine CallR_plain ?_ | refine wCond ?_); simp [g1, g5, b5, g10, g11, g12, hlt, hlt', hw, he, hs]) | (refine wIn ?_; refine And.intro (by kernel_rfl) ?_; try simp only [thenA_n]) | (first | refine wBlock ?_ | refine wScope ?_) | ((first | refine wRet ?_ | refine wExit ?_ | refine wSkip ?_); try simp) | ((first | refine wLabel ?_ | refine wOn ?_ | refine wQn ?_); try simp only [thenA_n]) | (refine CallE.pure (c) rfl ?_) | (refine CallE.lent (c) rfl ?_) | (refine CallF.pure (c) rfl ?_) | (refine CallF.lent (c) rfl ?_) | (refine CallE.own (c) ?_) | (refine CallH.pure (c) rfl ?_) | (refine CallH.lent (c) rfl ?_) | (refine CallH.own (c) ?_)
    refine hL _ (N - 1) (by omega) ⟨k + 1, by omega, ?_⟩
    simp [g1, g5, b5, g10, g11, g12, hw, hs]
  · have hlt' : ¬ (k : Int) < l.length := by omega
    rw [List.take_of_length_le (by omega)] at b5
    repeat' first | (refine hK _ ?_; clear hK) | (refine hK _ _ ?_; clear hK) | (clear hK; refine hK _ ?_; clear hK) | (clear hK; clear hK; refine hK _ ?_; clear hK) | (clear hK; clear hK; clear hK; refine hK _ ?_; clear hK) | (clear hK; clear hK; clear hK; clear hK; refine hK _ ?_; clear hK) | (refine wSeq fun K hK => ?_) | ((first | refine wReg ?_ | refine wDrwQ rfl (by kernel_rfl) ?_ | refine wDrwI ?_ | refine wDrw (by kernel_rfl) ?_); simp only [List.map_cons, List.map_nil, strip]) | ((first | refine wIs fun K hK => ?_ | refine wOs fun K hK => ?_ | refine wQs fun K hK => ?_ | refine CallK_plain ?_ | refine CallQ_plain ?_ | refine CallR_plain ?_ | refine wCond ?_); simp [g1, g5, b5, g10, g11, g12, hlt, hlt']) | (refine wIn ?_; refine And.intro (by kernel_rfl) ?_; try simp only [thenA_n]) | (first | refine wBlock ?_ | refine wScope ?_) | ((first | refine wRet ?_ | refine wExit ?_ | refine wSkip ?_); try simp) | ((first | refine wLabel ?_ | refine wOn ?_ | refine wQn ?_); try simp only [thenA_n])
    refine wLoop (fun N st => st.s 5 = .row 5 ∧ st.b 5 = some (.row 40 8 (txns l)) ∧ st.s 22 = .p (.sl 8 []) ∧ st.s 23 = .p (I 0) ∧ st.s 24 = .p (I 0)) 0 (by simp [g5, b5]) fun K N st hL ⟨g5, b5, g22, g23, g24⟩ => ?_
    repeat' first | (refine hK _ ?_; clear hK) | (refine hK _ _ ?_; clear hK) | (clear hK; refine hK _ ?_; clear hK) | (clear hK; clear hK; refine hK _ ?_; clear hK) | (clear hK; clear hK; clear hK; refine hK _ ?_; clear hK) | (clear hK; clear hK; clear hK; clear hK; refine hK _ ?_; clear hK) | (refine wSeq fun K hK => ?_) | ((first | refine wReg ?_ | refine wDrwQ rfl (by kernel_rfl) ?_ | refine wDrwI ?_ | refine wDrw (by kernel_rfl) ?_); simp only [List.map_cons, List.map_nil, strip]) | ((first | refine wIs fun K hK => ?_ | refine wOs fun K hK => ?_ | refine wQs fun K hK => ?_ | refine CallK_plain ?_ | refine CallQ_plain ?_ | refine CallR_plain ?_ | refine wCond ?_); simp [g5, b5, g22, g23, g24]) | (refine wIn ?_; refine And.intro (by kernel_rfl) ?_; try simp only [thenA_n]) | (first | refine wBlock ?_ | refine wScope ?_) | ((first | refine wRet ?_ | refine wExit ?_ | refine wSkip ?_); try simp) | ((first | refine wLabel ?_ | refine wOn ?_ | refine wQn ?_); try simp only [thenA_n])
    all_goals apply hr
    all_goals simp [Try.f28, g5, b5]
theorem own16_con (s : Sv) (h1 : s.ns.length ≤ 1000) (h2 : s.ss.length ≤ 1000) (h3 : s.c.ms.length ≤ 1000) : ACon Try.prog 27 [.p (.agg s.cells)] (.p (.agg s.cells)) := by
  have c := all08_con s [] ⟨by simp [psum]; omega, by simp [psum]; omega, by unfold okC; omega⟩ (by simp)
  rw [show allS s [] = s from rfl, show txns [] = [] from rfl] at c
  unfold Sv.cells at c ⊢
  refine wBody Try.tab Try.mixed Try.func27 rfl rfl Try.ntmps27 (by simp) (by simp) fun Q hr hn => ?_
  repeat' first | (refine hK _ ?_; clear hK) | (refine hK _ _ ?_; clear hK) | (clear hK; refine hK _ ?_; clear hK) | (clear hK; clear hK; refine hK _ ?_; clear hK) | (clear hK; clear hK; clear hK; refine hK _ ?_; clear hK) | (clear hK; clear hK; clear hK; clear hK; refine hK _ ?_; clear hK) | (refine wSeq fun K hK => ?_) | ((first | refine wReg ?_ | refine wDrwQ rfl (by kernel_rfl) ?_ | refine wDrwI ?_ | refine wDrw (by kernel_rfl) ?_); simp only [List.map_cons, List.map_nil, strip]) | ((first | refine wIs fun K hK => ?_ | refine wOs fun K hK => ?_ | refine wQs fun K hK => ?_ | refine CallK_plain ?_ | refine CallQ_plain ?_ | refine CallR_plain ?_ | refine wCond ?_); simp) | (refine wIn ?_; refine And.intro (by kernel_rfl) ?_; try simp only [thenA_n]) | (first | refine wBlock ?_ | refine wScope ?_) | ((first | refine wRet ?_ | refine wExit ?_ | refine wSkip ?_); try simp) | ((first | refine wLabel ?_ | refine wOn ?_ | refine wQn ?_); try simp only [thenA_n]) | (refine CallE.pure (c) rfl ?_) | (refine CallE.lent (c) rfl ?_) | (refine CallF.pure (c) rfl ?_) | (refine CallF.lent (c) rfl ?_) | (refine CallE.own (c) ?_) | (refine CallH.pure (c) rfl ?_) | (refine CallH.lent (c) rfl ?_) | (refine CallH.own (c) ?_)
  all_goals apply hr
  all_goals simp [Try.f27]
end Go.Proofs.Ytegoihognjpcjaa


/- Histories: copies, marks, the plan that makes one of another. -/
namespace Go.Proofs.Ytegoihognjpcjaa
set_option linter.unusedSimpArgs false
set_option linter.unusedVariables false
open Go Go.Av
attribute [local simp] Try.T1 Try.T2 Try.T3 Try.T4 Try.T5 Try.T9 Try.T12 Try.T15 Try.T16 Try.T17 Try.T21 Try.T22 Try.T23 Try.T25 Try.T26 Try.T28 Try.T30 Try.T31 Try.T33 Try.T34 Try.T35 Try.T36 Try.T37 Try.T38 Try.T40 Try.T42 Try.T43 Try.T44 Try.T45 Try.T46 Try.T48 Try.T49 Try.T50 Try.T51 Try.T52 Try.T53 Try.T54 Try.T55 Try.T56 Try.T57 Try.T58 Try.T59 Try.T60 Try.T61 Try.T62 Try.T64 Try.T66 Try.T67 Try.T68 Try.T69 Try.T70 Try.T71 Try.T72 Try.T73 Try.T74 Try.T75 Try.T76 Try.T77 Try.T78 Try.T80 Try.T81 Try.T82 Try.T83 Try.T84 Try.T85 Try.T86 Try.T88 Try.T89 Try.T90 Try.T91 Try.T92 Try.T93 Try.T94 Try.T95 Try.T96 Try.T97 Try.T98 Try.T99 Try.T100 Try.T101 Try.T102 Try.T103 Try.T104 Try.T105 Try.T106 Try.T107 Try.T108 Try.T109 Try.T110 Try.T111 Try.T112 Try.T113 Try.T116 Try.T119 Try.T120 Try.T123 Try.T124
attribute [local irreducible] Go.Av.CallK Go.Av.CallE Go.Av.CallQ Go.Av.CallF Go.Av.CallR Go.Av.CallH Go.Av.Con
theorem set_takeK {α : Type} (l : List α) (k : Nat) (x : α) (h : k < l.length) : (l.set k x).take (k + 1) = l.take k ++ [x] := by
  rw [List.take_succ_eq_append_getElem (by simpa using h), List.getElem_set_self, List.take_set_of_le (Nat.le_refl _)]
set_option maxHeartbeats 1000000 in
theorem ownPart_con (x : Pt) (hm : x.c.ms.length ≤ 1000) : ACon Try.prog 66 [.p (.agg x.cells)] (.p (.agg x.cells)) := by
  have c := ownConfig_con x.c.ep x.c.n x.c.kind (mbs x.c.ms) (by rw [mbs_len]; omega)
  unfold Pt.cells
  refine wBody Try.tab Try.mixed Try.func66 rfl rfl Try.ntmps66 (by simp) (by simp) fun Q hr hn => ?_
  repeat' first | (refine hK _ ?_; clear hK) | (refine hK _ _ ?_; clear hK) | (clear hK; refine hK _ ?_; clear hK) | (clear hK; clear hK; refine hK _ ?_; clear hK) | (clear hK; clear hK; clear hK; refine hK _ ?_; clear hK) | (clear hK; clear hK; clear hK; clear hK; refine hK _ ?_; clear hK) | (refine wSeq fun K hK => ?_) | ((first | refine wReg ?_ | refine wDrwQ rfl (by kernel_rfl) ?_ | refine wDrwI ?_ | refine wDrw (by kernel_rfl) ?_); simp only [List.map_cons, List.map_nil, strip]) | ((first | refine wIs fun K hK => ?_ | refine wOs fun K hK => ?_ | refine wQs fun K hK => ?_ | refine CallK_plain ?_ | refine CallQ_plain ?_ | refine CallR_plain ?_ | refine wCond ?_); simp) | (refine wIn ?_; refine And.intro (by kernel_rfl) ?_; try simp only [thenA_n]) | (first | refine wBlock ?_ | refine wScope ?_) | ((first | refine wRet ?_ | refine wExit ?_ | refine wSkip ?_); try simp) | ((first | refine wLabel ?_ | refine wOn ?_ | refine wQn ?_); try simp only [thenA_n]) | (refine CallE.pure (c) rfl ?_) | (refine CallE.lent (c) rfl ?_) | (refine CallF.pure (c) rfl ?_) | (refine CallF.lent (c) rfl ?_) | (refine CallE.own (c) ?_) | (refine CallH.pure (c) rfl ?_) | (refine CallH.lent (c) rfl ?_) | (refine CallH.own (c) ?_)
  all_goals apply hr
  all_goals simp [Try.f66]
theorem pts_set (l : List Pt) (k : Nat) (x : Pt) : (pts l).set k [I x.k, SB x.z.p, SB x.z.d, I x.z.v, I x.z.k, I x.z.o, I x.s, I x.c.ep, I x.c.n, I x.c.kind, .sl 4 (mbs x.c.ms)] = pts (l.set k x) := by simp [pts, Pt.cells, List.map_set]
def pt0 : Pt := ⟨0, ⟨[], [], 0, 0, 0⟩, 0, ⟨0, 0, 0, []⟩⟩
theorem pts_rep (n : Nat) : List.replicate n [I 0, SB [], SB [], I 0, I 0, I 0, I 0, I 0, I 0, I 0, .sl 4 []] = pts (List.replicate n pt0) := by simp [pts, pt0, Pt.cells, mbs]
set_option maxHeartbeats 1000000 in
theorem listPt_con (l : List Pt) (hl : l.length ≤ 1000) (hm : ∀ x ∈ l, x.c.ms.length ≤ 1000) : RCon 65 [.p (.sl 11 (pts l)), .p (.v (.func (.func 66) #[] #[]))] 66 11 (pts l) := by
  by_cases h0 : l.length = 0
  · obtain rfl := List.length_eq_zero_iff.1 h0
    refine wBodyR Try.tab Try.mixed Try.func65 rfl rfl Try.ntmps65 rfl (by simp) (by simp) fun Q hr hn => ?_
    repeat' first | (refine wRetG [.row 4 66 11] ?_) | (refine hK _ ?_; clear hK) | (refine hK _ _ ?_; clear hK) | (clear hK; refine hK _ ?_; clear hK) | (clear hK; clear hK; refine hK _ ?_; clear hK) | (clear hK; clear hK; clear hK; refine hK _ ?_; clear hK) | (clear hK; clear hK; clear hK; clear hK; refine hK _ ?_; clear hK) | (refine wSeq fun K hK => ?_) | ((first | refine wReg ?_ | refine wDrwQ rfl (by kernel_rfl) ?_ | refine wDrwI ?_ | refine wDrw (by kernel_rfl) ?_); simp only [List.map_cons, List.map_nil, strip]) | ((first | refine wIs fun K hK => ?_ | refine wOs fun K hK => ?_ | refine wQs fun K hK => ?_ | refine CallK_plain ?_ | refine CallQ_plain ?_ | refine CallR_plain ?_ | refine wCond ?_); simp [pts]) | (refine wIn ?_; refine And.intro (by kernel_rfl) ?_; try simp only [thenA_n]) | (first | refine wBlock ?_ | refine wScope ?_) | ((first | refine wRet ?_ | refine wExit ?_ | refine wSkip ?_); try simp) | ((first | refine wLabel ?_ | refine wOn ?_ | refine wQn ?_); try simp only [thenA_n])
    all_goals refine hr _ 4 (by simp) (by simp [pts]) (by omega)
  have h0' : ¬ (l.length : Int) = 0 := by omega
  refine wBodyR Try.tab Try.mixed Try.func65 rfl rfl Try.ntmps65 rfl (by simp) (by simp) fun Q hr hn => ?_
  repeat' first | (rw [if_pos ⟨by omega, by omega⟩]) | (refine hK _ ?_; clear hK) | (refine hK _ _ ?_; clear hK) | (clear hK; refine hK _ ?_; clear hK) | (clear hK; clear hK; refine hK _ ?_; clear hK) | (clear hK; clear hK; clear hK; refine hK _ ?_; clear hK) | (clear hK; clear hK; clear hK; clear hK; refine hK _ ?_; clear hK) | (refine wSeq fun K hK => ?_) | ((first | refine wReg ?_ | refine wDrwQ rfl (by kernel_rfl) ?_ | refine wDrwI ?_ | refine wDrw (by kernel_rfl) ?_); simp only [List.map_cons, List.map_nil, strip]) | ((first | refine wIs fun K hK => ?_ | refine wOs fun K hK => ?_ | refine wQs fun K hK => ?_ | refine CallK_plain ?_ | refine CallQ_plain ?_ | refine CallR_plain ?_ | refine wCond ?_); simp [h0, h0', pts_rep]) | (refine wIn ?_; refine And.intro (by kernel_rfl) ?_; try simp only [thenA_n]) | (first | refine wBlock ?_ | refine wScope ?_) | ((first | refine wRet ?_ | refine wExit ?_ | refine wSkip ?_); try simp) | ((first | refine wLabel ?_ | refine wOn ?_ | refine wQn ?_); try simp only [thenA_n])
  refine wLoop (fun N st => ∃ k zs, k + N = l.length ∧ zs.length = l.length ∧ zs.take k = l.take k ∧ st.s 1 = .p (.v (.func (.func 66) #[] #[])) ∧ st.s 5 = .row 13 ∧ st.s 14 = .p (.sl 11 (pts l)) ∧ st.s 15 = .p (I l.length) ∧ st.s 16 = .p (I k) ∧ st.b 13 = some (.row 66 11 (pts zs))) l.length ⟨0, List.replicate l.length pt0, by simp [pts_rep]⟩ fun K N st hL ⟨k, zs, hk, hz, hi, g1, g5, g14, g15, g16, b13⟩ => ?_
  by_cases hlt : k < l.length
  · have hlt' : (k : Int) < l.length := by omega
    have hltz : k < zs.length := by omega
    have hw := wrapS k _ hlt (by omega)
    have he := pts_get hlt
    have c := ownPart_con l[k] (hm _ (List.getElem_mem hlt))
    unfold Pt.cells at c
    have hs := pts_set zs k l[k]
    have hst := set_takeK zs k l[k] hltz
    rw [hi, ← List.take_succ_eq_append_getElem hlt] at hst
    repeat' first | (refine hK _ ?_; clear hK) | (refine hK _ _ ?_; clear hK) | (clear hK; refine hK _ ?_; clear hK) | (clear hK; clear hK; refine hK _ ?_; clear hK) | (clear hK; clear hK; clear hK; refine hK _ ?_; clear hK) | (clear hK; clear hK; clear hK; clear hK; refine hK _ ?_; clear hK) | (refine wSeq fun K hK => ?_) | ((first | refine wReg ?_ | refine wDrwQ rfl (by kernel_rfl) ?_ | refine wDrwI ?_ | refine wDrw (by kernel_rfl) ?_); simp only [List.map_cons, List.map_nil, strip]) | ((first | refine wIs fun K hK => ?_ | refine wOs fun K hK => ?_ | refine wQs fun K hK => ?_ | refine CallK_plain ?_ | refine CallQ_plain ?_ | refine CallR_plain ?_ | refine wCond ?_); simp [g1, g5, g14, g15, g16, b13, hlt, hlt', hltz, hw, he, hs, Pt.cells]) | (refine wIn ?_; refine And.intro (by kernel_rfl) ?_; try simp only [thenA_n]) | (first | refine wBlock ?_ | refine wScope ?_) | ((first | refine wRet ?_ | refine wExit ?_ | refine wSkip ?_); try simp) | ((first | refine wLabel ?_ | refine wOn ?_ | refine wQn ?_); try simp only [thenA_n]) | (refine CallE.pure (c) rfl ?_) | (refine CallE.lent (c) rfl ?_) | (refine CallF.pure (c) rfl ?_) | (refine CallF.lent (c) rfl ?_) | (refine CallE.own (c) ?_) | (refine CallH.pure (c) rfl ?_) | (refine CallH.lent (c) rfl ?_) | (refine CallH.own (c) ?_)
    refine hL _ (N - 1) (by omega) ⟨k + 1, zs.set k l[k], by omega, by simpa using hz, hst, ?_⟩
    simp [g1, g5, g14, g15, g16, b13, hw, hs]
  · have hlt' : ¬ (k : Int) < l.length := by omega
    rw [List.take_of_length_le (by omega), List.take_of_length_le (by omega)] at hi
    subst hi
    repeat' first | (refine hK _ ?_; clear hK) | (refine hK _ _ ?_; clear hK) | (clear hK; refine hK _ ?_; clear hK) | (clear hK; clear hK; refine hK _ ?_; clear hK) | (clear hK; clear hK; clear hK; refine hK _ ?_; clear hK) | (clear hK; clear hK; clear hK; clear hK; refine hK _ ?_; clear hK) | (refine wSeq fun K hK => ?_) | ((first | refine wReg ?_ | refine wDrwQ rfl (by kernel_rfl) ?_ | refine wDrwI ?_ | refine wDrw (by kernel_rfl) ?_); simp only [List.map_cons, List.map_nil, strip]) | ((first | refine wIs fun K hK => ?_ | refine wOs fun K hK => ?_ | refine wQs fun K hK => ?_ | refine CallK_plain ?_ | refine CallQ_plain ?_ | refine CallR_plain ?_ | refine wCond ?_); simp [g1, g5, g14, g15, g16, b13, hlt, hlt']) | (refine wIn ?_; refine And.intro (by kernel_rfl) ?_; try simp only [thenA_n]) | (first | refine wBlock ?_ | refine wScope ?_) | ((first | refine wRet ?_ | refine wExit ?_ | refine wSkip ?_); try simp) | ((first | refine wLabel ?_ | refine wOn ?_ | refine wQn ?_); try simp only [thenA_n])
    all_goals refine hr _ 13 (by simp [g5]) (by simp [b13]) (by omega)
theorem ownTxn_con (t : Tx) (hl : t.ps.length ≤ 1000) (hm : ∀ x ∈ t.ps, x.c.ms.length ≤ 1000) : ACon Try.prog 51 [.p (.agg t.cells)] (.p (.agg t.cells)) := by
  have c := listPt_con t.ps hl hm
  unfold Tx.cells
  refine wBody Try.tab Try.mixed Try.func51 rfl rfl Try.ntmps51 (by simp) (by simp) fun Q hr hn => ?_
  repeat' first | (refine hK _ ?_; clear hK) | (refine hK _ _ ?_; clear hK) | (clear hK; refine hK _ ?_; clear hK) | (clear hK; clear hK; refine hK _ ?_; clear hK) | (clear hK; clear hK; clear hK; refine hK _ ?_; clear hK) | (clear hK; clear hK; clear hK; clear hK; refine hK _ ?_; clear hK) | (refine wSeq fun K hK => ?_) | ((first | refine wReg ?_ | refine wDrwQ rfl (by kernel_rfl) ?_ | refine wDrwI ?_ | refine wDrw (by kernel_rfl) ?_); simp only [List.map_cons, List.map_nil, strip]) | ((first | refine wIs fun K hK => ?_ | refine wOs fun K hK => ?_ | refine wQs fun K hK => ?_ | refine CallK_plain ?_ | refine CallQ_plain ?_ | refine CallR_plain ?_ | refine wCond ?_); simp) | (refine wIn ?_; refine And.intro (by kernel_rfl) ?_; try simp only [thenA_n]) | (first | refine wBlock ?_ | refine wScope ?_) | ((first | refine wRet ?_ | refine wExit ?_ | refine wSkip ?_); try simp) | ((first | refine wLabel ?_ | refine wOn ?_ | refine wQn ?_); try simp only [thenA_n]) | (refine CallE.pure (c) rfl ?_) | (refine CallE.lent (c) rfl ?_) | (refine CallF.pure (c) rfl ?_) | (refine CallF.lent (c) rfl ?_) | (refine CallE.own (c) ?_) | (refine CallH.pure (c) rfl ?_) | (refine CallH.lent (c) rfl ?_) | (refine CallH.own (c) ?_)
  all_goals apply hr
  all_goals simp [Try.f51]
theorem txns_set (l : List Tx) (k : Nat) (t : Tx) : (txns l).set k [I t.e, I t.n, I t.s, I t.x, I t.r, I t.b, SB t.m, .sl 11 (pts t.ps)] = txns (l.set k t) := by simp [txns, Tx.cells, List.map_set]
def tx0 : Tx := ⟨0, 0, 0, 0, 0, 0, [], []⟩
theorem txns_rep (n : Nat) : List.replicate n [I 0, I 0, I 0, I 0, I 0, I 0, SB [], .sl 11 []] = txns (List.replicate n tx0) := by simp [txns, tx0, Tx.cells, pts]
set_option maxHeartbeats 1000000 in
theorem listTx_con (l : List Tx) (hl : l.length ≤ 1000) (hm : ∀ x ∈ l, x.ps.length ≤ 1000 ∧ ∀ p ∈ x.ps, p.c.ms.length ≤ 1000) : RCon 50 [.p (.sl 8 (txns l)), .p (.v (.func (.func 51) #[] #[]))] 40 8 (txns l) := by
  by_cases h0 : l.length = 0
  · obtain rfl := List.length_eq_zero_iff.1 h0
    refine wBodyR Try.tab Try.mixed Try.func50 rfl rfl Try.ntmps50 rfl (by simp) (by simp) fun Q hr hn => ?_
    repeat' first | (refine wRetG [.row 4 40 8] ?_) | (refine hK _ ?_; clear hK) | (refine hK _ _ ?_; clear hK) | (clear hK; refine hK _ ?_; clear hK) | (clear hK; clear hK; refine hK _ ?_; clear hK) | (clear hK; clear hK; clear hK; refine hK _ ?_; clear hK) | (clear hK; clear hK; clear hK; clear hK; refine hK _ ?_; clear hK) | (refine wSeq fun K hK => ?_) | ((first | refine wReg ?_ | refine wDrwQ rfl (by kernel_rfl) ?_ | refine wDrwI ?_ | refine wDrw (by kernel_rfl) ?_); simp only [List.map_cons, List.map_nil, strip]) | ((first | refine wIs fun K hK => ?_ | refine wOs fun K hK => ?_ | refine wQs fun K hK => ?_ | refine CallK_plain ?_ | refine CallQ_plain ?_ | refine CallR_plain ?_ | refine wCond ?_); simp [txns]) | (refine wIn ?_; refine And.intro (by kernel_rfl) ?_; try simp only [thenA_n]) | (first | refine wBlock ?_ | refine wScope ?_) | ((first | refine wRet ?_ | refine wExit ?_ | refine wSkip ?_); try simp) | ((first | refine wLabel ?_ | refine wOn ?_ | refine wQn ?_); try simp only [thenA_n])
    all_goals refine hr _ 4 (by simp) (by simp [txns]) (by omega)
  have h0' : ¬ (l.length : Int) = 0 := by omega
  refine wBodyR Try.tab Try.mixed Try.func50 rfl rfl Try.ntmps50 rfl (by simp) (by simp) fun Q hr hn => ?_
  repeat' first | (rw [if_pos ⟨by omega, by omega⟩]) | (refine hK _ ?_; clear hK) | (refine hK _ _ ?_; clear hK) | (clear hK; refine hK _ ?_; clear hK) | (clear hK; clear hK; refine hK _ ?_; clear hK) | (clear hK; clear hK; clear hK; refine hK _ ?_; clear hK) | (clear hK; clear hK; clear hK; clear hK; refine hK _ ?_; clear hK) | (refine wSeq fun K hK => ?_) | ((first | refine wReg ?_ | refine wDrwQ rfl (by kernel_rfl) ?_ | refine wDrwI ?_ | refine wDrw (by kernel_rfl) ?_); simp only [List.map_cons, List.map_nil, strip]) | ((first | refine wIs fun K hK => ?_ | refine wOs fun K hK => ?_ | refine wQs fun K hK => ?_ | refine CallK_plain ?_ | refine CallQ_plain ?_ | refine CallR_plain ?_ | refine wCond ?_); simp [h0, h0', txns_rep]) | (refine wIn ?_; refine And.intro (by kernel_rfl) ?_; try simp only [thenA_n]) | (first | refine wBlock ?_ | refine wScope ?_) | ((first | refine wRet ?_ | refine wExit ?_ | refine wSkip ?_); try simp) | ((first | refine wLabel ?_ | refine wOn ?_ | refine wQn ?_); try simp only [thenA_n])
  refine wLoop (fun N st => ∃ k zs, k + N = l.length ∧ zs.length = l.length ∧ zs.take k = l.take k ∧ st.s 1 = .p (.v (.func (.func 51) #[] #[])) ∧ st.s 5 = .row 13 ∧ st.s 14 = .p (.sl 8 (txns l)) ∧ st.s 15 = .p (I l.length) ∧ st.s 16 = .p (I k) ∧ st.b 13 = some (.row 40 8 (txns zs))) l.length ⟨0, List.replicate l.length tx0, by simp [txns_rep]⟩ fun K N st hL ⟨k, zs, hk, hz, hi, g1, g5, g14, g15, g16, b13⟩ => ?_
  by_cases hlt : k < l.length
  · have hlt' : (k : Int) < l.length := by omega
    have hltz : k < zs.length := by omega
    have hw := wrapS k _ hlt (by omega)
    have he := txns_get hlt
    have c := ownTxn_con l[k] (hm _ (List.getElem_mem hlt)).1 (hm _ (List.getElem_mem hlt)).2
    unfold Tx.cells at c
    have hs := txns_set zs k l[k]
    have hst := set_takeK zs k l[k] hltz
    rw [hi, ← List.take_succ_eq_append_getElem hlt] at hst
    repeat' first | (refine hK _ ?_; clear hK) | (refine hK _ _ ?_; clear hK) | (clear hK; refine hK _ ?_; clear hK) | (clear hK; clear hK; refine hK _ ?_; clear hK) | (clear hK; clear hK; clear hK; refine hK _ ?_; clear hK) | (clear hK; clear hK; clear hK; clear hK; refine hK _ ?_; clear hK) | (refine wSeq fun K hK => ?_) | ((first | refine wReg ?_ | refine wDrwQ rfl (by kernel_rfl) ?_ | refine wDrwI ?_ | refine wDrw (by kernel_rfl) ?_); simp only [List.map_cons, List.map_nil, strip]) | ((first | refine wIs fun K hK => ?_ | refine wOs fun K hK => ?_ | refine wQs fun K hK => ?_ | refine CallK_plain ?_ | refine CallQ_plain ?_ | refine CallR_plain ?_ | refine wCond ?_); simp [g1, g5, g14, g15, g16, b13, hlt, hlt', hltz, hw, he, hs, Tx.cells]) | (refine wIn ?_; refine And.intro (by kernel_rfl) ?_; try simp only [thenA_n]) | (first | refine wBlock ?_ | refine wScope ?_) | ((first | refine wRet ?_ | refine wExit ?_ | refine wSkip ?_); try simp) | ((first | refine wLabel ?_ | refine wOn ?_ | refine wQn ?_); try simp only [thenA_n]) | (refine CallE.pure (c) rfl ?_) | (refine CallE.lent (c) rfl ?_) | (refine CallF.pure (c) rfl ?_) | (refine CallF.lent (c) rfl ?_) | (refine CallE.own (c) ?_) | (refine CallH.pure (c) rfl ?_) | (refine CallH.lent (c) rfl ?_) | (refine CallH.own (c) ?_)
    refine hL _ (N - 1) (by omega) ⟨k + 1, zs.set k l[k], by omega, by simpa using hz, hst, ?_⟩
    simp [g1, g5, g14, g15, g16, b13, hw, hs]
  · have hlt' : ¬ (k : Int) < l.length := by omega
    rw [List.take_of_length_le (by omega), List.take_of_length_le (by omega)] at hi
    subst hi
    repeat' first | (refine hK _ ?_; clear hK) | (refine hK _ _ ?_; clear hK) | (clear hK; refine hK _ ?_; clear hK) | (clear hK; clear hK; refine hK _ ?_; clear hK) | (clear hK; clear hK; clear hK; refine hK _ ?_; clear hK) | (clear hK; clear hK; clear hK; clear hK; refine hK _ ?_; clear hK) | (refine wSeq fun K hK => ?_) | ((first | refine wReg ?_ | refine wDrwQ rfl (by kernel_rfl) ?_ | refine wDrwI ?_ | refine wDrw (by kernel_rfl) ?_); simp only [List.map_cons, List.map_nil, strip]) | ((first | refine wIs fun K hK => ?_ | refine wOs fun K hK => ?_ | refine wQs fun K hK => ?_ | refine CallK_plain ?_ | refine CallQ_plain ?_ | refine CallR_plain ?_ | refine wCond ?_); simp [g1, g5, g14, g15, g16, b13, hlt, hlt']) | (refine wIn ?_; refine And.intro (by kernel_rfl) ?_; try simp only [thenA_n]) | (first | refine wBlock ?_ | refine wScope ?_) | ((first | refine wRet ?_ | refine wExit ?_ | refine wSkip ?_); try simp) | ((first | refine wLabel ?_ | refine wOn ?_ | refine wQn ?_); try simp only [thenA_n])
    all_goals refine hr _ 13 (by simp [g5]) (by simp [b13]) (by omega)
theorem ownTxns_con (l : List Tx) (hl : l.length ≤ 1000) (hm : ∀ x ∈ l, x.ps.length ≤ 1000 ∧ ∀ p ∈ x.ps, p.c.ms.length ≤ 1000) : RCon 33 [.p (.sl 8 (txns l))] 40 8 (txns l) := by
  have c := listTx_con l hl hm
  refine wBodyR Try.tab Try.mixed Try.func33 rfl rfl Try.ntmps33 rfl (by simp) (by simp) fun Q hr hn => ?_
  repeat' first | (refine CallE.pure (c) rfl ?_) | (refine CallE.lent (c) rfl ?_) | (refine CallF.pure (c) rfl ?_) | (refine CallF.lent (c) rfl ?_) | (refine CallE.own (c) ?_) | (refine CallH.pure (c) rfl ?_) | (refine CallH.lent (c) rfl ?_) | (refine CallH.own (c) ?_) | (refine hK _ ?_; clear hK) | (refine hK _ _ ?_; clear hK) | (clear hK; refine hK _ ?_; clear hK) | (clear hK; clear hK; refine hK _ ?_; clear hK) | (clear hK; clear hK; clear hK; refine hK _ ?_; clear hK) | (clear hK; clear hK; clear hK; clear hK; refine hK _ ?_; clear hK) | (refine wSeq fun K hK => ?_) | ((first | refine wReg ?_ | refine wDrwQ rfl (by kernel_rfl) ?_ | refine wDrwI ?_ | refine wDrw (by kernel_rfl) ?_); simp only [List.map_cons, List.map_nil, strip]) | ((first | refine wIs fun K hK => ?_ | refine wOs fun K hK => ?_ | refine wQs fun K hK => ?_ | refine CallK_plain ?_ | refine CallQ_plain ?_ | refine CallR_plain ?_ | refine wCond ?_); simp) | (refine wIn ?_; refine And.intro (by kernel_rfl) ?_; try simp only [thenA_n]) | (first | refine wBlock ?_ | refine wScope ?_) | ((first | refine wRet ?_ | refine wExit ?_ | refine wSkip ?_); try simp) | ((first | refine wLabel ?_ | refine wOn ?_ | refine wQn ?_); try simp only [thenA_n])
  all_goals refine hr _ 4 (by simp) (by simp) (by omega)
end Go.Proofs.Ytegoihognjpcjaa


/- slices.Backward of places: what it hands back, and what that does. -/
namespace Go.Proofs.Ytegoihognjpcjaa
set_option linter.unusedSimpArgs false
set_option linter.unusedVariables false
open Go Go.Av Go.RowKit
attribute [local go_sem] Oper.semAt_some
set_option maxRecDepth 100000 in
set_option maxHeartbeats 4000000 in
theorem backward_iter : IterB Try.prog 49 2 := by
  intro l lid q J Jx W0 hJ h0
  refine callsIn_of_wp Try.func49 rfl trivial ?_ rfl
  simp only [Try.ntmps49, List.size_toArray, List.length_cons, List.length_nil, Nat.reduceAdd, Nat.reduceSub, Array.replicate_succ, Array.replicate_zero, List.push_toArray, List.append_toArray, List.nil_append, List.cons_append]
  -- what is read in a world
  have key : ∀ k W, J k W → ∃ bk off b cap, q = .pointer (some ⟨bk, off, none⟩) ∧ W.cell? ⟨bk, off, none⟩ = some (.slice b l.length cap) ∧ (l.length ≤ maxLen) ∧ (∀ (h : k < l.length), ∃ (bb o : Nat) (c0 c1 : Value), b = some ⟨bb, o, none⟩ ∧ W.cell? ⟨bb, o + (l.length - 1 - k) * 2, none⟩ = some c0 ∧ W.cell? ⟨bb, o + (l.length - 1 - k) * 2 + 1, none⟩ = some c1 ∧
      YieldAt Fence.wide 1 Try.prog lid #[.int .i64 ((l.length - 1 - k : Nat) : Int), .agg #[c0, c1]] W fun e W' => (e = .returned (.bool true) ∧ J (k + 1) W') ∨ (e = .returned (.bool false) ∧ Jx W')) := fun k W hj => by
    obtain ⟨G, bk, off, hq, hre, hy⟩ := hJ k W hj
    obtain ⟨-, hre⟩ := hre
    obtain ⟨-, u, hu, hrp⟩ := hre 0 _ rfl
    cases hrp with
    | nil => exact ⟨bk, off, none, 0, hq, hu, Nat.zero_le _, fun h => by simp at h⟩
    | emp c a => exact ⟨bk, off, some a, 0, hq, hu, Nat.zero_le _, fun h => by simp at h⟩
    | sl c l bb o cap uu hlen hm hk hc hone hcell hr =>
      refine ⟨bk, off, _, cap, hq, hu, Nat.le_trans hlen hm, fun h => ?_⟩
      have hlt : l.length - 1 - k < l.length := by omega
      have h2 := hc _ _ (List.getElem?_eq_getElem hlt)
      have hget : ∀ j, j < 2 → ∃ p, l[l.length - 1 - k][j]? = some p := fun j hj => ⟨_, List.getElem?_eq_getElem (by omega)⟩
      obtain ⟨p0, hp0⟩ := hget 0 (by omega)
      obtain ⟨p1, hp1⟩ := hget 1 (by omega)
      have a0 := hcell _ _ 0 p0 (List.getElem?_eq_getElem hlt) hp0
      have a1 := hcell _ _ 1 p1 (List.getElem?_eq_getElem hlt) hp1
      refine ⟨bb, o, uu (l.length - 1 - k) 0, uu (l.length - 1 - k) 1, rfl, by simpa using a0, by rw [← a1, Nat.add_assoc], hy h _ (.agg _ _ (uu (l.length - 1 - k)) (by simp [h2]) (fun j p hj => hone _ _ j p (List.getElem?_eq_getElem hlt) hj) (fun j p hj => ?_) fun j p hj => hr _ _ j p (List.getElem?_eq_getElem hlt) hj)⟩
      have hj2 : j < 2 := by have := (List.getElem?_eq_some_iff.1 hj).1; omega
      match j, hj2 with
      | 0, _ => rfl
      | 1, _ => rfl
  clear hJ
  obtain ⟨bk, off, b, cap, rfl, hu, hlen, -⟩ := key 0 W0 h0
  have hlen : l.length ≤ 9223372036854775807 := by unfold maxLen at hlen; omega
  have hw0 : IntKind.i64.wrap ((l.length : Int) - 1) = (l.length : Int) - 1 := by rw [wrap_id] <;> omega
  gi_wp2
  gi_loopw [3] (fun i wr => ∃ k : Nat, k ≤ l.length ∧ i = .int .i64 ((l.length : Int) - 1 - k) ∧ J k wr) (fun i _ => (intOf i + 1).toNat)
  case atStart => exact ⟨0, Nat.zero_le _, by simp, h0⟩
  case round =>
    obtain ⟨k, hk, rfl, hJs⟩ := hrel
    obtain ⟨bk', off', b', cap', hq', hu', -, hy⟩ := key k wr hJs
    simp only [Value.pointer.injEq, Option.some.injEq, Addr.mk.injEq, and_true] at hq'
    obtain ⟨rfl, rfl⟩ := hq'
    by_cases hlt : k < l.length
    · obtain ⟨bb, o, c0, c1, rfl, hc0, hc1, fn, tmps, assign, body, hyr, hR⟩ := hy hlt
      obtain ⟨i, hi⟩ : ∃ i : Nat, i = l.length - 1 - k := ⟨_, rfl⟩
      have hiI : (l.length : Int) - 1 - k = (i : Int) := by omega
      rw [← hi] at hc0 hc1 hyr
      have hin : i < l.length := by omega
      have hw1 : IntKind.i64.wrap ((i : Int) - 1) = (i : Int) - 1 := by rw [wrap_id] <;> omega
      have hik : i + k + 1 = l.length := by omega
      rw [hiI]
      clear hi hiI hy
      gi_wp2
      refine hR.mono ?_
      rintro e W3 (⟨rfl, hJ3⟩ | ⟨rfl, hJx3⟩)
      · gi_wp2
        go_roundw
        case rel => exact ⟨k + 1, by omega, by (simp <;> omega), hJ3⟩
        case measure => (simp [intOf] <;> omega)
      · gi_wp2
        refine bodyPost_ret (results_none rfl _ _ _) rfl ?_
        exact ⟨⟨_, rfl⟩, .inr hJx3⟩
    · obtain rfl : k = l.length := by omega
      have hneg : (l.length : Int) - 1 - l.length = -1 := by omega
      rw [hneg]
      gi_wp2
      go_end0
      exact ⟨⟨_, rfl⟩, .inl hJs⟩
end Go.Proofs.Ytegoihognjpcjaa

