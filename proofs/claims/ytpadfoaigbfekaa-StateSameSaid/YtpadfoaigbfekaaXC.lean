/- States: a session opened, a session closed. -/
import Derived.Test.YtpadfoaigbfekaaXB
import Derived.Test.YtpadfoaigbfekaaIX
namespace Go.Proofs.Ytpadfoaigbfekaa
set_option linter.unusedSimpArgs false
set_option linter.unusedVariables false
open Go Go.Av
attribute [local simp] Try.T1 Try.T2 Try.T3 Try.T4 Try.T5 Try.T9 Try.T12 Try.T21 Try.T22 Try.T24 Try.T25 Try.T26 Try.T27 Try.T28 Try.T29 Try.T30 Try.T31 Try.T33 Try.T34 Try.T35 Try.T36 Try.T37 Try.T38 Try.T39 Try.T41 Try.T42 Try.T43 Try.T44 Try.T46 Try.T47 Try.T49 Try.T51 Try.T52 Try.T53 Try.T54 Try.T56 Try.T57 Try.T58 Try.T59 Try.T60 Try.T62 Try.T64 Try.T65 Try.T66 Try.T67 Try.T68 Try.T69 Try.T70 Try.T71 Try.T72 Try.T73 Try.T75 Try.T76 Try.T77 Try.T78 Try.T79 Try.T80 Try.T82 Try.T83 Try.T84 Try.T85 Try.T87 Try.T88 Try.T89 Try.T90 Try.T91 Try.T92 Try.T93 Try.T94 Try.T95 Try.T96 Try.T97 Try.T98 Try.T99 Try.T100 Try.T102 Try.T103 Try.T104 Try.T105 Try.T106 Try.T107 Try.T109 Try.T110 Try.T111 Try.T112 Try.T113 Try.T114 Try.T115 Try.T116 Try.T117 Try.T123 Try.T126
attribute [local irreducible] Go.Av.CallK Go.Av.CallE Go.Av.CallQ Go.Av.CallF Go.Av.CallR Go.Av.CallH Go.Av.Con

theorem without_con (l : List Int) (n : Int) (hl : l.length ≤ 1000000) : Con Try.prog 80 [.row 1024, .p (I n)] [.row 3 1 (zis l)] (.ret (.row 1024) [] [.row 3 1 (zis (but l n))]) := by
  have hc := deleteF_con l n hl
  refine wBodyG Try.tab Try.mixed Try.func80 rfl rfl Try.ntmps80 (by simp) (by simp) fun Q hr hn hp => ?_
  repeat' first | (refine CallK_gen [1024, 3] hc (by decide) (by decide) (by simp [blksOf, inN, pos, renB, ren0]) (by simp [argsG, argG, ren0, inN, pos, renCs, renC]) ⟨[], by simp, by simp, ?_⟩; simp [lv, ouN, kpI, kpR, pos, ren, ren0, renB, renC, renCs]) | (refine hK _ ?_; clear hK) | (refine hK _ _ ?_; clear hK) | (clear hK; refine hK _ ?_; clear hK) | (clear hK; clear hK; refine hK _ ?_; clear hK) | (clear hK; clear hK; clear hK; refine hK _ ?_; clear hK) | (clear hK; clear hK; clear hK; clear hK; refine hK _ ?_; clear hK) | (refine wSeq fun K hK => ?_) | ((first | refine wReg ?_ | refine wDrwQ rfl (by kernel_rfl) ?_ | refine wDrwI ?_ | refine wDrw (by kernel_rfl) ?_); simp only [List.map_cons, List.map_nil, strip]) | ((first | refine wIs fun K hK => ?_ | refine wOs fun K hK => ?_ | refine wQs fun K hK => ?_ | refine CallK_plain ?_ | refine CallQ_plain ?_ | refine CallR_plain ?_ | refine wCond ?_); simp) | (refine wIn ?_; refine And.intro (by kernel_rfl) ?_; try simp only [thenA_n]) | (first | refine wBlock ?_ | refine wScope ?_) | ((first | refine wRet ?_ | refine wExit ?_ | refine wSkip ?_); try simp) | ((first | refine wLabel ?_ | refine wOn ?_ | refine wQn ?_); try simp only [thenA_n])
  all_goals apply hr
  all_goals refine ⟨[], by simp, by simp, ?_⟩
  all_goals simp [Try.f80, outR, outB, renB, gaN]
/-! ### Where a session stands -/
def atI : List Int → Int → Nat
  | [], _ => 0
  | x :: r, s => if x < s then atI r s + 1 else 0
theorem atI_step {l : List Int} {k : Nat} (h : k < l.length) (s : Int) : atI (l.drop k) s = if l[k] < s then atI (l.drop (k + 1)) s + 1 else 0 := by
  rw [List.drop_eq_getElem_cons h]; rfl
theorem atI_but : ∀ (l : List Int) (s : Int), atI l s ≤ (but l s).length
  | [], s => by simp [atI]
  | x :: r, s => by
    have ih := atI_but r s
    rw [atI]
    by_cases h : x < s
    · rw [if_pos h]
      have : but (x :: r) s = x :: but r s := by
        unfold but; rw [List.filter_cons_of_pos (by simp; omega)]
      rw [this]; simp; exact ih
    · rw [if_neg h]; omega
def insI (l : List Int) (s : Int) : List Int := (but l s).take (atI l s) ++ s :: (but l s).drop (atI l s)
def okS (s : Int) : Bool := decide (1 ≤ s ∧ s ≤ 1099511627776)
def opnL (l : List Int) (s : Int) : List Int := if okS s = true then insI l s else l
def opnN (nx s : Int) : Int := if okS s = true then max nx (s + 1) else nx
theorem zis_ins (l : List Int) (s : Int) : (zis (but l s)).take (atI l s) ++ [I s] :: (zis (but l s)).drop (atI l s) = zis (insI l s) := by
  simp [zis, insI, List.map_take, List.map_drop]
set_option maxHeartbeats 1000000 in
theorem open_con (ns ms : List (List PV)) (l : List Int) (nx e n k ae an s : Int) (hl : l.length ≤ 1000000) :
    Con Try.prog 79 [.ptr 1024 0, .p (I s)] [.box 51 [.p (.sl 5 ns), .row 1025, .p (I nx), .p (I e), .p (I n), .p (I k), .p (.sl 4 ms), .p (I ae), .p (I an)], .row 3 1 (zis l)]
      (.ret (.tup []) [] [.box 51 [.p (.sl 5 ns), .row 1025, .p (I (opnN nx s)), .p (I e), .p (I n), .p (I k), .p (.sl 4 ms), .p (I ae), .p (I an)], .row 3 1 (zis (opnL l s))]) := by
  unfold opnN opnL okS
  by_cases h1 : s < 1
  · rw [show decide (1 ≤ s ∧ s ≤ 1099511627776) = false from decide_eq_false (by omega)]
    simp only [Bool.false_eq_true, if_false]
    refine wBodyG Try.tab Try.mixed Try.func79 rfl rfl Try.ntmps79 (by simp) (by simp) fun Q hr hn hp => ?_
    repeat' first | (refine hK _ ?_; clear hK) | (refine hK _ _ ?_; clear hK) | (clear hK; refine hK _ ?_; clear hK) | (clear hK; clear hK; refine hK _ ?_; clear hK) | (clear hK; clear hK; clear hK; refine hK _ ?_; clear hK) | (clear hK; clear hK; clear hK; clear hK; refine hK _ ?_; clear hK) | (refine wSeq fun K hK => ?_) | ((first | refine wReg ?_ | refine wDrwQ rfl (by kernel_rfl) ?_ | refine wDrwI ?_ | refine wDrw (by kernel_rfl) ?_); simp only [List.map_cons, List.map_nil, strip]) | ((first | refine wIs fun K hK => ?_ | refine wOs fun K hK => ?_ | refine wQs fun K hK => ?_ | refine CallK_plain ?_ | refine CallQ_plain ?_ | refine CallR_plain ?_ | refine wCond ?_); simp [h1]) | (refine wIn ?_; refine And.intro (by kernel_rfl) ?_; try simp only [thenA_n]) | (first | refine wBlock ?_ | refine wScope ?_) | ((first | refine wRet ?_ | refine wExit ?_ | refine wSkip ?_); try simp) | ((first | refine wLabel ?_ | refine wOn ?_ | refine wQn ?_); try simp only [thenA_n])
    all_goals apply hr
    all_goals refine ⟨[], by simp, by simp, ?_⟩
    all_goals simp [Try.f79, outR, outB, renB, gaN]
  by_cases h2 : 1099511627776 < s
  · rw [show decide (1 ≤ s ∧ s ≤ 1099511627776) = false from decide_eq_false (by omega)]
    simp only [Bool.false_eq_true, if_false]
    refine wBodyG Try.tab Try.mixed Try.func79 rfl rfl Try.ntmps79 (by simp) (by simp) fun Q hr hn hp => ?_
    repeat' first | (refine hK _ ?_; clear hK) | (refine hK _ _ ?_; clear hK) | (clear hK; refine hK _ ?_; clear hK) | (clear hK; clear hK; refine hK _ ?_; clear hK) | (clear hK; clear hK; clear hK; refine hK _ ?_; clear hK) | (clear hK; clear hK; clear hK; clear hK; refine hK _ ?_; clear hK) | (refine wSeq fun K hK => ?_) | ((first | refine wReg ?_ | refine wDrwQ rfl (by kernel_rfl) ?_ | refine wDrwI ?_ | refine wDrw (by kernel_rfl) ?_); simp only [List.map_cons, List.map_nil, strip]) | ((first | refine wIs fun K hK => ?_ | refine wOs fun K hK => ?_ | refine wQs fun K hK => ?_ | refine CallK_plain ?_ | refine CallQ_plain ?_ | refine CallR_plain ?_ | refine wCond ?_); simp [h1, h2]) | (refine wIn ?_; refine And.intro (by kernel_rfl) ?_; try simp only [thenA_n]) | (first | refine wBlock ?_ | refine wScope ?_) | ((first | refine wRet ?_ | refine wExit ?_ | refine wSkip ?_); try simp) | ((first | refine wLabel ?_ | refine wOn ?_ | refine wQn ?_); try simp only [thenA_n])
    all_goals apply hr
    all_goals refine ⟨[], by simp, by simp, ?_⟩
    all_goals simp [Try.f79, outR, outB, renB, gaN]
  rw [show decide (1 ≤ s ∧ s ≤ 1099511627776) = true from decide_eq_true (by omega)]
  simp only [if_true]
  have hc := without_con l s hl
  have hbl := but_len l s
  have hi := insert_con (zis (but l s)) (atI l s) [I s] (by rw [zis_len]; exact atI_but l s) (by rw [zis_len]; omega) rfl
  rw [zis_ins] at hi
  have hw1 : IntKind.i64.wrap (s + 1) = s + 1 := by rw [wrap_id] <;> omega
  refine wBodyG Try.tab Try.mixed Try.func79 rfl rfl Try.ntmps79 (by simp) (by simp) fun Q hr hn hp => ?_
  repeat' first | (refine hK _ ?_; clear hK) | (refine hK _ _ ?_; clear hK) | (clear hK; refine hK _ ?_; clear hK) | (clear hK; clear hK; refine hK _ ?_; clear hK) | (clear hK; clear hK; clear hK; refine hK _ ?_; clear hK) | (clear hK; clear hK; clear hK; clear hK; refine hK _ ?_; clear hK) | (refine wSeq fun K hK => ?_) | ((first | refine wReg ?_ | refine wDrwQ rfl (by kernel_rfl) ?_ | refine wDrwI ?_ | refine wDrw (by kernel_rfl) ?_); simp only [List.map_cons, List.map_nil, strip]) | ((first | refine wIs fun K hK => ?_ | refine wOs fun K hK => ?_ | refine wQs fun K hK => ?_ | refine CallK_plain ?_ | refine CallQ_plain ?_ | refine CallR_plain ?_ | refine wCond ?_); simp [h1, h2]) | (refine wIn ?_; refine And.intro (by kernel_rfl) ?_; try simp only [thenA_n]) | (first | refine wBlock ?_ | refine wScope ?_) | ((first | refine wRet ?_ | refine wExit ?_ | refine wSkip ?_); try simp) | ((first | refine wLabel ?_ | refine wOn ?_ | refine wQn ?_); try simp only [thenA_n])
  refine wLoop (fun N st => ∃ q, q + N = l.length ∧ atI l s = q + atI (l.drop q) s ∧ st.s 0 = .ptr 1024 0 ∧ st.s 1 = .p (I s) ∧ st.s 4 = .p (I q) ∧ st.b 1025 = some (.row 3 1 (zis l)) ∧ st.b 1024 = some (.box 51 [.p (.sl 5 ns), .row 1025, .p (I nx), .p (I e), .p (I n), .p (I k), .p (.sl 4 ms), .p (I ae), .p (I an)])) l.length ⟨0, by simp⟩ fun K N st hL ⟨q, hq, hat, g0, g1, g4, b1, b0⟩ => ?_
  have hend : atI (l.drop q) s = 0 → atI l s = q := fun h => by omega
  by_cases hlt : q < l.length
  · have hw := wrapX q _ hlt (by omega)
    have he := zis_get hlt
    have hs := atI_step hlt s
    by_cases o : l[q] < s
    · rw [if_pos o] at hs
      repeat' first | (refine hK _ ?_; clear hK) | (refine hK _ _ ?_; clear hK) | (clear hK; refine hK _ ?_; clear hK) | (clear hK; clear hK; refine hK _ ?_; clear hK) | (clear hK; clear hK; clear hK; refine hK _ ?_; clear hK) | (clear hK; clear hK; clear hK; clear hK; refine hK _ ?_; clear hK) | (refine wSeq fun K hK => ?_) | ((first | refine wReg ?_ | refine wDrwQ rfl (by kernel_rfl) ?_ | refine wDrwI ?_ | refine wDrw (by kernel_rfl) ?_); simp only [List.map_cons, List.map_nil, strip]) | ((first | refine wIs fun K hK => ?_ | refine wOs fun K hK => ?_ | refine wQs fun K hK => ?_ | refine CallK_plain ?_ | refine CallQ_plain ?_ | refine CallR_plain ?_ | refine wCond ?_); simp [g0, g1, g4, b0, b1, hlt, hw, he, o]) | (refine wIn ?_; refine And.intro (by kernel_rfl) ?_; try simp only [thenA_n]) | (first | refine wBlock ?_ | refine wScope ?_) | ((first | refine wRet ?_ | refine wExit ?_ | refine wSkip ?_); try simp) | ((first | refine wLabel ?_ | refine wOn ?_ | refine wQn ?_); try simp only [thenA_n])
      refine hL _ (N - 1) (by omega) ⟨q + 1, by omega, by omega, ?_⟩
      simp [g0, g1, g4, b0, b1, hw]
    · rw [if_neg o] at hs
      rw [hend hs] at hi
      repeat' first | (refine CallK_gen [1025] hc (by decide) (by decide) (by simp [blksOf, inN, pos, renB, ren0, b1]) (by simp [argsG, argG, ren0, inN, pos, renCs, renC]) ⟨[], by simp, by simp, ?_⟩; simp [lv, ouN, kpI, kpR, pos, ren, ren0, renB, renC, renCs, g0, g1, g4, b0, b1]) | (refine CallK_gen [1025] hi (by decide) (by decide) (by simp [blksOf, inN, pos, renB, ren0, lv, ouN, kpI, kpR, b1]) (by simp [argsG, argG, ren0, inN, pos, renCs, renC]) ⟨[], by simp, by simp, ?_⟩; simp [lv, ouN, kpI, kpR, pos, ren, ren0, renB, renC, renCs, g0, g1, g4, b0, b1]) | (refine hK _ ?_; clear hK) | (refine hK _ _ ?_; clear hK) | (clear hK; refine hK _ ?_; clear hK) | (clear hK; clear hK; refine hK _ ?_; clear hK) | (clear hK; clear hK; clear hK; refine hK _ ?_; clear hK) | (clear hK; clear hK; clear hK; clear hK; refine hK _ ?_; clear hK) | (refine wSeq fun K hK => ?_) | ((first | refine wReg ?_ | refine wDrwQ rfl (by kernel_rfl) ?_ | refine wDrwI ?_ | refine wDrw (by kernel_rfl) ?_); simp only [List.map_cons, List.map_nil, strip]) | ((first | refine wIs fun K hK => ?_ | refine wOs fun K hK => ?_ | refine wQs fun K hK => ?_ | refine CallK_plain ?_ | refine CallQ_plain ?_ | refine CallR_plain ?_ | refine wCond ?_); simp [g0, g1, g4, b0, b1, hlt, hw, he, o, hw1, lv, ouN, kpI, kpR, pos, ren, ren0, renB, renC, renCs]) | (refine wIn ?_; refine And.intro (by kernel_rfl) ?_; try simp only [thenA_n]) | (first | refine wBlock ?_ | refine wScope ?_) | ((first | refine wRet ?_ | refine wExit ?_ | refine wSkip ?_); try simp) | ((first | refine wLabel ?_ | refine wOn ?_ | refine wQn ?_); try simp only [thenA_n])
      all_goals first | apply hr | apply hn
      all_goals refine ⟨[], by simp, by simp, ?_⟩
      all_goals simp [Try.f79, outR, outB, renB, gaN, lv, ouN, kpI, kpR, pos, ren, ren0, renC, renCs, b0, b1]
      all_goals (split <;> omega)
  · have hql : q = l.length := by omega
    have hs : atI (l.drop q) s = 0 := by rw [List.drop_eq_nil_of_le (by omega)]; rfl
    rw [hend hs] at hi
    repeat' first | (refine CallK_gen [1025] hc (by decide) (by decide) (by simp [blksOf, inN, pos, renB, ren0, b1]) (by simp [argsG, argG, ren0, inN, pos, renCs, renC]) ⟨[], by simp, by simp, ?_⟩; simp [lv, ouN, kpI, kpR, pos, ren, ren0, renB, renC, renCs, g0, g1, g4, b0, b1]) | (refine CallK_gen [1025] hi (by decide) (by decide) (by simp [blksOf, inN, pos, renB, ren0, lv, ouN, kpI, kpR, b1]) (by simp [argsG, argG, ren0, inN, pos, renCs, renC]) ⟨[], by simp, by simp, ?_⟩; simp [lv, ouN, kpI, kpR, pos, ren, ren0, renB, renC, renCs, g0, g1, g4, b0, b1]) | (refine hK _ ?_; clear hK) | (refine hK _ _ ?_; clear hK) | (clear hK; refine hK _ ?_; clear hK) | (clear hK; clear hK; refine hK _ ?_; clear hK) | (clear hK; clear hK; clear hK; refine hK _ ?_; clear hK) | (clear hK; clear hK; clear hK; clear hK; refine hK _ ?_; clear hK) | (refine wSeq fun K hK => ?_) | ((first | refine wReg ?_ | refine wDrwQ rfl (by kernel_rfl) ?_ | refine wDrwI ?_ | refine wDrw (by kernel_rfl) ?_); simp only [List.map_cons, List.map_nil, strip]) | ((first | refine wIs fun K hK => ?_ | refine wOs fun K hK => ?_ | refine wQs fun K hK => ?_ | refine CallK_plain ?_ | refine CallQ_plain ?_ | refine CallR_plain ?_ | refine wCond ?_); simp [g0, g1, g4, b0, b1, hlt, hw1, lv, ouN, kpI, kpR, pos, ren, ren0, renB, renC, renCs]) | (refine wIn ?_; refine And.intro (by kernel_rfl) ?_; try simp only [thenA_n]) | (first | refine wBlock ?_ | refine wScope ?_) | ((first | refine wRet ?_ | refine wExit ?_ | refine wSkip ?_); try simp) | ((first | refine wLabel ?_ | refine wOn ?_ | refine wQn ?_); try simp only [thenA_n])
    all_goals first | apply hr | apply hn
    all_goals refine ⟨[], by simp, by simp, ?_⟩
    all_goals simp [Try.f79, outR, outB, renB, gaN, lv, ouN, kpI, kpR, pos, ren, ren0, renC, renCs, b0, b1]
    all_goals (split <;> omega)
end Go.Proofs.Ytpadfoaigbfekaa
