/- Watches: sifted, Fire. -/
import Derived.Test.YtkeopdjnidmaeaaWX
namespace Go.Proofs.Ytkeopdjnidmaeaa
set_option linter.unusedSimpArgs false
set_option linter.unusedVariables false
open Go Go.Av
attribute [local simp] Try.T1 Try.T2 Try.T3 Try.T4 Try.T5 Try.T9 Try.T12 Try.T21 Try.T22 Try.T23 Try.T24 Try.T26 Try.T27 Try.T29 Try.T31 Try.T32 Try.T33 Try.T34 Try.T35 Try.T37 Try.T39 Try.T41 Try.T42 Try.T43 Try.T44 Try.T46 Try.T47 Try.T48 Try.T50 Try.T51 Try.T52 Try.T53 Try.T54 Try.T55 Try.T56 Try.T57 Try.T59 Try.T60 Try.T61 Try.T62 Try.T63 Try.T64 Try.T65 Try.T66 Try.T67 Try.T69 Try.T70 Try.T71 Try.T72 Try.T73 Try.T74 Try.T75 Try.T77 Try.T78 Try.T79 Try.T85 Try.T88 Try.T95
attribute [local irreducible] Go.Av.CallK Go.Av.CallE Go.Av.CallQ Go.Av.CallF Go.Av.CallR Go.Av.CallH Go.Av.Con

theorem wrapW (k n : Nat) (h : k < n) (hn : n ≤ 9223372036854775807) : IntKind.i64.wrap ((k : Int) + 1) = ((k + 1 : Nat) : Int) := by
  rw [wrap_id] <;> omega
def sOut (a b : Ws) (l : List Wt) : Out := if tolds a b l = [] then .ret (.row 2048) [.row 39 3 (wts (stay a b l))] [wbox a, wbox b, nbx (.nil 6)]
  else .ret (.row 2048) [.row 39 3 (wts (stay a b l)), .row 41 6 (nts (tolds a b l))] [wbox a, wbox b, nbx (.row 2049)]
set_option maxHeartbeats 4000000 in
theorem sifted_con (l : List Wt) (a b : Ws) (ha : Fit a) (hb : Fit b) (hl : l.length ≤ 1000000) : Con Try.prog 10 [.p (.sl 3 (wts l)), .clo 11 [.box 1024, .box 1025, .box 1026]] [wbox a, wbox b, nbx (.nil 6)] (sOut a b l) := by
  refine wBodyG Try.tab Try.mixed Try.func10 rfl rfl Try.ntmps10 (by simp) (by simp) fun Q hr hn hp => ?_
  repeat' first | (refine hK _ ?_; clear hK) | (refine hK _ _ ?_; clear hK) | (clear hK; refine hK _ ?_; clear hK) | (clear hK; clear hK; refine hK _ ?_; clear hK) | (clear hK; clear hK; clear hK; refine hK _ ?_; clear hK) | (clear hK; clear hK; clear hK; clear hK; refine hK _ ?_; clear hK) | (refine wSeq fun K hK => ?_) | ((first | refine wReg ?_ | refine wDrwQ rfl (by kernel_rfl) ?_ | refine wDrwI ?_ | refine wDrw (by kernel_rfl) ?_); simp only [List.map_cons, List.map_nil, strip]) | ((first | refine wIs fun K hK => ?_ | refine wOs fun K hK => ?_ | refine wQs fun K hK => ?_ | refine CallK_plain ?_ | refine CallQ_plain ?_ | refine CallR_plain ?_ | refine wCond ?_); simp) | (refine wIn ?_; refine And.intro (by kernel_rfl) ?_; try simp only [thenA_n]) | (first | refine wBlock ?_ | refine wScope ?_) | ((first | refine wRet ?_ | refine wExit ?_ | refine wSkip ?_); try simp) | ((first | refine wLabel ?_ | refine wOn ?_ | refine wQn ?_); try simp only [thenA_n])
  refine wLoopG [.row 5 39 3] (fun N st => ∃ k, k + N = l.length ∧ st.s 1 = .clo 11 [.box 1024, .box 1025, .box 1026] ∧ st.s 8 = .p (.sl 3 (wts l)) ∧ st.s 9 = .p (I l.length) ∧ st.s 10 = .p (I k) ∧ st.s 5 = .row 5 ∧ st.b 5 = some (.row 39 3 (wts (stay a b (l.take k)))) ∧ st.b 1024 = some (wbox a) ∧ st.b 1025 = some (wbox b) ∧
    ((tolds a b (l.take k) = [] ∧ st.b 1026 = some (nbx (.nil 6))) ∨ (¬ tolds a b (l.take k) = [] ∧ st.b 1026 = some (nbx (.row 500)) ∧ st.b 500 = some (.row 41 6 (nts (tolds a b (l.take k))))))) l.length ⟨0, by simp [stay, tolds, wts, wbox, nbx]⟩ fun K N st hL ⟨k, hk, g1, g8, g9, g10, g5, b5, e0, e1, hd⟩ => ?_
  by_cases hlt : k < l.length
  · have hw := wrapW k _ hlt (by omega)
    have he := wts_get hlt
    have hs := stay_snoc a b hlt
    have ht := tolds_snoc a b hlt
    have hsl := stay_len a b l k
    have htl := tolds_len a b l k
    have hx := wts_snoc (stay a b (l.take k)) l[k]
    generalize stay a b (l.take k) = S0 at hs b5 hsl hx
    generalize tolds a b (l.take k) = T0 at ht htl hd
    unfold wbox at e0 e1
    rcases hd with ⟨hT, e2⟩ | ⟨hT, e2, e3⟩
    · unfold nbx at e2
      by_cases o : told l[k] a b = 0
      · have c := fire0_con l[k] a b ha hb o
        unfold wbox nbx Wt.c at c
        rw [if_pos o] at hs ht
        rw [← hs] at hx
        repeat' first | (refine And.intro (by (try simp at hsl ⊢); omega) ?_) | (refine CallK_gen [1024, 1025, 1026] c (by decide) (by decide) (by simp [blksOf, inN, pos, renB, ren0, e0, e1, e2]) (by simp [argsG, argG, ren0, inN, pos, renCs, renC, toP, toPF]) ⟨[], by simp, by simp, ?_⟩; simp [lv, ouN, kpI, kpR, pos, ren, ren0, renB, renC, renCs, g1, g8, g9, g10, g5, b5, e0, e1, e2]) | (refine hK _ ?_; clear hK) | (refine hK _ _ ?_; clear hK) | (clear hK; refine hK _ ?_; clear hK) | (clear hK; clear hK; refine hK _ ?_; clear hK) | (clear hK; clear hK; clear hK; refine hK _ ?_; clear hK) | (clear hK; clear hK; clear hK; clear hK; refine hK _ ?_; clear hK) | (refine wSeq fun K hK => ?_) | ((first | refine wReg ?_ | refine wDrwQ rfl (by kernel_rfl) ?_ | refine wDrwI ?_ | refine wDrw (by kernel_rfl) ?_); simp only [List.map_cons, List.map_nil, strip]) | ((first | refine wIs fun K hK => ?_ | refine wOs fun K hK => ?_ | refine wQs fun K hK => ?_ | refine CallK_plain ?_ | refine CallQ_plain ?_ | refine CallR_plain ?_ | refine wCond ?_); simp [lv, ouN, kpI, kpR, pos, ren, ren0, renB, renC, renCs, g1, g8, g9, g10, g5, b5, e0, e1, e2, hlt, hw, he]) | (refine wIn ?_; refine And.intro (by kernel_rfl) ?_; try simp only [thenA_n]) | (first | refine wBlock ?_ | refine wScope ?_) | ((first | refine wRet ?_ | refine wExit ?_ | refine wSkip ?_); try simp) | ((first | refine wLabel ?_ | refine wOn ?_ | refine wQn ?_); try simp only [thenA_n])
        refine hL _ (N - 1) (by omega) ⟨k + 1, by omega, ?_⟩
        simp [lv, ouN, kpI, kpR, pos, ren, ren0, renB, renC, renCs, g1, g8, g9, g10, g5, b5, e0, e1, e2, hw, hx, ht, hT, wbox, nbx]
      · have c := fire2_con l[k] a b ha hb o
        unfold wbox nbx Wt.c at c
        rw [if_neg o] at hs ht
        rw [hT, List.nil_append] at ht
        repeat' first | (refine CallK_gen [1024, 1025, 1026] c (by decide) (by decide) (by simp [blksOf, inN, pos, renB, ren0, e0, e1, e2]) (by simp [argsG, argG, ren0, inN, pos, renCs, renC, toP, toPF]) ⟨[500], by simp, by simp, ?_⟩; simp [lv, ouN, kpI, kpR, pos, ren, ren0, renB, renC, renCs, g1, g8, g9, g10, g5, b5, e0, e1, e2]) | (refine hK _ ?_; clear hK) | (refine hK _ _ ?_; clear hK) | (clear hK; refine hK _ ?_; clear hK) | (clear hK; clear hK; refine hK _ ?_; clear hK) | (clear hK; clear hK; clear hK; refine hK _ ?_; clear hK) | (clear hK; clear hK; clear hK; clear hK; refine hK _ ?_; clear hK) | (refine wSeq fun K hK => ?_) | ((first | refine wReg ?_ | refine wDrwQ rfl (by kernel_rfl) ?_ | refine wDrwI ?_ | refine wDrw (by kernel_rfl) ?_); simp only [List.map_cons, List.map_nil, strip]) | ((first | refine wIs fun K hK => ?_ | refine wOs fun K hK => ?_ | refine wQs fun K hK => ?_ | refine CallK_plain ?_ | refine CallQ_plain ?_ | refine CallR_plain ?_ | refine wCond ?_); simp [lv, ouN, kpI, kpR, pos, ren, ren0, renB, renC, renCs, g1, g8, g9, g10, g5, b5, e0, e1, e2, hlt, hw, he]) | (refine wIn ?_; refine And.intro (by kernel_rfl) ?_; try simp only [thenA_n]) | (first | refine wBlock ?_ | refine wScope ?_) | ((first | refine wRet ?_ | refine wExit ?_ | refine wSkip ?_); try simp) | ((first | refine wLabel ?_ | refine wOn ?_ | refine wQn ?_); try simp only [thenA_n])
        refine hL _ (N - 1) (by omega) ⟨k + 1, by omega, ?_⟩
        simp [lv, ouN, kpI, kpR, pos, ren, ren0, renB, renC, renCs, g1, g8, g9, g10, g5, b5, e0, e1, e2, hw, hs, ht, wbox, nbx]
    · unfold nbx at e2
      by_cases o : told l[k] a b = 0
      · have c := fire1_con l[k] a b T0 ha hb o
        unfold wbox nbx Wt.c at c
        rw [if_pos o] at hs ht
        rw [← hs] at hx
        repeat' first | (refine And.intro (by (try simp at hsl ⊢); omega) ?_) | (refine CallK_gen [1024, 1025, 1026, 500] c (by decide) (by decide) (by simp [blksOf, inN, pos, renB, ren0, e0, e1, e2, e3]) (by simp [argsG, argG, ren0, inN, pos, renCs, renC, toP, toPF]) ⟨[], by simp, by simp, ?_⟩; simp [lv, ouN, kpI, kpR, pos, ren, ren0, renB, renC, renCs, g1, g8, g9, g10, g5, b5, e0, e1, e2, e3]) | (refine hK _ ?_; clear hK) | (refine hK _ _ ?_; clear hK) | (clear hK; refine hK _ ?_; clear hK) | (clear hK; clear hK; refine hK _ ?_; clear hK) | (clear hK; clear hK; clear hK; refine hK _ ?_; clear hK) | (clear hK; clear hK; clear hK; clear hK; refine hK _ ?_; clear hK) | (refine wSeq fun K hK => ?_) | ((first | refine wReg ?_ | refine wDrwQ rfl (by kernel_rfl) ?_ | refine wDrwI ?_ | refine wDrw (by kernel_rfl) ?_); simp only [List.map_cons, List.map_nil, strip]) | ((first | refine wIs fun K hK => ?_ | refine wOs fun K hK => ?_ | refine wQs fun K hK => ?_ | refine CallK_plain ?_ | refine CallQ_plain ?_ | refine CallR_plain ?_ | refine wCond ?_); simp [lv, ouN, kpI, kpR, pos, ren, ren0, renB, renC, renCs, g1, g8, g9, g10, g5, b5, e0, e1, e2, e3, hlt, hw, he]) | (refine wIn ?_; refine And.intro (by kernel_rfl) ?_; try simp only [thenA_n]) | (first | refine wBlock ?_ | refine wScope ?_) | ((first | refine wRet ?_ | refine wExit ?_ | refine wSkip ?_); try simp) | ((first | refine wLabel ?_ | refine wOn ?_ | refine wQn ?_); try simp only [thenA_n])
        refine hL _ (N - 1) (by omega) ⟨k + 1, by omega, ?_⟩
        simp [lv, ouN, kpI, kpR, pos, ren, ren0, renB, renC, renCs, g1, g8, g9, g10, g5, b5, e0, e1, e2, e3, hw, hx, ht, hT, wbox, nbx]
      · have c := fire3_con l[k] a b T0 ha hb (by omega) o
        unfold wbox nbx Wt.c at c
        rw [if_neg o] at hs ht
        rw [← ht] at c
        have hT' : ¬ tolds a b (l.take (k + 1)) = [] := by rw [ht]; simp
        repeat' first | (refine CallK_gen [1024, 1025, 1026, 500] c (by decide) (by decide) (by simp [blksOf, inN, pos, renB, ren0, e0, e1, e2, e3]) (by simp [argsG, argG, ren0, inN, pos, renCs, renC, toP, toPF]) ⟨[], by simp, by simp, ?_⟩; simp [lv, ouN, kpI, kpR, pos, ren, ren0, renB, renC, renCs, g1, g8, g9, g10, g5, b5, e0, e1, e2, e3]) | (refine hK _ ?_; clear hK) | (refine hK _ _ ?_; clear hK) | (clear hK; refine hK _ ?_; clear hK) | (clear hK; clear hK; refine hK _ ?_; clear hK) | (clear hK; clear hK; clear hK; refine hK _ ?_; clear hK) | (clear hK; clear hK; clear hK; clear hK; refine hK _ ?_; clear hK) | (refine wSeq fun K hK => ?_) | ((first | refine wReg ?_ | refine wDrwQ rfl (by kernel_rfl) ?_ | refine wDrwI ?_ | refine wDrw (by kernel_rfl) ?_); simp only [List.map_cons, List.map_nil, strip]) | ((first | refine wIs fun K hK => ?_ | refine wOs fun K hK => ?_ | refine wQs fun K hK => ?_ | refine CallK_plain ?_ | refine CallQ_plain ?_ | refine CallR_plain ?_ | refine wCond ?_); simp [lv, ouN, kpI, kpR, pos, ren, ren0, renB, renC, renCs, g1, g8, g9, g10, g5, b5, e0, e1, e2, e3, hlt, hw, he]) | (refine wIn ?_; refine And.intro (by kernel_rfl) ?_; try simp only [thenA_n]) | (first | refine wBlock ?_ | refine wScope ?_) | ((first | refine wRet ?_ | refine wExit ?_ | refine wSkip ?_); try simp) | ((first | refine wLabel ?_ | refine wOn ?_ | refine wQn ?_); try simp only [thenA_n])
        refine hL _ (N - 1) (by omega) ⟨k + 1, by omega, ?_⟩
        simp [lv, ouN, kpI, kpR, pos, ren, ren0, renB, renC, renCs, g1, g8, g9, g10, g5, b5, e0, e1, e2, e3, hw, hs, hT', wbox, nbx]
  · rw [List.take_of_length_le (by omega)] at b5 hd
    unfold sOut at hr hn
    rcases hd with ⟨hT, e2⟩ | ⟨hT, e2, e3⟩
    · rw [if_pos hT] at hr hn
      repeat' first | (refine hK _ ?_; clear hK) | (refine hK _ _ ?_; clear hK) | (clear hK; refine hK _ ?_; clear hK) | (clear hK; clear hK; refine hK _ ?_; clear hK) | (clear hK; clear hK; clear hK; refine hK _ ?_; clear hK) | (clear hK; clear hK; clear hK; clear hK; refine hK _ ?_; clear hK) | (refine wSeq fun K hK => ?_) | ((first | refine wReg ?_ | refine wDrwQ rfl (by kernel_rfl) ?_ | refine wDrwI ?_ | refine wDrw (by kernel_rfl) ?_); simp only [List.map_cons, List.map_nil, strip]) | ((first | refine wIs fun K hK => ?_ | refine wOs fun K hK => ?_ | refine wQs fun K hK => ?_ | refine CallK_plain ?_ | refine CallQ_plain ?_ | refine CallR_plain ?_ | refine wCond ?_); simp [g1, g8, g9, g10, g5, b5, e0, e1, e2, hlt]) | (refine wIn ?_; refine And.intro (by kernel_rfl) ?_; try simp only [thenA_n]) | (first | refine wBlock ?_ | refine wScope ?_) | ((first | refine wRet ?_ | refine wExit ?_ | refine wSkip ?_); try simp) | ((first | refine wLabel ?_ | refine wOn ?_ | refine wQn ?_); try simp only [thenA_n])
      all_goals apply hr
      all_goals refine ⟨[5], by simp, by simp, ?_⟩
      all_goals simp [Try.f10, outR, outB, renB, gaN, g5, b5, e0, e1, e2, wbox, nbx]
    · rw [if_neg hT] at hr hn
      repeat' first | (refine hK _ ?_; clear hK) | (refine hK _ _ ?_; clear hK) | (clear hK; refine hK _ ?_; clear hK) | (clear hK; clear hK; refine hK _ ?_; clear hK) | (clear hK; clear hK; clear hK; refine hK _ ?_; clear hK) | (clear hK; clear hK; clear hK; clear hK; refine hK _ ?_; clear hK) | (refine wSeq fun K hK => ?_) | ((first | refine wReg ?_ | refine wDrwQ rfl (by kernel_rfl) ?_ | refine wDrwI ?_ | refine wDrw (by kernel_rfl) ?_); simp only [List.map_cons, List.map_nil, strip]) | ((first | refine wIs fun K hK => ?_ | refine wOs fun K hK => ?_ | refine wQs fun K hK => ?_ | refine CallK_plain ?_ | refine CallQ_plain ?_ | refine CallR_plain ?_ | refine wCond ?_); simp [g1, g8, g9, g10, g5, b5, e0, e1, e2, e3, hlt]) | (refine wIn ?_; refine And.intro (by kernel_rfl) ?_; try simp only [thenA_n]) | (first | refine wBlock ?_ | refine wScope ?_) | ((first | refine wRet ?_ | refine wExit ?_ | refine wSkip ?_); try simp) | ((first | refine wLabel ?_ | refine wOn ?_ | refine wQn ?_); try simp only [thenA_n])
      all_goals apply hr
      all_goals refine ⟨[5, 500], by simp, by simp, ?_⟩
      all_goals simp [Try.f10, outR, outB, renB, gaN, g5, b5, e0, e1, e2, e3, wbox, nbx]
set_option maxHeartbeats 2000000 in
theorem fire_con (l : List Wt) (a b : Ws) (ha : Fit a) (hb : Fit b) (hl : l.length ≤ 1000000) : ACon Try.prog 7 [.p (.sl 3 (wts l)), .p (.agg a.c), .p (.agg b.c)] (.tup [.p (.sl 3 (wts (stay a b l))), .p (.sl 6 (nts (tolds a b l)))]) := by
  have c := sifted_con l a b ha hb hl
  unfold sOut wbox nbx at c
  unfold Ws.c
  by_cases hT : tolds a b l = []
  · rw [if_pos hT] at c
    rw [hT, show nts [] = [] from rfl]
    generalize wts (stay a b l) = S at c ⊢
    generalize wts l = L at c ⊢
    refine wBody Try.tab Try.mixed Try.func7 rfl rfl Try.ntmps7 (by simp) (by simp) fun Q hr hn => ?_
    repeat' first | (refine CallK_gen [4, 5, 8] c (by decide) (by decide) (by simp [blksOf, inN, pos, renB, ren0]) (by simp [argsG, argG, ren0, inN, pos, renCs, renC, toP, toPF]) ⟨[500], by simp, by simp, ?_⟩; simp [lv, ouN, kpI, kpR, pos, ren, ren0, renB, renC, renCs]) | (refine hK _ ?_; clear hK) | (refine hK _ _ ?_; clear hK) | (clear hK; refine hK _ ?_; clear hK) | (clear hK; clear hK; refine hK _ ?_; clear hK) | (clear hK; clear hK; clear hK; refine hK _ ?_; clear hK) | (clear hK; clear hK; clear hK; clear hK; refine hK _ ?_; clear hK) | (refine wSeq fun K hK => ?_) | ((first | refine wReg ?_ | refine wDrwQ rfl (by kernel_rfl) ?_ | refine wDrwI ?_ | refine wDrw (by kernel_rfl) ?_); simp only [List.map_cons, List.map_nil, strip]) | ((first | refine wIs fun K hK => ?_ | refine wOs fun K hK => ?_ | refine wQs fun K hK => ?_ | refine CallK_plain ?_ | refine CallQ_plain ?_ | refine CallR_plain ?_ | refine wCond ?_); simp [lv, ouN, kpI, kpR, pos, ren, ren0, renB, renC, renCs]) | (refine wIn ?_; refine And.intro (by kernel_rfl) ?_; try simp only [thenA_n]) | (first | refine wBlock ?_ | refine wScope ?_) | ((first | refine wRet ?_ | refine wExit ?_ | refine wSkip ?_); try simp) | ((first | refine wLabel ?_ | refine wOn ?_ | refine wQn ?_); try simp only [thenA_n])
    all_goals apply hr
    all_goals simp [Try.f7, lv, ouN, kpI, kpR, pos, ren, ren0, renB, renC, renCs]
  · rw [if_neg hT] at c
    generalize nts (tolds a b l) = NN at c ⊢
    generalize wts (stay a b l) = S at c ⊢
    generalize wts l = L at c ⊢
    refine wBody Try.tab Try.mixed Try.func7 rfl rfl Try.ntmps7 (by simp) (by simp) fun Q hr hn => ?_
    repeat' first | (refine CallK_gen [4, 5, 8] c (by decide) (by decide) (by simp [blksOf, inN, pos, renB, ren0]) (by simp [argsG, argG, ren0, inN, pos, renCs, renC, toP, toPF]) ⟨[500, 501], by simp, by simp, ?_⟩; simp [lv, ouN, kpI, kpR, pos, ren, ren0, renB, renC, renCs]) | (refine hK _ ?_; clear hK) | (refine hK _ _ ?_; clear hK) | (clear hK; refine hK _ ?_; clear hK) | (clear hK; clear hK; refine hK _ ?_; clear hK) | (clear hK; clear hK; clear hK; refine hK _ ?_; clear hK) | (clear hK; clear hK; clear hK; clear hK; refine hK _ ?_; clear hK) | (refine wSeq fun K hK => ?_) | ((first | refine wReg ?_ | refine wDrwQ rfl (by kernel_rfl) ?_ | refine wDrwI ?_ | refine wDrw (by kernel_rfl) ?_); simp only [List.map_cons, List.map_nil, strip]) | ((first | refine wIs fun K hK => ?_ | refine wOs fun K hK => ?_ | refine wQs fun K hK => ?_ | refine CallK_plain ?_ | refine CallQ_plain ?_ | refine CallR_plain ?_ | refine wCond ?_); simp [lv, ouN, kpI, kpR, pos, ren, ren0, renB, renC, renCs]) | (refine wIn ?_; refine And.intro (by kernel_rfl) ?_; try simp only [thenA_n]) | (first | refine wBlock ?_ | refine wScope ?_) | ((first | refine wRet ?_ | refine wExit ?_ | refine wSkip ?_); try simp) | ((first | refine wLabel ?_ | refine wOn ?_ | refine wQn ?_); try simp only [thenA_n])
    all_goals apply hr
    all_goals simp [Try.f7, lv, ouN, kpI, kpR, pos, ren, ren0, renB, renC, renCs]
end Go.Proofs.Ytkeopdjnidmaeaa
