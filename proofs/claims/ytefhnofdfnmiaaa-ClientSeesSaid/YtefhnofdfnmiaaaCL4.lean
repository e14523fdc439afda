/- Clients: made, connected, asked, read, lost. -/
import Derived.Test.YtefhnofdfnmiaaaCL3
namespace Go.Proofs.Ytefhnofdfnmiaaa
set_option linter.unusedSimpArgs false
set_option linter.unusedVariables false
set_option maxRecDepth 8000
open Go Go.Av
attribute [local simp] Try.T1 Try.T2 Try.T3 Try.T4 Try.T5 Try.T9 Try.T12 Try.T15 Try.T16 Try.T17 Try.T21 Try.T22 Try.T23 Try.T24 Try.T26 Try.T27 Try.T29 Try.T30 Try.T32 Try.T33 Try.T34 Try.T35 Try.T36 Try.T38 Try.T40 Try.T42 Try.T43 Try.T45 Try.T47 Try.T49 Try.T50 Try.T51 Try.T53 Try.T54 Try.T55 Try.T56 Try.T57 Try.T59 Try.T61 Try.T63 Try.T65 Try.T66 Try.T67 Try.T69 Try.T70 Try.T71 Try.T72 Try.T73 Try.T74 Try.T75 Try.T76 Try.T78 Try.T79 Try.T80 Try.T81 Try.T82 Try.T83 Try.T84 Try.T85 Try.T86 Try.T87 Try.T88 Try.T89 Try.T90 Try.T91 Try.T92 Try.T93 Try.T94 Try.T95 Try.T96 Try.T97 Try.T98 Try.T99 Try.T101 Try.T102 Try.T103 Try.T104 Try.T105 Try.T106 Try.T107 Try.T108 Try.T109 Try.T112 Try.T115 Try.T116 Try.T119 Try.T120
attribute [local irreducible] Go.Av.CallK Go.Av.CallE Go.Av.CallQ Go.Av.CallF Go.Av.CallR Go.Av.CallH Go.Av.Con
def newC (n : Int) : Cl := if 0 ≤ n ∧ n < 4 then ⟨n, -1, 0, 0, 0, 0, (n + 1) * 1048576, 0, 0, []⟩ else ⟨0, 0, 0, 0, 0, 0, 0, 0, 0, []⟩
def newE (n : Int) : Int := if 0 ≤ n ∧ n < 4 then 0 else 1
theorem newC_con (n : Int) : ACon Try.prog 7 [.p (I n)] (.tup [.p (.agg (newC n).cells), .p (I (newE n))]) := by
  unfold newC newE
  by_cases h1 : n < 0
  · rw [if_neg (by omega), if_neg (by omega)]
    unfold Cl.cells
    refine wBody Try.tab Try.mixed Try.func7 rfl rfl Try.ntmps7 (by simp) (by simp) fun Q hr hn => ?_
    repeat' first | (refine hK _ ?_; clear hK) | (refine hK _ _ ?_; clear hK) | (clear hK; refine hK _ ?_; clear hK) | (clear hK; clear hK; refine hK _ ?_; clear hK) | (clear hK; clear hK; clear hK; refine hK _ ?_; clear hK) | (clear hK; clear hK; clear hK; clear hK; refine hK _ ?_; clear hK) | (refine wSeq fun K hK => ?_) | ((first | refine wReg ?_ | refine wDrwQ rfl (by kernel_rfl) ?_ | refine wDrwI ?_ | refine wDrw (by kernel_rfl) ?_); simp only [List.map_cons, List.map_nil, strip]) | ((first | refine wIs fun K hK => ?_ | refine wOs fun K hK => ?_ | refine wQs fun K hK => ?_ | refine CallK_plain ?_ | refine CallQ_plain ?_ | refine CallR_plain ?_ | refine wCond ?_); simp [h1]) | (refine wIn ?_; refine And.intro (by kernel_rfl) ?_; try simp only [thenA_n]) | (first | refine wBlock ?_ | refine wScope ?_) | ((first | refine wRet ?_ | refine wExit ?_ | refine wSkip ?_); try simp) | ((first | refine wLabel ?_ | refine wOn ?_ | refine wQn ?_); try simp only [thenA_n])
    all_goals first | apply hn | apply hr
    all_goals simp [Try.f7, nts]
  by_cases h2 : 4 ≤ n
  · rw [if_neg (by omega), if_neg (by omega)]
    unfold Cl.cells
    refine wBody Try.tab Try.mixed Try.func7 rfl rfl Try.ntmps7 (by simp) (by simp) fun Q hr hn => ?_
    repeat' first | (refine hK _ ?_; clear hK) | (refine hK _ _ ?_; clear hK) | (clear hK; refine hK _ ?_; clear hK) | (clear hK; clear hK; refine hK _ ?_; clear hK) | (clear hK; clear hK; clear hK; refine hK _ ?_; clear hK) | (clear hK; clear hK; clear hK; clear hK; refine hK _ ?_; clear hK) | (refine wSeq fun K hK => ?_) | ((first | refine wReg ?_ | refine wDrwQ rfl (by kernel_rfl) ?_ | refine wDrwI ?_ | refine wDrw (by kernel_rfl) ?_); simp only [List.map_cons, List.map_nil, strip]) | ((first | refine wIs fun K hK => ?_ | refine wOs fun K hK => ?_ | refine wQs fun K hK => ?_ | refine CallK_plain ?_ | refine CallQ_plain ?_ | refine CallR_plain ?_ | refine wCond ?_); simp [h1, h2]) | (refine wIn ?_; refine And.intro (by kernel_rfl) ?_; try simp only [thenA_n]) | (first | refine wBlock ?_ | refine wScope ?_) | ((first | refine wRet ?_ | refine wExit ?_ | refine wSkip ?_); try simp) | ((first | refine wLabel ?_ | refine wOn ?_ | refine wQn ?_); try simp only [thenA_n])
    all_goals first | apply hn | apply hr
    all_goals simp [Try.f7, nts]
  rw [if_pos (by omega), if_pos (by omega)]
  unfold Cl.cells
  have w1 : IntKind.i64.wrap (n + 1) = n + 1 := by rw [wrap_id] <;> omega
  have w2 : IntKind.i64.wrap ((n + 1) * 1048576) = (n + 1) * 1048576 := by rw [wrap_id] <;> omega
  refine wBody Try.tab Try.mixed Try.func7 rfl rfl Try.ntmps7 (by simp) (by simp) fun Q hr hn => ?_
  repeat' first | (refine hK _ ?_; clear hK) | (refine hK _ _ ?_; clear hK) | (clear hK; refine hK _ ?_; clear hK) | (clear hK; clear hK; refine hK _ ?_; clear hK) | (clear hK; clear hK; clear hK; refine hK _ ?_; clear hK) | (clear hK; clear hK; clear hK; clear hK; refine hK _ ?_; clear hK) | (refine wSeq fun K hK => ?_) | ((first | refine wReg ?_ | refine wDrwQ rfl (by kernel_rfl) ?_ | refine wDrwI ?_ | refine wDrw (by kernel_rfl) ?_); simp only [List.map_cons, List.map_nil, strip]) | ((first | refine wIs fun K hK => ?_ | refine wOs fun K hK => ?_ | refine wQs fun K hK => ?_ | refine CallK_plain ?_ | refine CallQ_plain ?_ | refine CallR_plain ?_ | refine wCond ?_); simp [h1, h2, w1, w2]) | (refine wIn ?_; refine And.intro (by kernel_rfl) ?_; try simp only [thenA_n]) | (first | refine wBlock ?_ | refine wScope ?_) | ((first | refine wRet ?_ | refine wExit ?_ | refine wSkip ?_); try simp) | ((first | refine wLabel ?_ | refine wOn ?_ | refine wQn ?_); try simp only [thenA_n])
  all_goals first | apply hn | apply hr
  all_goals simp [Try.f7, nts, w1, w2]
theorem word1_con (c : Cl) (k : Int) (rs : List (List PV)) : Con Try.prog 31 [.ptr 1024 0, .p (I k)] [.box 78 (hBx c (.row 1025) (.row 1026)), .row 45 6 (nts c.nt), .row 59 36 rs] (.ret (.p (.agg (wdZ c.id c.sv k).cells)) [] [.box 78 (hBx c (.row 1025) (.row 1026)), .row 45 6 (nts c.nt), .row 59 36 rs]) := by
  unfold hBx wdZ Wd.cells Rq.zero Nt.zero
  dsimp only
  refine wBodyG Try.tab Try.mixed Try.func31 rfl rfl Try.ntmps31 (by simp) (by simp) fun Q hr hn hp => ?_
  repeat' first | (refine hK _ ?_; clear hK) | (refine hK _ _ ?_; clear hK) | (clear hK; refine hK _ ?_; clear hK) | (clear hK; clear hK; refine hK _ ?_; clear hK) | (clear hK; clear hK; clear hK; refine hK _ ?_; clear hK) | (clear hK; clear hK; clear hK; clear hK; refine hK _ ?_; clear hK) | (refine wSeq fun K hK => ?_) | ((first | refine wReg ?_ | refine wDrwQ rfl (by kernel_rfl) ?_ | refine wDrwI ?_ | refine wDrw (by kernel_rfl) ?_); simp only [List.map_cons, List.map_nil, strip]) | ((first | refine wIs fun K hK => ?_ | refine wOs fun K hK => ?_ | refine wQs fun K hK => ?_ | refine CallK_plain ?_ | refine CallQ_plain ?_ | refine CallR_plain ?_ | refine wCond ?_); simp) | (refine wIn ?_; refine And.intro (by kernel_rfl) ?_; try simp only [thenA_n]) | (first | refine wBlock ?_ | refine wScope ?_) | ((first | refine wRet ?_ | refine wExit ?_ | refine wSkip ?_); try simp) | ((first | refine wLabel ?_ | refine wOn ?_ | refine wQn ?_); try simp only [thenA_n])
  all_goals apply hr
  all_goals refine ⟨[], by simp, by simp, ?_⟩
  all_goals simp [Try.f31, outR, outB, renB, gaN, show ByteArray.empty = bs [] from rfl]
def rsE (c : Cl) : List (List PV) := if c.wt = 0 then [] else [rsC c.id c.wt true (wdZ 0 0 0)]
def lostC (c : Cl) : Cl := endC { c with ph := 0 }
set_option maxHeartbeats 1000000 in
theorem lost_con (c : Cl) (hn : c.nt.length ≤ 1000000) : ACon Try.prog 20 [.p (.agg c.cells)] (.tup [.p (.agg (lostC c).cells), .p (.sl 36 (rsE c))]) := by
  have c1 := hearing_con c hn
  unfold lostC rsE
  by_cases h : c.wt = 0
  · rw [if_pos h]
    have c2 := end0_con { c with ph := 0 } h
    unfold endC at *
    unfold hW hBx at *
    unfold Cl.cells at *
    dsimp only at *
    refine wBody Try.tab Try.mixed Try.func20 rfl rfl Try.ntmps20 (by simp) (by simp) fun Q hr hn => ?_
    repeat' first | (refine CallK_gen [] (c1) (by decide) (by decide) (by simp [blksOf]) (by simp [argsG, argG, ren0, inN, pos, renCs, renC, toP, toPF]) ⟨[500, 501], by simp, by simp, ?_⟩; simp [lv, ouN, kpI, kpR, pos, ren, ren0, renB, renC, renCs, renF, renFs]) | (refine CallK_gen [500, 501] (c2) (by decide) (by decide) (by simp [blksOf, inN, pos, renB, renC, renCs, ren0, lv, ouN, kpI, kpR]) (by simp [argsG, argG, ren0, inN, pos, renCs, renC]) ⟨[], by simp, by simp, ?_⟩; simp [lv, ouN, kpI, kpR, pos, ren, ren0, renB, renC, renCs, renF, renFs]) | (refine hK _ ?_; clear hK) | (refine hK _ _ ?_; clear hK) | (clear hK; refine hK _ ?_; clear hK) | (clear hK; clear hK; refine hK _ ?_; clear hK) | (clear hK; clear hK; clear hK; refine hK _ ?_; clear hK) | (clear hK; clear hK; clear hK; clear hK; refine hK _ ?_; clear hK) | (refine wSeq fun K hK => ?_) | ((first | refine wReg ?_ | refine wDrwQ rfl (by kernel_rfl) ?_ | refine wDrwI ?_ | refine wDrw (by kernel_rfl) ?_); simp only [List.map_cons, List.map_nil, strip]) | ((first | refine wIs fun K hK => ?_ | refine wOs fun K hK => ?_ | refine wQs fun K hK => ?_ | refine CallK_plain ?_ | refine CallQ_plain ?_ | refine CallR_plain ?_ | refine wCond ?_); simp [lv, ouN, kpI, kpR, pos, ren, ren0, renB, renC, renCs, renF, renFs]) | (refine wIn ?_; refine And.intro (by kernel_rfl) ?_; try simp only [thenA_n]) | (first | refine wBlock ?_ | refine wScope ?_) | ((first | refine wRet ?_ | refine wExit ?_ | refine wSkip ?_); try simp) | ((first | refine wLabel ?_ | refine wOn ?_ | refine wQn ?_); try simp only [thenA_n])
    all_goals first | apply hn | apply hr
    all_goals simp [Try.f20, lv, ouN, kpI, kpR, pos, ren, ren0, renB, renC, renCs, renF, renFs]
  · rw [if_neg h]
    have c2 := end1_con { c with ph := 0 } h
    dsimp only at c2
    generalize rsC c.id c.wt true (wdZ 0 0 0) = rs at *
    unfold endC at *
    unfold hW hW1 hBx at *
    unfold Cl.cells at *
    dsimp only at *
    refine wBody Try.tab Try.mixed Try.func20 rfl rfl Try.ntmps20 (by simp) (by simp) fun Q hr hn => ?_
    repeat' first | (refine CallK_gen [] (c1) (by decide) (by decide) (by simp [blksOf]) (by simp [argsG, argG, ren0, inN, pos, renCs, renC, toP, toPF]) ⟨[500, 501], by simp, by simp, ?_⟩; simp [lv, ouN, kpI, kpR, pos, ren, ren0, renB, renC, renCs, renF, renFs]) | (refine CallK_gen [500, 501] (c2) (by decide) (by decide) (by simp [blksOf, inN, pos, renB, renC, renCs, ren0, lv, ouN, kpI, kpR]) (by simp [argsG, argG, ren0, inN, pos, renCs, renC]) ⟨[502], by simp, by simp, ?_⟩; simp [lv, ouN, kpI, kpR, pos, ren, ren0, renB, renC, renCs, renF, renFs]) | (refine hK _ ?_; clear hK) | (refine hK _ _ ?_; clear hK) | (clear hK; refine hK _ ?_; clear hK) | (clear hK; clear hK; refine hK _ ?_; clear hK) | (clear hK; clear hK; clear hK; refine hK _ ?_; clear hK) | (clear hK; clear hK; clear hK; clear hK; refine hK _ ?_; clear hK) | (refine wSeq fun K hK => ?_) | ((first | refine wReg ?_ | refine wDrwQ rfl (by kernel_rfl) ?_ | refine wDrwI ?_ | refine wDrw (by kernel_rfl) ?_); simp only [List.map_cons, List.map_nil, strip]) | ((first | refine wIs fun K hK => ?_ | refine wOs fun K hK => ?_ | refine wQs fun K hK => ?_ | refine CallK_plain ?_ | refine CallQ_plain ?_ | refine CallR_plain ?_ | refine wCond ?_); simp [lv, ouN, kpI, kpR, pos, ren, ren0, renB, renC, renCs, renF, renFs]) | (refine wIn ?_; refine And.intro (by kernel_rfl) ?_; try simp only [thenA_n]) | (first | refine wBlock ?_ | refine wScope ?_) | ((first | refine wRet ?_ | refine wExit ?_ | refine wSkip ?_); try simp) | ((first | refine wLabel ?_ | refine wOn ?_ | refine wQn ?_); try simp only [thenA_n])
    all_goals first | apply hn | apply hr
    all_goals simp [Try.f20, lv, ouN, kpI, kpR, pos, ren, ren0, renB, renC, renCs, renF, renFs]
end Go.Proofs.Ytefhnofdfnmiaaa
