/- What is read from a place on: a load (read, its closure). -/
import Derived.Test.YtfilinonmngefaaDoorCD
namespace Go.Proofs.YtfilinonmngefaaDoor
set_option linter.unusedSimpArgs false
set_option linter.unusedVariables false
open Go Go.Av
attribute [local simp] Tryd.T1 Tryd.T2 Tryd.T3 Tryd.T4 Tryd.T5 Tryd.T9 Tryd.T12 Tryd.T15 Tryd.T16 Tryd.T17 Tryd.T21 Tryd.T22 Tryd.T23 Tryd.T24 Tryd.T25 Tryd.T27 Tryd.T28 Tryd.T29 Tryd.T31 Tryd.T32 Tryd.T34 Tryd.T35 Tryd.T36 Tryd.T38 Tryd.T39 Tryd.T41 Tryd.T42 Tryd.T43 Tryd.T44 Tryd.T45 Tryd.T46 Tryd.T47 Tryd.T48 Tryd.T49 Tryd.T50 Tryd.T51 Tryd.T52 Tryd.T53 Tryd.T54 Tryd.T55 Tryd.T56 Tryd.T57 Tryd.T58 Tryd.T59 Tryd.T60 Tryd.T61 Tryd.T62 Tryd.T63 Tryd.T65 Tryd.T66 Tryd.T67 Tryd.T68 Tryd.T69 Tryd.T70 Tryd.T73 Tryd.T78 Tryd.T79
attribute [local irreducible] Go.Av.CallK Go.Av.CallE Go.Av.CallQ Go.Av.CallF Go.Av.CallR Go.Av.CallH Go.Av.Con

section
variable (b : List UInt8) (at' : Int) (X : PV)
abbrev rbB (g : FuncId) (x : V) (q : Int) : List Blk := [.box 3 [.p (I at')], .box 22 [.p (.sl 1 (by8 b))], .box 62 [.p (.v (.func (.func g) #[] #[]))], .box 55 [.ptr 1029 0], .box 22 [x], .box 65 [.p (.sl 1 (by8 b)), .p (I q)]]
abbrev raB : List V := [.ptr 1024 0, .ptr 1025 0, .ptr 1026 0, .ptr 1027 0, .ptr 1028 0]
theorem rcBad_B (g : FuncId) (h : at' < 0 ∨ (b.length : Int) < at') : Con Tryd.prog 42 raB (rbB b at' g (.nil 1) at') (.pan (.iface 70 (.int .i64 1)) (rbB b at' g (.nil 1) at')) := by
  have e1 := give_con 1 (by decide)
  by_cases h1 : at' < 0
  · refine wBodyG Tryd.tab Tryd.mixed Tryd.func42 rfl rfl Tryd.ntmps42 (by simp) (by simp) fun Q hr hn hp => ?_
    repeat' first | (refine CallE.pan e1 ?_) | (refine hK _ ?_; clear hK) | (refine hK _ _ ?_; clear hK) | (clear hK; refine hK _ ?_; clear hK) | (clear hK; clear hK; refine hK _ ?_; clear hK) | (clear hK; clear hK; clear hK; refine hK _ ?_; clear hK) | (clear hK; clear hK; clear hK; clear hK; refine hK _ ?_; clear hK) | (refine wSeq fun K hK => ?_) | ((first | refine wReg ?_ | refine wDrwQ rfl (by kernel_rfl) ?_ | refine wDrwI ?_ | refine wDrw (by kernel_rfl) ?_); simp only [List.map_cons, List.map_nil, strip]) | ((first | refine wIs fun K hK => ?_ | refine wOs fun K hK => ?_ | refine wQs fun K hK => ?_ | refine CallK_plain ?_ | refine CallQ_plain ?_ | refine CallR_plain ?_ | refine wCond ?_); simp [h1]) | (refine wIn ?_; refine And.intro (by kernel_rfl) ?_; try simp only [thenA_n]) | (first | refine wBlock ?_ | refine wScope ?_) | ((first | refine wRet ?_ | refine wExit ?_ | refine wSkip ?_); try simp) | ((first | refine wLabel ?_ | refine wOn ?_ | refine wQn ?_); try simp only [thenA_n])
    all_goals try simp only [thenA_p, blockA_p]
    all_goals apply hp
    all_goals simp [AResP, outB, renB, gaN]
  · have h2 : (b.length : Int) < at' := by omega
    refine wBodyG Tryd.tab Tryd.mixed Tryd.func42 rfl rfl Tryd.ntmps42 (by simp) (by simp) fun Q hr hn hp => ?_
    repeat' first | (refine CallE.pan e1 ?_) | (refine hK _ ?_; clear hK) | (refine hK _ _ ?_; clear hK) | (clear hK; refine hK _ ?_; clear hK) | (clear hK; clear hK; refine hK _ ?_; clear hK) | (clear hK; clear hK; clear hK; refine hK _ ?_; clear hK) | (clear hK; clear hK; clear hK; clear hK; refine hK _ ?_; clear hK) | (refine wSeq fun K hK => ?_) | ((first | refine wReg ?_ | refine wDrwQ rfl (by kernel_rfl) ?_ | refine wDrwI ?_ | refine wDrw (by kernel_rfl) ?_); simp only [List.map_cons, List.map_nil, strip]) | ((first | refine wIs fun K hK => ?_ | refine wOs fun K hK => ?_ | refine wQs fun K hK => ?_ | refine CallK_plain ?_ | refine CallQ_plain ?_ | refine CallR_plain ?_ | refine wCond ?_); simp [h1, h2]) | (refine wIn ?_; refine And.intro (by kernel_rfl) ?_; try simp only [thenA_n]) | (first | refine wBlock ?_ | refine wScope ?_) | ((first | refine wRet ?_ | refine wExit ?_ | refine wSkip ?_); try simp) | ((first | refine wLabel ?_ | refine wOn ?_ | refine wQn ?_); try simp only [thenA_n])
    all_goals try simp only [thenA_p, blockA_p]
    all_goals apply hp
    all_goals simp [AResP, outB, renB, gaN]
theorem rcOk_B (h : ¬ at' < 0 ∧ ¬ (b.length : Int) < at') (q : Int) (hX : ∃ n, X = .sl 1 n)
    (hc : Con Tryd.prog 36 [.ptr 1024 0] [.box 65 [.p (.sl 1 (by8 b)), .p (I at')]] (.ret (.p X) [] [.box 65 [.p (.sl 1 (by8 b)), .p (I q)]])) :
    Con Tryd.prog 42 raB (rbB b at' 36 (.nil 1) at') (.ret (.tup []) [] (rbB b at' 36 (.p X) q)) := by
  obtain ⟨xn, rfl⟩ := hX
  obtain ⟨h1, h2⟩ := h
  refine wBodyG Tryd.tab Tryd.mixed Tryd.func42 rfl rfl Tryd.ntmps42 (by simp) (by simp) fun Q hr hn hp => ?_
  repeat' first | (refine CallK_gen [1029] hc (by decide) (by decide) (by simp [blksOf, inN, pos, renB, ren0]) (by simp [argsG, argG, ren0, inN, pos, renCs, renC]) ⟨[], by simp, by simp, ?_⟩; simp [lv, ouN, kpI, kpR, pos, ren, ren0, renB, renC, renCs]) | (refine hK _ ?_; clear hK) | (refine hK _ _ ?_; clear hK) | (clear hK; refine hK _ ?_; clear hK) | (clear hK; clear hK; refine hK _ ?_; clear hK) | (clear hK; clear hK; clear hK; refine hK _ ?_; clear hK) | (clear hK; clear hK; clear hK; clear hK; refine hK _ ?_; clear hK) | (refine wSeq fun K hK => ?_) | ((first | refine wReg ?_ | refine wDrwQ rfl (by kernel_rfl) ?_ | refine wDrwI ?_ | refine wDrw (by kernel_rfl) ?_); simp only [List.map_cons, List.map_nil, strip]) | ((first | refine wIs fun K hK => ?_ | refine wOs fun K hK => ?_ | refine wQs fun K hK => ?_ | refine CallK_plain ?_ | refine CallQ_plain ?_ | refine CallR_plain ?_ | refine wCond ?_); simp [h1, h2, lv, ouN, kpI, kpR, pos, ren, ren0, renB, renC, renCs]) | (refine wIn ?_; refine And.intro (by kernel_rfl) ?_; try simp only [thenA_n]) | (first | refine wBlock ?_ | refine wScope ?_) | ((first | refine wRet ?_ | refine wExit ?_ | refine wSkip ?_); try simp) | ((first | refine wLabel ?_ | refine wOn ?_ | refine wQn ?_); try simp only [thenA_n])
  all_goals first | apply hr | apply hn
  all_goals refine ⟨[], by simp, by simp, ?_⟩
  all_goals simp [Tryd.f42, outR, outB, renB, gaN, lv, ouN, kpI, kpR, pos, ren, ren0, renC, renCs]
theorem rcPan_B (h : ¬ at' < 0 ∧ ¬ (b.length : Int) < at') (q e : Int)
    (hc : Con Tryd.prog 36 [.ptr 1024 0] [.box 65 [.p (.sl 1 (by8 b)), .p (I at')]] (.pan (.iface 70 (.int .i64 e)) [.box 65 [.p (.sl 1 (by8 b)), .p (I q)]])) :
    Con Tryd.prog 42 raB (rbB b at' 36 (.nil 1) at') (.pan (.iface 70 (.int .i64 e)) (rbB b at' 36 (.nil 1) q)) := by
  obtain ⟨h1, h2⟩ := h
  refine wBodyG Tryd.tab Tryd.mixed Tryd.func42 rfl rfl Tryd.ntmps42 (by simp) (by simp) fun Q hr hn hp => ?_
  repeat' first | (refine CallK_gen [1029] hc (by decide) (by decide) (by simp [blksOf, inN, pos, renB, ren0]) (by simp [argsG, argG, ren0, inN, pos, renCs, renC]) ?_; simp [GenK, lv, ouN, kpI, kpR, pos, ren, ren0, renB, renC, renCs]) | (refine hK _ ?_; clear hK) | (refine hK _ _ ?_; clear hK) | (clear hK; refine hK _ ?_; clear hK) | (clear hK; clear hK; refine hK _ ?_; clear hK) | (clear hK; clear hK; clear hK; refine hK _ ?_; clear hK) | (clear hK; clear hK; clear hK; clear hK; refine hK _ ?_; clear hK) | (refine wSeq fun K hK => ?_) | ((first | refine wReg ?_ | refine wDrwQ rfl (by kernel_rfl) ?_ | refine wDrwI ?_ | refine wDrw (by kernel_rfl) ?_); simp only [List.map_cons, List.map_nil, strip]) | ((first | refine wIs fun K hK => ?_ | refine wOs fun K hK => ?_ | refine wQs fun K hK => ?_ | refine CallK_plain ?_ | refine CallQ_plain ?_ | refine CallR_plain ?_ | refine wCond ?_); simp [h1, h2, lv, ouN, kpI, kpR, pos, ren, ren0, renB, renC, renCs]) | (refine wIn ?_; refine And.intro (by kernel_rfl) ?_; try simp only [thenA_n]) | (first | refine wBlock ?_ | refine wScope ?_) | ((first | refine wRet ?_ | refine wExit ?_ | refine wSkip ?_); try simp) | ((first | refine wLabel ?_ | refine wOn ?_ | refine wQn ?_); try simp only [thenA_n])
  all_goals try simp only [thenA_p, blockA_p]
  all_goals apply hp
  all_goals simp [AResP, outB, renB, gaN, lv, ouN, kpI, kpR, pos, ren, ren0, renC, renCs]
end
set_option maxHeartbeats 4000000 in
theorem read0_B (b : List UInt8) (at' : Int) (g : FuncId) (X : PV) (q : Int) (hX : ∃ n, X = .sl 1 n) (out : Out) (ho : errOf out = some (0, rbB b at' g (.p X) q))
    (hc : Con Tryd.prog 42 raB (rbB b at' g (.nil 1) at') out) :
    ACon Tryd.prog 35 [.p (.sl 1 (by8 b)), .p (I at'), .p (.v (.func (.func g) #[] #[]))] (.tup [.p X, .p (I q), .p (I 0)]) := by
  obtain ⟨xn, rfl⟩ := hX
  have he0 : ByteArray.empty = bs [] := rfl
  have ct := try_con (caps := [.box 1024, .box 1025, .box 1026, .box 1027, .box 1028]) hc ho
  refine wBody Tryd.tab Tryd.mixed Tryd.func35 rfl rfl Tryd.ntmps35 (by simp) (by simp) fun Q hr hn => ?_
  repeat' first | (refine CallK_gen [4, 3, 5, 11, 9, 16] ct (by decide) (by decide) (by simp [blksOf, inN, pos, renB, ren0, he0]) (by simp [argsG, argG, ren0, inN, pos, renCs, renC]) ⟨[], by simp, by simp, ?_⟩; simp [lv, ouN, kpI, kpR, pos, ren, ren0, renB, renC, renCs]) | (refine hK _ ?_; clear hK) | (refine hK _ _ ?_; clear hK) | (clear hK; refine hK _ ?_; clear hK) | (clear hK; clear hK; refine hK _ ?_; clear hK) | (clear hK; clear hK; clear hK; refine hK _ ?_; clear hK) | (clear hK; clear hK; clear hK; clear hK; refine hK _ ?_; clear hK) | (refine wSeq fun K hK => ?_) | ((first | refine wReg ?_ | refine wDrwQ rfl (by kernel_rfl) ?_ | refine wDrwI ?_ | refine wDrw (by kernel_rfl) ?_); simp only [List.map_cons, List.map_nil, strip]) | ((first | refine wIs fun K hK => ?_ | refine wOs fun K hK => ?_ | refine wQs fun K hK => ?_ | refine CallK_plain ?_ | refine CallQ_plain ?_ | refine CallR_plain ?_ | refine wCond ?_); simp [lv, ouN, kpI, kpR, pos, ren, ren0, renB, renC, renCs]) | (refine wIn ?_; refine And.intro (by kernel_rfl) ?_; try simp only [thenA_n]) | (first | refine wBlock ?_ | refine wScope ?_) | ((first | refine wRet ?_ | refine wExit ?_ | refine wSkip ?_); try simp) | ((first | refine wLabel ?_ | refine wOn ?_ | refine wQn ?_); try simp only [thenA_n])
  all_goals apply hr
  all_goals simp [Tryd.f35]
set_option maxHeartbeats 4000000 in
theorem readE_B (b : List UInt8) (at' : Int) (g : FuncId) (q e : Int) (out : Out) (ho : errOf out = some (e, rbB b at' g (.nil 1) q)) (h0 : ¬ e = 0)
    (hc : Con Tryd.prog 42 raB (rbB b at' g (.nil 1) at') out) :
    ACon Tryd.prog 35 [.p (.sl 1 (by8 b)), .p (I at'), .p (.v (.func (.func g) #[] #[]))] (.tup [.p (.sl 1 []), .p (I 0), .p (I e)]) := by
  have he0 : ByteArray.empty = bs [] := rfl
  have ct := try_con (caps := [.box 1024, .box 1025, .box 1026, .box 1027, .box 1028]) hc ho
  refine wBody Tryd.tab Tryd.mixed Tryd.func35 rfl rfl Tryd.ntmps35 (by simp) (by simp) fun Q hr hn => ?_
  repeat' first | (refine CallK_gen [4, 3, 5, 11, 9, 16] ct (by decide) (by decide) (by simp [blksOf, inN, pos, renB, ren0, he0]) (by simp [argsG, argG, ren0, inN, pos, renCs, renC]) ⟨[], by simp, by simp, ?_⟩; simp [lv, ouN, kpI, kpR, pos, ren, ren0, renB, renC, renCs]) | (refine hK _ ?_; clear hK) | (refine hK _ _ ?_; clear hK) | (clear hK; refine hK _ ?_; clear hK) | (clear hK; clear hK; refine hK _ ?_; clear hK) | (clear hK; clear hK; clear hK; refine hK _ ?_; clear hK) | (clear hK; clear hK; clear hK; clear hK; refine hK _ ?_; clear hK) | (refine wSeq fun K hK => ?_) | ((first | refine wReg ?_ | refine wDrwQ rfl (by kernel_rfl) ?_ | refine wDrwI ?_ | refine wDrw (by kernel_rfl) ?_); simp only [List.map_cons, List.map_nil, strip]) | ((first | refine wIs fun K hK => ?_ | refine wOs fun K hK => ?_ | refine wQs fun K hK => ?_ | refine CallK_plain ?_ | refine CallQ_plain ?_ | refine CallR_plain ?_ | refine wCond ?_); simp [h0, lv, ouN, kpI, kpR, pos, ren, ren0, renB, renC, renCs]) | (refine wIn ?_; refine And.intro (by kernel_rfl) ?_; try simp only [thenA_n]) | (first | refine wBlock ?_ | refine wScope ?_) | ((first | refine wRet ?_ | refine wExit ?_ | refine wSkip ?_); try simp) | ((first | refine wLabel ?_ | refine wOn ?_ | refine wQn ?_); try simp only [thenA_n])
  all_goals apply hr
  all_goals simp [Tryd.f35, he0]
end Go.Proofs.YtfilinonmngefaaDoor
