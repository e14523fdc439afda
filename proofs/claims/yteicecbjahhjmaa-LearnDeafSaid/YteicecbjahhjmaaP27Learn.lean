/- Texts that the proof needs: LN3 LN4 LN5. -/
import Derived.Test.YteicecbjahhjmaaP26Learn
import Derived.Test.YteicecbjahhjmaaP23Learn
import Derived.Test.YteicecbjahhjmaaP25Learn
/- Learners: what is done with a message. -/
namespace Go.Proofs.Yteicecbjahhjmaa
set_option linter.unusedSimpArgs false
set_option linter.unusedVariables false
set_option maxRecDepth 8000
open Go Go.Av
attribute [local simp] Try.T1 Try.T2 Try.T3 Try.T4 Try.T5 Try.T9 Try.T12 Try.T15 Try.T16 Try.T17 Try.T21 Try.T22 Try.T23 Try.T25 Try.T26 Try.T28 Try.T30 Try.T31 Try.T33 Try.T35 Try.T36 Try.T37 Try.T38 Try.T39 Try.T41 Try.T42 Try.T44 Try.T45 Try.T47 Try.T48 Try.T50 Try.T51 Try.T52 Try.T54 Try.T55 Try.T56 Try.T58 Try.T59 Try.T61 Try.T63 Try.T65 Try.T67 Try.T68 Try.T69 Try.T70 Try.T72 Try.T73 Try.T74 Try.T75 Try.T76 Try.T77 Try.T78 Try.T79 Try.T80 Try.T81 Try.T83 Try.T84 Try.T85 Try.T87 Try.T88 Try.T89 Try.T90 Try.T91 Try.T92 Try.T93 Try.T94 Try.T95 Try.T96 Try.T97 Try.T98 Try.T99 Try.T101 Try.T103 Try.T104 Try.T105 Try.T106 Try.T107 Try.T108 Try.T109 Try.T110 Try.T111 Try.T113 Try.T114 Try.T115 Try.T116 Try.T117 Try.T118 Try.T119 Try.T120 Try.T121 Try.T122 Try.T123 Try.T124 Try.T125 Try.T126 Try.T127 Try.T128 Try.T129 Try.T130 Try.T131 Try.T132 Try.T133 Try.T134 Try.T135 Try.T137 Try.T138 Try.T139 Try.T140 Try.T141 Try.T142 Try.T143 Try.T144 Try.T145 Try.T146 Try.T147 Try.T148 Try.T149 Try.T150 Try.T153 Try.T156 Try.T157 Try.T160 Try.T161 Try.T167
attribute [local irreducible] Go.Av.CallK Go.Av.CallE Go.Av.CallQ Go.Av.CallF Go.Av.CallR Go.Av.CallH Go.Av.Con
theorem ready_con (p : Lp) (m : Mg) (g : Bool) (hl : p.h.lg.length ≤ 1000) : Con Try.prog 64 [.ptr 1024 0, .p (.agg m.cells)] (sW p g) (.ret (.tup []) [] (sW (knownP { p with wt := 0, ph := 4 } m.z) g)) := by
  have c1 := known_con { p with wt := 0, ph := 4 } m.z g hl
  generalize knownP { p with wt := 0, ph := 4 } m.z = r at *
  unfold sW sBx at *
  unfold Mg.cells
  dsimp only at c1 ⊢
  refine wBodyG Try.tab Try.mixed Try.func64 rfl rfl Try.ntmps64 (by simp) (by simp) fun Q hr hn hp => ?_
  repeat' first | (refine CallK_gen [1024] (c1) (by decide) (by decide) (by simp [blksOf, inN, pos, renB, renC, renCs, ren0, lv, ouN, kpI, kpR]) (by simp [argsG, argG, ren0, inN, pos, renCs, renC]) ⟨[], by simp, by simp, ?_⟩; simp [lv, ouN, kpI, kpR, pos, ren, ren0, renB, renC, renCs, renF, renFs]) | (refine hK _ ?_; clear hK) | (refine hK _ _ ?_; clear hK) | (clear hK; refine hK _ ?_; clear hK) | (clear hK; clear hK; refine hK _ ?_; clear hK) | (clear hK; clear hK; clear hK; refine hK _ ?_; clear hK) | (clear hK; clear hK; clear hK; clear hK; refine hK _ ?_; clear hK) | (refine wSeq fun K hK => ?_) | ((first | refine wReg ?_ | refine wDrwQ rfl (by kernel_rfl) ?_ | refine wDrwI ?_ | refine wDrw (by kernel_rfl) ?_); simp only [List.map_cons, List.map_nil, strip]) | ((first | refine wIs fun K hK => ?_ | refine wOs fun K hK => ?_ | refine wQs fun K hK => ?_ | refine CallK_plain ?_ | refine CallQ_plain ?_ | refine CallR_plain ?_ | refine wCond ?_); simp) | (refine wIn ?_; refine And.intro (by kernel_rfl) ?_; try simp only [thenA_n]) | (first | refine wBlock ?_ | refine wScope ?_) | ((first | refine wRet ?_ | refine wExit ?_ | refine wSkip ?_); try simp) | ((first | refine wLabel ?_ | refine wOn ?_ | refine wQn ?_); try simp only [thenA_n])
  all_goals first | apply hn | apply hr
  all_goals refine ⟨[], by simp, by simp, ?_⟩
  all_goals simp [Try.f64, outR, outB, renB, gaN, lv, ouN, kpI, kpR, pos, ren, ren0, renC, renCs, renF, renFs]
def commitP (p : Lp) (m : Mg) : Lp := if p.ph = 4 then knownP { p with wt := 0 } m.z else { p with wt := 0 }
theorem commit_con (p : Lp) (m : Mg) (g : Bool) (hl : p.h.lg.length ≤ 1000) : Con Try.prog 65 [.ptr 1024 0, .p (.agg m.cells)] (sW p g) (.ret (.tup []) [] (sW (commitP p m) g)) := by
  have c1 := known_con { p with wt := 0 } m.z g hl
  unfold commitP
  by_cases h : p.ph = 4
  · rw [if_pos h]
    replace h : (p.ph = 4) = True := eq_true h
    generalize knownP { p with wt := 0 } m.z = r at *
    unfold sW sBx at *
    unfold Mg.cells
    dsimp only at c1 ⊢
    refine wBodyG Try.tab Try.mixed Try.func65 rfl rfl Try.ntmps65 (by simp) (by simp) fun Q hr hn hp => ?_
    repeat' first | (refine CallK_gen [1024] (c1) (by decide) (by decide) (by simp [blksOf, inN, pos, renB, renC, renCs, ren0, lv, ouN, kpI, kpR]) (by simp [argsG, argG, ren0, inN, pos, renCs, renC]) ⟨[], by simp, by simp, ?_⟩; simp [lv, ouN, kpI, kpR, pos, ren, ren0, renB, renC, renCs, renF, renFs]) | (refine hK _ ?_; clear hK) | (refine hK _ _ ?_; clear hK) | (clear hK; refine hK _ ?_; clear hK) | (clear hK; clear hK; refine hK _ ?_; clear hK) | (clear hK; clear hK; clear hK; refine hK _ ?_; clear hK) | (clear hK; clear hK; clear hK; clear hK; refine hK _ ?_; clear hK) | (refine wSeq fun K hK => ?_) | ((first | refine wReg ?_ | refine wDrwQ rfl (by kernel_rfl) ?_ | refine wDrwI ?_ | refine wDrw (by kernel_rfl) ?_); simp only [List.map_cons, List.map_nil, strip]) | ((first | refine wIs fun K hK => ?_ | refine wOs fun K hK => ?_ | refine wQs fun K hK => ?_ | refine CallK_plain ?_ | refine CallQ_plain ?_ | refine CallR_plain ?_ | refine wCond ?_); simp [h]) | (refine wIn ?_; refine And.intro (by kernel_rfl) ?_; try simp only [thenA_n]) | (first | refine wBlock ?_ | refine wScope ?_) | ((first | refine wRet ?_ | refine wExit ?_ | refine wSkip ?_); try simp) | ((first | refine wLabel ?_ | refine wOn ?_ | refine wQn ?_); try simp only [thenA_n])
    all_goals first | apply hn | apply hr
    all_goals refine ⟨[], by simp, by simp, ?_⟩
    all_goals simp [Try.f65, outR, outB, renB, gaN, lv, ouN, kpI, kpR, pos, ren, ren0, renC, renCs, renF, renFs]
  · rw [if_neg h]
    unfold sW sBx Mg.cells
    dsimp only
    refine wBodyG Try.tab Try.mixed Try.func65 rfl rfl Try.ntmps65 (by simp) (by simp) fun Q hr hn hp => ?_
    repeat' first | (refine hK _ ?_; clear hK) | (refine hK _ _ ?_; clear hK) | (clear hK; refine hK _ ?_; clear hK) | (clear hK; clear hK; refine hK _ ?_; clear hK) | (clear hK; clear hK; clear hK; refine hK _ ?_; clear hK) | (clear hK; clear hK; clear hK; clear hK; refine hK _ ?_; clear hK) | (refine wSeq fun K hK => ?_) | ((first | refine wReg ?_ | refine wDrwQ rfl (by kernel_rfl) ?_ | refine wDrwI ?_ | refine wDrw (by kernel_rfl) ?_); simp only [List.map_cons, List.map_nil, strip]) | ((first | refine wIs fun K hK => ?_ | refine wOs fun K hK => ?_ | refine wQs fun K hK => ?_ | refine CallK_plain ?_ | refine CallQ_plain ?_ | refine CallR_plain ?_ | refine wCond ?_); simp [h]) | (refine wIn ?_; refine And.intro (by kernel_rfl) ?_; try simp only [thenA_n]) | (first | refine wBlock ?_ | refine wScope ?_) | ((first | refine wRet ?_ | refine wExit ?_ | refine wSkip ?_); try simp) | ((first | refine wLabel ?_ | refine wOn ?_ | refine wQn ?_); try simp only [thenA_n])
    all_goals first | apply hn | apply hr
    all_goals refine ⟨[], by simp, by simp, ?_⟩
    all_goals simp [Try.f65, outR, outB, renB, gaN, lv, ouN, kpI, kpR, pos, ren, ren0, renC, renCs, renF, renFs]
def informP (p : Lp) (m : Mg) : Lp := if p.ph = 4 then knownP (growP { p with wt := 0 } m.tx) ⟨m.tx.e, m.tx.n⟩ else growP { p with wt := 0 } m.tx
theorem growP_ph (p : Lp) (t : Tx) : (growP p t).ph = p.ph := by unfold growP; split <;> rfl
theorem growP_lg (p : Lp) (t : Tx) : (growP p t).h.lg.length ≤ p.h.lg.length + 1 := by unfold growP; split <;> simp
set_option maxHeartbeats 2000000 in
theorem inform_con (p : Lp) (m : Mg) (g : Bool) (hk : OkH p.h) (hl : p.h.lg.length ≤ 999) (ht : m.tx.ps.length ≤ 1000 ∧ ∀ p ∈ m.tx.ps, p.c.ms.length ≤ 1000) : Con Try.prog 63 [.ptr 1024 0, .p (.agg m.cells)] (sW p g) (.ret (.tup []) [] (sW (informP p m) g)) := by
  have c1 := growL_con { p with wt := 0 } m.tx g hk ht
  have c2 := known_con (growP { p with wt := 0 } m.tx) ⟨m.tx.e, m.tx.n⟩ g (by have := growP_lg { p with wt := 0 } m.tx; simp only at this; omega)
  have hph : (growP { p with wt := 0 } m.tx).ph = p.ph := growP_ph _ _
  unfold informP
  generalize growOk ({ p with wt := 0 } : Lp).h [m.tx] = b at *
  by_cases h : p.ph = 4
  · rw [if_pos h]
    generalize growP { p with wt := 0 } m.tx = r at *
    generalize knownP r ⟨m.tx.e, m.tx.n⟩ = s at *
    replace hph : (r.ph = 4) = True := eq_true (hph.trans h)
    clear h
    unfold sW sBx at *
    unfold Mg.cells
    unfold Tx.cells at c1
    dsimp only at c1 c2 ⊢
    refine wBodyG Try.tab Try.mixed Try.func63 rfl rfl Try.ntmps63 (by simp) (by simp) fun Q hr hn hp => ?_
    repeat' first | (refine CallK_gen [1024] (c1) (by decide) (by decide) (by simp [blksOf, inN, pos, renB, renC, renCs, ren0, lv, ouN, kpI, kpR]) (by simp [argsG, argG, ren0, inN, pos, renCs, renC]) ⟨[], by simp, by simp, ?_⟩; simp [lv, ouN, kpI, kpR, pos, ren, ren0, renB, renC, renCs, renF, renFs]) | (refine CallK_gen [1024] (c2) (by decide) (by decide) (by simp [blksOf, inN, pos, renB, renC, renCs, ren0, lv, ouN, kpI, kpR]) (by simp [argsG, argG, ren0, inN, pos, renCs, renC]) ⟨[], by simp, by simp, ?_⟩; simp [lv, ouN, kpI, kpR, pos, ren, ren0, renB, renC, renCs, renF, renFs]) | (refine hK _ ?_; clear hK) | (refine hK _ _ ?_; clear hK) | (clear hK; refine hK _ ?_; clear hK) | (clear hK; clear hK; refine hK _ ?_; clear hK) | (clear hK; clear hK; clear hK; refine hK _ ?_; clear hK) | (clear hK; clear hK; clear hK; clear hK; refine hK _ ?_; clear hK) | (refine wSeq fun K hK => ?_) | ((first | refine wReg ?_ | refine wDrwQ rfl (by kernel_rfl) ?_ | refine wDrwI ?_ | refine wDrw (by kernel_rfl) ?_); simp only [List.map_cons, List.map_nil, strip]) | ((first | refine wIs fun K hK => ?_ | refine wOs fun K hK => ?_ | refine wQs fun K hK => ?_ | refine CallK_plain ?_ | refine CallQ_plain ?_ | refine CallR_plain ?_ | refine wCond ?_); simp [hph]) | (refine wIn ?_; refine And.intro (by kernel_rfl) ?_; try simp only [thenA_n]) | (first | refine wBlock ?_ | refine wScope ?_) | ((first | refine wRet ?_ | refine wExit ?_ | refine wSkip ?_); try simp) | ((first | refine wLabel ?_ | refine wOn ?_ | refine wQn ?_); try simp only [thenA_n])
    all_goals first | apply hn | apply hr
    all_goals refine ⟨[], by simp, by simp, ?_⟩
    all_goals simp [Try.f63, outR, outB, renB, gaN, lv, ouN, kpI, kpR, pos, ren, ren0, renC, renCs, renF, renFs]
  · rw [if_neg h]
    generalize growP { p with wt := 0 } m.tx = r at *
    have h' : ¬ r.ph = 4 := by omega
    unfold sW sBx at *
    unfold Mg.cells
    unfold Tx.cells at c1
    dsimp only at c1 ⊢
    refine wBodyG Try.tab Try.mixed Try.func63 rfl rfl Try.ntmps63 (by simp) (by simp) fun Q hr hn hp => ?_
    repeat' first | (refine CallK_gen [1024] (c1) (by decide) (by decide) (by simp [blksOf, inN, pos, renB, renC, renCs, ren0, lv, ouN, kpI, kpR]) (by simp [argsG, argG, ren0, inN, pos, renCs, renC]) ⟨[], by simp, by simp, ?_⟩; simp [lv, ouN, kpI, kpR, pos, ren, ren0, renB, renC, renCs, renF, renFs]) | (refine hK _ ?_; clear hK) | (refine hK _ _ ?_; clear hK) | (clear hK; refine hK _ ?_; clear hK) | (clear hK; clear hK; refine hK _ ?_; clear hK) | (clear hK; clear hK; clear hK; refine hK _ ?_; clear hK) | (clear hK; clear hK; clear hK; clear hK; refine hK _ ?_; clear hK) | (refine wSeq fun K hK => ?_) | ((first | refine wReg ?_ | refine wDrwQ rfl (by kernel_rfl) ?_ | refine wDrwI ?_ | refine wDrw (by kernel_rfl) ?_); simp only [List.map_cons, List.map_nil, strip]) | ((first | refine wIs fun K hK => ?_ | refine wOs fun K hK => ?_ | refine wQs fun K hK => ?_ | refine CallK_plain ?_ | refine CallQ_plain ?_ | refine CallR_plain ?_ | refine wCond ?_); simp [h']) | (refine wIn ?_; refine And.intro (by kernel_rfl) ?_; try simp only [thenA_n]) | (first | refine wBlock ?_ | refine wScope ?_) | ((first | refine wRet ?_ | refine wExit ?_ | refine wSkip ?_); try simp) | ((first | refine wLabel ?_ | refine wOn ?_ | refine wQn ?_); try simp only [thenA_n])
    all_goals first | apply hn | apply hr
    all_goals refine ⟨[], by simp, by simp, ?_⟩
    all_goals simp [Try.f63, outR, outB, renB, gaN, lv, ouN, kpI, kpR, pos, ren, ren0, renC, renCs, renF, renFs]
def pingM (p : Lp) : Mg := mgZ p.id p.ld 13 p.ep 0 ⟨0, 0⟩ []
theorem ping_con (p : Lp) (m : Mg) (g : Bool) : Con Try.prog 66 [.ptr 1024 0, .p (.agg m.cells)] (sW p g) (.ret (.tup []) [.row 65 46 [(pingM p).cells]] (sW1 { p with wt := 0 } g)) := by
  have c1 := send_con { p with wt := 0 } (mgZ 0 0 13 p.ep 0 ⟨0, 0⟩ []) g
  rw [show ({ mgZ 0 0 13 p.ep 0 ⟨0, 0⟩ [] with fr := ({ p with wt := 0 } : Lp).id, to := ({ p with wt := 0 } : Lp).ld } : Mg) = pingM p from rfl] at c1
  generalize (pingM p).cells = mm at *
  unfold sW sW1 sBx mgZ Mg.cells at *
  simp only [zns, ints, mbs, txns, zxs, pts, List.map_nil] at c1 ⊢
  refine wBodyG Try.tab Try.mixed Try.func66 rfl rfl Try.ntmps66 (by simp) (by simp) fun Q hr hn hp => ?_
  repeat' first | (refine CallK_gen [1024] (c1) (by decide) (by decide) (by simp [blksOf, inN, pos, renB, renC, renCs, ren0, lv, ouN, kpI, kpR]) (by simp [argsG, argG, ren0, inN, pos, renCs, renC]) ⟨[500], by simp, by simp, ?_⟩; simp [lv, ouN, kpI, kpR, pos, ren, ren0, renB, renC, renCs, renF, renFs]) | (refine hK _ ?_; clear hK) | (refine hK _ _ ?_; clear hK) | (clear hK; refine hK _ ?_; clear hK) | (clear hK; clear hK; refine hK _ ?_; clear hK) | (clear hK; clear hK; clear hK; refine hK _ ?_; clear hK) | (clear hK; clear hK; clear hK; clear hK; refine hK _ ?_; clear hK) | (refine wSeq fun K hK => ?_) | ((first | refine wReg ?_ | refine wDrwQ rfl (by kernel_rfl) ?_ | refine wDrwI ?_ | refine wDrw (by kernel_rfl) ?_); simp only [List.map_cons, List.map_nil, strip]) | ((first | refine wIs fun K hK => ?_ | refine wOs fun K hK => ?_ | refine wQs fun K hK => ?_ | refine CallK_plain ?_ | refine CallQ_plain ?_ | refine CallR_plain ?_ | refine wCond ?_); simp [show ByteArray.empty = bs [] from rfl]) | (refine wIn ?_; refine And.intro (by kernel_rfl) ?_; try simp only [thenA_n]) | (first | refine wBlock ?_ | refine wScope ?_) | ((first | refine wRet ?_ | refine wExit ?_ | refine wSkip ?_); try simp) | ((first | refine wLabel ?_ | refine wOn ?_ | refine wQn ?_); try simp only [thenA_n])
  all_goals first | apply hn | apply hr
  all_goals refine ⟨[500], by simp, by simp, ?_⟩
  all_goals simp [Try.f66, outR, outB, renB, gaN, lv, ouN, kpI, kpR, pos, ren, ren0, renC, renCs, renF, renFs]
def ackM (p : Lp) (t : Tx) : Mg := mgZ p.id p.ld 9 p.ep 0 ⟨t.e, t.n⟩ []
/-- What a proposal that is taken comes to. -/
def tookP (p : Lp) (t : Tx) : Lp := { p with wt := 0, h := { p.h with lg := p.h.lg ++ [t] } }
set_option maxHeartbeats 2000000 in
theorem propose1_con (p : Lp) (m : Mg) (g : Bool) (hk : OkH p.h) (ht : m.tx.ps.length ≤ 1000 ∧ ∀ p ∈ m.tx.ps, p.c.ms.length ≤ 1000) (hg : growOk p.h [m.tx] = true) : Con Try.prog 62 [.ptr 1024 0, .p (.agg m.cells)] (sW p g) (.ret (.tup []) [.row 65 46 [(ackM p m.tx).cells]] (sW1 (tookP p m.tx) g)) := by
  have c1 := growL_con { p with wt := 0 } m.tx g hk ht
  rw [show growP { p with wt := 0 } m.tx = tookP p m.tx by unfold growP tookP; rw [if_pos hg]] at c1
  rw [show growOk ({ p with wt := 0 } : Lp).h [m.tx] = true from hg] at c1
  have c2 := send_con (tookP p m.tx) (mgZ 0 0 9 p.ep 0 ⟨m.tx.e, m.tx.n⟩ []) g
  rw [show ({ mgZ 0 0 9 p.ep 0 ⟨m.tx.e, m.tx.n⟩ [] with fr := (tookP p m.tx).id, to := (tookP p m.tx).ld } : Mg) = ackM p m.tx from rfl] at c2
  generalize (ackM p m.tx).cells = mm at *
  unfold tookP at *
  generalize p.h.lg ++ [m.tx] = L at *
  unfold sW sW1 sBx mgZ Mg.cells at *
  unfold Tx.cells at c1
  dsimp only at c1 c2 ⊢
  simp only [show zns [] = [] from rfl, show ints [] = [] from rfl, show mbs [] = [] from rfl, show txns [] = [] from rfl, show zxs [] = [] from rfl, show pts [] = [] from rfl] at c2
  refine wBodyG Try.tab Try.mixed Try.func62 rfl rfl Try.ntmps62 (by simp) (by simp) fun Q hr hn hp => ?_
  repeat' first | (refine CallK_gen [1024] (c1) (by decide) (by decide) (by simp [blksOf, inN, pos, renB, renC, renCs, ren0, lv, ouN, kpI, kpR]) (by simp [argsG, argG, ren0, inN, pos, renCs, renC]) ⟨[], by simp, by simp, ?_⟩; simp [lv, ouN, kpI, kpR, pos, ren, ren0, renB, renC, renCs, renF, renFs]) | (refine wDrwT (id := 3) 10 (by kernel_rfl) ?_; simp only [List.map_cons, List.map_nil, strip, List.take_succ_cons, List.take_zero, List.drop_succ_cons, List.drop_zero]) | (refine CallK_gen [1024] (c2) (by decide) (by decide) (by simp [blksOf, inN, pos, renB, renC, renCs, ren0, lv, ouN, kpI, kpR]) (by simp [argsG, argG, ren0, inN, pos, renCs, renC]) ⟨[500], by simp, by simp, ?_⟩; simp [lv, ouN, kpI, kpR, pos, ren, ren0, renB, renC, renCs, renF, renFs]) | (refine hK _ ?_; clear hK) | (refine hK _ _ ?_; clear hK) | (clear hK; refine hK _ ?_; clear hK) | (clear hK; clear hK; refine hK _ ?_; clear hK) | (clear hK; clear hK; clear hK; refine hK _ ?_; clear hK) | (clear hK; clear hK; clear hK; clear hK; refine hK _ ?_; clear hK) | (refine wSeq fun K hK => ?_) | ((first | refine wReg ?_ | refine wDrwQ rfl (by kernel_rfl) ?_ | refine wDrwI ?_ | refine wDrw (by kernel_rfl) ?_); simp only [List.map_cons, List.map_nil, strip]) | ((first | refine wIs fun K hK => ?_ | refine wOs fun K hK => ?_ | refine wQs fun K hK => ?_ | refine CallK_plain ?_ | refine CallQ_plain ?_ | refine CallR_plain ?_ | refine wCond ?_); simp [show ByteArray.empty = bs [] from rfl]) | (refine wIn ?_; refine And.intro (by kernel_rfl) ?_; try simp only [thenA_n]) | (first | refine wBlock ?_ | refine wScope ?_) | ((first | refine wRet ?_ | refine wExit ?_ | refine wSkip ?_); try simp) | ((first | refine wLabel ?_ | refine wOn ?_ | refine wQn ?_); try simp only [thenA_n])
  all_goals first | apply hn | apply hr
  all_goals refine ⟨[500], by simp, by simp, ?_⟩
  all_goals simp [Try.f62, outR, outB, renB, gaN, lv, ouN, kpI, kpR, pos, ren, ren0, renC, renCs, renF, renFs]
theorem propose0_con (p : Lp) (m : Mg) (g : Bool) (hk : OkH p.h) (ht : m.tx.ps.length ≤ 1000 ∧ ∀ p ∈ m.tx.ps, p.c.ms.length ≤ 1000) (hg : growOk p.h [m.tx] = false) : Con Try.prog 62 [.ptr 1024 0, .p (.agg m.cells)] (sW p g) (.ret (.tup []) [] (sW { p with wt := 0 } g)) := by
  have c1 := growL_con { p with wt := 0 } m.tx g hk ht
  rw [show growP { p with wt := 0 } m.tx = { p with wt := 0 } by unfold growP; rw [if_neg (by rw [show growOk ({ p with wt := 0 } : Lp).h [m.tx] = false from hg]; decide)]] at c1
  rw [show growOk ({ p with wt := 0 } : Lp).h [m.tx] = false from hg] at c1
  unfold sW sBx Mg.cells at *
  unfold Tx.cells at c1
  dsimp only at c1 ⊢
  refine wBodyG Try.tab Try.mixed Try.func62 rfl rfl Try.ntmps62 (by simp) (by simp) fun Q hr hn hp => ?_
  repeat' first | (refine CallK_gen [1024] (c1) (by decide) (by decide) (by simp [blksOf, inN, pos, renB, renC, renCs, ren0, lv, ouN, kpI, kpR]) (by simp [argsG, argG, ren0, inN, pos, renCs, renC]) ⟨[], by simp, by simp, ?_⟩; simp [lv, ouN, kpI, kpR, pos, ren, ren0, renB, renC, renCs, renF, renFs]) | (refine hK _ ?_; clear hK) | (refine hK _ _ ?_; clear hK) | (clear hK; refine hK _ ?_; clear hK) | (clear hK; clear hK; refine hK _ ?_; clear hK) | (clear hK; clear hK; clear hK; refine hK _ ?_; clear hK) | (clear hK; clear hK; clear hK; clear hK; refine hK _ ?_; clear hK) | (refine wSeq fun K hK => ?_) | ((first | refine wReg ?_ | refine wDrwQ rfl (by kernel_rfl) ?_ | refine wDrwI ?_ | refine wDrw (by kernel_rfl) ?_); simp only [List.map_cons, List.map_nil, strip]) | ((first | refine wIs fun K hK => ?_ | refine wOs fun K hK => ?_ | refine wQs fun K hK => ?_ | refine CallK_plain ?_ | refine CallQ_plain ?_ | refine CallR_plain ?_ | refine wCond ?_); simp) | (refine wIn ?_; refine And.intro (by kernel_rfl) ?_; try simp only [thenA_n]) | (first | refine wBlock ?_ | refine wScope ?_) | ((first | refine wRet ?_ | refine wExit ?_ | refine wSkip ?_); try simp) | ((first | refine wLabel ?_ | refine wOn ?_ | refine wQn ?_); try simp only [thenA_n])
  all_goals first | apply hn | apply hr
  all_goals refine ⟨[], by simp, by simp, ?_⟩
  all_goals simp [Try.f62, outR, outB, renB, gaN, lv, ouN, kpI, kpR, pos, ren, ren0, renC, renCs, renF, renFs]
/- Learners: an epoch promised, a history taken. -/
theorem promise0_con (p : Lp) (m : Mg) (g : Bool) (h : ¬ owner m.ep = p.ld) : Con Try.prog 49 [.ptr 1024 0, .p (.agg m.cells)] (sW p g) (.ret (.tup []) [] (sW p g)) := by
  have c1 := owner_con m.ep
  generalize owner m.ep = o at *
  unfold sW sBx Mg.cells at *
  refine wBodyG Try.tab Try.mixed Try.func49 rfl rfl Try.ntmps49 (by simp) (by simp) fun Q hr hn hp => ?_
  repeat' first | (refine CallE.pure (c1) rfl ?_) | (refine CallE.lent (c1) rfl ?_) | (refine CallF.pure (c1) rfl ?_) | (refine CallF.lent (c1) rfl ?_) | (refine CallE.own (c1) ?_) | (refine CallH.pure (c1) rfl ?_) | (refine CallH.lent (c1) rfl ?_) | (refine CallH.own (c1) ?_) | (refine hK _ ?_; clear hK) | (refine hK _ _ ?_; clear hK) | (clear hK; refine hK _ ?_; clear hK) | (clear hK; clear hK; refine hK _ ?_; clear hK) | (clear hK; clear hK; clear hK; refine hK _ ?_; clear hK) | (clear hK; clear hK; clear hK; clear hK; refine hK _ ?_; clear hK) | (refine wSeq fun K hK => ?_) | ((first | refine wReg ?_ | refine wDrwQ rfl (by kernel_rfl) ?_ | refine wDrwI ?_ | refine wDrw (by kernel_rfl) ?_); simp only [List.map_cons, List.map_nil, strip]) | ((first | refine wIs fun K hK => ?_ | refine wOs fun K hK => ?_ | refine wQs fun K hK => ?_ | refine CallK_plain ?_ | refine CallQ_plain ?_ | refine CallR_plain ?_ | refine wCond ?_); simp [h]) | (refine wIn ?_; refine And.intro (by kernel_rfl) ?_; try simp only [thenA_n]) | (first | refine wBlock ?_ | refine wScope ?_) | ((first | refine wRet ?_ | refine wExit ?_ | refine wSkip ?_); try simp) | ((first | refine wLabel ?_ | refine wOn ?_ | refine wQn ?_); try simp only [thenA_n])
  all_goals first | apply hn | apply hr
  all_goals refine ⟨[], by simp, by simp, ?_⟩
  all_goals simp [Try.f49, outR, outB, renB, gaN, lv, ouN, kpI, kpR, pos, ren, ren0, renC, renCs, renF, renFs]
theorem promiseG_con (p : Lp) (m : Mg) (g : Bool) (h : owner m.ep = p.ld) (h2 : m.ep < p.ac) : Con Try.prog 49 [.ptr 1024 0, .p (.agg m.cells)] (sW p g) (.ret (.tup []) [] (sW p true)) := by
  have c1 := owner_con m.ep
  generalize owner m.ep = o at *
  unfold sW sBx Mg.cells at *
  refine wBodyG Try.tab Try.mixed Try.func49 rfl rfl Try.ntmps49 (by simp) (by simp) fun Q hr hn hp => ?_
  repeat' first | (refine CallE.pure (c1) rfl ?_) | (refine CallE.lent (c1) rfl ?_) | (refine CallF.pure (c1) rfl ?_) | (refine CallF.lent (c1) rfl ?_) | (refine CallE.own (c1) ?_) | (refine CallH.pure (c1) rfl ?_) | (refine CallH.lent (c1) rfl ?_) | (refine CallH.own (c1) ?_) | (refine hK _ ?_; clear hK) | (refine hK _ _ ?_; clear hK) | (clear hK; refine hK _ ?_; clear hK) | (clear hK; clear hK; refine hK _ ?_; clear hK) | (clear hK; clear hK; clear hK; refine hK _ ?_; clear hK) | (clear hK; clear hK; clear hK; clear hK; refine hK _ ?_; clear hK) | (refine wSeq fun K hK => ?_) | ((first | refine wReg ?_ | refine wDrwQ rfl (by kernel_rfl) ?_ | refine wDrwI ?_ | refine wDrw (by kernel_rfl) ?_); simp only [List.map_cons, List.map_nil, strip]) | ((first | refine wIs fun K hK => ?_ | refine wOs fun K hK => ?_ | refine wQs fun K hK => ?_ | refine CallK_plain ?_ | refine CallQ_plain ?_ | refine CallR_plain ?_ | refine wCond ?_); simp [h, h2]) | (refine wIn ?_; refine And.intro (by kernel_rfl) ?_; try simp only [thenA_n]) | (first | refine wBlock ?_ | refine wScope ?_) | ((first | refine wRet ?_ | refine wExit ?_ | refine wSkip ?_); try simp) | ((first | refine wLabel ?_ | refine wOn ?_ | refine wQn ?_); try simp only [thenA_n])
  all_goals first | apply hn | apply hr
  all_goals refine ⟨[], by simp, by simp, ?_⟩
  all_goals simp [Try.f49, outR, outB, renB, gaN, lv, ouN, kpI, kpR, pos, ren, ren0, renC, renCs, renF, renFs]
def promP (p : Lp) (m : Mg) : Lp := { p with ac := m.ep, ep := m.ep, ph := 2, wt := 0 }
def promM (p : Lp) (m : Mg) : Mg := mgZ p.id p.ld 4 m.ep p.cu p.d (mks p.h)
set_option maxHeartbeats 4000000 in
theorem promise1_con (p : Lp) (m : Mg) (g : Bool) (hl : p.h.lg.length ≤ 1000) (h : owner m.ep = p.ld) (h2 : ¬ m.ep < p.ac) : Con Try.prog 49 [.ptr 1024 0, .p (.agg m.cells)] (sW p g) (.ret (.tup []) [.row 65 46 [(promM p m).cells]] (sW1 (promP p m) g)) := by
  have c1 := owner_con m.ep
  have c2 := marks_con p.h hl
  have c3 := send_con (promP p m) (mgZ 0 0 4 m.ep p.cu p.d (mks p.h)) g
  rw [show ({ mgZ 0 0 4 m.ep p.cu p.d (mks p.h) with fr := (promP p m).id, to := (promP p m).ld } : Mg) = promM p m from rfl] at c3
  generalize (promM p m).cells = mm at *
  generalize owner m.ep = o at *
  generalize mks p.h = M at *
  unfold promP at *
  unfold sW sW1 sBx mgZ Mg.cells at *
  unfold Hy.cells at c2
  dsimp only at c3 ⊢
  simp only [show zns [] = [] from rfl, show ints [] = [] from rfl, show mbs [] = [] from rfl, show txns [] = [] from rfl, show pts [] = [] from rfl] at c3
  refine wBodyG Try.tab Try.mixed Try.func49 rfl rfl Try.ntmps49 (by simp) (by simp) fun Q hr hn hp => ?_
  repeat' first | (refine CallE.pure (c1) rfl ?_) | (refine CallE.lent (c1) rfl ?_) | (refine CallF.pure (c1) rfl ?_) | (refine CallF.lent (c1) rfl ?_) | (refine CallE.own (c1) ?_) | (refine CallH.pure (c1) rfl ?_) | (refine CallH.lent (c1) rfl ?_) | (refine CallH.own (c1) ?_) | (refine wDrwT (id := 6) 20 (by kernel_rfl) ?_; simp only [List.map_cons, List.map_nil, strip, List.take_succ_cons, List.take_zero, List.drop_succ_cons, List.drop_zero]) | (refine CallE.pure (c2) rfl ?_) | (refine CallE.lent (c2) rfl ?_) | (refine CallF.pure (c2) rfl ?_) | (refine CallF.lent (c2) rfl ?_) | (refine CallE.own (c2) ?_) | (refine CallH.pure (c2) rfl ?_) | (refine CallH.lent (c2) rfl ?_) | (refine CallH.own (c2) ?_) | (refine CallK_gen [1024] (c3) (by decide) (by decide) (by simp [blksOf, inN, pos, renB, renC, renCs, ren0, lv, ouN, kpI, kpR]) (by simp [argsG, argG, ren0, inN, pos, renCs, renC]) ⟨[500], by simp, by simp, ?_⟩; simp [lv, ouN, kpI, kpR, pos, ren, ren0, renB, renC, renCs, renF, renFs]) | (refine hK _ ?_; clear hK) | (refine hK _ _ ?_; clear hK) | (clear hK; refine hK _ ?_; clear hK) | (clear hK; clear hK; refine hK _ ?_; clear hK) | (clear hK; clear hK; clear hK; refine hK _ ?_; clear hK) | (clear hK; clear hK; clear hK; clear hK; refine hK _ ?_; clear hK) | (refine wSeq fun K hK => ?_) | ((first | refine wReg ?_ | refine wDrwQ rfl (by kernel_rfl) ?_ | refine wDrwI ?_ | refine wDrw (by kernel_rfl) ?_); simp only [List.map_cons, List.map_nil, strip]) | ((first | refine wIs fun K hK => ?_ | refine wOs fun K hK => ?_ | refine wQs fun K hK => ?_ | refine CallK_plain ?_ | refine CallQ_plain ?_ | refine CallR_plain ?_ | refine wCond ?_); simp [h, h2, show ByteArray.empty = bs [] from rfl]) | (refine wIn ?_; refine And.intro (by kernel_rfl) ?_; try simp only [thenA_n]) | (first | refine wBlock ?_ | refine wScope ?_) | ((first | refine wRet ?_ | refine wExit ?_ | refine wSkip ?_); try simp) | ((first | refine wLabel ?_ | refine wOn ?_ | refine wQn ?_); try simp only [thenA_n])
  all_goals first | apply hn | apply hr
  all_goals refine ⟨[500], by simp, by simp, ?_⟩
  all_goals simp [Try.f49, outR, outB, renB, gaN, lv, ouN, kpI, kpR, pos, ren, ren0, renC, renCs, renF, renFs]
/-- The plan of a message. -/
def planOf (h : Hy) (m : Mg) : Hy × Int := doG h m.pk m.pz m.pim m.pl
structure OkM (m : Mg) : Prop where
  im : OkH ⟨m.pim, []⟩
  pl : m.pl.length ≤ 1000
  pp : ∀ x ∈ m.pl, x.ps.length ≤ 1000 ∧ ∀ p ∈ x.ps, p.c.ms.length ≤ 1000
  tx : m.tx.ps.length ≤ 1000 ∧ ∀ p ∈ m.tx.ps, p.c.ms.length ≤ 1000
theorem plan_con (h : Hy) (m : Mg) (hk : OkH h) (hm : OkM m) : ACon Try.prog 58 [.p (.agg [.sl 5 (zns h.im.ns), .sl 1 (ints h.im.ss), I h.im.nx, I h.im.c.ep, I h.im.c.n, I h.im.c.kind, .sl 4 (mbs h.im.c.ms), I h.im.ae, I h.im.an, .sl 8 (txns h.lg)]), .p (.agg [I m.pk, I m.pz.e, I m.pz.n, .sl 5 (zns m.pim.ns), .sl 1 (ints m.pim.ss), I m.pim.nx, I m.pim.c.ep, I m.pim.c.n, I m.pim.c.kind, .sl 4 (mbs m.pim.c.ms), I m.pim.ae, I m.pim.an, .sl 8 (txns m.pl)])] (.tup [.p (.agg (planOf h m).1.cells), .p (I (planOf h m).2)]) :=
  doG_con h m.pk m.pz m.pim m.pl hk hm.im hm.pl hm.pp
theorem syncG_con (p : Lp) (m : Mg) (g : Bool) (hk : OkH p.h) (hm : OkM m) (he : ¬ (planOf p.h m).2 = 0) : Con Try.prog 50 [.ptr 1024 0, .p (.agg m.cells)] (sW p g) (.ret (.tup []) [] (sW p true)) := by
  have c1 := plan_con p.h m hk hm
  generalize planOf p.h m = q at *
  obtain ⟨q1, q2⟩ := q
  simp only at he c1
  unfold Hy.cells at c1
  unfold sW sBx Mg.cells at *
  refine wBodyG Try.tab Try.mixed Try.func50 rfl rfl Try.ntmps50 (by simp) (by simp) fun Q hr hn hp => ?_
  repeat' first | (refine CallE.pure (c1) rfl ?_) | (refine CallE.lent (c1) rfl ?_) | (refine CallF.pure (c1) rfl ?_) | (refine CallF.lent (c1) rfl ?_) | (refine CallE.own (c1) ?_) | (refine CallH.pure (c1) rfl ?_) | (refine CallH.lent (c1) rfl ?_) | (refine CallH.own (c1) ?_) | (refine hK _ ?_; clear hK) | (refine hK _ _ ?_; clear hK) | (clear hK; refine hK _ ?_; clear hK) | (clear hK; clear hK; refine hK _ ?_; clear hK) | (clear hK; clear hK; clear hK; refine hK _ ?_; clear hK) | (clear hK; clear hK; clear hK; clear hK; refine hK _ ?_; clear hK) | (refine wSeq fun K hK => ?_) | ((first | refine wReg ?_ | refine wDrwQ rfl (by kernel_rfl) ?_ | refine wDrwI ?_ | refine wDrw (by kernel_rfl) ?_); simp only [List.map_cons, List.map_nil, strip]) | ((first | refine wIs fun K hK => ?_ | refine wOs fun K hK => ?_ | refine wQs fun K hK => ?_ | refine CallK_plain ?_ | refine CallQ_plain ?_ | refine CallR_plain ?_ | refine wCond ?_); simp [he]) | (refine wIn ?_; refine And.intro (by kernel_rfl) ?_; try simp only [thenA_n]) | (first | refine wBlock ?_ | refine wScope ?_) | ((first | refine wRet ?_ | refine wExit ?_ | refine wSkip ?_); try simp) | ((first | refine wLabel ?_ | refine wOn ?_ | refine wQn ?_); try simp only [thenA_n])
  all_goals first | apply hn | apply hr
  all_goals refine ⟨[], by simp, by simp, ?_⟩
  all_goals simp [Try.f50, outR, outB, renB, gaN, lv, ouN, kpI, kpR, pos, ren, ren0, renC, renCs, renF, renFs]
def doneZ (p : Lp) (h : Hy) : Zx := if p.d ∈ mks h then p.d else ⟨h.im.ae, h.im.an⟩
def syncP (p : Lp) (h : Hy) : Lp := { p with h := h, d := doneZ p h, ph := 3, wt := 0, cu := p.ep }
def syncM (p : Lp) (h : Hy) : Mg := mgZ p.id p.ld 6 p.ep 0 (lastH h) []
set_option maxHeartbeats 4000000 in
theorem sync1_con (p : Lp) (m : Mg) (g : Bool) (hk : OkH p.h) (hm : OkM m) (he : (planOf p.h m).2 = 0) (hq : (planOf p.h m).1.lg.length ≤ 1000) : Con Try.prog 50 [.ptr 1024 0, .p (.agg m.cells)] (sW p g) (.ret (.tup []) [.row 65 46 [(syncM p (planOf p.h m).1).cells]] (sW1 (syncP p (planOf p.h m).1) g)) := by
  have c1 := plan_con p.h m hk hm
  rw [he] at c1
  generalize (planOf p.h m).1 = q at *
  have c2 := marked_con { p with h := q } p.d g hq
  have c3 := base_con q
  have c4 := lastH_con q hq
  have c5 := send_con (syncP p q) (mgZ 0 0 6 p.ep 0 (lastH q) []) g
  rw [show ({ mgZ 0 0 6 p.ep 0 (lastH q) [] with fr := (syncP p q).id, to := (syncP p q).ld } : Mg) = syncM p q from rfl] at c5
  generalize (syncM p q).cells = mm at *
  generalize lastH q = z at *
  unfold syncP doneZ at *
  by_cases hd : p.d ∈ mks q
  · rw [show decide (p.d ∈ mks ({ p with h := q } : Lp).h) = true from decide_eq_true hd] at c2
    rw [if_pos hd] at c5 ⊢
    unfold sW sW1 sBx mgZ Mg.cells at *
    unfold Hy.cells at c1 c3 c4
    dsimp only at c2 c5 ⊢
    simp only [show zns [] = [] from rfl, show ints [] = [] from rfl, show mbs [] = [] from rfl, show txns [] = [] from rfl, show pts [] = [] from rfl, show zxs [] = [] from rfl] at c5
    refine wBodyG Try.tab Try.mixed Try.func50 rfl rfl Try.ntmps50 (by simp) (by simp) fun Q hr hn hp => ?_
    repeat' first | (refine CallE.pure (c1) rfl ?_) | (refine CallE.lent (c1) rfl ?_) | (refine CallF.pure (c1) rfl ?_) | (refine CallF.lent (c1) rfl ?_) | (refine CallE.own (c1) ?_) | (refine CallH.pure (c1) rfl ?_) | (refine CallH.lent (c1) rfl ?_) | (refine CallH.own (c1) ?_) | (refine CallK_gen [1024] (c2) (by decide) (by decide) (by simp [blksOf, inN, pos, renB, renC, renCs, ren0, lv, ouN, kpI, kpR]) (by simp [argsG, argG, ren0, inN, pos, renCs, renC]) ⟨[], by simp, by simp, ?_⟩; simp [lv, ouN, kpI, kpR, pos, ren, ren0, renB, renC, renCs, renF, renFs]) | (refine wDrwT (id := 8) 9 (by kernel_rfl) ?_; simp only [List.map_cons, List.map_nil, strip, List.take_succ_cons, List.take_zero, List.drop_succ_cons, List.drop_zero]) | (refine CallE.pure (c4) rfl ?_) | (refine CallE.lent (c4) rfl ?_) | (refine CallF.pure (c4) rfl ?_) | (refine CallF.lent (c4) rfl ?_) | (refine CallE.own (c4) ?_) | (refine CallH.pure (c4) rfl ?_) | (refine CallH.lent (c4) rfl ?_) | (refine CallH.own (c4) ?_) | (refine CallK_gen [1024] (c5) (by decide) (by decide) (by simp [blksOf, inN, pos, renB, renC, renCs, ren0, lv, ouN, kpI, kpR]) (by simp [argsG, argG, ren0, inN, pos, renCs, renC]) ⟨[500], by simp, by simp, ?_⟩; simp [lv, ouN, kpI, kpR, pos, ren, ren0, renB, renC, renCs, renF, renFs]) | (refine hK _ ?_; clear hK) | (refine hK _ _ ?_; clear hK) | (clear hK; refine hK _ ?_; clear hK) | (clear hK; clear hK; refine hK _ ?_; clear hK) | (clear hK; clear hK; clear hK; refine hK _ ?_; clear hK) | (clear hK; clear hK; clear hK; clear hK; refine hK _ ?_; clear hK) | (refine wSeq fun K hK => ?_) | ((first | refine wReg ?_ | refine wDrwQ rfl (by kernel_rfl) ?_ | refine wDrwI ?_ | refine wDrw (by kernel_rfl) ?_); simp only [List.map_cons, List.map_nil, strip]) | ((first | refine wIs fun K hK => ?_ | refine wOs fun K hK => ?_ | refine wQs fun K hK => ?_ | refine CallK_plain ?_ | refine CallQ_plain ?_ | refine CallR_plain ?_ | refine wCond ?_); simp [show ByteArray.empty = bs [] from rfl]) | (refine wIn ?_; refine And.intro (by kernel_rfl) ?_; try simp only [thenA_n]) | (first | refine wBlock ?_ | refine wScope ?_) | ((first | refine wRet ?_ | refine wExit ?_ | refine wSkip ?_); try simp) | ((first | refine wLabel ?_ | refine wOn ?_ | refine wQn ?_); try simp only [thenA_n])
    all_goals first | apply hn | apply hr
    all_goals refine ⟨[500], by simp, by simp, ?_⟩
    all_goals simp [Try.f50, outR, outB, renB, gaN, lv, ouN, kpI, kpR, pos, ren, ren0, renC, renCs, renF, renFs]
  · rw [show decide (p.d ∈ mks ({ p with h := q } : Lp).h) = false from decide_eq_false hd] at c2
    rw [if_neg hd] at c5 ⊢
    unfold sW sW1 sBx mgZ Mg.cells at *
    unfold Hy.cells at c1 c3 c4
    dsimp only at c2 c5 ⊢
    simp only [show zns [] = [] from rfl, show ints [] = [] from rfl, show mbs [] = [] from rfl, show txns [] = [] from rfl, show pts [] = [] from rfl, show zxs [] = [] from rfl] at c5
    refine wBodyG Try.tab Try.mixed Try.func50 rfl rfl Try.ntmps50 (by simp) (by simp) fun Q hr hn hp => ?_
    repeat' first | (refine CallE.pure (c1) rfl ?_) | (refine CallE.lent (c1) rfl ?_) | (refine CallF.pure (c1) rfl ?_) | (refine CallF.lent (c1) rfl ?_) | (refine CallE.own (c1) ?_) | (refine CallH.pure (c1) rfl ?_) | (refine CallH.lent (c1) rfl ?_) | (refine CallH.own (c1) ?_) | (refine CallK_gen [1024] (c2) (by decide) (by decide) (by simp [blksOf, inN, pos, renB, renC, renCs, ren0, lv, ouN, kpI, kpR]) (by simp [argsG, argG, ren0, inN, pos, renCs, renC]) ⟨[], by simp, by simp, ?_⟩; simp [lv, ouN, kpI, kpR, pos, ren, ren0, renB, renC, renCs, renF, renFs]) | (refine wDrwT (id := 8) 9 (by kernel_rfl) ?_; simp only [List.map_cons, List.map_nil, strip, List.take_succ_cons, List.take_zero, List.drop_succ_cons, List.drop_zero]) | (refine CallE.pure (c3) rfl ?_) | (refine CallE.lent (c3) rfl ?_) | (refine CallF.pure (c3) rfl ?_) | (refine CallF.lent (c3) rfl ?_) | (refine CallE.own (c3) ?_) | (refine CallH.pure (c3) rfl ?_) | (refine CallH.lent (c3) rfl ?_) | (refine CallH.own (c3) ?_) | (refine CallE.pure (c4) rfl ?_) | (refine CallE.lent (c4) rfl ?_) | (refine CallF.pure (c4) rfl ?_) | (refine CallF.lent (c4) rfl ?_) | (refine CallE.own (c4) ?_) | (refine CallH.pure (c4) rfl ?_) | (refine CallH.lent (c4) rfl ?_) | (refine CallH.own (c4) ?_) | (refine CallK_gen [1024] (c5) (by decide) (by decide) (by simp [blksOf, inN, pos, renB, renC, renCs, ren0, lv, ouN, kpI, kpR]) (by simp [argsG, argG, ren0, inN, pos, renCs, renC]) ⟨[500], by simp, by simp, ?_⟩; simp [lv, ouN, kpI, kpR, pos, ren, ren0, renB, renC, renCs, renF, renFs]) | (refine hK _ ?_; clear hK) | (refine hK _ _ ?_; clear hK) | (clear hK; refine hK _ ?_; clear hK) | (clear hK; clear hK; refine hK _ ?_; clear hK) | (clear hK; clear hK; clear hK; refine hK _ ?_; clear hK) | (clear hK; clear hK; clear hK; clear hK; refine hK _ ?_; clear hK) | (refine wSeq fun K hK => ?_) | ((first | refine wReg ?_ | refine wDrwQ rfl (by kernel_rfl) ?_ | refine wDrwI ?_ | refine wDrw (by kernel_rfl) ?_); simp only [List.map_cons, List.map_nil, strip]) | ((first | refine wIs fun K hK => ?_ | refine wOs fun K hK => ?_ | refine wQs fun K hK => ?_ | refine CallK_plain ?_ | refine CallQ_plain ?_ | refine CallR_plain ?_ | refine wCond ?_); simp [show ByteArray.empty = bs [] from rfl]) | (refine wIn ?_; refine And.intro (by kernel_rfl) ?_; try simp only [thenA_n]) | (first | refine wBlock ?_ | refine wScope ?_) | ((first | refine wRet ?_ | refine wExit ?_ | refine wSkip ?_); try simp) | ((first | refine wLabel ?_ | refine wOn ?_ | refine wQn ?_); try simp only [thenA_n])
    all_goals first | apply hn | apply hr
    all_goals refine ⟨[500], by simp, by simp, ?_⟩
    all_goals simp [Try.f50, outR, outB, renB, gaN, lv, ouN, kpI, kpR, pos, ren, ren0, renC, renCs, renF, renFs]
/- Learners: in new memory; begun, ended; what is done with which message. -/
theorem cloneV_con (l : List (List PV)) (hl : l.length ≤ 1000000) : RCon 68 [.p (.sl 7 l)] 41 7 l := by
  refine wBodyR Try.tab Try.mixed Try.func68 rfl rfl Try.ntmps68 rfl (by simp) (by simp) fun Q hr hn => ?_
  repeat' first | (refine wRetG [.row 2 41 7] ?_) | (refine And.intro (by omega) (Or.inl ?_)) | (refine And.intro ?_ (fun hnil => ?_)) | (refine hK _ ?_; clear hK) | (refine hK _ _ ?_; clear hK) | (clear hK; refine hK _ ?_; clear hK) | (clear hK; clear hK; refine hK _ ?_; clear hK) | (clear hK; clear hK; clear hK; refine hK _ ?_; clear hK) | (clear hK; clear hK; clear hK; clear hK; refine hK _ ?_; clear hK) | (refine wSeq fun K hK => ?_) | ((first | refine wReg ?_ | refine wDrwQ rfl (by kernel_rfl) ?_ | refine wDrwI ?_ | refine wDrw (by kernel_rfl) ?_); simp only [List.map_cons, List.map_nil, strip]) | ((first | refine wIs fun K hK => ?_ | refine wOs fun K hK => ?_ | refine wQs fun K hK => ?_ | refine CallK_plain ?_ | refine CallQ_plain ?_ | refine CallR_plain ?_ | refine wCond ?_); simp) | (refine wIn ?_; refine And.intro (by kernel_rfl) ?_; try simp only [thenA_n]) | (first | refine wBlock ?_ | refine wScope ?_) | ((first | refine wRet ?_ | refine wExit ?_ | refine wSkip ?_); try simp) | ((first | refine wLabel ?_ | refine wOn ?_ | refine wQn ?_); try simp only [thenA_n])
  · refine hr _ 7 (by simp) (by simp) (by omega)
  · subst hnil
    simp only [thenA_r]
    refine hr _ 2 (by simp) (by simp) (by omega)
theorem listL_con : ACon Try.prog 69 [.p (.sl 8 []), .p (.v (.func (.func 70) #[] #[]))] (.p (.sl 8 [])) := by
  refine wBody Try.tab Try.mixed Try.func69 rfl rfl Try.ntmps69 (by simp) (by simp) fun Q hr hn => ?_
  repeat' first | (refine hK _ ?_; clear hK) | (refine hK _ _ ?_; clear hK) | (clear hK; refine hK _ ?_; clear hK) | (clear hK; clear hK; refine hK _ ?_; clear hK) | (clear hK; clear hK; clear hK; refine hK _ ?_; clear hK) | (clear hK; clear hK; clear hK; clear hK; refine hK _ ?_; clear hK) | (refine wSeq fun K hK => ?_) | ((first | refine wReg ?_ | refine wDrwQ rfl (by kernel_rfl) ?_ | refine wDrwI ?_ | refine wDrw (by kernel_rfl) ?_); simp only [List.map_cons, List.map_nil, strip]) | ((first | refine wIs fun K hK => ?_ | refine wOs fun K hK => ?_ | refine wQs fun K hK => ?_ | refine CallK_plain ?_ | refine CallQ_plain ?_ | refine CallR_plain ?_ | refine wCond ?_); simp) | (refine wIn ?_; refine And.intro (by kernel_rfl) ?_; try simp only [thenA_n]) | (first | refine wBlock ?_ | refine wScope ?_) | ((first | refine wRet ?_ | refine wExit ?_ | refine wSkip ?_); try simp) | ((first | refine wLabel ?_ | refine wOn ?_ | refine wQn ?_); try simp only [thenA_n])
  all_goals apply hr
  all_goals simp [Try.f69]
def lpFc (p : Lp) (X : Fc) : List Fc := [.p (I p.id), .p (I p.ac), .p (I p.cu), .p (.sl 5 (zns p.h.im.ns)), .p (.sl 1 (ints p.h.im.ss)), .p (I p.h.im.nx), .p (I p.h.im.c.ep), .p (I p.h.im.c.n), .p (I p.h.im.c.kind), .p (.sl 4 (mbs p.h.im.c.ms)), .p (I p.h.im.ae), .p (I p.h.im.an), X, .p (I p.d.e), .p (I p.d.n), .p (I p.mo), .p (I 0), .p (I 0), .p (I 0), .p (I 0), .p (I 0), .p (I 0), .p (I 0), .p (I 0), .p (I 0), .p (I 0), .p (I 0), .p (I 0), .p (I 0), .p (I 0), .p (I 0), .p (I 0), .p (.sl 7 []), .p (I p.ld), .p (I p.ph), .p (I p.wt), .p (I p.ep), .p (.sl 8 [])]
set_option maxHeartbeats 1000000 in
theorem ownPeer_con (p : Lp) (hk : OkH p.h) : Con Try.prog 53 [.p (.agg p.cells)] [] (.ret (.ag (lpFc p (.row 2048))) [.row 58 8 (txns p.h.lg)] []) := by
  have c1 := ownHistR_con p.h hk
  have c2 := (cloneV_con [] (by simp)).toPure
  have c3 := listL_con
  unfold Hy.cells hyCells at c1
  unfold Lp.cells lpFc
  refine wBodyG Try.tab Try.mixed Try.func53 rfl rfl Try.ntmps53 (by simp) (by simp) fun Q hr hn hp => ?_
  repeat' first | (refine CallK_gen [] (c1) (by decide) (by decide) (by simp [blksOf]) (by simp [argsG, argG, ren0, inN, pos, renCs, renC, toP, toPF]) ⟨[500], by simp, by simp, ?_⟩; simp [lv, ouN, kpI, kpR, pos, ren, ren0, renB, renC, renCs, renF, renFs]) | (refine CallE.pure (c2) rfl ?_) | (refine CallE.lent (c2) rfl ?_) | (refine CallF.pure (c2) rfl ?_) | (refine CallF.lent (c2) rfl ?_) | (refine CallE.own (c2) ?_) | (refine CallH.pure (c2) rfl ?_) | (refine CallH.lent (c2) rfl ?_) | (refine CallH.own (c2) ?_) | (refine CallE.pure (c3) rfl ?_) | (refine CallE.lent (c3) rfl ?_) | (refine CallF.pure (c3) rfl ?_) | (refine CallF.lent (c3) rfl ?_) | (refine CallE.own (c3) ?_) | (refine CallH.pure (c3) rfl ?_) | (refine CallH.lent (c3) rfl ?_) | (refine CallH.own (c3) ?_) | (refine hK _ ?_; clear hK) | (refine hK _ _ ?_; clear hK) | (clear hK; refine hK _ ?_; clear hK) | (clear hK; clear hK; refine hK _ ?_; clear hK) | (clear hK; clear hK; clear hK; refine hK _ ?_; clear hK) | (clear hK; clear hK; clear hK; clear hK; refine hK _ ?_; clear hK) | (refine wSeq fun K hK => ?_) | ((first | refine wReg ?_ | refine wDrwQ rfl (by kernel_rfl) ?_ | refine wDrwI ?_ | refine wDrw (by kernel_rfl) ?_); simp only [List.map_cons, List.map_nil, strip]) | ((first | refine wIs fun K hK => ?_ | refine wOs fun K hK => ?_ | refine wQs fun K hK => ?_ | refine CallK_plain ?_ | refine CallQ_plain ?_ | refine CallR_plain ?_ | refine wCond ?_); simp [lv, ouN, kpI, kpR, pos, ren, ren0, renB, renC, renCs, renF, renFs]) | (refine wIn ?_; refine And.intro (by kernel_rfl) ?_; try simp only [thenA_n]) | (first | refine wBlock ?_ | refine wScope ?_) | ((first | refine wRet ?_ | refine wExit ?_ | refine wSkip ?_); try simp) | ((first | refine wLabel ?_ | refine wOn ?_ | refine wQn ?_); try simp only [thenA_n])
  all_goals first | apply hn | apply hr
  all_goals refine ⟨[500], by simp, by simp, ?_⟩
  all_goals simp [Try.f53, outR, outB, renB]
set_option maxHeartbeats 1000000 in
theorem leadOwn_con (p : Lp) (hk : OkH p.h) : Con Try.prog 42 [.p (.agg p.cells)] [] (.ret (.ag (lpFc p (.row 2048))) [.row 58 8 (txns p.h.lg)] []) := by
  have c1 := ownPeer_con p hk
  unfold Lp.cells lpFc at *
  refine wBodyG Try.tab Try.mixed Try.func42 rfl rfl Try.ntmps42 (by simp) (by simp) fun Q hr hn hp => ?_
  repeat' first | (refine CallK_gen [] (c1) (by decide) (by decide) (by simp [blksOf]) (by simp [argsG, argG, ren0, inN, pos, renCs, renC, toP, toPF]) ⟨[500], by simp, by simp, ?_⟩; simp [lv, ouN, kpI, kpR, pos, ren, ren0, renB, renC, renCs, renF, renFs]) | (refine hK _ ?_; clear hK) | (refine hK _ _ ?_; clear hK) | (clear hK; refine hK _ ?_; clear hK) | (clear hK; clear hK; refine hK _ ?_; clear hK) | (clear hK; clear hK; clear hK; refine hK _ ?_; clear hK) | (clear hK; clear hK; clear hK; clear hK; refine hK _ ?_; clear hK) | (refine wSeq fun K hK => ?_) | ((first | refine wReg ?_ | refine wDrwQ rfl (by kernel_rfl) ?_ | refine wDrwI ?_ | refine wDrw (by kernel_rfl) ?_); simp only [List.map_cons, List.map_nil, strip]) | ((first | refine wIs fun K hK => ?_ | refine wOs fun K hK => ?_ | refine wQs fun K hK => ?_ | refine CallK_plain ?_ | refine CallQ_plain ?_ | refine CallR_plain ?_ | refine wCond ?_); simp [lv, ouN, kpI, kpR, pos, ren, ren0, renB, renC, renCs, renF, renFs]) | (refine wIn ?_; refine And.intro (by kernel_rfl) ?_; try simp only [thenA_n]) | (first | refine wBlock ?_ | refine wScope ?_) | ((first | refine wRet ?_ | refine wExit ?_ | refine wSkip ?_); try simp) | ((first | refine wLabel ?_ | refine wOn ?_ | refine wQn ?_); try simp only [thenA_n])
  refine wLoop (fun N st => st.s 1 = .ptr 1 0 ∧ st.b 1 = some (.box 47 [.p (I p.id), .p (I p.ac), .p (I p.cu), .p (.sl 5 (zns p.h.im.ns)), .p (.sl 1 (ints p.h.im.ss)), .p (I p.h.im.nx), .p (I p.h.im.c.ep), .p (I p.h.im.c.n), .p (I p.h.im.c.kind), .p (.sl 4 (mbs p.h.im.c.ms)), .p (I p.h.im.ae), .p (I p.h.im.an), .row 500, .p (I p.d.e), .p (I p.d.n), .p (I p.mo), .p (I 0), .p (I 0), .p (I 0), .p (I 0), .p (I 0), .p (I 0), .p (I 0), .p (I 0), .p (I 0), .p (I 0), .p (I 0), .p (I 0), .p (I 0), .p (I 0), .p (I 0), .p (I 0), .p (.sl 7 []), .p (I p.ld), .p (I p.ph), .p (I p.wt), .p (I p.ep), .p (.sl 8 [])]) ∧ st.b 500 = some (.row 58 8 (txns p.h.lg)) ∧ st.s 2 = .ptr 2 0 ∧ st.b 2 = some (.box 47 [.p (I 0), .p (I 0), .p (I 0), .nil 5, .nil 1, .p (I 0), .p (I 0), .p (I 0), .p (I 0), .nil 4, .p (I 0), .p (I 0), .nil 8, .p (I 0), .p (I 0), .p (I 0), .p (I 0), .p (I 0), .p (I 0), .p (I 0), .p (I 0), .p (I 0), .p (I 0), .p (I 0), .p (I 0), .p (I 0), .p (I 0), .p (I 0), .p (I 0), .p (I 0), .p (I 0), .p (I 0), .nil 7, .p (I 0), .p (I 0), .p (I 0), .p (I 0), .nil 8]) ∧ st.s 11 = .p (.sl 8 []) ∧ st.s 12 = .p (I 0) ∧ st.s 13 = .p (I 0)) 0 (by simp [lv, ouN, kpI, kpR, pos, ren, ren0, renB, renC, renCs, renF, renFs]) fun K N st hL ⟨g1, b1, b500, g2, b2, g11, g12, g13⟩ => ?_
  repeat' first | (refine hK _ ?_; clear hK) | (refine hK _ _ ?_; clear hK) | (clear hK; refine hK _ ?_; clear hK) | (clear hK; clear hK; refine hK _ ?_; clear hK) | (clear hK; clear hK; clear hK; refine hK _ ?_; clear hK) | (clear hK; clear hK; clear hK; clear hK; refine hK _ ?_; clear hK) | (refine wSeq fun K hK => ?_) | ((first | refine wReg ?_ | refine wDrwQ rfl (by kernel_rfl) ?_ | refine wDrwI ?_ | refine wDrw (by kernel_rfl) ?_); simp only [List.map_cons, List.map_nil, strip]) | ((first | refine wIs fun K hK => ?_ | refine wOs fun K hK => ?_ | refine wQs fun K hK => ?_ | refine CallK_plain ?_ | refine CallQ_plain ?_ | refine CallR_plain ?_ | refine wCond ?_); simp [g1, b1, b500, g2, b2, g11, g12, g13]) | (refine wIn ?_; refine And.intro (by kernel_rfl) ?_; try simp only [thenA_n]) | (first | refine wBlock ?_ | refine wScope ?_) | ((first | refine wRet ?_ | refine wExit ?_ | refine wSkip ?_); try simp) | ((first | refine wLabel ?_ | refine wOn ?_ | refine wQn ?_); try simp only [thenA_n])
  all_goals first | apply hn | apply hr
  all_goals refine ⟨[500], by simp, by simp, ?_⟩
  all_goals simp [Try.f42, outR, outB, renB, g1, b1, b500, g2, b2]
/-- A row is frozen ahead of an operation, once another block is there. -/
theorem wFrzA [Glob] {P : Program} {T : TypeId → Option Ty} {N : Nat} {ops : Array Oper} {o : Oper} {rest : List Oper} {st : St} {K : St → Prop} {Z : Value → St → Prop} (b a : Nat) {e c : Nat} {X : List (List PV)} (ha : (st.b a).isSome = true) (hb : st.b b = some (.row e c X)) (h : WO P T N ops (o :: rest) (Av.frz st b c X) K Z) : WO P T N ops (o :: rest) st K Z := by
  refine wFrz [.frz b] ?_
  have e0 : frzL st [.frz b] = Av.frz st b c X := by simp only [frzL, gh1, hb]
  rw [e0]
  exact h
theorem startL_con (p : Lp) (hk : OkH p.h) : Con Try.prog 24 [.p (.agg p.cells)] [] (.ret (.ptr 2048 0) [.box 87 (sBx p (.nil 46) false)] []) := by
  have c1 := leadOwn_con p hk
  unfold sBx Lp.cells lpFc at *
  refine wBodyG Try.tab Try.mixed Try.func24 rfl rfl Try.ntmps24 (by simp) (by simp) fun Q hr hn hp => ?_
  repeat' first | (refine CallK_gen [] (c1) (by decide) (by decide) (by simp [blksOf]) (by simp [argsG, argG, ren0, inN, pos, renCs, renC, toP, toPF]) ⟨[500], by simp, by simp, ?_⟩; simp [lv, ouN, kpI, kpR, pos, ren, ren0, renB, renC, renCs, renF, renFs]) | (refine wFrzA 500 6 rfl rfl ?_; simp [frz, sub, sub0, subB]) | (refine hK _ ?_; clear hK) | (refine hK _ _ ?_; clear hK) | (clear hK; refine hK _ ?_; clear hK) | (clear hK; clear hK; refine hK _ ?_; clear hK) | (clear hK; clear hK; clear hK; refine hK _ ?_; clear hK) | (clear hK; clear hK; clear hK; clear hK; refine hK _ ?_; clear hK) | (refine wSeq fun K hK => ?_) | ((first | refine wReg ?_ | refine wDrwQ rfl (by kernel_rfl) ?_ | refine wDrwI ?_ | refine wDrw (by kernel_rfl) ?_); simp only [List.map_cons, List.map_nil, strip]) | ((first | refine wIs fun K hK => ?_ | refine wOs fun K hK => ?_ | refine wQs fun K hK => ?_ | refine CallK_plain ?_ | refine CallQ_plain ?_ | refine CallR_plain ?_ | refine wCond ?_); simp [lv, ouN, kpI, kpR, pos, ren, ren0, renB, renC, renCs, renF, renFs]) | (refine wIn ?_; refine And.intro (by kernel_rfl) ?_; try simp only [thenA_n]) | (first | refine wBlock ?_ | refine wScope ?_) | ((first | refine wRet ?_ | refine wExit ?_ | refine wSkip ?_); try simp) | ((first | refine wLabel ?_ | refine wOn ?_ | refine wQn ?_); try simp only [thenA_n])
  all_goals first | apply hn | apply hr
  all_goals refine ⟨[6], by simp, by simp, ?_⟩
  all_goals simp [Try.f24, outR, outB, renB, gaN]
theorem end0_con (p : Lp) (g : Bool) : Con Try.prog 26 [.ptr 1024 0] (sW p g) (.ret (.tup [.p (.agg p.cells), .p (.sl 46 []), .p (B (!g))]) [] (sW p g)) := by
  unfold sW sBx Lp.cells
  refine wBodyG Try.tab Try.mixed Try.func26 rfl rfl Try.ntmps26 (by simp) (by simp) fun Q hr hn hp => ?_
  repeat' first | (refine hK _ ?_; clear hK) | (refine hK _ _ ?_; clear hK) | (clear hK; refine hK _ ?_; clear hK) | (clear hK; clear hK; refine hK _ ?_; clear hK) | (clear hK; clear hK; clear hK; refine hK _ ?_; clear hK) | (clear hK; clear hK; clear hK; clear hK; refine hK _ ?_; clear hK) | (refine wSeq fun K hK => ?_) | ((first | refine wReg ?_ | refine wDrwQ rfl (by kernel_rfl) ?_ | refine wDrwI ?_ | refine wDrw (by kernel_rfl) ?_); simp only [List.map_cons, List.map_nil, strip]) | ((first | refine wIs fun K hK => ?_ | refine wOs fun K hK => ?_ | refine wQs fun K hK => ?_ | refine CallK_plain ?_ | refine CallQ_plain ?_ | refine CallR_plain ?_ | refine wCond ?_); simp) | (refine wIn ?_; refine And.intro (by kernel_rfl) ?_; try simp only [thenA_n]) | (first | refine wBlock ?_ | refine wScope ?_) | ((first | refine wRet ?_ | refine wExit ?_ | refine wSkip ?_); try simp) | ((first | refine wLabel ?_ | refine wOn ?_ | refine wQn ?_); try simp only [thenA_n])
  all_goals first | apply hn | apply hr
  all_goals refine ⟨[], by simp, by simp, ?_⟩
  all_goals simp [Try.f26, outR, outB, renB, gaN]
theorem end1_con (p : Lp) (g : Bool) (l : List (List PV)) : Con Try.prog 26 [.ptr 1024 0] [.box 87 (sBx p (.row 1025) g), .row 65 46 l] (.ret (.tup [.p (.agg p.cells), .row 1025, .p (B (!g))]) [] [.box 87 (sBx p (.row 1025) g), .row 65 46 l]) := by
  unfold sBx Lp.cells
  refine wBodyG Try.tab Try.mixed Try.func26 rfl rfl Try.ntmps26 (by simp) (by simp) fun Q hr hn hp => ?_
  repeat' first | (refine hK _ ?_; clear hK) | (refine hK _ _ ?_; clear hK) | (clear hK; refine hK _ ?_; clear hK) | (clear hK; clear hK; refine hK _ ?_; clear hK) | (clear hK; clear hK; clear hK; refine hK _ ?_; clear hK) | (clear hK; clear hK; clear hK; clear hK; refine hK _ ?_; clear hK) | (refine wSeq fun K hK => ?_) | ((first | refine wReg ?_ | refine wDrwQ rfl (by kernel_rfl) ?_ | refine wDrwI ?_ | refine wDrw (by kernel_rfl) ?_); simp only [List.map_cons, List.map_nil, strip]) | ((first | refine wIs fun K hK => ?_ | refine wOs fun K hK => ?_ | refine wQs fun K hK => ?_ | refine CallK_plain ?_ | refine CallQ_plain ?_ | refine CallR_plain ?_ | refine wCond ?_); simp) | (refine wIn ?_; refine And.intro (by kernel_rfl) ?_; try simp only [thenA_n]) | (first | refine wBlock ?_ | refine wScope ?_) | ((first | refine wRet ?_ | refine wExit ?_ | refine wSkip ?_); try simp) | ((first | refine wLabel ?_ | refine wOn ?_ | refine wQn ?_); try simp only [thenA_n])
  all_goals first | apply hn | apply hr
  all_goals refine ⟨[], by simp, by simp, ?_⟩
  all_goals simp [Try.f26, outR, outB, renB, gaN]
def followF (k : Int) : FuncId := if k = 8 then 62 else if k = 11 then 63 else if k = 7 then 64 else if k = 10 then 65 else if k = 12 then 66 else 52
theorem following_con (p : Lp) (g : Bool) (k : Int) : Con Try.prog 51 [.ptr 1024 0, .p (I k)] (sW p g) (.ret (.clo ⟨followF k, true⟩ [.box 1024]) [] (sW p g)) := by
  unfold followF sW sBx
  by_cases h0 : k = 8
  · subst h0
    simp only [reduceIte, show ((8 : Int) = 8) = True from eq_true rfl]
    refine wBodyG Try.tab Try.mixed Try.func51 rfl rfl Try.ntmps51 (by simp) (by simp) fun Q hr hn hp => ?_
    repeat' first | (refine hK _ ?_; clear hK) | (refine hK _ _ ?_; clear hK) | (clear hK; refine hK _ ?_; clear hK) | (clear hK; clear hK; refine hK _ ?_; clear hK) | (clear hK; clear hK; clear hK; refine hK _ ?_; clear hK) | (clear hK; clear hK; clear hK; clear hK; refine hK _ ?_; clear hK) | (refine wSeq fun K hK => ?_) | ((first | refine wReg ?_ | refine wDrwQ rfl (by kernel_rfl) ?_ | refine wDrwI ?_ | refine wDrw (by kernel_rfl) ?_); simp only [List.map_cons, List.map_nil, strip]) | ((first | refine wIs fun K hK => ?_ | refine wOs fun K hK => ?_ | refine wQs fun K hK => ?_ | refine CallK_plain ?_ | refine CallQ_plain ?_ | refine CallR_plain ?_ | refine wCond ?_); simp) | (refine wIn ?_; refine And.intro (by kernel_rfl) ?_; try simp only [thenA_n]) | (first | refine wBlock ?_ | refine wScope ?_) | ((first | refine wRet ?_ | refine wExit ?_ | refine wSkip ?_); try simp) | ((first | refine wLabel ?_ | refine wOn ?_ | refine wQn ?_); try simp only [thenA_n])
    all_goals first | apply hn | apply hr
    all_goals refine ⟨[], by simp, by simp, ?_⟩
    all_goals simp [Try.f51, outR, outB, renB, gaN, lv, ouN, kpI, kpR, pos, ren, ren0, renC, renCs, renF, renFs]
  by_cases h1 : k = 11
  · subst h1
    simp only [reduceIte, show ((11 : Int) = 11) = True from eq_true rfl, show ((11 : Int) = 8) = False from eq_false (by decide)]
    refine wBodyG Try.tab Try.mixed Try.func51 rfl rfl Try.ntmps51 (by simp) (by simp) fun Q hr hn hp => ?_
    repeat' first | (refine hK _ ?_; clear hK) | (refine hK _ _ ?_; clear hK) | (clear hK; refine hK _ ?_; clear hK) | (clear hK; clear hK; refine hK _ ?_; clear hK) | (clear hK; clear hK; clear hK; refine hK _ ?_; clear hK) | (clear hK; clear hK; clear hK; clear hK; refine hK _ ?_; clear hK) | (refine wSeq fun K hK => ?_) | ((first | refine wReg ?_ | refine wDrwQ rfl (by kernel_rfl) ?_ | refine wDrwI ?_ | refine wDrw (by kernel_rfl) ?_); simp only [List.map_cons, List.map_nil, strip]) | ((first | refine wIs fun K hK => ?_ | refine wOs fun K hK => ?_ | refine wQs fun K hK => ?_ | refine CallK_plain ?_ | refine CallQ_plain ?_ | refine CallR_plain ?_ | refine wCond ?_); simp) | (refine wIn ?_; refine And.intro (by kernel_rfl) ?_; try simp only [thenA_n]) | (first | refine wBlock ?_ | refine wScope ?_) | ((first | refine wRet ?_ | refine wExit ?_ | refine wSkip ?_); try simp) | ((first | refine wLabel ?_ | refine wOn ?_ | refine wQn ?_); try simp only [thenA_n])
    all_goals first | apply hn | apply hr
    all_goals refine ⟨[], by simp, by simp, ?_⟩
    all_goals simp [Try.f51, outR, outB, renB, gaN, lv, ouN, kpI, kpR, pos, ren, ren0, renC, renCs, renF, renFs]
  by_cases h2 : k = 7
  · subst h2
    simp only [reduceIte, show ((7 : Int) = 7) = True from eq_true rfl, show ((7 : Int) = 8) = False from eq_false (by decide), show ((7 : Int) = 11) = False from eq_false (by decide)]
    refine wBodyG Try.tab Try.mixed Try.func51 rfl rfl Try.ntmps51 (by simp) (by simp) fun Q hr hn hp => ?_
    repeat' first | (refine hK _ ?_; clear hK) | (refine hK _ _ ?_; clear hK) | (clear hK; refine hK _ ?_; clear hK) | (clear hK; clear hK; refine hK _ ?_; clear hK) | (clear hK; clear hK; clear hK; refine hK _ ?_; clear hK) | (clear hK; clear hK; clear hK; clear hK; refine hK _ ?_; clear hK) | (refine wSeq fun K hK => ?_) | ((first | refine wReg ?_ | refine wDrwQ rfl (by kernel_rfl) ?_ | refine wDrwI ?_ | refine wDrw (by kernel_rfl) ?_); simp only [List.map_cons, List.map_nil, strip]) | ((first | refine wIs fun K hK => ?_ | refine wOs fun K hK => ?_ | refine wQs fun K hK => ?_ | refine CallK_plain ?_ | refine CallQ_plain ?_ | refine CallR_plain ?_ | refine wCond ?_); simp) | (refine wIn ?_; refine And.intro (by kernel_rfl) ?_; try simp only [thenA_n]) | (first | refine wBlock ?_ | refine wScope ?_) | ((first | refine wRet ?_ | refine wExit ?_ | refine wSkip ?_); try simp) | ((first | refine wLabel ?_ | refine wOn ?_ | refine wQn ?_); try simp only [thenA_n])
    all_goals first | apply hn | apply hr
    all_goals refine ⟨[], by simp, by simp, ?_⟩
    all_goals simp [Try.f51, outR, outB, renB, gaN, lv, ouN, kpI, kpR, pos, ren, ren0, renC, renCs, renF, renFs]
  by_cases h3 : k = 10
  · subst h3
    simp only [reduceIte, show ((10 : Int) = 10) = True from eq_true rfl, show ((10 : Int) = 8) = False from eq_false (by decide), show ((10 : Int) = 11) = False from eq_false (by decide), show ((10 : Int) = 7) = False from eq_false (by decide)]
    refine wBodyG Try.tab Try.mixed Try.func51 rfl rfl Try.ntmps51 (by simp) (by simp) fun Q hr hn hp => ?_
    repeat' first | (refine hK _ ?_; clear hK) | (refine hK _ _ ?_; clear hK) | (clear hK; refine hK _ ?_; clear hK) | (clear hK; clear hK; refine hK _ ?_; clear hK) | (clear hK; clear hK; clear hK; refine hK _ ?_; clear hK) | (clear hK; clear hK; clear hK; clear hK; refine hK _ ?_; clear hK) | (refine wSeq fun K hK => ?_) | ((first | refine wReg ?_ | refine wDrwQ rfl (by kernel_rfl) ?_ | refine wDrwI ?_ | refine wDrw (by kernel_rfl) ?_); simp only [List.map_cons, List.map_nil, strip]) | ((first | refine wIs fun K hK => ?_ | refine wOs fun K hK => ?_ | refine wQs fun K hK => ?_ | refine CallK_plain ?_ | refine CallQ_plain ?_ | refine CallR_plain ?_ | refine wCond ?_); simp) | (refine wIn ?_; refine And.intro (by kernel_rfl) ?_; try simp only [thenA_n]) | (first | refine wBlock ?_ | refine wScope ?_) | ((first | refine wRet ?_ | refine wExit ?_ | refine wSkip ?_); try simp) | ((first | refine wLabel ?_ | refine wOn ?_ | refine wQn ?_); try simp only [thenA_n])
    all_goals first | apply hn | apply hr
    all_goals refine ⟨[], by simp, by simp, ?_⟩
    all_goals simp [Try.f51, outR, outB, renB, gaN, lv, ouN, kpI, kpR, pos, ren, ren0, renC, renCs, renF, renFs]
  by_cases h4 : k = 12
  · subst h4
    simp only [reduceIte, show ((12 : Int) = 12) = True from eq_true rfl, show ((12 : Int) = 8) = False from eq_false (by decide), show ((12 : Int) = 11) = False from eq_false (by decide), show ((12 : Int) = 7) = False from eq_false (by decide), show ((12 : Int) = 10) = False from eq_false (by decide)]
    refine wBodyG Try.tab Try.mixed Try.func51 rfl rfl Try.ntmps51 (by simp) (by simp) fun Q hr hn hp => ?_
    repeat' first | (refine hK _ ?_; clear hK) | (refine hK _ _ ?_; clear hK) | (clear hK; refine hK _ ?_; clear hK) | (clear hK; clear hK; refine hK _ ?_; clear hK) | (clear hK; clear hK; clear hK; refine hK _ ?_; clear hK) | (clear hK; clear hK; clear hK; clear hK; refine hK _ ?_; clear hK) | (refine wSeq fun K hK => ?_) | ((first | refine wReg ?_ | refine wDrwQ rfl (by kernel_rfl) ?_ | refine wDrwI ?_ | refine wDrw (by kernel_rfl) ?_); simp only [List.map_cons, List.map_nil, strip]) | ((first | refine wIs fun K hK => ?_ | refine wOs fun K hK => ?_ | refine wQs fun K hK => ?_ | refine CallK_plain ?_ | refine CallQ_plain ?_ | refine CallR_plain ?_ | refine wCond ?_); simp) | (refine wIn ?_; refine And.intro (by kernel_rfl) ?_; try simp only [thenA_n]) | (first | refine wBlock ?_ | refine wScope ?_) | ((first | refine wRet ?_ | refine wExit ?_ | refine wSkip ?_); try simp) | ((first | refine wLabel ?_ | refine wOn ?_ | refine wQn ?_); try simp only [thenA_n])
    all_goals first | apply hn | apply hr
    all_goals refine ⟨[], by simp, by simp, ?_⟩
    all_goals simp [Try.f51, outR, outB, renB, gaN, lv, ouN, kpI, kpR, pos, ren, ren0, renC, renCs, renF, renFs]
  simp only [if_neg h0, if_neg h1, if_neg h2, if_neg h3, if_neg h4]
  refine wBodyG Try.tab Try.mixed Try.func51 rfl rfl Try.ntmps51 (by simp) (by simp) fun Q hr hn hp => ?_
  repeat' first | (refine hK _ ?_; clear hK) | (refine hK _ _ ?_; clear hK) | (clear hK; refine hK _ ?_; clear hK) | (clear hK; clear hK; refine hK _ ?_; clear hK) | (clear hK; clear hK; clear hK; refine hK _ ?_; clear hK) | (clear hK; clear hK; clear hK; clear hK; refine hK _ ?_; clear hK) | (refine wSeq fun K hK => ?_) | ((first | refine wReg ?_ | refine wDrwQ rfl (by kernel_rfl) ?_ | refine wDrwI ?_ | refine wDrw (by kernel_rfl) ?_); simp only [List.map_cons, List.map_nil, strip]) | ((first | refine wIs fun K hK => ?_ | refine wOs fun K hK => ?_ | refine wQs fun K hK => ?_ | refine CallK_plain ?_ | refine CallQ_plain ?_ | refine CallR_plain ?_ | refine wCond ?_); simp [h0, h1, h2, h3, h4]) | (refine wIn ?_; refine And.intro (by kernel_rfl) ?_; try simp only [thenA_n]) | (first | refine wBlock ?_ | refine wScope ?_) | ((first | refine wRet ?_ | refine wExit ?_ | refine wSkip ?_); try simp) | ((first | refine wLabel ?_ | refine wOn ?_ | refine wQn ?_); try simp only [thenA_n])
  all_goals first | apply hn | apply hr
  all_goals refine ⟨[], by simp, by simp, ?_⟩
  all_goals simp [Try.f51, outR, outB, renB, gaN, lv, ouN, kpI, kpR, pos, ren, ren0, renC, renCs, renF, renFs]
def doingF (ph k : Int) : FuncId := if ph = 1 then (if k = 3 then 49 else 52) else if ph = 2 then (if k = 5 then 50 else 52) else if ph = 3 ∨ ph = 4 then followF k else 52
theorem doing_con (p : Lp) (g : Bool) (k : Int) : Con Try.prog 37 [.ptr 1024 0, .p (I k)] (sW p g) (.ret (.clo ⟨doingF p.ph k, true⟩ [.box 1024]) [] (sW p g)) := by
  have c1 := following_con p g k
  obtain ⟨id, ac, cu, h, d, mo, ld, ph, wt, ep⟩ := p
  unfold doingF
  unfold sW sBx at *
  dsimp only at *
  generalize followF k = F at *
  by_cases h1 : ph = 1
  · subst h1
    by_cases h2 : k = 3
    · subst h2
      simp only [reduceIte, show ((1 : Int) = 1) = True from eq_true rfl, show ((3 : Int) = 3) = True from eq_true rfl]
      refine wBodyG Try.tab Try.mixed Try.func37 rfl rfl Try.ntmps37 (by simp) (by simp) fun Q hr hn hp => ?_
      repeat' first | (refine hK _ ?_; clear hK) | (refine hK _ _ ?_; clear hK) | (clear hK; refine hK _ ?_; clear hK) | (clear hK; clear hK; refine hK _ ?_; clear hK) | (clear hK; clear hK; clear hK; refine hK _ ?_; clear hK) | (clear hK; clear hK; clear hK; clear hK; refine hK _ ?_; clear hK) | (refine wSeq fun K hK => ?_) | ((first | refine wReg ?_ | refine wDrwQ rfl (by kernel_rfl) ?_ | refine wDrwI ?_ | refine wDrw (by kernel_rfl) ?_); simp only [List.map_cons, List.map_nil, strip]) | ((first | refine wIs fun K hK => ?_ | refine wOs fun K hK => ?_ | refine wQs fun K hK => ?_ | refine CallK_plain ?_ | refine CallQ_plain ?_ | refine CallR_plain ?_ | refine wCond ?_); simp) | (refine wIn ?_; refine And.intro (by kernel_rfl) ?_; try simp only [thenA_n]) | (first | refine wBlock ?_ | refine wScope ?_) | ((first | refine wRet ?_ | refine wExit ?_ | refine wSkip ?_); try simp) | ((first | refine wLabel ?_ | refine wOn ?_ | refine wQn ?_); try simp only [thenA_n])
      all_goals first | apply hn | apply hr
      all_goals refine ⟨[], by simp, by simp, ?_⟩
      all_goals simp [Try.f37, outR, outB, renB, gaN, lv, ouN, kpI, kpR, pos, ren, ren0, renC, renCs, renF, renFs]
    · simp only [reduceIte, show ((1 : Int) = 1) = True from eq_true rfl, if_neg h2]
      refine wBodyG Try.tab Try.mixed Try.func37 rfl rfl Try.ntmps37 (by simp) (by simp) fun Q hr hn hp => ?_
      repeat' first | (refine hK _ ?_; clear hK) | (refine hK _ _ ?_; clear hK) | (clear hK; refine hK _ ?_; clear hK) | (clear hK; clear hK; refine hK _ ?_; clear hK) | (clear hK; clear hK; clear hK; refine hK _ ?_; clear hK) | (clear hK; clear hK; clear hK; clear hK; refine hK _ ?_; clear hK) | (refine wSeq fun K hK => ?_) | ((first | refine wReg ?_ | refine wDrwQ rfl (by kernel_rfl) ?_ | refine wDrwI ?_ | refine wDrw (by kernel_rfl) ?_); simp only [List.map_cons, List.map_nil, strip]) | ((first | refine wIs fun K hK => ?_ | refine wOs fun K hK => ?_ | refine wQs fun K hK => ?_ | refine CallK_plain ?_ | refine CallQ_plain ?_ | refine CallR_plain ?_ | refine wCond ?_); simp [h2]) | (refine wIn ?_; refine And.intro (by kernel_rfl) ?_; try simp only [thenA_n]) | (first | refine wBlock ?_ | refine wScope ?_) | ((first | refine wRet ?_ | refine wExit ?_ | refine wSkip ?_); try simp) | ((first | refine wLabel ?_ | refine wOn ?_ | refine wQn ?_); try simp only [thenA_n])
      all_goals first | apply hn | apply hr
      all_goals refine ⟨[], by simp, by simp, ?_⟩
      all_goals simp [Try.f37, outR, outB, renB, gaN, lv, ouN, kpI, kpR, pos, ren, ren0, renC, renCs, renF, renFs]
  by_cases h2 : ph = 2
  · subst h2
    by_cases h3 : k = 5
    · subst h3
      simp only [reduceIte, show ((2 : Int) = 1) = False from eq_false (by decide), show ((2 : Int) = 2) = True from eq_true rfl, show ((5 : Int) = 5) = True from eq_true rfl]
      refine wBodyG Try.tab Try.mixed Try.func37 rfl rfl Try.ntmps37 (by simp) (by simp) fun Q hr hn hp => ?_
      repeat' first | (refine hK _ ?_; clear hK) | (refine hK _ _ ?_; clear hK) | (clear hK; refine hK _ ?_; clear hK) | (clear hK; clear hK; refine hK _ ?_; clear hK) | (clear hK; clear hK; clear hK; refine hK _ ?_; clear hK) | (clear hK; clear hK; clear hK; clear hK; refine hK _ ?_; clear hK) | (refine wSeq fun K hK => ?_) | ((first | refine wReg ?_ | refine wDrwQ rfl (by kernel_rfl) ?_ | refine wDrwI ?_ | refine wDrw (by kernel_rfl) ?_); simp only [List.map_cons, List.map_nil, strip]) | ((first | refine wIs fun K hK => ?_ | refine wOs fun K hK => ?_ | refine wQs fun K hK => ?_ | refine CallK_plain ?_ | refine CallQ_plain ?_ | refine CallR_plain ?_ | refine wCond ?_); simp) | (refine wIn ?_; refine And.intro (by kernel_rfl) ?_; try simp only [thenA_n]) | (first | refine wBlock ?_ | refine wScope ?_) | ((first | refine wRet ?_ | refine wExit ?_ | refine wSkip ?_); try simp) | ((first | refine wLabel ?_ | refine wOn ?_ | refine wQn ?_); try simp only [thenA_n])
      all_goals first | apply hn | apply hr
      all_goals refine ⟨[], by simp, by simp, ?_⟩
      all_goals simp [Try.f37, outR, outB, renB, gaN, lv, ouN, kpI, kpR, pos, ren, ren0, renC, renCs, renF, renFs]
    · simp only [reduceIte, show ((2 : Int) = 1) = False from eq_false (by decide), show ((2 : Int) = 2) = True from eq_true rfl, if_neg h3]
      refine wBodyG Try.tab Try.mixed Try.func37 rfl rfl Try.ntmps37 (by simp) (by simp) fun Q hr hn hp => ?_
      repeat' first | (refine hK _ ?_; clear hK) | (refine hK _ _ ?_; clear hK) | (clear hK; refine hK _ ?_; clear hK) | (clear hK; clear hK; refine hK _ ?_; clear hK) | (clear hK; clear hK; clear hK; refine hK _ ?_; clear hK) | (clear hK; clear hK; clear hK; clear hK; refine hK _ ?_; clear hK) | (refine wSeq fun K hK => ?_) | ((first | refine wReg ?_ | refine wDrwQ rfl (by kernel_rfl) ?_ | refine wDrwI ?_ | refine wDrw (by kernel_rfl) ?_); simp only [List.map_cons, List.map_nil, strip]) | ((first | refine wIs fun K hK => ?_ | refine wOs fun K hK => ?_ | refine wQs fun K hK => ?_ | refine CallK_plain ?_ | refine CallQ_plain ?_ | refine CallR_plain ?_ | refine wCond ?_); simp [h3]) | (refine wIn ?_; refine And.intro (by kernel_rfl) ?_; try simp only [thenA_n]) | (first | refine wBlock ?_ | refine wScope ?_) | ((first | refine wRet ?_ | refine wExit ?_ | refine wSkip ?_); try simp) | ((first | refine wLabel ?_ | refine wOn ?_ | refine wQn ?_); try simp only [thenA_n])
      all_goals first | apply hn | apply hr
      all_goals refine ⟨[], by simp, by simp, ?_⟩
      all_goals simp [Try.f37, outR, outB, renB, gaN, lv, ouN, kpI, kpR, pos, ren, ren0, renC, renCs, renF, renFs]
  by_cases h3 : ph = 3
  · subst h3
    simp only [reduceIte, show ((3 : Int) = 1) = False from eq_false (by decide), show ((3 : Int) = 2) = False from eq_false (by decide), show ((3 : Int) = 3) = True from eq_true rfl, true_or]
    refine wBodyG Try.tab Try.mixed Try.func37 rfl rfl Try.ntmps37 (by simp) (by simp) fun Q hr hn hp => ?_
    repeat' first | (refine CallK_gen [1024] (c1) (by decide) (by decide) (by simp [blksOf, inN, pos, renB, renC, renCs, ren0, lv, ouN, kpI, kpR]) (by simp [argsG, argG, ren0, inN, pos, renCs, renC]) ⟨[], by simp, by simp, ?_⟩; simp [lv, ouN, kpI, kpR, pos, ren, ren0, renB, renC, renCs, renF, renFs]) | (refine hK _ ?_; clear hK) | (refine hK _ _ ?_; clear hK) | (clear hK; refine hK _ ?_; clear hK) | (clear hK; clear hK; refine hK _ ?_; clear hK) | (clear hK; clear hK; clear hK; refine hK _ ?_; clear hK) | (clear hK; clear hK; clear hK; clear hK; refine hK _ ?_; clear hK) | (refine wSeq fun K hK => ?_) | ((first | refine wReg ?_ | refine wDrwQ rfl (by kernel_rfl) ?_ | refine wDrwI ?_ | refine wDrw (by kernel_rfl) ?_); simp only [List.map_cons, List.map_nil, strip]) | ((first | refine wIs fun K hK => ?_ | refine wOs fun K hK => ?_ | refine wQs fun K hK => ?_ | refine CallK_plain ?_ | refine CallQ_plain ?_ | refine CallR_plain ?_ | refine wCond ?_); simp) | (refine wIn ?_; refine And.intro (by kernel_rfl) ?_; try simp only [thenA_n]) | (first | refine wBlock ?_ | refine wScope ?_) | ((first | refine wRet ?_ | refine wExit ?_ | refine wSkip ?_); try simp) | ((first | refine wLabel ?_ | refine wOn ?_ | refine wQn ?_); try simp only [thenA_n])
    all_goals first | apply hn | apply hr
    all_goals refine ⟨[], by simp, by simp, ?_⟩
    all_goals simp [Try.f37, outR, outB, renB, gaN, lv, ouN, kpI, kpR, pos, ren, ren0, renC, renCs, renF, renFs]
  by_cases h4 : ph = 4
  · subst h4
    simp only [reduceIte, show ((4 : Int) = 1) = False from eq_false (by decide), show ((4 : Int) = 2) = False from eq_false (by decide), show ((4 : Int) = 4) = True from eq_true rfl, or_true]
    refine wBodyG Try.tab Try.mixed Try.func37 rfl rfl Try.ntmps37 (by simp) (by simp) fun Q hr hn hp => ?_
    repeat' first | (refine CallK_gen [1024] (c1) (by decide) (by decide) (by simp [blksOf, inN, pos, renB, renC, renCs, ren0, lv, ouN, kpI, kpR]) (by simp [argsG, argG, ren0, inN, pos, renCs, renC]) ⟨[], by simp, by simp, ?_⟩; simp [lv, ouN, kpI, kpR, pos, ren, ren0, renB, renC, renCs, renF, renFs]) | (refine hK _ ?_; clear hK) | (refine hK _ _ ?_; clear hK) | (clear hK; refine hK _ ?_; clear hK) | (clear hK; clear hK; refine hK _ ?_; clear hK) | (clear hK; clear hK; clear hK; refine hK _ ?_; clear hK) | (clear hK; clear hK; clear hK; clear hK; refine hK _ ?_; clear hK) | (refine wSeq fun K hK => ?_) | ((first | refine wReg ?_ | refine wDrwQ rfl (by kernel_rfl) ?_ | refine wDrwI ?_ | refine wDrw (by kernel_rfl) ?_); simp only [List.map_cons, List.map_nil, strip]) | ((first | refine wIs fun K hK => ?_ | refine wOs fun K hK => ?_ | refine wQs fun K hK => ?_ | refine CallK_plain ?_ | refine CallQ_plain ?_ | refine CallR_plain ?_ | refine wCond ?_); simp) | (refine wIn ?_; refine And.intro (by kernel_rfl) ?_; try simp only [thenA_n]) | (first | refine wBlock ?_ | refine wScope ?_) | ((first | refine wRet ?_ | refine wExit ?_ | refine wSkip ?_); try simp) | ((first | refine wLabel ?_ | refine wOn ?_ | refine wQn ?_); try simp only [thenA_n])
    all_goals first | apply hn | apply hr
    all_goals refine ⟨[], by simp, by simp, ?_⟩
    all_goals simp [Try.f37, outR, outB, renB, gaN, lv, ouN, kpI, kpR, pos, ren, ren0, renC, renCs, renF, renFs]
  rw [if_neg h1, if_neg h2, if_neg (by omega)]
  refine wBodyG Try.tab Try.mixed Try.func37 rfl rfl Try.ntmps37 (by simp) (by simp) fun Q hr hn hp => ?_
  repeat' first | (refine hK _ ?_; clear hK) | (refine hK _ _ ?_; clear hK) | (clear hK; refine hK _ ?_; clear hK) | (clear hK; clear hK; refine hK _ ?_; clear hK) | (clear hK; clear hK; clear hK; refine hK _ ?_; clear hK) | (clear hK; clear hK; clear hK; clear hK; refine hK _ ?_; clear hK) | (refine wSeq fun K hK => ?_) | ((first | refine wReg ?_ | refine wDrwQ rfl (by kernel_rfl) ?_ | refine wDrwI ?_ | refine wDrw (by kernel_rfl) ?_); simp only [List.map_cons, List.map_nil, strip]) | ((first | refine wIs fun K hK => ?_ | refine wOs fun K hK => ?_ | refine wQs fun K hK => ?_ | refine CallK_plain ?_ | refine CallQ_plain ?_ | refine CallR_plain ?_ | refine wCond ?_); simp [h1, h2, h3, h4]) | (refine wIn ?_; refine And.intro (by kernel_rfl) ?_; try simp only [thenA_n]) | (first | refine wBlock ?_ | refine wScope ?_) | ((first | refine wRet ?_ | refine wExit ?_ | refine wSkip ?_); try simp) | ((first | refine wLabel ?_ | refine wOn ?_ | refine wQn ?_); try simp only [thenA_n])
  all_goals first | apply hn | apply hr
  all_goals refine ⟨[], by simp, by simp, ?_⟩
  all_goals simp [Try.f37, outR, outB, renB, gaN, lv, ouN, kpI, kpR, pos, ren, ren0, renC, renCs, renF, renFs]
end Go.Proofs.Yteicecbjahhjmaa
