/- Texts that the proof needs: RG6 RG6a RG6b. -/
import Derived.Test.YtleejpddecjhcaaP20RecordOne
/- Records read: numbers, texts, flags. -/
namespace Go.Proofs.Ytleejpddecjhcaa
set_option linter.unusedSimpArgs false
set_option linter.unusedVariables false
set_option maxRecDepth 8000
open Go Go.Av
attribute [local simp] Try.T1 Try.T2 Try.T3 Try.T4 Try.T5 Try.T9 Try.T12 Try.T15 Try.T16 Try.T17 Try.T21 Try.T22 Try.T24 Try.T25 Try.T26 Try.T28 Try.T29 Try.T30 Try.T31 Try.T33 Try.T35 Try.T36 Try.T37 Try.T38 Try.T39 Try.T40 Try.T41 Try.T42 Try.T43 Try.T44 Try.T45 Try.T47 Try.T48 Try.T50 Try.T51 Try.T53 Try.T55 Try.T57 Try.T58 Try.T59 Try.T60 Try.T61 Try.T63 Try.T64 Try.T66 Try.T67 Try.T69 Try.T70 Try.T71 Try.T73 Try.T75 Try.T76 Try.T78 Try.T80 Try.T82 Try.T83 Try.T84 Try.T85 Try.T86 Try.T87 Try.T88 Try.T89 Try.T90 Try.T91 Try.T92 Try.T93 Try.T94 Try.T95 Try.T96 Try.T97 Try.T98 Try.T99 Try.T100 Try.T101 Try.T102 Try.T103 Try.T104 Try.T105 Try.T106 Try.T107 Try.T108 Try.T109 Try.T111 Try.T112 Try.T113 Try.T114 Try.T115 Try.T116 Try.T117 Try.T119 Try.T120 Try.T121 Try.T122 Try.T123 Try.T124 Try.T125 Try.T126 Try.T127 Try.T128 Try.T129 Try.T130 Try.T131 Try.T132 Try.T133 Try.T134 Try.T136 Try.T137 Try.T138 Try.T139 Try.T140 Try.T141 Try.T142 Try.T143 Try.T144 Try.T145 Try.T146 Try.T147 Try.T148 Try.T149 Try.T150 Try.T151 Try.T152 Try.T153 Try.T154 Try.T155 Try.T156 Try.T157 Try.T158 Try.T160 Try.T161 Try.T162 Try.T163 Try.T164 Try.T165 Try.T166 Try.T167 Try.T168 Try.T169 Try.T170 Try.T171 Try.T172 Try.T173 Try.T174 Try.T175 Try.T176 Try.T177 Try.T178 Try.T179 Try.T180 Try.T181 Try.T182 Try.T183 Try.T184 Try.T185 Try.T186 Try.T187 Try.T188 Try.T189 Try.T190 Try.T191 Try.T192 Try.T194 Try.T195 Try.T197 Try.T198 Try.T199 Try.T200 Try.T201 Try.T202 Try.T203 Try.T205 Try.T206 Try.T209 Try.T212 Try.T215 Try.T216
attribute [local irreducible] Go.Av.CallK Go.Av.CallE Go.Av.CallQ Go.Av.CallF Go.Av.CallR Go.Av.CallH Go.Av.Con
theorem give0_con : ACon Try.prog 130 [.p (I 0)] (.tup []) := by
  refine wBody Try.tab Try.mixed Try.func130 rfl rfl Try.ntmps130 (by simp) (by simp) fun Q hr hn => ?_
  repeat' first | (refine hK _ ?_; clear hK) | (refine hK _ _ ?_; clear hK) | (clear hK; refine hK _ ?_; clear hK) | (clear hK; clear hK; refine hK _ ?_; clear hK) | (clear hK; clear hK; clear hK; refine hK _ ?_; clear hK) | (clear hK; clear hK; clear hK; clear hK; refine hK _ ?_; clear hK) | (refine wSeq fun K hK => ?_) | ((first | refine wReg ?_ | refine wDrwQ rfl (by kernel_rfl) ?_ | refine wDrwI ?_ | refine wDrw (by kernel_rfl) ?_); simp only [List.map_cons, List.map_nil, strip]) | ((first | refine wIs fun K hK => ?_ | refine wOs fun K hK => ?_ | refine wQs fun K hK => ?_ | refine CallK_plain ?_ | refine CallQ_plain ?_ | refine CallR_plain ?_ | refine wCond ?_); simp) | (refine wIn ?_; refine And.intro (by kernel_rfl) ?_; try simp only [thenA_n]) | (first | refine wBlock ?_ | refine wScope ?_) | ((first | refine wRet ?_ | refine wExit ?_ | refine wSkip ?_); try simp) | ((first | refine wLabel ?_ | refine wOn ?_ | refine wQn ?_); try simp only [thenA_n])
  all_goals first | apply hn | apply hr
  all_goals simp [Try.f130]
/-- The reader at a place. -/
abbrev rB (b : List UInt8) (a : Int) : List Blk := [.box 160 [.p (.sl 1 (by8 b)), .p (I a)]]
/-- What reading comes to: a value, or it gives up. -/
def rO (b : List UInt8) (v : V) (st : RS) : Out := if st.1 = 0 then .ret v [] (rB b st.2) else .pan (.iface 192 (.int .i64 st.1)) (rB b st.2)
theorem rO_ok (b : List UInt8) (v : V) (a : Int) : rO b v (0, a) = .ret v [] (rB b a) := rfl
theorem rO_err (b : List UInt8) (v : V) {e : Int} (a : Int) (h : ¬ e = 0) : rO b v (e, a) = .pan (.iface 192 (.int .i64 e)) (rB b a) := by unfold rO; rw [if_neg h]
abbrev RCn (g : FuncId) (f : Fo) : Prop := ∀ (b : List UInt8) (a : Int), b.length ≤ 1000000000 → Con Try.prog g [.ptr 1024 0] (rB b a) (rO b (vOf (f.rd b (0, a)).1) (f.rd b (0, a)).2)
theorem rnum : RCn 96 foI := by
  intro b a hb
  show Con _ _ _ _ (rO b (.p (I (rdN b (0, a)).1)) (rdN b (0, a)).2)
  have c := int_con b a hb
  rw [intT_eq] at c
  unfold rdN
  rw [if_pos rfl]
  simp only
  generalize intP b a = r at *
  obtain ⟨n, k, e⟩ := r
  simp only at c ⊢
  have c0 := give0_con
  by_cases h : e = 0
  · subst h
    rw [if_pos rfl, rO_ok]
    refine wBodyG Try.tab Try.mixed Try.func96 rfl rfl Try.ntmps96 (by simp) (by simp) fun Q hr hn hp => ?_
    repeat' first | (refine hK _ ?_; clear hK) | (refine hK _ _ ?_; clear hK) | (clear hK; refine hK _ ?_; clear hK) | (clear hK; clear hK; refine hK _ ?_; clear hK) | (clear hK; clear hK; clear hK; refine hK _ ?_; clear hK) | (clear hK; clear hK; clear hK; clear hK; refine hK _ ?_; clear hK) | (refine wSeq fun K hK => ?_) | ((first | refine wReg ?_ | refine wDrwQ rfl (by kernel_rfl) ?_ | refine wDrwI ?_ | refine wDrw (by kernel_rfl) ?_); simp only [List.map_cons, List.map_nil, strip]) | ((first | refine wIs fun K hK => ?_ | refine wOs fun K hK => ?_ | refine wQs fun K hK => ?_ | refine CallK_plain ?_ | refine CallQ_plain ?_ | refine CallR_plain ?_ | refine wCond ?_); simp) | (refine wIn ?_; refine And.intro (by kernel_rfl) ?_; try simp only [thenA_n]) | (first | refine wBlock ?_ | refine wScope ?_) | ((first | refine wRet ?_ | refine wExit ?_ | refine wSkip ?_); try simp) | ((first | refine wLabel ?_ | refine wOn ?_ | refine wQn ?_); try simp only [thenA_n]) | (refine CallE.pure (c) rfl ?_) | (refine CallE.lent (c) rfl ?_) | (refine CallF.pure (c) rfl ?_) | (refine CallF.lent (c) rfl ?_) | (refine CallE.own (c) ?_) | (refine CallH.pure (c) rfl ?_) | (refine CallH.lent (c) rfl ?_) | (refine CallH.own (c) ?_) | (refine CallE.pure (c0) rfl ?_) | (refine CallE.lent (c0) rfl ?_) | (refine CallF.pure (c0) rfl ?_) | (refine CallF.lent (c0) rfl ?_) | (refine CallE.own (c0) ?_) | (refine CallH.pure (c0) rfl ?_) | (refine CallH.lent (c0) rfl ?_) | (refine CallH.own (c0) ?_)
    all_goals first | apply hr
    all_goals refine ⟨[], by simp, by simp, ?_⟩
    all_goals simp [Try.f96, outR, outB, renB, gaN]
  · rw [if_neg h, rO_err _ _ _ h]
    have c1 := give_con e h
    refine wBodyG Try.tab Try.mixed Try.func96 rfl rfl Try.ntmps96 (by simp) (by simp) fun Q hr hn hp => ?_
    repeat' first | (refine CallE.pan c1 ?_) | (refine hK _ ?_; clear hK) | (refine hK _ _ ?_; clear hK) | (clear hK; refine hK _ ?_; clear hK) | (clear hK; clear hK; refine hK _ ?_; clear hK) | (clear hK; clear hK; clear hK; refine hK _ ?_; clear hK) | (clear hK; clear hK; clear hK; clear hK; refine hK _ ?_; clear hK) | (refine wSeq fun K hK => ?_) | ((first | refine wReg ?_ | refine wDrwQ rfl (by kernel_rfl) ?_ | refine wDrwI ?_ | refine wDrw (by kernel_rfl) ?_); simp only [List.map_cons, List.map_nil, strip]) | ((first | refine wIs fun K hK => ?_ | refine wOs fun K hK => ?_ | refine wQs fun K hK => ?_ | refine CallK_plain ?_ | refine CallQ_plain ?_ | refine CallR_plain ?_ | refine wCond ?_); simp [h]) | (refine wIn ?_; refine And.intro (by kernel_rfl) ?_; try simp only [thenA_n]) | (first | refine wBlock ?_ | refine wScope ?_) | ((first | refine wRet ?_ | refine wExit ?_ | refine wSkip ?_); try simp) | ((first | refine wLabel ?_ | refine wOn ?_ | refine wQn ?_); try simp only [thenA_n]) | (refine CallE.pure (c) rfl ?_) | (refine CallE.lent (c) rfl ?_) | (refine CallF.pure (c) rfl ?_) | (refine CallF.lent (c) rfl ?_) | (refine CallE.own (c) ?_) | (refine CallH.pure (c) rfl ?_) | (refine CallH.lent (c) rfl ?_) | (refine CallH.own (c) ?_)
    all_goals try simp only [thenA_p, blockA_p]
    all_goals apply hp
    all_goals simp [AResP, outB, renB, gaN]
theorem rtext : RCn 103 foS := by
  intro b a hb
  show Con _ _ _ _ (rO b (.p (SB (rdS b (0, a)).1)) (rdS b (0, a)).2)
  have c := text_all b a hb
  rw [textT_eq] at c
  unfold rdS
  rw [if_pos rfl]
  simp only
  generalize textP b a = r at *
  obtain ⟨n, k, e⟩ := r
  simp only at c ⊢
  have c0 := give0_con
  by_cases h : e = 0
  · subst h
    rw [if_pos rfl, rO_ok]
    refine wBodyG Try.tab Try.mixed Try.func103 rfl rfl Try.ntmps103 (by simp) (by simp) fun Q hr hn hp => ?_
    repeat' first | (refine hK _ ?_; clear hK) | (refine hK _ _ ?_; clear hK) | (clear hK; refine hK _ ?_; clear hK) | (clear hK; clear hK; refine hK _ ?_; clear hK) | (clear hK; clear hK; clear hK; refine hK _ ?_; clear hK) | (clear hK; clear hK; clear hK; clear hK; refine hK _ ?_; clear hK) | (refine wSeq fun K hK => ?_) | ((first | refine wReg ?_ | refine wDrwQ rfl (by kernel_rfl) ?_ | refine wDrwI ?_ | refine wDrw (by kernel_rfl) ?_); simp only [List.map_cons, List.map_nil, strip]) | ((first | refine wIs fun K hK => ?_ | refine wOs fun K hK => ?_ | refine wQs fun K hK => ?_ | refine CallK_plain ?_ | refine CallQ_plain ?_ | refine CallR_plain ?_ | refine wCond ?_); simp) | (refine wIn ?_; refine And.intro (by kernel_rfl) ?_; try simp only [thenA_n]) | (first | refine wBlock ?_ | refine wScope ?_) | ((first | refine wRet ?_ | refine wExit ?_ | refine wSkip ?_); try simp) | ((first | refine wLabel ?_ | refine wOn ?_ | refine wQn ?_); try simp only [thenA_n]) | (refine CallE.pure (c) rfl ?_) | (refine CallE.lent (c) rfl ?_) | (refine CallF.pure (c) rfl ?_) | (refine CallF.lent (c) rfl ?_) | (refine CallE.own (c) ?_) | (refine CallH.pure (c) rfl ?_) | (refine CallH.lent (c) rfl ?_) | (refine CallH.own (c) ?_) | (refine CallE.pure (c0) rfl ?_) | (refine CallE.lent (c0) rfl ?_) | (refine CallF.pure (c0) rfl ?_) | (refine CallF.lent (c0) rfl ?_) | (refine CallE.own (c0) ?_) | (refine CallH.pure (c0) rfl ?_) | (refine CallH.lent (c0) rfl ?_) | (refine CallH.own (c0) ?_)
    all_goals first | apply hr
    all_goals refine ⟨[], by simp, by simp, ?_⟩
    all_goals simp [Try.f103, outR, outB, renB, gaN]
  · rw [if_neg h, rO_err _ _ _ h]
    have c1 := give_con e h
    refine wBodyG Try.tab Try.mixed Try.func103 rfl rfl Try.ntmps103 (by simp) (by simp) fun Q hr hn hp => ?_
    repeat' first | (refine CallE.pan c1 ?_) | (refine hK _ ?_; clear hK) | (refine hK _ _ ?_; clear hK) | (clear hK; refine hK _ ?_; clear hK) | (clear hK; clear hK; refine hK _ ?_; clear hK) | (clear hK; clear hK; clear hK; refine hK _ ?_; clear hK) | (clear hK; clear hK; clear hK; clear hK; refine hK _ ?_; clear hK) | (refine wSeq fun K hK => ?_) | ((first | refine wReg ?_ | refine wDrwQ rfl (by kernel_rfl) ?_ | refine wDrwI ?_ | refine wDrw (by kernel_rfl) ?_); simp only [List.map_cons, List.map_nil, strip]) | ((first | refine wIs fun K hK => ?_ | refine wOs fun K hK => ?_ | refine wQs fun K hK => ?_ | refine CallK_plain ?_ | refine CallQ_plain ?_ | refine CallR_plain ?_ | refine wCond ?_); simp [h]) | (refine wIn ?_; refine And.intro (by kernel_rfl) ?_; try simp only [thenA_n]) | (first | refine wBlock ?_ | refine wScope ?_) | ((first | refine wRet ?_ | refine wExit ?_ | refine wSkip ?_); try simp) | ((first | refine wLabel ?_ | refine wOn ?_ | refine wQn ?_); try simp only [thenA_n]) | (refine CallE.pure (c) rfl ?_) | (refine CallE.lent (c) rfl ?_) | (refine CallF.pure (c) rfl ?_) | (refine CallF.lent (c) rfl ?_) | (refine CallE.own (c) ?_) | (refine CallH.pure (c) rfl ?_) | (refine CallH.lent (c) rfl ?_) | (refine CallH.own (c) ?_)
    all_goals try simp only [thenA_p, blockA_p]
    all_goals apply hp
    all_goals simp [AResP, outB, renB, gaN]
theorem rflag : RCn 138 foB := by
  intro b a hb
  show Con _ _ _ _ (rO b (.p (B (rdB b (0, a)).1)) (rdB b (0, a)).2)
  have c := rnum b a hb
  change Con _ _ _ _ (rO b (.p (I (rdN b (0, a)).1)) (rdN b (0, a)).2) at c
  unfold rdB
  generalize rdN b (0, a) = r at *
  obtain ⟨n, e, k⟩ := r
  simp only at c ⊢
  by_cases h : e = 0
  rotate_left
  · rw [if_neg (by simp [h]), rO_err _ _ _ h]
    rw [rO_err _ _ _ h] at c
    refine wBodyG Try.tab Try.mixed Try.func138 rfl rfl Try.ntmps138 (by simp) (by simp) fun Q hr hn hp => ?_
    repeat' first | (refine CallK_gen [1024] c (by decide) (by decide) (by simp [blksOf, inN, pos, renB, ren0]) (by simp [argsG, argG, ren0, inN, pos, renCs, renC]) ?_; simp [GenK, lv, ouN, kpI, kpR, pos, ren, ren0, renB, renC, renCs]) | (refine hK _ ?_; clear hK) | (refine hK _ _ ?_; clear hK) | (clear hK; refine hK _ ?_; clear hK) | (clear hK; clear hK; refine hK _ ?_; clear hK) | (clear hK; clear hK; clear hK; refine hK _ ?_; clear hK) | (clear hK; clear hK; clear hK; clear hK; refine hK _ ?_; clear hK) | (refine wSeq fun K hK => ?_) | ((first | refine wReg ?_ | refine wDrwQ rfl (by kernel_rfl) ?_ | refine wDrwI ?_ | refine wDrw (by kernel_rfl) ?_); simp only [List.map_cons, List.map_nil, strip]) | ((first | refine wIs fun K hK => ?_ | refine wOs fun K hK => ?_ | refine wQs fun K hK => ?_ | refine CallK_plain ?_ | refine CallQ_plain ?_ | refine CallR_plain ?_ | refine wCond ?_); simp [lv, ouN, kpI, kpR, pos, ren, ren0, renB, renC, renCs]) | (refine wIn ?_; refine And.intro (by kernel_rfl) ?_; try simp only [thenA_n]) | (first | refine wBlock ?_ | refine wScope ?_) | ((first | refine wRet ?_ | refine wExit ?_ | refine wSkip ?_); try simp) | ((first | refine wLabel ?_ | refine wOn ?_ | refine wQn ?_); try simp only [thenA_n])
    all_goals try simp only [thenA_p, blockA_p]
    all_goals apply hp
    all_goals simp [AResP, outB, renB, gaN, lv, ouN, kpI, kpR, pos, ren, ren0, renC, renCs]
  subst h
  rw [rO_ok] at c
  have e3 := give_con 3 (by decide)
  by_cases h0 : n = 0
  · have h0' : (n = 0) = True := eq_true h0
    have h1' : (n = 1) = False := eq_false (by omega)
    rw [if_neg (by simp [h0]), rO_ok, show decide (n = 1) = false from decide_eq_false (by omega)]
    clear h0
    refine wBodyG Try.tab Try.mixed Try.func138 rfl rfl Try.ntmps138 (by simp) (by simp) fun Q hr hn hp => ?_
    repeat' first | (refine CallK_gen [1024] (c) (by decide) (by decide) (by simp [blksOf, inN, pos, renB, renC, renCs, ren0, lv, ouN, kpI, kpR]) (by simp [argsG, argG, ren0, inN, pos, renCs, renC]) ⟨[], by simp, by simp, ?_⟩; simp [lv, ouN, kpI, kpR, pos, ren, ren0, renB, renC, renCs, renF, renFs]) | (refine hK _ ?_; clear hK) | (refine hK _ _ ?_; clear hK) | (clear hK; refine hK _ ?_; clear hK) | (clear hK; clear hK; refine hK _ ?_; clear hK) | (clear hK; clear hK; clear hK; refine hK _ ?_; clear hK) | (clear hK; clear hK; clear hK; clear hK; refine hK _ ?_; clear hK) | (refine wSeq fun K hK => ?_) | ((first | refine wReg ?_ | refine wDrwQ rfl (by kernel_rfl) ?_ | refine wDrwI ?_ | refine wDrw (by kernel_rfl) ?_); simp only [List.map_cons, List.map_nil, strip]) | ((first | refine wIs fun K hK => ?_ | refine wOs fun K hK => ?_ | refine wQs fun K hK => ?_ | refine CallK_plain ?_ | refine CallQ_plain ?_ | refine CallR_plain ?_ | refine wCond ?_); simp [h0', h1', lv, ouN, kpI, kpR, pos, ren, ren0, renB, renC, renCs]) | (refine wIn ?_; refine And.intro (by kernel_rfl) ?_; try simp only [thenA_n]) | (first | refine wBlock ?_ | refine wScope ?_) | ((first | refine wRet ?_ | refine wExit ?_ | refine wSkip ?_); try simp) | ((first | refine wLabel ?_ | refine wOn ?_ | refine wQn ?_); try simp only [thenA_n])
    all_goals first | apply hr
    all_goals refine ⟨[], by simp, by simp, ?_⟩
    all_goals simp [Try.f138, h1', outR, outB, renB, gaN, lv, ouN, kpI, kpR, pos, ren, ren0, renC, renCs]
  by_cases h1 : n = 1
  · have h0' : (n = 0) = False := eq_false h0
    have h1' : (n = 1) = True := eq_true h1
    rw [if_neg (by simp [h1]), rO_ok, show decide (n = 1) = true from decide_eq_true h1]
    clear h0 h1
    refine wBodyG Try.tab Try.mixed Try.func138 rfl rfl Try.ntmps138 (by simp) (by simp) fun Q hr hn hp => ?_
    repeat' first | (refine CallK_gen [1024] (c) (by decide) (by decide) (by simp [blksOf, inN, pos, renB, renC, renCs, ren0, lv, ouN, kpI, kpR]) (by simp [argsG, argG, ren0, inN, pos, renCs, renC]) ⟨[], by simp, by simp, ?_⟩; simp [lv, ouN, kpI, kpR, pos, ren, ren0, renB, renC, renCs, renF, renFs]) | (refine hK _ ?_; clear hK) | (refine hK _ _ ?_; clear hK) | (clear hK; refine hK _ ?_; clear hK) | (clear hK; clear hK; refine hK _ ?_; clear hK) | (clear hK; clear hK; clear hK; refine hK _ ?_; clear hK) | (clear hK; clear hK; clear hK; clear hK; refine hK _ ?_; clear hK) | (refine wSeq fun K hK => ?_) | ((first | refine wReg ?_ | refine wDrwQ rfl (by kernel_rfl) ?_ | refine wDrwI ?_ | refine wDrw (by kernel_rfl) ?_); simp only [List.map_cons, List.map_nil, strip]) | ((first | refine wIs fun K hK => ?_ | refine wOs fun K hK => ?_ | refine wQs fun K hK => ?_ | refine CallK_plain ?_ | refine CallQ_plain ?_ | refine CallR_plain ?_ | refine wCond ?_); simp [h0', h1', lv, ouN, kpI, kpR, pos, ren, ren0, renB, renC, renCs]) | (refine wIn ?_; refine And.intro (by kernel_rfl) ?_; try simp only [thenA_n]) | (first | refine wBlock ?_ | refine wScope ?_) | ((first | refine wRet ?_ | refine wExit ?_ | refine wSkip ?_); try simp) | ((first | refine wLabel ?_ | refine wOn ?_ | refine wQn ?_); try simp only [thenA_n])
    all_goals first | apply hr
    all_goals refine ⟨[], by simp, by simp, ?_⟩
    all_goals simp [Try.f138, h1', outR, outB, renB, gaN, lv, ouN, kpI, kpR, pos, ren, ren0, renC, renCs]
  · have h0' : (n = 0) = False := eq_false h0
    have h1' : (n = 1) = False := eq_false h1
    rw [if_pos (by simp [h0, h1]), rO_err _ _ _ (by decide)]
    clear h0 h1
    refine wBodyG Try.tab Try.mixed Try.func138 rfl rfl Try.ntmps138 (by simp) (by simp) fun Q hr hn hp => ?_
    repeat' first | (refine CallE.pan e3 ?_) | (refine CallK_gen [1024] (c) (by decide) (by decide) (by simp [blksOf, inN, pos, renB, renC, renCs, ren0, lv, ouN, kpI, kpR]) (by simp [argsG, argG, ren0, inN, pos, renCs, renC]) ⟨[], by simp, by simp, ?_⟩; simp [lv, ouN, kpI, kpR, pos, ren, ren0, renB, renC, renCs, renF, renFs]) | (refine hK _ ?_; clear hK) | (refine hK _ _ ?_; clear hK) | (clear hK; refine hK _ ?_; clear hK) | (clear hK; clear hK; refine hK _ ?_; clear hK) | (clear hK; clear hK; clear hK; refine hK _ ?_; clear hK) | (clear hK; clear hK; clear hK; clear hK; refine hK _ ?_; clear hK) | (refine wSeq fun K hK => ?_) | ((first | refine wReg ?_ | refine wDrwQ rfl (by kernel_rfl) ?_ | refine wDrwI ?_ | refine wDrw (by kernel_rfl) ?_); simp only [List.map_cons, List.map_nil, strip]) | ((first | refine wIs fun K hK => ?_ | refine wOs fun K hK => ?_ | refine wQs fun K hK => ?_ | refine CallK_plain ?_ | refine CallQ_plain ?_ | refine CallR_plain ?_ | refine wCond ?_); simp [h0', h1', lv, ouN, kpI, kpR, pos, ren, ren0, renB, renC, renCs]) | (refine wIn ?_; refine And.intro (by kernel_rfl) ?_; try simp only [thenA_n]) | (first | refine wBlock ?_ | refine wScope ?_) | ((first | refine wRet ?_ | refine wExit ?_ | refine wSkip ?_); try simp) | ((first | refine wLabel ?_ | refine wOn ?_ | refine wQn ?_); try simp only [thenA_n])
    all_goals try simp only [thenA_p, blockA_p]
    all_goals apply hp
    all_goals simp [AResP, outB, renB, gaN, lv, ouN, kpI, kpR, pos, ren, ren0, renC, renCs]
/- Records read: places, members, lists of numbers. -/
set_option maxHeartbeats 4000000 in
theorem rZx : RCn 95 fZx := by
  intro b a hb
  generalize ho : rO b (vOf (fZx.rd b (0, a)).1) (fZx.rd b (0, a)).2 = out
  have c0 := rnum b a hb
  refine wBodyG Try.tab Try.mixed Try.func95 rfl rfl Try.ntmps95 (by simp) (by simp) fun Q hr hn hp => ?_
  repeat' first | (refine hK _ ?_; clear hK) | (refine hK _ _ ?_; clear hK) | (clear hK; refine hK _ ?_; clear hK) | (clear hK; clear hK; refine hK _ ?_; clear hK) | (clear hK; clear hK; clear hK; refine hK _ ?_; clear hK) | (clear hK; clear hK; clear hK; clear hK; refine hK _ ?_; clear hK) | (refine wSeq fun K hK => ?_) | ((first | refine wReg ?_ | refine wDrwQ rfl (by kernel_rfl) ?_ | refine wDrwI ?_ | refine wDrw (by kernel_rfl) ?_); simp only [List.map_cons, List.map_nil, strip]) | ((first | refine wIs fun K hK => ?_ | refine wOs fun K hK => ?_ | refine wQs fun K hK => ?_ | refine CallQ_plain ?_ | refine CallR_plain ?_ | refine wCond ?_); simp) | (refine wIn ?_; refine And.intro (by kernel_rfl) ?_; try simp only [thenA_n]) | (first | refine wBlock ?_ | refine wScope ?_) | ((first | refine wRet ?_ | refine wExit ?_ | refine wSkip ?_); try simp) | ((first | refine wLabel ?_ | refine wOn ?_ | refine wQn ?_); try simp only [thenA_n])
  obtain ⟨x0, ⟨q0, a0⟩, e0⟩ := foI_got b (0, a)
  rw [e0] at c0
  simp only [vOf1, vOf2] at c0
  by_cases z0 : q0 = 0
  rotate_left
  · have hz : (fZx.rd b (0, a)).2 = (q0, a0) := by simp only [fZx, sq_rd, e0, foI_L.stk b q0 a0 z0]
    rw [hz, rO_err _ _ _ z0] at ho
    subst ho
    rw [rO_err _ _ _ z0] at c0
    refine CallK_gen [1024] c0 (by decide) (by decide) (by simp [blksOf, inN, pos, renB, ren0, ouN, lv, kpI, kpR]) (by simp [argsG, argG, ren0, inN, pos, renCs, renC]) ?_
    simp [GenK, lv, ouN, kpI, kpR, pos, ren, ren0, renB, renC, renCs]
    all_goals try simp only [thenA_p, blockA_p]
    all_goals apply hp
    all_goals simp [AResP, outB, renB, gaN, lv, ouN, kpI, kpR, pos, ren, ren0, renC, renCs]
  subst z0
  rw [rO_ok] at c0
  refine CallK_gen [1024] c0 (by decide) (by decide) (by simp [blksOf, inN, pos, renB, ren0, ouN, lv, kpI, kpR]) (by simp [argsG, argG, ren0, inN, pos, renCs, renC]) ⟨[], by simp, by simp, ?_⟩
  simp [lv, ouN, kpI, kpR, pos, ren, ren0, renB, renC, renCs]
  repeat' first | (refine hK _ ?_; clear hK) | (refine hK _ _ ?_; clear hK) | (clear hK; refine hK _ ?_; clear hK) | (clear hK; clear hK; refine hK _ ?_; clear hK) | (clear hK; clear hK; clear hK; refine hK _ ?_; clear hK) | (clear hK; clear hK; clear hK; clear hK; refine hK _ ?_; clear hK) | (refine wSeq fun K hK => ?_) | ((first | refine wReg ?_ | refine wDrwQ rfl (by kernel_rfl) ?_ | refine wDrwI ?_ | refine wDrw (by kernel_rfl) ?_); simp only [List.map_cons, List.map_nil, strip]) | ((first | refine wIs fun K hK => ?_ | refine wOs fun K hK => ?_ | refine wQs fun K hK => ?_ | refine CallQ_plain ?_ | refine CallR_plain ?_ | refine wCond ?_); simp [lv, ouN, kpI, kpR, pos, ren, ren0, renB, renC, renCs]) | (refine wIn ?_; refine And.intro (by kernel_rfl) ?_; try simp only [thenA_n]) | (first | refine wBlock ?_ | refine wScope ?_) | ((first | refine wRet ?_ | refine wExit ?_ | refine wSkip ?_); try simp) | ((first | refine wLabel ?_ | refine wOn ?_ | refine wQn ?_); try simp only [thenA_n])
  have c1 := rnum b a0 hb
  obtain ⟨x1, ⟨q1, a1⟩, e1⟩ := foI_got b (0, a0)
  rw [e1] at c1
  simp only [vOf1, vOf2] at c1
  by_cases z1 : q1 = 0
  rotate_left
  · have hz : (fZx.rd b (0, a)).2 = (q1, a1) := by simp only [fZx, sq_rd, e0, e1]
    rw [hz, rO_err _ _ _ z1] at ho
    subst ho
    rw [rO_err _ _ _ z1] at c1
    refine CallK_gen [1024] c1 (by decide) (by decide) (by simp [blksOf, inN, pos, renB, ren0, ouN, lv, kpI, kpR]) (by simp [argsG, argG, ren0, inN, pos, renCs, renC]) ?_
    simp [GenK, lv, ouN, kpI, kpR, pos, ren, ren0, renB, renC, renCs]
    all_goals try simp only [thenA_p, blockA_p]
    all_goals apply hp
    all_goals simp [AResP, outB, renB, gaN, lv, ouN, kpI, kpR, pos, ren, ren0, renC, renCs]
  subst z1
  rw [rO_ok] at c1
  refine CallK_gen [1024] c1 (by decide) (by decide) (by simp [blksOf, inN, pos, renB, ren0, ouN, lv, kpI, kpR]) (by simp [argsG, argG, ren0, inN, pos, renCs, renC]) ⟨[], by simp, by simp, ?_⟩
  simp [lv, ouN, kpI, kpR, pos, ren, ren0, renB, renC, renCs]
  repeat' first | (refine hK _ ?_; clear hK) | (refine hK _ _ ?_; clear hK) | (clear hK; refine hK _ ?_; clear hK) | (clear hK; clear hK; refine hK _ ?_; clear hK) | (clear hK; clear hK; clear hK; refine hK _ ?_; clear hK) | (clear hK; clear hK; clear hK; clear hK; refine hK _ ?_; clear hK) | (refine wSeq fun K hK => ?_) | ((first | refine wReg ?_ | refine wDrwQ rfl (by kernel_rfl) ?_ | refine wDrwI ?_ | refine wDrw (by kernel_rfl) ?_); simp only [List.map_cons, List.map_nil, strip]) | ((first | refine wIs fun K hK => ?_ | refine wOs fun K hK => ?_ | refine wQs fun K hK => ?_ | refine CallQ_plain ?_ | refine CallR_plain ?_ | refine wCond ?_); simp [lv, ouN, kpI, kpR, pos, ren, ren0, renB, renC, renCs]) | (refine wIn ?_; refine And.intro (by kernel_rfl) ?_; try simp only [thenA_n]) | (first | refine wBlock ?_ | refine wScope ?_) | ((first | refine wRet ?_ | refine wExit ?_ | refine wSkip ?_); try simp) | ((first | refine wLabel ?_ | refine wOn ?_ | refine wQn ?_); try simp only [thenA_n])
  have hz : fZx.rd b (0, a) = ([I x0, I x1], 0, a1) := by simp only [fZx, sq_rd, e0, e1, List.cons_append, List.nil_append]
  rw [hz] at ho
  simp only [rO_ok, vOf2] at ho
  subst ho
  all_goals first | apply hr
  all_goals refine ⟨[], by simp, by simp, ?_⟩
  all_goals simp [Try.f95, outR, outB, renB, gaN, lv, ouN, kpI, kpR, pos, ren, ren0, renC, renCs]
set_option maxHeartbeats 4000000 in
theorem rMb : RCn 98 fMb := by
  intro b a hb
  generalize ho : rO b (vOf (fMb.rd b (0, a)).1) (fMb.rd b (0, a)).2 = out
  have c0 := rnum b a hb
  refine wBodyG Try.tab Try.mixed Try.func98 rfl rfl Try.ntmps98 (by simp) (by simp) fun Q hr hn hp => ?_
  repeat' first | (refine hK _ ?_; clear hK) | (refine hK _ _ ?_; clear hK) | (clear hK; refine hK _ ?_; clear hK) | (clear hK; clear hK; refine hK _ ?_; clear hK) | (clear hK; clear hK; clear hK; refine hK _ ?_; clear hK) | (clear hK; clear hK; clear hK; clear hK; refine hK _ ?_; clear hK) | (refine wSeq fun K hK => ?_) | ((first | refine wReg ?_ | refine wDrwQ rfl (by kernel_rfl) ?_ | refine wDrwI ?_ | refine wDrw (by kernel_rfl) ?_); simp only [List.map_cons, List.map_nil, strip]) | ((first | refine wIs fun K hK => ?_ | refine wOs fun K hK => ?_ | refine wQs fun K hK => ?_ | refine CallQ_plain ?_ | refine CallR_plain ?_ | refine wCond ?_); simp) | (refine wIn ?_; refine And.intro (by kernel_rfl) ?_; try simp only [thenA_n]) | (first | refine wBlock ?_ | refine wScope ?_) | ((first | refine wRet ?_ | refine wExit ?_ | refine wSkip ?_); try simp) | ((first | refine wLabel ?_ | refine wOn ?_ | refine wQn ?_); try simp only [thenA_n])
  obtain ⟨x0, ⟨q0, a0⟩, e0⟩ := foI_got b (0, a)
  rw [e0] at c0
  simp only [vOf1, vOf2] at c0
  by_cases z0 : q0 = 0
  rotate_left
  · have hz : (fMb.rd b (0, a)).2 = (q0, a0) := by simp only [fMb, sq_rd, e0, foI_L.stk b q0 a0 z0]
    rw [hz, rO_err _ _ _ z0] at ho
    subst ho
    rw [rO_err _ _ _ z0] at c0
    refine CallK_gen [1024] c0 (by decide) (by decide) (by simp [blksOf, inN, pos, renB, ren0, ouN, lv, kpI, kpR]) (by simp [argsG, argG, ren0, inN, pos, renCs, renC]) ?_
    simp [GenK, lv, ouN, kpI, kpR, pos, ren, ren0, renB, renC, renCs]
    all_goals try simp only [thenA_p, blockA_p]
    all_goals apply hp
    all_goals simp [AResP, outB, renB, gaN, lv, ouN, kpI, kpR, pos, ren, ren0, renC, renCs]
  subst z0
  rw [rO_ok] at c0
  refine CallK_gen [1024] c0 (by decide) (by decide) (by simp [blksOf, inN, pos, renB, ren0, ouN, lv, kpI, kpR]) (by simp [argsG, argG, ren0, inN, pos, renCs, renC]) ⟨[], by simp, by simp, ?_⟩
  simp [lv, ouN, kpI, kpR, pos, ren, ren0, renB, renC, renCs]
  repeat' first | (refine hK _ ?_; clear hK) | (refine hK _ _ ?_; clear hK) | (clear hK; refine hK _ ?_; clear hK) | (clear hK; clear hK; refine hK _ ?_; clear hK) | (clear hK; clear hK; clear hK; refine hK _ ?_; clear hK) | (clear hK; clear hK; clear hK; clear hK; refine hK _ ?_; clear hK) | (refine wSeq fun K hK => ?_) | ((first | refine wReg ?_ | refine wDrwQ rfl (by kernel_rfl) ?_ | refine wDrwI ?_ | refine wDrw (by kernel_rfl) ?_); simp only [List.map_cons, List.map_nil, strip]) | ((first | refine wIs fun K hK => ?_ | refine wOs fun K hK => ?_ | refine wQs fun K hK => ?_ | refine CallQ_plain ?_ | refine CallR_plain ?_ | refine wCond ?_); simp [lv, ouN, kpI, kpR, pos, ren, ren0, renB, renC, renCs]) | (refine wIn ?_; refine And.intro (by kernel_rfl) ?_; try simp only [thenA_n]) | (first | refine wBlock ?_ | refine wScope ?_) | ((first | refine wRet ?_ | refine wExit ?_ | refine wSkip ?_); try simp) | ((first | refine wLabel ?_ | refine wOn ?_ | refine wQn ?_); try simp only [thenA_n])
  have c1 := rnum b a0 hb
  obtain ⟨x1, ⟨q1, a1⟩, e1⟩ := foI_got b (0, a0)
  rw [e1] at c1
  simp only [vOf1, vOf2] at c1
  by_cases z1 : q1 = 0
  rotate_left
  · have hz : (fMb.rd b (0, a)).2 = (q1, a1) := by simp only [fMb, sq_rd, e0, e1, foI_L.stk b q1 a1 z1]
    rw [hz, rO_err _ _ _ z1] at ho
    subst ho
    rw [rO_err _ _ _ z1] at c1
    refine CallK_gen [1024] c1 (by decide) (by decide) (by simp [blksOf, inN, pos, renB, ren0, ouN, lv, kpI, kpR]) (by simp [argsG, argG, ren0, inN, pos, renCs, renC]) ?_
    simp [GenK, lv, ouN, kpI, kpR, pos, ren, ren0, renB, renC, renCs]
    all_goals try simp only [thenA_p, blockA_p]
    all_goals apply hp
    all_goals simp [AResP, outB, renB, gaN, lv, ouN, kpI, kpR, pos, ren, ren0, renC, renCs]
  subst z1
  rw [rO_ok] at c1
  refine CallK_gen [1024] c1 (by decide) (by decide) (by simp [blksOf, inN, pos, renB, ren0, ouN, lv, kpI, kpR]) (by simp [argsG, argG, ren0, inN, pos, renCs, renC]) ⟨[], by simp, by simp, ?_⟩
  simp [lv, ouN, kpI, kpR, pos, ren, ren0, renB, renC, renCs]
  repeat' first | (refine hK _ ?_; clear hK) | (refine hK _ _ ?_; clear hK) | (clear hK; refine hK _ ?_; clear hK) | (clear hK; clear hK; refine hK _ ?_; clear hK) | (clear hK; clear hK; clear hK; refine hK _ ?_; clear hK) | (clear hK; clear hK; clear hK; clear hK; refine hK _ ?_; clear hK) | (refine wSeq fun K hK => ?_) | ((first | refine wReg ?_ | refine wDrwQ rfl (by kernel_rfl) ?_ | refine wDrwI ?_ | refine wDrw (by kernel_rfl) ?_); simp only [List.map_cons, List.map_nil, strip]) | ((first | refine wIs fun K hK => ?_ | refine wOs fun K hK => ?_ | refine wQs fun K hK => ?_ | refine CallQ_plain ?_ | refine CallR_plain ?_ | refine wCond ?_); simp [lv, ouN, kpI, kpR, pos, ren, ren0, renB, renC, renCs]) | (refine wIn ?_; refine And.intro (by kernel_rfl) ?_; try simp only [thenA_n]) | (first | refine wBlock ?_ | refine wScope ?_) | ((first | refine wRet ?_ | refine wExit ?_ | refine wSkip ?_); try simp) | ((first | refine wLabel ?_ | refine wOn ?_ | refine wQn ?_); try simp only [thenA_n])
  have c2 := rnum b a1 hb
  obtain ⟨x2, ⟨q2, a2⟩, e2⟩ := foI_got b (0, a1)
  rw [e2] at c2
  simp only [vOf1, vOf2] at c2
  by_cases z2 : q2 = 0
  rotate_left
  · have hz : (fMb.rd b (0, a)).2 = (q2, a2) := by simp only [fMb, sq_rd, e0, e1, e2, foI_L.stk b q2 a2 z2]
    rw [hz, rO_err _ _ _ z2] at ho
    subst ho
    rw [rO_err _ _ _ z2] at c2
    refine CallK_gen [1024] c2 (by decide) (by decide) (by simp [blksOf, inN, pos, renB, ren0, ouN, lv, kpI, kpR]) (by simp [argsG, argG, ren0, inN, pos, renCs, renC]) ?_
    simp [GenK, lv, ouN, kpI, kpR, pos, ren, ren0, renB, renC, renCs]
    all_goals try simp only [thenA_p, blockA_p]
    all_goals apply hp
    all_goals simp [AResP, outB, renB, gaN, lv, ouN, kpI, kpR, pos, ren, ren0, renC, renCs]
  subst z2
  rw [rO_ok] at c2
  refine CallK_gen [1024] c2 (by decide) (by decide) (by simp [blksOf, inN, pos, renB, ren0, ouN, lv, kpI, kpR]) (by simp [argsG, argG, ren0, inN, pos, renCs, renC]) ⟨[], by simp, by simp, ?_⟩
  simp [lv, ouN, kpI, kpR, pos, ren, ren0, renB, renC, renCs]
  repeat' first | (refine hK _ ?_; clear hK) | (refine hK _ _ ?_; clear hK) | (clear hK; refine hK _ ?_; clear hK) | (clear hK; clear hK; refine hK _ ?_; clear hK) | (clear hK; clear hK; clear hK; refine hK _ ?_; clear hK) | (clear hK; clear hK; clear hK; clear hK; refine hK _ ?_; clear hK) | (refine wSeq fun K hK => ?_) | ((first | refine wReg ?_ | refine wDrwQ rfl (by kernel_rfl) ?_ | refine wDrwI ?_ | refine wDrw (by kernel_rfl) ?_); simp only [List.map_cons, List.map_nil, strip]) | ((first | refine wIs fun K hK => ?_ | refine wOs fun K hK => ?_ | refine wQs fun K hK => ?_ | refine CallQ_plain ?_ | refine CallR_plain ?_ | refine wCond ?_); simp [lv, ouN, kpI, kpR, pos, ren, ren0, renB, renC, renCs]) | (refine wIn ?_; refine And.intro (by kernel_rfl) ?_; try simp only [thenA_n]) | (first | refine wBlock ?_ | refine wScope ?_) | ((first | refine wRet ?_ | refine wExit ?_ | refine wSkip ?_); try simp) | ((first | refine wLabel ?_ | refine wOn ?_ | refine wQn ?_); try simp only [thenA_n])
  have c3 := rnum b a2 hb
  obtain ⟨x3, ⟨q3, a3⟩, e3⟩ := foI_got b (0, a2)
  rw [e3] at c3
  simp only [vOf1, vOf2] at c3
  by_cases z3 : q3 = 0
  rotate_left
  · have hz : (fMb.rd b (0, a)).2 = (q3, a3) := by simp only [fMb, sq_rd, e0, e1, e2, e3]
    rw [hz, rO_err _ _ _ z3] at ho
    subst ho
    rw [rO_err _ _ _ z3] at c3
    refine CallK_gen [1024] c3 (by decide) (by decide) (by simp [blksOf, inN, pos, renB, ren0, ouN, lv, kpI, kpR]) (by simp [argsG, argG, ren0, inN, pos, renCs, renC]) ?_
    simp [GenK, lv, ouN, kpI, kpR, pos, ren, ren0, renB, renC, renCs]
    all_goals try simp only [thenA_p, blockA_p]
    all_goals apply hp
    all_goals simp [AResP, outB, renB, gaN, lv, ouN, kpI, kpR, pos, ren, ren0, renC, renCs]
  subst z3
  rw [rO_ok] at c3
  refine CallK_gen [1024] c3 (by decide) (by decide) (by simp [blksOf, inN, pos, renB, ren0, ouN, lv, kpI, kpR]) (by simp [argsG, argG, ren0, inN, pos, renCs, renC]) ⟨[], by simp, by simp, ?_⟩
  simp [lv, ouN, kpI, kpR, pos, ren, ren0, renB, renC, renCs]
  repeat' first | (refine hK _ ?_; clear hK) | (refine hK _ _ ?_; clear hK) | (clear hK; refine hK _ ?_; clear hK) | (clear hK; clear hK; refine hK _ ?_; clear hK) | (clear hK; clear hK; clear hK; refine hK _ ?_; clear hK) | (clear hK; clear hK; clear hK; clear hK; refine hK _ ?_; clear hK) | (refine wSeq fun K hK => ?_) | ((first | refine wReg ?_ | refine wDrwQ rfl (by kernel_rfl) ?_ | refine wDrwI ?_ | refine wDrw (by kernel_rfl) ?_); simp only [List.map_cons, List.map_nil, strip]) | ((first | refine wIs fun K hK => ?_ | refine wOs fun K hK => ?_ | refine wQs fun K hK => ?_ | refine CallQ_plain ?_ | refine CallR_plain ?_ | refine wCond ?_); simp [lv, ouN, kpI, kpR, pos, ren, ren0, renB, renC, renCs]) | (refine wIn ?_; refine And.intro (by kernel_rfl) ?_; try simp only [thenA_n]) | (first | refine wBlock ?_ | refine wScope ?_) | ((first | refine wRet ?_ | refine wExit ?_ | refine wSkip ?_); try simp) | ((first | refine wLabel ?_ | refine wOn ?_ | refine wQn ?_); try simp only [thenA_n])
  have hz : fMb.rd b (0, a) = ([I x0, I x1, I x2, I x3], 0, a3) := by simp only [fMb, sq_rd, e0, e1, e2, e3, List.cons_append, List.nil_append]
  rw [hz] at ho
  simp only [rO_ok, vOf2] at ho
  subst ho
  all_goals first | apply hr
  all_goals refine ⟨[], by simp, by simp, ?_⟩
  all_goals simp [Try.f98, outR, outB, renB, gaN, lv, ouN, kpI, kpR, pos, ren, ren0, renC, renCs]
set_option maxHeartbeats 8000000 in
theorem rlI (b : List UInt8) (a : Int) (hb : b.length ≤ 1000000000) : Con Try.prog 111 [.ptr 1024 0, .p (.v (.func (.func 96) #[] #[]))] (rB b a) (rO b (vOf ((fl 1 foI).rd b (0, a)).1) ((fl 1 foI).rd b (0, a)).2) := by
  generalize ho : rO b (vOf ((fl 1 foI).rd b (0, a)).1) ((fl 1 foI).rd b (0, a)).2 = out
  have c0 := rnum b a hb
  obtain ⟨Y, hY⟩ : ∃ Y, Y = rdC b (0, a) := ⟨_, rfl⟩
  have hC := hY
  unfold rdC at hC
  change Con _ _ _ _ (rO b (.p (I (rdN b (0, a)).1)) (rdN b (0, a)).2) at c0
  obtain ⟨n, q, a1, hN⟩ : ∃ n q a1, rdN b (0, a) = (n, q, a1) := ⟨_, _, _, rfl⟩
  rw [hN] at c0 hC
  simp only at c0 hC
  have hL : (fl 1 foI).rd b (0, a) = ([.sl 1 (rdL foI.rd b (rdC b (0, a)).1.toNat (rdC b (0, a)).2).1], (rdL foI.rd b (rdC b (0, a)).1.toNat (rdC b (0, a)).2).2) := rfl
  rw [hL, ← hY, hC] at ho
  clear hL hC hY
  refine wBodyG Try.tab Try.mixed Try.func111 rfl rfl Try.ntmps111 (by simp) (by simp) fun Q hr hn hp => ?_
  repeat' first | (refine hK _ ?_; clear hK) | (refine hK _ _ ?_; clear hK) | (clear hK; refine hK _ ?_; clear hK) | (clear hK; clear hK; refine hK _ ?_; clear hK) | (clear hK; clear hK; clear hK; refine hK _ ?_; clear hK) | (clear hK; clear hK; clear hK; clear hK; refine hK _ ?_; clear hK) | (refine wSeq fun K hK => ?_) | ((first | refine wReg ?_ | refine wDrwQ rfl (by kernel_rfl) ?_ | refine wDrwI ?_ | refine wDrw (by kernel_rfl) ?_); simp only [List.map_cons, List.map_nil, strip]) | ((first | refine wIs fun K hK => ?_ | refine wOs fun K hK => ?_ | refine wQs fun K hK => ?_ | refine CallQ_plain ?_ | refine CallR_plain ?_ | refine wCond ?_); simp) | (refine wIn ?_; refine And.intro (by kernel_rfl) ?_; try simp only [thenA_n]) | (first | refine wBlock ?_ | refine wScope ?_) | ((first | refine wRet ?_ | refine wExit ?_ | refine wSkip ?_); try simp) | ((first | refine wLabel ?_ | refine wOn ?_ | refine wQn ?_); try simp only [thenA_n])
  by_cases hq : q = 0
  rotate_left
  · rw [if_pos hq] at ho
    simp only [rdL_stk _ _ _ _ hq] at ho
    rw [rO_err _ _ _ hq] at ho c0
    subst ho
    refine CallK_gen [1024] c0 (by decide) (by decide) (by simp [blksOf, inN, pos, renB, ren0, ouN, lv, kpI, kpR]) (by simp [argsG, argG, ren0, inN, pos, renCs, renC]) ?_
    simp [GenK, lv, ouN, kpI, kpR, pos, ren, ren0, renB, renC, renCs]
    all_goals try simp only [thenA_p, blockA_p]
    all_goals apply hp
    all_goals simp [AResP, outB, renB, gaN, lv, ouN, kpI, kpR, pos, ren, ren0, renC, renCs]
  subst hq
  rw [if_neg (by simp)] at ho
  rw [rO_ok] at c0
  refine CallK_gen [1024] c0 (by decide) (by decide) (by simp [blksOf, inN, pos, renB, ren0, ouN, lv, kpI, kpR]) (by simp [argsG, argG, ren0, inN, pos, renCs, renC]) ⟨[], by simp, by simp, ?_⟩
  simp [lv, ouN, kpI, kpR, pos, ren, ren0, renB, renC, renCs]
  by_cases h1 : n < 0
  · have e3 := give_con 3 (by decide)
    rw [if_pos h1] at ho
    simp only [rdL_stk foI.rd b _ (e := 3) a1 (by decide)] at ho
    rw [rO_err _ _ _ (by decide)] at ho
    subst ho
    repeat' first | (refine CallE.pan e3 ?_) | (refine hK _ ?_; clear hK) | (refine hK _ _ ?_; clear hK) | (clear hK; refine hK _ ?_; clear hK) | (clear hK; clear hK; refine hK _ ?_; clear hK) | (clear hK; clear hK; clear hK; refine hK _ ?_; clear hK) | (clear hK; clear hK; clear hK; clear hK; refine hK _ ?_; clear hK) | (refine wSeq fun K hK => ?_) | ((first | refine wReg ?_ | refine wDrwQ rfl (by kernel_rfl) ?_ | refine wDrwI ?_ | refine wDrw (by kernel_rfl) ?_); simp only [List.map_cons, List.map_nil, strip]) | ((first | refine wIs fun K hK => ?_ | refine wOs fun K hK => ?_ | refine wQs fun K hK => ?_ | refine CallK_plain ?_ | refine CallQ_plain ?_ | refine CallR_plain ?_ | refine wCond ?_); simp [h1, lv, ouN, kpI, kpR, pos, ren, ren0, renB, renC, renCs]) | (refine wIn ?_; refine And.intro (by kernel_rfl) ?_; try simp only [thenA_n]) | (first | refine wBlock ?_ | refine wScope ?_) | ((first | refine wRet ?_ | refine wExit ?_ | refine wSkip ?_); try simp) | ((first | refine wLabel ?_ | refine wOn ?_ | refine wQn ?_); try simp only [thenA_n])
    all_goals try simp only [thenA_p, blockA_p]
    all_goals apply hp
    all_goals simp [AResP, outB, renB, gaN, lv, ouN, kpI, kpR, pos, ren, ren0, renC, renCs]
  rw [if_neg h1] at ho
  by_cases h2 : 1000 < n
  · have e5 := give_con 5 (by decide)
    rw [if_pos h2] at ho
    simp only [rdL_stk foI.rd b _ (e := 5) a1 (by decide)] at ho
    rw [rO_err _ _ _ (by decide)] at ho
    subst ho
    repeat' first | (refine CallE.pan e5 ?_) | (refine hK _ ?_; clear hK) | (refine hK _ _ ?_; clear hK) | (clear hK; refine hK _ ?_; clear hK) | (clear hK; clear hK; refine hK _ ?_; clear hK) | (clear hK; clear hK; clear hK; refine hK _ ?_; clear hK) | (clear hK; clear hK; clear hK; clear hK; refine hK _ ?_; clear hK) | (refine wSeq fun K hK => ?_) | ((first | refine wReg ?_ | refine wDrwQ rfl (by kernel_rfl) ?_ | refine wDrwI ?_ | refine wDrw (by kernel_rfl) ?_); simp only [List.map_cons, List.map_nil, strip]) | ((first | refine wIs fun K hK => ?_ | refine wOs fun K hK => ?_ | refine wQs fun K hK => ?_ | refine CallK_plain ?_ | refine CallQ_plain ?_ | refine CallR_plain ?_ | refine wCond ?_); simp [h1, h2, lv, ouN, kpI, kpR, pos, ren, ren0, renB, renC, renCs]) | (refine wIn ?_; refine And.intro (by kernel_rfl) ?_; try simp only [thenA_n]) | (first | refine wBlock ?_ | refine wScope ?_) | ((first | refine wRet ?_ | refine wExit ?_ | refine wSkip ?_); try simp) | ((first | refine wLabel ?_ | refine wOn ?_ | refine wQn ?_); try simp only [thenA_n])
    all_goals try simp only [thenA_p, blockA_p]
    all_goals apply hp
    all_goals simp [AResP, outB, renB, gaN, lv, ouN, kpI, kpR, pos, ren, ren0, renC, renCs]
  rw [if_neg h2] at ho
  simp only at ho
  obtain ⟨m, rfl⟩ : ∃ m : Nat, n = m := ⟨n.toNat, by omega⟩
  simp only [Int.toNat_natCast] at ho
  have hm : m ≤ 1000 := by omega
  repeat' first | (refine hK _ ?_; clear hK) | (refine hK _ _ ?_; clear hK) | (clear hK; refine hK _ ?_; clear hK) | (clear hK; clear hK; refine hK _ ?_; clear hK) | (clear hK; clear hK; clear hK; refine hK _ ?_; clear hK) | (clear hK; clear hK; clear hK; clear hK; refine hK _ ?_; clear hK) | (refine wSeq fun K hK => ?_) | ((first | refine wReg ?_ | refine wDrwQ rfl (by kernel_rfl) ?_ | refine wDrwI ?_ | refine wDrw (by kernel_rfl) ?_); simp only [List.map_cons, List.map_nil, strip]) | ((first | refine wIs fun K hK => ?_ | refine wOs fun K hK => ?_ | refine wQs fun K hK => ?_ | refine CallQ_plain ?_ | refine CallR_plain ?_ | refine wCond ?_); simp [h1, h2, lv, ouN, kpI, kpR, pos, ren, ren0, renB, renC, renCs]) | (refine wIn ?_; refine And.intro (by kernel_rfl) ?_; try simp only [thenA_n]) | (first | refine wBlock ?_ | refine wScope ?_) | ((first | refine wRet ?_ | refine wExit ?_ | refine wSkip ?_); try simp) | ((first | refine wLabel ?_ | refine wOn ?_ | refine wQn ?_); try simp only [thenA_n])
  generalize hF : rdL foI.rd b m (0, a1) = full at ho
  refine wLoopG [.row 6 3 1] (fun N st => ∃ k a2 acc, k + N = m ∧ acc.length = k ∧ full = (acc ++ (rdL foI.rd b N (0, a2)).1, (rdL foI.rd b N (0, a2)).2) ∧ st.s 0 = .ptr 1024 0 ∧ st.s 1 = .p (.v (.func (.func 96) #[] #[])) ∧ st.s 6 = .row 6 ∧ st.s 17 = .p (I m) ∧ st.s 18 = .p (I k) ∧ st.b 1024 = some (.box 160 [.p (.sl 1 (by8 b)), .p (I a2)]) ∧ st.b 6 = some (.row 3 1 acc)) m ⟨0, a1, [], by simp [hF, lv, ouN, kpI, kpR, pos, ren, ren0, renB, renC, renCs]⟩ fun K N st hL ⟨k, a2, acc, hk, hac, hfu, g0, g1, g6, g17, g18, b0, b6⟩ => ?_
  by_cases hlt : k < m
  · have hlt' : (k : Int) < (m : Int) := by omega
    have hw := wrapS k m hlt (by omega)
    obtain ⟨M, rfl⟩ : ∃ M, N = M + 1 := ⟨N - 1, by omega⟩
    rw [rdL, if_pos rfl] at hfu
    have c := rnum b a2 hb
    obtain ⟨x0, ⟨q, a3⟩, he⟩ := foI_got b (0, a2)
    rw [he] at c hfu
    try simp only [vOf1, vOf2] at c
    simp only at hfu
    by_cases z : q = 0
    · subst z
      rw [rO_ok] at c
      repeat' first | (refine CallK_gen [1024] c (by decide) (by decide) (by simp [blksOf, inN, pos, renB, ren0, b0]) (by simp [argsG, argG, ren0, inN, pos, renCs, renC]) ⟨[], by simp, by simp, ?_⟩; simp [lv, ouN, kpI, kpR, pos, ren, ren0, renB, renC, renCs, b0]) | (refine And.intro (by omega) ?_) | (refine hK _ ?_; clear hK) | (refine hK _ _ ?_; clear hK) | (clear hK; refine hK _ ?_; clear hK) | (clear hK; clear hK; refine hK _ ?_; clear hK) | (clear hK; clear hK; clear hK; refine hK _ ?_; clear hK) | (clear hK; clear hK; clear hK; clear hK; refine hK _ ?_; clear hK) | (refine wSeq fun K hK => ?_) | ((first | refine wReg ?_ | refine wDrwQ rfl (by kernel_rfl) ?_ | refine wDrwI ?_ | refine wDrw (by kernel_rfl) ?_); simp only [List.map_cons, List.map_nil, strip]) | ((first | refine wIs fun K hK => ?_ | refine wOs fun K hK => ?_ | refine wQs fun K hK => ?_ | refine CallK_plain ?_ | refine CallQ_plain ?_ | refine CallR_plain ?_ | refine wCond ?_); simp [g0, g1, g6, g17, g18, b0, b6, hlt, hlt', hw, lv, ouN, kpI, kpR, pos, ren, ren0, renB, renC, renCs]) | (refine wIn ?_; refine And.intro (by kernel_rfl) ?_; try simp only [thenA_n]) | (first | refine wBlock ?_ | refine wScope ?_) | ((first | refine wRet ?_ | refine wExit ?_ | refine wSkip ?_); try simp) | ((first | refine wLabel ?_ | refine wOn ?_ | refine wQn ?_); try simp only [thenA_n])
      refine hL _ M (by omega) ⟨k + 1, a3, acc ++ [[I x0]], by omega, by simp [hac], by rw [hfu]; simp, ?_⟩
      simp [g0, g1, g6, g17, g18, b0, b6, hw, lv, ouN, kpI, kpR, pos, ren, ren0, renB, renC, renCs]
    · rw [rdL_stk _ _ _ _ z] at hfu
      simp only at hfu
      rw [hfu, rO_err _ _ _ z] at ho
      rw [rO_err _ _ _ z] at c
      subst ho
      repeat' first | (refine CallK_gen [1024] c (by decide) (by decide) (by simp [blksOf, inN, pos, renB, ren0, b0]) (by simp [argsG, argG, ren0, inN, pos, renCs, renC]) ?_; simp [GenK, lv, ouN, kpI, kpR, pos, ren, ren0, renB, renC, renCs, b0]) | (refine hK _ ?_; clear hK) | (refine hK _ _ ?_; clear hK) | (clear hK; refine hK _ ?_; clear hK) | (clear hK; clear hK; refine hK _ ?_; clear hK) | (clear hK; clear hK; clear hK; refine hK _ ?_; clear hK) | (clear hK; clear hK; clear hK; clear hK; refine hK _ ?_; clear hK) | (refine wSeq fun K hK => ?_) | ((first | refine wReg ?_ | refine wDrwQ rfl (by kernel_rfl) ?_ | refine wDrwI ?_ | refine wDrw (by kernel_rfl) ?_); simp only [List.map_cons, List.map_nil, strip]) | ((first | refine wIs fun K hK => ?_ | refine wOs fun K hK => ?_ | refine wQs fun K hK => ?_ | refine CallK_plain ?_ | refine CallQ_plain ?_ | refine CallR_plain ?_ | refine wCond ?_); simp [g0, g1, g6, g17, g18, b0, b6, hlt, hlt', hw, lv, ouN, kpI, kpR, pos, ren, ren0, renB, renC, renCs]) | (refine wIn ?_; refine And.intro (by kernel_rfl) ?_; try simp only [thenA_n]) | (first | refine wBlock ?_ | refine wScope ?_) | ((first | refine wRet ?_ | refine wExit ?_ | refine wSkip ?_); try simp) | ((first | refine wLabel ?_ | refine wOn ?_ | refine wQn ?_); try simp only [thenA_n])
      all_goals try simp only [thenA_p, blockA_p]
      all_goals apply hp
      all_goals simp [AResP, outB, renB, gaN, lv, ouN, kpI, kpR, pos, ren, ren0, renC, renCs, b0]
  · have hlt' : ¬ (k : Int) < (m : Int) := by omega
    obtain rfl : N = 0 := by omega
    simp only [rdL, List.append_nil] at hfu
    rw [hfu, rO_ok, vOf1] at ho
    subst ho
    have f6 : (Av.frz st 6 1 acc).s 6 = .p (.sl 1 acc) := by simp [Av.frz, sub, sub0, g6]
    have f18 : (Av.frz st 6 1 acc).s 18 = .p (I k) := by simp [Av.frz, sub, sub0, g18]
    have f17 : (Av.frz st 6 1 acc).s 17 = .p (I m) := by simp [Av.frz, sub, sub0, g17]
    have f0 : (Av.frz st 6 1 acc).b 1024 = some (.box 160 [.p (.sl 1 (by8 b)), .p (I a2)]) := by simp [Av.frz, sub, sub0, subB, b0]
    repeat' first | (refine wFrzR 6 acc b6 ?_; generalize Av.frz st 6 1 acc = st2 at f6 f0 f17 f18 ⊢) | (refine hK _ ?_; clear hK) | (refine hK _ _ ?_; clear hK) | (clear hK; refine hK _ ?_; clear hK) | (clear hK; clear hK; refine hK _ ?_; clear hK) | (clear hK; clear hK; clear hK; refine hK _ ?_; clear hK) | (clear hK; clear hK; clear hK; clear hK; refine hK _ ?_; clear hK) | (refine wSeq fun K hK => ?_) | ((first | refine wReg ?_ | refine wDrwQ rfl (by kernel_rfl) ?_ | refine wDrwI ?_ | refine wDrw (by kernel_rfl) ?_); simp only [List.map_cons, List.map_nil, strip]) | ((first | refine wIs fun K hK => ?_ | refine wOs fun K hK => ?_ | refine wQs fun K hK => ?_ | refine CallK_plain ?_ | refine CallQ_plain ?_ | refine CallR_plain ?_ | refine wCond ?_); simp [f6, f0, f17, f18, hlt, hlt']) | (refine wIn ?_; refine And.intro (by kernel_rfl) ?_; try simp only [thenA_n]) | (first | refine wBlock ?_ | refine wScope ?_) | ((first | refine wRet ?_ | refine wExit ?_ | refine wSkip ?_); try simp) | ((first | refine wLabel ?_ | refine wOn ?_ | refine wQn ?_); try simp only [thenA_n])
    all_goals first | apply hr
    all_goals refine ⟨[], by simp, by simp, ?_⟩
    all_goals simp [Try.f111, outR, outB, renB, gaN, f6, f0]
/- Records read: configs, nodes, ops, votes. -/
set_option maxHeartbeats 8000000 in
theorem rlMb (b : List UInt8) (a : Int) (hb : b.length ≤ 1000000000) : Con Try.prog 97 [.ptr 1024 0, .p (.v (.func (.func 98) #[] #[]))] (rB b a) (rO b (vOf ((fl 4 fMb).rd b (0, a)).1) ((fl 4 fMb).rd b (0, a)).2) := by
  generalize ho : rO b (vOf ((fl 4 fMb).rd b (0, a)).1) ((fl 4 fMb).rd b (0, a)).2 = out
  have c0 := rnum b a hb
  obtain ⟨Y, hY⟩ : ∃ Y, Y = rdC b (0, a) := ⟨_, rfl⟩
  have hC := hY
  unfold rdC at hC
  change Con _ _ _ _ (rO b (.p (I (rdN b (0, a)).1)) (rdN b (0, a)).2) at c0
  obtain ⟨n, q, a1, hN⟩ : ∃ n q a1, rdN b (0, a) = (n, q, a1) := ⟨_, _, _, rfl⟩
  rw [hN] at c0 hC
  simp only at c0 hC
  have hL : (fl 4 fMb).rd b (0, a) = ([.sl 4 (rdL fMb.rd b (rdC b (0, a)).1.toNat (rdC b (0, a)).2).1], (rdL fMb.rd b (rdC b (0, a)).1.toNat (rdC b (0, a)).2).2) := rfl
  rw [hL, ← hY, hC] at ho
  clear hL hC hY
  refine wBodyG Try.tab Try.mixed Try.func97 rfl rfl Try.ntmps97 (by simp) (by simp) fun Q hr hn hp => ?_
  repeat' first | (refine hK _ ?_; clear hK) | (refine hK _ _ ?_; clear hK) | (clear hK; refine hK _ ?_; clear hK) | (clear hK; clear hK; refine hK _ ?_; clear hK) | (clear hK; clear hK; clear hK; refine hK _ ?_; clear hK) | (clear hK; clear hK; clear hK; clear hK; refine hK _ ?_; clear hK) | (refine wSeq fun K hK => ?_) | ((first | refine wReg ?_ | refine wDrwQ rfl (by kernel_rfl) ?_ | refine wDrwI ?_ | refine wDrw (by kernel_rfl) ?_); simp only [List.map_cons, List.map_nil, strip]) | ((first | refine wIs fun K hK => ?_ | refine wOs fun K hK => ?_ | refine wQs fun K hK => ?_ | refine CallQ_plain ?_ | refine CallR_plain ?_ | refine wCond ?_); simp) | (refine wIn ?_; refine And.intro (by kernel_rfl) ?_; try simp only [thenA_n]) | (first | refine wBlock ?_ | refine wScope ?_) | ((first | refine wRet ?_ | refine wExit ?_ | refine wSkip ?_); try simp) | ((first | refine wLabel ?_ | refine wOn ?_ | refine wQn ?_); try simp only [thenA_n])
  by_cases hq : q = 0
  rotate_left
  · rw [if_pos hq] at ho
    simp only [rdL_stk _ _ _ _ hq] at ho
    rw [rO_err _ _ _ hq] at ho c0
    subst ho
    refine CallK_gen [1024] c0 (by decide) (by decide) (by simp [blksOf, inN, pos, renB, ren0, ouN, lv, kpI, kpR]) (by simp [argsG, argG, ren0, inN, pos, renCs, renC]) ?_
    simp [GenK, lv, ouN, kpI, kpR, pos, ren, ren0, renB, renC, renCs]
    all_goals try simp only [thenA_p, blockA_p]
    all_goals apply hp
    all_goals simp [AResP, outB, renB, gaN, lv, ouN, kpI, kpR, pos, ren, ren0, renC, renCs]
  subst hq
  rw [if_neg (by simp)] at ho
  rw [rO_ok] at c0
  refine CallK_gen [1024] c0 (by decide) (by decide) (by simp [blksOf, inN, pos, renB, ren0, ouN, lv, kpI, kpR]) (by simp [argsG, argG, ren0, inN, pos, renCs, renC]) ⟨[], by simp, by simp, ?_⟩
  simp [lv, ouN, kpI, kpR, pos, ren, ren0, renB, renC, renCs]
  by_cases h1 : n < 0
  · have e3 := give_con 3 (by decide)
    rw [if_pos h1] at ho
    simp only [rdL_stk fMb.rd b _ (e := 3) a1 (by decide)] at ho
    rw [rO_err _ _ _ (by decide)] at ho
    subst ho
    repeat' first | (refine CallE.pan e3 ?_) | (refine hK _ ?_; clear hK) | (refine hK _ _ ?_; clear hK) | (clear hK; refine hK _ ?_; clear hK) | (clear hK; clear hK; refine hK _ ?_; clear hK) | (clear hK; clear hK; clear hK; refine hK _ ?_; clear hK) | (clear hK; clear hK; clear hK; clear hK; refine hK _ ?_; clear hK) | (refine wSeq fun K hK => ?_) | ((first | refine wReg ?_ | refine wDrwQ rfl (by kernel_rfl) ?_ | refine wDrwI ?_ | refine wDrw (by kernel_rfl) ?_); simp only [List.map_cons, List.map_nil, strip]) | ((first | refine wIs fun K hK => ?_ | refine wOs fun K hK => ?_ | refine wQs fun K hK => ?_ | refine CallK_plain ?_ | refine CallQ_plain ?_ | refine CallR_plain ?_ | refine wCond ?_); simp [h1, lv, ouN, kpI, kpR, pos, ren, ren0, renB, renC, renCs]) | (refine wIn ?_; refine And.intro (by kernel_rfl) ?_; try simp only [thenA_n]) | (first | refine wBlock ?_ | refine wScope ?_) | ((first | refine wRet ?_ | refine wExit ?_ | refine wSkip ?_); try simp) | ((first | refine wLabel ?_ | refine wOn ?_ | refine wQn ?_); try simp only [thenA_n])
    all_goals try simp only [thenA_p, blockA_p]
    all_goals apply hp
    all_goals simp [AResP, outB, renB, gaN, lv, ouN, kpI, kpR, pos, ren, ren0, renC, renCs]
  rw [if_neg h1] at ho
  by_cases h2 : 1000 < n
  · have e5 := give_con 5 (by decide)
    rw [if_pos h2] at ho
    simp only [rdL_stk fMb.rd b _ (e := 5) a1 (by decide)] at ho
    rw [rO_err _ _ _ (by decide)] at ho
    subst ho
    repeat' first | (refine CallE.pan e5 ?_) | (refine hK _ ?_; clear hK) | (refine hK _ _ ?_; clear hK) | (clear hK; refine hK _ ?_; clear hK) | (clear hK; clear hK; refine hK _ ?_; clear hK) | (clear hK; clear hK; clear hK; refine hK _ ?_; clear hK) | (clear hK; clear hK; clear hK; clear hK; refine hK _ ?_; clear hK) | (refine wSeq fun K hK => ?_) | ((first | refine wReg ?_ | refine wDrwQ rfl (by kernel_rfl) ?_ | refine wDrwI ?_ | refine wDrw (by kernel_rfl) ?_); simp only [List.map_cons, List.map_nil, strip]) | ((first | refine wIs fun K hK => ?_ | refine wOs fun K hK => ?_ | refine wQs fun K hK => ?_ | refine CallK_plain ?_ | refine CallQ_plain ?_ | refine CallR_plain ?_ | refine wCond ?_); simp [h1, h2, lv, ouN, kpI, kpR, pos, ren, ren0, renB, renC, renCs]) | (refine wIn ?_; refine And.intro (by kernel_rfl) ?_; try simp only [thenA_n]) | (first | refine wBlock ?_ | refine wScope ?_) | ((first | refine wRet ?_ | refine wExit ?_ | refine wSkip ?_); try simp) | ((first | refine wLabel ?_ | refine wOn ?_ | refine wQn ?_); try simp only [thenA_n])
    all_goals try simp only [thenA_p, blockA_p]
    all_goals apply hp
    all_goals simp [AResP, outB, renB, gaN, lv, ouN, kpI, kpR, pos, ren, ren0, renC, renCs]
  rw [if_neg h2] at ho
  simp only at ho
  obtain ⟨m, rfl⟩ : ∃ m : Nat, n = m := ⟨n.toNat, by omega⟩
  simp only [Int.toNat_natCast] at ho
  have hm : m ≤ 1000 := by omega
  repeat' first | (refine hK _ ?_; clear hK) | (refine hK _ _ ?_; clear hK) | (clear hK; refine hK _ ?_; clear hK) | (clear hK; clear hK; refine hK _ ?_; clear hK) | (clear hK; clear hK; clear hK; refine hK _ ?_; clear hK) | (clear hK; clear hK; clear hK; clear hK; refine hK _ ?_; clear hK) | (refine wSeq fun K hK => ?_) | ((first | refine wReg ?_ | refine wDrwQ rfl (by kernel_rfl) ?_ | refine wDrwI ?_ | refine wDrw (by kernel_rfl) ?_); simp only [List.map_cons, List.map_nil, strip]) | ((first | refine wIs fun K hK => ?_ | refine wOs fun K hK => ?_ | refine wQs fun K hK => ?_ | refine CallQ_plain ?_ | refine CallR_plain ?_ | refine wCond ?_); simp [h1, h2, lv, ouN, kpI, kpR, pos, ren, ren0, renB, renC, renCs]) | (refine wIn ?_; refine And.intro (by kernel_rfl) ?_; try simp only [thenA_n]) | (first | refine wBlock ?_ | refine wScope ?_) | ((first | refine wRet ?_ | refine wExit ?_ | refine wSkip ?_); try simp) | ((first | refine wLabel ?_ | refine wOn ?_ | refine wQn ?_); try simp only [thenA_n])
  generalize hF : rdL fMb.rd b m (0, a1) = full at ho
  refine wLoopG [.row 6 82 4] (fun N st => ∃ k a2 acc, k + N = m ∧ acc.length = k ∧ full = (acc ++ (rdL fMb.rd b N (0, a2)).1, (rdL fMb.rd b N (0, a2)).2) ∧ st.s 0 = .ptr 1024 0 ∧ st.s 1 = .p (.v (.func (.func 98) #[] #[])) ∧ st.s 6 = .row 6 ∧ st.s 17 = .p (I m) ∧ st.s 18 = .p (I k) ∧ st.b 1024 = some (.box 160 [.p (.sl 1 (by8 b)), .p (I a2)]) ∧ st.b 6 = some (.row 82 4 acc)) m ⟨0, a1, [], by simp [hF, lv, ouN, kpI, kpR, pos, ren, ren0, renB, renC, renCs]⟩ fun K N st hL ⟨k, a2, acc, hk, hac, hfu, g0, g1, g6, g17, g18, b0, b6⟩ => ?_
  by_cases hlt : k < m
  · have hlt' : (k : Int) < (m : Int) := by omega
    have hw := wrapS k m hlt (by omega)
    obtain ⟨M, rfl⟩ : ∃ M, N = M + 1 := ⟨N - 1, by omega⟩
    rw [rdL, if_pos rfl] at hfu
    have c := rMb b a2 hb
    obtain ⟨x0, x1, x2, x3, ⟨q, a3⟩, he⟩ := fMb_got b (0, a2)
    rw [he] at c hfu
    try simp only [vOf1, vOf2] at c
    simp only at hfu
    by_cases z : q = 0
    · subst z
      rw [rO_ok] at c
      repeat' first | (refine CallK_gen [1024] c (by decide) (by decide) (by simp [blksOf, inN, pos, renB, ren0, b0]) (by simp [argsG, argG, ren0, inN, pos, renCs, renC]) ⟨[], by simp, by simp, ?_⟩; simp [lv, ouN, kpI, kpR, pos, ren, ren0, renB, renC, renCs, b0]) | (refine And.intro (by omega) ?_) | (refine hK _ ?_; clear hK) | (refine hK _ _ ?_; clear hK) | (clear hK; refine hK _ ?_; clear hK) | (clear hK; clear hK; refine hK _ ?_; clear hK) | (clear hK; clear hK; clear hK; refine hK _ ?_; clear hK) | (clear hK; clear hK; clear hK; clear hK; refine hK _ ?_; clear hK) | (refine wSeq fun K hK => ?_) | ((first | refine wReg ?_ | refine wDrwQ rfl (by kernel_rfl) ?_ | refine wDrwI ?_ | refine wDrw (by kernel_rfl) ?_); simp only [List.map_cons, List.map_nil, strip]) | ((first | refine wIs fun K hK => ?_ | refine wOs fun K hK => ?_ | refine wQs fun K hK => ?_ | refine CallK_plain ?_ | refine CallQ_plain ?_ | refine CallR_plain ?_ | refine wCond ?_); simp [g0, g1, g6, g17, g18, b0, b6, hlt, hlt', hw, lv, ouN, kpI, kpR, pos, ren, ren0, renB, renC, renCs]) | (refine wIn ?_; refine And.intro (by kernel_rfl) ?_; try simp only [thenA_n]) | (first | refine wBlock ?_ | refine wScope ?_) | ((first | refine wRet ?_ | refine wExit ?_ | refine wSkip ?_); try simp) | ((first | refine wLabel ?_ | refine wOn ?_ | refine wQn ?_); try simp only [thenA_n])
      refine hL _ M (by omega) ⟨k + 1, a3, acc ++ [[I x0, I x1, I x2, I x3]], by omega, by simp [hac], by rw [hfu]; simp, ?_⟩
      simp [g0, g1, g6, g17, g18, b0, b6, hw, lv, ouN, kpI, kpR, pos, ren, ren0, renB, renC, renCs]
    · rw [rdL_stk _ _ _ _ z] at hfu
      simp only at hfu
      rw [hfu, rO_err _ _ _ z] at ho
      rw [rO_err _ _ _ z] at c
      subst ho
      repeat' first | (refine CallK_gen [1024] c (by decide) (by decide) (by simp [blksOf, inN, pos, renB, ren0, b0]) (by simp [argsG, argG, ren0, inN, pos, renCs, renC]) ?_; simp [GenK, lv, ouN, kpI, kpR, pos, ren, ren0, renB, renC, renCs, b0]) | (refine hK _ ?_; clear hK) | (refine hK _ _ ?_; clear hK) | (clear hK; refine hK _ ?_; clear hK) | (clear hK; clear hK; refine hK _ ?_; clear hK) | (clear hK; clear hK; clear hK; refine hK _ ?_; clear hK) | (clear hK; clear hK; clear hK; clear hK; refine hK _ ?_; clear hK) | (refine wSeq fun K hK => ?_) | ((first | refine wReg ?_ | refine wDrwQ rfl (by kernel_rfl) ?_ | refine wDrwI ?_ | refine wDrw (by kernel_rfl) ?_); simp only [List.map_cons, List.map_nil, strip]) | ((first | refine wIs fun K hK => ?_ | refine wOs fun K hK => ?_ | refine wQs fun K hK => ?_ | refine CallK_plain ?_ | refine CallQ_plain ?_ | refine CallR_plain ?_ | refine wCond ?_); simp [g0, g1, g6, g17, g18, b0, b6, hlt, hlt', hw, lv, ouN, kpI, kpR, pos, ren, ren0, renB, renC, renCs]) | (refine wIn ?_; refine And.intro (by kernel_rfl) ?_; try simp only [thenA_n]) | (first | refine wBlock ?_ | refine wScope ?_) | ((first | refine wRet ?_ | refine wExit ?_ | refine wSkip ?_); try simp) | ((first | refine wLabel ?_ | refine wOn ?_ | refine wQn ?_); try simp only [thenA_n])
      all_goals try simp only [thenA_p, blockA_p]
      all_goals apply hp
      all_goals simp [AResP, outB, renB, gaN, lv, ouN, kpI, kpR, pos, ren, ren0, renC, renCs, b0]
  · have hlt' : ¬ (k : Int) < (m : Int) := by omega
    obtain rfl : N = 0 := by omega
    simp only [rdL, List.append_nil] at hfu
    rw [hfu, rO_ok, vOf1] at ho
    subst ho
    have f6 : (Av.frz st 6 4 acc).s 6 = .p (.sl 4 acc) := by simp [Av.frz, sub, sub0, g6]
    have f18 : (Av.frz st 6 4 acc).s 18 = .p (I k) := by simp [Av.frz, sub, sub0, g18]
    have f17 : (Av.frz st 6 4 acc).s 17 = .p (I m) := by simp [Av.frz, sub, sub0, g17]
    have f0 : (Av.frz st 6 4 acc).b 1024 = some (.box 160 [.p (.sl 1 (by8 b)), .p (I a2)]) := by simp [Av.frz, sub, sub0, subB, b0]
    repeat' first | (refine wFrzR 6 acc b6 ?_; generalize Av.frz st 6 4 acc = st2 at f6 f0 f17 f18 ⊢) | (refine hK _ ?_; clear hK) | (refine hK _ _ ?_; clear hK) | (clear hK; refine hK _ ?_; clear hK) | (clear hK; clear hK; refine hK _ ?_; clear hK) | (clear hK; clear hK; clear hK; refine hK _ ?_; clear hK) | (clear hK; clear hK; clear hK; clear hK; refine hK _ ?_; clear hK) | (refine wSeq fun K hK => ?_) | ((first | refine wReg ?_ | refine wDrwQ rfl (by kernel_rfl) ?_ | refine wDrwI ?_ | refine wDrw (by kernel_rfl) ?_); simp only [List.map_cons, List.map_nil, strip]) | ((first | refine wIs fun K hK => ?_ | refine wOs fun K hK => ?_ | refine wQs fun K hK => ?_ | refine CallK_plain ?_ | refine CallQ_plain ?_ | refine CallR_plain ?_ | refine wCond ?_); simp [f6, f0, f17, f18, hlt, hlt']) | (refine wIn ?_; refine And.intro (by kernel_rfl) ?_; try simp only [thenA_n]) | (first | refine wBlock ?_ | refine wScope ?_) | ((first | refine wRet ?_ | refine wExit ?_ | refine wSkip ?_); try simp) | ((first | refine wLabel ?_ | refine wOn ?_ | refine wQn ?_); try simp only [thenA_n])
    all_goals first | apply hr
    all_goals refine ⟨[], by simp, by simp, ?_⟩
    all_goals simp [Try.f97, outR, outB, renB, gaN, f6, f0]
set_option maxHeartbeats 4000000 in
theorem rCf : RCn 61 fCf := by
  intro b a hb
  generalize ho : rO b (vOf (fCf.rd b (0, a)).1) (fCf.rd b (0, a)).2 = out
  have c0 := rZx b a hb
  refine wBodyG Try.tab Try.mixed Try.func61 rfl rfl Try.ntmps61 (by simp) (by simp) fun Q hr hn hp => ?_
  repeat' first | (refine hK _ ?_; clear hK) | (refine hK _ _ ?_; clear hK) | (clear hK; refine hK _ ?_; clear hK) | (clear hK; clear hK; refine hK _ ?_; clear hK) | (clear hK; clear hK; clear hK; refine hK _ ?_; clear hK) | (clear hK; clear hK; clear hK; clear hK; refine hK _ ?_; clear hK) | (refine wSeq fun K hK => ?_) | ((first | refine wReg ?_ | refine wDrwQ rfl (by kernel_rfl) ?_ | refine wDrwI ?_ | refine wDrw (by kernel_rfl) ?_); simp only [List.map_cons, List.map_nil, strip]) | ((first | refine wIs fun K hK => ?_ | refine wOs fun K hK => ?_ | refine wQs fun K hK => ?_ | refine CallQ_plain ?_ | refine CallR_plain ?_ | refine wCond ?_); simp) | (refine wIn ?_; refine And.intro (by kernel_rfl) ?_; try simp only [thenA_n]) | (first | refine wBlock ?_ | refine wScope ?_) | ((first | refine wRet ?_ | refine wExit ?_ | refine wSkip ?_); try simp) | ((first | refine wLabel ?_ | refine wOn ?_ | refine wQn ?_); try simp only [thenA_n])
  obtain ⟨x0, x1, ⟨q0, a0⟩, e0⟩ := fZx_got b (0, a)
  rw [e0] at c0
  simp only [vOf1, vOf2] at c0
  by_cases z0 : q0 = 0
  rotate_left
  · have hz : (fCf.rd b (0, a)).2 = (q0, a0) := by simp only [fCf, sq_rd, e0, foI_L.stk b q0 a0 z0, (fl_L fMb_L 4).stk b q0 a0 z0]
    rw [hz, rO_err _ _ _ z0] at ho
    subst ho
    rw [rO_err _ _ _ z0] at c0
    refine CallK_gen [1024] c0 (by decide) (by decide) (by simp [blksOf, inN, pos, renB, ren0, ouN, lv, kpI, kpR]) (by simp [argsG, argG, ren0, inN, pos, renCs, renC]) ?_
    simp [GenK, lv, ouN, kpI, kpR, pos, ren, ren0, renB, renC, renCs]
    all_goals try simp only [thenA_p, blockA_p]
    all_goals apply hp
    all_goals simp [AResP, outB, renB, gaN, lv, ouN, kpI, kpR, pos, ren, ren0, renC, renCs]
  subst z0
  rw [rO_ok] at c0
  refine CallK_gen [1024] c0 (by decide) (by decide) (by simp [blksOf, inN, pos, renB, ren0, ouN, lv, kpI, kpR]) (by simp [argsG, argG, ren0, inN, pos, renCs, renC]) ⟨[], by simp, by simp, ?_⟩
  simp [lv, ouN, kpI, kpR, pos, ren, ren0, renB, renC, renCs]
  repeat' first | (refine hK _ ?_; clear hK) | (refine hK _ _ ?_; clear hK) | (clear hK; refine hK _ ?_; clear hK) | (clear hK; clear hK; refine hK _ ?_; clear hK) | (clear hK; clear hK; clear hK; refine hK _ ?_; clear hK) | (clear hK; clear hK; clear hK; clear hK; refine hK _ ?_; clear hK) | (refine wSeq fun K hK => ?_) | ((first | refine wReg ?_ | refine wDrwQ rfl (by kernel_rfl) ?_ | refine wDrwI ?_ | refine wDrw (by kernel_rfl) ?_); simp only [List.map_cons, List.map_nil, strip]) | ((first | refine wIs fun K hK => ?_ | refine wOs fun K hK => ?_ | refine wQs fun K hK => ?_ | refine CallQ_plain ?_ | refine CallR_plain ?_ | refine wCond ?_); simp [lv, ouN, kpI, kpR, pos, ren, ren0, renB, renC, renCs]) | (refine wIn ?_; refine And.intro (by kernel_rfl) ?_; try simp only [thenA_n]) | (first | refine wBlock ?_ | refine wScope ?_) | ((first | refine wRet ?_ | refine wExit ?_ | refine wSkip ?_); try simp) | ((first | refine wLabel ?_ | refine wOn ?_ | refine wQn ?_); try simp only [thenA_n])
  have c1 := rnum b a0 hb
  obtain ⟨x2, ⟨q1, a1⟩, e1⟩ := foI_got b (0, a0)
  rw [e1] at c1
  simp only [vOf1, vOf2] at c1
  by_cases z1 : q1 = 0
  rotate_left
  · have hz : (fCf.rd b (0, a)).2 = (q1, a1) := by simp only [fCf, sq_rd, e0, e1, (fl_L fMb_L 4).stk b q1 a1 z1]
    rw [hz, rO_err _ _ _ z1] at ho
    subst ho
    rw [rO_err _ _ _ z1] at c1
    refine CallK_gen [1024] c1 (by decide) (by decide) (by simp [blksOf, inN, pos, renB, ren0, ouN, lv, kpI, kpR]) (by simp [argsG, argG, ren0, inN, pos, renCs, renC]) ?_
    simp [GenK, lv, ouN, kpI, kpR, pos, ren, ren0, renB, renC, renCs]
    all_goals try simp only [thenA_p, blockA_p]
    all_goals apply hp
    all_goals simp [AResP, outB, renB, gaN, lv, ouN, kpI, kpR, pos, ren, ren0, renC, renCs]
  subst z1
  rw [rO_ok] at c1
  refine CallK_gen [1024] c1 (by decide) (by decide) (by simp [blksOf, inN, pos, renB, ren0, ouN, lv, kpI, kpR]) (by simp [argsG, argG, ren0, inN, pos, renCs, renC]) ⟨[], by simp, by simp, ?_⟩
  simp [lv, ouN, kpI, kpR, pos, ren, ren0, renB, renC, renCs]
  repeat' first | (refine hK _ ?_; clear hK) | (refine hK _ _ ?_; clear hK) | (clear hK; refine hK _ ?_; clear hK) | (clear hK; clear hK; refine hK _ ?_; clear hK) | (clear hK; clear hK; clear hK; refine hK _ ?_; clear hK) | (clear hK; clear hK; clear hK; clear hK; refine hK _ ?_; clear hK) | (refine wSeq fun K hK => ?_) | ((first | refine wReg ?_ | refine wDrwQ rfl (by kernel_rfl) ?_ | refine wDrwI ?_ | refine wDrw (by kernel_rfl) ?_); simp only [List.map_cons, List.map_nil, strip]) | ((first | refine wIs fun K hK => ?_ | refine wOs fun K hK => ?_ | refine wQs fun K hK => ?_ | refine CallQ_plain ?_ | refine CallR_plain ?_ | refine wCond ?_); simp [lv, ouN, kpI, kpR, pos, ren, ren0, renB, renC, renCs]) | (refine wIn ?_; refine And.intro (by kernel_rfl) ?_; try simp only [thenA_n]) | (first | refine wBlock ?_ | refine wScope ?_) | ((first | refine wRet ?_ | refine wExit ?_ | refine wSkip ?_); try simp) | ((first | refine wLabel ?_ | refine wOn ?_ | refine wQn ?_); try simp only [thenA_n])
  have c2 := rlMb b a1 hb
  obtain ⟨x3, ⟨q2, a2⟩, e2⟩ := fl_got 4 fMb b (0, a1)
  rw [e2] at c2
  simp only [vOf1, vOf2] at c2
  by_cases z2 : q2 = 0
  rotate_left
  · have hz : (fCf.rd b (0, a)).2 = (q2, a2) := by simp only [fCf, sq_rd, e0, e1, e2]
    rw [hz, rO_err _ _ _ z2] at ho
    subst ho
    rw [rO_err _ _ _ z2] at c2
    refine CallK_gen [1024] c2 (by decide) (by decide) (by simp [blksOf, inN, pos, renB, ren0, ouN, lv, kpI, kpR]) (by simp [argsG, argG, ren0, inN, pos, renCs, renC]) ?_
    simp [GenK, lv, ouN, kpI, kpR, pos, ren, ren0, renB, renC, renCs]
    all_goals try simp only [thenA_p, blockA_p]
    all_goals apply hp
    all_goals simp [AResP, outB, renB, gaN, lv, ouN, kpI, kpR, pos, ren, ren0, renC, renCs]
  subst z2
  rw [rO_ok] at c2
  refine CallK_gen [1024] c2 (by decide) (by decide) (by simp [blksOf, inN, pos, renB, ren0, ouN, lv, kpI, kpR]) (by simp [argsG, argG, ren0, inN, pos, renCs, renC]) ⟨[], by simp, by simp, ?_⟩
  simp [lv, ouN, kpI, kpR, pos, ren, ren0, renB, renC, renCs]
  repeat' first | (refine hK _ ?_; clear hK) | (refine hK _ _ ?_; clear hK) | (clear hK; refine hK _ ?_; clear hK) | (clear hK; clear hK; refine hK _ ?_; clear hK) | (clear hK; clear hK; clear hK; refine hK _ ?_; clear hK) | (clear hK; clear hK; clear hK; clear hK; refine hK _ ?_; clear hK) | (refine wSeq fun K hK => ?_) | ((first | refine wReg ?_ | refine wDrwQ rfl (by kernel_rfl) ?_ | refine wDrwI ?_ | refine wDrw (by kernel_rfl) ?_); simp only [List.map_cons, List.map_nil, strip]) | ((first | refine wIs fun K hK => ?_ | refine wOs fun K hK => ?_ | refine wQs fun K hK => ?_ | refine CallQ_plain ?_ | refine CallR_plain ?_ | refine wCond ?_); simp [lv, ouN, kpI, kpR, pos, ren, ren0, renB, renC, renCs]) | (refine wIn ?_; refine And.intro (by kernel_rfl) ?_; try simp only [thenA_n]) | (first | refine wBlock ?_ | refine wScope ?_) | ((first | refine wRet ?_ | refine wExit ?_ | refine wSkip ?_); try simp) | ((first | refine wLabel ?_ | refine wOn ?_ | refine wQn ?_); try simp only [thenA_n])
  have hz : fCf.rd b (0, a) = ([I x0, I x1, I x2, .sl 4 x3], 0, a2) := by simp only [fCf, sq_rd, e0, e1, e2, List.cons_append, List.nil_append]
  rw [hz] at ho
  simp only [rO_ok, vOf2] at ho
  subst ho
  all_goals first | apply hr
  all_goals refine ⟨[], by simp, by simp, ?_⟩
  all_goals simp [Try.f61, outR, outB, renB, gaN, lv, ouN, kpI, kpR, pos, ren, ren0, renC, renCs]
set_option maxHeartbeats 4000000 in
theorem rNd : RCn 110 fNd := by
  intro b a hb
  generalize ho : rO b (vOf (fNd.rd b (0, a)).1) (fNd.rd b (0, a)).2 = out
  have c0 := rtext b a hb
  refine wBodyG Try.tab Try.mixed Try.func110 rfl rfl Try.ntmps110 (by simp) (by simp) fun Q hr hn hp => ?_
  repeat' first | (refine hK _ ?_; clear hK) | (refine hK _ _ ?_; clear hK) | (clear hK; refine hK _ ?_; clear hK) | (clear hK; clear hK; refine hK _ ?_; clear hK) | (clear hK; clear hK; clear hK; refine hK _ ?_; clear hK) | (clear hK; clear hK; clear hK; clear hK; refine hK _ ?_; clear hK) | (refine wSeq fun K hK => ?_) | ((first | refine wReg ?_ | refine wDrwQ rfl (by kernel_rfl) ?_ | refine wDrwI ?_ | refine wDrw (by kernel_rfl) ?_); simp only [List.map_cons, List.map_nil, strip]) | ((first | refine wIs fun K hK => ?_ | refine wOs fun K hK => ?_ | refine wQs fun K hK => ?_ | refine CallQ_plain ?_ | refine CallR_plain ?_ | refine wCond ?_); simp) | (refine wIn ?_; refine And.intro (by kernel_rfl) ?_; try simp only [thenA_n]) | (first | refine wBlock ?_ | refine wScope ?_) | ((first | refine wRet ?_ | refine wExit ?_ | refine wSkip ?_); try simp) | ((first | refine wLabel ?_ | refine wOn ?_ | refine wQn ?_); try simp only [thenA_n])
  obtain ⟨x0, ⟨q0, a0⟩, e0⟩ := foS_got b (0, a)
  rw [e0] at c0
  simp only [vOf1, vOf2] at c0
  by_cases z0 : q0 = 0
  rotate_left
  · have hz : (fNd.rd b (0, a)).2 = (q0, a0) := by simp only [fNd, sq_rd, e0, foS_L.stk b q0 a0 z0, foI_L.stk b q0 a0 z0]
    rw [hz, rO_err _ _ _ z0] at ho
    subst ho
    rw [rO_err _ _ _ z0] at c0
    refine CallK_gen [1024] c0 (by decide) (by decide) (by simp [blksOf, inN, pos, renB, ren0, ouN, lv, kpI, kpR]) (by simp [argsG, argG, ren0, inN, pos, renCs, renC]) ?_
    simp [GenK, lv, ouN, kpI, kpR, pos, ren, ren0, renB, renC, renCs]
    all_goals try simp only [thenA_p, blockA_p]
    all_goals apply hp
    all_goals simp [AResP, outB, renB, gaN, lv, ouN, kpI, kpR, pos, ren, ren0, renC, renCs]
  subst z0
  rw [rO_ok] at c0
  refine CallK_gen [1024] c0 (by decide) (by decide) (by simp [blksOf, inN, pos, renB, ren0, ouN, lv, kpI, kpR]) (by simp [argsG, argG, ren0, inN, pos, renCs, renC]) ⟨[], by simp, by simp, ?_⟩
  simp [lv, ouN, kpI, kpR, pos, ren, ren0, renB, renC, renCs]
  repeat' first | (refine hK _ ?_; clear hK) | (refine hK _ _ ?_; clear hK) | (clear hK; refine hK _ ?_; clear hK) | (clear hK; clear hK; refine hK _ ?_; clear hK) | (clear hK; clear hK; clear hK; refine hK _ ?_; clear hK) | (clear hK; clear hK; clear hK; clear hK; refine hK _ ?_; clear hK) | (refine wSeq fun K hK => ?_) | ((first | refine wReg ?_ | refine wDrwQ rfl (by kernel_rfl) ?_ | refine wDrwI ?_ | refine wDrw (by kernel_rfl) ?_); simp only [List.map_cons, List.map_nil, strip]) | ((first | refine wIs fun K hK => ?_ | refine wOs fun K hK => ?_ | refine wQs fun K hK => ?_ | refine CallQ_plain ?_ | refine CallR_plain ?_ | refine wCond ?_); simp [lv, ouN, kpI, kpR, pos, ren, ren0, renB, renC, renCs]) | (refine wIn ?_; refine And.intro (by kernel_rfl) ?_; try simp only [thenA_n]) | (first | refine wBlock ?_ | refine wScope ?_) | ((first | refine wRet ?_ | refine wExit ?_ | refine wSkip ?_); try simp) | ((first | refine wLabel ?_ | refine wOn ?_ | refine wQn ?_); try simp only [thenA_n])
  have c1 := rtext b a0 hb
  obtain ⟨x1, ⟨q1, a1⟩, e1⟩ := foS_got b (0, a0)
  rw [e1] at c1
  simp only [vOf1, vOf2] at c1
  by_cases z1 : q1 = 0
  rotate_left
  · have hz : (fNd.rd b (0, a)).2 = (q1, a1) := by simp only [fNd, sq_rd, e0, e1, foI_L.stk b q1 a1 z1]
    rw [hz, rO_err _ _ _ z1] at ho
    subst ho
    rw [rO_err _ _ _ z1] at c1
    refine CallK_gen [1024] c1 (by decide) (by decide) (by simp [blksOf, inN, pos, renB, ren0, ouN, lv, kpI, kpR]) (by simp [argsG, argG, ren0, inN, pos, renCs, renC]) ?_
    simp [GenK, lv, ouN, kpI, kpR, pos, ren, ren0, renB, renC, renCs]
    all_goals try simp only [thenA_p, blockA_p]
    all_goals apply hp
    all_goals simp [AResP, outB, renB, gaN, lv, ouN, kpI, kpR, pos, ren, ren0, renC, renCs]
  subst z1
  rw [rO_ok] at c1
  refine CallK_gen [1024] c1 (by decide) (by decide) (by simp [blksOf, inN, pos, renB, ren0, ouN, lv, kpI, kpR]) (by simp [argsG, argG, ren0, inN, pos, renCs, renC]) ⟨[], by simp, by simp, ?_⟩
  simp [lv, ouN, kpI, kpR, pos, ren, ren0, renB, renC, renCs]
  repeat' first | (refine hK _ ?_; clear hK) | (refine hK _ _ ?_; clear hK) | (clear hK; refine hK _ ?_; clear hK) | (clear hK; clear hK; refine hK _ ?_; clear hK) | (clear hK; clear hK; clear hK; refine hK _ ?_; clear hK) | (clear hK; clear hK; clear hK; clear hK; refine hK _ ?_; clear hK) | (refine wSeq fun K hK => ?_) | ((first | refine wReg ?_ | refine wDrwQ rfl (by kernel_rfl) ?_ | refine wDrwI ?_ | refine wDrw (by kernel_rfl) ?_); simp only [List.map_cons, List.map_nil, strip]) | ((first | refine wIs fun K hK => ?_ | refine wOs fun K hK => ?_ | refine wQs fun K hK => ?_ | refine CallQ_plain ?_ | refine CallR_plain ?_ | refine wCond ?_); simp [lv, ouN, kpI, kpR, pos, ren, ren0, renB, renC, renCs]) | (refine wIn ?_; refine And.intro (by kernel_rfl) ?_; try simp only [thenA_n]) | (first | refine wBlock ?_ | refine wScope ?_) | ((first | refine wRet ?_ | refine wExit ?_ | refine wSkip ?_); try simp) | ((first | refine wLabel ?_ | refine wOn ?_ | refine wQn ?_); try simp only [thenA_n])
  have c2 := rnum b a1 hb
  obtain ⟨x2, ⟨q2, a2⟩, e2⟩ := foI_got b (0, a1)
  rw [e2] at c2
  simp only [vOf1, vOf2] at c2
  by_cases z2 : q2 = 0
  rotate_left
  · have hz : (fNd.rd b (0, a)).2 = (q2, a2) := by simp only [fNd, sq_rd, e0, e1, e2, foI_L.stk b q2 a2 z2]
    rw [hz, rO_err _ _ _ z2] at ho
    subst ho
    rw [rO_err _ _ _ z2] at c2
    refine CallK_gen [1024] c2 (by decide) (by decide) (by simp [blksOf, inN, pos, renB, ren0, ouN, lv, kpI, kpR]) (by simp [argsG, argG, ren0, inN, pos, renCs, renC]) ?_
    simp [GenK, lv, ouN, kpI, kpR, pos, ren, ren0, renB, renC, renCs]
    all_goals try simp only [thenA_p, blockA_p]
    all_goals apply hp
    all_goals simp [AResP, outB, renB, gaN, lv, ouN, kpI, kpR, pos, ren, ren0, renC, renCs]
  subst z2
  rw [rO_ok] at c2
  refine CallK_gen [1024] c2 (by decide) (by decide) (by simp [blksOf, inN, pos, renB, ren0, ouN, lv, kpI, kpR]) (by simp [argsG, argG, ren0, inN, pos, renCs, renC]) ⟨[], by simp, by simp, ?_⟩
  simp [lv, ouN, kpI, kpR, pos, ren, ren0, renB, renC, renCs]
  repeat' first | (refine hK _ ?_; clear hK) | (refine hK _ _ ?_; clear hK) | (clear hK; refine hK _ ?_; clear hK) | (clear hK; clear hK; refine hK _ ?_; clear hK) | (clear hK; clear hK; clear hK; refine hK _ ?_; clear hK) | (clear hK; clear hK; clear hK; clear hK; refine hK _ ?_; clear hK) | (refine wSeq fun K hK => ?_) | ((first | refine wReg ?_ | refine wDrwQ rfl (by kernel_rfl) ?_ | refine wDrwI ?_ | refine wDrw (by kernel_rfl) ?_); simp only [List.map_cons, List.map_nil, strip]) | ((first | refine wIs fun K hK => ?_ | refine wOs fun K hK => ?_ | refine wQs fun K hK => ?_ | refine CallQ_plain ?_ | refine CallR_plain ?_ | refine wCond ?_); simp [lv, ouN, kpI, kpR, pos, ren, ren0, renB, renC, renCs]) | (refine wIn ?_; refine And.intro (by kernel_rfl) ?_; try simp only [thenA_n]) | (first | refine wBlock ?_ | refine wScope ?_) | ((first | refine wRet ?_ | refine wExit ?_ | refine wSkip ?_); try simp) | ((first | refine wLabel ?_ | refine wOn ?_ | refine wQn ?_); try simp only [thenA_n])
  have c3 := rnum b a2 hb
  obtain ⟨x3, ⟨q3, a3⟩, e3⟩ := foI_got b (0, a2)
  rw [e3] at c3
  simp only [vOf1, vOf2] at c3
  by_cases z3 : q3 = 0
  rotate_left
  · have hz : (fNd.rd b (0, a)).2 = (q3, a3) := by simp only [fNd, sq_rd, e0, e1, e2, e3, foI_L.stk b q3 a3 z3]
    rw [hz, rO_err _ _ _ z3] at ho
    subst ho
    rw [rO_err _ _ _ z3] at c3
    refine CallK_gen [1024] c3 (by decide) (by decide) (by simp [blksOf, inN, pos, renB, ren0, ouN, lv, kpI, kpR]) (by simp [argsG, argG, ren0, inN, pos, renCs, renC]) ?_
    simp [GenK, lv, ouN, kpI, kpR, pos, ren, ren0, renB, renC, renCs]
    all_goals try simp only [thenA_p, blockA_p]
    all_goals apply hp
    all_goals simp [AResP, outB, renB, gaN, lv, ouN, kpI, kpR, pos, ren, ren0, renC, renCs]
  subst z3
  rw [rO_ok] at c3
  refine CallK_gen [1024] c3 (by decide) (by decide) (by simp [blksOf, inN, pos, renB, ren0, ouN, lv, kpI, kpR]) (by simp [argsG, argG, ren0, inN, pos, renCs, renC]) ⟨[], by simp, by simp, ?_⟩
  simp [lv, ouN, kpI, kpR, pos, ren, ren0, renB, renC, renCs]
  repeat' first | (refine hK _ ?_; clear hK) | (refine hK _ _ ?_; clear hK) | (clear hK; refine hK _ ?_; clear hK) | (clear hK; clear hK; refine hK _ ?_; clear hK) | (clear hK; clear hK; clear hK; refine hK _ ?_; clear hK) | (clear hK; clear hK; clear hK; clear hK; refine hK _ ?_; clear hK) | (refine wSeq fun K hK => ?_) | ((first | refine wReg ?_ | refine wDrwQ rfl (by kernel_rfl) ?_ | refine wDrwI ?_ | refine wDrw (by kernel_rfl) ?_); simp only [List.map_cons, List.map_nil, strip]) | ((first | refine wIs fun K hK => ?_ | refine wOs fun K hK => ?_ | refine wQs fun K hK => ?_ | refine CallQ_plain ?_ | refine CallR_plain ?_ | refine wCond ?_); simp [lv, ouN, kpI, kpR, pos, ren, ren0, renB, renC, renCs]) | (refine wIn ?_; refine And.intro (by kernel_rfl) ?_; try simp only [thenA_n]) | (first | refine wBlock ?_ | refine wScope ?_) | ((first | refine wRet ?_ | refine wExit ?_ | refine wSkip ?_); try simp) | ((first | refine wLabel ?_ | refine wOn ?_ | refine wQn ?_); try simp only [thenA_n])
  have c4 := rnum b a3 hb
  obtain ⟨x4, ⟨q4, a4⟩, e4⟩ := foI_got b (0, a3)
  rw [e4] at c4
  simp only [vOf1, vOf2] at c4
  by_cases z4 : q4 = 0
  rotate_left
  · have hz : (fNd.rd b (0, a)).2 = (q4, a4) := by simp only [fNd, sq_rd, e0, e1, e2, e3, e4]
    rw [hz, rO_err _ _ _ z4] at ho
    subst ho
    rw [rO_err _ _ _ z4] at c4
    refine CallK_gen [1024] c4 (by decide) (by decide) (by simp [blksOf, inN, pos, renB, ren0, ouN, lv, kpI, kpR]) (by simp [argsG, argG, ren0, inN, pos, renCs, renC]) ?_
    simp [GenK, lv, ouN, kpI, kpR, pos, ren, ren0, renB, renC, renCs]
    all_goals try simp only [thenA_p, blockA_p]
    all_goals apply hp
    all_goals simp [AResP, outB, renB, gaN, lv, ouN, kpI, kpR, pos, ren, ren0, renC, renCs]
  subst z4
  rw [rO_ok] at c4
  refine CallK_gen [1024] c4 (by decide) (by decide) (by simp [blksOf, inN, pos, renB, ren0, ouN, lv, kpI, kpR]) (by simp [argsG, argG, ren0, inN, pos, renCs, renC]) ⟨[], by simp, by simp, ?_⟩
  simp [lv, ouN, kpI, kpR, pos, ren, ren0, renB, renC, renCs]
  repeat' first | (refine hK _ ?_; clear hK) | (refine hK _ _ ?_; clear hK) | (clear hK; refine hK _ ?_; clear hK) | (clear hK; clear hK; refine hK _ ?_; clear hK) | (clear hK; clear hK; clear hK; refine hK _ ?_; clear hK) | (clear hK; clear hK; clear hK; clear hK; refine hK _ ?_; clear hK) | (refine wSeq fun K hK => ?_) | ((first | refine wReg ?_ | refine wDrwQ rfl (by kernel_rfl) ?_ | refine wDrwI ?_ | refine wDrw (by kernel_rfl) ?_); simp only [List.map_cons, List.map_nil, strip]) | ((first | refine wIs fun K hK => ?_ | refine wOs fun K hK => ?_ | refine wQs fun K hK => ?_ | refine CallQ_plain ?_ | refine CallR_plain ?_ | refine wCond ?_); simp [lv, ouN, kpI, kpR, pos, ren, ren0, renB, renC, renCs]) | (refine wIn ?_; refine And.intro (by kernel_rfl) ?_; try simp only [thenA_n]) | (first | refine wBlock ?_ | refine wScope ?_) | ((first | refine wRet ?_ | refine wExit ?_ | refine wSkip ?_); try simp) | ((first | refine wLabel ?_ | refine wOn ?_ | refine wQn ?_); try simp only [thenA_n])
  have hz : fNd.rd b (0, a) = ([SB x0, SB x1, I x2, I x3, I x4], 0, a4) := by simp only [fNd, sq_rd, e0, e1, e2, e3, e4, List.cons_append, List.nil_append]
  rw [hz] at ho
  simp only [rO_ok, vOf2] at ho
  subst ho
  all_goals first | apply hr
  all_goals refine ⟨[], by simp, by simp, ?_⟩
  all_goals simp [Try.f110, outR, outB, renB, gaN, lv, ouN, kpI, kpR, pos, ren, ren0, renC, renCs]
set_option maxHeartbeats 4000000 in
theorem rOp : RCn 116 fOp := by
  intro b a hb
  generalize ho : rO b (vOf (fOp.rd b (0, a)).1) (fOp.rd b (0, a)).2 = out
  have c0 := rnum b a hb
  refine wBodyG Try.tab Try.mixed Try.func116 rfl rfl Try.ntmps116 (by simp) (by simp) fun Q hr hn hp => ?_
  repeat' first | (refine hK _ ?_; clear hK) | (refine hK _ _ ?_; clear hK) | (clear hK; refine hK _ ?_; clear hK) | (clear hK; clear hK; refine hK _ ?_; clear hK) | (clear hK; clear hK; clear hK; refine hK _ ?_; clear hK) | (clear hK; clear hK; clear hK; clear hK; refine hK _ ?_; clear hK) | (refine wSeq fun K hK => ?_) | ((first | refine wReg ?_ | refine wDrwQ rfl (by kernel_rfl) ?_ | refine wDrwI ?_ | refine wDrw (by kernel_rfl) ?_); simp only [List.map_cons, List.map_nil, strip]) | ((first | refine wIs fun K hK => ?_ | refine wOs fun K hK => ?_ | refine wQs fun K hK => ?_ | refine CallQ_plain ?_ | refine CallR_plain ?_ | refine wCond ?_); simp) | (refine wIn ?_; refine And.intro (by kernel_rfl) ?_; try simp only [thenA_n]) | (first | refine wBlock ?_ | refine wScope ?_) | ((first | refine wRet ?_ | refine wExit ?_ | refine wSkip ?_); try simp) | ((first | refine wLabel ?_ | refine wOn ?_ | refine wQn ?_); try simp only [thenA_n])
  obtain ⟨x0, ⟨q0, a0⟩, e0⟩ := foI_got b (0, a)
  rw [e0] at c0
  simp only [vOf1, vOf2] at c0
  by_cases z0 : q0 = 0
  rotate_left
  · have hz : (fOp.rd b (0, a)).2 = (q0, a0) := by simp only [fOp, sq_rd, e0, foS_L.stk b q0 a0 z0, foI_L.stk b q0 a0 z0, foB_L.stk b q0 a0 z0]
    rw [hz, rO_err _ _ _ z0] at ho
    subst ho
    rw [rO_err _ _ _ z0] at c0
    refine CallK_gen [1024] c0 (by decide) (by decide) (by simp [blksOf, inN, pos, renB, ren0, ouN, lv, kpI, kpR]) (by simp [argsG, argG, ren0, inN, pos, renCs, renC]) ?_
    simp [GenK, lv, ouN, kpI, kpR, pos, ren, ren0, renB, renC, renCs]
    all_goals try simp only [thenA_p, blockA_p]
    all_goals apply hp
    all_goals simp [AResP, outB, renB, gaN, lv, ouN, kpI, kpR, pos, ren, ren0, renC, renCs]
  subst z0
  rw [rO_ok] at c0
  refine CallK_gen [1024] c0 (by decide) (by decide) (by simp [blksOf, inN, pos, renB, ren0, ouN, lv, kpI, kpR]) (by simp [argsG, argG, ren0, inN, pos, renCs, renC]) ⟨[], by simp, by simp, ?_⟩
  simp [lv, ouN, kpI, kpR, pos, ren, ren0, renB, renC, renCs]
  repeat' first | (refine hK _ ?_; clear hK) | (refine hK _ _ ?_; clear hK) | (clear hK; refine hK _ ?_; clear hK) | (clear hK; clear hK; refine hK _ ?_; clear hK) | (clear hK; clear hK; clear hK; refine hK _ ?_; clear hK) | (clear hK; clear hK; clear hK; clear hK; refine hK _ ?_; clear hK) | (refine wSeq fun K hK => ?_) | ((first | refine wReg ?_ | refine wDrwQ rfl (by kernel_rfl) ?_ | refine wDrwI ?_ | refine wDrw (by kernel_rfl) ?_); simp only [List.map_cons, List.map_nil, strip]) | ((first | refine wIs fun K hK => ?_ | refine wOs fun K hK => ?_ | refine wQs fun K hK => ?_ | refine CallQ_plain ?_ | refine CallR_plain ?_ | refine wCond ?_); simp [lv, ouN, kpI, kpR, pos, ren, ren0, renB, renC, renCs]) | (refine wIn ?_; refine And.intro (by kernel_rfl) ?_; try simp only [thenA_n]) | (first | refine wBlock ?_ | refine wScope ?_) | ((first | refine wRet ?_ | refine wExit ?_ | refine wSkip ?_); try simp) | ((first | refine wLabel ?_ | refine wOn ?_ | refine wQn ?_); try simp only [thenA_n])
  have c1 := rtext b a0 hb
  obtain ⟨x1, ⟨q1, a1⟩, e1⟩ := foS_got b (0, a0)
  rw [e1] at c1
  simp only [vOf1, vOf2] at c1
  by_cases z1 : q1 = 0
  rotate_left
  · have hz : (fOp.rd b (0, a)).2 = (q1, a1) := by simp only [fOp, sq_rd, e0, e1, foS_L.stk b q1 a1 z1, foI_L.stk b q1 a1 z1, foB_L.stk b q1 a1 z1]
    rw [hz, rO_err _ _ _ z1] at ho
    subst ho
    rw [rO_err _ _ _ z1] at c1
    refine CallK_gen [1024] c1 (by decide) (by decide) (by simp [blksOf, inN, pos, renB, ren0, ouN, lv, kpI, kpR]) (by simp [argsG, argG, ren0, inN, pos, renCs, renC]) ?_
    simp [GenK, lv, ouN, kpI, kpR, pos, ren, ren0, renB, renC, renCs]
    all_goals try simp only [thenA_p, blockA_p]
    all_goals apply hp
    all_goals simp [AResP, outB, renB, gaN, lv, ouN, kpI, kpR, pos, ren, ren0, renC, renCs]
  subst z1
  rw [rO_ok] at c1
  refine CallK_gen [1024] c1 (by decide) (by decide) (by simp [blksOf, inN, pos, renB, ren0, ouN, lv, kpI, kpR]) (by simp [argsG, argG, ren0, inN, pos, renCs, renC]) ⟨[], by simp, by simp, ?_⟩
  simp [lv, ouN, kpI, kpR, pos, ren, ren0, renB, renC, renCs]
  repeat' first | (refine hK _ ?_; clear hK) | (refine hK _ _ ?_; clear hK) | (clear hK; refine hK _ ?_; clear hK) | (clear hK; clear hK; refine hK _ ?_; clear hK) | (clear hK; clear hK; clear hK; refine hK _ ?_; clear hK) | (clear hK; clear hK; clear hK; clear hK; refine hK _ ?_; clear hK) | (refine wSeq fun K hK => ?_) | ((first | refine wReg ?_ | refine wDrwQ rfl (by kernel_rfl) ?_ | refine wDrwI ?_ | refine wDrw (by kernel_rfl) ?_); simp only [List.map_cons, List.map_nil, strip]) | ((first | refine wIs fun K hK => ?_ | refine wOs fun K hK => ?_ | refine wQs fun K hK => ?_ | refine CallQ_plain ?_ | refine CallR_plain ?_ | refine wCond ?_); simp [lv, ouN, kpI, kpR, pos, ren, ren0, renB, renC, renCs]) | (refine wIn ?_; refine And.intro (by kernel_rfl) ?_; try simp only [thenA_n]) | (first | refine wBlock ?_ | refine wScope ?_) | ((first | refine wRet ?_ | refine wExit ?_ | refine wSkip ?_); try simp) | ((first | refine wLabel ?_ | refine wOn ?_ | refine wQn ?_); try simp only [thenA_n])
  have c2 := rtext b a1 hb
  obtain ⟨x2, ⟨q2, a2⟩, e2⟩ := foS_got b (0, a1)
  rw [e2] at c2
  simp only [vOf1, vOf2] at c2
  by_cases z2 : q2 = 0
  rotate_left
  · have hz : (fOp.rd b (0, a)).2 = (q2, a2) := by simp only [fOp, sq_rd, e0, e1, e2, foI_L.stk b q2 a2 z2, foB_L.stk b q2 a2 z2]
    rw [hz, rO_err _ _ _ z2] at ho
    subst ho
    rw [rO_err _ _ _ z2] at c2
    refine CallK_gen [1024] c2 (by decide) (by decide) (by simp [blksOf, inN, pos, renB, ren0, ouN, lv, kpI, kpR]) (by simp [argsG, argG, ren0, inN, pos, renCs, renC]) ?_
    simp [GenK, lv, ouN, kpI, kpR, pos, ren, ren0, renB, renC, renCs]
    all_goals try simp only [thenA_p, blockA_p]
    all_goals apply hp
    all_goals simp [AResP, outB, renB, gaN, lv, ouN, kpI, kpR, pos, ren, ren0, renC, renCs]
  subst z2
  rw [rO_ok] at c2
  refine CallK_gen [1024] c2 (by decide) (by decide) (by simp [blksOf, inN, pos, renB, ren0, ouN, lv, kpI, kpR]) (by simp [argsG, argG, ren0, inN, pos, renCs, renC]) ⟨[], by simp, by simp, ?_⟩
  simp [lv, ouN, kpI, kpR, pos, ren, ren0, renB, renC, renCs]
  repeat' first | (refine hK _ ?_; clear hK) | (refine hK _ _ ?_; clear hK) | (clear hK; refine hK _ ?_; clear hK) | (clear hK; clear hK; refine hK _ ?_; clear hK) | (clear hK; clear hK; clear hK; refine hK _ ?_; clear hK) | (clear hK; clear hK; clear hK; clear hK; refine hK _ ?_; clear hK) | (refine wSeq fun K hK => ?_) | ((first | refine wReg ?_ | refine wDrwQ rfl (by kernel_rfl) ?_ | refine wDrwI ?_ | refine wDrw (by kernel_rfl) ?_); simp only [List.map_cons, List.map_nil, strip]) | ((first | refine wIs fun K hK => ?_ | refine wOs fun K hK => ?_ | refine wQs fun K hK => ?_ | refine CallQ_plain ?_ | refine CallR_plain ?_ | refine wCond ?_); simp [lv, ouN, kpI, kpR, pos, ren, ren0, renB, renC, renCs]) | (refine wIn ?_; refine And.intro (by kernel_rfl) ?_; try simp only [thenA_n]) | (first | refine wBlock ?_ | refine wScope ?_) | ((first | refine wRet ?_ | refine wExit ?_ | refine wSkip ?_); try simp) | ((first | refine wLabel ?_ | refine wOn ?_ | refine wQn ?_); try simp only [thenA_n])
  have c3 := rnum b a2 hb
  obtain ⟨x3, ⟨q3, a3⟩, e3⟩ := foI_got b (0, a2)
  rw [e3] at c3
  simp only [vOf1, vOf2] at c3
  by_cases z3 : q3 = 0
  rotate_left
  · have hz : (fOp.rd b (0, a)).2 = (q3, a3) := by simp only [fOp, sq_rd, e0, e1, e2, e3, foB_L.stk b q3 a3 z3]
    rw [hz, rO_err _ _ _ z3] at ho
    subst ho
    rw [rO_err _ _ _ z3] at c3
    refine CallK_gen [1024] c3 (by decide) (by decide) (by simp [blksOf, inN, pos, renB, ren0, ouN, lv, kpI, kpR]) (by simp [argsG, argG, ren0, inN, pos, renCs, renC]) ?_
    simp [GenK, lv, ouN, kpI, kpR, pos, ren, ren0, renB, renC, renCs]
    all_goals try simp only [thenA_p, blockA_p]
    all_goals apply hp
    all_goals simp [AResP, outB, renB, gaN, lv, ouN, kpI, kpR, pos, ren, ren0, renC, renCs]
  subst z3
  rw [rO_ok] at c3
  refine CallK_gen [1024] c3 (by decide) (by decide) (by simp [blksOf, inN, pos, renB, ren0, ouN, lv, kpI, kpR]) (by simp [argsG, argG, ren0, inN, pos, renCs, renC]) ⟨[], by simp, by simp, ?_⟩
  simp [lv, ouN, kpI, kpR, pos, ren, ren0, renB, renC, renCs]
  repeat' first | (refine hK _ ?_; clear hK) | (refine hK _ _ ?_; clear hK) | (clear hK; refine hK _ ?_; clear hK) | (clear hK; clear hK; refine hK _ ?_; clear hK) | (clear hK; clear hK; clear hK; refine hK _ ?_; clear hK) | (clear hK; clear hK; clear hK; clear hK; refine hK _ ?_; clear hK) | (refine wSeq fun K hK => ?_) | ((first | refine wReg ?_ | refine wDrwQ rfl (by kernel_rfl) ?_ | refine wDrwI ?_ | refine wDrw (by kernel_rfl) ?_); simp only [List.map_cons, List.map_nil, strip]) | ((first | refine wIs fun K hK => ?_ | refine wOs fun K hK => ?_ | refine wQs fun K hK => ?_ | refine CallQ_plain ?_ | refine CallR_plain ?_ | refine wCond ?_); simp [lv, ouN, kpI, kpR, pos, ren, ren0, renB, renC, renCs]) | (refine wIn ?_; refine And.intro (by kernel_rfl) ?_; try simp only [thenA_n]) | (first | refine wBlock ?_ | refine wScope ?_) | ((first | refine wRet ?_ | refine wExit ?_ | refine wSkip ?_); try simp) | ((first | refine wLabel ?_ | refine wOn ?_ | refine wQn ?_); try simp only [thenA_n])
  have c4 := rflag b a3 hb
  obtain ⟨x4, ⟨q4, a4⟩, e4⟩ := foB_got b (0, a3)
  rw [e4] at c4
  simp only [vOf1, vOf2] at c4
  by_cases z4 : q4 = 0
  rotate_left
  · have hz : (fOp.rd b (0, a)).2 = (q4, a4) := by simp only [fOp, sq_rd, e0, e1, e2, e3, e4, foB_L.stk b q4 a4 z4]
    rw [hz, rO_err _ _ _ z4] at ho
    subst ho
    rw [rO_err _ _ _ z4] at c4
    refine CallK_gen [1024] c4 (by decide) (by decide) (by simp [blksOf, inN, pos, renB, ren0, ouN, lv, kpI, kpR]) (by simp [argsG, argG, ren0, inN, pos, renCs, renC]) ?_
    simp [GenK, lv, ouN, kpI, kpR, pos, ren, ren0, renB, renC, renCs]
    all_goals try simp only [thenA_p, blockA_p]
    all_goals apply hp
    all_goals simp [AResP, outB, renB, gaN, lv, ouN, kpI, kpR, pos, ren, ren0, renC, renCs]
  subst z4
  rw [rO_ok] at c4
  refine CallK_gen [1024] c4 (by decide) (by decide) (by simp [blksOf, inN, pos, renB, ren0, ouN, lv, kpI, kpR]) (by simp [argsG, argG, ren0, inN, pos, renCs, renC]) ⟨[], by simp, by simp, ?_⟩
  simp [lv, ouN, kpI, kpR, pos, ren, ren0, renB, renC, renCs]
  repeat' first | (refine hK _ ?_; clear hK) | (refine hK _ _ ?_; clear hK) | (clear hK; refine hK _ ?_; clear hK) | (clear hK; clear hK; refine hK _ ?_; clear hK) | (clear hK; clear hK; clear hK; refine hK _ ?_; clear hK) | (clear hK; clear hK; clear hK; clear hK; refine hK _ ?_; clear hK) | (refine wSeq fun K hK => ?_) | ((first | refine wReg ?_ | refine wDrwQ rfl (by kernel_rfl) ?_ | refine wDrwI ?_ | refine wDrw (by kernel_rfl) ?_); simp only [List.map_cons, List.map_nil, strip]) | ((first | refine wIs fun K hK => ?_ | refine wOs fun K hK => ?_ | refine wQs fun K hK => ?_ | refine CallQ_plain ?_ | refine CallR_plain ?_ | refine wCond ?_); simp [lv, ouN, kpI, kpR, pos, ren, ren0, renB, renC, renCs]) | (refine wIn ?_; refine And.intro (by kernel_rfl) ?_; try simp only [thenA_n]) | (first | refine wBlock ?_ | refine wScope ?_) | ((first | refine wRet ?_ | refine wExit ?_ | refine wSkip ?_); try simp) | ((first | refine wLabel ?_ | refine wOn ?_ | refine wQn ?_); try simp only [thenA_n])
  have c5 := rflag b a4 hb
  obtain ⟨x5, ⟨q5, a5⟩, e5⟩ := foB_got b (0, a4)
  rw [e5] at c5
  simp only [vOf1, vOf2] at c5
  by_cases z5 : q5 = 0
  rotate_left
  · have hz : (fOp.rd b (0, a)).2 = (q5, a5) := by simp only [fOp, sq_rd, e0, e1, e2, e3, e4, e5]
    rw [hz, rO_err _ _ _ z5] at ho
    subst ho
    rw [rO_err _ _ _ z5] at c5
    refine CallK_gen [1024] c5 (by decide) (by decide) (by simp [blksOf, inN, pos, renB, ren0, ouN, lv, kpI, kpR]) (by simp [argsG, argG, ren0, inN, pos, renCs, renC]) ?_
    simp [GenK, lv, ouN, kpI, kpR, pos, ren, ren0, renB, renC, renCs]
    all_goals try simp only [thenA_p, blockA_p]
    all_goals apply hp
    all_goals simp [AResP, outB, renB, gaN, lv, ouN, kpI, kpR, pos, ren, ren0, renC, renCs]
  subst z5
  rw [rO_ok] at c5
  refine CallK_gen [1024] c5 (by decide) (by decide) (by simp [blksOf, inN, pos, renB, ren0, ouN, lv, kpI, kpR]) (by simp [argsG, argG, ren0, inN, pos, renCs, renC]) ⟨[], by simp, by simp, ?_⟩
  simp [lv, ouN, kpI, kpR, pos, ren, ren0, renB, renC, renCs]
  repeat' first | (refine hK _ ?_; clear hK) | (refine hK _ _ ?_; clear hK) | (clear hK; refine hK _ ?_; clear hK) | (clear hK; clear hK; refine hK _ ?_; clear hK) | (clear hK; clear hK; clear hK; refine hK _ ?_; clear hK) | (clear hK; clear hK; clear hK; clear hK; refine hK _ ?_; clear hK) | (refine wSeq fun K hK => ?_) | ((first | refine wReg ?_ | refine wDrwQ rfl (by kernel_rfl) ?_ | refine wDrwI ?_ | refine wDrw (by kernel_rfl) ?_); simp only [List.map_cons, List.map_nil, strip]) | ((first | refine wIs fun K hK => ?_ | refine wOs fun K hK => ?_ | refine wQs fun K hK => ?_ | refine CallQ_plain ?_ | refine CallR_plain ?_ | refine wCond ?_); simp [lv, ouN, kpI, kpR, pos, ren, ren0, renB, renC, renCs]) | (refine wIn ?_; refine And.intro (by kernel_rfl) ?_; try simp only [thenA_n]) | (first | refine wBlock ?_ | refine wScope ?_) | ((first | refine wRet ?_ | refine wExit ?_ | refine wSkip ?_); try simp) | ((first | refine wLabel ?_ | refine wOn ?_ | refine wQn ?_); try simp only [thenA_n])
  have hz : fOp.rd b (0, a) = ([I x0, SB x1, SB x2, I x3, B x4, B x5], 0, a5) := by simp only [fOp, sq_rd, e0, e1, e2, e3, e4, e5, List.cons_append, List.nil_append]
  rw [hz] at ho
  simp only [rO_ok, vOf2] at ho
  subst ho
  all_goals first | apply hr
  all_goals refine ⟨[], by simp, by simp, ?_⟩
  all_goals simp [Try.f116, outR, outB, renB, gaN, lv, ouN, kpI, kpR, pos, ren, ren0, renC, renCs]
set_option maxHeartbeats 4000000 in
theorem rVt : RCn 119 fVt := by
  intro b a hb
  generalize ho : rO b (vOf (fVt.rd b (0, a)).1) (fVt.rd b (0, a)).2 = out
  have c0 := rnum b a hb
  refine wBodyG Try.tab Try.mixed Try.func119 rfl rfl Try.ntmps119 (by simp) (by simp) fun Q hr hn hp => ?_
  repeat' first | (refine hK _ ?_; clear hK) | (refine hK _ _ ?_; clear hK) | (clear hK; refine hK _ ?_; clear hK) | (clear hK; clear hK; refine hK _ ?_; clear hK) | (clear hK; clear hK; clear hK; refine hK _ ?_; clear hK) | (clear hK; clear hK; clear hK; clear hK; refine hK _ ?_; clear hK) | (refine wSeq fun K hK => ?_) | ((first | refine wReg ?_ | refine wDrwQ rfl (by kernel_rfl) ?_ | refine wDrwI ?_ | refine wDrw (by kernel_rfl) ?_); simp only [List.map_cons, List.map_nil, strip]) | ((first | refine wIs fun K hK => ?_ | refine wOs fun K hK => ?_ | refine wQs fun K hK => ?_ | refine CallQ_plain ?_ | refine CallR_plain ?_ | refine wCond ?_); simp) | (refine wIn ?_; refine And.intro (by kernel_rfl) ?_; try simp only [thenA_n]) | (first | refine wBlock ?_ | refine wScope ?_) | ((first | refine wRet ?_ | refine wExit ?_ | refine wSkip ?_); try simp) | ((first | refine wLabel ?_ | refine wOn ?_ | refine wQn ?_); try simp only [thenA_n])
  obtain ⟨x0, ⟨q0, a0⟩, e0⟩ := foI_got b (0, a)
  rw [e0] at c0
  simp only [vOf1, vOf2] at c0
  by_cases z0 : q0 = 0
  rotate_left
  · have hz : (fVt.rd b (0, a)).2 = (q0, a0) := by simp only [fVt, sq_rd, e0, foI_L.stk b q0 a0 z0, fZx_L.stk b q0 a0 z0]
    rw [hz, rO_err _ _ _ z0] at ho
    subst ho
    rw [rO_err _ _ _ z0] at c0
    refine CallK_gen [1024] c0 (by decide) (by decide) (by simp [blksOf, inN, pos, renB, ren0, ouN, lv, kpI, kpR]) (by simp [argsG, argG, ren0, inN, pos, renCs, renC]) ?_
    simp [GenK, lv, ouN, kpI, kpR, pos, ren, ren0, renB, renC, renCs]
    all_goals try simp only [thenA_p, blockA_p]
    all_goals apply hp
    all_goals simp [AResP, outB, renB, gaN, lv, ouN, kpI, kpR, pos, ren, ren0, renC, renCs]
  subst z0
  rw [rO_ok] at c0
  refine CallK_gen [1024] c0 (by decide) (by decide) (by simp [blksOf, inN, pos, renB, ren0, ouN, lv, kpI, kpR]) (by simp [argsG, argG, ren0, inN, pos, renCs, renC]) ⟨[], by simp, by simp, ?_⟩
  simp [lv, ouN, kpI, kpR, pos, ren, ren0, renB, renC, renCs]
  repeat' first | (refine hK _ ?_; clear hK) | (refine hK _ _ ?_; clear hK) | (clear hK; refine hK _ ?_; clear hK) | (clear hK; clear hK; refine hK _ ?_; clear hK) | (clear hK; clear hK; clear hK; refine hK _ ?_; clear hK) | (clear hK; clear hK; clear hK; clear hK; refine hK _ ?_; clear hK) | (refine wSeq fun K hK => ?_) | ((first | refine wReg ?_ | refine wDrwQ rfl (by kernel_rfl) ?_ | refine wDrwI ?_ | refine wDrw (by kernel_rfl) ?_); simp only [List.map_cons, List.map_nil, strip]) | ((first | refine wIs fun K hK => ?_ | refine wOs fun K hK => ?_ | refine wQs fun K hK => ?_ | refine CallQ_plain ?_ | refine CallR_plain ?_ | refine wCond ?_); simp [lv, ouN, kpI, kpR, pos, ren, ren0, renB, renC, renCs]) | (refine wIn ?_; refine And.intro (by kernel_rfl) ?_; try simp only [thenA_n]) | (first | refine wBlock ?_ | refine wScope ?_) | ((first | refine wRet ?_ | refine wExit ?_ | refine wSkip ?_); try simp) | ((first | refine wLabel ?_ | refine wOn ?_ | refine wQn ?_); try simp only [thenA_n])
  have c1 := rnum b a0 hb
  obtain ⟨x1, ⟨q1, a1⟩, e1⟩ := foI_got b (0, a0)
  rw [e1] at c1
  simp only [vOf1, vOf2] at c1
  by_cases z1 : q1 = 0
  rotate_left
  · have hz : (fVt.rd b (0, a)).2 = (q1, a1) := by simp only [fVt, sq_rd, e0, e1, foI_L.stk b q1 a1 z1, fZx_L.stk b q1 a1 z1]
    rw [hz, rO_err _ _ _ z1] at ho
    subst ho
    rw [rO_err _ _ _ z1] at c1
    refine CallK_gen [1024] c1 (by decide) (by decide) (by simp [blksOf, inN, pos, renB, ren0, ouN, lv, kpI, kpR]) (by simp [argsG, argG, ren0, inN, pos, renCs, renC]) ?_
    simp [GenK, lv, ouN, kpI, kpR, pos, ren, ren0, renB, renC, renCs]
    all_goals try simp only [thenA_p, blockA_p]
    all_goals apply hp
    all_goals simp [AResP, outB, renB, gaN, lv, ouN, kpI, kpR, pos, ren, ren0, renC, renCs]
  subst z1
  rw [rO_ok] at c1
  refine CallK_gen [1024] c1 (by decide) (by decide) (by simp [blksOf, inN, pos, renB, ren0, ouN, lv, kpI, kpR]) (by simp [argsG, argG, ren0, inN, pos, renCs, renC]) ⟨[], by simp, by simp, ?_⟩
  simp [lv, ouN, kpI, kpR, pos, ren, ren0, renB, renC, renCs]
  repeat' first | (refine hK _ ?_; clear hK) | (refine hK _ _ ?_; clear hK) | (clear hK; refine hK _ ?_; clear hK) | (clear hK; clear hK; refine hK _ ?_; clear hK) | (clear hK; clear hK; clear hK; refine hK _ ?_; clear hK) | (clear hK; clear hK; clear hK; clear hK; refine hK _ ?_; clear hK) | (refine wSeq fun K hK => ?_) | ((first | refine wReg ?_ | refine wDrwQ rfl (by kernel_rfl) ?_ | refine wDrwI ?_ | refine wDrw (by kernel_rfl) ?_); simp only [List.map_cons, List.map_nil, strip]) | ((first | refine wIs fun K hK => ?_ | refine wOs fun K hK => ?_ | refine wQs fun K hK => ?_ | refine CallQ_plain ?_ | refine CallR_plain ?_ | refine wCond ?_); simp [lv, ouN, kpI, kpR, pos, ren, ren0, renB, renC, renCs]) | (refine wIn ?_; refine And.intro (by kernel_rfl) ?_; try simp only [thenA_n]) | (first | refine wBlock ?_ | refine wScope ?_) | ((first | refine wRet ?_ | refine wExit ?_ | refine wSkip ?_); try simp) | ((first | refine wLabel ?_ | refine wOn ?_ | refine wQn ?_); try simp only [thenA_n])
  have c2 := rnum b a1 hb
  obtain ⟨x2, ⟨q2, a2⟩, e2⟩ := foI_got b (0, a1)
  rw [e2] at c2
  simp only [vOf1, vOf2] at c2
  by_cases z2 : q2 = 0
  rotate_left
  · have hz : (fVt.rd b (0, a)).2 = (q2, a2) := by simp only [fVt, sq_rd, e0, e1, e2, fZx_L.stk b q2 a2 z2, foI_L.stk b q2 a2 z2]
    rw [hz, rO_err _ _ _ z2] at ho
    subst ho
    rw [rO_err _ _ _ z2] at c2
    refine CallK_gen [1024] c2 (by decide) (by decide) (by simp [blksOf, inN, pos, renB, ren0, ouN, lv, kpI, kpR]) (by simp [argsG, argG, ren0, inN, pos, renCs, renC]) ?_
    simp [GenK, lv, ouN, kpI, kpR, pos, ren, ren0, renB, renC, renCs]
    all_goals try simp only [thenA_p, blockA_p]
    all_goals apply hp
    all_goals simp [AResP, outB, renB, gaN, lv, ouN, kpI, kpR, pos, ren, ren0, renC, renCs]
  subst z2
  rw [rO_ok] at c2
  refine CallK_gen [1024] c2 (by decide) (by decide) (by simp [blksOf, inN, pos, renB, ren0, ouN, lv, kpI, kpR]) (by simp [argsG, argG, ren0, inN, pos, renCs, renC]) ⟨[], by simp, by simp, ?_⟩
  simp [lv, ouN, kpI, kpR, pos, ren, ren0, renB, renC, renCs]
  repeat' first | (refine hK _ ?_; clear hK) | (refine hK _ _ ?_; clear hK) | (clear hK; refine hK _ ?_; clear hK) | (clear hK; clear hK; refine hK _ ?_; clear hK) | (clear hK; clear hK; clear hK; refine hK _ ?_; clear hK) | (clear hK; clear hK; clear hK; clear hK; refine hK _ ?_; clear hK) | (refine wSeq fun K hK => ?_) | ((first | refine wReg ?_ | refine wDrwQ rfl (by kernel_rfl) ?_ | refine wDrwI ?_ | refine wDrw (by kernel_rfl) ?_); simp only [List.map_cons, List.map_nil, strip]) | ((first | refine wIs fun K hK => ?_ | refine wOs fun K hK => ?_ | refine wQs fun K hK => ?_ | refine CallQ_plain ?_ | refine CallR_plain ?_ | refine wCond ?_); simp [lv, ouN, kpI, kpR, pos, ren, ren0, renB, renC, renCs]) | (refine wIn ?_; refine And.intro (by kernel_rfl) ?_; try simp only [thenA_n]) | (first | refine wBlock ?_ | refine wScope ?_) | ((first | refine wRet ?_ | refine wExit ?_ | refine wSkip ?_); try simp) | ((first | refine wLabel ?_ | refine wOn ?_ | refine wQn ?_); try simp only [thenA_n])
  have c3 := rZx b a2 hb
  obtain ⟨x3, x4, ⟨q3, a3⟩, e3⟩ := fZx_got b (0, a2)
  rw [e3] at c3
  simp only [vOf1, vOf2] at c3
  by_cases z3 : q3 = 0
  rotate_left
  · have hz : (fVt.rd b (0, a)).2 = (q3, a3) := by simp only [fVt, sq_rd, e0, e1, e2, e3, foI_L.stk b q3 a3 z3]
    rw [hz, rO_err _ _ _ z3] at ho
    subst ho
    rw [rO_err _ _ _ z3] at c3
    refine CallK_gen [1024] c3 (by decide) (by decide) (by simp [blksOf, inN, pos, renB, ren0, ouN, lv, kpI, kpR]) (by simp [argsG, argG, ren0, inN, pos, renCs, renC]) ?_
    simp [GenK, lv, ouN, kpI, kpR, pos, ren, ren0, renB, renC, renCs]
    all_goals try simp only [thenA_p, blockA_p]
    all_goals apply hp
    all_goals simp [AResP, outB, renB, gaN, lv, ouN, kpI, kpR, pos, ren, ren0, renC, renCs]
  subst z3
  rw [rO_ok] at c3
  refine CallK_gen [1024] c3 (by decide) (by decide) (by simp [blksOf, inN, pos, renB, ren0, ouN, lv, kpI, kpR]) (by simp [argsG, argG, ren0, inN, pos, renCs, renC]) ⟨[], by simp, by simp, ?_⟩
  simp [lv, ouN, kpI, kpR, pos, ren, ren0, renB, renC, renCs]
  repeat' first | (refine hK _ ?_; clear hK) | (refine hK _ _ ?_; clear hK) | (clear hK; refine hK _ ?_; clear hK) | (clear hK; clear hK; refine hK _ ?_; clear hK) | (clear hK; clear hK; clear hK; refine hK _ ?_; clear hK) | (clear hK; clear hK; clear hK; clear hK; refine hK _ ?_; clear hK) | (refine wSeq fun K hK => ?_) | ((first | refine wReg ?_ | refine wDrwQ rfl (by kernel_rfl) ?_ | refine wDrwI ?_ | refine wDrw (by kernel_rfl) ?_); simp only [List.map_cons, List.map_nil, strip]) | ((first | refine wIs fun K hK => ?_ | refine wOs fun K hK => ?_ | refine wQs fun K hK => ?_ | refine CallQ_plain ?_ | refine CallR_plain ?_ | refine wCond ?_); simp [lv, ouN, kpI, kpR, pos, ren, ren0, renB, renC, renCs]) | (refine wIn ?_; refine And.intro (by kernel_rfl) ?_; try simp only [thenA_n]) | (first | refine wBlock ?_ | refine wScope ?_) | ((first | refine wRet ?_ | refine wExit ?_ | refine wSkip ?_); try simp) | ((first | refine wLabel ?_ | refine wOn ?_ | refine wQn ?_); try simp only [thenA_n])
  have c4 := rnum b a3 hb
  obtain ⟨x5, ⟨q4, a4⟩, e4⟩ := foI_got b (0, a3)
  rw [e4] at c4
  simp only [vOf1, vOf2] at c4
  by_cases z4 : q4 = 0
  rotate_left
  · have hz : (fVt.rd b (0, a)).2 = (q4, a4) := by simp only [fVt, sq_rd, e0, e1, e2, e3, e4, foI_L.stk b q4 a4 z4]
    rw [hz, rO_err _ _ _ z4] at ho
    subst ho
    rw [rO_err _ _ _ z4] at c4
    refine CallK_gen [1024] c4 (by decide) (by decide) (by simp [blksOf, inN, pos, renB, ren0, ouN, lv, kpI, kpR]) (by simp [argsG, argG, ren0, inN, pos, renCs, renC]) ?_
    simp [GenK, lv, ouN, kpI, kpR, pos, ren, ren0, renB, renC, renCs]
    all_goals try simp only [thenA_p, blockA_p]
    all_goals apply hp
    all_goals simp [AResP, outB, renB, gaN, lv, ouN, kpI, kpR, pos, ren, ren0, renC, renCs]
  subst z4
  rw [rO_ok] at c4
  refine CallK_gen [1024] c4 (by decide) (by decide) (by simp [blksOf, inN, pos, renB, ren0, ouN, lv, kpI, kpR]) (by simp [argsG, argG, ren0, inN, pos, renCs, renC]) ⟨[], by simp, by simp, ?_⟩
  simp [lv, ouN, kpI, kpR, pos, ren, ren0, renB, renC, renCs]
  repeat' first | (refine hK _ ?_; clear hK) | (refine hK _ _ ?_; clear hK) | (clear hK; refine hK _ ?_; clear hK) | (clear hK; clear hK; refine hK _ ?_; clear hK) | (clear hK; clear hK; clear hK; refine hK _ ?_; clear hK) | (clear hK; clear hK; clear hK; clear hK; refine hK _ ?_; clear hK) | (refine wSeq fun K hK => ?_) | ((first | refine wReg ?_ | refine wDrwQ rfl (by kernel_rfl) ?_ | refine wDrwI ?_ | refine wDrw (by kernel_rfl) ?_); simp only [List.map_cons, List.map_nil, strip]) | ((first | refine wIs fun K hK => ?_ | refine wOs fun K hK => ?_ | refine wQs fun K hK => ?_ | refine CallQ_plain ?_ | refine CallR_plain ?_ | refine wCond ?_); simp [lv, ouN, kpI, kpR, pos, ren, ren0, renB, renC, renCs]) | (refine wIn ?_; refine And.intro (by kernel_rfl) ?_; try simp only [thenA_n]) | (first | refine wBlock ?_ | refine wScope ?_) | ((first | refine wRet ?_ | refine wExit ?_ | refine wSkip ?_); try simp) | ((first | refine wLabel ?_ | refine wOn ?_ | refine wQn ?_); try simp only [thenA_n])
  have c5 := rnum b a4 hb
  obtain ⟨x6, ⟨q5, a5⟩, e5⟩ := foI_got b (0, a4)
  rw [e5] at c5
  simp only [vOf1, vOf2] at c5
  by_cases z5 : q5 = 0
  rotate_left
  · have hz : (fVt.rd b (0, a)).2 = (q5, a5) := by simp only [fVt, sq_rd, e0, e1, e2, e3, e4, e5]
    rw [hz, rO_err _ _ _ z5] at ho
    subst ho
    rw [rO_err _ _ _ z5] at c5
    refine CallK_gen [1024] c5 (by decide) (by decide) (by simp [blksOf, inN, pos, renB, ren0, ouN, lv, kpI, kpR]) (by simp [argsG, argG, ren0, inN, pos, renCs, renC]) ?_
    simp [GenK, lv, ouN, kpI, kpR, pos, ren, ren0, renB, renC, renCs]
    all_goals try simp only [thenA_p, blockA_p]
    all_goals apply hp
    all_goals simp [AResP, outB, renB, gaN, lv, ouN, kpI, kpR, pos, ren, ren0, renC, renCs]
  subst z5
  rw [rO_ok] at c5
  refine CallK_gen [1024] c5 (by decide) (by decide) (by simp [blksOf, inN, pos, renB, ren0, ouN, lv, kpI, kpR]) (by simp [argsG, argG, ren0, inN, pos, renCs, renC]) ⟨[], by simp, by simp, ?_⟩
  simp [lv, ouN, kpI, kpR, pos, ren, ren0, renB, renC, renCs]
  repeat' first | (refine hK _ ?_; clear hK) | (refine hK _ _ ?_; clear hK) | (clear hK; refine hK _ ?_; clear hK) | (clear hK; clear hK; refine hK _ ?_; clear hK) | (clear hK; clear hK; clear hK; refine hK _ ?_; clear hK) | (clear hK; clear hK; clear hK; clear hK; refine hK _ ?_; clear hK) | (refine wSeq fun K hK => ?_) | ((first | refine wReg ?_ | refine wDrwQ rfl (by kernel_rfl) ?_ | refine wDrwI ?_ | refine wDrw (by kernel_rfl) ?_); simp only [List.map_cons, List.map_nil, strip]) | ((first | refine wIs fun K hK => ?_ | refine wOs fun K hK => ?_ | refine wQs fun K hK => ?_ | refine CallQ_plain ?_ | refine CallR_plain ?_ | refine wCond ?_); simp [lv, ouN, kpI, kpR, pos, ren, ren0, renB, renC, renCs]) | (refine wIn ?_; refine And.intro (by kernel_rfl) ?_; try simp only [thenA_n]) | (first | refine wBlock ?_ | refine wScope ?_) | ((first | refine wRet ?_ | refine wExit ?_ | refine wSkip ?_); try simp) | ((first | refine wLabel ?_ | refine wOn ?_ | refine wQn ?_); try simp only [thenA_n])
  have hz : fVt.rd b (0, a) = ([I x0, I x1, I x2, I x3, I x4, I x5, I x6], 0, a5) := by simp only [fVt, sq_rd, e0, e1, e2, e3, e4, e5, List.cons_append, List.nil_append]
  rw [hz] at ho
  simp only [rO_ok, vOf2] at ho
  subst ho
  all_goals first | apply hr
  all_goals refine ⟨[], by simp, by simp, ?_⟩
  all_goals simp [Try.f119, outR, outB, renB, gaN, lv, ouN, kpI, kpR, pos, ren, ren0, renC, renCs]
end Go.Proofs.Ytleejpddecjhcaa
