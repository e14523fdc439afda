/- Texts that the proof needs: RG8a RG7 RG7a RG7b RG7c RG9. -/
import Derived.Test.YtleejpddecjhcaaP24RecordReads
import Derived.Test.YtleejpddecjhcaaP20RecordReads
/- Records read: transactions, states. -/
namespace Go.Proofs.Ytleejpddecjhcaa
set_option linter.unusedSimpArgs false
set_option linter.unusedVariables false
set_option maxRecDepth 8000
open Go Go.Av
attribute [local simp] Try.T1 Try.T2 Try.T3 Try.T4 Try.T5 Try.T9 Try.T12 Try.T15 Try.T16 Try.T17 Try.T21 Try.T22 Try.T24 Try.T25 Try.T26 Try.T28 Try.T29 Try.T30 Try.T31 Try.T33 Try.T35 Try.T36 Try.T37 Try.T38 Try.T39 Try.T40 Try.T41 Try.T42 Try.T43 Try.T44 Try.T45 Try.T47 Try.T48 Try.T50 Try.T51 Try.T53 Try.T55 Try.T57 Try.T58 Try.T59 Try.T60 Try.T61 Try.T63 Try.T64 Try.T66 Try.T67 Try.T69 Try.T70 Try.T71 Try.T73 Try.T75 Try.T76 Try.T78 Try.T80 Try.T82 Try.T83 Try.T84 Try.T85 Try.T86 Try.T87 Try.T88 Try.T89 Try.T90 Try.T91 Try.T92 Try.T93 Try.T94 Try.T95 Try.T96 Try.T97 Try.T98 Try.T99 Try.T100 Try.T101 Try.T102 Try.T103 Try.T104 Try.T105 Try.T106 Try.T107 Try.T108 Try.T109 Try.T111 Try.T112 Try.T113 Try.T114 Try.T115 Try.T116 Try.T117 Try.T119 Try.T120 Try.T121 Try.T122 Try.T123 Try.T124 Try.T125 Try.T126 Try.T127 Try.T128 Try.T129 Try.T130 Try.T131 Try.T132 Try.T133 Try.T134 Try.T136 Try.T137 Try.T138 Try.T139 Try.T140 Try.T141 Try.T142 Try.T143 Try.T144 Try.T145 Try.T146 Try.T147 Try.T148 Try.T149 Try.T150 Try.T151 Try.T152 Try.T153 Try.T154 Try.T155 Try.T156 Try.T157 Try.T158 Try.T160 Try.T161 Try.T162 Try.T163 Try.T164 Try.T165 Try.T166 Try.T167 Try.T168 Try.T169 Try.T170 Try.T171 Try.T172 Try.T173 Try.T174 Try.T175 Try.T176 Try.T177 Try.T178 Try.T179 Try.T180 Try.T181 Try.T182 Try.T183 Try.T184 Try.T185 Try.T186 Try.T187 Try.T188 Try.T189 Try.T190 Try.T191 Try.T192 Try.T194 Try.T195 Try.T197 Try.T198 Try.T199 Try.T200 Try.T201 Try.T202 Try.T203 Try.T205 Try.T206 Try.T209 Try.T212 Try.T215 Try.T216
attribute [local irreducible] Go.Av.CallK Go.Av.CallE Go.Av.CallQ Go.Av.CallF Go.Av.CallR Go.Av.CallH Go.Av.Con
abbrev rbTx (b : List UInt8) (x : List V) (q : Int) : List Blk := [.box 121 [.p (.v (.func (.func 64) #[] #[]))], .box 116 [.ptr 1027 0], .box 28 x, .box 160 [.p (.sl 1 (by8 b)), .p (I q)]]
theorem fTx_ze : fTx.ze = [I 0, I 0, I 0, I 0, I 0, I 0, SB [], .sl 11 []] := rfl
set_option maxHeartbeats 4000000 in
theorem rcOkTx (b : List UInt8) (a q : Int) (x0 : Int) (x1 : Int) (x2 : Int) (x3 : Int) (x4 : Int) (x5 : Int) (x6 : List UInt8) (x7 : List (List PV))
    (hc : Con Try.prog 64 [.ptr 1024 0] (rB b a) (.ret (.p (.agg [I x0, I x1, I x2, I x3, I x4, I x5, SB x6, .sl 11 x7])) [] (rB b q))) :
    Con Try.prog 102 [.ptr 1024 0, .ptr 1025 0, .ptr 1026 0] (rbTx b [.p (I 0), .p (I 0), .p (I 0), .p (I 0), .p (I 0), .p (I 0), .p (SB []), .nil 11] a) (.ret (.tup []) [] (rbTx b [.p (I x0), .p (I x1), .p (I x2), .p (I x3), .p (I x4), .p (I x5), .p (SB x6), .p (.sl 11 x7)] q)) := by
  refine wBodyG Try.tab Try.mixed Try.func102 rfl rfl Try.ntmps102 (by simp) (by simp) fun Q hr hn hp => ?_
  repeat' first | (refine CallK_gen [1027] (hc) (by decide) (by decide) (by simp [blksOf, inN, pos, renB, renC, renCs, ren0, lv, ouN, kpI, kpR]) (by simp [argsG, argG, ren0, inN, pos, renCs, renC]) ⟨[], by simp, by simp, ?_⟩; simp [lv, ouN, kpI, kpR, pos, ren, ren0, renB, renC, renCs, renF, renFs]) | (refine hK _ ?_; clear hK) | (refine hK _ _ ?_; clear hK) | (clear hK; refine hK _ ?_; clear hK) | (clear hK; clear hK; refine hK _ ?_; clear hK) | (clear hK; clear hK; clear hK; refine hK _ ?_; clear hK) | (clear hK; clear hK; clear hK; clear hK; refine hK _ ?_; clear hK) | (refine wSeq fun K hK => ?_) | ((first | refine wReg ?_ | refine wDrwQ rfl (by kernel_rfl) ?_ | refine wDrwI ?_ | refine wDrw (by kernel_rfl) ?_); simp only [List.map_cons, List.map_nil, strip]) | ((first | refine wIs fun K hK => ?_ | refine wOs fun K hK => ?_ | refine wQs fun K hK => ?_ | refine CallK_plain ?_ | refine CallQ_plain ?_ | refine CallR_plain ?_ | refine wCond ?_); simp [lv, ouN, kpI, kpR, pos, ren, ren0, renB, renC, renCs]) | (refine wIn ?_; refine And.intro (by kernel_rfl) ?_; try simp only [thenA_n]) | (first | refine wBlock ?_ | refine wScope ?_) | ((first | refine wRet ?_ | refine wExit ?_ | refine wSkip ?_); try simp) | ((first | refine wLabel ?_ | refine wOn ?_ | refine wQn ?_); try simp only [thenA_n])
  all_goals first | apply hr | apply hn
  all_goals refine ⟨[], by simp, by simp, ?_⟩
  all_goals simp [Try.f102, outR, outB, renB, gaN, lv, ouN, kpI, kpR, pos, ren, ren0, renC, renCs]
set_option maxHeartbeats 4000000 in
theorem rcPanTx (b : List UInt8) (a q e : Int)
    (hc : Con Try.prog 64 [.ptr 1024 0] (rB b a) (.pan (.iface 192 (.int .i64 e)) (rB b q))) :
    Con Try.prog 102 [.ptr 1024 0, .ptr 1025 0, .ptr 1026 0] (rbTx b [.p (I 0), .p (I 0), .p (I 0), .p (I 0), .p (I 0), .p (I 0), .p (SB []), .nil 11] a) (.pan (.iface 192 (.int .i64 e)) (rbTx b [.p (I 0), .p (I 0), .p (I 0), .p (I 0), .p (I 0), .p (I 0), .p (SB []), .nil 11] q)) := by
  refine wBodyG Try.tab Try.mixed Try.func102 rfl rfl Try.ntmps102 (by simp) (by simp) fun Q hr hn hp => ?_
  repeat' first | (refine CallK_gen [1027] hc (by decide) (by decide) (by simp [blksOf, inN, pos, renB, ren0]) (by simp [argsG, argG, ren0, inN, pos, renCs, renC]) ?_; simp [GenK, lv, ouN, kpI, kpR, pos, ren, ren0, renB, renC, renCs]) | (refine hK _ ?_; clear hK) | (refine hK _ _ ?_; clear hK) | (clear hK; refine hK _ ?_; clear hK) | (clear hK; clear hK; refine hK _ ?_; clear hK) | (clear hK; clear hK; clear hK; refine hK _ ?_; clear hK) | (clear hK; clear hK; clear hK; clear hK; refine hK _ ?_; clear hK) | (refine wSeq fun K hK => ?_) | ((first | refine wReg ?_ | refine wDrwQ rfl (by kernel_rfl) ?_ | refine wDrwI ?_ | refine wDrw (by kernel_rfl) ?_); simp only [List.map_cons, List.map_nil, strip]) | ((first | refine wIs fun K hK => ?_ | refine wOs fun K hK => ?_ | refine wQs fun K hK => ?_ | refine CallK_plain ?_ | refine CallQ_plain ?_ | refine CallR_plain ?_ | refine wCond ?_); simp [lv, ouN, kpI, kpR, pos, ren, ren0, renB, renC, renCs]) | (refine wIn ?_; refine And.intro (by kernel_rfl) ?_; try simp only [thenA_n]) | (first | refine wBlock ?_ | refine wScope ?_) | ((first | refine wRet ?_ | refine wExit ?_ | refine wSkip ?_); try simp) | ((first | refine wLabel ?_ | refine wOn ?_ | refine wQn ?_); try simp only [thenA_n])
  all_goals try simp only [thenA_p, blockA_p]
  all_goals apply hp
  all_goals simp [AResP, outB, renB, gaN, lv, ouN, kpI, kpR, pos, ren, ren0, renC, renCs]
set_option maxHeartbeats 4000000 in
theorem read0Tx (b : List UInt8) (a q : Int) (x0 : Int) (x1 : Int) (x2 : Int) (x3 : Int) (x4 : Int) (x5 : Int) (x6 : List UInt8) (x7 : List (List PV))
    (hc : Con Try.prog 64 [.ptr 1024 0] (rB b a) (.ret (.p (.agg [I x0, I x1, I x2, I x3, I x4, I x5, SB x6, .sl 11 x7])) [] (rB b q))) :
    ACon Try.prog 63 [.p (.sl 1 (by8 b)), .p (I a), .p (.v (.func (.func 64) #[] #[]))] (.tup [.p (.agg [I x0, I x1, I x2, I x3, I x4, I x5, SB x6, .sl 11 x7]), .p (I q), .p (I 0)]) := by
  have he0 : ByteArray.empty = bs [] := rfl
  have ct := try_con (caps := [.box 1024, .box 1025, .box 1026]) (rcOkTx b a q x0 x1 x2 x3 x4 x5 x6 x7 hc) rfl
  refine wBody Try.tab Try.mixed Try.func63 rfl rfl Try.ntmps63 (by simp) (by simp) fun Q hr hn => ?_
  repeat' first | (refine CallK_gen [5, 11, 9, 16] ct (by decide) (by decide) (by simp [blksOf, inN, pos, renB, ren0, he0]) (by simp [argsG, argG, ren0, inN, pos, renCs, renC]) ⟨[], by simp, by simp, ?_⟩; simp [lv, ouN, kpI, kpR, pos, ren, ren0, renB, renC, renCs]) | (refine hK _ ?_; clear hK) | (refine hK _ _ ?_; clear hK) | (clear hK; refine hK _ ?_; clear hK) | (clear hK; clear hK; refine hK _ ?_; clear hK) | (clear hK; clear hK; clear hK; refine hK _ ?_; clear hK) | (clear hK; clear hK; clear hK; clear hK; refine hK _ ?_; clear hK) | (refine wSeq fun K hK => ?_) | ((first | refine wReg ?_ | refine wDrwQ rfl (by kernel_rfl) ?_ | refine wDrwI ?_ | refine wDrw (by kernel_rfl) ?_); simp only [List.map_cons, List.map_nil, strip]) | ((first | refine wIs fun K hK => ?_ | refine wOs fun K hK => ?_ | refine wQs fun K hK => ?_ | refine CallK_plain ?_ | refine CallQ_plain ?_ | refine CallR_plain ?_ | refine wCond ?_); simp [lv, ouN, kpI, kpR, pos, ren, ren0, renB, renC, renCs]) | (refine wIn ?_; refine And.intro (by kernel_rfl) ?_; try simp only [thenA_n]) | (first | refine wBlock ?_ | refine wScope ?_) | ((first | refine wRet ?_ | refine wExit ?_ | refine wSkip ?_); try simp) | ((first | refine wLabel ?_ | refine wOn ?_ | refine wQn ?_); try simp only [thenA_n])
  all_goals apply hr
  all_goals simp [Try.f63]
set_option maxHeartbeats 4000000 in
theorem readETx (b : List UInt8) (a q e : Int) (h0 : ¬ e = 0)
    (hc : Con Try.prog 64 [.ptr 1024 0] (rB b a) (.pan (.iface 192 (.int .i64 e)) (rB b q))) :
    ACon Try.prog 63 [.p (.sl 1 (by8 b)), .p (I a), .p (.v (.func (.func 64) #[] #[]))] (.tup [.p (.agg [I 0, I 0, I 0, I 0, I 0, I 0, SB [], .sl 11 []]), .p (I 0), .p (I e)]) := by
  have he0 : ByteArray.empty = bs [] := rfl
  have ct := try_con (n := e) (caps := [.box 1024, .box 1025, .box 1026]) (rcPanTx b a q e hc) rfl
  refine wBody Try.tab Try.mixed Try.func63 rfl rfl Try.ntmps63 (by simp) (by simp) fun Q hr hn => ?_
  repeat' first | (refine CallK_gen [5, 11, 9, 16] ct (by decide) (by decide) (by simp [blksOf, inN, pos, renB, ren0, he0]) (by simp [argsG, argG, ren0, inN, pos, renCs, renC]) ⟨[], by simp, by simp, ?_⟩; simp [lv, ouN, kpI, kpR, pos, ren, ren0, renB, renC, renCs]) | (refine hK _ ?_; clear hK) | (refine hK _ _ ?_; clear hK) | (clear hK; refine hK _ ?_; clear hK) | (clear hK; clear hK; refine hK _ ?_; clear hK) | (clear hK; clear hK; clear hK; refine hK _ ?_; clear hK) | (clear hK; clear hK; clear hK; clear hK; refine hK _ ?_; clear hK) | (refine wSeq fun K hK => ?_) | ((first | refine wReg ?_ | refine wDrwQ rfl (by kernel_rfl) ?_ | refine wDrwI ?_ | refine wDrw (by kernel_rfl) ?_); simp only [List.map_cons, List.map_nil, strip]) | ((first | refine wIs fun K hK => ?_ | refine wOs fun K hK => ?_ | refine wQs fun K hK => ?_ | refine CallK_plain ?_ | refine CallQ_plain ?_ | refine CallR_plain ?_ | refine wCond ?_); simp [h0, lv, ouN, kpI, kpR, pos, ren, ren0, renB, renC, renCs]) | (refine wIn ?_; refine And.intro (by kernel_rfl) ?_; try simp only [thenA_n]) | (first | refine wBlock ?_ | refine wScope ?_) | ((first | refine wRet ?_ | refine wExit ?_ | refine wSkip ?_); try simp) | ((first | refine wLabel ?_ | refine wOn ?_ | refine wQn ?_); try simp only [thenA_n])
  all_goals apply hr
  all_goals simp [Try.f63, he0]
set_option maxHeartbeats 4000000 in
theorem readTx (b : List UInt8) (a : Int) (hb : b.length ≤ 1000000000) : ACon Try.prog 28 [.p (.sl 1 (by8 b)), .p (I a)] (rT fTx b a) := by
  have c := rTx b a hb
  obtain ⟨x0, x1, x2, x3, x4, x5, x6, x7, ⟨q, k⟩, he⟩ := fTx_got b (0, a)
  unfold rT
  rw [he] at c ⊢
  simp only [vOf2] at c ⊢
  have he0 : ByteArray.empty = bs [] := rfl
  by_cases h : q = 0
  · subst h
    rw [rO_ok] at c
    rw [if_pos rfl]
    have c2 := read0Tx b a k x0 x1 x2 x3 x4 x5 x6 x7 c
    clear c he
    refine wBody Try.tab Try.mixed Try.func28 rfl rfl Try.ntmps28 (by simp) (by simp) fun Q hr hn => ?_
    repeat' first | (refine hK _ ?_; clear hK) | (refine hK _ _ ?_; clear hK) | (clear hK; refine hK _ ?_; clear hK) | (clear hK; clear hK; refine hK _ ?_; clear hK) | (clear hK; clear hK; clear hK; refine hK _ ?_; clear hK) | (clear hK; clear hK; clear hK; clear hK; refine hK _ ?_; clear hK) | (refine wSeq fun K hK => ?_) | ((first | refine wReg ?_ | refine wDrwQ rfl (by kernel_rfl) ?_ | refine wDrwI ?_ | refine wDrw (by kernel_rfl) ?_); simp only [List.map_cons, List.map_nil, strip]) | ((first | refine wIs fun K hK => ?_ | refine wOs fun K hK => ?_ | refine wQs fun K hK => ?_ | refine CallK_plain ?_ | refine CallQ_plain ?_ | refine CallR_plain ?_ | refine wCond ?_); simp) | (refine wIn ?_; refine And.intro (by kernel_rfl) ?_; try simp only [thenA_n]) | (first | refine wBlock ?_ | refine wScope ?_) | ((first | refine wRet ?_ | refine wExit ?_ | refine wSkip ?_); try simp) | ((first | refine wLabel ?_ | refine wOn ?_ | refine wQn ?_); try simp only [thenA_n]) | (refine CallE.pure (c2) rfl ?_) | (refine CallE.lent (c2) rfl ?_) | (refine CallF.pure (c2) rfl ?_) | (refine CallF.lent (c2) rfl ?_) | (refine CallE.own (c2) ?_) | (refine CallH.pure (c2) rfl ?_) | (refine CallH.lent (c2) rfl ?_) | (refine CallH.own (c2) ?_)
    all_goals apply hr
    all_goals simp [Try.f28]
  · rw [rO_err _ _ _ h] at c
    rw [if_neg h, fTx_ze]
    have c2 := readETx b a k q h c
    clear c he
    simp only [vOf2]
    refine wBody Try.tab Try.mixed Try.func28 rfl rfl Try.ntmps28 (by simp) (by simp) fun Q hr hn => ?_
    repeat' first | (refine hK _ ?_; clear hK) | (refine hK _ _ ?_; clear hK) | (clear hK; refine hK _ ?_; clear hK) | (clear hK; clear hK; refine hK _ ?_; clear hK) | (clear hK; clear hK; clear hK; refine hK _ ?_; clear hK) | (clear hK; clear hK; clear hK; clear hK; refine hK _ ?_; clear hK) | (refine wSeq fun K hK => ?_) | ((first | refine wReg ?_ | refine wDrwQ rfl (by kernel_rfl) ?_ | refine wDrwI ?_ | refine wDrw (by kernel_rfl) ?_); simp only [List.map_cons, List.map_nil, strip]) | ((first | refine wIs fun K hK => ?_ | refine wOs fun K hK => ?_ | refine wQs fun K hK => ?_ | refine CallK_plain ?_ | refine CallQ_plain ?_ | refine CallR_plain ?_ | refine wCond ?_); simp) | (refine wIn ?_; refine And.intro (by kernel_rfl) ?_; try simp only [thenA_n]) | (first | refine wBlock ?_ | refine wScope ?_) | ((first | refine wRet ?_ | refine wExit ?_ | refine wSkip ?_); try simp) | ((first | refine wLabel ?_ | refine wOn ?_ | refine wQn ?_); try simp only [thenA_n]) | (refine CallE.pure (c2) rfl ?_) | (refine CallE.lent (c2) rfl ?_) | (refine CallF.pure (c2) rfl ?_) | (refine CallF.lent (c2) rfl ?_) | (refine CallE.own (c2) ?_) | (refine CallH.pure (c2) rfl ?_) | (refine CallH.lent (c2) rfl ?_) | (refine CallH.own (c2) ?_)
    all_goals apply hr
    all_goals simp [Try.f28]
abbrev rbSt (b : List UInt8) (x : List V) (q : Int) : List Blk := [.box 124 [.p (.v (.func (.func 67) #[] #[]))], .box 116 [.ptr 1027 0], .box 35 x, .box 160 [.p (.sl 1 (by8 b)), .p (I q)]]
theorem fSt_ze : fSt.ze = [.sl 5 [], .sl 1 [], I 0, I 0, I 0, I 0, .sl 4 [], I 0, I 0] := rfl
set_option maxHeartbeats 4000000 in
theorem rcOkSt (b : List UInt8) (a q : Int) (x0 : List (List PV)) (x1 : List (List PV)) (x2 : Int) (x3 : Int) (x4 : Int) (x5 : Int) (x6 : List (List PV)) (x7 : Int) (x8 : Int)
    (hc : Con Try.prog 67 [.ptr 1024 0] (rB b a) (.ret (.p (.agg [.sl 5 x0, .sl 1 x1, I x2, I x3, I x4, I x5, .sl 4 x6, I x7, I x8])) [] (rB b q))) :
    Con Try.prog 108 [.ptr 1024 0, .ptr 1025 0, .ptr 1026 0] (rbSt b [.nil 5, .nil 1, .p (I 0), .p (I 0), .p (I 0), .p (I 0), .nil 4, .p (I 0), .p (I 0)] a) (.ret (.tup []) [] (rbSt b [.p (.sl 5 x0), .p (.sl 1 x1), .p (I x2), .p (I x3), .p (I x4), .p (I x5), .p (.sl 4 x6), .p (I x7), .p (I x8)] q)) := by
  refine wBodyG Try.tab Try.mixed Try.func108 rfl rfl Try.ntmps108 (by simp) (by simp) fun Q hr hn hp => ?_
  repeat' first | (refine CallK_gen [1027] (hc) (by decide) (by decide) (by simp [blksOf, inN, pos, renB, renC, renCs, ren0, lv, ouN, kpI, kpR]) (by simp [argsG, argG, ren0, inN, pos, renCs, renC]) ⟨[], by simp, by simp, ?_⟩; simp [lv, ouN, kpI, kpR, pos, ren, ren0, renB, renC, renCs, renF, renFs]) | (refine hK _ ?_; clear hK) | (refine hK _ _ ?_; clear hK) | (clear hK; refine hK _ ?_; clear hK) | (clear hK; clear hK; refine hK _ ?_; clear hK) | (clear hK; clear hK; clear hK; refine hK _ ?_; clear hK) | (clear hK; clear hK; clear hK; clear hK; refine hK _ ?_; clear hK) | (refine wSeq fun K hK => ?_) | ((first | refine wReg ?_ | refine wDrwQ rfl (by kernel_rfl) ?_ | refine wDrwI ?_ | refine wDrw (by kernel_rfl) ?_); simp only [List.map_cons, List.map_nil, strip]) | ((first | refine wIs fun K hK => ?_ | refine wOs fun K hK => ?_ | refine wQs fun K hK => ?_ | refine CallK_plain ?_ | refine CallQ_plain ?_ | refine CallR_plain ?_ | refine wCond ?_); simp [lv, ouN, kpI, kpR, pos, ren, ren0, renB, renC, renCs]) | (refine wIn ?_; refine And.intro (by kernel_rfl) ?_; try simp only [thenA_n]) | (first | refine wBlock ?_ | refine wScope ?_) | ((first | refine wRet ?_ | refine wExit ?_ | refine wSkip ?_); try simp) | ((first | refine wLabel ?_ | refine wOn ?_ | refine wQn ?_); try simp only [thenA_n])
  all_goals first | apply hr | apply hn
  all_goals refine ⟨[], by simp, by simp, ?_⟩
  all_goals simp [Try.f108, outR, outB, renB, gaN, lv, ouN, kpI, kpR, pos, ren, ren0, renC, renCs]
set_option maxHeartbeats 4000000 in
theorem rcPanSt (b : List UInt8) (a q e : Int)
    (hc : Con Try.prog 67 [.ptr 1024 0] (rB b a) (.pan (.iface 192 (.int .i64 e)) (rB b q))) :
    Con Try.prog 108 [.ptr 1024 0, .ptr 1025 0, .ptr 1026 0] (rbSt b [.nil 5, .nil 1, .p (I 0), .p (I 0), .p (I 0), .p (I 0), .nil 4, .p (I 0), .p (I 0)] a) (.pan (.iface 192 (.int .i64 e)) (rbSt b [.nil 5, .nil 1, .p (I 0), .p (I 0), .p (I 0), .p (I 0), .nil 4, .p (I 0), .p (I 0)] q)) := by
  refine wBodyG Try.tab Try.mixed Try.func108 rfl rfl Try.ntmps108 (by simp) (by simp) fun Q hr hn hp => ?_
  repeat' first | (refine CallK_gen [1027] hc (by decide) (by decide) (by simp [blksOf, inN, pos, renB, ren0]) (by simp [argsG, argG, ren0, inN, pos, renCs, renC]) ?_; simp [GenK, lv, ouN, kpI, kpR, pos, ren, ren0, renB, renC, renCs]) | (refine hK _ ?_; clear hK) | (refine hK _ _ ?_; clear hK) | (clear hK; refine hK _ ?_; clear hK) | (clear hK; clear hK; refine hK _ ?_; clear hK) | (clear hK; clear hK; clear hK; refine hK _ ?_; clear hK) | (clear hK; clear hK; clear hK; clear hK; refine hK _ ?_; clear hK) | (refine wSeq fun K hK => ?_) | ((first | refine wReg ?_ | refine wDrwQ rfl (by kernel_rfl) ?_ | refine wDrwI ?_ | refine wDrw (by kernel_rfl) ?_); simp only [List.map_cons, List.map_nil, strip]) | ((first | refine wIs fun K hK => ?_ | refine wOs fun K hK => ?_ | refine wQs fun K hK => ?_ | refine CallK_plain ?_ | refine CallQ_plain ?_ | refine CallR_plain ?_ | refine wCond ?_); simp [lv, ouN, kpI, kpR, pos, ren, ren0, renB, renC, renCs]) | (refine wIn ?_; refine And.intro (by kernel_rfl) ?_; try simp only [thenA_n]) | (first | refine wBlock ?_ | refine wScope ?_) | ((first | refine wRet ?_ | refine wExit ?_ | refine wSkip ?_); try simp) | ((first | refine wLabel ?_ | refine wOn ?_ | refine wQn ?_); try simp only [thenA_n])
  all_goals try simp only [thenA_p, blockA_p]
  all_goals apply hp
  all_goals simp [AResP, outB, renB, gaN, lv, ouN, kpI, kpR, pos, ren, ren0, renC, renCs]
set_option maxHeartbeats 4000000 in
theorem read0St (b : List UInt8) (a q : Int) (x0 : List (List PV)) (x1 : List (List PV)) (x2 : Int) (x3 : Int) (x4 : Int) (x5 : Int) (x6 : List (List PV)) (x7 : Int) (x8 : Int)
    (hc : Con Try.prog 67 [.ptr 1024 0] (rB b a) (.ret (.p (.agg [.sl 5 x0, .sl 1 x1, I x2, I x3, I x4, I x5, .sl 4 x6, I x7, I x8])) [] (rB b q))) :
    ACon Try.prog 66 [.p (.sl 1 (by8 b)), .p (I a), .p (.v (.func (.func 67) #[] #[]))] (.tup [.p (.agg [.sl 5 x0, .sl 1 x1, I x2, I x3, I x4, I x5, .sl 4 x6, I x7, I x8]), .p (I q), .p (I 0)]) := by
  have he0 : ByteArray.empty = bs [] := rfl
  have ct := try_con (caps := [.box 1024, .box 1025, .box 1026]) (rcOkSt b a q x0 x1 x2 x3 x4 x5 x6 x7 x8 hc) rfl
  refine wBody Try.tab Try.mixed Try.func66 rfl rfl Try.ntmps66 (by simp) (by simp) fun Q hr hn => ?_
  repeat' first | (refine CallK_gen [5, 11, 9, 16] ct (by decide) (by decide) (by simp [blksOf, inN, pos, renB, ren0, he0]) (by simp [argsG, argG, ren0, inN, pos, renCs, renC]) ⟨[], by simp, by simp, ?_⟩; simp [lv, ouN, kpI, kpR, pos, ren, ren0, renB, renC, renCs]) | (refine hK _ ?_; clear hK) | (refine hK _ _ ?_; clear hK) | (clear hK; refine hK _ ?_; clear hK) | (clear hK; clear hK; refine hK _ ?_; clear hK) | (clear hK; clear hK; clear hK; refine hK _ ?_; clear hK) | (clear hK; clear hK; clear hK; clear hK; refine hK _ ?_; clear hK) | (refine wSeq fun K hK => ?_) | ((first | refine wReg ?_ | refine wDrwQ rfl (by kernel_rfl) ?_ | refine wDrwI ?_ | refine wDrw (by kernel_rfl) ?_); simp only [List.map_cons, List.map_nil, strip]) | ((first | refine wIs fun K hK => ?_ | refine wOs fun K hK => ?_ | refine wQs fun K hK => ?_ | refine CallK_plain ?_ | refine CallQ_plain ?_ | refine CallR_plain ?_ | refine wCond ?_); simp [lv, ouN, kpI, kpR, pos, ren, ren0, renB, renC, renCs]) | (refine wIn ?_; refine And.intro (by kernel_rfl) ?_; try simp only [thenA_n]) | (first | refine wBlock ?_ | refine wScope ?_) | ((first | refine wRet ?_ | refine wExit ?_ | refine wSkip ?_); try simp) | ((first | refine wLabel ?_ | refine wOn ?_ | refine wQn ?_); try simp only [thenA_n])
  all_goals apply hr
  all_goals simp [Try.f66]
set_option maxHeartbeats 4000000 in
theorem readESt (b : List UInt8) (a q e : Int) (h0 : ¬ e = 0)
    (hc : Con Try.prog 67 [.ptr 1024 0] (rB b a) (.pan (.iface 192 (.int .i64 e)) (rB b q))) :
    ACon Try.prog 66 [.p (.sl 1 (by8 b)), .p (I a), .p (.v (.func (.func 67) #[] #[]))] (.tup [.p (.agg [.sl 5 [], .sl 1 [], I 0, I 0, I 0, I 0, .sl 4 [], I 0, I 0]), .p (I 0), .p (I e)]) := by
  have he0 : ByteArray.empty = bs [] := rfl
  have ct := try_con (n := e) (caps := [.box 1024, .box 1025, .box 1026]) (rcPanSt b a q e hc) rfl
  refine wBody Try.tab Try.mixed Try.func66 rfl rfl Try.ntmps66 (by simp) (by simp) fun Q hr hn => ?_
  repeat' first | (refine CallK_gen [5, 11, 9, 16] ct (by decide) (by decide) (by simp [blksOf, inN, pos, renB, ren0, he0]) (by simp [argsG, argG, ren0, inN, pos, renCs, renC]) ⟨[], by simp, by simp, ?_⟩; simp [lv, ouN, kpI, kpR, pos, ren, ren0, renB, renC, renCs]) | (refine hK _ ?_; clear hK) | (refine hK _ _ ?_; clear hK) | (clear hK; refine hK _ ?_; clear hK) | (clear hK; clear hK; refine hK _ ?_; clear hK) | (clear hK; clear hK; clear hK; refine hK _ ?_; clear hK) | (clear hK; clear hK; clear hK; clear hK; refine hK _ ?_; clear hK) | (refine wSeq fun K hK => ?_) | ((first | refine wReg ?_ | refine wDrwQ rfl (by kernel_rfl) ?_ | refine wDrwI ?_ | refine wDrw (by kernel_rfl) ?_); simp only [List.map_cons, List.map_nil, strip]) | ((first | refine wIs fun K hK => ?_ | refine wOs fun K hK => ?_ | refine wQs fun K hK => ?_ | refine CallK_plain ?_ | refine CallQ_plain ?_ | refine CallR_plain ?_ | refine wCond ?_); simp [h0, lv, ouN, kpI, kpR, pos, ren, ren0, renB, renC, renCs]) | (refine wIn ?_; refine And.intro (by kernel_rfl) ?_; try simp only [thenA_n]) | (first | refine wBlock ?_ | refine wScope ?_) | ((first | refine wRet ?_ | refine wExit ?_ | refine wSkip ?_); try simp) | ((first | refine wLabel ?_ | refine wOn ?_ | refine wQn ?_); try simp only [thenA_n])
  all_goals apply hr
  all_goals simp [Try.f66, he0]
set_option maxHeartbeats 4000000 in
theorem readSt (b : List UInt8) (a : Int) (hb : b.length ≤ 1000000000) : ACon Try.prog 31 [.p (.sl 1 (by8 b)), .p (I a)] (rT fSt b a) := by
  have c := rSt b a hb
  obtain ⟨x0, x1, x2, x3, x4, x5, x6, x7, x8, ⟨q, k⟩, he⟩ := fSt_got b (0, a)
  unfold rT
  rw [he] at c ⊢
  simp only [vOf2] at c ⊢
  have he0 : ByteArray.empty = bs [] := rfl
  by_cases h : q = 0
  · subst h
    rw [rO_ok] at c
    rw [if_pos rfl]
    have c2 := read0St b a k x0 x1 x2 x3 x4 x5 x6 x7 x8 c
    clear c he
    refine wBody Try.tab Try.mixed Try.func31 rfl rfl Try.ntmps31 (by simp) (by simp) fun Q hr hn => ?_
    repeat' first | (refine hK _ ?_; clear hK) | (refine hK _ _ ?_; clear hK) | (clear hK; refine hK _ ?_; clear hK) | (clear hK; clear hK; refine hK _ ?_; clear hK) | (clear hK; clear hK; clear hK; refine hK _ ?_; clear hK) | (clear hK; clear hK; clear hK; clear hK; refine hK _ ?_; clear hK) | (refine wSeq fun K hK => ?_) | ((first | refine wReg ?_ | refine wDrwQ rfl (by kernel_rfl) ?_ | refine wDrwI ?_ | refine wDrw (by kernel_rfl) ?_); simp only [List.map_cons, List.map_nil, strip]) | ((first | refine wIs fun K hK => ?_ | refine wOs fun K hK => ?_ | refine wQs fun K hK => ?_ | refine CallK_plain ?_ | refine CallQ_plain ?_ | refine CallR_plain ?_ | refine wCond ?_); simp) | (refine wIn ?_; refine And.intro (by kernel_rfl) ?_; try simp only [thenA_n]) | (first | refine wBlock ?_ | refine wScope ?_) | ((first | refine wRet ?_ | refine wExit ?_ | refine wSkip ?_); try simp) | ((first | refine wLabel ?_ | refine wOn ?_ | refine wQn ?_); try simp only [thenA_n]) | (refine CallE.pure (c2) rfl ?_) | (refine CallE.lent (c2) rfl ?_) | (refine CallF.pure (c2) rfl ?_) | (refine CallF.lent (c2) rfl ?_) | (refine CallE.own (c2) ?_) | (refine CallH.pure (c2) rfl ?_) | (refine CallH.lent (c2) rfl ?_) | (refine CallH.own (c2) ?_)
    all_goals apply hr
    all_goals simp [Try.f31]
  · rw [rO_err _ _ _ h] at c
    rw [if_neg h, fSt_ze]
    have c2 := readESt b a k q h c
    clear c he
    simp only [vOf2]
    refine wBody Try.tab Try.mixed Try.func31 rfl rfl Try.ntmps31 (by simp) (by simp) fun Q hr hn => ?_
    repeat' first | (refine hK _ ?_; clear hK) | (refine hK _ _ ?_; clear hK) | (clear hK; refine hK _ ?_; clear hK) | (clear hK; clear hK; refine hK _ ?_; clear hK) | (clear hK; clear hK; clear hK; refine hK _ ?_; clear hK) | (clear hK; clear hK; clear hK; clear hK; refine hK _ ?_; clear hK) | (refine wSeq fun K hK => ?_) | ((first | refine wReg ?_ | refine wDrwQ rfl (by kernel_rfl) ?_ | refine wDrwI ?_ | refine wDrw (by kernel_rfl) ?_); simp only [List.map_cons, List.map_nil, strip]) | ((first | refine wIs fun K hK => ?_ | refine wOs fun K hK => ?_ | refine wQs fun K hK => ?_ | refine CallK_plain ?_ | refine CallQ_plain ?_ | refine CallR_plain ?_ | refine wCond ?_); simp) | (refine wIn ?_; refine And.intro (by kernel_rfl) ?_; try simp only [thenA_n]) | (first | refine wBlock ?_ | refine wScope ?_) | ((first | refine wRet ?_ | refine wExit ?_ | refine wSkip ?_); try simp) | ((first | refine wLabel ?_ | refine wOn ?_ | refine wQn ?_); try simp only [thenA_n]) | (refine CallE.pure (c2) rfl ?_) | (refine CallE.lent (c2) rfl ?_) | (refine CallF.pure (c2) rfl ?_) | (refine CallF.lent (c2) rfl ?_) | (refine CallE.own (c2) ?_) | (refine CallH.pure (c2) rfl ?_) | (refine CallH.lent (c2) rfl ?_) | (refine CallH.own (c2) ?_)
    all_goals apply hr
    all_goals simp [Try.f31]
/- Records read, the document's: numbers, texts, flags, places, members, lists of numbers. -/
abbrev iB (b : List UInt8) (st : RS) : List Blk := [.box 119 [.p (.sl 1 (by8 b)), .p (I st.2), .p (I st.1)]]
abbrev IRn (g : FuncId) (f : Fo) : Prop := ∀ (b : List UInt8) (st : RS), b.length ≤ 1000000000 → Con Try.prog g [.ptr 1024 0] (iB b st) (.ret (vOf (f.rd b st).1) [] (iB b (f.rd b st).2))
theorem inum : IRn 100 foI := by
  intro b st hb
  show Con _ _ _ _ (.ret (.p (I (rdN b st).1)) [] (iB b (rdN b st).2))
  obtain ⟨e, a⟩ := st
  have c := int01_con b a hb
  rw [intT_eq] at c
  unfold rdN
  by_cases h0 : e = 0
  · subst h0
    rw [if_pos rfl]
    simp only
    generalize intP b a = r at *
    obtain ⟨n, k, e⟩ := r
    simp only at c ⊢
    by_cases h : e = 0
    · subst h
      rw [if_pos rfl]
      refine wBodyG Try.tab Try.mixed Try.func100 rfl rfl Try.ntmps100 (by simp) (by simp) fun Q hr hn hp => ?_
      repeat' first | (refine hK _ ?_; clear hK) | (refine hK _ _ ?_; clear hK) | (clear hK; refine hK _ ?_; clear hK) | (clear hK; clear hK; refine hK _ ?_; clear hK) | (clear hK; clear hK; clear hK; refine hK _ ?_; clear hK) | (clear hK; clear hK; clear hK; clear hK; refine hK _ ?_; clear hK) | (refine wSeq fun K hK => ?_) | ((first | refine wReg ?_ | refine wDrwQ rfl (by kernel_rfl) ?_ | refine wDrwI ?_ | refine wDrw (by kernel_rfl) ?_); simp only [List.map_cons, List.map_nil, strip]) | ((first | refine wIs fun K hK => ?_ | refine wOs fun K hK => ?_ | refine wQs fun K hK => ?_ | refine CallK_plain ?_ | refine CallQ_plain ?_ | refine CallR_plain ?_ | refine wCond ?_); simp) | (refine wIn ?_; refine And.intro (by kernel_rfl) ?_; try simp only [thenA_n]) | (first | refine wBlock ?_ | refine wScope ?_) | ((first | refine wRet ?_ | refine wExit ?_ | refine wSkip ?_); try simp) | ((first | refine wLabel ?_ | refine wOn ?_ | refine wQn ?_); try simp only [thenA_n]) | (refine CallE.pure (c) rfl ?_) | (refine CallE.lent (c) rfl ?_) | (refine CallF.pure (c) rfl ?_) | (refine CallF.lent (c) rfl ?_) | (refine CallE.own (c) ?_) | (refine CallH.pure (c) rfl ?_) | (refine CallH.lent (c) rfl ?_) | (refine CallH.own (c) ?_)
      all_goals first | apply hr
      all_goals refine ⟨[], by simp, by simp, ?_⟩
      all_goals simp [Try.f100, outR, outB, renB, gaN]
    · rw [if_neg h]
      refine wBodyG Try.tab Try.mixed Try.func100 rfl rfl Try.ntmps100 (by simp) (by simp) fun Q hr hn hp => ?_
      repeat' first | (refine hK _ ?_; clear hK) | (refine hK _ _ ?_; clear hK) | (clear hK; refine hK _ ?_; clear hK) | (clear hK; clear hK; refine hK _ ?_; clear hK) | (clear hK; clear hK; clear hK; refine hK _ ?_; clear hK) | (clear hK; clear hK; clear hK; clear hK; refine hK _ ?_; clear hK) | (refine wSeq fun K hK => ?_) | ((first | refine wReg ?_ | refine wDrwQ rfl (by kernel_rfl) ?_ | refine wDrwI ?_ | refine wDrw (by kernel_rfl) ?_); simp only [List.map_cons, List.map_nil, strip]) | ((first | refine wIs fun K hK => ?_ | refine wOs fun K hK => ?_ | refine wQs fun K hK => ?_ | refine CallK_plain ?_ | refine CallQ_plain ?_ | refine CallR_plain ?_ | refine wCond ?_); simp [h]) | (refine wIn ?_; refine And.intro (by kernel_rfl) ?_; try simp only [thenA_n]) | (first | refine wBlock ?_ | refine wScope ?_) | ((first | refine wRet ?_ | refine wExit ?_ | refine wSkip ?_); try simp) | ((first | refine wLabel ?_ | refine wOn ?_ | refine wQn ?_); try simp only [thenA_n]) | (refine CallE.pure (c) rfl ?_) | (refine CallE.lent (c) rfl ?_) | (refine CallF.pure (c) rfl ?_) | (refine CallF.lent (c) rfl ?_) | (refine CallE.own (c) ?_) | (refine CallH.pure (c) rfl ?_) | (refine CallH.lent (c) rfl ?_) | (refine CallH.own (c) ?_)
      all_goals first | apply hr
      all_goals refine ⟨[], by simp, by simp, ?_⟩
      all_goals simp [Try.f100, outR, outB, renB, gaN, h, show ByteArray.empty = bs [] from rfl]
  · rw [if_neg h0]
    refine wBodyG Try.tab Try.mixed Try.func100 rfl rfl Try.ntmps100 (by simp) (by simp) fun Q hr hn hp => ?_
    repeat' first | (refine hK _ ?_; clear hK) | (refine hK _ _ ?_; clear hK) | (clear hK; refine hK _ ?_; clear hK) | (clear hK; clear hK; refine hK _ ?_; clear hK) | (clear hK; clear hK; clear hK; refine hK _ ?_; clear hK) | (clear hK; clear hK; clear hK; clear hK; refine hK _ ?_; clear hK) | (refine wSeq fun K hK => ?_) | ((first | refine wReg ?_ | refine wDrwQ rfl (by kernel_rfl) ?_ | refine wDrwI ?_ | refine wDrw (by kernel_rfl) ?_); simp only [List.map_cons, List.map_nil, strip]) | ((first | refine wIs fun K hK => ?_ | refine wOs fun K hK => ?_ | refine wQs fun K hK => ?_ | refine CallK_plain ?_ | refine CallQ_plain ?_ | refine CallR_plain ?_ | refine wCond ?_); simp [h0]) | (refine wIn ?_; refine And.intro (by kernel_rfl) ?_; try simp only [thenA_n]) | (first | refine wBlock ?_ | refine wScope ?_) | ((first | refine wRet ?_ | refine wExit ?_ | refine wSkip ?_); try simp) | ((first | refine wLabel ?_ | refine wOn ?_ | refine wQn ?_); try simp only [thenA_n])
    all_goals first | apply hr
    all_goals refine ⟨[], by simp, by simp, ?_⟩
    all_goals simp [Try.f100, outR, outB, renB, gaN, h0, show ByteArray.empty = bs [] from rfl]
theorem itext : IRn 106 foS := by
  intro b st hb
  show Con _ _ _ _ (.ret (.p (SB (rdS b st).1)) [] (iB b (rdS b st).2))
  obtain ⟨e, a⟩ := st
  have c := text01_con b a hb
  rw [textT_eq] at c
  unfold rdS
  by_cases h0 : e = 0
  · subst h0
    rw [if_pos rfl]
    simp only
    generalize textP b a = r at *
    obtain ⟨n, k, e⟩ := r
    simp only at c ⊢
    by_cases h : e = 0
    · subst h
      rw [if_pos rfl]
      refine wBodyG Try.tab Try.mixed Try.func106 rfl rfl Try.ntmps106 (by simp) (by simp) fun Q hr hn hp => ?_
      repeat' first | (refine hK _ ?_; clear hK) | (refine hK _ _ ?_; clear hK) | (clear hK; refine hK _ ?_; clear hK) | (clear hK; clear hK; refine hK _ ?_; clear hK) | (clear hK; clear hK; clear hK; refine hK _ ?_; clear hK) | (clear hK; clear hK; clear hK; clear hK; refine hK _ ?_; clear hK) | (refine wSeq fun K hK => ?_) | ((first | refine wReg ?_ | refine wDrwQ rfl (by kernel_rfl) ?_ | refine wDrwI ?_ | refine wDrw (by kernel_rfl) ?_); simp only [List.map_cons, List.map_nil, strip]) | ((first | refine wIs fun K hK => ?_ | refine wOs fun K hK => ?_ | refine wQs fun K hK => ?_ | refine CallK_plain ?_ | refine CallQ_plain ?_ | refine CallR_plain ?_ | refine wCond ?_); simp) | (refine wIn ?_; refine And.intro (by kernel_rfl) ?_; try simp only [thenA_n]) | (first | refine wBlock ?_ | refine wScope ?_) | ((first | refine wRet ?_ | refine wExit ?_ | refine wSkip ?_); try simp) | ((first | refine wLabel ?_ | refine wOn ?_ | refine wQn ?_); try simp only [thenA_n]) | (refine CallE.pure (c) rfl ?_) | (refine CallE.lent (c) rfl ?_) | (refine CallF.pure (c) rfl ?_) | (refine CallF.lent (c) rfl ?_) | (refine CallE.own (c) ?_) | (refine CallH.pure (c) rfl ?_) | (refine CallH.lent (c) rfl ?_) | (refine CallH.own (c) ?_)
      all_goals first | apply hr
      all_goals refine ⟨[], by simp, by simp, ?_⟩
      all_goals simp [Try.f106, outR, outB, renB, gaN]
    · rw [if_neg h]
      refine wBodyG Try.tab Try.mixed Try.func106 rfl rfl Try.ntmps106 (by simp) (by simp) fun Q hr hn hp => ?_
      repeat' first | (refine hK _ ?_; clear hK) | (refine hK _ _ ?_; clear hK) | (clear hK; refine hK _ ?_; clear hK) | (clear hK; clear hK; refine hK _ ?_; clear hK) | (clear hK; clear hK; clear hK; refine hK _ ?_; clear hK) | (clear hK; clear hK; clear hK; clear hK; refine hK _ ?_; clear hK) | (refine wSeq fun K hK => ?_) | ((first | refine wReg ?_ | refine wDrwQ rfl (by kernel_rfl) ?_ | refine wDrwI ?_ | refine wDrw (by kernel_rfl) ?_); simp only [List.map_cons, List.map_nil, strip]) | ((first | refine wIs fun K hK => ?_ | refine wOs fun K hK => ?_ | refine wQs fun K hK => ?_ | refine CallK_plain ?_ | refine CallQ_plain ?_ | refine CallR_plain ?_ | refine wCond ?_); simp [h]) | (refine wIn ?_; refine And.intro (by kernel_rfl) ?_; try simp only [thenA_n]) | (first | refine wBlock ?_ | refine wScope ?_) | ((first | refine wRet ?_ | refine wExit ?_ | refine wSkip ?_); try simp) | ((first | refine wLabel ?_ | refine wOn ?_ | refine wQn ?_); try simp only [thenA_n]) | (refine CallE.pure (c) rfl ?_) | (refine CallE.lent (c) rfl ?_) | (refine CallF.pure (c) rfl ?_) | (refine CallF.lent (c) rfl ?_) | (refine CallE.own (c) ?_) | (refine CallH.pure (c) rfl ?_) | (refine CallH.lent (c) rfl ?_) | (refine CallH.own (c) ?_)
      all_goals first | apply hr
      all_goals refine ⟨[], by simp, by simp, ?_⟩
      all_goals simp [Try.f106, outR, outB, renB, gaN, h, show ByteArray.empty = bs [] from rfl]
  · rw [if_neg h0]
    refine wBodyG Try.tab Try.mixed Try.func106 rfl rfl Try.ntmps106 (by simp) (by simp) fun Q hr hn hp => ?_
    repeat' first | (refine hK _ ?_; clear hK) | (refine hK _ _ ?_; clear hK) | (clear hK; refine hK _ ?_; clear hK) | (clear hK; clear hK; refine hK _ ?_; clear hK) | (clear hK; clear hK; clear hK; refine hK _ ?_; clear hK) | (clear hK; clear hK; clear hK; clear hK; refine hK _ ?_; clear hK) | (refine wSeq fun K hK => ?_) | ((first | refine wReg ?_ | refine wDrwQ rfl (by kernel_rfl) ?_ | refine wDrwI ?_ | refine wDrw (by kernel_rfl) ?_); simp only [List.map_cons, List.map_nil, strip]) | ((first | refine wIs fun K hK => ?_ | refine wOs fun K hK => ?_ | refine wQs fun K hK => ?_ | refine CallK_plain ?_ | refine CallQ_plain ?_ | refine CallR_plain ?_ | refine wCond ?_); simp [h0]) | (refine wIn ?_; refine And.intro (by kernel_rfl) ?_; try simp only [thenA_n]) | (first | refine wBlock ?_ | refine wScope ?_) | ((first | refine wRet ?_ | refine wExit ?_ | refine wSkip ?_); try simp) | ((first | refine wLabel ?_ | refine wOn ?_ | refine wQn ?_); try simp only [thenA_n])
    all_goals first | apply hr
    all_goals refine ⟨[], by simp, by simp, ?_⟩
    all_goals simp [Try.f106, outR, outB, renB, gaN, h0, show ByteArray.empty = bs [] from rfl]
theorem icount (b : List UInt8) (st : RS) (hb : b.length ≤ 1000000000) : Con Try.prog 132 [.ptr 1024 0] (iB b st) (.ret (.p (I (rdC b st).1)) [] (iB b (rdC b st).2)) := by
  have c := inum b st hb
  change Con _ _ _ _ (.ret (.p (I (rdN b st).1)) [] (iB b (rdN b st).2)) at c
  unfold rdC
  generalize rdN b st = r at *
  obtain ⟨n, e, k⟩ := r
  simp only at c ⊢
  by_cases h : e = 0
  rotate_left
  · rw [if_pos h]
    refine wBodyG Try.tab Try.mixed Try.func132 rfl rfl Try.ntmps132 (by simp) (by simp) fun Q hr hn hp => ?_
    repeat' first | (refine CallK_gen [1024] (c) (by decide) (by decide) (by simp [blksOf, inN, pos, renB, renC, renCs, ren0, lv, ouN, kpI, kpR]) (by simp [argsG, argG, ren0, inN, pos, renCs, renC]) ⟨[], by simp, by simp, ?_⟩; simp [lv, ouN, kpI, kpR, pos, ren, ren0, renB, renC, renCs, renF, renFs]) | (refine hK _ ?_; clear hK) | (refine hK _ _ ?_; clear hK) | (clear hK; refine hK _ ?_; clear hK) | (clear hK; clear hK; refine hK _ ?_; clear hK) | (clear hK; clear hK; clear hK; refine hK _ ?_; clear hK) | (clear hK; clear hK; clear hK; clear hK; refine hK _ ?_; clear hK) | (refine wSeq fun K hK => ?_) | ((first | refine wReg ?_ | refine wDrwQ rfl (by kernel_rfl) ?_ | refine wDrwI ?_ | refine wDrw (by kernel_rfl) ?_); simp only [List.map_cons, List.map_nil, strip]) | ((first | refine wIs fun K hK => ?_ | refine wOs fun K hK => ?_ | refine wQs fun K hK => ?_ | refine CallK_plain ?_ | refine CallQ_plain ?_ | refine CallR_plain ?_ | refine wCond ?_); simp [h, lv, ouN, kpI, kpR, pos, ren, ren0, renB, renC, renCs]) | (refine wIn ?_; refine And.intro (by kernel_rfl) ?_; try simp only [thenA_n]) | (first | refine wBlock ?_ | refine wScope ?_) | ((first | refine wRet ?_ | refine wExit ?_ | refine wSkip ?_); try simp) | ((first | refine wLabel ?_ | refine wOn ?_ | refine wQn ?_); try simp only [thenA_n])
    all_goals first | apply hr
    all_goals refine ⟨[], by simp, by simp, ?_⟩
    all_goals simp [Try.f132, h, outR, outB, renB, gaN, lv, ouN, kpI, kpR, pos, ren, ren0, renC, renCs]
  subst h
  rw [if_neg (by simp)]
  by_cases h1 : n < 0
  · rw [if_pos h1]
    refine wBodyG Try.tab Try.mixed Try.func132 rfl rfl Try.ntmps132 (by simp) (by simp) fun Q hr hn hp => ?_
    repeat' first | (refine CallK_gen [1024] (c) (by decide) (by decide) (by simp [blksOf, inN, pos, renB, renC, renCs, ren0, lv, ouN, kpI, kpR]) (by simp [argsG, argG, ren0, inN, pos, renCs, renC]) ⟨[], by simp, by simp, ?_⟩; simp [lv, ouN, kpI, kpR, pos, ren, ren0, renB, renC, renCs, renF, renFs]) | (refine hK _ ?_; clear hK) | (refine hK _ _ ?_; clear hK) | (clear hK; refine hK _ ?_; clear hK) | (clear hK; clear hK; refine hK _ ?_; clear hK) | (clear hK; clear hK; clear hK; refine hK _ ?_; clear hK) | (clear hK; clear hK; clear hK; clear hK; refine hK _ ?_; clear hK) | (refine wSeq fun K hK => ?_) | ((first | refine wReg ?_ | refine wDrwQ rfl (by kernel_rfl) ?_ | refine wDrwI ?_ | refine wDrw (by kernel_rfl) ?_); simp only [List.map_cons, List.map_nil, strip]) | ((first | refine wIs fun K hK => ?_ | refine wOs fun K hK => ?_ | refine wQs fun K hK => ?_ | refine CallK_plain ?_ | refine CallQ_plain ?_ | refine CallR_plain ?_ | refine wCond ?_); simp [h1, lv, ouN, kpI, kpR, pos, ren, ren0, renB, renC, renCs]) | (refine wIn ?_; refine And.intro (by kernel_rfl) ?_; try simp only [thenA_n]) | (first | refine wBlock ?_ | refine wScope ?_) | ((first | refine wRet ?_ | refine wExit ?_ | refine wSkip ?_); try simp) | ((first | refine wLabel ?_ | refine wOn ?_ | refine wQn ?_); try simp only [thenA_n])
    all_goals first | apply hr
    all_goals refine ⟨[], by simp, by simp, ?_⟩
    all_goals simp [Try.f132, h1, outR, outB, renB, gaN, lv, ouN, kpI, kpR, pos, ren, ren0, renC, renCs]
  rw [if_neg h1]
  by_cases h2 : 1000 < n
  · rw [if_pos h2]
    refine wBodyG Try.tab Try.mixed Try.func132 rfl rfl Try.ntmps132 (by simp) (by simp) fun Q hr hn hp => ?_
    repeat' first | (refine CallK_gen [1024] (c) (by decide) (by decide) (by simp [blksOf, inN, pos, renB, renC, renCs, ren0, lv, ouN, kpI, kpR]) (by simp [argsG, argG, ren0, inN, pos, renCs, renC]) ⟨[], by simp, by simp, ?_⟩; simp [lv, ouN, kpI, kpR, pos, ren, ren0, renB, renC, renCs, renF, renFs]) | (refine hK _ ?_; clear hK) | (refine hK _ _ ?_; clear hK) | (clear hK; refine hK _ ?_; clear hK) | (clear hK; clear hK; refine hK _ ?_; clear hK) | (clear hK; clear hK; clear hK; refine hK _ ?_; clear hK) | (clear hK; clear hK; clear hK; clear hK; refine hK _ ?_; clear hK) | (refine wSeq fun K hK => ?_) | ((first | refine wReg ?_ | refine wDrwQ rfl (by kernel_rfl) ?_ | refine wDrwI ?_ | refine wDrw (by kernel_rfl) ?_); simp only [List.map_cons, List.map_nil, strip]) | ((first | refine wIs fun K hK => ?_ | refine wOs fun K hK => ?_ | refine wQs fun K hK => ?_ | refine CallK_plain ?_ | refine CallQ_plain ?_ | refine CallR_plain ?_ | refine wCond ?_); simp [h1, h2, lv, ouN, kpI, kpR, pos, ren, ren0, renB, renC, renCs]) | (refine wIn ?_; refine And.intro (by kernel_rfl) ?_; try simp only [thenA_n]) | (first | refine wBlock ?_ | refine wScope ?_) | ((first | refine wRet ?_ | refine wExit ?_ | refine wSkip ?_); try simp) | ((first | refine wLabel ?_ | refine wOn ?_ | refine wQn ?_); try simp only [thenA_n])
    all_goals first | apply hr
    all_goals refine ⟨[], by simp, by simp, ?_⟩
    all_goals simp [Try.f132, h1, h2, outR, outB, renB, gaN, lv, ouN, kpI, kpR, pos, ren, ren0, renC, renCs]
  · rw [if_neg h2]
    refine wBodyG Try.tab Try.mixed Try.func132 rfl rfl Try.ntmps132 (by simp) (by simp) fun Q hr hn hp => ?_
    repeat' first | (refine CallK_gen [1024] (c) (by decide) (by decide) (by simp [blksOf, inN, pos, renB, renC, renCs, ren0, lv, ouN, kpI, kpR]) (by simp [argsG, argG, ren0, inN, pos, renCs, renC]) ⟨[], by simp, by simp, ?_⟩; simp [lv, ouN, kpI, kpR, pos, ren, ren0, renB, renC, renCs, renF, renFs]) | (refine hK _ ?_; clear hK) | (refine hK _ _ ?_; clear hK) | (clear hK; refine hK _ ?_; clear hK) | (clear hK; clear hK; refine hK _ ?_; clear hK) | (clear hK; clear hK; clear hK; refine hK _ ?_; clear hK) | (clear hK; clear hK; clear hK; clear hK; refine hK _ ?_; clear hK) | (refine wSeq fun K hK => ?_) | ((first | refine wReg ?_ | refine wDrwQ rfl (by kernel_rfl) ?_ | refine wDrwI ?_ | refine wDrw (by kernel_rfl) ?_); simp only [List.map_cons, List.map_nil, strip]) | ((first | refine wIs fun K hK => ?_ | refine wOs fun K hK => ?_ | refine wQs fun K hK => ?_ | refine CallK_plain ?_ | refine CallQ_plain ?_ | refine CallR_plain ?_ | refine wCond ?_); simp [h1, h2, lv, ouN, kpI, kpR, pos, ren, ren0, renB, renC, renCs]) | (refine wIn ?_; refine And.intro (by kernel_rfl) ?_; try simp only [thenA_n]) | (first | refine wBlock ?_ | refine wScope ?_) | ((first | refine wRet ?_ | refine wExit ?_ | refine wSkip ?_); try simp) | ((first | refine wLabel ?_ | refine wOn ?_ | refine wQn ?_); try simp only [thenA_n])
    all_goals first | apply hr
    all_goals refine ⟨[], by simp, by simp, ?_⟩
    all_goals simp [Try.f132, h1, h2, outR, outB, renB, gaN, lv, ouN, kpI, kpR, pos, ren, ren0, renC, renCs]
set_option maxHeartbeats 4000000 in
theorem iZx : IRn 99 fZx := by
  intro b st hb
  have c0 := inum b st hb
  obtain ⟨x0, s0, e0⟩ := foI_got b st
  rw [e0] at c0
  simp only [vOf1, vOf2] at c0
  have c1 := inum b s0 hb
  obtain ⟨x1, s1, e1⟩ := foI_got b s0
  rw [e1] at c1
  simp only [vOf1, vOf2] at c1
  have hz : fZx.rd b st = ([I x0, I x1], s1) := by simp only [fZx, sq_rd, e0, e1, List.cons_append, List.nil_append]
  rw [hz]
  clear e0 e1 hz
  simp only [vOf2]
  refine wBodyG Try.tab Try.mixed Try.func99 rfl rfl Try.ntmps99 (by simp) (by simp) fun Q hr hn hp => ?_
  repeat' first | (refine CallK_gen [1024] c0 (by decide) (by decide) (by simp [blksOf, inN, pos, renB, ren0, ouN, lv, kpI, kpR]) (by simp [argsG, argG, ren0, inN, pos, renCs, renC]) ⟨[], by simp, by simp, ?_⟩; simp [lv, ouN, kpI, kpR, pos, ren, ren0, renB, renC, renCs]; clear c0) | (refine CallK_gen [1024] c1 (by decide) (by decide) (by simp [blksOf, inN, pos, renB, ren0, ouN, lv, kpI, kpR]) (by simp [argsG, argG, ren0, inN, pos, renCs, renC]) ⟨[], by simp, by simp, ?_⟩; simp [lv, ouN, kpI, kpR, pos, ren, ren0, renB, renC, renCs]; clear c1) | (refine hK _ ?_; clear hK) | (refine hK _ _ ?_; clear hK) | (clear hK; refine hK _ ?_; clear hK) | (clear hK; clear hK; refine hK _ ?_; clear hK) | (clear hK; clear hK; clear hK; refine hK _ ?_; clear hK) | (clear hK; clear hK; clear hK; clear hK; refine hK _ ?_; clear hK) | (refine wSeq fun K hK => ?_) | ((first | refine wReg ?_ | refine wDrwQ rfl (by kernel_rfl) ?_ | refine wDrwI ?_ | refine wDrw (by kernel_rfl) ?_); simp only [List.map_cons, List.map_nil, strip]) | ((first | refine wIs fun K hK => ?_ | refine wOs fun K hK => ?_ | refine wQs fun K hK => ?_ | refine CallK_plain ?_ | refine CallQ_plain ?_ | refine CallR_plain ?_ | refine wCond ?_); simp [lv, ouN, kpI, kpR, pos, ren, ren0, renB, renC, renCs]) | (refine wIn ?_; refine And.intro (by kernel_rfl) ?_; try simp only [thenA_n]) | (first | refine wBlock ?_ | refine wScope ?_) | ((first | refine wRet ?_ | refine wExit ?_ | refine wSkip ?_); try simp) | ((first | refine wLabel ?_ | refine wOn ?_ | refine wQn ?_); try simp only [thenA_n])
  all_goals first | apply hr
  all_goals refine ⟨[], by simp, by simp, ?_⟩
  all_goals simp [Try.f99, outR, outB, renB, gaN, lv, ouN, kpI, kpR, pos, ren, ren0, renC, renCs]
set_option maxHeartbeats 4000000 in
theorem iMb : IRn 133 fMb := by
  intro b st hb
  have c0 := inum b st hb
  obtain ⟨x0, s0, e0⟩ := foI_got b st
  rw [e0] at c0
  simp only [vOf1, vOf2] at c0
  have c1 := inum b s0 hb
  obtain ⟨x1, s1, e1⟩ := foI_got b s0
  rw [e1] at c1
  simp only [vOf1, vOf2] at c1
  have c2 := inum b s1 hb
  obtain ⟨x2, s2, e2⟩ := foI_got b s1
  rw [e2] at c2
  simp only [vOf1, vOf2] at c2
  have c3 := inum b s2 hb
  obtain ⟨x3, s3, e3⟩ := foI_got b s2
  rw [e3] at c3
  simp only [vOf1, vOf2] at c3
  have hz : fMb.rd b st = ([I x0, I x1, I x2, I x3], s3) := by simp only [fMb, sq_rd, e0, e1, e2, e3, List.cons_append, List.nil_append]
  rw [hz]
  clear e0 e1 e2 e3 hz
  simp only [vOf2]
  refine wBodyG Try.tab Try.mixed Try.func133 rfl rfl Try.ntmps133 (by simp) (by simp) fun Q hr hn hp => ?_
  repeat' first | (refine CallK_gen [1024] c0 (by decide) (by decide) (by simp [blksOf, inN, pos, renB, ren0, ouN, lv, kpI, kpR]) (by simp [argsG, argG, ren0, inN, pos, renCs, renC]) ⟨[], by simp, by simp, ?_⟩; simp [lv, ouN, kpI, kpR, pos, ren, ren0, renB, renC, renCs]; clear c0) | (refine CallK_gen [1024] c1 (by decide) (by decide) (by simp [blksOf, inN, pos, renB, ren0, ouN, lv, kpI, kpR]) (by simp [argsG, argG, ren0, inN, pos, renCs, renC]) ⟨[], by simp, by simp, ?_⟩; simp [lv, ouN, kpI, kpR, pos, ren, ren0, renB, renC, renCs]; clear c1) | (refine CallK_gen [1024] c2 (by decide) (by decide) (by simp [blksOf, inN, pos, renB, ren0, ouN, lv, kpI, kpR]) (by simp [argsG, argG, ren0, inN, pos, renCs, renC]) ⟨[], by simp, by simp, ?_⟩; simp [lv, ouN, kpI, kpR, pos, ren, ren0, renB, renC, renCs]; clear c2) | (refine CallK_gen [1024] c3 (by decide) (by decide) (by simp [blksOf, inN, pos, renB, ren0, ouN, lv, kpI, kpR]) (by simp [argsG, argG, ren0, inN, pos, renCs, renC]) ⟨[], by simp, by simp, ?_⟩; simp [lv, ouN, kpI, kpR, pos, ren, ren0, renB, renC, renCs]; clear c3) | (refine hK _ ?_; clear hK) | (refine hK _ _ ?_; clear hK) | (clear hK; refine hK _ ?_; clear hK) | (clear hK; clear hK; refine hK _ ?_; clear hK) | (clear hK; clear hK; clear hK; refine hK _ ?_; clear hK) | (clear hK; clear hK; clear hK; clear hK; refine hK _ ?_; clear hK) | (refine wSeq fun K hK => ?_) | ((first | refine wReg ?_ | refine wDrwQ rfl (by kernel_rfl) ?_ | refine wDrwI ?_ | refine wDrw (by kernel_rfl) ?_); simp only [List.map_cons, List.map_nil, strip]) | ((first | refine wIs fun K hK => ?_ | refine wOs fun K hK => ?_ | refine wQs fun K hK => ?_ | refine CallK_plain ?_ | refine CallQ_plain ?_ | refine CallR_plain ?_ | refine wCond ?_); simp [lv, ouN, kpI, kpR, pos, ren, ren0, renB, renC, renCs]) | (refine wIn ?_; refine And.intro (by kernel_rfl) ?_; try simp only [thenA_n]) | (first | refine wBlock ?_ | refine wScope ?_) | ((first | refine wRet ?_ | refine wExit ?_ | refine wSkip ?_); try simp) | ((first | refine wLabel ?_ | refine wOn ?_ | refine wQn ?_); try simp only [thenA_n])
  all_goals first | apply hr
  all_goals refine ⟨[], by simp, by simp, ?_⟩
  all_goals simp [Try.f133, outR, outB, renB, gaN, lv, ouN, kpI, kpR, pos, ren, ren0, renC, renCs]
set_option maxHeartbeats 8000000 in
theorem ilI : IRn 113 (fl 1 foI) := by
  intro b st hb
  have c0 := icount b st hb
  have hL : (fl 1 foI).rd b st = ([.sl 1 (rdL foI.rd b (rdC b st).1.toNat (rdC b st).2).1], (rdL foI.rd b (rdC b st).1.toNat (rdC b st).2).2) := rfl
  have hbd := rdC_bd b st
  rw [hL, vOf1]
  generalize rdC b st = r at *
  obtain ⟨n, s0⟩ := r
  simp only at *
  obtain ⟨m, rfl⟩ : ∃ m : Nat, n = m := ⟨n.toNat, by omega⟩
  simp only [Int.toNat_natCast]
  clear hL
  refine wBodyG Try.tab Try.mixed Try.func113 rfl rfl Try.ntmps113 (by simp) (by simp) fun Q hr hn hp => ?_
  repeat' first | (refine CallK_gen [1024] c0 (by decide) (by decide) (by simp [blksOf, inN, pos, renB, ren0, ouN, lv, kpI, kpR]) (by simp [argsG, argG, ren0, inN, pos, renCs, renC]) ⟨[], by simp, by simp, ?_⟩; simp [lv, ouN, kpI, kpR, pos, ren, ren0, renB, renC, renCs]) | (refine hK _ ?_; clear hK) | (refine hK _ _ ?_; clear hK) | (clear hK; refine hK _ ?_; clear hK) | (clear hK; clear hK; refine hK _ ?_; clear hK) | (clear hK; clear hK; clear hK; refine hK _ ?_; clear hK) | (clear hK; clear hK; clear hK; clear hK; refine hK _ ?_; clear hK) | (refine wSeq fun K hK => ?_) | ((first | refine wReg ?_ | refine wDrwQ rfl (by kernel_rfl) ?_ | refine wDrwI ?_ | refine wDrw (by kernel_rfl) ?_); simp only [List.map_cons, List.map_nil, strip]) | ((first | refine wIs fun K hK => ?_ | refine wOs fun K hK => ?_ | refine wQs fun K hK => ?_ | refine CallK_plain ?_ | refine CallQ_plain ?_ | refine CallR_plain ?_ | refine wCond ?_); simp [lv, ouN, kpI, kpR, pos, ren, ren0, renB, renC, renCs]) | (refine wIn ?_; refine And.intro (by kernel_rfl) ?_; try simp only [thenA_n]) | (first | refine wBlock ?_ | refine wScope ?_) | ((first | refine wRet ?_ | refine wExit ?_ | refine wSkip ?_); try simp) | ((first | refine wLabel ?_ | refine wOn ?_ | refine wQn ?_); try simp only [thenA_n])
  generalize hF : rdL foI.rd b m s0 = full at *
  refine wLoopG [.row 3 3 1] (fun N st => ∃ k s2 acc, k + N = m ∧ acc.length = k ∧ full = (acc ++ (rdL foI.rd b N s2).1, (rdL foI.rd b N s2).2) ∧ st.s 0 = .ptr 1024 0 ∧ st.s 3 = .row 3 ∧ st.s 4 = .p (I m) ∧ st.s 5 = .p (I k) ∧ st.b 1024 = some (.box 119 [.p (.sl 1 (by8 b)), .p (I s2.2), .p (I s2.1)]) ∧ st.b 3 = some (.row 3 1 acc)) m ⟨0, s0, [], by simp [hF, lv, ouN, kpI, kpR, pos, ren, ren0, renB, renC, renCs]⟩ fun K N st hL ⟨k, s2, acc, hk, hac, hfu, g0, g3, g4, g5, b0, b3⟩ => ?_
  by_cases hgo : k < m ∧ s2.1 = 0
  · obtain ⟨hlt, z⟩ := hgo
    have hlt' : (k : Int) < (m : Int) := by omega
    have hw := wrapS k m hlt (by omega)
    obtain ⟨M, rfl⟩ : ∃ M, N = M + 1 := ⟨N - 1, by omega⟩
    rw [rdL, if_pos z] at hfu
    have c := inum b s2 hb
    obtain ⟨x0, s3, he⟩ := foI_got b s2
    rw [he] at c hfu
    try simp only [vOf1, vOf2] at c
    simp only at hfu
    obtain ⟨q2, a2⟩ := s2
    simp only at z
    subst z
    simp only at b0
    repeat' first | (refine CallK_gen [1024] c (by decide) (by decide) (by simp [blksOf, inN, pos, renB, ren0, b0]) (by simp [argsG, argG, ren0, inN, pos, renCs, renC]) ⟨[], by simp, by simp, ?_⟩; simp [lv, ouN, kpI, kpR, pos, ren, ren0, renB, renC, renCs, b0]) | (refine And.intro (by omega) ?_) | (refine hK _ ?_; clear hK) | (refine hK _ _ ?_; clear hK) | (clear hK; refine hK _ ?_; clear hK) | (clear hK; clear hK; refine hK _ ?_; clear hK) | (clear hK; clear hK; clear hK; refine hK _ ?_; clear hK) | (clear hK; clear hK; clear hK; clear hK; refine hK _ ?_; clear hK) | (refine wSeq fun K hK => ?_) | ((first | refine wReg ?_ | refine wDrwQ rfl (by kernel_rfl) ?_ | refine wDrwI ?_ | refine wDrw (by kernel_rfl) ?_); simp only [List.map_cons, List.map_nil, strip]) | ((first | refine wIs fun K hK => ?_ | refine wOs fun K hK => ?_ | refine wQs fun K hK => ?_ | refine CallK_plain ?_ | refine CallQ_plain ?_ | refine CallR_plain ?_ | refine wCond ?_); simp [g0, g3, g4, g5, b0, b3, hlt, hlt', hw, lv, ouN, kpI, kpR, pos, ren, ren0, renB, renC, renCs]) | (refine wIn ?_; refine And.intro (by kernel_rfl) ?_; try simp only [thenA_n]) | (first | refine wBlock ?_ | refine wScope ?_) | ((first | refine wRet ?_ | refine wExit ?_ | refine wSkip ?_); try simp) | ((first | refine wLabel ?_ | refine wOn ?_ | refine wQn ?_); try simp only [thenA_n])
    refine hL _ M (by omega) ⟨k + 1, s3, acc ++ [[I x0]], by omega, by simp [hac], by rw [hfu]; simp, ?_⟩
    simp [g0, g3, g4, g5, b0, b3, hw, lv, ouN, kpI, kpR, pos, ren, ren0, renB, renC, renCs]
  · have hend : full = (acc, s2) := by
      rw [hfu]
      by_cases z : s2.1 = 0
      · obtain rfl : N = 0 := by have : ¬ k < m := fun h => hgo ⟨h, z⟩; omega
        simp [rdL]
      · obtain ⟨q2, a2⟩ := s2
        rw [rdL_stk _ _ _ _ z]; simp
    rw [hend] at hr
    clear hfu hend
    have f3 : (Av.frz st 3 1 acc).s 3 = .p (.sl 1 acc) := by simp [Av.frz, sub, sub0, g3]
    have f0 : (Av.frz st 3 1 acc).b 1024 = some (.box 119 [.p (.sl 1 (by8 b)), .p (I s2.2), .p (I s2.1)]) := by simp [Av.frz, sub, sub0, subB, b0]
    by_cases hlt : k < m
    · have hlt' : (k : Int) < (m : Int) := by omega
      have z : (s2.1 = 0) = False := eq_false fun z => hgo ⟨hlt, z⟩
      have f4 : (Av.frz st 3 1 acc).s 4 = .p (I m) := by simp [Av.frz, sub, sub0, g4]
      have f5 : (Av.frz st 3 1 acc).s 5 = .p (I k) := by simp [Av.frz, sub, sub0, g5]
      have f00 : (Av.frz st 3 1 acc).s 0 = .ptr 1024 0 := by simp [Av.frz, sub, sub0, g0]
      repeat' first | (refine wFrzR 3 acc b3 ?_; generalize Av.frz st 3 1 acc = st2 at f3 f0 f4 f5 f00 ⊢) | (refine hK _ ?_; clear hK) | (refine hK _ _ ?_; clear hK) | (clear hK; refine hK _ ?_; clear hK) | (clear hK; clear hK; refine hK _ ?_; clear hK) | (clear hK; clear hK; clear hK; refine hK _ ?_; clear hK) | (clear hK; clear hK; clear hK; clear hK; refine hK _ ?_; clear hK) | (refine wSeq fun K hK => ?_) | ((first | refine wReg ?_ | refine wDrwQ rfl (by kernel_rfl) ?_ | refine wDrwI ?_ | refine wDrw (by kernel_rfl) ?_); simp only [List.map_cons, List.map_nil, strip]) | ((first | refine wIs fun K hK => ?_ | refine wOs fun K hK => ?_ | refine wQs fun K hK => ?_ | refine CallK_plain ?_ | refine CallQ_plain ?_ | refine CallR_plain ?_ | refine wCond ?_); simp [f3, f0, f4, f5, f00, g0, g4, g5, b0, hlt, hlt', z]) | (refine wIn ?_; refine And.intro (by kernel_rfl) ?_; try simp only [thenA_n]) | (first | refine wBlock ?_ | refine wScope ?_) | ((first | refine wRet ?_ | refine wExit ?_ | refine wSkip ?_); try simp) | ((first | refine wLabel ?_ | refine wOn ?_ | refine wQn ?_); try simp only [thenA_n])
      all_goals first | apply hr
      all_goals refine ⟨[], by simp, by simp, ?_⟩
      all_goals simp [Try.f113, outR, outB, renB, gaN, f3, f0]
    · have hlt' : ¬ (k : Int) < (m : Int) := by omega
      have f4 : (Av.frz st 3 1 acc).s 4 = .p (I m) := by simp [Av.frz, sub, sub0, g4]
      have f5 : (Av.frz st 3 1 acc).s 5 = .p (I k) := by simp [Av.frz, sub, sub0, g5]
      have f00 : (Av.frz st 3 1 acc).s 0 = .ptr 1024 0 := by simp [Av.frz, sub, sub0, g0]
      repeat' first | (refine wFrzR 3 acc b3 ?_; generalize Av.frz st 3 1 acc = st2 at f3 f0 f4 f5 f00 ⊢) | (refine hK _ ?_; clear hK) | (refine hK _ _ ?_; clear hK) | (clear hK; refine hK _ ?_; clear hK) | (clear hK; clear hK; refine hK _ ?_; clear hK) | (clear hK; clear hK; clear hK; refine hK _ ?_; clear hK) | (clear hK; clear hK; clear hK; clear hK; refine hK _ ?_; clear hK) | (refine wSeq fun K hK => ?_) | ((first | refine wReg ?_ | refine wDrwQ rfl (by kernel_rfl) ?_ | refine wDrwI ?_ | refine wDrw (by kernel_rfl) ?_); simp only [List.map_cons, List.map_nil, strip]) | ((first | refine wIs fun K hK => ?_ | refine wOs fun K hK => ?_ | refine wQs fun K hK => ?_ | refine CallK_plain ?_ | refine CallQ_plain ?_ | refine CallR_plain ?_ | refine wCond ?_); simp [f3, f0, f4, f5, f00, g0, g4, g5, b0, hlt, hlt']) | (refine wIn ?_; refine And.intro (by kernel_rfl) ?_; try simp only [thenA_n]) | (first | refine wBlock ?_ | refine wScope ?_) | ((first | refine wRet ?_ | refine wExit ?_ | refine wSkip ?_); try simp) | ((first | refine wLabel ?_ | refine wOn ?_ | refine wQn ?_); try simp only [thenA_n])
      all_goals first | apply hr
      all_goals refine ⟨[], by simp, by simp, ?_⟩
      all_goals simp [Try.f113, outR, outB, renB, gaN, f3, f0]
/- Records read, the document's: configs, nodes, ops. -/
set_option maxHeartbeats 8000000 in
theorem ilMb : IRn 101 (fl 4 fMb) := by
  intro b st hb
  have c0 := icount b st hb
  have hL : (fl 4 fMb).rd b st = ([.sl 4 (rdL fMb.rd b (rdC b st).1.toNat (rdC b st).2).1], (rdL fMb.rd b (rdC b st).1.toNat (rdC b st).2).2) := rfl
  have hbd := rdC_bd b st
  rw [hL, vOf1]
  generalize rdC b st = r at *
  obtain ⟨n, s0⟩ := r
  simp only at *
  obtain ⟨m, rfl⟩ : ∃ m : Nat, n = m := ⟨n.toNat, by omega⟩
  simp only [Int.toNat_natCast]
  clear hL
  refine wBodyG Try.tab Try.mixed Try.func101 rfl rfl Try.ntmps101 (by simp) (by simp) fun Q hr hn hp => ?_
  repeat' first | (refine CallK_gen [1024] c0 (by decide) (by decide) (by simp [blksOf, inN, pos, renB, ren0, ouN, lv, kpI, kpR]) (by simp [argsG, argG, ren0, inN, pos, renCs, renC]) ⟨[], by simp, by simp, ?_⟩; simp [lv, ouN, kpI, kpR, pos, ren, ren0, renB, renC, renCs]) | (refine hK _ ?_; clear hK) | (refine hK _ _ ?_; clear hK) | (clear hK; refine hK _ ?_; clear hK) | (clear hK; clear hK; refine hK _ ?_; clear hK) | (clear hK; clear hK; clear hK; refine hK _ ?_; clear hK) | (clear hK; clear hK; clear hK; clear hK; refine hK _ ?_; clear hK) | (refine wSeq fun K hK => ?_) | ((first | refine wReg ?_ | refine wDrwQ rfl (by kernel_rfl) ?_ | refine wDrwI ?_ | refine wDrw (by kernel_rfl) ?_); simp only [List.map_cons, List.map_nil, strip]) | ((first | refine wIs fun K hK => ?_ | refine wOs fun K hK => ?_ | refine wQs fun K hK => ?_ | refine CallK_plain ?_ | refine CallQ_plain ?_ | refine CallR_plain ?_ | refine wCond ?_); simp [lv, ouN, kpI, kpR, pos, ren, ren0, renB, renC, renCs]) | (refine wIn ?_; refine And.intro (by kernel_rfl) ?_; try simp only [thenA_n]) | (first | refine wBlock ?_ | refine wScope ?_) | ((first | refine wRet ?_ | refine wExit ?_ | refine wSkip ?_); try simp) | ((first | refine wLabel ?_ | refine wOn ?_ | refine wQn ?_); try simp only [thenA_n])
  generalize hF : rdL fMb.rd b m s0 = full at *
  refine wLoopG [.row 3 82 4] (fun N st => ∃ k s2 acc, k + N = m ∧ acc.length = k ∧ full = (acc ++ (rdL fMb.rd b N s2).1, (rdL fMb.rd b N s2).2) ∧ st.s 0 = .ptr 1024 0 ∧ st.s 3 = .row 3 ∧ st.s 4 = .p (I m) ∧ st.s 5 = .p (I k) ∧ st.b 1024 = some (.box 119 [.p (.sl 1 (by8 b)), .p (I s2.2), .p (I s2.1)]) ∧ st.b 3 = some (.row 82 4 acc)) m ⟨0, s0, [], by simp [hF, lv, ouN, kpI, kpR, pos, ren, ren0, renB, renC, renCs]⟩ fun K N st hL ⟨k, s2, acc, hk, hac, hfu, g0, g3, g4, g5, b0, b3⟩ => ?_
  by_cases hgo : k < m ∧ s2.1 = 0
  · obtain ⟨hlt, z⟩ := hgo
    have hlt' : (k : Int) < (m : Int) := by omega
    have hw := wrapS k m hlt (by omega)
    obtain ⟨M, rfl⟩ : ∃ M, N = M + 1 := ⟨N - 1, by omega⟩
    rw [rdL, if_pos z] at hfu
    have c := iMb b s2 hb
    obtain ⟨x0, x1, x2, x3, s3, he⟩ := fMb_got b s2
    rw [he] at c hfu
    try simp only [vOf1, vOf2] at c
    simp only at hfu
    obtain ⟨q2, a2⟩ := s2
    simp only at z
    subst z
    simp only at b0
    repeat' first | (refine CallK_gen [1024] c (by decide) (by decide) (by simp [blksOf, inN, pos, renB, ren0, b0]) (by simp [argsG, argG, ren0, inN, pos, renCs, renC]) ⟨[], by simp, by simp, ?_⟩; simp [lv, ouN, kpI, kpR, pos, ren, ren0, renB, renC, renCs, b0]) | (refine And.intro (by omega) ?_) | (refine hK _ ?_; clear hK) | (refine hK _ _ ?_; clear hK) | (clear hK; refine hK _ ?_; clear hK) | (clear hK; clear hK; refine hK _ ?_; clear hK) | (clear hK; clear hK; clear hK; refine hK _ ?_; clear hK) | (clear hK; clear hK; clear hK; clear hK; refine hK _ ?_; clear hK) | (refine wSeq fun K hK => ?_) | ((first | refine wReg ?_ | refine wDrwQ rfl (by kernel_rfl) ?_ | refine wDrwI ?_ | refine wDrw (by kernel_rfl) ?_); simp only [List.map_cons, List.map_nil, strip]) | ((first | refine wIs fun K hK => ?_ | refine wOs fun K hK => ?_ | refine wQs fun K hK => ?_ | refine CallK_plain ?_ | refine CallQ_plain ?_ | refine CallR_plain ?_ | refine wCond ?_); simp [g0, g3, g4, g5, b0, b3, hlt, hlt', hw, lv, ouN, kpI, kpR, pos, ren, ren0, renB, renC, renCs]) | (refine wIn ?_; refine And.intro (by kernel_rfl) ?_; try simp only [thenA_n]) | (first | refine wBlock ?_ | refine wScope ?_) | ((first | refine wRet ?_ | refine wExit ?_ | refine wSkip ?_); try simp) | ((first | refine wLabel ?_ | refine wOn ?_ | refine wQn ?_); try simp only [thenA_n])
    refine hL _ M (by omega) ⟨k + 1, s3, acc ++ [[I x0, I x1, I x2, I x3]], by omega, by simp [hac], by rw [hfu]; simp, ?_⟩
    simp [g0, g3, g4, g5, b0, b3, hw, lv, ouN, kpI, kpR, pos, ren, ren0, renB, renC, renCs]
  · have hend : full = (acc, s2) := by
      rw [hfu]
      by_cases z : s2.1 = 0
      · obtain rfl : N = 0 := by have : ¬ k < m := fun h => hgo ⟨h, z⟩; omega
        simp [rdL]
      · obtain ⟨q2, a2⟩ := s2
        rw [rdL_stk _ _ _ _ z]; simp
    rw [hend] at hr
    clear hfu hend
    have f3 : (Av.frz st 3 4 acc).s 3 = .p (.sl 4 acc) := by simp [Av.frz, sub, sub0, g3]
    have f0 : (Av.frz st 3 4 acc).b 1024 = some (.box 119 [.p (.sl 1 (by8 b)), .p (I s2.2), .p (I s2.1)]) := by simp [Av.frz, sub, sub0, subB, b0]
    by_cases hlt : k < m
    · have hlt' : (k : Int) < (m : Int) := by omega
      have z : (s2.1 = 0) = False := eq_false fun z => hgo ⟨hlt, z⟩
      have f4 : (Av.frz st 3 4 acc).s 4 = .p (I m) := by simp [Av.frz, sub, sub0, g4]
      have f5 : (Av.frz st 3 4 acc).s 5 = .p (I k) := by simp [Av.frz, sub, sub0, g5]
      have f00 : (Av.frz st 3 4 acc).s 0 = .ptr 1024 0 := by simp [Av.frz, sub, sub0, g0]
      repeat' first | (refine wFrzR 3 acc b3 ?_; generalize Av.frz st 3 4 acc = st2 at f3 f0 f4 f5 f00 ⊢) | (refine hK _ ?_; clear hK) | (refine hK _ _ ?_; clear hK) | (clear hK; refine hK _ ?_; clear hK) | (clear hK; clear hK; refine hK _ ?_; clear hK) | (clear hK; clear hK; clear hK; refine hK _ ?_; clear hK) | (clear hK; clear hK; clear hK; clear hK; refine hK _ ?_; clear hK) | (refine wSeq fun K hK => ?_) | ((first | refine wReg ?_ | refine wDrwQ rfl (by kernel_rfl) ?_ | refine wDrwI ?_ | refine wDrw (by kernel_rfl) ?_); simp only [List.map_cons, List.map_nil, strip]) | ((first | refine wIs fun K hK => ?_ | refine wOs fun K hK => ?_ | refine wQs fun K hK => ?_ | refine CallK_plain ?_ | refine CallQ_plain ?_ | refine CallR_plain ?_ | refine wCond ?_); simp [f3, f0, f4, f5, f00, g0, g4, g5, b0, hlt, hlt', z]) | (refine wIn ?_; refine And.intro (by kernel_rfl) ?_; try simp only [thenA_n]) | (first | refine wBlock ?_ | refine wScope ?_) | ((first | refine wRet ?_ | refine wExit ?_ | refine wSkip ?_); try simp) | ((first | refine wLabel ?_ | refine wOn ?_ | refine wQn ?_); try simp only [thenA_n])
      all_goals first | apply hr
      all_goals refine ⟨[], by simp, by simp, ?_⟩
      all_goals simp [Try.f101, outR, outB, renB, gaN, f3, f0]
    · have hlt' : ¬ (k : Int) < (m : Int) := by omega
      have f4 : (Av.frz st 3 4 acc).s 4 = .p (I m) := by simp [Av.frz, sub, sub0, g4]
      have f5 : (Av.frz st 3 4 acc).s 5 = .p (I k) := by simp [Av.frz, sub, sub0, g5]
      have f00 : (Av.frz st 3 4 acc).s 0 = .ptr 1024 0 := by simp [Av.frz, sub, sub0, g0]
      repeat' first | (refine wFrzR 3 acc b3 ?_; generalize Av.frz st 3 4 acc = st2 at f3 f0 f4 f5 f00 ⊢) | (refine hK _ ?_; clear hK) | (refine hK _ _ ?_; clear hK) | (clear hK; refine hK _ ?_; clear hK) | (clear hK; clear hK; refine hK _ ?_; clear hK) | (clear hK; clear hK; clear hK; refine hK _ ?_; clear hK) | (clear hK; clear hK; clear hK; clear hK; refine hK _ ?_; clear hK) | (refine wSeq fun K hK => ?_) | ((first | refine wReg ?_ | refine wDrwQ rfl (by kernel_rfl) ?_ | refine wDrwI ?_ | refine wDrw (by kernel_rfl) ?_); simp only [List.map_cons, List.map_nil, strip]) | ((first | refine wIs fun K hK => ?_ | refine wOs fun K hK => ?_ | refine wQs fun K hK => ?_ | refine CallK_plain ?_ | refine CallQ_plain ?_ | refine CallR_plain ?_ | refine wCond ?_); simp [f3, f0, f4, f5, f00, g0, g4, g5, b0, hlt, hlt']) | (refine wIn ?_; refine And.intro (by kernel_rfl) ?_; try simp only [thenA_n]) | (first | refine wBlock ?_ | refine wScope ?_) | ((first | refine wRet ?_ | refine wExit ?_ | refine wSkip ?_); try simp) | ((first | refine wLabel ?_ | refine wOn ?_ | refine wQn ?_); try simp only [thenA_n])
      all_goals first | apply hr
      all_goals refine ⟨[], by simp, by simp, ?_⟩
      all_goals simp [Try.f101, outR, outB, renB, gaN, f3, f0]
set_option maxHeartbeats 4000000 in
theorem iCf : IRn 62 fCf := by
  intro b st hb
  have c0 := iZx b st hb
  obtain ⟨x0, x1, s0, e0⟩ := fZx_got b st
  rw [e0] at c0
  simp only [vOf1, vOf2] at c0
  have c1 := inum b s0 hb
  obtain ⟨x2, s1, e1⟩ := foI_got b s0
  rw [e1] at c1
  simp only [vOf1, vOf2] at c1
  have c2 := ilMb b s1 hb
  obtain ⟨x3, s2, e2⟩ := fl_got 4 fMb b s1
  rw [e2] at c2
  simp only [vOf1, vOf2] at c2
  have hz : fCf.rd b st = ([I x0, I x1, I x2, .sl 4 x3], s2) := by simp only [fCf, sq_rd, e0, e1, e2, List.cons_append, List.nil_append]
  rw [hz]
  clear e0 e1 e2 hz
  simp only [vOf2]
  refine wBodyG Try.tab Try.mixed Try.func62 rfl rfl Try.ntmps62 (by simp) (by simp) fun Q hr hn hp => ?_
  repeat' first | (refine CallK_gen [1024] c0 (by decide) (by decide) (by simp [blksOf, inN, pos, renB, ren0, ouN, lv, kpI, kpR]) (by simp [argsG, argG, ren0, inN, pos, renCs, renC]) ⟨[], by simp, by simp, ?_⟩; simp [lv, ouN, kpI, kpR, pos, ren, ren0, renB, renC, renCs]; clear c0) | (refine CallK_gen [1024] c1 (by decide) (by decide) (by simp [blksOf, inN, pos, renB, ren0, ouN, lv, kpI, kpR]) (by simp [argsG, argG, ren0, inN, pos, renCs, renC]) ⟨[], by simp, by simp, ?_⟩; simp [lv, ouN, kpI, kpR, pos, ren, ren0, renB, renC, renCs]; clear c1) | (refine CallK_gen [1024] c2 (by decide) (by decide) (by simp [blksOf, inN, pos, renB, ren0, ouN, lv, kpI, kpR]) (by simp [argsG, argG, ren0, inN, pos, renCs, renC]) ⟨[], by simp, by simp, ?_⟩; simp [lv, ouN, kpI, kpR, pos, ren, ren0, renB, renC, renCs]; clear c2) | (refine hK _ ?_; clear hK) | (refine hK _ _ ?_; clear hK) | (clear hK; refine hK _ ?_; clear hK) | (clear hK; clear hK; refine hK _ ?_; clear hK) | (clear hK; clear hK; clear hK; refine hK _ ?_; clear hK) | (clear hK; clear hK; clear hK; clear hK; refine hK _ ?_; clear hK) | (refine wSeq fun K hK => ?_) | ((first | refine wReg ?_ | refine wDrwQ rfl (by kernel_rfl) ?_ | refine wDrwI ?_ | refine wDrw (by kernel_rfl) ?_); simp only [List.map_cons, List.map_nil, strip]) | ((first | refine wIs fun K hK => ?_ | refine wOs fun K hK => ?_ | refine wQs fun K hK => ?_ | refine CallK_plain ?_ | refine CallQ_plain ?_ | refine CallR_plain ?_ | refine wCond ?_); simp [lv, ouN, kpI, kpR, pos, ren, ren0, renB, renC, renCs]) | (refine wIn ?_; refine And.intro (by kernel_rfl) ?_; try simp only [thenA_n]) | (first | refine wBlock ?_ | refine wScope ?_) | ((first | refine wRet ?_ | refine wExit ?_ | refine wSkip ?_); try simp) | ((first | refine wLabel ?_ | refine wOn ?_ | refine wQn ?_); try simp only [thenA_n])
  all_goals first | apply hr
  all_goals refine ⟨[], by simp, by simp, ?_⟩
  all_goals simp [Try.f62, outR, outB, renB, gaN, lv, ouN, kpI, kpR, pos, ren, ren0, renC, renCs]
set_option maxHeartbeats 4000000 in
theorem iNd : IRn 137 fNd := by
  intro b st hb
  have c0 := itext b st hb
  obtain ⟨x0, s0, e0⟩ := foS_got b st
  rw [e0] at c0
  simp only [vOf1, vOf2] at c0
  have c1 := itext b s0 hb
  obtain ⟨x1, s1, e1⟩ := foS_got b s0
  rw [e1] at c1
  simp only [vOf1, vOf2] at c1
  have c2 := inum b s1 hb
  obtain ⟨x2, s2, e2⟩ := foI_got b s1
  rw [e2] at c2
  simp only [vOf1, vOf2] at c2
  have c3 := inum b s2 hb
  obtain ⟨x3, s3, e3⟩ := foI_got b s2
  rw [e3] at c3
  simp only [vOf1, vOf2] at c3
  have c4 := inum b s3 hb
  obtain ⟨x4, s4, e4⟩ := foI_got b s3
  rw [e4] at c4
  simp only [vOf1, vOf2] at c4
  have hz : fNd.rd b st = ([SB x0, SB x1, I x2, I x3, I x4], s4) := by simp only [fNd, sq_rd, e0, e1, e2, e3, e4, List.cons_append, List.nil_append]
  rw [hz]
  clear e0 e1 e2 e3 e4 hz
  simp only [vOf2]
  refine wBodyG Try.tab Try.mixed Try.func137 rfl rfl Try.ntmps137 (by simp) (by simp) fun Q hr hn hp => ?_
  repeat' first | (refine CallK_gen [1024] c0 (by decide) (by decide) (by simp [blksOf, inN, pos, renB, ren0, ouN, lv, kpI, kpR]) (by simp [argsG, argG, ren0, inN, pos, renCs, renC]) ⟨[], by simp, by simp, ?_⟩; simp [lv, ouN, kpI, kpR, pos, ren, ren0, renB, renC, renCs]; clear c0) | (refine CallK_gen [1024] c1 (by decide) (by decide) (by simp [blksOf, inN, pos, renB, ren0, ouN, lv, kpI, kpR]) (by simp [argsG, argG, ren0, inN, pos, renCs, renC]) ⟨[], by simp, by simp, ?_⟩; simp [lv, ouN, kpI, kpR, pos, ren, ren0, renB, renC, renCs]; clear c1) | (refine CallK_gen [1024] c2 (by decide) (by decide) (by simp [blksOf, inN, pos, renB, ren0, ouN, lv, kpI, kpR]) (by simp [argsG, argG, ren0, inN, pos, renCs, renC]) ⟨[], by simp, by simp, ?_⟩; simp [lv, ouN, kpI, kpR, pos, ren, ren0, renB, renC, renCs]; clear c2) | (refine CallK_gen [1024] c3 (by decide) (by decide) (by simp [blksOf, inN, pos, renB, ren0, ouN, lv, kpI, kpR]) (by simp [argsG, argG, ren0, inN, pos, renCs, renC]) ⟨[], by simp, by simp, ?_⟩; simp [lv, ouN, kpI, kpR, pos, ren, ren0, renB, renC, renCs]; clear c3) | (refine CallK_gen [1024] c4 (by decide) (by decide) (by simp [blksOf, inN, pos, renB, ren0, ouN, lv, kpI, kpR]) (by simp [argsG, argG, ren0, inN, pos, renCs, renC]) ⟨[], by simp, by simp, ?_⟩; simp [lv, ouN, kpI, kpR, pos, ren, ren0, renB, renC, renCs]; clear c4) | (refine hK _ ?_; clear hK) | (refine hK _ _ ?_; clear hK) | (clear hK; refine hK _ ?_; clear hK) | (clear hK; clear hK; refine hK _ ?_; clear hK) | (clear hK; clear hK; clear hK; refine hK _ ?_; clear hK) | (clear hK; clear hK; clear hK; clear hK; refine hK _ ?_; clear hK) | (refine wSeq fun K hK => ?_) | ((first | refine wReg ?_ | refine wDrwQ rfl (by kernel_rfl) ?_ | refine wDrwI ?_ | refine wDrw (by kernel_rfl) ?_); simp only [List.map_cons, List.map_nil, strip]) | ((first | refine wIs fun K hK => ?_ | refine wOs fun K hK => ?_ | refine wQs fun K hK => ?_ | refine CallK_plain ?_ | refine CallQ_plain ?_ | refine CallR_plain ?_ | refine wCond ?_); simp [lv, ouN, kpI, kpR, pos, ren, ren0, renB, renC, renCs]) | (refine wIn ?_; refine And.intro (by kernel_rfl) ?_; try simp only [thenA_n]) | (first | refine wBlock ?_ | refine wScope ?_) | ((first | refine wRet ?_ | refine wExit ?_ | refine wSkip ?_); try simp) | ((first | refine wLabel ?_ | refine wOn ?_ | refine wQn ?_); try simp only [thenA_n])
  all_goals first | apply hr
  all_goals refine ⟨[], by simp, by simp, ?_⟩
  all_goals simp [Try.f137, outR, outB, renB, gaN, lv, ouN, kpI, kpR, pos, ren, ren0, renC, renCs]
/- Records read, the document's: transactions. -/
set_option maxHeartbeats 4000000 in
theorem iPt : IRn 136 fPt := by
  intro b st hb
  have c0 := inum b st hb
  obtain ⟨x0, s0, e0⟩ := foI_got b st
  rw [e0] at c0
  simp only [vOf1, vOf2] at c0
  have c1 := iNd b s0 hb
  obtain ⟨x1, x2, x3, x4, x5, s1, e1⟩ := fNd_got b s0
  rw [e1] at c1
  simp only [vOf1, vOf2] at c1
  have c2 := inum b s1 hb
  obtain ⟨x6, s2, e2⟩ := foI_got b s1
  rw [e2] at c2
  simp only [vOf1, vOf2] at c2
  have c3 := iCf b s2 hb
  obtain ⟨x7, x8, x9, x10, s3, e3⟩ := fCf_got b s2
  rw [e3] at c3
  simp only [vOf1, vOf2] at c3
  have hz : fPt.rd b st = ([I x0, SB x1, SB x2, I x3, I x4, I x5, I x6, I x7, I x8, I x9, .sl 4 x10], s3) := by simp only [fPt, sq_rd, e0, e1, e2, e3, List.cons_append, List.nil_append]
  rw [hz]
  clear e0 e1 e2 e3 hz
  simp only [vOf2]
  refine wBodyG Try.tab Try.mixed Try.func136 rfl rfl Try.ntmps136 (by simp) (by simp) fun Q hr hn hp => ?_
  repeat' first | (refine CallK_gen [1024] c0 (by decide) (by decide) (by simp [blksOf, inN, pos, renB, ren0, ouN, lv, kpI, kpR]) (by simp [argsG, argG, ren0, inN, pos, renCs, renC]) ⟨[], by simp, by simp, ?_⟩; simp [lv, ouN, kpI, kpR, pos, ren, ren0, renB, renC, renCs]; clear c0) | (refine CallK_gen [1024] c1 (by decide) (by decide) (by simp [blksOf, inN, pos, renB, ren0, ouN, lv, kpI, kpR]) (by simp [argsG, argG, ren0, inN, pos, renCs, renC]) ⟨[], by simp, by simp, ?_⟩; simp [lv, ouN, kpI, kpR, pos, ren, ren0, renB, renC, renCs]; clear c1) | (refine CallK_gen [1024] c2 (by decide) (by decide) (by simp [blksOf, inN, pos, renB, ren0, ouN, lv, kpI, kpR]) (by simp [argsG, argG, ren0, inN, pos, renCs, renC]) ⟨[], by simp, by simp, ?_⟩; simp [lv, ouN, kpI, kpR, pos, ren, ren0, renB, renC, renCs]; clear c2) | (refine CallK_gen [1024] c3 (by decide) (by decide) (by simp [blksOf, inN, pos, renB, ren0, ouN, lv, kpI, kpR]) (by simp [argsG, argG, ren0, inN, pos, renCs, renC]) ⟨[], by simp, by simp, ?_⟩; simp [lv, ouN, kpI, kpR, pos, ren, ren0, renB, renC, renCs]; clear c3) | (refine hK _ ?_; clear hK) | (refine hK _ _ ?_; clear hK) | (clear hK; refine hK _ ?_; clear hK) | (clear hK; clear hK; refine hK _ ?_; clear hK) | (clear hK; clear hK; clear hK; refine hK _ ?_; clear hK) | (clear hK; clear hK; clear hK; clear hK; refine hK _ ?_; clear hK) | (refine wSeq fun K hK => ?_) | ((first | refine wReg ?_ | refine wDrwQ rfl (by kernel_rfl) ?_ | refine wDrwI ?_ | refine wDrw (by kernel_rfl) ?_); simp only [List.map_cons, List.map_nil, strip]) | ((first | refine wIs fun K hK => ?_ | refine wOs fun K hK => ?_ | refine wQs fun K hK => ?_ | refine CallK_plain ?_ | refine CallQ_plain ?_ | refine CallR_plain ?_ | refine wCond ?_); simp [lv, ouN, kpI, kpR, pos, ren, ren0, renB, renC, renCs]) | (refine wIn ?_; refine And.intro (by kernel_rfl) ?_; try simp only [thenA_n]) | (first | refine wBlock ?_ | refine wScope ?_) | ((first | refine wRet ?_ | refine wExit ?_ | refine wSkip ?_); try simp) | ((first | refine wLabel ?_ | refine wOn ?_ | refine wQn ?_); try simp only [thenA_n])
  all_goals first | apply hr
  all_goals refine ⟨[], by simp, by simp, ?_⟩
  all_goals simp [Try.f136, outR, outB, renB, gaN, lv, ouN, kpI, kpR, pos, ren, ren0, renC, renCs]
set_option maxHeartbeats 8000000 in
theorem ilPt : IRn 107 (fl 11 fPt) := by
  intro b st hb
  have c0 := icount b st hb
  have hL : (fl 11 fPt).rd b st = ([.sl 11 (rdL fPt.rd b (rdC b st).1.toNat (rdC b st).2).1], (rdL fPt.rd b (rdC b st).1.toNat (rdC b st).2).2) := rfl
  have hbd := rdC_bd b st
  rw [hL, vOf1]
  generalize rdC b st = r at *
  obtain ⟨n, s0⟩ := r
  simp only at *
  obtain ⟨m, rfl⟩ : ∃ m : Nat, n = m := ⟨n.toNat, by omega⟩
  simp only [Int.toNat_natCast]
  clear hL
  refine wBodyG Try.tab Try.mixed Try.func107 rfl rfl Try.ntmps107 (by simp) (by simp) fun Q hr hn hp => ?_
  repeat' first | (refine CallK_gen [1024] c0 (by decide) (by decide) (by simp [blksOf, inN, pos, renB, ren0, ouN, lv, kpI, kpR]) (by simp [argsG, argG, ren0, inN, pos, renCs, renC]) ⟨[], by simp, by simp, ?_⟩; simp [lv, ouN, kpI, kpR, pos, ren, ren0, renB, renC, renCs]) | (refine hK _ ?_; clear hK) | (refine hK _ _ ?_; clear hK) | (clear hK; refine hK _ ?_; clear hK) | (clear hK; clear hK; refine hK _ ?_; clear hK) | (clear hK; clear hK; clear hK; refine hK _ ?_; clear hK) | (clear hK; clear hK; clear hK; clear hK; refine hK _ ?_; clear hK) | (refine wSeq fun K hK => ?_) | ((first | refine wReg ?_ | refine wDrwQ rfl (by kernel_rfl) ?_ | refine wDrwI ?_ | refine wDrw (by kernel_rfl) ?_); simp only [List.map_cons, List.map_nil, strip]) | ((first | refine wIs fun K hK => ?_ | refine wOs fun K hK => ?_ | refine wQs fun K hK => ?_ | refine CallK_plain ?_ | refine CallQ_plain ?_ | refine CallR_plain ?_ | refine wCond ?_); simp [lv, ouN, kpI, kpR, pos, ren, ren0, renB, renC, renCs]) | (refine wIn ?_; refine And.intro (by kernel_rfl) ?_; try simp only [thenA_n]) | (first | refine wBlock ?_ | refine wScope ?_) | ((first | refine wRet ?_ | refine wExit ?_ | refine wSkip ?_); try simp) | ((first | refine wLabel ?_ | refine wOn ?_ | refine wQn ?_); try simp only [thenA_n])
  generalize hF : rdL fPt.rd b m s0 = full at *
  refine wLoopG [.row 3 80 11] (fun N st => ∃ k s2 acc, k + N = m ∧ acc.length = k ∧ full = (acc ++ (rdL fPt.rd b N s2).1, (rdL fPt.rd b N s2).2) ∧ st.s 0 = .ptr 1024 0 ∧ st.s 3 = .row 3 ∧ st.s 4 = .p (I m) ∧ st.s 5 = .p (I k) ∧ st.b 1024 = some (.box 119 [.p (.sl 1 (by8 b)), .p (I s2.2), .p (I s2.1)]) ∧ st.b 3 = some (.row 80 11 acc)) m ⟨0, s0, [], by simp [hF, lv, ouN, kpI, kpR, pos, ren, ren0, renB, renC, renCs]⟩ fun K N st hL ⟨k, s2, acc, hk, hac, hfu, g0, g3, g4, g5, b0, b3⟩ => ?_
  by_cases hgo : k < m ∧ s2.1 = 0
  · obtain ⟨hlt, z⟩ := hgo
    have hlt' : (k : Int) < (m : Int) := by omega
    have hw := wrapS k m hlt (by omega)
    obtain ⟨M, rfl⟩ : ∃ M, N = M + 1 := ⟨N - 1, by omega⟩
    rw [rdL, if_pos z] at hfu
    have c := iPt b s2 hb
    obtain ⟨x0, x1, x2, x3, x4, x5, x6, x7, x8, x9, x10, s3, he⟩ := fPt_got b s2
    rw [he] at c hfu
    try simp only [vOf1, vOf2] at c
    simp only at hfu
    obtain ⟨q2, a2⟩ := s2
    simp only at z
    subst z
    simp only at b0
    repeat' first | (refine CallK_gen [1024] c (by decide) (by decide) (by simp [blksOf, inN, pos, renB, ren0, b0]) (by simp [argsG, argG, ren0, inN, pos, renCs, renC]) ⟨[], by simp, by simp, ?_⟩; simp [lv, ouN, kpI, kpR, pos, ren, ren0, renB, renC, renCs, b0]) | (refine And.intro (by omega) ?_) | (refine hK _ ?_; clear hK) | (refine hK _ _ ?_; clear hK) | (clear hK; refine hK _ ?_; clear hK) | (clear hK; clear hK; refine hK _ ?_; clear hK) | (clear hK; clear hK; clear hK; refine hK _ ?_; clear hK) | (clear hK; clear hK; clear hK; clear hK; refine hK _ ?_; clear hK) | (refine wSeq fun K hK => ?_) | ((first | refine wReg ?_ | refine wDrwQ rfl (by kernel_rfl) ?_ | refine wDrwI ?_ | refine wDrw (by kernel_rfl) ?_); simp only [List.map_cons, List.map_nil, strip]) | ((first | refine wIs fun K hK => ?_ | refine wOs fun K hK => ?_ | refine wQs fun K hK => ?_ | refine CallK_plain ?_ | refine CallQ_plain ?_ | refine CallR_plain ?_ | refine wCond ?_); simp [g0, g3, g4, g5, b0, b3, hlt, hlt', hw, lv, ouN, kpI, kpR, pos, ren, ren0, renB, renC, renCs]) | (refine wIn ?_; refine And.intro (by kernel_rfl) ?_; try simp only [thenA_n]) | (first | refine wBlock ?_ | refine wScope ?_) | ((first | refine wRet ?_ | refine wExit ?_ | refine wSkip ?_); try simp) | ((first | refine wLabel ?_ | refine wOn ?_ | refine wQn ?_); try simp only [thenA_n])
    refine hL _ M (by omega) ⟨k + 1, s3, acc ++ [[I x0, SB x1, SB x2, I x3, I x4, I x5, I x6, I x7, I x8, I x9, .sl 4 x10]], by omega, by simp [hac], by rw [hfu]; simp, ?_⟩
    simp [g0, g3, g4, g5, b0, b3, hw, lv, ouN, kpI, kpR, pos, ren, ren0, renB, renC, renCs]
  · have hend : full = (acc, s2) := by
      rw [hfu]
      by_cases z : s2.1 = 0
      · obtain rfl : N = 0 := by have : ¬ k < m := fun h => hgo ⟨h, z⟩; omega
        simp [rdL]
      · obtain ⟨q2, a2⟩ := s2
        rw [rdL_stk _ _ _ _ z]; simp
    rw [hend] at hr
    clear hfu hend
    have f3 : (Av.frz st 3 11 acc).s 3 = .p (.sl 11 acc) := by simp [Av.frz, sub, sub0, g3]
    have f0 : (Av.frz st 3 11 acc).b 1024 = some (.box 119 [.p (.sl 1 (by8 b)), .p (I s2.2), .p (I s2.1)]) := by simp [Av.frz, sub, sub0, subB, b0]
    by_cases hlt : k < m
    · have hlt' : (k : Int) < (m : Int) := by omega
      have z : (s2.1 = 0) = False := eq_false fun z => hgo ⟨hlt, z⟩
      have f4 : (Av.frz st 3 11 acc).s 4 = .p (I m) := by simp [Av.frz, sub, sub0, g4]
      have f5 : (Av.frz st 3 11 acc).s 5 = .p (I k) := by simp [Av.frz, sub, sub0, g5]
      have f00 : (Av.frz st 3 11 acc).s 0 = .ptr 1024 0 := by simp [Av.frz, sub, sub0, g0]
      repeat' first | (refine wFrzR 3 acc b3 ?_; generalize Av.frz st 3 11 acc = st2 at f3 f0 f4 f5 f00 ⊢) | (refine hK _ ?_; clear hK) | (refine hK _ _ ?_; clear hK) | (clear hK; refine hK _ ?_; clear hK) | (clear hK; clear hK; refine hK _ ?_; clear hK) | (clear hK; clear hK; clear hK; refine hK _ ?_; clear hK) | (clear hK; clear hK; clear hK; clear hK; refine hK _ ?_; clear hK) | (refine wSeq fun K hK => ?_) | ((first | refine wReg ?_ | refine wDrwQ rfl (by kernel_rfl) ?_ | refine wDrwI ?_ | refine wDrw (by kernel_rfl) ?_); simp only [List.map_cons, List.map_nil, strip]) | ((first | refine wIs fun K hK => ?_ | refine wOs fun K hK => ?_ | refine wQs fun K hK => ?_ | refine CallK_plain ?_ | refine CallQ_plain ?_ | refine CallR_plain ?_ | refine wCond ?_); simp [f3, f0, f4, f5, f00, g0, g4, g5, b0, hlt, hlt', z]) | (refine wIn ?_; refine And.intro (by kernel_rfl) ?_; try simp only [thenA_n]) | (first | refine wBlock ?_ | refine wScope ?_) | ((first | refine wRet ?_ | refine wExit ?_ | refine wSkip ?_); try simp) | ((first | refine wLabel ?_ | refine wOn ?_ | refine wQn ?_); try simp only [thenA_n])
      all_goals first | apply hr
      all_goals refine ⟨[], by simp, by simp, ?_⟩
      all_goals simp [Try.f107, outR, outB, renB, gaN, f3, f0]
    · have hlt' : ¬ (k : Int) < (m : Int) := by omega
      have f4 : (Av.frz st 3 11 acc).s 4 = .p (I m) := by simp [Av.frz, sub, sub0, g4]
      have f5 : (Av.frz st 3 11 acc).s 5 = .p (I k) := by simp [Av.frz, sub, sub0, g5]
      have f00 : (Av.frz st 3 11 acc).s 0 = .ptr 1024 0 := by simp [Av.frz, sub, sub0, g0]
      repeat' first | (refine wFrzR 3 acc b3 ?_; generalize Av.frz st 3 11 acc = st2 at f3 f0 f4 f5 f00 ⊢) | (refine hK _ ?_; clear hK) | (refine hK _ _ ?_; clear hK) | (clear hK; refine hK _ ?_; clear hK) | (clear hK; clear hK; refine hK _ ?_; clear hK) | (clear hK; clear hK; clear hK; refine hK _ ?_; clear hK) | (clear hK; clear hK; clear hK; clear hK; refine hK _ ?_; clear hK) | (refine wSeq fun K hK => ?_) | ((first | refine wReg ?_ | refine wDrwQ rfl (by kernel_rfl) ?_ | refine wDrwI ?_ | refine wDrw (by kernel_rfl) ?_); simp only [List.map_cons, List.map_nil, strip]) | ((first | refine wIs fun K hK => ?_ | refine wOs fun K hK => ?_ | refine wQs fun K hK => ?_ | refine CallK_plain ?_ | refine CallQ_plain ?_ | refine CallR_plain ?_ | refine wCond ?_); simp [f3, f0, f4, f5, f00, g0, g4, g5, b0, hlt, hlt']) | (refine wIn ?_; refine And.intro (by kernel_rfl) ?_; try simp only [thenA_n]) | (first | refine wBlock ?_ | refine wScope ?_) | ((first | refine wRet ?_ | refine wExit ?_ | refine wSkip ?_); try simp) | ((first | refine wLabel ?_ | refine wOn ?_ | refine wQn ?_); try simp only [thenA_n])
      all_goals first | apply hr
      all_goals refine ⟨[], by simp, by simp, ?_⟩
      all_goals simp [Try.f107, outR, outB, renB, gaN, f3, f0]
set_option maxHeartbeats 4000000 in
theorem iTx : IRn 65 fTx := by
  intro b st hb
  have c0 := iZx b st hb
  obtain ⟨x0, x1, s0, e0⟩ := fZx_got b st
  rw [e0] at c0
  simp only [vOf1, vOf2] at c0
  have c1 := inum b s0 hb
  obtain ⟨x2, s1, e1⟩ := foI_got b s0
  rw [e1] at c1
  simp only [vOf1, vOf2] at c1
  have c2 := inum b s1 hb
  obtain ⟨x3, s2, e2⟩ := foI_got b s1
  rw [e2] at c2
  simp only [vOf1, vOf2] at c2
  have c3 := inum b s2 hb
  obtain ⟨x4, s3, e3⟩ := foI_got b s2
  rw [e3] at c3
  simp only [vOf1, vOf2] at c3
  have c4 := inum b s3 hb
  obtain ⟨x5, s4, e4⟩ := foI_got b s3
  rw [e4] at c4
  simp only [vOf1, vOf2] at c4
  have c5 := itext b s4 hb
  obtain ⟨x6, s5, e5⟩ := foS_got b s4
  rw [e5] at c5
  simp only [vOf1, vOf2] at c5
  have c6 := ilPt b s5 hb
  obtain ⟨x7, s6, e6⟩ := fl_got 11 fPt b s5
  rw [e6] at c6
  simp only [vOf1, vOf2] at c6
  have hz : fTx.rd b st = ([I x0, I x1, I x2, I x3, I x4, I x5, SB x6, .sl 11 x7], s6) := by simp only [fTx, sq_rd, e0, e1, e2, e3, e4, e5, e6, List.cons_append, List.nil_append]
  rw [hz]
  clear e0 e1 e2 e3 e4 e5 e6 hz
  simp only [vOf2]
  refine wBodyG Try.tab Try.mixed Try.func65 rfl rfl Try.ntmps65 (by simp) (by simp) fun Q hr hn hp => ?_
  repeat' first | (refine CallK_gen [1024] c0 (by decide) (by decide) (by simp [blksOf, inN, pos, renB, ren0, ouN, lv, kpI, kpR]) (by simp [argsG, argG, ren0, inN, pos, renCs, renC]) ⟨[], by simp, by simp, ?_⟩; simp [lv, ouN, kpI, kpR, pos, ren, ren0, renB, renC, renCs]; clear c0) | (refine CallK_gen [1024] c1 (by decide) (by decide) (by simp [blksOf, inN, pos, renB, ren0, ouN, lv, kpI, kpR]) (by simp [argsG, argG, ren0, inN, pos, renCs, renC]) ⟨[], by simp, by simp, ?_⟩; simp [lv, ouN, kpI, kpR, pos, ren, ren0, renB, renC, renCs]; clear c1) | (refine CallK_gen [1024] c2 (by decide) (by decide) (by simp [blksOf, inN, pos, renB, ren0, ouN, lv, kpI, kpR]) (by simp [argsG, argG, ren0, inN, pos, renCs, renC]) ⟨[], by simp, by simp, ?_⟩; simp [lv, ouN, kpI, kpR, pos, ren, ren0, renB, renC, renCs]; clear c2) | (refine CallK_gen [1024] c3 (by decide) (by decide) (by simp [blksOf, inN, pos, renB, ren0, ouN, lv, kpI, kpR]) (by simp [argsG, argG, ren0, inN, pos, renCs, renC]) ⟨[], by simp, by simp, ?_⟩; simp [lv, ouN, kpI, kpR, pos, ren, ren0, renB, renC, renCs]; clear c3) | (refine CallK_gen [1024] c4 (by decide) (by decide) (by simp [blksOf, inN, pos, renB, ren0, ouN, lv, kpI, kpR]) (by simp [argsG, argG, ren0, inN, pos, renCs, renC]) ⟨[], by simp, by simp, ?_⟩; simp [lv, ouN, kpI, kpR, pos, ren, ren0, renB, renC, renCs]; clear c4) | (refine CallK_gen [1024] c5 (by decide) (by decide) (by simp [blksOf, inN, pos, renB, ren0, ouN, lv, kpI, kpR]) (by simp [argsG, argG, ren0, inN, pos, renCs, renC]) ⟨[], by simp, by simp, ?_⟩; simp [lv, ouN, kpI, kpR, pos, ren, ren0, renB, renC, renCs]; clear c5) | (refine CallK_gen [1024] c6 (by decide) (by decide) (by simp [blksOf, inN, pos, renB, ren0, ouN, lv, kpI, kpR]) (by simp [argsG, argG, ren0, inN, pos, renCs, renC]) ⟨[], by simp, by simp, ?_⟩; simp [lv, ouN, kpI, kpR, pos, ren, ren0, renB, renC, renCs]; clear c6) | (refine hK _ ?_; clear hK) | (refine hK _ _ ?_; clear hK) | (clear hK; refine hK _ ?_; clear hK) | (clear hK; clear hK; refine hK _ ?_; clear hK) | (clear hK; clear hK; clear hK; refine hK _ ?_; clear hK) | (clear hK; clear hK; clear hK; clear hK; refine hK _ ?_; clear hK) | (refine wSeq fun K hK => ?_) | ((first | refine wReg ?_ | refine wDrwQ rfl (by kernel_rfl) ?_ | refine wDrwI ?_ | refine wDrw (by kernel_rfl) ?_); simp only [List.map_cons, List.map_nil, strip]) | ((first | refine wIs fun K hK => ?_ | refine wOs fun K hK => ?_ | refine wQs fun K hK => ?_ | refine CallK_plain ?_ | refine CallQ_plain ?_ | refine CallR_plain ?_ | refine wCond ?_); simp [lv, ouN, kpI, kpR, pos, ren, ren0, renB, renC, renCs]) | (refine wIn ?_; refine And.intro (by kernel_rfl) ?_; try simp only [thenA_n]) | (first | refine wBlock ?_ | refine wScope ?_) | ((first | refine wRet ?_ | refine wExit ?_ | refine wSkip ?_); try simp) | ((first | refine wLabel ?_ | refine wOn ?_ | refine wQn ?_); try simp only [thenA_n])
  all_goals first | apply hr
  all_goals refine ⟨[], by simp, by simp, ?_⟩
  all_goals simp [Try.f65, outR, outB, renB, gaN, lv, ouN, kpI, kpR, pos, ren, ren0, renC, renCs]
/- Records read, the document's: states, requests. -/
set_option maxHeartbeats 8000000 in
theorem ilNd : IRn 112 (fl 5 fNd) := by
  intro b st hb
  have c0 := icount b st hb
  have hL : (fl 5 fNd).rd b st = ([.sl 5 (rdL fNd.rd b (rdC b st).1.toNat (rdC b st).2).1], (rdL fNd.rd b (rdC b st).1.toNat (rdC b st).2).2) := rfl
  have hbd := rdC_bd b st
  rw [hL, vOf1]
  generalize rdC b st = r at *
  obtain ⟨n, s0⟩ := r
  simp only at *
  obtain ⟨m, rfl⟩ : ∃ m : Nat, n = m := ⟨n.toNat, by omega⟩
  simp only [Int.toNat_natCast]
  clear hL
  refine wBodyG Try.tab Try.mixed Try.func112 rfl rfl Try.ntmps112 (by simp) (by simp) fun Q hr hn hp => ?_
  repeat' first | (refine CallK_gen [1024] c0 (by decide) (by decide) (by simp [blksOf, inN, pos, renB, ren0, ouN, lv, kpI, kpR]) (by simp [argsG, argG, ren0, inN, pos, renCs, renC]) ⟨[], by simp, by simp, ?_⟩; simp [lv, ouN, kpI, kpR, pos, ren, ren0, renB, renC, renCs]) | (refine hK _ ?_; clear hK) | (refine hK _ _ ?_; clear hK) | (clear hK; refine hK _ ?_; clear hK) | (clear hK; clear hK; refine hK _ ?_; clear hK) | (clear hK; clear hK; clear hK; refine hK _ ?_; clear hK) | (clear hK; clear hK; clear hK; clear hK; refine hK _ ?_; clear hK) | (refine wSeq fun K hK => ?_) | ((first | refine wReg ?_ | refine wDrwQ rfl (by kernel_rfl) ?_ | refine wDrwI ?_ | refine wDrw (by kernel_rfl) ?_); simp only [List.map_cons, List.map_nil, strip]) | ((first | refine wIs fun K hK => ?_ | refine wOs fun K hK => ?_ | refine wQs fun K hK => ?_ | refine CallK_plain ?_ | refine CallQ_plain ?_ | refine CallR_plain ?_ | refine wCond ?_); simp [lv, ouN, kpI, kpR, pos, ren, ren0, renB, renC, renCs]) | (refine wIn ?_; refine And.intro (by kernel_rfl) ?_; try simp only [thenA_n]) | (first | refine wBlock ?_ | refine wScope ?_) | ((first | refine wRet ?_ | refine wExit ?_ | refine wSkip ?_); try simp) | ((first | refine wLabel ?_ | refine wOn ?_ | refine wQn ?_); try simp only [thenA_n])
  generalize hF : rdL fNd.rd b m s0 = full at *
  refine wLoopG [.row 3 78 5] (fun N st => ∃ k s2 acc, k + N = m ∧ acc.length = k ∧ full = (acc ++ (rdL fNd.rd b N s2).1, (rdL fNd.rd b N s2).2) ∧ st.s 0 = .ptr 1024 0 ∧ st.s 3 = .row 3 ∧ st.s 4 = .p (I m) ∧ st.s 5 = .p (I k) ∧ st.b 1024 = some (.box 119 [.p (.sl 1 (by8 b)), .p (I s2.2), .p (I s2.1)]) ∧ st.b 3 = some (.row 78 5 acc)) m ⟨0, s0, [], by simp [hF, lv, ouN, kpI, kpR, pos, ren, ren0, renB, renC, renCs]⟩ fun K N st hL ⟨k, s2, acc, hk, hac, hfu, g0, g3, g4, g5, b0, b3⟩ => ?_
  by_cases hgo : k < m ∧ s2.1 = 0
  · obtain ⟨hlt, z⟩ := hgo
    have hlt' : (k : Int) < (m : Int) := by omega
    have hw := wrapS k m hlt (by omega)
    obtain ⟨M, rfl⟩ : ∃ M, N = M + 1 := ⟨N - 1, by omega⟩
    rw [rdL, if_pos z] at hfu
    have c := iNd b s2 hb
    obtain ⟨x0, x1, x2, x3, x4, s3, he⟩ := fNd_got b s2
    rw [he] at c hfu
    try simp only [vOf1, vOf2] at c
    simp only at hfu
    obtain ⟨q2, a2⟩ := s2
    simp only at z
    subst z
    simp only at b0
    repeat' first | (refine CallK_gen [1024] c (by decide) (by decide) (by simp [blksOf, inN, pos, renB, ren0, b0]) (by simp [argsG, argG, ren0, inN, pos, renCs, renC]) ⟨[], by simp, by simp, ?_⟩; simp [lv, ouN, kpI, kpR, pos, ren, ren0, renB, renC, renCs, b0]) | (refine And.intro (by omega) ?_) | (refine hK _ ?_; clear hK) | (refine hK _ _ ?_; clear hK) | (clear hK; refine hK _ ?_; clear hK) | (clear hK; clear hK; refine hK _ ?_; clear hK) | (clear hK; clear hK; clear hK; refine hK _ ?_; clear hK) | (clear hK; clear hK; clear hK; clear hK; refine hK _ ?_; clear hK) | (refine wSeq fun K hK => ?_) | ((first | refine wReg ?_ | refine wDrwQ rfl (by kernel_rfl) ?_ | refine wDrwI ?_ | refine wDrw (by kernel_rfl) ?_); simp only [List.map_cons, List.map_nil, strip]) | ((first | refine wIs fun K hK => ?_ | refine wOs fun K hK => ?_ | refine wQs fun K hK => ?_ | refine CallK_plain ?_ | refine CallQ_plain ?_ | refine CallR_plain ?_ | refine wCond ?_); simp [g0, g3, g4, g5, b0, b3, hlt, hlt', hw, lv, ouN, kpI, kpR, pos, ren, ren0, renB, renC, renCs]) | (refine wIn ?_; refine And.intro (by kernel_rfl) ?_; try simp only [thenA_n]) | (first | refine wBlock ?_ | refine wScope ?_) | ((first | refine wRet ?_ | refine wExit ?_ | refine wSkip ?_); try simp) | ((first | refine wLabel ?_ | refine wOn ?_ | refine wQn ?_); try simp only [thenA_n])
    refine hL _ M (by omega) ⟨k + 1, s3, acc ++ [[SB x0, SB x1, I x2, I x3, I x4]], by omega, by simp [hac], by rw [hfu]; simp, ?_⟩
    simp [g0, g3, g4, g5, b0, b3, hw, lv, ouN, kpI, kpR, pos, ren, ren0, renB, renC, renCs]
  · have hend : full = (acc, s2) := by
      rw [hfu]
      by_cases z : s2.1 = 0
      · obtain rfl : N = 0 := by have : ¬ k < m := fun h => hgo ⟨h, z⟩; omega
        simp [rdL]
      · obtain ⟨q2, a2⟩ := s2
        rw [rdL_stk _ _ _ _ z]; simp
    rw [hend] at hr
    clear hfu hend
    have f3 : (Av.frz st 3 5 acc).s 3 = .p (.sl 5 acc) := by simp [Av.frz, sub, sub0, g3]
    have f0 : (Av.frz st 3 5 acc).b 1024 = some (.box 119 [.p (.sl 1 (by8 b)), .p (I s2.2), .p (I s2.1)]) := by simp [Av.frz, sub, sub0, subB, b0]
    by_cases hlt : k < m
    · have hlt' : (k : Int) < (m : Int) := by omega
      have z : (s2.1 = 0) = False := eq_false fun z => hgo ⟨hlt, z⟩
      have f4 : (Av.frz st 3 5 acc).s 4 = .p (I m) := by simp [Av.frz, sub, sub0, g4]
      have f5 : (Av.frz st 3 5 acc).s 5 = .p (I k) := by simp [Av.frz, sub, sub0, g5]
      have f00 : (Av.frz st 3 5 acc).s 0 = .ptr 1024 0 := by simp [Av.frz, sub, sub0, g0]
      repeat' first | (refine wFrzR 3 acc b3 ?_; generalize Av.frz st 3 5 acc = st2 at f3 f0 f4 f5 f00 ⊢) | (refine hK _ ?_; clear hK) | (refine hK _ _ ?_; clear hK) | (clear hK; refine hK _ ?_; clear hK) | (clear hK; clear hK; refine hK _ ?_; clear hK) | (clear hK; clear hK; clear hK; refine hK _ ?_; clear hK) | (clear hK; clear hK; clear hK; clear hK; refine hK _ ?_; clear hK) | (refine wSeq fun K hK => ?_) | ((first | refine wReg ?_ | refine wDrwQ rfl (by kernel_rfl) ?_ | refine wDrwI ?_ | refine wDrw (by kernel_rfl) ?_); simp only [List.map_cons, List.map_nil, strip]) | ((first | refine wIs fun K hK => ?_ | refine wOs fun K hK => ?_ | refine wQs fun K hK => ?_ | refine CallK_plain ?_ | refine CallQ_plain ?_ | refine CallR_plain ?_ | refine wCond ?_); simp [f3, f0, f4, f5, f00, g0, g4, g5, b0, hlt, hlt', z]) | (refine wIn ?_; refine And.intro (by kernel_rfl) ?_; try simp only [thenA_n]) | (first | refine wBlock ?_ | refine wScope ?_) | ((first | refine wRet ?_ | refine wExit ?_ | refine wSkip ?_); try simp) | ((first | refine wLabel ?_ | refine wOn ?_ | refine wQn ?_); try simp only [thenA_n])
      all_goals first | apply hr
      all_goals refine ⟨[], by simp, by simp, ?_⟩
      all_goals simp [Try.f112, outR, outB, renB, gaN, f3, f0]
    · have hlt' : ¬ (k : Int) < (m : Int) := by omega
      have f4 : (Av.frz st 3 5 acc).s 4 = .p (I m) := by simp [Av.frz, sub, sub0, g4]
      have f5 : (Av.frz st 3 5 acc).s 5 = .p (I k) := by simp [Av.frz, sub, sub0, g5]
      have f00 : (Av.frz st 3 5 acc).s 0 = .ptr 1024 0 := by simp [Av.frz, sub, sub0, g0]
      repeat' first | (refine wFrzR 3 acc b3 ?_; generalize Av.frz st 3 5 acc = st2 at f3 f0 f4 f5 f00 ⊢) | (refine hK _ ?_; clear hK) | (refine hK _ _ ?_; clear hK) | (clear hK; refine hK _ ?_; clear hK) | (clear hK; clear hK; refine hK _ ?_; clear hK) | (clear hK; clear hK; clear hK; refine hK _ ?_; clear hK) | (clear hK; clear hK; clear hK; clear hK; refine hK _ ?_; clear hK) | (refine wSeq fun K hK => ?_) | ((first | refine wReg ?_ | refine wDrwQ rfl (by kernel_rfl) ?_ | refine wDrwI ?_ | refine wDrw (by kernel_rfl) ?_); simp only [List.map_cons, List.map_nil, strip]) | ((first | refine wIs fun K hK => ?_ | refine wOs fun K hK => ?_ | refine wQs fun K hK => ?_ | refine CallK_plain ?_ | refine CallQ_plain ?_ | refine CallR_plain ?_ | refine wCond ?_); simp [f3, f0, f4, f5, f00, g0, g4, g5, b0, hlt, hlt']) | (refine wIn ?_; refine And.intro (by kernel_rfl) ?_; try simp only [thenA_n]) | (first | refine wBlock ?_ | refine wScope ?_) | ((first | refine wRet ?_ | refine wExit ?_ | refine wSkip ?_); try simp) | ((first | refine wLabel ?_ | refine wOn ?_ | refine wQn ?_); try simp only [thenA_n])
      all_goals first | apply hr
      all_goals refine ⟨[], by simp, by simp, ?_⟩
      all_goals simp [Try.f112, outR, outB, renB, gaN, f3, f0]
set_option maxHeartbeats 4000000 in
theorem iSt : IRn 68 fSt := by
  intro b st hb
  have c0 := ilNd b st hb
  obtain ⟨x0, s0, e0⟩ := fl_got 5 fNd b st
  rw [e0] at c0
  simp only [vOf1, vOf2] at c0
  have c1 := ilI b s0 hb
  obtain ⟨x1, s1, e1⟩ := fl_got 1 foI b s0
  rw [e1] at c1
  simp only [vOf1, vOf2] at c1
  have c2 := inum b s1 hb
  obtain ⟨x2, s2, e2⟩ := foI_got b s1
  rw [e2] at c2
  simp only [vOf1, vOf2] at c2
  have c3 := iCf b s2 hb
  obtain ⟨x3, x4, x5, x6, s3, e3⟩ := fCf_got b s2
  rw [e3] at c3
  simp only [vOf1, vOf2] at c3
  have c4 := iZx b s3 hb
  obtain ⟨x7, x8, s4, e4⟩ := fZx_got b s3
  rw [e4] at c4
  simp only [vOf1, vOf2] at c4
  have hz : fSt.rd b st = ([.sl 5 x0, .sl 1 x1, I x2, I x3, I x4, I x5, .sl 4 x6, I x7, I x8], s4) := by simp only [fSt, sq_rd, e0, e1, e2, e3, e4, List.cons_append, List.nil_append]
  rw [hz]
  clear e0 e1 e2 e3 e4 hz
  simp only [vOf2]
  refine wBodyG Try.tab Try.mixed Try.func68 rfl rfl Try.ntmps68 (by simp) (by simp) fun Q hr hn hp => ?_
  repeat' first | (refine CallK_gen [1024] c0 (by decide) (by decide) (by simp [blksOf, inN, pos, renB, ren0, ouN, lv, kpI, kpR]) (by simp [argsG, argG, ren0, inN, pos, renCs, renC]) ⟨[], by simp, by simp, ?_⟩; simp [lv, ouN, kpI, kpR, pos, ren, ren0, renB, renC, renCs]; clear c0) | (refine CallK_gen [1024] c1 (by decide) (by decide) (by simp [blksOf, inN, pos, renB, ren0, ouN, lv, kpI, kpR]) (by simp [argsG, argG, ren0, inN, pos, renCs, renC]) ⟨[], by simp, by simp, ?_⟩; simp [lv, ouN, kpI, kpR, pos, ren, ren0, renB, renC, renCs]; clear c1) | (refine CallK_gen [1024] c2 (by decide) (by decide) (by simp [blksOf, inN, pos, renB, ren0, ouN, lv, kpI, kpR]) (by simp [argsG, argG, ren0, inN, pos, renCs, renC]) ⟨[], by simp, by simp, ?_⟩; simp [lv, ouN, kpI, kpR, pos, ren, ren0, renB, renC, renCs]; clear c2) | (refine CallK_gen [1024] c3 (by decide) (by decide) (by simp [blksOf, inN, pos, renB, ren0, ouN, lv, kpI, kpR]) (by simp [argsG, argG, ren0, inN, pos, renCs, renC]) ⟨[], by simp, by simp, ?_⟩; simp [lv, ouN, kpI, kpR, pos, ren, ren0, renB, renC, renCs]; clear c3) | (refine CallK_gen [1024] c4 (by decide) (by decide) (by simp [blksOf, inN, pos, renB, ren0, ouN, lv, kpI, kpR]) (by simp [argsG, argG, ren0, inN, pos, renCs, renC]) ⟨[], by simp, by simp, ?_⟩; simp [lv, ouN, kpI, kpR, pos, ren, ren0, renB, renC, renCs]; clear c4) | (refine hK _ ?_; clear hK) | (refine hK _ _ ?_; clear hK) | (clear hK; refine hK _ ?_; clear hK) | (clear hK; clear hK; refine hK _ ?_; clear hK) | (clear hK; clear hK; clear hK; refine hK _ ?_; clear hK) | (clear hK; clear hK; clear hK; clear hK; refine hK _ ?_; clear hK) | (refine wSeq fun K hK => ?_) | ((first | refine wReg ?_ | refine wDrwQ rfl (by kernel_rfl) ?_ | refine wDrwI ?_ | refine wDrw (by kernel_rfl) ?_); simp only [List.map_cons, List.map_nil, strip]) | ((first | refine wIs fun K hK => ?_ | refine wOs fun K hK => ?_ | refine wQs fun K hK => ?_ | refine CallK_plain ?_ | refine CallQ_plain ?_ | refine CallR_plain ?_ | refine wCond ?_); simp [lv, ouN, kpI, kpR, pos, ren, ren0, renB, renC, renCs]) | (refine wIn ?_; refine And.intro (by kernel_rfl) ?_; try simp only [thenA_n]) | (first | refine wBlock ?_ | refine wScope ?_) | ((first | refine wRet ?_ | refine wExit ?_ | refine wSkip ?_); try simp) | ((first | refine wLabel ?_ | refine wOn ?_ | refine wQn ?_); try simp only [thenA_n])
  all_goals first | apply hr
  all_goals refine ⟨[], by simp, by simp, ?_⟩
  all_goals simp [Try.f68, outR, outB, renB, gaN, lv, ouN, kpI, kpR, pos, ren, ren0, renC, renCs]
/- Records read, the document's: what reading tells. -/
set_option maxHeartbeats 4000000 in
theorem read12Cf (b : List UInt8) (a : Int) (hb : b.length ≤ 1000000000) : ACon Try.prog 26 [.p (.sl 1 (by8 b)), .p (I a)] (rT fCf b a) := by
  have c := iCf b (0, a) hb
  obtain ⟨x0, x1, x2, x3, ⟨q, k⟩, he⟩ := fCf_got b (0, a)
  unfold rT
  rw [he] at c ⊢
  simp only [vOf2] at c ⊢
  have he0 : ByteArray.empty = bs [] := rfl
  by_cases h : q = 0
  · subst h
    rw [if_pos rfl]
    clear he
    refine wBody Try.tab Try.mixed Try.func26 rfl rfl Try.ntmps26 (by simp) (by simp) fun Q hr hn => ?_
    repeat' first | (refine CallK_gen [12] (c) (by decide) (by decide) (by simp [blksOf, inN, pos, renB, renC, renCs, ren0, lv, ouN, kpI, kpR]) (by simp [argsG, argG, ren0, inN, pos, renCs, renC]) ⟨[], by simp, by simp, ?_⟩; simp [lv, ouN, kpI, kpR, pos, ren, ren0, renB, renC, renCs, renF, renFs]) | (refine hK _ ?_; clear hK) | (refine hK _ _ ?_; clear hK) | (clear hK; refine hK _ ?_; clear hK) | (clear hK; clear hK; refine hK _ ?_; clear hK) | (clear hK; clear hK; clear hK; refine hK _ ?_; clear hK) | (clear hK; clear hK; clear hK; clear hK; refine hK _ ?_; clear hK) | (refine wSeq fun K hK => ?_) | ((first | refine wReg ?_ | refine wDrwQ rfl (by kernel_rfl) ?_ | refine wDrwI ?_ | refine wDrw (by kernel_rfl) ?_); simp only [List.map_cons, List.map_nil, strip]) | ((first | refine wIs fun K hK => ?_ | refine wOs fun K hK => ?_ | refine wQs fun K hK => ?_ | refine CallK_plain ?_ | refine CallQ_plain ?_ | refine CallR_plain ?_ | refine wCond ?_); simp [lv, ouN, kpI, kpR, pos, ren, ren0, renB, renC, renCs]) | (refine wIn ?_; refine And.intro (by kernel_rfl) ?_; try simp only [thenA_n]) | (first | refine wBlock ?_ | refine wScope ?_) | ((first | refine wRet ?_ | refine wExit ?_ | refine wSkip ?_); try simp) | ((first | refine wLabel ?_ | refine wOn ?_ | refine wQn ?_); try simp only [thenA_n])
    all_goals apply hr
    all_goals simp [Try.f26]
  · rw [if_neg h, show fCf.ze = [I 0, I 0, I 0, .sl 4 []] from rfl]
    clear he
    simp only [vOf2]
    refine wBody Try.tab Try.mixed Try.func26 rfl rfl Try.ntmps26 (by simp) (by simp) fun Q hr hn => ?_
    repeat' first | (refine CallK_gen [12] (c) (by decide) (by decide) (by simp [blksOf, inN, pos, renB, renC, renCs, ren0, lv, ouN, kpI, kpR]) (by simp [argsG, argG, ren0, inN, pos, renCs, renC]) ⟨[], by simp, by simp, ?_⟩; simp [lv, ouN, kpI, kpR, pos, ren, ren0, renB, renC, renCs, renF, renFs]) | (refine hK _ ?_; clear hK) | (refine hK _ _ ?_; clear hK) | (clear hK; refine hK _ ?_; clear hK) | (clear hK; clear hK; refine hK _ ?_; clear hK) | (clear hK; clear hK; clear hK; refine hK _ ?_; clear hK) | (clear hK; clear hK; clear hK; clear hK; refine hK _ ?_; clear hK) | (refine wSeq fun K hK => ?_) | ((first | refine wReg ?_ | refine wDrwQ rfl (by kernel_rfl) ?_ | refine wDrwI ?_ | refine wDrw (by kernel_rfl) ?_); simp only [List.map_cons, List.map_nil, strip]) | ((first | refine wIs fun K hK => ?_ | refine wOs fun K hK => ?_ | refine wQs fun K hK => ?_ | refine CallK_plain ?_ | refine CallQ_plain ?_ | refine CallR_plain ?_ | refine wCond ?_); simp [h, lv, ouN, kpI, kpR, pos, ren, ren0, renB, renC, renCs]) | (refine wIn ?_; refine And.intro (by kernel_rfl) ?_; try simp only [thenA_n]) | (first | refine wBlock ?_ | refine wScope ?_) | ((first | refine wRet ?_ | refine wExit ?_ | refine wSkip ?_); try simp) | ((first | refine wLabel ?_ | refine wOn ?_ | refine wQn ?_); try simp only [thenA_n])
    all_goals apply hr
    all_goals simp [Try.f26, he0]
set_option maxHeartbeats 4000000 in
theorem read12Tx (b : List UInt8) (a : Int) (hb : b.length ≤ 1000000000) : ACon Try.prog 29 [.p (.sl 1 (by8 b)), .p (I a)] (rT fTx b a) := by
  have c := iTx b (0, a) hb
  obtain ⟨x0, x1, x2, x3, x4, x5, x6, x7, ⟨q, k⟩, he⟩ := fTx_got b (0, a)
  unfold rT
  rw [he] at c ⊢
  simp only [vOf2] at c ⊢
  have he0 : ByteArray.empty = bs [] := rfl
  by_cases h : q = 0
  · subst h
    rw [if_pos rfl]
    clear he
    refine wBody Try.tab Try.mixed Try.func29 rfl rfl Try.ntmps29 (by simp) (by simp) fun Q hr hn => ?_
    repeat' first | (refine CallK_gen [12] (c) (by decide) (by decide) (by simp [blksOf, inN, pos, renB, renC, renCs, ren0, lv, ouN, kpI, kpR]) (by simp [argsG, argG, ren0, inN, pos, renCs, renC]) ⟨[], by simp, by simp, ?_⟩; simp [lv, ouN, kpI, kpR, pos, ren, ren0, renB, renC, renCs, renF, renFs]) | (refine hK _ ?_; clear hK) | (refine hK _ _ ?_; clear hK) | (clear hK; refine hK _ ?_; clear hK) | (clear hK; clear hK; refine hK _ ?_; clear hK) | (clear hK; clear hK; clear hK; refine hK _ ?_; clear hK) | (clear hK; clear hK; clear hK; clear hK; refine hK _ ?_; clear hK) | (refine wSeq fun K hK => ?_) | ((first | refine wReg ?_ | refine wDrwQ rfl (by kernel_rfl) ?_ | refine wDrwI ?_ | refine wDrw (by kernel_rfl) ?_); simp only [List.map_cons, List.map_nil, strip]) | ((first | refine wIs fun K hK => ?_ | refine wOs fun K hK => ?_ | refine wQs fun K hK => ?_ | refine CallK_plain ?_ | refine CallQ_plain ?_ | refine CallR_plain ?_ | refine wCond ?_); simp [lv, ouN, kpI, kpR, pos, ren, ren0, renB, renC, renCs]) | (refine wIn ?_; refine And.intro (by kernel_rfl) ?_; try simp only [thenA_n]) | (first | refine wBlock ?_ | refine wScope ?_) | ((first | refine wRet ?_ | refine wExit ?_ | refine wSkip ?_); try simp) | ((first | refine wLabel ?_ | refine wOn ?_ | refine wQn ?_); try simp only [thenA_n])
    all_goals apply hr
    all_goals simp [Try.f29]
  · rw [if_neg h, show fTx.ze = [I 0, I 0, I 0, I 0, I 0, I 0, SB [], .sl 11 []] from rfl]
    clear he
    simp only [vOf2]
    refine wBody Try.tab Try.mixed Try.func29 rfl rfl Try.ntmps29 (by simp) (by simp) fun Q hr hn => ?_
    repeat' first | (refine CallK_gen [12] (c) (by decide) (by decide) (by simp [blksOf, inN, pos, renB, renC, renCs, ren0, lv, ouN, kpI, kpR]) (by simp [argsG, argG, ren0, inN, pos, renCs, renC]) ⟨[], by simp, by simp, ?_⟩; simp [lv, ouN, kpI, kpR, pos, ren, ren0, renB, renC, renCs, renF, renFs]) | (refine hK _ ?_; clear hK) | (refine hK _ _ ?_; clear hK) | (clear hK; refine hK _ ?_; clear hK) | (clear hK; clear hK; refine hK _ ?_; clear hK) | (clear hK; clear hK; clear hK; refine hK _ ?_; clear hK) | (clear hK; clear hK; clear hK; clear hK; refine hK _ ?_; clear hK) | (refine wSeq fun K hK => ?_) | ((first | refine wReg ?_ | refine wDrwQ rfl (by kernel_rfl) ?_ | refine wDrwI ?_ | refine wDrw (by kernel_rfl) ?_); simp only [List.map_cons, List.map_nil, strip]) | ((first | refine wIs fun K hK => ?_ | refine wOs fun K hK => ?_ | refine wQs fun K hK => ?_ | refine CallK_plain ?_ | refine CallQ_plain ?_ | refine CallR_plain ?_ | refine wCond ?_); simp [h, lv, ouN, kpI, kpR, pos, ren, ren0, renB, renC, renCs]) | (refine wIn ?_; refine And.intro (by kernel_rfl) ?_; try simp only [thenA_n]) | (first | refine wBlock ?_ | refine wScope ?_) | ((first | refine wRet ?_ | refine wExit ?_ | refine wSkip ?_); try simp) | ((first | refine wLabel ?_ | refine wOn ?_ | refine wQn ?_); try simp only [thenA_n])
    all_goals apply hr
    all_goals simp [Try.f29, he0]
set_option maxHeartbeats 4000000 in
theorem read12St (b : List UInt8) (a : Int) (hb : b.length ≤ 1000000000) : ACon Try.prog 32 [.p (.sl 1 (by8 b)), .p (I a)] (rT fSt b a) := by
  have c := iSt b (0, a) hb
  obtain ⟨x0, x1, x2, x3, x4, x5, x6, x7, x8, ⟨q, k⟩, he⟩ := fSt_got b (0, a)
  unfold rT
  rw [he] at c ⊢
  simp only [vOf2] at c ⊢
  have he0 : ByteArray.empty = bs [] := rfl
  by_cases h : q = 0
  · subst h
    rw [if_pos rfl]
    clear he
    refine wBody Try.tab Try.mixed Try.func32 rfl rfl Try.ntmps32 (by simp) (by simp) fun Q hr hn => ?_
    repeat' first | (refine CallK_gen [12] (c) (by decide) (by decide) (by simp [blksOf, inN, pos, renB, renC, renCs, ren0, lv, ouN, kpI, kpR]) (by simp [argsG, argG, ren0, inN, pos, renCs, renC]) ⟨[], by simp, by simp, ?_⟩; simp [lv, ouN, kpI, kpR, pos, ren, ren0, renB, renC, renCs, renF, renFs]) | (refine hK _ ?_; clear hK) | (refine hK _ _ ?_; clear hK) | (clear hK; refine hK _ ?_; clear hK) | (clear hK; clear hK; refine hK _ ?_; clear hK) | (clear hK; clear hK; clear hK; refine hK _ ?_; clear hK) | (clear hK; clear hK; clear hK; clear hK; refine hK _ ?_; clear hK) | (refine wSeq fun K hK => ?_) | ((first | refine wReg ?_ | refine wDrwQ rfl (by kernel_rfl) ?_ | refine wDrwI ?_ | refine wDrw (by kernel_rfl) ?_); simp only [List.map_cons, List.map_nil, strip]) | ((first | refine wIs fun K hK => ?_ | refine wOs fun K hK => ?_ | refine wQs fun K hK => ?_ | refine CallK_plain ?_ | refine CallQ_plain ?_ | refine CallR_plain ?_ | refine wCond ?_); simp [lv, ouN, kpI, kpR, pos, ren, ren0, renB, renC, renCs]) | (refine wIn ?_; refine And.intro (by kernel_rfl) ?_; try simp only [thenA_n]) | (first | refine wBlock ?_ | refine wScope ?_) | ((first | refine wRet ?_ | refine wExit ?_ | refine wSkip ?_); try simp) | ((first | refine wLabel ?_ | refine wOn ?_ | refine wQn ?_); try simp only [thenA_n])
    all_goals apply hr
    all_goals simp [Try.f32]
  · rw [if_neg h, show fSt.ze = [.sl 5 [], .sl 1 [], I 0, I 0, I 0, I 0, .sl 4 [], I 0, I 0] from rfl]
    clear he
    simp only [vOf2]
    refine wBody Try.tab Try.mixed Try.func32 rfl rfl Try.ntmps32 (by simp) (by simp) fun Q hr hn => ?_
    repeat' first | (refine CallK_gen [12] (c) (by decide) (by decide) (by simp [blksOf, inN, pos, renB, renC, renCs, ren0, lv, ouN, kpI, kpR]) (by simp [argsG, argG, ren0, inN, pos, renCs, renC]) ⟨[], by simp, by simp, ?_⟩; simp [lv, ouN, kpI, kpR, pos, ren, ren0, renB, renC, renCs, renF, renFs]) | (refine hK _ ?_; clear hK) | (refine hK _ _ ?_; clear hK) | (clear hK; refine hK _ ?_; clear hK) | (clear hK; clear hK; refine hK _ ?_; clear hK) | (clear hK; clear hK; clear hK; refine hK _ ?_; clear hK) | (clear hK; clear hK; clear hK; clear hK; refine hK _ ?_; clear hK) | (refine wSeq fun K hK => ?_) | ((first | refine wReg ?_ | refine wDrwQ rfl (by kernel_rfl) ?_ | refine wDrwI ?_ | refine wDrw (by kernel_rfl) ?_); simp only [List.map_cons, List.map_nil, strip]) | ((first | refine wIs fun K hK => ?_ | refine wOs fun K hK => ?_ | refine wQs fun K hK => ?_ | refine CallK_plain ?_ | refine CallQ_plain ?_ | refine CallR_plain ?_ | refine wCond ?_); simp [h, lv, ouN, kpI, kpR, pos, ren, ren0, renB, renC, renCs]) | (refine wIn ?_; refine And.intro (by kernel_rfl) ?_; try simp only [thenA_n]) | (first | refine wBlock ?_ | refine wScope ?_) | ((first | refine wRet ?_ | refine wExit ?_ | refine wSkip ?_); try simp) | ((first | refine wLabel ?_ | refine wOn ?_ | refine wQn ?_); try simp only [thenA_n])
    all_goals apply hr
    all_goals simp [Try.f32, he0]
end Go.Proofs.Ytleejpddecjhcaa
