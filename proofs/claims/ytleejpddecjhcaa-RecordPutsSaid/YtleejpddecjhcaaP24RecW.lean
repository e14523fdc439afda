/- Texts that the proof needs: RGB RG6 RG6a RG6b RG8 RGC RGD RD1 RD2. -/
import Derived.Test.YtleejpddecjhcaaP23RecW
import Derived.Test.YtleejpddecjhcaaP20RecW
import Derived.Test.YtleejpddecjhcaaP19RecW
/- Records laid: bytes of one's own; transactions, states, configs, places. -/
namespace Go.Proofs.Ytleejpddecjhcaa
set_option linter.unusedSimpArgs false
set_option linter.unusedVariables false
set_option maxRecDepth 8000
open Go Go.Av
attribute [local simp] Try.T1 Try.T2 Try.T3 Try.T4 Try.T5 Try.T9 Try.T12 Try.T15 Try.T16 Try.T17 Try.T21 Try.T22 Try.T24 Try.T25 Try.T26 Try.T28 Try.T29 Try.T30 Try.T31 Try.T33 Try.T35 Try.T36 Try.T37 Try.T38 Try.T39 Try.T40 Try.T41 Try.T42 Try.T43 Try.T44 Try.T45 Try.T47 Try.T48 Try.T50 Try.T51 Try.T53 Try.T55 Try.T57 Try.T58 Try.T59 Try.T60 Try.T61 Try.T63 Try.T64 Try.T66 Try.T67 Try.T69 Try.T70 Try.T71 Try.T73 Try.T75 Try.T76 Try.T78 Try.T80 Try.T82 Try.T83 Try.T84 Try.T85 Try.T86 Try.T87 Try.T88 Try.T89 Try.T90 Try.T91 Try.T92 Try.T93 Try.T94 Try.T95 Try.T96 Try.T97 Try.T98 Try.T99 Try.T100 Try.T101 Try.T102 Try.T103 Try.T104 Try.T105 Try.T106 Try.T107 Try.T108 Try.T109 Try.T111 Try.T112 Try.T113 Try.T114 Try.T115 Try.T116 Try.T117 Try.T119 Try.T120 Try.T121 Try.T122 Try.T123 Try.T124 Try.T125 Try.T126 Try.T127 Try.T128 Try.T129 Try.T130 Try.T131 Try.T132 Try.T133 Try.T134 Try.T136 Try.T137 Try.T138 Try.T139 Try.T140 Try.T141 Try.T142 Try.T143 Try.T144 Try.T145 Try.T146 Try.T147 Try.T148 Try.T149 Try.T150 Try.T151 Try.T152 Try.T153 Try.T154 Try.T155 Try.T156 Try.T157 Try.T158 Try.T160 Try.T161 Try.T162 Try.T163 Try.T164 Try.T165 Try.T166 Try.T167 Try.T168 Try.T169 Try.T170 Try.T171 Try.T172 Try.T173 Try.T174 Try.T175 Try.T176 Try.T177 Try.T178 Try.T179 Try.T180 Try.T181 Try.T182 Try.T183 Try.T184 Try.T185 Try.T186 Try.T187 Try.T188 Try.T189 Try.T190 Try.T191 Try.T192 Try.T194 Try.T195 Try.T197 Try.T198 Try.T199 Try.T200 Try.T201 Try.T202 Try.T203 Try.T205 Try.T206 Try.T209 Try.T212 Try.T215 Try.T216
attribute [local irreducible] Go.Av.CallK Go.Av.CallE Go.Av.CallQ Go.Av.CallF Go.Av.CallR Go.Av.CallH Go.Av.Con
abbrev RConX (g : FuncId) (args : List V) (e c : Nat) (l : List (List PV)) : Prop := Con Try.prog g args [] (.ret (.row 2048) [.row e c l] [])
theorem cloneB (l : List (List PV)) (hl : l.length ≤ 1000000) : RConX 77 [.p (.sl 1 l)] 5 1 l := by
  refine wBodyR Try.tab Try.mixed Try.func77 rfl rfl Try.ntmps77 rfl (by simp) (by simp) fun Q hr hn => ?_
  repeat' first | (refine wRetG [.row 2 5 1] ?_) | (refine And.intro (by omega) (Or.inl ?_)) | (refine And.intro ?_ (fun hnil => ?_)) | (refine hK _ ?_; clear hK) | (refine hK _ _ ?_; clear hK) | (clear hK; refine hK _ ?_; clear hK) | (clear hK; clear hK; refine hK _ ?_; clear hK) | (clear hK; clear hK; clear hK; refine hK _ ?_; clear hK) | (clear hK; clear hK; clear hK; clear hK; refine hK _ ?_; clear hK) | (refine wSeq fun K hK => ?_) | ((first | refine wReg ?_ | refine wDrwQ rfl (by kernel_rfl) ?_ | refine wDrwI ?_ | refine wDrw (by kernel_rfl) ?_); simp only [List.map_cons, List.map_nil, strip]) | ((first | refine wIs fun K hK => ?_ | refine wOs fun K hK => ?_ | refine wQs fun K hK => ?_ | refine CallK_plain ?_ | refine CallQ_plain ?_ | refine CallR_plain ?_ | refine wCond ?_); simp) | (refine wIn ?_; refine And.intro (by kernel_rfl) ?_; try simp only [thenA_n]) | (first | refine wBlock ?_ | refine wScope ?_) | ((first | refine wRet ?_ | refine wExit ?_ | refine wSkip ?_); try simp) | ((first | refine wLabel ?_ | refine wOn ?_ | refine wQn ?_); try simp only [thenA_n])
  · refine hr _ 7 (by simp) (by simp) (by omega)
  · subst hnil
    simp only [thenA_r]
    refine hr _ 2 (by simp) (by simp) (by omega)
set_option maxHeartbeats 4000000 in
theorem putZx (b : List UInt8) (cs : List PV) (hk : fZx.ok cs) (h : (b ++ fZx.en cs).length ≤ 1000000) : ACon Try.prog 18 [.p (.sl 1 (by8 b)), vOf cs] (.p (.sl 1 (by8 (b ++ fZx.en cs)))) := by
  have c := wZx b cs hk (by omega)
  have cl := cloneB (by8 b) (by rw [by8_len]; rw [List.length_append] at h; omega)
  obtain ⟨x0, x1, rfl, -⟩ := fZx_sh hk
  generalize b ++ fZx.en [I x0, I x1] = r at *
  simp only [vOf2] at *
  have hI : Con Try.prog 51 [.p (.sl 1 (by8 b)), .p (.agg [I x0, I x1]), .p (.v (.func (.func 52) #[] #[]))] [] (.ret (.row 2048) [.row 5 1 (by8 r)] []) := by
    refine wBodyG Try.tab Try.mixed Try.func51 rfl rfl Try.ntmps51 (by simp) (by simp) fun Q hr hn hp => ?_
    repeat' first | (refine CallK_gen [11, 9] (c) (by decide) (by decide) (by simp [blksOf, inN, pos, renB, renC, renCs, ren0, lv, ouN, kpI, kpR]) (by simp [argsG, argG, ren0, inN, pos, renCs, renC]) ⟨[], by simp, by simp, ?_⟩; simp [lv, ouN, kpI, kpR, pos, ren, ren0, renB, renC, renCs, renF, renFs]) | (refine CallE.own (cl) ?_) | (refine hK _ ?_; clear hK) | (refine hK _ _ ?_; clear hK) | (clear hK; refine hK _ ?_; clear hK) | (clear hK; clear hK; refine hK _ ?_; clear hK) | (clear hK; clear hK; clear hK; refine hK _ ?_; clear hK) | (clear hK; clear hK; clear hK; clear hK; refine hK _ ?_; clear hK) | (refine wSeq fun K hK => ?_) | ((first | refine wReg ?_ | refine wDrwQ rfl (by kernel_rfl) ?_ | refine wDrwI ?_ | refine wDrw (by kernel_rfl) ?_); simp only [List.map_cons, List.map_nil, strip]) | ((first | refine wIs fun K hK => ?_ | refine wOs fun K hK => ?_ | refine wQs fun K hK => ?_ | refine CallK_plain ?_ | refine CallQ_plain ?_ | refine CallR_plain ?_ | refine wCond ?_); simp [lv, ouN, kpI, kpR, pos, ren, ren0, renB, renC, renCs]) | (refine wIn ?_; refine And.intro (by kernel_rfl) ?_; try simp only [thenA_n]) | (first | refine wBlock ?_ | refine wScope ?_) | ((first | refine wRet ?_ | refine wExit ?_ | refine wSkip ?_); try simp) | ((first | refine wLabel ?_ | refine wOn ?_ | refine wQn ?_); try simp only [thenA_n])
    all_goals first | apply hr
    all_goals refine ⟨[9], by simp, by simp, ?_⟩
    all_goals simp [Try.f51, outR, outB, renB, gaN, lv, ouN, kpI, kpR, pos, ren, ren0, renC, renCs]
  have hc := hI.toPure
  refine wBody Try.tab Try.mixed Try.func18 rfl rfl Try.ntmps18 (by simp) (by simp) fun Q hr hn => ?_
  repeat' first | (refine hK _ ?_; clear hK) | (refine hK _ _ ?_; clear hK) | (clear hK; refine hK _ ?_; clear hK) | (clear hK; clear hK; refine hK _ ?_; clear hK) | (clear hK; clear hK; clear hK; refine hK _ ?_; clear hK) | (clear hK; clear hK; clear hK; clear hK; refine hK _ ?_; clear hK) | (refine wSeq fun K hK => ?_) | ((first | refine wReg ?_ | refine wDrwQ rfl (by kernel_rfl) ?_ | refine wDrwI ?_ | refine wDrw (by kernel_rfl) ?_); simp only [List.map_cons, List.map_nil, strip]) | ((first | refine wIs fun K hK => ?_ | refine wOs fun K hK => ?_ | refine wQs fun K hK => ?_ | refine CallK_plain ?_ | refine CallQ_plain ?_ | refine CallR_plain ?_ | refine wCond ?_); simp) | (refine wIn ?_; refine And.intro (by kernel_rfl) ?_; try simp only [thenA_n]) | (first | refine wBlock ?_ | refine wScope ?_) | ((first | refine wRet ?_ | refine wExit ?_ | refine wSkip ?_); try simp) | ((first | refine wLabel ?_ | refine wOn ?_ | refine wQn ?_); try simp only [thenA_n]) | (refine CallE.pure (hc) rfl ?_) | (refine CallE.lent (hc) rfl ?_) | (refine CallF.pure (hc) rfl ?_) | (refine CallF.lent (hc) rfl ?_) | (refine CallE.own (hc) ?_) | (refine CallH.pure (hc) rfl ?_) | (refine CallH.lent (hc) rfl ?_) | (refine CallH.own (hc) ?_)
  all_goals apply hr
  all_goals simp [Try.f18]
set_option maxHeartbeats 4000000 in
theorem putCf (b : List UInt8) (cs : List PV) (hk : fCf.ok cs) (h : (b ++ fCf.en cs).length ≤ 1000000) : ACon Try.prog 16 [.p (.sl 1 (by8 b)), vOf cs] (.p (.sl 1 (by8 (b ++ fCf.en cs)))) := by
  have c := wCf b cs hk (by omega)
  have cl := cloneB (by8 b) (by rw [by8_len]; rw [List.length_append] at h; omega)
  obtain ⟨x0, x1, x2, x3, rfl, -⟩ := fCf_sh hk
  generalize b ++ fCf.en [I x0, I x1, I x2, .sl 4 x3] = r at *
  simp only [vOf2] at *
  have hI : Con Try.prog 48 [.p (.sl 1 (by8 b)), .p (.agg [I x0, I x1, I x2, .sl 4 x3]), .p (.v (.func (.func 49) #[] #[]))] [] (.ret (.row 2048) [.row 5 1 (by8 r)] []) := by
    refine wBodyG Try.tab Try.mixed Try.func48 rfl rfl Try.ntmps48 (by simp) (by simp) fun Q hr hn hp => ?_
    repeat' first | (refine CallK_gen [11, 9] (c) (by decide) (by decide) (by simp [blksOf, inN, pos, renB, renC, renCs, ren0, lv, ouN, kpI, kpR]) (by simp [argsG, argG, ren0, inN, pos, renCs, renC]) ⟨[], by simp, by simp, ?_⟩; simp [lv, ouN, kpI, kpR, pos, ren, ren0, renB, renC, renCs, renF, renFs]) | (refine CallE.own (cl) ?_) | (refine hK _ ?_; clear hK) | (refine hK _ _ ?_; clear hK) | (clear hK; refine hK _ ?_; clear hK) | (clear hK; clear hK; refine hK _ ?_; clear hK) | (clear hK; clear hK; clear hK; refine hK _ ?_; clear hK) | (clear hK; clear hK; clear hK; clear hK; refine hK _ ?_; clear hK) | (refine wSeq fun K hK => ?_) | ((first | refine wReg ?_ | refine wDrwQ rfl (by kernel_rfl) ?_ | refine wDrwI ?_ | refine wDrw (by kernel_rfl) ?_); simp only [List.map_cons, List.map_nil, strip]) | ((first | refine wIs fun K hK => ?_ | refine wOs fun K hK => ?_ | refine wQs fun K hK => ?_ | refine CallK_plain ?_ | refine CallQ_plain ?_ | refine CallR_plain ?_ | refine wCond ?_); simp [lv, ouN, kpI, kpR, pos, ren, ren0, renB, renC, renCs]) | (refine wIn ?_; refine And.intro (by kernel_rfl) ?_; try simp only [thenA_n]) | (first | refine wBlock ?_ | refine wScope ?_) | ((first | refine wRet ?_ | refine wExit ?_ | refine wSkip ?_); try simp) | ((first | refine wLabel ?_ | refine wOn ?_ | refine wQn ?_); try simp only [thenA_n])
    all_goals first | apply hr
    all_goals refine ⟨[9], by simp, by simp, ?_⟩
    all_goals simp [Try.f48, outR, outB, renB, gaN, lv, ouN, kpI, kpR, pos, ren, ren0, renC, renCs]
  have hc := hI.toPure
  refine wBody Try.tab Try.mixed Try.func16 rfl rfl Try.ntmps16 (by simp) (by simp) fun Q hr hn => ?_
  repeat' first | (refine hK _ ?_; clear hK) | (refine hK _ _ ?_; clear hK) | (clear hK; refine hK _ ?_; clear hK) | (clear hK; clear hK; refine hK _ ?_; clear hK) | (clear hK; clear hK; clear hK; refine hK _ ?_; clear hK) | (clear hK; clear hK; clear hK; clear hK; refine hK _ ?_; clear hK) | (refine wSeq fun K hK => ?_) | ((first | refine wReg ?_ | refine wDrwQ rfl (by kernel_rfl) ?_ | refine wDrwI ?_ | refine wDrw (by kernel_rfl) ?_); simp only [List.map_cons, List.map_nil, strip]) | ((first | refine wIs fun K hK => ?_ | refine wOs fun K hK => ?_ | refine wQs fun K hK => ?_ | refine CallK_plain ?_ | refine CallQ_plain ?_ | refine CallR_plain ?_ | refine wCond ?_); simp) | (refine wIn ?_; refine And.intro (by kernel_rfl) ?_; try simp only [thenA_n]) | (first | refine wBlock ?_ | refine wScope ?_) | ((first | refine wRet ?_ | refine wExit ?_ | refine wSkip ?_); try simp) | ((first | refine wLabel ?_ | refine wOn ?_ | refine wQn ?_); try simp only [thenA_n]) | (refine CallE.pure (hc) rfl ?_) | (refine CallE.lent (hc) rfl ?_) | (refine CallF.pure (hc) rfl ?_) | (refine CallF.lent (hc) rfl ?_) | (refine CallE.own (hc) ?_) | (refine CallH.pure (hc) rfl ?_) | (refine CallH.lent (hc) rfl ?_) | (refine CallH.own (hc) ?_)
  all_goals apply hr
  all_goals simp [Try.f16]
set_option maxHeartbeats 4000000 in
theorem putTx (b : List UInt8) (cs : List PV) (hk : fTx.ok cs) (h : (b ++ fTx.en cs).length ≤ 1000000) : ACon Try.prog 12 [.p (.sl 1 (by8 b)), vOf cs] (.p (.sl 1 (by8 (b ++ fTx.en cs)))) := by
  have c := wTx b cs hk (by omega)
  have cl := cloneB (by8 b) (by rw [by8_len]; rw [List.length_append] at h; omega)
  obtain ⟨x0, x1, x2, x3, x4, x5, x6, x7, rfl, -⟩ := fTx_sh hk
  generalize b ++ fTx.en [I x0, I x1, I x2, I x3, I x4, I x5, SB x6, .sl 11 x7] = r at *
  simp only [vOf2] at *
  have hI : Con Try.prog 39 [.p (.sl 1 (by8 b)), .p (.agg [I x0, I x1, I x2, I x3, I x4, I x5, SB x6, .sl 11 x7]), .p (.v (.func (.func 40) #[] #[]))] [] (.ret (.row 2048) [.row 5 1 (by8 r)] []) := by
    refine wBodyG Try.tab Try.mixed Try.func39 rfl rfl Try.ntmps39 (by simp) (by simp) fun Q hr hn hp => ?_
    repeat' first | (refine CallK_gen [11, 9] (c) (by decide) (by decide) (by simp [blksOf, inN, pos, renB, renC, renCs, ren0, lv, ouN, kpI, kpR]) (by simp [argsG, argG, ren0, inN, pos, renCs, renC]) ⟨[], by simp, by simp, ?_⟩; simp [lv, ouN, kpI, kpR, pos, ren, ren0, renB, renC, renCs, renF, renFs]) | (refine CallE.own (cl) ?_) | (refine hK _ ?_; clear hK) | (refine hK _ _ ?_; clear hK) | (clear hK; refine hK _ ?_; clear hK) | (clear hK; clear hK; refine hK _ ?_; clear hK) | (clear hK; clear hK; clear hK; refine hK _ ?_; clear hK) | (clear hK; clear hK; clear hK; clear hK; refine hK _ ?_; clear hK) | (refine wSeq fun K hK => ?_) | ((first | refine wReg ?_ | refine wDrwQ rfl (by kernel_rfl) ?_ | refine wDrwI ?_ | refine wDrw (by kernel_rfl) ?_); simp only [List.map_cons, List.map_nil, strip]) | ((first | refine wIs fun K hK => ?_ | refine wOs fun K hK => ?_ | refine wQs fun K hK => ?_ | refine CallK_plain ?_ | refine CallQ_plain ?_ | refine CallR_plain ?_ | refine wCond ?_); simp [lv, ouN, kpI, kpR, pos, ren, ren0, renB, renC, renCs]) | (refine wIn ?_; refine And.intro (by kernel_rfl) ?_; try simp only [thenA_n]) | (first | refine wBlock ?_ | refine wScope ?_) | ((first | refine wRet ?_ | refine wExit ?_ | refine wSkip ?_); try simp) | ((first | refine wLabel ?_ | refine wOn ?_ | refine wQn ?_); try simp only [thenA_n])
    all_goals first | apply hr
    all_goals refine ⟨[9], by simp, by simp, ?_⟩
    all_goals simp [Try.f39, outR, outB, renB, gaN, lv, ouN, kpI, kpR, pos, ren, ren0, renC, renCs]
  have hc := hI.toPure
  refine wBody Try.tab Try.mixed Try.func12 rfl rfl Try.ntmps12 (by simp) (by simp) fun Q hr hn => ?_
  repeat' first | (refine hK _ ?_; clear hK) | (refine hK _ _ ?_; clear hK) | (clear hK; refine hK _ ?_; clear hK) | (clear hK; clear hK; refine hK _ ?_; clear hK) | (clear hK; clear hK; clear hK; refine hK _ ?_; clear hK) | (clear hK; clear hK; clear hK; clear hK; refine hK _ ?_; clear hK) | (refine wSeq fun K hK => ?_) | ((first | refine wReg ?_ | refine wDrwQ rfl (by kernel_rfl) ?_ | refine wDrwI ?_ | refine wDrw (by kernel_rfl) ?_); simp only [List.map_cons, List.map_nil, strip]) | ((first | refine wIs fun K hK => ?_ | refine wOs fun K hK => ?_ | refine wQs fun K hK => ?_ | refine CallK_plain ?_ | refine CallQ_plain ?_ | refine CallR_plain ?_ | refine wCond ?_); simp) | (refine wIn ?_; refine And.intro (by kernel_rfl) ?_; try simp only [thenA_n]) | (first | refine wBlock ?_ | refine wScope ?_) | ((first | refine wRet ?_ | refine wExit ?_ | refine wSkip ?_); try simp) | ((first | refine wLabel ?_ | refine wOn ?_ | refine wQn ?_); try simp only [thenA_n]) | (refine CallE.pure (hc) rfl ?_) | (refine CallE.lent (hc) rfl ?_) | (refine CallF.pure (hc) rfl ?_) | (refine CallF.lent (hc) rfl ?_) | (refine CallE.own (hc) ?_) | (refine CallH.pure (hc) rfl ?_) | (refine CallH.lent (hc) rfl ?_) | (refine CallH.own (hc) ?_)
  all_goals apply hr
  all_goals simp [Try.f12]
set_option maxHeartbeats 4000000 in
theorem putSt (b : List UInt8) (cs : List PV) (hk : fSt.ok cs) (h : (b ++ fSt.en cs).length ≤ 1000000) : ACon Try.prog 14 [.p (.sl 1 (by8 b)), vOf cs] (.p (.sl 1 (by8 (b ++ fSt.en cs)))) := by
  have c := wSt b cs hk (by omega)
  have cl := cloneB (by8 b) (by rw [by8_len]; rw [List.length_append] at h; omega)
  obtain ⟨x0, x1, x2, x3, x4, x5, x6, x7, x8, rfl, -⟩ := fSt_sh hk
  generalize b ++ fSt.en [.sl 5 x0, .sl 1 x1, I x2, I x3, I x4, I x5, .sl 4 x6, I x7, I x8] = r at *
  simp only [vOf2] at *
  have hI : Con Try.prog 45 [.p (.sl 1 (by8 b)), .p (.agg [.sl 5 x0, .sl 1 x1, I x2, I x3, I x4, I x5, .sl 4 x6, I x7, I x8]), .p (.v (.func (.func 46) #[] #[]))] [] (.ret (.row 2048) [.row 5 1 (by8 r)] []) := by
    refine wBodyG Try.tab Try.mixed Try.func45 rfl rfl Try.ntmps45 (by simp) (by simp) fun Q hr hn hp => ?_
    repeat' first | (refine CallK_gen [11, 9] (c) (by decide) (by decide) (by simp [blksOf, inN, pos, renB, renC, renCs, ren0, lv, ouN, kpI, kpR]) (by simp [argsG, argG, ren0, inN, pos, renCs, renC]) ⟨[], by simp, by simp, ?_⟩; simp [lv, ouN, kpI, kpR, pos, ren, ren0, renB, renC, renCs, renF, renFs]) | (refine CallE.own (cl) ?_) | (refine hK _ ?_; clear hK) | (refine hK _ _ ?_; clear hK) | (clear hK; refine hK _ ?_; clear hK) | (clear hK; clear hK; refine hK _ ?_; clear hK) | (clear hK; clear hK; clear hK; refine hK _ ?_; clear hK) | (clear hK; clear hK; clear hK; clear hK; refine hK _ ?_; clear hK) | (refine wSeq fun K hK => ?_) | ((first | refine wReg ?_ | refine wDrwQ rfl (by kernel_rfl) ?_ | refine wDrwI ?_ | refine wDrw (by kernel_rfl) ?_); simp only [List.map_cons, List.map_nil, strip]) | ((first | refine wIs fun K hK => ?_ | refine wOs fun K hK => ?_ | refine wQs fun K hK => ?_ | refine CallK_plain ?_ | refine CallQ_plain ?_ | refine CallR_plain ?_ | refine wCond ?_); simp [lv, ouN, kpI, kpR, pos, ren, ren0, renB, renC, renCs]) | (refine wIn ?_; refine And.intro (by kernel_rfl) ?_; try simp only [thenA_n]) | (first | refine wBlock ?_ | refine wScope ?_) | ((first | refine wRet ?_ | refine wExit ?_ | refine wSkip ?_); try simp) | ((first | refine wLabel ?_ | refine wOn ?_ | refine wQn ?_); try simp only [thenA_n])
    all_goals first | apply hr
    all_goals refine ⟨[9], by simp, by simp, ?_⟩
    all_goals simp [Try.f45, outR, outB, renB, gaN, lv, ouN, kpI, kpR, pos, ren, ren0, renC, renCs]
  have hc := hI.toPure
  refine wBody Try.tab Try.mixed Try.func14 rfl rfl Try.ntmps14 (by simp) (by simp) fun Q hr hn => ?_
  repeat' first | (refine hK _ ?_; clear hK) | (refine hK _ _ ?_; clear hK) | (clear hK; refine hK _ ?_; clear hK) | (clear hK; clear hK; refine hK _ ?_; clear hK) | (clear hK; clear hK; clear hK; refine hK _ ?_; clear hK) | (clear hK; clear hK; clear hK; clear hK; refine hK _ ?_; clear hK) | (refine wSeq fun K hK => ?_) | ((first | refine wReg ?_ | refine wDrwQ rfl (by kernel_rfl) ?_ | refine wDrwI ?_ | refine wDrw (by kernel_rfl) ?_); simp only [List.map_cons, List.map_nil, strip]) | ((first | refine wIs fun K hK => ?_ | refine wOs fun K hK => ?_ | refine wQs fun K hK => ?_ | refine CallK_plain ?_ | refine CallQ_plain ?_ | refine CallR_plain ?_ | refine wCond ?_); simp) | (refine wIn ?_; refine And.intro (by kernel_rfl) ?_; try simp only [thenA_n]) | (first | refine wBlock ?_ | refine wScope ?_) | ((first | refine wRet ?_ | refine wExit ?_ | refine wSkip ?_); try simp) | ((first | refine wLabel ?_ | refine wOn ?_ | refine wQn ?_); try simp only [thenA_n]) | (refine CallE.pure (hc) rfl ?_) | (refine CallE.lent (hc) rfl ?_) | (refine CallF.pure (hc) rfl ?_) | (refine CallF.lent (hc) rfl ?_) | (refine CallE.own (hc) ?_) | (refine CallH.pure (hc) rfl ?_) | (refine CallH.lent (hc) rfl ?_) | (refine CallH.own (hc) ?_)
  all_goals apply hr
  all_goals simp [Try.f14]
/- Records read: numbers, texts, flags. -/
theorem give0_con : ACon Try.prog 130 [.p (I 0)] (.tup []) := by
  refine wBody Try.tab Try.mixed Try.func130 rfl rfl Try.ntmps130 (by simp) (by simp) fun Q hr hn => ?_
  repeat' first | (refine hK _ ?_; clear hK) | (refine hK _ _ ?_; clear hK) | (clear hK; refine hK _ ?_; clear hK) | (clear hK; clear hK; refine hK _ ?_; clear hK) | (clear hK; clear hK; clear hK; refine hK _ ?_; clear hK) | (clear hK; clear hK; clear hK; clear hK; refine hK _ ?_; clear hK) | (refine wSeq fun K hK => ?_) | ((first | refine wReg ?_ | refine wDrwQ rfl (by kernel_rfl) ?_ | refine wDrwI ?_ | refine wDrw (by kernel_rfl) ?_); simp only [List.map_cons, List.map_nil, strip]) | ((first | refine wIs fun K hK => ?_ | refine wOs fun K hK => ?_ | refine wQs fun K hK => ?_ | refine CallK_plain ?_ | refine CallQ_plain ?_ | refine CallR_plain ?_ | refine wCond ?_); simp) | (refine wIn ?_; refine And.intro (by kernel_rfl) ?_; try simp only [thenA_n]) | (first | refine wBlock ?_ | refine wScope ?_) | ((first | refine wRet ?_ | refine wExit ?_ | refine wSkip ?_); try simp) | ((first | refine wLabel ?_ | refine wOn ?_ | refine wQn ?_); try simp only [thenA_n])
  all_goals first | apply hn | apply hr
  all_goals simp [Try.f130]
/-- The reader at a place. -/
abbrev rB (b : List UInt8) (a : Int) : List Blk := [.box 160 [.p (.sl 1 (by8 b)), .p (I a)]]
/-- What reading comes to: a value, or it gives up. -/
def rO (b : List UInt8) (v : V) (st : RS) : Out := if st.1 = 0 then .ret v [] (rB b st.2) else .pan (.iface 192 (.int .i64 st.1)) (rB b st.2)
theorem rO_ok (b : List UInt8) (v : V) (a : Int) : rO b v (0, a) = .ret v [] (rB b a) := rfl
theorem rO_err (b : List UInt8) (v : V) {e : Int} (a : Int) (h : ¬ e = 0) : rO b v (e, a) = .pan (.iface 192 (.int .i64 e)) (rB b a) := by unfold rO; rw [if_neg h]
abbrev RCn (g : FuncId) (f : Fo) : Prop := ∀ (b : List UInt8) (a : Int), b.length ≤ 1000000000 → Con Try.prog g [.ptr 1024 0] (rB b a) (rO b (vOf (f.rd b (0, a)).1) (f.rd b (0, a)).2)
theorem rnum : RCn 96 foI := by
  intro b a hb
  show Con _ _ _ _ (rO b (.p (I (rdN b (0, a)).1)) (rdN b (0, a)).2)
  have c := int_con b a hb
  rw [intT_eq] at c
  unfold rdN
  rw [if_pos rfl]
  simp only
  generalize intP b a = r at *
  obtain ⟨n, k, e⟩ := r
  simp only at c ⊢
  have c0 := give0_con
  by_cases h : e = 0
  · subst h
    rw [if_pos rfl, rO_ok]
    refine wBodyG Try.tab Try.mixed Try.func96 rfl rfl Try.ntmps96 (by simp) (by simp) fun Q hr hn hp => ?_
    repeat' first | (refine hK _ ?_; clear hK) | (refine hK _ _ ?_; clear hK) | (clear hK; refine hK _ ?_; clear hK) | (clear hK; clear hK; refine hK _ ?_; clear hK) | (clear hK; clear hK; clear hK; refine hK _ ?_; clear hK) | (clear hK; clear hK; clear hK; clear hK; refine hK _ ?_; clear hK) | (refine wSeq fun K hK => ?_) | ((first | refine wReg ?_ | refine wDrwQ rfl (by kernel_rfl) ?_ | refine wDrwI ?_ | refine wDrw (by kernel_rfl) ?_); simp only [List.map_cons, List.map_nil, strip]) | ((first | refine wIs fun K hK => ?_ | refine wOs fun K hK => ?_ | refine wQs fun K hK => ?_ | refine CallK_plain ?_ | refine CallQ_plain ?_ | refine CallR_plain ?_ | refine wCond ?_); simp) | (refine wIn ?_; refine And.intro (by kernel_rfl) ?_; try simp only [thenA_n]) | (first | refine wBlock ?_ | refine wScope ?_) | ((first | refine wRet ?_ | refine wExit ?_ | refine wSkip ?_); try simp) | ((first | refine wLabel ?_ | refine wOn ?_ | refine wQn ?_); try simp only [thenA_n]) | (refine CallE.pure (c) rfl ?_) | (refine CallE.lent (c) rfl ?_) | (refine CallF.pure (c) rfl ?_) | (refine CallF.lent (c) rfl ?_) | (refine CallE.own (c) ?_) | (refine CallH.pure (c) rfl ?_) | (refine CallH.lent (c) rfl ?_) | (refine CallH.own (c) ?_) | (refine CallE.pure (c0) rfl ?_) | (refine CallE.lent (c0) rfl ?_) | (refine CallF.pure (c0) rfl ?_) | (refine CallF.lent (c0) rfl ?_) | (refine CallE.own (c0) ?_) | (refine CallH.pure (c0) rfl ?_) | (refine CallH.lent (c0) rfl ?_) | (refine CallH.own (c0) ?_)
    all_goals first | apply hr
    all_goals refine ⟨[], by simp, by simp, ?_⟩
    all_goals simp [Try.f96, outR, outB, renB, gaN]
  · rw [if_neg h, rO_err _ _ _ h]
    have c1 := give_con e h
    refine wBodyG Try.tab Try.mixed Try.func96 rfl rfl Try.ntmps96 (by simp) (by simp) fun Q hr hn hp => ?_
    repeat' first | (refine CallE.pan c1 ?_) | (refine hK _ ?_; clear hK) | (refine hK _ _ ?_; clear hK) | (clear hK; refine hK _ ?_; clear hK) | (clear hK; clear hK; refine hK _ ?_; clear hK) | (clear hK; clear hK; clear hK; refine hK _ ?_; clear hK) | (clear hK; clear hK; clear hK; clear hK; refine hK _ ?_; clear hK) | (refine wSeq fun K hK => ?_) | ((first | refine wReg ?_ | refine wDrwQ rfl (by kernel_rfl) ?_ | refine wDrwI ?_ | refine wDrw (by kernel_rfl) ?_); simp only [List.map_cons, List.map_nil, strip]) | ((first | refine wIs fun K hK => ?_ | refine wOs fun K hK => ?_ | refine wQs fun K hK => ?_ | refine CallK_plain ?_ | refine CallQ_plain ?_ | refine CallR_plain ?_ | refine wCond ?_); simp [h]) | (refine wIn ?_; refine And.intro (by kernel_rfl) ?_; try simp only [thenA_n]) | (first | refine wBlock ?_ | refine wScope ?_) | ((first | refine wRet ?_ | refine wExit ?_ | refine wSkip ?_); try simp) | ((first | refine wLabel ?_ | refine wOn ?_ | refine wQn ?_); try simp only [thenA_n]) | (refine CallE.pure (c) rfl ?_) | (refine CallE.lent (c) rfl ?_) | (refine CallF.pure (c) rfl ?_) | (refine CallF.lent (c) rfl ?_) | (refine CallE.own (c) ?_) | (refine CallH.pure (c) rfl ?_) | (refine CallH.lent (c) rfl ?_) | (refine CallH.own (c) ?_)
    all_goals try simp only [thenA_p, blockA_p]
    all_goals apply hp
    all_goals simp [AResP, outB, renB, gaN]
/- Records read: places, members, lists of numbers. -/
set_option maxHeartbeats 4000000 in
theorem rZx : RCn 95 fZx := by
  intro b a hb
  generalize ho : rO b (vOf (fZx.rd b (0, a)).1) (fZx.rd b (0, a)).2 = out
  have c0 := rnum b a hb
  refine wBodyG Try.tab Try.mixed Try.func95 rfl rfl Try.ntmps95 (by simp) (by simp) fun Q hr hn hp => ?_
  repeat' first | (refine hK _ ?_; clear hK) | (refine hK _ _ ?_; clear hK) | (clear hK; refine hK _ ?_; clear hK) | (clear hK; clear hK; refine hK _ ?_; clear hK) | (clear hK; clear hK; clear hK; refine hK _ ?_; clear hK) | (clear hK; clear hK; clear hK; clear hK; refine hK _ ?_; clear hK) | (refine wSeq fun K hK => ?_) | ((first | refine wReg ?_ | refine wDrwQ rfl (by kernel_rfl) ?_ | refine wDrwI ?_ | refine wDrw (by kernel_rfl) ?_); simp only [List.map_cons, List.map_nil, strip]) | ((first | refine wIs fun K hK => ?_ | refine wOs fun K hK => ?_ | refine wQs fun K hK => ?_ | refine CallQ_plain ?_ | refine CallR_plain ?_ | refine wCond ?_); simp) | (refine wIn ?_; refine And.intro (by kernel_rfl) ?_; try simp only [thenA_n]) | (first | refine wBlock ?_ | refine wScope ?_) | ((first | refine wRet ?_ | refine wExit ?_ | refine wSkip ?_); try simp) | ((first | refine wLabel ?_ | refine wOn ?_ | refine wQn ?_); try simp only [thenA_n])
  obtain ⟨x0, ⟨q0, a0⟩, e0⟩ := foI_got b (0, a)
  rw [e0] at c0
  simp only [vOf1, vOf2] at c0
  by_cases z0 : q0 = 0
  rotate_left
  · have hz : (fZx.rd b (0, a)).2 = (q0, a0) := by simp only [fZx, sq_rd, e0, foI_L.stk b q0 a0 z0]
    rw [hz, rO_err _ _ _ z0] at ho
    subst ho
    rw [rO_err _ _ _ z0] at c0
    refine CallK_gen [1024] c0 (by decide) (by decide) (by simp [blksOf, inN, pos, renB, ren0, ouN, lv, kpI, kpR]) (by simp [argsG, argG, ren0, inN, pos, renCs, renC]) ?_
    simp [GenK, lv, ouN, kpI, kpR, pos, ren, ren0, renB, renC, renCs]
    all_goals try simp only [thenA_p, blockA_p]
    all_goals apply hp
    all_goals simp [AResP, outB, renB, gaN, lv, ouN, kpI, kpR, pos, ren, ren0, renC, renCs]
  subst z0
  rw [rO_ok] at c0
  refine CallK_gen [1024] c0 (by decide) (by decide) (by simp [blksOf, inN, pos, renB, ren0, ouN, lv, kpI, kpR]) (by simp [argsG, argG, ren0, inN, pos, renCs, renC]) ⟨[], by simp, by simp, ?_⟩
  simp [lv, ouN, kpI, kpR, pos, ren, ren0, renB, renC, renCs]
  repeat' first | (refine hK _ ?_; clear hK) | (refine hK _ _ ?_; clear hK) | (clear hK; refine hK _ ?_; clear hK) | (clear hK; clear hK; refine hK _ ?_; clear hK) | (clear hK; clear hK; clear hK; refine hK _ ?_; clear hK) | (clear hK; clear hK; clear hK; clear hK; refine hK _ ?_; clear hK) | (refine wSeq fun K hK => ?_) | ((first | refine wReg ?_ | refine wDrwQ rfl (by kernel_rfl) ?_ | refine wDrwI ?_ | refine wDrw (by kernel_rfl) ?_); simp only [List.map_cons, List.map_nil, strip]) | ((first | refine wIs fun K hK => ?_ | refine wOs fun K hK => ?_ | refine wQs fun K hK => ?_ | refine CallQ_plain ?_ | refine CallR_plain ?_ | refine wCond ?_); simp [lv, ouN, kpI, kpR, pos, ren, ren0, renB, renC, renCs]) | (refine wIn ?_; refine And.intro (by kernel_rfl) ?_; try simp only [thenA_n]) | (first | refine wBlock ?_ | refine wScope ?_) | ((first | refine wRet ?_ | refine wExit ?_ | refine wSkip ?_); try simp) | ((first | refine wLabel ?_ | refine wOn ?_ | refine wQn ?_); try simp only [thenA_n])
  have c1 := rnum b a0 hb
  obtain ⟨x1, ⟨q1, a1⟩, e1⟩ := foI_got b (0, a0)
  rw [e1] at c1
  simp only [vOf1, vOf2] at c1
  by_cases z1 : q1 = 0
  rotate_left
  · have hz : (fZx.rd b (0, a)).2 = (q1, a1) := by simp only [fZx, sq_rd, e0, e1]
    rw [hz, rO_err _ _ _ z1] at ho
    subst ho
    rw [rO_err _ _ _ z1] at c1
    refine CallK_gen [1024] c1 (by decide) (by decide) (by simp [blksOf, inN, pos, renB, ren0, ouN, lv, kpI, kpR]) (by simp [argsG, argG, ren0, inN, pos, renCs, renC]) ?_
    simp [GenK, lv, ouN, kpI, kpR, pos, ren, ren0, renB, renC, renCs]
    all_goals try simp only [thenA_p, blockA_p]
    all_goals apply hp
    all_goals simp [AResP, outB, renB, gaN, lv, ouN, kpI, kpR, pos, ren, ren0, renC, renCs]
  subst z1
  rw [rO_ok] at c1
  refine CallK_gen [1024] c1 (by decide) (by decide) (by simp [blksOf, inN, pos, renB, ren0, ouN, lv, kpI, kpR]) (by simp [argsG, argG, ren0, inN, pos, renCs, renC]) ⟨[], by simp, by simp, ?_⟩
  simp [lv, ouN, kpI, kpR, pos, ren, ren0, renB, renC, renCs]
  repeat' first | (refine hK _ ?_; clear hK) | (refine hK _ _ ?_; clear hK) | (clear hK; refine hK _ ?_; clear hK) | (clear hK; clear hK; refine hK _ ?_; clear hK) | (clear hK; clear hK; clear hK; refine hK _ ?_; clear hK) | (clear hK; clear hK; clear hK; clear hK; refine hK _ ?_; clear hK) | (refine wSeq fun K hK => ?_) | ((first | refine wReg ?_ | refine wDrwQ rfl (by kernel_rfl) ?_ | refine wDrwI ?_ | refine wDrw (by kernel_rfl) ?_); simp only [List.map_cons, List.map_nil, strip]) | ((first | refine wIs fun K hK => ?_ | refine wOs fun K hK => ?_ | refine wQs fun K hK => ?_ | refine CallQ_plain ?_ | refine CallR_plain ?_ | refine wCond ?_); simp [lv, ouN, kpI, kpR, pos, ren, ren0, renB, renC, renCs]) | (refine wIn ?_; refine And.intro (by kernel_rfl) ?_; try simp only [thenA_n]) | (first | refine wBlock ?_ | refine wScope ?_) | ((first | refine wRet ?_ | refine wExit ?_ | refine wSkip ?_); try simp) | ((first | refine wLabel ?_ | refine wOn ?_ | refine wQn ?_); try simp only [thenA_n])
  have hz : fZx.rd b (0, a) = ([I x0, I x1], 0, a1) := by simp only [fZx, sq_rd, e0, e1, List.cons_append, List.nil_append]
  rw [hz] at ho
  simp only [rO_ok, vOf2] at ho
  subst ho
  all_goals first | apply hr
  all_goals refine ⟨[], by simp, by simp, ?_⟩
  all_goals simp [Try.f95, outR, outB, renB, gaN, lv, ouN, kpI, kpR, pos, ren, ren0, renC, renCs]
set_option maxHeartbeats 4000000 in
theorem rMb : RCn 98 fMb := by
  intro b a hb
  generalize ho : rO b (vOf (fMb.rd b (0, a)).1) (fMb.rd b (0, a)).2 = out
  have c0 := rnum b a hb
  refine wBodyG Try.tab Try.mixed Try.func98 rfl rfl Try.ntmps98 (by simp) (by simp) fun Q hr hn hp => ?_
  repeat' first | (refine hK _ ?_; clear hK) | (refine hK _ _ ?_; clear hK) | (clear hK; refine hK _ ?_; clear hK) | (clear hK; clear hK; refine hK _ ?_; clear hK) | (clear hK; clear hK; clear hK; refine hK _ ?_; clear hK) | (clear hK; clear hK; clear hK; clear hK; refine hK _ ?_; clear hK) | (refine wSeq fun K hK => ?_) | ((first | refine wReg ?_ | refine wDrwQ rfl (by kernel_rfl) ?_ | refine wDrwI ?_ | refine wDrw (by kernel_rfl) ?_); simp only [List.map_cons, List.map_nil, strip]) | ((first | refine wIs fun K hK => ?_ | refine wOs fun K hK => ?_ | refine wQs fun K hK => ?_ | refine CallQ_plain ?_ | refine CallR_plain ?_ | refine wCond ?_); simp) | (refine wIn ?_; refine And.intro (by kernel_rfl) ?_; try simp only [thenA_n]) | (first | refine wBlock ?_ | refine wScope ?_) | ((first | refine wRet ?_ | refine wExit ?_ | refine wSkip ?_); try simp) | ((first | refine wLabel ?_ | refine wOn ?_ | refine wQn ?_); try simp only [thenA_n])
  obtain ⟨x0, ⟨q0, a0⟩, e0⟩ := foI_got b (0, a)
  rw [e0] at c0
  simp only [vOf1, vOf2] at c0
  by_cases z0 : q0 = 0
  rotate_left
  · have hz : (fMb.rd b (0, a)).2 = (q0, a0) := by simp only [fMb, sq_rd, e0, foI_L.stk b q0 a0 z0]
    rw [hz, rO_err _ _ _ z0] at ho
    subst ho
    rw [rO_err _ _ _ z0] at c0
    refine CallK_gen [1024] c0 (by decide) (by decide) (by simp [blksOf, inN, pos, renB, ren0, ouN, lv, kpI, kpR]) (by simp [argsG, argG, ren0, inN, pos, renCs, renC]) ?_
    simp [GenK, lv, ouN, kpI, kpR, pos, ren, ren0, renB, renC, renCs]
    all_goals try simp only [thenA_p, blockA_p]
    all_goals apply hp
    all_goals simp [AResP, outB, renB, gaN, lv, ouN, kpI, kpR, pos, ren, ren0, renC, renCs]
  subst z0
  rw [rO_ok] at c0
  refine CallK_gen [1024] c0 (by decide) (by decide) (by simp [blksOf, inN, pos, renB, ren0, ouN, lv, kpI, kpR]) (by simp [argsG, argG, ren0, inN, pos, renCs, renC]) ⟨[], by simp, by simp, ?_⟩
  simp [lv, ouN, kpI, kpR, pos, ren, ren0, renB, renC, renCs]
  repeat' first | (refine hK _ ?_; clear hK) | (refine hK _ _ ?_; clear hK) | (clear hK; refine hK _ ?_; clear hK) | (clear hK; clear hK; refine hK _ ?_; clear hK) | (clear hK; clear hK; clear hK; refine hK _ ?_; clear hK) | (clear hK; clear hK; clear hK; clear hK; refine hK _ ?_; clear hK) | (refine wSeq fun K hK => ?_) | ((first | refine wReg ?_ | refine wDrwQ rfl (by kernel_rfl) ?_ | refine wDrwI ?_ | refine wDrw (by kernel_rfl) ?_); simp only [List.map_cons, List.map_nil, strip]) | ((first | refine wIs fun K hK => ?_ | refine wOs fun K hK => ?_ | refine wQs fun K hK => ?_ | refine CallQ_plain ?_ | refine CallR_plain ?_ | refine wCond ?_); simp [lv, ouN, kpI, kpR, pos, ren, ren0, renB, renC, renCs]) | (refine wIn ?_; refine And.intro (by kernel_rfl) ?_; try simp only [thenA_n]) | (first | refine wBlock ?_ | refine wScope ?_) | ((first | refine wRet ?_ | refine wExit ?_ | refine wSkip ?_); try simp) | ((first | refine wLabel ?_ | refine wOn ?_ | refine wQn ?_); try simp only [thenA_n])
  have c1 := rnum b a0 hb
  obtain ⟨x1, ⟨q1, a1⟩, e1⟩ := foI_got b (0, a0)
  rw [e1] at c1
  simp only [vOf1, vOf2] at c1
  by_cases z1 : q1 = 0
  rotate_left
  · have hz : (fMb.rd b (0, a)).2 = (q1, a1) := by simp only [fMb, sq_rd, e0, e1, foI_L.stk b q1 a1 z1]
    rw [hz, rO_err _ _ _ z1] at ho
    subst ho
    rw [rO_err _ _ _ z1] at c1
    refine CallK_gen [1024] c1 (by decide) (by decide) (by simp [blksOf, inN, pos, renB, ren0, ouN, lv, kpI, kpR]) (by simp [argsG, argG, ren0, inN, pos, renCs, renC]) ?_
    simp [GenK, lv, ouN, kpI, kpR, pos, ren, ren0, renB, renC, renCs]
    all_goals try simp only [thenA_p, blockA_p]
    all_goals apply hp
    all_goals simp [AResP, outB, renB, gaN, lv, ouN, kpI, kpR, pos, ren, ren0, renC, renCs]
  subst z1
  rw [rO_ok] at c1
  refine CallK_gen [1024] c1 (by decide) (by decide) (by simp [blksOf, inN, pos, renB, ren0, ouN, lv, kpI, kpR]) (by simp [argsG, argG, ren0, inN, pos, renCs, renC]) ⟨[], by simp, by simp, ?_⟩
  simp [lv, ouN, kpI, kpR, pos, ren, ren0, renB, renC, renCs]
  repeat' first | (refine hK _ ?_; clear hK) | (refine hK _ _ ?_; clear hK) | (clear hK; refine hK _ ?_; clear hK) | (clear hK; clear hK; refine hK _ ?_; clear hK) | (clear hK; clear hK; clear hK; refine hK _ ?_; clear hK) | (clear hK; clear hK; clear hK; clear hK; refine hK _ ?_; clear hK) | (refine wSeq fun K hK => ?_) | ((first | refine wReg ?_ | refine wDrwQ rfl (by kernel_rfl) ?_ | refine wDrwI ?_ | refine wDrw (by kernel_rfl) ?_); simp only [List.map_cons, List.map_nil, strip]) | ((first | refine wIs fun K hK => ?_ | refine wOs fun K hK => ?_ | refine wQs fun K hK => ?_ | refine CallQ_plain ?_ | refine CallR_plain ?_ | refine wCond ?_); simp [lv, ouN, kpI, kpR, pos, ren, ren0, renB, renC, renCs]) | (refine wIn ?_; refine And.intro (by kernel_rfl) ?_; try simp only [thenA_n]) | (first | refine wBlock ?_ | refine wScope ?_) | ((first | refine wRet ?_ | refine wExit ?_ | refine wSkip ?_); try simp) | ((first | refine wLabel ?_ | refine wOn ?_ | refine wQn ?_); try simp only [thenA_n])
  have c2 := rnum b a1 hb
  obtain ⟨x2, ⟨q2, a2⟩, e2⟩ := foI_got b (0, a1)
  rw [e2] at c2
  simp only [vOf1, vOf2] at c2
  by_cases z2 : q2 = 0
  rotate_left
  · have hz : (fMb.rd b (0, a)).2 = (q2, a2) := by simp only [fMb, sq_rd, e0, e1, e2, foI_L.stk b q2 a2 z2]
    rw [hz, rO_err _ _ _ z2] at ho
    subst ho
    rw [rO_err _ _ _ z2] at c2
    refine CallK_gen [1024] c2 (by decide) (by decide) (by simp [blksOf, inN, pos, renB, ren0, ouN, lv, kpI, kpR]) (by simp [argsG, argG, ren0, inN, pos, renCs, renC]) ?_
    simp [GenK, lv, ouN, kpI, kpR, pos, ren, ren0, renB, renC, renCs]
    all_goals try simp only [thenA_p, blockA_p]
    all_goals apply hp
    all_goals simp [AResP, outB, renB, gaN, lv, ouN, kpI, kpR, pos, ren, ren0, renC, renCs]
  subst z2
  rw [rO_ok] at c2
  refine CallK_gen [1024] c2 (by decide) (by decide) (by simp [blksOf, inN, pos, renB, ren0, ouN, lv, kpI, kpR]) (by simp [argsG, argG, ren0, inN, pos, renCs, renC]) ⟨[], by simp, by simp, ?_⟩
  simp [lv, ouN, kpI, kpR, pos, ren, ren0, renB, renC, renCs]
  repeat' first | (refine hK _ ?_; clear hK) | (refine hK _ _ ?_; clear hK) | (clear hK; refine hK _ ?_; clear hK) | (clear hK; clear hK; refine hK _ ?_; clear hK) | (clear hK; clear hK; clear hK; refine hK _ ?_; clear hK) | (clear hK; clear hK; clear hK; clear hK; refine hK _ ?_; clear hK) | (refine wSeq fun K hK => ?_) | ((first | refine wReg ?_ | refine wDrwQ rfl (by kernel_rfl) ?_ | refine wDrwI ?_ | refine wDrw (by kernel_rfl) ?_); simp only [List.map_cons, List.map_nil, strip]) | ((first | refine wIs fun K hK => ?_ | refine wOs fun K hK => ?_ | refine wQs fun K hK => ?_ | refine CallQ_plain ?_ | refine CallR_plain ?_ | refine wCond ?_); simp [lv, ouN, kpI, kpR, pos, ren, ren0, renB, renC, renCs]) | (refine wIn ?_; refine And.intro (by kernel_rfl) ?_; try simp only [thenA_n]) | (first | refine wBlock ?_ | refine wScope ?_) | ((first | refine wRet ?_ | refine wExit ?_ | refine wSkip ?_); try simp) | ((first | refine wLabel ?_ | refine wOn ?_ | refine wQn ?_); try simp only [thenA_n])
  have c3 := rnum b a2 hb
  obtain ⟨x3, ⟨q3, a3⟩, e3⟩ := foI_got b (0, a2)
  rw [e3] at c3
  simp only [vOf1, vOf2] at c3
  by_cases z3 : q3 = 0
  rotate_left
  · have hz : (fMb.rd b (0, a)).2 = (q3, a3) := by simp only [fMb, sq_rd, e0, e1, e2, e3]
    rw [hz, rO_err _ _ _ z3] at ho
    subst ho
    rw [rO_err _ _ _ z3] at c3
    refine CallK_gen [1024] c3 (by decide) (by decide) (by simp [blksOf, inN, pos, renB, ren0, ouN, lv, kpI, kpR]) (by simp [argsG, argG, ren0, inN, pos, renCs, renC]) ?_
    simp [GenK, lv, ouN, kpI, kpR, pos, ren, ren0, renB, renC, renCs]
    all_goals try simp only [thenA_p, blockA_p]
    all_goals apply hp
    all_goals simp [AResP, outB, renB, gaN, lv, ouN, kpI, kpR, pos, ren, ren0, renC, renCs]
  subst z3
  rw [rO_ok] at c3
  refine CallK_gen [1024] c3 (by decide) (by decide) (by simp [blksOf, inN, pos, renB, ren0, ouN, lv, kpI, kpR]) (by simp [argsG, argG, ren0, inN, pos, renCs, renC]) ⟨[], by simp, by simp, ?_⟩
  simp [lv, ouN, kpI, kpR, pos, ren, ren0, renB, renC, renCs]
  repeat' first | (refine hK _ ?_; clear hK) | (refine hK _ _ ?_; clear hK) | (clear hK; refine hK _ ?_; clear hK) | (clear hK; clear hK; refine hK _ ?_; clear hK) | (clear hK; clear hK; clear hK; refine hK _ ?_; clear hK) | (clear hK; clear hK; clear hK; clear hK; refine hK _ ?_; clear hK) | (refine wSeq fun K hK => ?_) | ((first | refine wReg ?_ | refine wDrwQ rfl (by kernel_rfl) ?_ | refine wDrwI ?_ | refine wDrw (by kernel_rfl) ?_); simp only [List.map_cons, List.map_nil, strip]) | ((first | refine wIs fun K hK => ?_ | refine wOs fun K hK => ?_ | refine wQs fun K hK => ?_ | refine CallQ_plain ?_ | refine CallR_plain ?_ | refine wCond ?_); simp [lv, ouN, kpI, kpR, pos, ren, ren0, renB, renC, renCs]) | (refine wIn ?_; refine And.intro (by kernel_rfl) ?_; try simp only [thenA_n]) | (first | refine wBlock ?_ | refine wScope ?_) | ((first | refine wRet ?_ | refine wExit ?_ | refine wSkip ?_); try simp) | ((first | refine wLabel ?_ | refine wOn ?_ | refine wQn ?_); try simp only [thenA_n])
  have hz : fMb.rd b (0, a) = ([I x0, I x1, I x2, I x3], 0, a3) := by simp only [fMb, sq_rd, e0, e1, e2, e3, List.cons_append, List.nil_append]
  rw [hz] at ho
  simp only [rO_ok, vOf2] at ho
  subst ho
  all_goals first | apply hr
  all_goals refine ⟨[], by simp, by simp, ?_⟩
  all_goals simp [Try.f98, outR, outB, renB, gaN, lv, ouN, kpI, kpR, pos, ren, ren0, renC, renCs]
/- Records read: configs, nodes, ops, votes. -/
set_option maxHeartbeats 8000000 in
theorem rlMb (b : List UInt8) (a : Int) (hb : b.length ≤ 1000000000) : Con Try.prog 97 [.ptr 1024 0, .p (.v (.func (.func 98) #[] #[]))] (rB b a) (rO b (vOf ((fl 4 fMb).rd b (0, a)).1) ((fl 4 fMb).rd b (0, a)).2) := by
  generalize ho : rO b (vOf ((fl 4 fMb).rd b (0, a)).1) ((fl 4 fMb).rd b (0, a)).2 = out
  have c0 := rnum b a hb
  obtain ⟨Y, hY⟩ : ∃ Y, Y = rdC b (0, a) := ⟨_, rfl⟩
  have hC := hY
  unfold rdC at hC
  change Con _ _ _ _ (rO b (.p (I (rdN b (0, a)).1)) (rdN b (0, a)).2) at c0
  obtain ⟨n, q, a1, hN⟩ : ∃ n q a1, rdN b (0, a) = (n, q, a1) := ⟨_, _, _, rfl⟩
  rw [hN] at c0 hC
  simp only at c0 hC
  have hL : (fl 4 fMb).rd b (0, a) = ([.sl 4 (rdL fMb.rd b (rdC b (0, a)).1.toNat (rdC b (0, a)).2).1], (rdL fMb.rd b (rdC b (0, a)).1.toNat (rdC b (0, a)).2).2) := rfl
  rw [hL, ← hY, hC] at ho
  clear hL hC hY
  refine wBodyG Try.tab Try.mixed Try.func97 rfl rfl Try.ntmps97 (by simp) (by simp) fun Q hr hn hp => ?_
  repeat' first | (refine hK _ ?_; clear hK) | (refine hK _ _ ?_; clear hK) | (clear hK; refine hK _ ?_; clear hK) | (clear hK; clear hK; refine hK _ ?_; clear hK) | (clear hK; clear hK; clear hK; refine hK _ ?_; clear hK) | (clear hK; clear hK; clear hK; clear hK; refine hK _ ?_; clear hK) | (refine wSeq fun K hK => ?_) | ((first | refine wReg ?_ | refine wDrwQ rfl (by kernel_rfl) ?_ | refine wDrwI ?_ | refine wDrw (by kernel_rfl) ?_); simp only [List.map_cons, List.map_nil, strip]) | ((first | refine wIs fun K hK => ?_ | refine wOs fun K hK => ?_ | refine wQs fun K hK => ?_ | refine CallQ_plain ?_ | refine CallR_plain ?_ | refine wCond ?_); simp) | (refine wIn ?_; refine And.intro (by kernel_rfl) ?_; try simp only [thenA_n]) | (first | refine wBlock ?_ | refine wScope ?_) | ((first | refine wRet ?_ | refine wExit ?_ | refine wSkip ?_); try simp) | ((first | refine wLabel ?_ | refine wOn ?_ | refine wQn ?_); try simp only [thenA_n])
  by_cases hq : q = 0
  rotate_left
  · rw [if_pos hq] at ho
    simp only [rdL_stk _ _ _ _ hq] at ho
    rw [rO_err _ _ _ hq] at ho c0
    subst ho
    refine CallK_gen [1024] c0 (by decide) (by decide) (by simp [blksOf, inN, pos, renB, ren0, ouN, lv, kpI, kpR]) (by simp [argsG, argG, ren0, inN, pos, renCs, renC]) ?_
    simp [GenK, lv, ouN, kpI, kpR, pos, ren, ren0, renB, renC, renCs]
    all_goals try simp only [thenA_p, blockA_p]
    all_goals apply hp
    all_goals simp [AResP, outB, renB, gaN, lv, ouN, kpI, kpR, pos, ren, ren0, renC, renCs]
  subst hq
  rw [if_neg (by simp)] at ho
  rw [rO_ok] at c0
  refine CallK_gen [1024] c0 (by decide) (by decide) (by simp [blksOf, inN, pos, renB, ren0, ouN, lv, kpI, kpR]) (by simp [argsG, argG, ren0, inN, pos, renCs, renC]) ⟨[], by simp, by simp, ?_⟩
  simp [lv, ouN, kpI, kpR, pos, ren, ren0, renB, renC, renCs]
  by_cases h1 : n < 0
  · have e3 := give_con 3 (by decide)
    rw [if_pos h1] at ho
    simp only [rdL_stk fMb.rd b _ (e := 3) a1 (by decide)] at ho
    rw [rO_err _ _ _ (by decide)] at ho
    subst ho
    repeat' first | (refine CallE.pan e3 ?_) | (refine hK _ ?_; clear hK) | (refine hK _ _ ?_; clear hK) | (clear hK; refine hK _ ?_; clear hK) | (clear hK; clear hK; refine hK _ ?_; clear hK) | (clear hK; clear hK; clear hK; refine hK _ ?_; clear hK) | (clear hK; clear hK; clear hK; clear hK; refine hK _ ?_; clear hK) | (refine wSeq fun K hK => ?_) | ((first | refine wReg ?_ | refine wDrwQ rfl (by kernel_rfl) ?_ | refine wDrwI ?_ | refine wDrw (by kernel_rfl) ?_); simp only [List.map_cons, List.map_nil, strip]) | ((first | refine wIs fun K hK => ?_ | refine wOs fun K hK => ?_ | refine wQs fun K hK => ?_ | refine CallK_plain ?_ | refine CallQ_plain ?_ | refine CallR_plain ?_ | refine wCond ?_); simp [h1, lv, ouN, kpI, kpR, pos, ren, ren0, renB, renC, renCs]) | (refine wIn ?_; refine And.intro (by kernel_rfl) ?_; try simp only [thenA_n]) | (first | refine wBlock ?_ | refine wScope ?_) | ((first | refine wRet ?_ | refine wExit ?_ | refine wSkip ?_); try simp) | ((first | refine wLabel ?_ | refine wOn ?_ | refine wQn ?_); try simp only [thenA_n])
    all_goals try simp only [thenA_p, blockA_p]
    all_goals apply hp
    all_goals simp [AResP, outB, renB, gaN, lv, ouN, kpI, kpR, pos, ren, ren0, renC, renCs]
  rw [if_neg h1] at ho
  by_cases h2 : 1000 < n
  · have e5 := give_con 5 (by decide)
    rw [if_pos h2] at ho
    simp only [rdL_stk fMb.rd b _ (e := 5) a1 (by decide)] at ho
    rw [rO_err _ _ _ (by decide)] at ho
    subst ho
    repeat' first | (refine CallE.pan e5 ?_) | (refine hK _ ?_; clear hK) | (refine hK _ _ ?_; clear hK) | (clear hK; refine hK _ ?_; clear hK) | (clear hK; clear hK; refine hK _ ?_; clear hK) | (clear hK; clear hK; clear hK; refine hK _ ?_; clear hK) | (clear hK; clear hK; clear hK; clear hK; refine hK _ ?_; clear hK) | (refine wSeq fun K hK => ?_) | ((first | refine wReg ?_ | refine wDrwQ rfl (by kernel_rfl) ?_ | refine wDrwI ?_ | refine wDrw (by kernel_rfl) ?_); simp only [List.map_cons, List.map_nil, strip]) | ((first | refine wIs fun K hK => ?_ | refine wOs fun K hK => ?_ | refine wQs fun K hK => ?_ | refine CallK_plain ?_ | refine CallQ_plain ?_ | refine CallR_plain ?_ | refine wCond ?_); simp [h1, h2, lv, ouN, kpI, kpR, pos, ren, ren0, renB, renC, renCs]) | (refine wIn ?_; refine And.intro (by kernel_rfl) ?_; try simp only [thenA_n]) | (first | refine wBlock ?_ | refine wScope ?_) | ((first | refine wRet ?_ | refine wExit ?_ | refine wSkip ?_); try simp) | ((first | refine wLabel ?_ | refine wOn ?_ | refine wQn ?_); try simp only [thenA_n])
    all_goals try simp only [thenA_p, blockA_p]
    all_goals apply hp
    all_goals simp [AResP, outB, renB, gaN, lv, ouN, kpI, kpR, pos, ren, ren0, renC, renCs]
  rw [if_neg h2] at ho
  simp only at ho
  obtain ⟨m, rfl⟩ : ∃ m : Nat, n = m := ⟨n.toNat, by omega⟩
  simp only [Int.toNat_natCast] at ho
  have hm : m ≤ 1000 := by omega
  repeat' first | (refine hK _ ?_; clear hK) | (refine hK _ _ ?_; clear hK) | (clear hK; refine hK _ ?_; clear hK) | (clear hK; clear hK; refine hK _ ?_; clear hK) | (clear hK; clear hK; clear hK; refine hK _ ?_; clear hK) | (clear hK; clear hK; clear hK; clear hK; refine hK _ ?_; clear hK) | (refine wSeq fun K hK => ?_) | ((first | refine wReg ?_ | refine wDrwQ rfl (by kernel_rfl) ?_ | refine wDrwI ?_ | refine wDrw (by kernel_rfl) ?_); simp only [List.map_cons, List.map_nil, strip]) | ((first | refine wIs fun K hK => ?_ | refine wOs fun K hK => ?_ | refine wQs fun K hK => ?_ | refine CallQ_plain ?_ | refine CallR_plain ?_ | refine wCond ?_); simp [h1, h2, lv, ouN, kpI, kpR, pos, ren, ren0, renB, renC, renCs]) | (refine wIn ?_; refine And.intro (by kernel_rfl) ?_; try simp only [thenA_n]) | (first | refine wBlock ?_ | refine wScope ?_) | ((first | refine wRet ?_ | refine wExit ?_ | refine wSkip ?_); try simp) | ((first | refine wLabel ?_ | refine wOn ?_ | refine wQn ?_); try simp only [thenA_n])
  generalize hF : rdL fMb.rd b m (0, a1) = full at ho
  refine wLoopG [.row 6 82 4] (fun N st => ∃ k a2 acc, k + N = m ∧ acc.length = k ∧ full = (acc ++ (rdL fMb.rd b N (0, a2)).1, (rdL fMb.rd b N (0, a2)).2) ∧ st.s 0 = .ptr 1024 0 ∧ st.s 1 = .p (.v (.func (.func 98) #[] #[])) ∧ st.s 6 = .row 6 ∧ st.s 17 = .p (I m) ∧ st.s 18 = .p (I k) ∧ st.b 1024 = some (.box 160 [.p (.sl 1 (by8 b)), .p (I a2)]) ∧ st.b 6 = some (.row 82 4 acc)) m ⟨0, a1, [], by simp [hF, lv, ouN, kpI, kpR, pos, ren, ren0, renB, renC, renCs]⟩ fun K N st hL ⟨k, a2, acc, hk, hac, hfu, g0, g1, g6, g17, g18, b0, b6⟩ => ?_
  by_cases hlt : k < m
  · have hlt' : (k : Int) < (m : Int) := by omega
    have hw := wrapS k m hlt (by omega)
    obtain ⟨M, rfl⟩ : ∃ M, N = M + 1 := ⟨N - 1, by omega⟩
    rw [rdL, if_pos rfl] at hfu
    have c := rMb b a2 hb
    obtain ⟨x0, x1, x2, x3, ⟨q, a3⟩, he⟩ := fMb_got b (0, a2)
    rw [he] at c hfu
    try simp only [vOf1, vOf2] at c
    simp only at hfu
    by_cases z : q = 0
    · subst z
      rw [rO_ok] at c
      repeat' first | (refine CallK_gen [1024] c (by decide) (by decide) (by simp [blksOf, inN, pos, renB, ren0, b0]) (by simp [argsG, argG, ren0, inN, pos, renCs, renC]) ⟨[], by simp, by simp, ?_⟩; simp [lv, ouN, kpI, kpR, pos, ren, ren0, renB, renC, renCs, b0]) | (refine And.intro (by omega) ?_) | (refine hK _ ?_; clear hK) | (refine hK _ _ ?_; clear hK) | (clear hK; refine hK _ ?_; clear hK) | (clear hK; clear hK; refine hK _ ?_; clear hK) | (clear hK; clear hK; clear hK; refine hK _ ?_; clear hK) | (clear hK; clear hK; clear hK; clear hK; refine hK _ ?_; clear hK) | (refine wSeq fun K hK => ?_) | ((first | refine wReg ?_ | refine wDrwQ rfl (by kernel_rfl) ?_ | refine wDrwI ?_ | refine wDrw (by kernel_rfl) ?_); simp only [List.map_cons, List.map_nil, strip]) | ((first | refine wIs fun K hK => ?_ | refine wOs fun K hK => ?_ | refine wQs fun K hK => ?_ | refine CallK_plain ?_ | refine CallQ_plain ?_ | refine CallR_plain ?_ | refine wCond ?_); simp [g0, g1, g6, g17, g18, b0, b6, hlt, hlt', hw, lv, ouN, kpI, kpR, pos, ren, ren0, renB, renC, renCs]) | (refine wIn ?_; refine And.intro (by kernel_rfl) ?_; try simp only [thenA_n]) | (first | refine wBlock ?_ | refine wScope ?_) | ((first | refine wRet ?_ | refine wExit ?_ | refine wSkip ?_); try simp) | ((first | refine wLabel ?_ | refine wOn ?_ | refine wQn ?_); try simp only [thenA_n])
      refine hL _ M (by omega) ⟨k + 1, a3, acc ++ [[I x0, I x1, I x2, I x3]], by omega, by simp [hac], by rw [hfu]; simp, ?_⟩
      simp [g0, g1, g6, g17, g18, b0, b6, hw, lv, ouN, kpI, kpR, pos, ren, ren0, renB, renC, renCs]
    · rw [rdL_stk _ _ _ _ z] at hfu
      simp only at hfu
      rw [hfu, rO_err _ _ _ z] at ho
      rw [rO_err _ _ _ z] at c
      subst ho
      repeat' first | (refine CallK_gen [1024] c (by decide) (by decide) (by simp [blksOf, inN, pos, renB, ren0, b0]) (by simp [argsG, argG, ren0, inN, pos, renCs, renC]) ?_; simp [GenK, lv, ouN, kpI, kpR, pos, ren, ren0, renB, renC, renCs, b0]) | (refine hK _ ?_; clear hK) | (refine hK _ _ ?_; clear hK) | (clear hK; refine hK _ ?_; clear hK) | (clear hK; clear hK; refine hK _ ?_; clear hK) | (clear hK; clear hK; clear hK; refine hK _ ?_; clear hK) | (clear hK; clear hK; clear hK; clear hK; refine hK _ ?_; clear hK) | (refine wSeq fun K hK => ?_) | ((first | refine wReg ?_ | refine wDrwQ rfl (by kernel_rfl) ?_ | refine wDrwI ?_ | refine wDrw (by kernel_rfl) ?_); simp only [List.map_cons, List.map_nil, strip]) | ((first | refine wIs fun K hK => ?_ | refine wOs fun K hK => ?_ | refine wQs fun K hK => ?_ | refine CallK_plain ?_ | refine CallQ_plain ?_ | refine CallR_plain ?_ | refine wCond ?_); simp [g0, g1, g6, g17, g18, b0, b6, hlt, hlt', hw, lv, ouN, kpI, kpR, pos, ren, ren0, renB, renC, renCs]) | (refine wIn ?_; refine And.intro (by kernel_rfl) ?_; try simp only [thenA_n]) | (first | refine wBlock ?_ | refine wScope ?_) | ((first | refine wRet ?_ | refine wExit ?_ | refine wSkip ?_); try simp) | ((first | refine wLabel ?_ | refine wOn ?_ | refine wQn ?_); try simp only [thenA_n])
      all_goals try simp only [thenA_p, blockA_p]
      all_goals apply hp
      all_goals simp [AResP, outB, renB, gaN, lv, ouN, kpI, kpR, pos, ren, ren0, renC, renCs, b0]
  · have hlt' : ¬ (k : Int) < (m : Int) := by omega
    obtain rfl : N = 0 := by omega
    simp only [rdL, List.append_nil] at hfu
    rw [hfu, rO_ok, vOf1] at ho
    subst ho
    have f6 : (Av.frz st 6 4 acc).s 6 = .p (.sl 4 acc) := by simp [Av.frz, sub, sub0, g6]
    have f18 : (Av.frz st 6 4 acc).s 18 = .p (I k) := by simp [Av.frz, sub, sub0, g18]
    have f17 : (Av.frz st 6 4 acc).s 17 = .p (I m) := by simp [Av.frz, sub, sub0, g17]
    have f0 : (Av.frz st 6 4 acc).b 1024 = some (.box 160 [.p (.sl 1 (by8 b)), .p (I a2)]) := by simp [Av.frz, sub, sub0, subB, b0]
    repeat' first | (refine wFrzR 6 acc b6 ?_; generalize Av.frz st 6 4 acc = st2 at f6 f0 f17 f18 ⊢) | (refine hK _ ?_; clear hK) | (refine hK _ _ ?_; clear hK) | (clear hK; refine hK _ ?_; clear hK) | (clear hK; clear hK; refine hK _ ?_; clear hK) | (clear hK; clear hK; clear hK; refine hK _ ?_; clear hK) | (clear hK; clear hK; clear hK; clear hK; refine hK _ ?_; clear hK) | (refine wSeq fun K hK => ?_) | ((first | refine wReg ?_ | refine wDrwQ rfl (by kernel_rfl) ?_ | refine wDrwI ?_ | refine wDrw (by kernel_rfl) ?_); simp only [List.map_cons, List.map_nil, strip]) | ((first | refine wIs fun K hK => ?_ | refine wOs fun K hK => ?_ | refine wQs fun K hK => ?_ | refine CallK_plain ?_ | refine CallQ_plain ?_ | refine CallR_plain ?_ | refine wCond ?_); simp [f6, f0, f17, f18, hlt, hlt']) | (refine wIn ?_; refine And.intro (by kernel_rfl) ?_; try simp only [thenA_n]) | (first | refine wBlock ?_ | refine wScope ?_) | ((first | refine wRet ?_ | refine wExit ?_ | refine wSkip ?_); try simp) | ((first | refine wLabel ?_ | refine wOn ?_ | refine wQn ?_); try simp only [thenA_n])
    all_goals first | apply hr
    all_goals refine ⟨[], by simp, by simp, ?_⟩
    all_goals simp [Try.f97, outR, outB, renB, gaN, f6, f0]
set_option maxHeartbeats 4000000 in
theorem rCf : RCn 61 fCf := by
  intro b a hb
  generalize ho : rO b (vOf (fCf.rd b (0, a)).1) (fCf.rd b (0, a)).2 = out
  have c0 := rZx b a hb
  refine wBodyG Try.tab Try.mixed Try.func61 rfl rfl Try.ntmps61 (by simp) (by simp) fun Q hr hn hp => ?_
  repeat' first | (refine hK _ ?_; clear hK) | (refine hK _ _ ?_; clear hK) | (clear hK; refine hK _ ?_; clear hK) | (clear hK; clear hK; refine hK _ ?_; clear hK) | (clear hK; clear hK; clear hK; refine hK _ ?_; clear hK) | (clear hK; clear hK; clear hK; clear hK; refine hK _ ?_; clear hK) | (refine wSeq fun K hK => ?_) | ((first | refine wReg ?_ | refine wDrwQ rfl (by kernel_rfl) ?_ | refine wDrwI ?_ | refine wDrw (by kernel_rfl) ?_); simp only [List.map_cons, List.map_nil, strip]) | ((first | refine wIs fun K hK => ?_ | refine wOs fun K hK => ?_ | refine wQs fun K hK => ?_ | refine CallQ_plain ?_ | refine CallR_plain ?_ | refine wCond ?_); simp) | (refine wIn ?_; refine And.intro (by kernel_rfl) ?_; try simp only [thenA_n]) | (first | refine wBlock ?_ | refine wScope ?_) | ((first | refine wRet ?_ | refine wExit ?_ | refine wSkip ?_); try simp) | ((first | refine wLabel ?_ | refine wOn ?_ | refine wQn ?_); try simp only [thenA_n])
  obtain ⟨x0, x1, ⟨q0, a0⟩, e0⟩ := fZx_got b (0, a)
  rw [e0] at c0
  simp only [vOf1, vOf2] at c0
  by_cases z0 : q0 = 0
  rotate_left
  · have hz : (fCf.rd b (0, a)).2 = (q0, a0) := by simp only [fCf, sq_rd, e0, foI_L.stk b q0 a0 z0, (fl_L fMb_L 4).stk b q0 a0 z0]
    rw [hz, rO_err _ _ _ z0] at ho
    subst ho
    rw [rO_err _ _ _ z0] at c0
    refine CallK_gen [1024] c0 (by decide) (by decide) (by simp [blksOf, inN, pos, renB, ren0, ouN, lv, kpI, kpR]) (by simp [argsG, argG, ren0, inN, pos, renCs, renC]) ?_
    simp [GenK, lv, ouN, kpI, kpR, pos, ren, ren0, renB, renC, renCs]
    all_goals try simp only [thenA_p, blockA_p]
    all_goals apply hp
    all_goals simp [AResP, outB, renB, gaN, lv, ouN, kpI, kpR, pos, ren, ren0, renC, renCs]
  subst z0
  rw [rO_ok] at c0
  refine CallK_gen [1024] c0 (by decide) (by decide) (by simp [blksOf, inN, pos, renB, ren0, ouN, lv, kpI, kpR]) (by simp [argsG, argG, ren0, inN, pos, renCs, renC]) ⟨[], by simp, by simp, ?_⟩
  simp [lv, ouN, kpI, kpR, pos, ren, ren0, renB, renC, renCs]
  repeat' first | (refine hK _ ?_; clear hK) | (refine hK _ _ ?_; clear hK) | (clear hK; refine hK _ ?_; clear hK) | (clear hK; clear hK; refine hK _ ?_; clear hK) | (clear hK; clear hK; clear hK; refine hK _ ?_; clear hK) | (clear hK; clear hK; clear hK; clear hK; refine hK _ ?_; clear hK) | (refine wSeq fun K hK => ?_) | ((first | refine wReg ?_ | refine wDrwQ rfl (by kernel_rfl) ?_ | refine wDrwI ?_ | refine wDrw (by kernel_rfl) ?_); simp only [List.map_cons, List.map_nil, strip]) | ((first | refine wIs fun K hK => ?_ | refine wOs fun K hK => ?_ | refine wQs fun K hK => ?_ | refine CallQ_plain ?_ | refine CallR_plain ?_ | refine wCond ?_); simp [lv, ouN, kpI, kpR, pos, ren, ren0, renB, renC, renCs]) | (refine wIn ?_; refine And.intro (by kernel_rfl) ?_; try simp only [thenA_n]) | (first | refine wBlock ?_ | refine wScope ?_) | ((first | refine wRet ?_ | refine wExit ?_ | refine wSkip ?_); try simp) | ((first | refine wLabel ?_ | refine wOn ?_ | refine wQn ?_); try simp only [thenA_n])
  have c1 := rnum b a0 hb
  obtain ⟨x2, ⟨q1, a1⟩, e1⟩ := foI_got b (0, a0)
  rw [e1] at c1
  simp only [vOf1, vOf2] at c1
  by_cases z1 : q1 = 0
  rotate_left
  · have hz : (fCf.rd b (0, a)).2 = (q1, a1) := by simp only [fCf, sq_rd, e0, e1, (fl_L fMb_L 4).stk b q1 a1 z1]
    rw [hz, rO_err _ _ _ z1] at ho
    subst ho
    rw [rO_err _ _ _ z1] at c1
    refine CallK_gen [1024] c1 (by decide) (by decide) (by simp [blksOf, inN, pos, renB, ren0, ouN, lv, kpI, kpR]) (by simp [argsG, argG, ren0, inN, pos, renCs, renC]) ?_
    simp [GenK, lv, ouN, kpI, kpR, pos, ren, ren0, renB, renC, renCs]
    all_goals try simp only [thenA_p, blockA_p]
    all_goals apply hp
    all_goals simp [AResP, outB, renB, gaN, lv, ouN, kpI, kpR, pos, ren, ren0, renC, renCs]
  subst z1
  rw [rO_ok] at c1
  refine CallK_gen [1024] c1 (by decide) (by decide) (by simp [blksOf, inN, pos, renB, ren0, ouN, lv, kpI, kpR]) (by simp [argsG, argG, ren0, inN, pos, renCs, renC]) ⟨[], by simp, by simp, ?_⟩
  simp [lv, ouN, kpI, kpR, pos, ren, ren0, renB, renC, renCs]
  repeat' first | (refine hK _ ?_; clear hK) | (refine hK _ _ ?_; clear hK) | (clear hK; refine hK _ ?_; clear hK) | (clear hK; clear hK; refine hK _ ?_; clear hK) | (clear hK; clear hK; clear hK; refine hK _ ?_; clear hK) | (clear hK; clear hK; clear hK; clear hK; refine hK _ ?_; clear hK) | (refine wSeq fun K hK => ?_) | ((first | refine wReg ?_ | refine wDrwQ rfl (by kernel_rfl) ?_ | refine wDrwI ?_ | refine wDrw (by kernel_rfl) ?_); simp only [List.map_cons, List.map_nil, strip]) | ((first | refine wIs fun K hK => ?_ | refine wOs fun K hK => ?_ | refine wQs fun K hK => ?_ | refine CallQ_plain ?_ | refine CallR_plain ?_ | refine wCond ?_); simp [lv, ouN, kpI, kpR, pos, ren, ren0, renB, renC, renCs]) | (refine wIn ?_; refine And.intro (by kernel_rfl) ?_; try simp only [thenA_n]) | (first | refine wBlock ?_ | refine wScope ?_) | ((first | refine wRet ?_ | refine wExit ?_ | refine wSkip ?_); try simp) | ((first | refine wLabel ?_ | refine wOn ?_ | refine wQn ?_); try simp only [thenA_n])
  have c2 := rlMb b a1 hb
  obtain ⟨x3, ⟨q2, a2⟩, e2⟩ := fl_got 4 fMb b (0, a1)
  rw [e2] at c2
  simp only [vOf1, vOf2] at c2
  by_cases z2 : q2 = 0
  rotate_left
  · have hz : (fCf.rd b (0, a)).2 = (q2, a2) := by simp only [fCf, sq_rd, e0, e1, e2]
    rw [hz, rO_err _ _ _ z2] at ho
    subst ho
    rw [rO_err _ _ _ z2] at c2
    refine CallK_gen [1024] c2 (by decide) (by decide) (by simp [blksOf, inN, pos, renB, ren0, ouN, lv, kpI, kpR]) (by simp [argsG, argG, ren0, inN, pos, renCs, renC]) ?_
    simp [GenK, lv, ouN, kpI, kpR, pos, ren, ren0, renB, renC, renCs]
    all_goals try simp only [thenA_p, blockA_p]
    all_goals apply hp
    all_goals simp [AResP, outB, renB, gaN, lv, ouN, kpI, kpR, pos, ren, ren0, renC, renCs]
  subst z2
  rw [rO_ok] at c2
  refine CallK_gen [1024] c2 (by decide) (by decide) (by simp [blksOf, inN, pos, renB, ren0, ouN, lv, kpI, kpR]) (by simp [argsG, argG, ren0, inN, pos, renCs, renC]) ⟨[], by simp, by simp, ?_⟩
  simp [lv, ouN, kpI, kpR, pos, ren, ren0, renB, renC, renCs]
  repeat' first | (refine hK _ ?_; clear hK) | (refine hK _ _ ?_; clear hK) | (clear hK; refine hK _ ?_; clear hK) | (clear hK; clear hK; refine hK _ ?_; clear hK) | (clear hK; clear hK; clear hK; refine hK _ ?_; clear hK) | (clear hK; clear hK; clear hK; clear hK; refine hK _ ?_; clear hK) | (refine wSeq fun K hK => ?_) | ((first | refine wReg ?_ | refine wDrwQ rfl (by kernel_rfl) ?_ | refine wDrwI ?_ | refine wDrw (by kernel_rfl) ?_); simp only [List.map_cons, List.map_nil, strip]) | ((first | refine wIs fun K hK => ?_ | refine wOs fun K hK => ?_ | refine wQs fun K hK => ?_ | refine CallQ_plain ?_ | refine CallR_plain ?_ | refine wCond ?_); simp [lv, ouN, kpI, kpR, pos, ren, ren0, renB, renC, renCs]) | (refine wIn ?_; refine And.intro (by kernel_rfl) ?_; try simp only [thenA_n]) | (first | refine wBlock ?_ | refine wScope ?_) | ((first | refine wRet ?_ | refine wExit ?_ | refine wSkip ?_); try simp) | ((first | refine wLabel ?_ | refine wOn ?_ | refine wQn ?_); try simp only [thenA_n])
  have hz : fCf.rd b (0, a) = ([I x0, I x1, I x2, .sl 4 x3], 0, a2) := by simp only [fCf, sq_rd, e0, e1, e2, List.cons_append, List.nil_append]
  rw [hz] at ho
  simp only [rO_ok, vOf2] at ho
  subst ho
  all_goals first | apply hr
  all_goals refine ⟨[], by simp, by simp, ?_⟩
  all_goals simp [Try.f61, outR, outB, renB, gaN, lv, ouN, kpI, kpR, pos, ren, ren0, renC, renCs]
/- Records read: what reading tells; configs. -/
/-- What reading tells: the thing and the place behind it, or an error. -/
def rT (f : Fo) (b : List UInt8) (a : Int) : V := if (f.rd b (0, a)).2.1 = 0 then .tup [vOf (f.rd b (0, a)).1, .p (I (f.rd b (0, a)).2.2), .p (I 0)] else .tup [vOf f.ze, .p (I 0), .p (I (f.rd b (0, a)).2.1)]
abbrev rbCf (b : List UInt8) (x : List V) (q : Int) : List Blk := [.box 114 [.p (.v (.func (.func 61) #[] #[]))], .box 116 [.ptr 1027 0], .box 33 x, .box 160 [.p (.sl 1 (by8 b)), .p (I q)]]
theorem fCf_ze : fCf.ze = [I 0, I 0, I 0, .sl 4 []] := rfl
set_option maxHeartbeats 4000000 in
theorem rcOkCf (b : List UInt8) (a q : Int) (x0 : Int) (x1 : Int) (x2 : Int) (x3 : List (List PV))
    (hc : Con Try.prog 61 [.ptr 1024 0] (rB b a) (.ret (.p (.agg [I x0, I x1, I x2, .sl 4 x3])) [] (rB b q))) :
    Con Try.prog 94 [.ptr 1024 0, .ptr 1025 0, .ptr 1026 0] (rbCf b [.p (I 0), .p (I 0), .p (I 0), .nil 4] a) (.ret (.tup []) [] (rbCf b [.p (I x0), .p (I x1), .p (I x2), .p (.sl 4 x3)] q)) := by
  refine wBodyG Try.tab Try.mixed Try.func94 rfl rfl Try.ntmps94 (by simp) (by simp) fun Q hr hn hp => ?_
  repeat' first | (refine CallK_gen [1027] (hc) (by decide) (by decide) (by simp [blksOf, inN, pos, renB, renC, renCs, ren0, lv, ouN, kpI, kpR]) (by simp [argsG, argG, ren0, inN, pos, renCs, renC]) ⟨[], by simp, by simp, ?_⟩; simp [lv, ouN, kpI, kpR, pos, ren, ren0, renB, renC, renCs, renF, renFs]) | (refine hK _ ?_; clear hK) | (refine hK _ _ ?_; clear hK) | (clear hK; refine hK _ ?_; clear hK) | (clear hK; clear hK; refine hK _ ?_; clear hK) | (clear hK; clear hK; clear hK; refine hK _ ?_; clear hK) | (clear hK; clear hK; clear hK; clear hK; refine hK _ ?_; clear hK) | (refine wSeq fun K hK => ?_) | ((first | refine wReg ?_ | refine wDrwQ rfl (by kernel_rfl) ?_ | refine wDrwI ?_ | refine wDrw (by kernel_rfl) ?_); simp only [List.map_cons, List.map_nil, strip]) | ((first | refine wIs fun K hK => ?_ | refine wOs fun K hK => ?_ | refine wQs fun K hK => ?_ | refine CallK_plain ?_ | refine CallQ_plain ?_ | refine CallR_plain ?_ | refine wCond ?_); simp [lv, ouN, kpI, kpR, pos, ren, ren0, renB, renC, renCs]) | (refine wIn ?_; refine And.intro (by kernel_rfl) ?_; try simp only [thenA_n]) | (first | refine wBlock ?_ | refine wScope ?_) | ((first | refine wRet ?_ | refine wExit ?_ | refine wSkip ?_); try simp) | ((first | refine wLabel ?_ | refine wOn ?_ | refine wQn ?_); try simp only [thenA_n])
  all_goals first | apply hr | apply hn
  all_goals refine ⟨[], by simp, by simp, ?_⟩
  all_goals simp [Try.f94, outR, outB, renB, gaN, lv, ouN, kpI, kpR, pos, ren, ren0, renC, renCs]
set_option maxHeartbeats 4000000 in
theorem rcPanCf (b : List UInt8) (a q e : Int)
    (hc : Con Try.prog 61 [.ptr 1024 0] (rB b a) (.pan (.iface 192 (.int .i64 e)) (rB b q))) :
    Con Try.prog 94 [.ptr 1024 0, .ptr 1025 0, .ptr 1026 0] (rbCf b [.p (I 0), .p (I 0), .p (I 0), .nil 4] a) (.pan (.iface 192 (.int .i64 e)) (rbCf b [.p (I 0), .p (I 0), .p (I 0), .nil 4] q)) := by
  refine wBodyG Try.tab Try.mixed Try.func94 rfl rfl Try.ntmps94 (by simp) (by simp) fun Q hr hn hp => ?_
  repeat' first | (refine CallK_gen [1027] hc (by decide) (by decide) (by simp [blksOf, inN, pos, renB, ren0]) (by simp [argsG, argG, ren0, inN, pos, renCs, renC]) ?_; simp [GenK, lv, ouN, kpI, kpR, pos, ren, ren0, renB, renC, renCs]) | (refine hK _ ?_; clear hK) | (refine hK _ _ ?_; clear hK) | (clear hK; refine hK _ ?_; clear hK) | (clear hK; clear hK; refine hK _ ?_; clear hK) | (clear hK; clear hK; clear hK; refine hK _ ?_; clear hK) | (clear hK; clear hK; clear hK; clear hK; refine hK _ ?_; clear hK) | (refine wSeq fun K hK => ?_) | ((first | refine wReg ?_ | refine wDrwQ rfl (by kernel_rfl) ?_ | refine wDrwI ?_ | refine wDrw (by kernel_rfl) ?_); simp only [List.map_cons, List.map_nil, strip]) | ((first | refine wIs fun K hK => ?_ | refine wOs fun K hK => ?_ | refine wQs fun K hK => ?_ | refine CallK_plain ?_ | refine CallQ_plain ?_ | refine CallR_plain ?_ | refine wCond ?_); simp [lv, ouN, kpI, kpR, pos, ren, ren0, renB, renC, renCs]) | (refine wIn ?_; refine And.intro (by kernel_rfl) ?_; try simp only [thenA_n]) | (first | refine wBlock ?_ | refine wScope ?_) | ((first | refine wRet ?_ | refine wExit ?_ | refine wSkip ?_); try simp) | ((first | refine wLabel ?_ | refine wOn ?_ | refine wQn ?_); try simp only [thenA_n])
  all_goals try simp only [thenA_p, blockA_p]
  all_goals apply hp
  all_goals simp [AResP, outB, renB, gaN, lv, ouN, kpI, kpR, pos, ren, ren0, renC, renCs]
set_option maxHeartbeats 4000000 in
theorem read0Cf (b : List UInt8) (a q : Int) (x0 : Int) (x1 : Int) (x2 : Int) (x3 : List (List PV))
    (hc : Con Try.prog 61 [.ptr 1024 0] (rB b a) (.ret (.p (.agg [I x0, I x1, I x2, .sl 4 x3])) [] (rB b q))) :
    ACon Try.prog 60 [.p (.sl 1 (by8 b)), .p (I a), .p (.v (.func (.func 61) #[] #[]))] (.tup [.p (.agg [I x0, I x1, I x2, .sl 4 x3]), .p (I q), .p (I 0)]) := by
  have he0 : ByteArray.empty = bs [] := rfl
  have ct := try_con (caps := [.box 1024, .box 1025, .box 1026]) (rcOkCf b a q x0 x1 x2 x3 hc) rfl
  refine wBody Try.tab Try.mixed Try.func60 rfl rfl Try.ntmps60 (by simp) (by simp) fun Q hr hn => ?_
  repeat' first | (refine CallK_gen [5, 11, 9, 16] ct (by decide) (by decide) (by simp [blksOf, inN, pos, renB, ren0, he0]) (by simp [argsG, argG, ren0, inN, pos, renCs, renC]) ⟨[], by simp, by simp, ?_⟩; simp [lv, ouN, kpI, kpR, pos, ren, ren0, renB, renC, renCs]) | (refine hK _ ?_; clear hK) | (refine hK _ _ ?_; clear hK) | (clear hK; refine hK _ ?_; clear hK) | (clear hK; clear hK; refine hK _ ?_; clear hK) | (clear hK; clear hK; clear hK; refine hK _ ?_; clear hK) | (clear hK; clear hK; clear hK; clear hK; refine hK _ ?_; clear hK) | (refine wSeq fun K hK => ?_) | ((first | refine wReg ?_ | refine wDrwQ rfl (by kernel_rfl) ?_ | refine wDrwI ?_ | refine wDrw (by kernel_rfl) ?_); simp only [List.map_cons, List.map_nil, strip]) | ((first | refine wIs fun K hK => ?_ | refine wOs fun K hK => ?_ | refine wQs fun K hK => ?_ | refine CallK_plain ?_ | refine CallQ_plain ?_ | refine CallR_plain ?_ | refine wCond ?_); simp [lv, ouN, kpI, kpR, pos, ren, ren0, renB, renC, renCs]) | (refine wIn ?_; refine And.intro (by kernel_rfl) ?_; try simp only [thenA_n]) | (first | refine wBlock ?_ | refine wScope ?_) | ((first | refine wRet ?_ | refine wExit ?_ | refine wSkip ?_); try simp) | ((first | refine wLabel ?_ | refine wOn ?_ | refine wQn ?_); try simp only [thenA_n])
  all_goals apply hr
  all_goals simp [Try.f60]
set_option maxHeartbeats 4000000 in
theorem readECf (b : List UInt8) (a q e : Int) (h0 : ¬ e = 0)
    (hc : Con Try.prog 61 [.ptr 1024 0] (rB b a) (.pan (.iface 192 (.int .i64 e)) (rB b q))) :
    ACon Try.prog 60 [.p (.sl 1 (by8 b)), .p (I a), .p (.v (.func (.func 61) #[] #[]))] (.tup [.p (.agg [I 0, I 0, I 0, .sl 4 []]), .p (I 0), .p (I e)]) := by
  have he0 : ByteArray.empty = bs [] := rfl
  have ct := try_con (n := e) (caps := [.box 1024, .box 1025, .box 1026]) (rcPanCf b a q e hc) rfl
  refine wBody Try.tab Try.mixed Try.func60 rfl rfl Try.ntmps60 (by simp) (by simp) fun Q hr hn => ?_
  repeat' first | (refine CallK_gen [5, 11, 9, 16] ct (by decide) (by decide) (by simp [blksOf, inN, pos, renB, ren0, he0]) (by simp [argsG, argG, ren0, inN, pos, renCs, renC]) ⟨[], by simp, by simp, ?_⟩; simp [lv, ouN, kpI, kpR, pos, ren, ren0, renB, renC, renCs]) | (refine hK _ ?_; clear hK) | (refine hK _ _ ?_; clear hK) | (clear hK; refine hK _ ?_; clear hK) | (clear hK; clear hK; refine hK _ ?_; clear hK) | (clear hK; clear hK; clear hK; refine hK _ ?_; clear hK) | (clear hK; clear hK; clear hK; clear hK; refine hK _ ?_; clear hK) | (refine wSeq fun K hK => ?_) | ((first | refine wReg ?_ | refine wDrwQ rfl (by kernel_rfl) ?_ | refine wDrwI ?_ | refine wDrw (by kernel_rfl) ?_); simp only [List.map_cons, List.map_nil, strip]) | ((first | refine wIs fun K hK => ?_ | refine wOs fun K hK => ?_ | refine wQs fun K hK => ?_ | refine CallK_plain ?_ | refine CallQ_plain ?_ | refine CallR_plain ?_ | refine wCond ?_); simp [h0, lv, ouN, kpI, kpR, pos, ren, ren0, renB, renC, renCs]) | (refine wIn ?_; refine And.intro (by kernel_rfl) ?_; try simp only [thenA_n]) | (first | refine wBlock ?_ | refine wScope ?_) | ((first | refine wRet ?_ | refine wExit ?_ | refine wSkip ?_); try simp) | ((first | refine wLabel ?_ | refine wOn ?_ | refine wQn ?_); try simp only [thenA_n])
  all_goals apply hr
  all_goals simp [Try.f60, he0]
set_option maxHeartbeats 4000000 in
theorem readCf (b : List UInt8) (a : Int) (hb : b.length ≤ 1000000000) : ACon Try.prog 25 [.p (.sl 1 (by8 b)), .p (I a)] (rT fCf b a) := by
  have c := rCf b a hb
  obtain ⟨x0, x1, x2, x3, ⟨q, k⟩, he⟩ := fCf_got b (0, a)
  unfold rT
  rw [he] at c ⊢
  simp only [vOf2] at c ⊢
  have he0 : ByteArray.empty = bs [] := rfl
  by_cases h : q = 0
  · subst h
    rw [rO_ok] at c
    rw [if_pos rfl]
    have c2 := read0Cf b a k x0 x1 x2 x3 c
    clear c he
    refine wBody Try.tab Try.mixed Try.func25 rfl rfl Try.ntmps25 (by simp) (by simp) fun Q hr hn => ?_
    repeat' first | (refine hK _ ?_; clear hK) | (refine hK _ _ ?_; clear hK) | (clear hK; refine hK _ ?_; clear hK) | (clear hK; clear hK; refine hK _ ?_; clear hK) | (clear hK; clear hK; clear hK; refine hK _ ?_; clear hK) | (clear hK; clear hK; clear hK; clear hK; refine hK _ ?_; clear hK) | (refine wSeq fun K hK => ?_) | ((first | refine wReg ?_ | refine wDrwQ rfl (by kernel_rfl) ?_ | refine wDrwI ?_ | refine wDrw (by kernel_rfl) ?_); simp only [List.map_cons, List.map_nil, strip]) | ((first | refine wIs fun K hK => ?_ | refine wOs fun K hK => ?_ | refine wQs fun K hK => ?_ | refine CallK_plain ?_ | refine CallQ_plain ?_ | refine CallR_plain ?_ | refine wCond ?_); simp) | (refine wIn ?_; refine And.intro (by kernel_rfl) ?_; try simp only [thenA_n]) | (first | refine wBlock ?_ | refine wScope ?_) | ((first | refine wRet ?_ | refine wExit ?_ | refine wSkip ?_); try simp) | ((first | refine wLabel ?_ | refine wOn ?_ | refine wQn ?_); try simp only [thenA_n]) | (refine CallE.pure (c2) rfl ?_) | (refine CallE.lent (c2) rfl ?_) | (refine CallF.pure (c2) rfl ?_) | (refine CallF.lent (c2) rfl ?_) | (refine CallE.own (c2) ?_) | (refine CallH.pure (c2) rfl ?_) | (refine CallH.lent (c2) rfl ?_) | (refine CallH.own (c2) ?_)
    all_goals apply hr
    all_goals simp [Try.f25]
  · rw [rO_err _ _ _ h] at c
    rw [if_neg h, fCf_ze]
    have c2 := readECf b a k q h c
    clear c he
    simp only [vOf2]
    refine wBody Try.tab Try.mixed Try.func25 rfl rfl Try.ntmps25 (by simp) (by simp) fun Q hr hn => ?_
    repeat' first | (refine hK _ ?_; clear hK) | (refine hK _ _ ?_; clear hK) | (clear hK; refine hK _ ?_; clear hK) | (clear hK; clear hK; refine hK _ ?_; clear hK) | (clear hK; clear hK; clear hK; refine hK _ ?_; clear hK) | (clear hK; clear hK; clear hK; clear hK; refine hK _ ?_; clear hK) | (refine wSeq fun K hK => ?_) | ((first | refine wReg ?_ | refine wDrwQ rfl (by kernel_rfl) ?_ | refine wDrwI ?_ | refine wDrw (by kernel_rfl) ?_); simp only [List.map_cons, List.map_nil, strip]) | ((first | refine wIs fun K hK => ?_ | refine wOs fun K hK => ?_ | refine wQs fun K hK => ?_ | refine CallK_plain ?_ | refine CallQ_plain ?_ | refine CallR_plain ?_ | refine wCond ?_); simp) | (refine wIn ?_; refine And.intro (by kernel_rfl) ?_; try simp only [thenA_n]) | (first | refine wBlock ?_ | refine wScope ?_) | ((first | refine wRet ?_ | refine wExit ?_ | refine wSkip ?_); try simp) | ((first | refine wLabel ?_ | refine wOn ?_ | refine wQn ?_); try simp only [thenA_n]) | (refine CallE.pure (c2) rfl ?_) | (refine CallE.lent (c2) rfl ?_) | (refine CallF.pure (c2) rfl ?_) | (refine CallF.lent (c2) rfl ?_) | (refine CallE.own (c2) ?_) | (refine CallH.pure (c2) rfl ?_) | (refine CallH.lent (c2) rfl ?_) | (refine CallH.own (c2) ?_)
    all_goals apply hr
    all_goals simp [Try.f25]
/- Records: what is the same as itself. -/
set_option maxHeartbeats 1000000 in
theorem selfCf (cs : List PV) (hk : fCf.ok cs) : ACon Try.prog 27 [vOf cs, vOf cs] (.p (B true)) := by
  obtain ⟨e, n, kd, rows, rfl, -, -, k2⟩ := fCf_sh hk
  obtain ⟨hl, ho⟩ := fl_ok k2
  simp only [vOf2]
  refine wBody Try.tab Try.mixed Try.func27 rfl rfl Try.ntmps27 (by simp) (by simp) fun Q hr hn => ?_
  repeat' first | (refine hK _ ?_; clear hK) | (refine hK _ _ ?_; clear hK) | (clear hK; refine hK _ ?_; clear hK) | (clear hK; clear hK; refine hK _ ?_; clear hK) | (clear hK; clear hK; clear hK; refine hK _ ?_; clear hK) | (clear hK; clear hK; clear hK; clear hK; refine hK _ ?_; clear hK) | (refine wSeq fun K hK => ?_) | ((first | refine wReg ?_ | refine wDrwQ rfl (by kernel_rfl) ?_ | refine wDrwI ?_ | refine wDrw (by kernel_rfl) ?_); simp only [List.map_cons, List.map_nil, strip]) | ((first | refine wIs fun K hK => ?_ | refine wOs fun K hK => ?_ | refine wQs fun K hK => ?_ | refine CallK_plain ?_ | refine CallQ_plain ?_ | refine CallR_plain ?_ | refine wCond ?_); simp) | (refine wIn ?_; refine And.intro (by kernel_rfl) ?_; try simp only [thenA_n]) | (first | refine wBlock ?_ | refine wScope ?_) | ((first | refine wRet ?_ | refine wExit ?_ | refine wSkip ?_); try simp) | ((first | refine wLabel ?_ | refine wOn ?_ | refine wQn ?_); try simp only [thenA_n])
  refine wLoop (fun N st => ∃ k, k + N = rows.length ∧ st.s 2 = .ptr 2 0 ∧ st.s 3 = .ptr 3 0 ∧ st.b 2 = some (.box 33 [.p (I e), .p (I n), .p (I kd), .p (.sl 4 rows)]) ∧ st.b 3 = some (.box 33 [.p (I e), .p (I n), .p (I kd), .p (.sl 4 rows)]) ∧ st.s 29 = .p (I rows.length) ∧ st.s 30 = .p (I k)) rows.length ⟨0, by simp⟩ fun K N st hL ⟨k, hk, g2, g3, b2, b3, g12, g13⟩ => ?_
  by_cases hlt : k < rows.length
  · have hlt' : (k : Int) < rows.length := by omega
    have hw := wrapS k _ hlt (by omega)
    have he : rows[k]? = some rows[k] := List.getElem?_eq_getElem hlt
    have hok := ho _ (List.getElem_mem hlt)
    generalize hQ : rows[k] = r at *
    obtain ⟨x0, x1, x2, x3, rfl, -⟩ := fMb_sh hok
    repeat' first | (refine hK _ ?_; clear hK) | (refine hK _ _ ?_; clear hK) | (clear hK; refine hK _ ?_; clear hK) | (clear hK; clear hK; refine hK _ ?_; clear hK) | (clear hK; clear hK; clear hK; refine hK _ ?_; clear hK) | (clear hK; clear hK; clear hK; clear hK; refine hK _ ?_; clear hK) | (refine wSeq fun K hK => ?_) | ((first | refine wReg ?_ | refine wDrwQ rfl (by kernel_rfl) ?_ | refine wDrwI ?_ | refine wDrw (by kernel_rfl) ?_); simp only [List.map_cons, List.map_nil, strip]) | ((first | refine wIs fun K hK => ?_ | refine wOs fun K hK => ?_ | refine wQs fun K hK => ?_ | refine CallK_plain ?_ | refine CallQ_plain ?_ | refine CallR_plain ?_ | refine wCond ?_); simp [g2, g3, b2, b3, g12, g13, hlt, hlt', hw, he, hQ]) | (refine wIn ?_; refine And.intro (by kernel_rfl) ?_; try simp only [thenA_n]) | (first | refine wBlock ?_ | refine wScope ?_) | ((first | refine wRet ?_ | refine wExit ?_ | refine wSkip ?_); try simp) | ((first | refine wLabel ?_ | refine wOn ?_ | refine wQn ?_); try simp only [thenA_n])
    refine hL _ (N - 1) (by omega) ⟨k + 1, by omega, ?_⟩
    simp [g2, g3, b2, b3, g12, g13, hw]
  · have hlt' : ¬ (k : Int) < rows.length := by omega
    repeat' first | (refine hK _ ?_; clear hK) | (refine hK _ _ ?_; clear hK) | (clear hK; refine hK _ ?_; clear hK) | (clear hK; clear hK; refine hK _ ?_; clear hK) | (clear hK; clear hK; clear hK; refine hK _ ?_; clear hK) | (clear hK; clear hK; clear hK; clear hK; refine hK _ ?_; clear hK) | (refine wSeq fun K hK => ?_) | ((first | refine wReg ?_ | refine wDrwQ rfl (by kernel_rfl) ?_ | refine wDrwI ?_ | refine wDrw (by kernel_rfl) ?_); simp only [List.map_cons, List.map_nil, strip]) | ((first | refine wIs fun K hK => ?_ | refine wOs fun K hK => ?_ | refine wQs fun K hK => ?_ | refine CallK_plain ?_ | refine CallQ_plain ?_ | refine CallR_plain ?_ | refine wCond ?_); simp [g2, g3, b2, b3, g12, g13, hlt, hlt']) | (refine wIn ?_; refine And.intro (by kernel_rfl) ?_; try simp only [thenA_n]) | (first | refine wBlock ?_ | refine wScope ?_) | ((first | refine wRet ?_ | refine wExit ?_ | refine wSkip ?_); try simp) | ((first | refine wLabel ?_ | refine wOn ?_ | refine wQn ?_); try simp only [thenA_n])
    all_goals apply hr
    all_goals simp [Try.f27]
/- Records: what the laws wake. -/
theorem awk_en : fCf.en [I 0, I 0, I 1, .sl 4 [[I 0, I 1, I 1, I 0]]] = [0, 0, 2, 2, 0, 2, 2, 0] := by
  have e0 : enc (zz 0) = [0] := by rw [enc_small (by decide)]; rfl
  have e1 : enc (zz 1) = [2] := by rw [enc_small (by decide)]; rfl
  have hm : fMb.en [I 0, I 1, I 1, I 0] = [0, 2, 2, 0] := by rw [fMb_en]; simp only [foI_en, e0, e1]; rfl
  rw [fCf_en, fZx_en, fl_en]
  simp only [foI_en, List.flatMap_cons, List.flatMap_nil, hm, e0, e1, List.length_cons, List.length_nil]
  have e2 : enc (zz ((0 + 1 : Nat) : Int)) = [2] := e1
  rw [e2]; rfl
theorem awk_rd : fCf.rd [0, 0, 2, 2, 0, 2, 2, 0] (0, 0) = ([I 0, I 0, I 1, .sl 4 [[I 0, I 1, I 1, I 0]]], 0, 8) := by kernel_rfl
theorem awk_ok : fCf.ok [I 0, I 0, I 1, .sl 4 [[I 0, I 1, I 1, I 0]]] := by
  have := fCf_L.rok [0, 0, 2, 2, 0, 2, 2, 0] (0, 0)
  rw [awk_rd] at this
  exact this
set_option maxHeartbeats 1000000 in
theorem awake12 : ACon Try.prog 11 [] (.p (B true)) := by
  have c1 := putCf [] _ awk_ok (by rw [awk_en]; decide)
  rw [List.nil_append, awk_en] at c1
  have c2 := readCf [0, 0, 2, 2, 0, 2, 2, 0] 0 (by decide)
  unfold rT at c2
  rw [awk_rd, if_pos rfl] at c2
  have c3 := selfCf _ awk_ok
  simp only [vOf2] at c1 c2 c3
  simp only [show by8 [] = [] from rfl] at c1
  have u1 := unL_by8 [0, 0, 2, 2, 0, 2, 2, 0]
  have u2 := strOf_by8 [0, 0, 2, 2, 0, 2, 2, 0]
  have u3 : strOf [0, 0, 2, 2, 0, 2, 2, 0] = bs [0, 0, 2, 2, 0, 2, 2, 0] := u2
  generalize hz : by8 [0, 0, 2, 2, 0, 2, 2, 0] = z at *
  refine wBody Try.tab Try.mixed Try.func11 rfl rfl Try.ntmps11 (by simp) (by simp) fun Q hr hn => ?_
  repeat' first | (refine hK _ ?_; clear hK) | (refine hK _ _ ?_; clear hK) | (clear hK; refine hK _ ?_; clear hK) | (clear hK; clear hK; refine hK _ ?_; clear hK) | (clear hK; clear hK; clear hK; refine hK _ ?_; clear hK) | (clear hK; clear hK; clear hK; clear hK; refine hK _ ?_; clear hK) | (refine wSeq fun K hK => ?_) | ((first | refine wReg ?_ | refine wDrwQ rfl (by kernel_rfl) ?_ | refine wDrwI ?_ | refine wDrw (by kernel_rfl) ?_); simp only [List.map_cons, List.map_nil, strip]) | ((first | refine wIs fun K hK => ?_ | refine wOs fun K hK => ?_ | refine wQs fun K hK => ?_ | refine CallK_plain ?_ | refine CallQ_plain ?_ | refine CallR_plain ?_ | refine wCond ?_); simp [u1, u2, u3]) | (refine wIn ?_; refine And.intro (by kernel_rfl) ?_; try simp only [thenA_n]) | (first | refine wBlock ?_ | refine wScope ?_) | ((first | refine wRet ?_ | refine wExit ?_ | refine wSkip ?_); try simp) | ((first | refine wLabel ?_ | refine wOn ?_ | refine wQn ?_); try simp only [thenA_n]) | (refine CallE.pure (c1) rfl ?_) | (refine CallE.lent (c1) rfl ?_) | (refine CallF.pure (c1) rfl ?_) | (refine CallF.lent (c1) rfl ?_) | (refine CallE.own (c1) ?_) | (refine CallH.pure (c1) rfl ?_) | (refine CallH.lent (c1) rfl ?_) | (refine CallH.own (c1) ?_) | (refine CallE.pure (c2) rfl ?_) | (refine CallE.lent (c2) rfl ?_) | (refine CallF.pure (c2) rfl ?_) | (refine CallF.lent (c2) rfl ?_) | (refine CallE.own (c2) ?_) | (refine CallH.pure (c2) rfl ?_) | (refine CallH.lent (c2) rfl ?_) | (refine CallH.own (c2) ?_) | (refine CallE.pure (c3) rfl ?_) | (refine CallE.lent (c3) rfl ?_) | (refine CallF.pure (c3) rfl ?_) | (refine CallF.lent (c3) rfl ?_) | (refine CallE.own (c3) ?_) | (refine CallH.pure (c3) rfl ?_) | (refine CallH.lent (c3) rfl ?_) | (refine CallH.own (c3) ?_)
  all_goals apply hr
  all_goals simp [Try.f11]
/- Records, the document's: numbers laid one behind the other; zxids, lists of numbers, members. -/
/-- The bytes of some numbers. -/
def catZ (l : List Int) : List UInt8 := (l.map fun n => enc (zz n)).flatten
theorem catZ_take {l : List Int} {k : Nat} (h : k < l.length) : catZ (l.take (k + 1)) = catZ (l.take k) ++ enc (zz l[k]) := by
  unfold catZ; rw [List.take_succ_eq_append_getElem h, List.map_append, List.flatten_append]; simp
theorem catZ_len {l : List Int} (h : ∀ n ∈ l, okI n) : ∀ k, (catZ (l.take k)).length ≤ 10 * k := by
  intro k
  induction k with
  | zero => simp [catZ]
  | succ k ih =>
    by_cases hk : k < l.length
    · rw [catZ_take hk, List.length_append]
      have := enc_len10 (zz_lt (h _ (List.getElem_mem hk)))
      omega
    · rw [List.take_of_length_le (by omega)] at ih ⊢
      omega
set_option maxHeartbeats 1000000 in
theorem nums12_con (b : List UInt8) (l : List Int) (h : ∀ n ∈ l, okI n) (hl : l.length ≤ 1000000) (hb : b.length ≤ 50000000) : ACon Try.prog 41 [.p (.sl 1 (by8 b)), .p (.sl 1 (ints l))] (.p (.sl 1 (by8 (b ++ catZ l)))) := by
  refine wBody Try.tab Try.mixed Try.func41 rfl rfl Try.ntmps41 (by simp) (by simp) fun Q hr hn => ?_
  repeat' first | (refine hK _ ?_; clear hK) | (refine hK _ _ ?_; clear hK) | (clear hK; refine hK _ ?_; clear hK) | (clear hK; clear hK; refine hK _ ?_; clear hK) | (clear hK; clear hK; clear hK; refine hK _ ?_; clear hK) | (clear hK; clear hK; clear hK; clear hK; refine hK _ ?_; clear hK) | (refine wSeq fun K hK => ?_) | ((first | refine wReg ?_ | refine wDrwQ rfl (by kernel_rfl) ?_ | refine wDrwI ?_ | refine wDrw (by kernel_rfl) ?_); simp only [List.map_cons, List.map_nil, strip]) | ((first | refine wIs fun K hK => ?_ | refine wOs fun K hK => ?_ | refine wQs fun K hK => ?_ | refine CallK_plain ?_ | refine CallQ_plain ?_ | refine CallR_plain ?_ | refine wCond ?_); simp) | (refine wIn ?_; refine And.intro (by kernel_rfl) ?_; try simp only [thenA_n]) | (first | refine wBlock ?_ | refine wScope ?_) | ((first | refine wRet ?_ | refine wExit ?_ | refine wSkip ?_); try simp) | ((first | refine wLabel ?_ | refine wOn ?_ | refine wQn ?_); try simp only [thenA_n])
  refine wLoop (fun N st => ∃ k, k + N = l.length ∧ st.s 0 = .p (.sl 1 (by8 (b ++ catZ (l.take k)))) ∧ st.s 7 = .p (.sl 1 (ints l)) ∧ st.s 8 = .p (I l.length) ∧ st.s 9 = .p (I k)) l.length ⟨0, by simp [catZ]⟩ fun K N st hL ⟨k, hk, g0, g7, g8, g9⟩ => ?_
  by_cases hlt : k < l.length
  · have hlt' : (k : Int) < l.length := by omega
    have hw := wrapS k _ hlt (by omega)
    have he := ints_get hlt
    have hln := catZ_len h k
    have c := (putInt01_con (b ++ catZ (l.take k)) l[k] (h _ (List.getElem_mem hlt)) (by rw [List.length_append]; omega)).toPure
    rw [List.append_assoc, ← catZ_take hlt] at c
    repeat' first | (refine hK _ ?_; clear hK) | (refine hK _ _ ?_; clear hK) | (clear hK; refine hK _ ?_; clear hK) | (clear hK; clear hK; refine hK _ ?_; clear hK) | (clear hK; clear hK; clear hK; refine hK _ ?_; clear hK) | (clear hK; clear hK; clear hK; clear hK; refine hK _ ?_; clear hK) | (refine wSeq fun K hK => ?_) | ((first | refine wReg ?_ | refine wDrwQ rfl (by kernel_rfl) ?_ | refine wDrwI ?_ | refine wDrw (by kernel_rfl) ?_); simp only [List.map_cons, List.map_nil, strip]) | ((first | refine wIs fun K hK => ?_ | refine wOs fun K hK => ?_ | refine wQs fun K hK => ?_ | refine CallK_plain ?_ | refine CallQ_plain ?_ | refine CallR_plain ?_ | refine wCond ?_); simp [g0, g7, g8, g9, hlt, hlt', hw, he]) | (refine wIn ?_; refine And.intro (by kernel_rfl) ?_; try simp only [thenA_n]) | (first | refine wBlock ?_ | refine wScope ?_) | ((first | refine wRet ?_ | refine wExit ?_ | refine wSkip ?_); try simp) | ((first | refine wLabel ?_ | refine wOn ?_ | refine wQn ?_); try simp only [thenA_n]) | (refine CallE.pure (c) rfl ?_) | (refine CallE.lent (c) rfl ?_) | (refine CallF.pure (c) rfl ?_) | (refine CallF.lent (c) rfl ?_) | (refine CallE.own (c) ?_) | (refine CallH.pure (c) rfl ?_) | (refine CallH.lent (c) rfl ?_) | (refine CallH.own (c) ?_)
    refine hL _ (N - 1) (by omega) ⟨k + 1, by omega, ?_⟩
    simp [g0, g7, g8, g9, hw]
  · have hlt' : ¬ (k : Int) < l.length := by omega
    rw [List.take_of_length_le (by omega)] at g0
    repeat' first | (refine hK _ ?_; clear hK) | (refine hK _ _ ?_; clear hK) | (clear hK; refine hK _ ?_; clear hK) | (clear hK; clear hK; refine hK _ ?_; clear hK) | (clear hK; clear hK; clear hK; refine hK _ ?_; clear hK) | (clear hK; clear hK; clear hK; clear hK; refine hK _ ?_; clear hK) | (refine wSeq fun K hK => ?_) | ((first | refine wReg ?_ | refine wDrwQ rfl (by kernel_rfl) ?_ | refine wDrwI ?_ | refine wDrw (by kernel_rfl) ?_); simp only [List.map_cons, List.map_nil, strip]) | ((first | refine wIs fun K hK => ?_ | refine wOs fun K hK => ?_ | refine wQs fun K hK => ?_ | refine CallK_plain ?_ | refine CallQ_plain ?_ | refine CallR_plain ?_ | refine wCond ?_); simp [g0, g7, g8, g9, hlt, hlt']) | (refine wIn ?_; refine And.intro (by kernel_rfl) ?_; try simp only [thenA_n]) | (first | refine wBlock ?_ | refine wScope ?_) | ((first | refine wRet ?_ | refine wExit ?_ | refine wSkip ?_); try simp) | ((first | refine wLabel ?_ | refine wOn ?_ | refine wQn ?_); try simp only [thenA_n])
    all_goals apply hr
    all_goals simp [Try.f41, g0]
theorem zxid12_con (b : List UInt8) (e n : Int) (he : okI e) (hn' : okI n) (hb : b.length ≤ 50000000) : ACon Try.prog 19 [.p (.sl 1 (by8 b)), .p (.agg [I e, I n])] (.p (.sl 1 (by8 (b ++ catZ [e, n])))) := by
  have h1 := enc_len10 (zz_lt he)
  have c1 := (putInt01_con b e he (by omega)).toPure
  have c2 := (putInt01_con (b ++ enc (zz e)) n hn' (by rw [List.length_append]; omega)).toPure
  rw [List.append_assoc, show enc (zz e) ++ enc (zz n) = catZ [e, n] by simp [catZ]] at c2
  generalize b ++ catZ [e, n] = r at *
  generalize b ++ enc (zz e) = x at *
  refine wBody Try.tab Try.mixed Try.func19 rfl rfl Try.ntmps19 (by simp) (by simp) fun Q hr hn => ?_
  repeat' first | (refine hK _ ?_; clear hK) | (refine hK _ _ ?_; clear hK) | (clear hK; refine hK _ ?_; clear hK) | (clear hK; clear hK; refine hK _ ?_; clear hK) | (clear hK; clear hK; clear hK; refine hK _ ?_; clear hK) | (clear hK; clear hK; clear hK; clear hK; refine hK _ ?_; clear hK) | (refine wSeq fun K hK => ?_) | ((first | refine wReg ?_ | refine wDrwQ rfl (by kernel_rfl) ?_ | refine wDrwI ?_ | refine wDrw (by kernel_rfl) ?_); simp only [List.map_cons, List.map_nil, strip]) | ((first | refine wIs fun K hK => ?_ | refine wOs fun K hK => ?_ | refine wQs fun K hK => ?_ | refine CallK_plain ?_ | refine CallQ_plain ?_ | refine CallR_plain ?_ | refine wCond ?_); simp) | (refine wIn ?_; refine And.intro (by kernel_rfl) ?_; try simp only [thenA_n]) | (first | refine wBlock ?_ | refine wScope ?_) | ((first | refine wRet ?_ | refine wExit ?_ | refine wSkip ?_); try simp) | ((first | refine wLabel ?_ | refine wOn ?_ | refine wQn ?_); try simp only [thenA_n]) | (refine CallE.pure (c1) rfl ?_) | (refine CallE.lent (c1) rfl ?_) | (refine CallF.pure (c1) rfl ?_) | (refine CallF.lent (c1) rfl ?_) | (refine CallE.own (c1) ?_) | (refine CallH.pure (c1) rfl ?_) | (refine CallH.lent (c1) rfl ?_) | (refine CallH.own (c1) ?_) | (refine CallE.pure (c2) rfl ?_) | (refine CallE.lent (c2) rfl ?_) | (refine CallF.pure (c2) rfl ?_) | (refine CallF.lent (c2) rfl ?_) | (refine CallE.own (c2) ?_) | (refine CallH.pure (c2) rfl ?_) | (refine CallH.lent (c2) rfl ?_) | (refine CallH.own (c2) ?_)
  all_goals apply hr
  all_goals simp [Try.f19]
theorem ints12_con (b : List UInt8) (l : List Int) (h : ∀ n ∈ l, okI n) (hl : l.length ≤ 1000000) (hb : b.length ≤ 40000000) : ACon Try.prog 47 [.p (.sl 1 (by8 b)), .p (.sl 1 (ints l))] (.p (.sl 1 (by8 (b ++ catZ ((l.length : Int) :: l))))) := by
  have h0 : okI (l.length : Int) := ⟨by omega, by omega⟩
  have h1 := enc_len10 (zz_lt h0)
  have c1 := (putInt01_con b l.length h0 (by omega)).toPure
  have c2 := nums12_con (b ++ enc (zz l.length)) l h hl (by rw [List.length_append]; omega)
  rw [List.append_assoc, show enc (zz (l.length : Int)) ++ catZ l = catZ ((l.length : Int) :: l) by simp [catZ]] at c2
  generalize b ++ catZ ((l.length : Int) :: l) = r at *
  generalize b ++ enc (zz (l.length : Int)) = x at *
  have hl' : l.length < 9223372036854775808 := by omega
  refine wBody Try.tab Try.mixed Try.func47 rfl rfl Try.ntmps47 (by simp) (by simp) fun Q hr hn => ?_
  repeat' first | (refine hK _ ?_; clear hK) | (refine hK _ _ ?_; clear hK) | (clear hK; refine hK _ ?_; clear hK) | (clear hK; clear hK; refine hK _ ?_; clear hK) | (clear hK; clear hK; clear hK; refine hK _ ?_; clear hK) | (clear hK; clear hK; clear hK; clear hK; refine hK _ ?_; clear hK) | (refine wSeq fun K hK => ?_) | ((first | refine wReg ?_ | refine wDrwQ rfl (by kernel_rfl) ?_ | refine wDrwI ?_ | refine wDrw (by kernel_rfl) ?_); simp only [List.map_cons, List.map_nil, strip]) | ((first | refine wIs fun K hK => ?_ | refine wOs fun K hK => ?_ | refine wQs fun K hK => ?_ | refine CallK_plain ?_ | refine CallQ_plain ?_ | refine CallR_plain ?_ | refine wCond ?_); simp [hl']) | (refine wIn ?_; refine And.intro (by kernel_rfl) ?_; try simp only [thenA_n]) | (first | refine wBlock ?_ | refine wScope ?_) | ((first | refine wRet ?_ | refine wExit ?_ | refine wSkip ?_); try simp) | ((first | refine wLabel ?_ | refine wOn ?_ | refine wQn ?_); try simp only [thenA_n]) | (refine CallE.pure (c1) rfl ?_) | (refine CallE.lent (c1) rfl ?_) | (refine CallF.pure (c1) rfl ?_) | (refine CallF.lent (c1) rfl ?_) | (refine CallE.own (c1) ?_) | (refine CallH.pure (c1) rfl ?_) | (refine CallH.lent (c1) rfl ?_) | (refine CallH.own (c1) ?_) | (refine CallE.pure (c2) rfl ?_) | (refine CallE.lent (c2) rfl ?_) | (refine CallF.pure (c2) rfl ?_) | (refine CallF.lent (c2) rfl ?_) | (refine CallE.own (c2) ?_) | (refine CallH.pure (c2) rfl ?_) | (refine CallH.lent (c2) rfl ?_) | (refine CallH.own (c2) ?_)
  all_goals apply hr
  all_goals simp [Try.f47]
theorem flag12_con (b : Bool) : ACon Try.prog 59 [.p (B b)] (.p (I (if b = true then 1 else 0))) := by
  cases b
  all_goals
    refine wBody Try.tab Try.mixed Try.func59 rfl rfl Try.ntmps59 (by simp) (by simp) fun Q hr hn => ?_
    repeat' first | (refine hK _ ?_; clear hK) | (refine hK _ _ ?_; clear hK) | (clear hK; refine hK _ ?_; clear hK) | (clear hK; clear hK; refine hK _ ?_; clear hK) | (clear hK; clear hK; clear hK; refine hK _ ?_; clear hK) | (clear hK; clear hK; clear hK; clear hK; refine hK _ ?_; clear hK) | (refine wSeq fun K hK => ?_) | ((first | refine wReg ?_ | refine wDrwQ rfl (by kernel_rfl) ?_ | refine wDrwI ?_ | refine wDrw (by kernel_rfl) ?_); simp only [List.map_cons, List.map_nil, strip]) | ((first | refine wIs fun K hK => ?_ | refine wOs fun K hK => ?_ | refine wQs fun K hK => ?_ | refine CallK_plain ?_ | refine CallQ_plain ?_ | refine CallR_plain ?_ | refine wCond ?_); simp) | (refine wIn ?_; refine And.intro (by kernel_rfl) ?_; try simp only [thenA_n]) | (first | refine wBlock ?_ | refine wScope ?_) | ((first | refine wRet ?_ | refine wExit ?_ | refine wSkip ?_); try simp) | ((first | refine wLabel ?_ | refine wOn ?_ | refine wQn ?_); try simp only [thenA_n])
    all_goals apply hr
    all_goals simp [Try.f59]
/- Records, the document's: texts, members, nodes, configs. -/
theorem zzl (n : Nat) (h : n ≤ 1000000000) : okI (n : Int) := ⟨by omega, by omega⟩
theorem putText12_con (b s : List UInt8) (h : b.length ≤ 100000000) (hs : s.length ≤ 100000000) : BCon 43 [.p (.sl 1 (by8 b)), .p (SB s)] (b ++ (enc (zz s.length) ++ s)) := by
  have c1 := putInt01_con b s.length (zzl _ (by omega)) (by omega)
  have hel := enc_len10 (zz_lt (zzl s.length (by omega)))
  have hx := by8_app (b ++ enc (zz s.length)) s
  have hbm : (s.map fun b => [PV.v (.int .u8 b.toNat)]) = by8 s := rfl
  rw [List.append_assoc] at hx
  generalize enc (zz s.length) = z at c1 hel hx ⊢
  refine wBodyR Try.tab Try.mixed Try.func43 rfl rfl Try.ntmps43 rfl (by simp) (by simp) fun Q hr hn => ?_
  repeat' first | (refine And.intro (by omega) ?_) | (refine hK _ ?_; clear hK) | (refine hK _ _ ?_; clear hK) | (clear hK; refine hK _ ?_; clear hK) | (clear hK; clear hK; refine hK _ ?_; clear hK) | (clear hK; clear hK; clear hK; refine hK _ ?_; clear hK) | (clear hK; clear hK; clear hK; clear hK; refine hK _ ?_; clear hK) | (refine wSeq fun K hK => ?_) | ((first | refine wReg ?_ | refine wDrwQ rfl (by kernel_rfl) ?_ | refine wDrwI ?_ | refine wDrw (by kernel_rfl) ?_); simp only [List.map_cons, List.map_nil, strip]) | ((first | refine wIs fun K hK => ?_ | refine wOs fun K hK => ?_ | refine wQs fun K hK => ?_ | refine CallK_plain ?_ | refine CallQ_plain ?_ | refine CallR_plain ?_ | refine wCond ?_); simp) | (refine wIn ?_; refine And.intro (by kernel_rfl) ?_; try simp only [thenA_n]) | (first | refine wBlock ?_ | refine wScope ?_) | ((first | refine wRet ?_ | refine wExit ?_ | refine wSkip ?_); try simp) | ((first | refine wLabel ?_ | refine wOn ?_ | refine wQn ?_); try simp only [thenA_n]) | (refine CallE.pure (c1) rfl ?_) | (refine CallE.lent (c1) rfl ?_) | (refine CallF.pure (c1) rfl ?_) | (refine CallF.lent (c1) rfl ?_) | (refine CallE.own (c1) ?_) | (refine CallH.pure (c1) rfl ?_) | (refine CallH.lent (c1) rfl ?_) | (refine CallH.own (c1) ?_)
  all_goals refine hr _ 8 ?_ ?_ (by omega)
  all_goals simp [Try.f43, hbm, hx]
/-- The bytes of a text. -/
def txB (s : List UInt8) : List UInt8 := enc (zz s.length) ++ s
theorem text12_con (b s : List UInt8) (h : b.length ≤ 100000000) (hs : s.length ≤ 100000000) : ACon Try.prog 43 [.p (.sl 1 (by8 b)), .p (SB s)] (.p (.sl 1 (by8 (b ++ txB s)))) := (putText12_con b s h hs).toPure
structure OkM (m : Mb) : Prop where
  i : okI m.i
  r : okI m.r
  w : okI m.w
  g : okI m.g
end Go.Proofs.Ytleejpddecjhcaa
