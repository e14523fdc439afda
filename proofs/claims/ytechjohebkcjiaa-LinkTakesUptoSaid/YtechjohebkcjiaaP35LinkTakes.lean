/- Texts that the proof needs: RG4b RG4c RG4d LG2. -/
import Derived.Test.YtechjohebkcjiaaP34LinkTakes
import Derived.Test.YtechjohebkcjiaaP31LinkTakes
/- Records, the document's: states. -/
namespace Go.Proofs.Ytechjohebkcjiaa
set_option linter.unusedSimpArgs false
set_option linter.unusedVariables false
set_option maxRecDepth 8000
open Go Go.Av
attribute [local simp] Try.T1 Try.T2 Try.T3 Try.T4 Try.T5 Try.T9 Try.T12 Try.T15 Try.T16 Try.T17 Try.T21 Try.T22 Try.T23 Try.T24 Try.T25 Try.T27 Try.T29 Try.T30 Try.T31 Try.T32 Try.T33 Try.T35 Try.T37 Try.T38 Try.T40 Try.T41 Try.T42 Try.T44 Try.T45 Try.T47 Try.T49 Try.T51 Try.T53 Try.T54 Try.T55 Try.T56 Try.T57 Try.T58 Try.T59 Try.T60 Try.T61 Try.T62 Try.T63 Try.T64 Try.T66 Try.T67 Try.T68 Try.T69 Try.T70 Try.T72 Try.T74 Try.T76 Try.T77 Try.T78 Try.T79 Try.T80 Try.T81 Try.T82 Try.T83 Try.T84 Try.T85 Try.T87 Try.T88 Try.T89 Try.T90 Try.T91 Try.T92 Try.T93 Try.T94 Try.T96 Try.T97 Try.T98 Try.T99 Try.T100 Try.T101 Try.T102 Try.T103 Try.T104 Try.T105 Try.T106 Try.T107 Try.T108 Try.T109 Try.T110 Try.T111 Try.T113 Try.T114 Try.T115 Try.T116 Try.T117 Try.T118 Try.T119 Try.T120 Try.T121 Try.T122 Try.T123 Try.T124 Try.T125 Try.T126 Try.T127 Try.T128 Try.T129 Try.T130 Try.T133 Try.T136 Try.T137 Try.T140 Try.T141
attribute [local irreducible] Go.Av.CallK Go.Av.CallE Go.Av.CallQ Go.Av.CallF Go.Av.CallR Go.Av.CallH Go.Av.Con
set_option maxHeartbeats 4000000 in
theorem dSt (b : List UInt8) (cs : List PV) (hk : fSt.ok cs) (h : (b ++ fSt.en cs).length ≤ 1000000) : ACon Try.prog 43 [.p (.sl 1 (by8 b)), vOf cs] (.p (.sl 1 (by8 (b ++ fSt.en cs)))) := by
  obtain ⟨x0, x1, x2, x3, x4, x5, x6, x7, x8, rfl, k0, k1, k2, k3, k4⟩ := fSt_sh hk
  obtain ⟨hl, ho⟩ := fl_ok k0
  have hL : okI (x0.length : Int) := ⟨by omega, by omega⟩
  have hres : b ++ fSt.en [.sl 5 x0, .sl 1 x1, I x2, I x3, I x4, I x5, .sl 4 x6, I x7, I x8] = b ++ enc (zz (x0.length : Int)) ++ x0.flatMap fNd.en ++ (fl 1 foI).en [.sl 1 x1] ++ foI.en [I x2] ++ fCf.en [I x3, I x4, I x5, .sl 4 x6] ++ fZx.en [I x7, I x8] := by simp only [fSt_en, fl_en, fVt_en, fPl_en, catZ2, catZ3, catZ4, catZ6, foI_en, List.append_assoc]
  rw [hres] at h ⊢
  clear hres
  have c0 := dLen b _ hL (by simp only [List.length_append] at h ⊢; omega)
  have e0 := dlI (b ++ enc (zz (x0.length : Int)) ++ x0.flatMap fNd.en) _ k1 (by simp only [List.length_append] at h ⊢; omega)
  have e1 := dInt (b ++ enc (zz (x0.length : Int)) ++ x0.flatMap fNd.en ++ (fl 1 foI).en [.sl 1 x1]) _ k2 (by simp only [List.length_append] at h ⊢; omega)
  have e2 := dCf (b ++ enc (zz (x0.length : Int)) ++ x0.flatMap fNd.en ++ (fl 1 foI).en [.sl 1 x1] ++ foI.en [I x2]) _ k3 (by simp only [List.length_append] at h ⊢; omega)
  have e3 := dZx (b ++ enc (zz (x0.length : Int)) ++ x0.flatMap fNd.en ++ (fl 1 foI).en [.sl 1 x1] ++ foI.en [I x2] ++ fCf.en [I x3, I x4, I x5, .sl 4 x6]) _ k4 (by simp only [List.length_append] at h ⊢; omega)
  have hM : (b ++ enc (zz (x0.length : Int)) ++ x0.flatMap fNd.en).length ≤ 1000000 := by simp only [List.length_append] at h ⊢; omega
  generalize b ++ enc (zz (x0.length : Int)) ++ x0.flatMap fNd.en ++ (fl 1 foI).en [.sl 1 x1] ++ foI.en [I x2] ++ fCf.en [I x3, I x4, I x5, .sl 4 x6] ++ fZx.en [I x7, I x8] = y4 at *
  generalize b ++ enc (zz (x0.length : Int)) ++ x0.flatMap fNd.en ++ (fl 1 foI).en [.sl 1 x1] ++ foI.en [I x2] ++ fCf.en [I x3, I x4, I x5, .sl 4 x6] = y3 at *
  generalize b ++ enc (zz (x0.length : Int)) ++ x0.flatMap fNd.en ++ (fl 1 foI).en [.sl 1 x1] ++ foI.en [I x2] = y2 at *
  generalize b ++ enc (zz (x0.length : Int)) ++ x0.flatMap fNd.en ++ (fl 1 foI).en [.sl 1 x1] = y1 at *
  generalize hX : b ++ enc (zz (x0.length : Int)) = X at *
  clear hX
  have hl' : x0.length < 9223372036854775808 := by omega
  simp only [vOf2]
  try simp only [ints, List.map_cons, List.map_nil] at *
  refine wBody Try.tab Try.mixed Try.func43 rfl rfl Try.ntmps43 (by simp) (by simp) fun Q hr hn => ?_
  repeat' first | (refine hK _ ?_; clear hK) | (refine hK _ _ ?_; clear hK) | (clear hK; refine hK _ ?_; clear hK) | (clear hK; clear hK; refine hK _ ?_; clear hK) | (clear hK; clear hK; clear hK; refine hK _ ?_; clear hK) | (clear hK; clear hK; clear hK; clear hK; refine hK _ ?_; clear hK) | (refine wSeq fun K hK => ?_) | ((first | refine wReg ?_ | refine wDrwQ rfl (by kernel_rfl) ?_ | refine wDrwI ?_ | refine wDrw (by kernel_rfl) ?_); simp only [List.map_cons, List.map_nil, strip]) | ((first | refine wIs fun K hK => ?_ | refine wOs fun K hK => ?_ | refine wQs fun K hK => ?_ | refine CallK_plain ?_ | refine CallQ_plain ?_ | refine CallR_plain ?_ | refine wCond ?_); simp [hl']) | (refine wIn ?_; refine And.intro (by kernel_rfl) ?_; try simp only [thenA_n]) | (first | refine wBlock ?_ | refine wScope ?_) | ((first | refine wRet ?_ | refine wExit ?_ | refine wSkip ?_); try simp) | ((first | refine wLabel ?_ | refine wOn ?_ | refine wQn ?_); try simp only [thenA_n]) | (refine CallE.pure (c0) rfl ?_) | (refine CallE.lent (c0) rfl ?_) | (refine CallF.pure (c0) rfl ?_) | (refine CallF.lent (c0) rfl ?_) | (refine CallE.own (c0) ?_) | (refine CallH.pure (c0) rfl ?_) | (refine CallH.lent (c0) rfl ?_) | (refine CallH.own (c0) ?_)
  refine wLoop (fun N st => ∃ k, k + N = x0.length ∧ st.s 0 = .p (.sl 1 (by8 (X ++ (x0.take k).flatMap fNd.en))) ∧ st.s 3 = .ptr 3 0 ∧ st.b 3 = some (.box 37 [.p (.sl 5 x0), .p (.sl 1 x1), .p (I x2), .p (I x3), .p (I x4), .p (I x5), .p (.sl 4 x6), .p (I x7), .p (I x8)]) ∧ st.s 13 = .p (.sl 5 x0) ∧ st.s 14 = .p (I x0.length) ∧ st.s 15 = .p (I k)) x0.length ⟨0, by simp⟩ fun K N st hL2 ⟨k, hk, g0, g3, b3, gl, gn, gi⟩ => ?_
  by_cases hlt : k < x0.length
  · have hlt' : (k : Int) < x0.length := by omega
    have hw := wrapS k _ hlt (by omega)
    have hok := ho x0[k] (List.getElem_mem hlt)
    have hgoal : X ++ (x0.take (k + 1)).flatMap fNd.en = X ++ (x0.take k).flatMap fNd.en ++ fNd.en x0[k] := by rw [flatMap_snoc hlt, List.append_assoc]
    have hpl2 : (X ++ (x0.take k).flatMap fNd.en ++ fNd.en x0[k]).length ≤ 1000000 := by rw [← hgoal]; have := flatMap_take_le fNd.en x0 (k + 1); simp only [List.length_append] at hM ⊢; omega
    have he : x0[k]? = some x0[k] := List.getElem?_eq_getElem hlt
    generalize hQ : x0[k] = r at *
    generalize X ++ (x0.take k).flatMap fNd.en = Y at *
    have d0 := dNd Y _ hok hpl2
    obtain ⟨z0, z1, z2, z3, z4, rfl, -⟩ := fNd_sh hok
    generalize Y ++ fNd.en [SB z0, SB z1, I z2, I z3, I z4] = Y1 at *
    simp only [vOf2] at d0
    repeat' first | (refine hK _ ?_; clear hK) | (refine hK _ _ ?_; clear hK) | (clear hK; refine hK _ ?_; clear hK) | (clear hK; clear hK; refine hK _ ?_; clear hK) | (clear hK; clear hK; clear hK; refine hK _ ?_; clear hK) | (clear hK; clear hK; clear hK; clear hK; refine hK _ ?_; clear hK) | (refine wSeq fun K hK => ?_) | ((first | refine wReg ?_ | refine wDrwQ rfl (by kernel_rfl) ?_ | refine wDrwI ?_ | refine wDrw (by kernel_rfl) ?_); simp only [List.map_cons, List.map_nil, strip]) | ((first | refine wIs fun K hK => ?_ | refine wOs fun K hK => ?_ | refine wQs fun K hK => ?_ | refine CallK_plain ?_ | refine CallQ_plain ?_ | refine CallR_plain ?_ | refine wCond ?_); simp [g0, g3, b3, gl, gn, gi, hlt, hlt', hw, he, hQ]) | (refine wIn ?_; refine And.intro (by kernel_rfl) ?_; try simp only [thenA_n]) | (first | refine wBlock ?_ | refine wScope ?_) | ((first | refine wRet ?_ | refine wExit ?_ | refine wSkip ?_); try simp) | ((first | refine wLabel ?_ | refine wOn ?_ | refine wQn ?_); try simp only [thenA_n]) | (refine CallE.pure (d0) rfl ?_) | (refine CallE.lent (d0) rfl ?_) | (refine CallF.pure (d0) rfl ?_) | (refine CallF.lent (d0) rfl ?_) | (refine CallE.own (d0) ?_) | (refine CallH.pure (d0) rfl ?_) | (refine CallH.lent (d0) rfl ?_) | (refine CallH.own (d0) ?_)
    refine hL2 _ (N - 1) (by omega) ⟨k + 1, by omega, ?_⟩
    rw [hgoal]
    simp [g0, g3, b3, gl, gn, gi, hw]
  · have hlt' : ¬ (k : Int) < x0.length := by omega
    rw [List.take_of_length_le (by omega)] at g0
    repeat' first | (refine hK _ ?_; clear hK) | (refine hK _ _ ?_; clear hK) | (clear hK; refine hK _ ?_; clear hK) | (clear hK; clear hK; refine hK _ ?_; clear hK) | (clear hK; clear hK; clear hK; refine hK _ ?_; clear hK) | (clear hK; clear hK; clear hK; clear hK; refine hK _ ?_; clear hK) | (refine wSeq fun K hK => ?_) | ((first | refine wReg ?_ | refine wDrwQ rfl (by kernel_rfl) ?_ | refine wDrwI ?_ | refine wDrw (by kernel_rfl) ?_); simp only [List.map_cons, List.map_nil, strip]) | ((first | refine wIs fun K hK => ?_ | refine wOs fun K hK => ?_ | refine wQs fun K hK => ?_ | refine CallK_plain ?_ | refine CallQ_plain ?_ | refine CallR_plain ?_ | refine wCond ?_); simp [g0, g3, b3, gl, gn, gi, hlt, hlt']) | (refine wIn ?_; refine And.intro (by kernel_rfl) ?_; try simp only [thenA_n]) | (first | refine wBlock ?_ | refine wScope ?_) | ((first | refine wRet ?_ | refine wExit ?_ | refine wSkip ?_); try simp) | ((first | refine wLabel ?_ | refine wOn ?_ | refine wQn ?_); try simp only [thenA_n]) | (refine CallE.pure (e0) rfl ?_) | (refine CallE.lent (e0) rfl ?_) | (refine CallF.pure (e0) rfl ?_) | (refine CallF.lent (e0) rfl ?_) | (refine CallE.own (e0) ?_) | (refine CallH.pure (e0) rfl ?_) | (refine CallH.lent (e0) rfl ?_) | (refine CallH.own (e0) ?_) | (refine CallE.pure (e1) rfl ?_) | (refine CallE.lent (e1) rfl ?_) | (refine CallF.pure (e1) rfl ?_) | (refine CallF.lent (e1) rfl ?_) | (refine CallE.own (e1) ?_) | (refine CallH.pure (e1) rfl ?_) | (refine CallH.lent (e1) rfl ?_) | (refine CallH.own (e1) ?_) | (refine CallE.pure (e2) rfl ?_) | (refine CallE.lent (e2) rfl ?_) | (refine CallF.pure (e2) rfl ?_) | (refine CallF.lent (e2) rfl ?_) | (refine CallE.own (e2) ?_) | (refine CallH.pure (e2) rfl ?_) | (refine CallH.lent (e2) rfl ?_) | (refine CallH.own (e2) ?_) | (refine CallE.pure (e3) rfl ?_) | (refine CallE.lent (e3) rfl ?_) | (refine CallF.pure (e3) rfl ?_) | (refine CallF.lent (e3) rfl ?_) | (refine CallE.own (e3) ?_) | (refine CallH.pure (e3) rfl ?_) | (refine CallH.lent (e3) rfl ?_) | (refine CallH.own (e3) ?_)
    all_goals apply hr
    all_goals simp [Try.f43, g0]
/- Records, the document's: requests. -/
set_option maxHeartbeats 4000000 in
theorem dRq (b : List UInt8) (cs : List PV) (hk : fRq.ok cs) (h : (b ++ fRq.en cs).length ≤ 1000000) : ACon Try.prog 46 [.p (.sl 1 (by8 b)), vOf cs] (.p (.sl 1 (by8 (b ++ fRq.en cs)))) := by
  obtain ⟨x0, x1, x2, x3, x4, x5, x6, x7, x8, rfl, k0, k1, k2, k3, k4, k5, k6, k7⟩ := fRq_sh hk
  obtain ⟨hl, ho⟩ := fl_ok k3
  have hL : okI (x3.length : Int) := ⟨by omega, by omega⟩
  have hres : b ++ fRq.en [I x0, I x1, I x2, .sl 6 x3, I x4, .sl 4 x5, .sl 1 x6, I x7, I x8] = b ++ catZ [x0, x1, x2, (x3.length : Int)] ++ x3.flatMap fOp.en ++ foI.en [I x4] ++ (fl 4 fMb).en [.sl 4 x5] ++ (fl 1 foI).en [.sl 1 x6] ++ fZx.en [I x7, I x8] := by simp only [fRq_en, fl_en, fVt_en, fPl_en, catZ2, catZ3, catZ4, catZ6, foI_en, List.append_assoc]
  rw [hres] at h ⊢
  clear hres
  have c0 := dNums b [x0, x1, x2, (x3.length : Int)] (by intro n hn; simp at hn; rcases hn with rfl | rfl | rfl | rfl <;> first | exact hL | exact flO_ok _ | (simp only [← foI_ok]; assumption)) (by simp) (by simp only [List.length_append] at h ⊢; omega)
  have e0 := dInt (b ++ catZ [x0, x1, x2, (x3.length : Int)] ++ x3.flatMap fOp.en) _ k4 (by simp only [List.length_append] at h ⊢; omega)
  have e1 := dlMb (b ++ catZ [x0, x1, x2, (x3.length : Int)] ++ x3.flatMap fOp.en ++ foI.en [I x4]) _ k5 (by simp only [List.length_append] at h ⊢; omega)
  have e2 := dlI (b ++ catZ [x0, x1, x2, (x3.length : Int)] ++ x3.flatMap fOp.en ++ foI.en [I x4] ++ (fl 4 fMb).en [.sl 4 x5]) _ k6 (by simp only [List.length_append] at h ⊢; omega)
  have e3 := dZx (b ++ catZ [x0, x1, x2, (x3.length : Int)] ++ x3.flatMap fOp.en ++ foI.en [I x4] ++ (fl 4 fMb).en [.sl 4 x5] ++ (fl 1 foI).en [.sl 1 x6]) _ k7 (by simp only [List.length_append] at h ⊢; omega)
  have hM : (b ++ catZ [x0, x1, x2, (x3.length : Int)] ++ x3.flatMap fOp.en).length ≤ 1000000 := by simp only [List.length_append] at h ⊢; omega
  generalize b ++ catZ [x0, x1, x2, (x3.length : Int)] ++ x3.flatMap fOp.en ++ foI.en [I x4] ++ (fl 4 fMb).en [.sl 4 x5] ++ (fl 1 foI).en [.sl 1 x6] ++ fZx.en [I x7, I x8] = y4 at *
  generalize b ++ catZ [x0, x1, x2, (x3.length : Int)] ++ x3.flatMap fOp.en ++ foI.en [I x4] ++ (fl 4 fMb).en [.sl 4 x5] ++ (fl 1 foI).en [.sl 1 x6] = y3 at *
  generalize b ++ catZ [x0, x1, x2, (x3.length : Int)] ++ x3.flatMap fOp.en ++ foI.en [I x4] ++ (fl 4 fMb).en [.sl 4 x5] = y2 at *
  generalize b ++ catZ [x0, x1, x2, (x3.length : Int)] ++ x3.flatMap fOp.en ++ foI.en [I x4] = y1 at *
  generalize hX : b ++ catZ [x0, x1, x2, (x3.length : Int)] = X at *
  clear hX
  have hl' : x3.length < 9223372036854775808 := by omega
  simp only [vOf2]
  try simp only [ints, List.map_cons, List.map_nil] at *
  refine wBody Try.tab Try.mixed Try.func46 rfl rfl Try.ntmps46 (by simp) (by simp) fun Q hr hn => ?_
  repeat' first | (refine hK _ ?_; clear hK) | (refine hK _ _ ?_; clear hK) | (clear hK; refine hK _ ?_; clear hK) | (clear hK; clear hK; refine hK _ ?_; clear hK) | (clear hK; clear hK; clear hK; refine hK _ ?_; clear hK) | (clear hK; clear hK; clear hK; clear hK; refine hK _ ?_; clear hK) | (refine wSeq fun K hK => ?_) | ((first | refine wReg ?_ | refine wDrwQ rfl (by kernel_rfl) ?_ | refine wDrwI ?_ | refine wDrw (by kernel_rfl) ?_); simp only [List.map_cons, List.map_nil, strip]) | ((first | refine wIs fun K hK => ?_ | refine wOs fun K hK => ?_ | refine wQs fun K hK => ?_ | refine CallK_plain ?_ | refine CallQ_plain ?_ | refine CallR_plain ?_ | refine wCond ?_); simp [hl']) | (refine wIn ?_; refine And.intro (by kernel_rfl) ?_; try simp only [thenA_n]) | (first | refine wBlock ?_ | refine wScope ?_) | ((first | refine wRet ?_ | refine wExit ?_ | refine wSkip ?_); try simp) | ((first | refine wLabel ?_ | refine wOn ?_ | refine wQn ?_); try simp only [thenA_n]) | (refine CallE.pure (c0) rfl ?_) | (refine CallE.lent (c0) rfl ?_) | (refine CallF.pure (c0) rfl ?_) | (refine CallF.lent (c0) rfl ?_) | (refine CallE.own (c0) ?_) | (refine CallH.pure (c0) rfl ?_) | (refine CallH.lent (c0) rfl ?_) | (refine CallH.own (c0) ?_)
  refine wLoop (fun N st => ∃ k, k + N = x3.length ∧ st.s 0 = .p (.sl 1 (by8 (X ++ (x3.take k).flatMap fOp.en))) ∧ st.s 3 = .ptr 3 0 ∧ st.b 3 = some (.box 49 [.p (I x0), .p (I x1), .p (I x2), .p (.sl 6 x3), .p (I x4), .p (.sl 4 x5), .p (.sl 1 x6), .p (I x7), .p (I x8)]) ∧ st.s 20 = .p (.sl 6 x3) ∧ st.s 21 = .p (I x3.length) ∧ st.s 22 = .p (I k)) x3.length ⟨0, by simp⟩ fun K N st hL2 ⟨k, hk, g0, g3, b3, gl, gn, gi⟩ => ?_
  by_cases hlt : k < x3.length
  · have hlt' : (k : Int) < x3.length := by omega
    have hw := wrapS k _ hlt (by omega)
    have hok := ho x3[k] (List.getElem_mem hlt)
    have hgoal : X ++ (x3.take (k + 1)).flatMap fOp.en = X ++ (x3.take k).flatMap fOp.en ++ fOp.en x3[k] := by rw [flatMap_snoc hlt, List.append_assoc]
    have hpl2 : (X ++ (x3.take k).flatMap fOp.en ++ fOp.en x3[k]).length ≤ 1000000 := by rw [← hgoal]; have := flatMap_take_le fOp.en x3 (k + 1); simp only [List.length_append] at hM ⊢; omega
    have he : x3[k]? = some x3[k] := List.getElem?_eq_getElem hlt
    generalize hQ : x3[k] = r at *
    generalize X ++ (x3.take k).flatMap fOp.en = Y at *
    obtain ⟨z0, z1, z2, z3, z4, z5, rfl, m0, m1, m2, m3, m4, m5⟩ := fOp_sh hok
    have hin : Y ++ fOp.en [I z0, SB z1, SB z2, I z3, B z4, B z5] = Y ++ foI.en [I z0] ++ foS.en [SB z1] ++ foS.en [SB z2] ++ catZ [z3, flO z4, flO z5] := by rw [fOp_en]; simp only [catZ3, catZ4, foI_en, foB_en, flO, List.append_assoc]
    rw [hin] at hgoal hpl2
    clear hin
    have d0 := dInt Y _ m0 (by simp only [List.length_append] at hpl2 ⊢; omega)
    have d1 := dText (Y ++ foI.en [I z0]) _ m1 (by simp only [List.length_append] at hpl2 ⊢; omega)
    have d2 := dText (Y ++ foI.en [I z0] ++ foS.en [SB z1]) _ m2 (by simp only [List.length_append] at hpl2 ⊢; omega)
    have d3 := dNums (Y ++ foI.en [I z0] ++ foS.en [SB z1] ++ foS.en [SB z2]) [z3, flO z4, flO z5] (by intro n hn; simp at hn; rcases hn with rfl | rfl | rfl <;> first | exact hL | exact flO_ok _ | (simp only [← foI_ok]; assumption)) (by simp) (by simp only [List.length_append] at hpl2 ⊢; omega)
    generalize Y ++ foI.en [I z0] ++ foS.en [SB z1] ++ foS.en [SB z2] ++ catZ [z3, flO z4, flO z5] = Y4 at *
    generalize Y ++ foI.en [I z0] ++ foS.en [SB z1] ++ foS.en [SB z2] = Y3 at *
    generalize Y ++ foI.en [I z0] ++ foS.en [SB z1] = Y2 at *
    generalize Y ++ foI.en [I z0] = Y1 at *
    try simp only [vOf2, ints, List.map_cons, List.map_nil] at *
    repeat' first | (refine hK _ ?_; clear hK) | (refine hK _ _ ?_; clear hK) | (clear hK; refine hK _ ?_; clear hK) | (clear hK; clear hK; refine hK _ ?_; clear hK) | (clear hK; clear hK; clear hK; refine hK _ ?_; clear hK) | (clear hK; clear hK; clear hK; clear hK; refine hK _ ?_; clear hK) | (refine wSeq fun K hK => ?_) | ((first | refine wReg ?_ | refine wDrwQ rfl (by kernel_rfl) ?_ | refine wDrwI ?_ | refine wDrw (by kernel_rfl) ?_); simp only [List.map_cons, List.map_nil, strip]) | ((first | refine wIs fun K hK => ?_ | refine wOs fun K hK => ?_ | refine wQs fun K hK => ?_ | refine CallK_plain ?_ | refine CallQ_plain ?_ | refine CallR_plain ?_ | refine wCond ?_); simp [g0, g3, b3, gl, gn, gi, hlt, hlt', hw, he, hQ]) | (refine wIn ?_; refine And.intro (by kernel_rfl) ?_; try simp only [thenA_n]) | (first | refine wBlock ?_ | refine wScope ?_) | ((first | refine wRet ?_ | refine wExit ?_ | refine wSkip ?_); try simp) | ((first | refine wLabel ?_ | refine wOn ?_ | refine wQn ?_); try simp only [thenA_n]) | (refine CallE.pure (d0) rfl ?_) | (refine CallE.lent (d0) rfl ?_) | (refine CallF.pure (d0) rfl ?_) | (refine CallF.lent (d0) rfl ?_) | (refine CallE.own (d0) ?_) | (refine CallH.pure (d0) rfl ?_) | (refine CallH.lent (d0) rfl ?_) | (refine CallH.own (d0) ?_) | (refine CallE.pure (d1) rfl ?_) | (refine CallE.lent (d1) rfl ?_) | (refine CallF.pure (d1) rfl ?_) | (refine CallF.lent (d1) rfl ?_) | (refine CallE.own (d1) ?_) | (refine CallH.pure (d1) rfl ?_) | (refine CallH.lent (d1) rfl ?_) | (refine CallH.own (d1) ?_) | (refine CallE.pure (d2) rfl ?_) | (refine CallE.lent (d2) rfl ?_) | (refine CallF.pure (d2) rfl ?_) | (refine CallF.lent (d2) rfl ?_) | (refine CallE.own (d2) ?_) | (refine CallH.pure (d2) rfl ?_) | (refine CallH.lent (d2) rfl ?_) | (refine CallH.own (d2) ?_) | (refine CallE.pure (d3) rfl ?_) | (refine CallE.lent (d3) rfl ?_) | (refine CallF.pure (d3) rfl ?_) | (refine CallF.lent (d3) rfl ?_) | (refine CallE.own (d3) ?_) | (refine CallH.pure (d3) rfl ?_) | (refine CallH.lent (d3) rfl ?_) | (refine CallH.own (d3) ?_) | (refine CallE.pure (flag12_con _) rfl ?_) | (refine CallE.lent (flag12_con _) rfl ?_) | (refine CallF.pure (flag12_con _) rfl ?_) | (refine CallF.lent (flag12_con _) rfl ?_) | (refine CallE.own (flag12_con _) ?_) | (refine CallH.pure (flag12_con _) rfl ?_) | (refine CallH.lent (flag12_con _) rfl ?_) | (refine CallH.own (flag12_con _) ?_)
    refine hL2 _ (N - 1) (by omega) ⟨k + 1, by omega, ?_⟩
    rw [hgoal]
    simp [g0, g3, b3, gl, gn, gi, hw]
  · have hlt' : ¬ (k : Int) < x3.length := by omega
    rw [List.take_of_length_le (by omega)] at g0
    repeat' first | (refine hK _ ?_; clear hK) | (refine hK _ _ ?_; clear hK) | (clear hK; refine hK _ ?_; clear hK) | (clear hK; clear hK; refine hK _ ?_; clear hK) | (clear hK; clear hK; clear hK; refine hK _ ?_; clear hK) | (clear hK; clear hK; clear hK; clear hK; refine hK _ ?_; clear hK) | (refine wSeq fun K hK => ?_) | ((first | refine wReg ?_ | refine wDrwQ rfl (by kernel_rfl) ?_ | refine wDrwI ?_ | refine wDrw (by kernel_rfl) ?_); simp only [List.map_cons, List.map_nil, strip]) | ((first | refine wIs fun K hK => ?_ | refine wOs fun K hK => ?_ | refine wQs fun K hK => ?_ | refine CallK_plain ?_ | refine CallQ_plain ?_ | refine CallR_plain ?_ | refine wCond ?_); simp [g0, g3, b3, gl, gn, gi, hlt, hlt']) | (refine wIn ?_; refine And.intro (by kernel_rfl) ?_; try simp only [thenA_n]) | (first | refine wBlock ?_ | refine wScope ?_) | ((first | refine wRet ?_ | refine wExit ?_ | refine wSkip ?_); try simp) | ((first | refine wLabel ?_ | refine wOn ?_ | refine wQn ?_); try simp only [thenA_n]) | (refine CallE.pure (e0) rfl ?_) | (refine CallE.lent (e0) rfl ?_) | (refine CallF.pure (e0) rfl ?_) | (refine CallF.lent (e0) rfl ?_) | (refine CallE.own (e0) ?_) | (refine CallH.pure (e0) rfl ?_) | (refine CallH.lent (e0) rfl ?_) | (refine CallH.own (e0) ?_) | (refine CallE.pure (e1) rfl ?_) | (refine CallE.lent (e1) rfl ?_) | (refine CallF.pure (e1) rfl ?_) | (refine CallF.lent (e1) rfl ?_) | (refine CallE.own (e1) ?_) | (refine CallH.pure (e1) rfl ?_) | (refine CallH.lent (e1) rfl ?_) | (refine CallH.own (e1) ?_) | (refine CallE.pure (e2) rfl ?_) | (refine CallE.lent (e2) rfl ?_) | (refine CallF.pure (e2) rfl ?_) | (refine CallF.lent (e2) rfl ?_) | (refine CallE.own (e2) ?_) | (refine CallH.pure (e2) rfl ?_) | (refine CallH.lent (e2) rfl ?_) | (refine CallH.own (e2) ?_) | (refine CallE.pure (e3) rfl ?_) | (refine CallE.lent (e3) rfl ?_) | (refine CallF.pure (e3) rfl ?_) | (refine CallF.lent (e3) rfl ?_) | (refine CallE.own (e3) ?_) | (refine CallH.pure (e3) rfl ?_) | (refine CallH.lent (e3) rfl ?_) | (refine CallH.own (e3) ?_)
    all_goals apply hr
    all_goals simp [Try.f46, g0]
/- Records, the document's: messages. -/
set_option maxHeartbeats 8000000 in
theorem dMs (b : List UInt8) (cs : List PV) (hk : fMs.ok cs) (h : (b ++ fMs.en cs).length ≤ 1000000) : ACon Try.prog 26 [.p (.sl 1 (by8 b)), vOf cs] (.p (.sl 1 (by8 (b ++ fMs.en cs)))) := by
  obtain ⟨x0, x1, x2, x3, x4, x5, x6, x7, x8, x9, x10, x11, x12, x13, x14, x15, x16, x17, x18, x19, x20, x21, x22, x23, x24, x25, x26, x27, x28, x29, x30, x31, x32, x33, x34, x35, x36, x37, x38, x39, x40, x41, x42, x43, x44, x45, rfl, k0, k1, k2, k3, k4, k5, k6, k7, k8, k9, k10, k11⟩ := fMs_sh hk
  obtain ⟨hl, ho⟩ := fl_ok k7
  have hL : okI (x14.length : Int) := ⟨by omega, by omega⟩
  obtain ⟨v0, vr0⟩ := k3
  obtain ⟨v1, vr1⟩ := vr0
  obtain ⟨v2, vr2⟩ := vr1
  obtain ⟨v3, vr3⟩ := vr2
  obtain ⟨v4, vr4⟩ := vr3
  have v5 := vr4
  obtain ⟨p0, pr0⟩ := k8
  obtain ⟨p1, pr1⟩ := pr0
  obtain ⟨p2, pr2⟩ := pr1
  have p3 := pr2
  change foI.ok [I x3] at v0
  change foI.ok [I x4] at v1
  change foI.ok [I x5] at v2
  change fZx.ok [I x6, I x7] at v3
  change foI.ok [I x8] at v4
  change foI.ok [I x9] at v5
  change foI.ok [I x15] at p0
  change fZx.ok [I x16, I x17] at p1
  change fSt.ok [.sl 5 x18, .sl 1 x19, I x20, I x21, I x22, I x23, .sl 4 x24, I x25, I x26] at p2
  change (fl 8 fTx).ok [.sl 8 x27] at p3
  have hres : b ++ fMs.en [I x0, I x1, I x2, I x3, I x4, I x5, I x6, I x7, I x8, I x9, I x10, I x11, I x12, I x13, .sl 2 x14, I x15, I x16, I x17, .sl 5 x18, .sl 1 x19, I x20, I x21, I x22, I x23, .sl 4 x24, I x25, I x26, .sl 8 x27, I x28, I x29, I x30, I x31, I x32, I x33, SB x34, .sl 11 x35, .sl 1 x36, I x37, I x38, I x39, .sl 6 x40, I x41, .sl 4 x42, .sl 1 x43, I x44, I x45] = b ++ catZ [x0, x1, x2, x3, x4, x5] ++ fZx.en [I x6, I x7] ++ catZ [x8, x9, x10, x11] ++ fZx.en [I x12, I x13] ++ enc (zz (x14.length : Int)) ++ x14.flatMap fZx.en ++ foI.en [I x15] ++ fZx.en [I x16, I x17] ++ fSt.en [.sl 5 x18, .sl 1 x19, I x20, I x21, I x22, I x23, .sl 4 x24, I x25, I x26] ++ (fl 8 fTx).en [.sl 8 x27] ++ fTx.en [I x28, I x29, I x30, I x31, I x32, I x33, SB x34, .sl 11 x35] ++ (fl 1 foI).en [.sl 1 x36] ++ fRq.en [I x37, I x38, I x39, .sl 6 x40, I x41, .sl 4 x42, .sl 1 x43, I x44, I x45] := by simp only [fMs_en, fl_en, fVt_en, fPl_en, catZ2, catZ3, catZ4, catZ6, foI_en, List.append_assoc]
  rw [hres] at h ⊢
  clear hres
  have c0 := dNums b [x0, x1, x2, x3, x4, x5] (by intro n hn; simp at hn; rcases hn with rfl | rfl | rfl | rfl | rfl | rfl <;> first | exact hL | exact flO_ok _ | (simp only [← foI_ok]; assumption)) (by simp) (by simp only [List.length_append] at h ⊢; omega)
  have c1 := dZx (b ++ catZ [x0, x1, x2, x3, x4, x5]) _ v3 (by simp only [List.length_append] at h ⊢; omega)
  have c2 := dNums (b ++ catZ [x0, x1, x2, x3, x4, x5] ++ fZx.en [I x6, I x7]) [x8, x9, x10, x11] (by intro n hn; simp at hn; rcases hn with rfl | rfl | rfl | rfl <;> first | exact hL | exact flO_ok _ | (simp only [← foI_ok]; assumption)) (by simp) (by simp only [List.length_append] at h ⊢; omega)
  have c3 := dZx (b ++ catZ [x0, x1, x2, x3, x4, x5] ++ fZx.en [I x6, I x7] ++ catZ [x8, x9, x10, x11]) _ k6 (by simp only [List.length_append] at h ⊢; omega)
  have c4 := dLen (b ++ catZ [x0, x1, x2, x3, x4, x5] ++ fZx.en [I x6, I x7] ++ catZ [x8, x9, x10, x11] ++ fZx.en [I x12, I x13]) _ hL (by simp only [List.length_append] at h ⊢; omega)
  have e0 := dInt (b ++ catZ [x0, x1, x2, x3, x4, x5] ++ fZx.en [I x6, I x7] ++ catZ [x8, x9, x10, x11] ++ fZx.en [I x12, I x13] ++ enc (zz (x14.length : Int)) ++ x14.flatMap fZx.en) _ p0 (by simp only [List.length_append] at h ⊢; omega)
  have e1 := dZx (b ++ catZ [x0, x1, x2, x3, x4, x5] ++ fZx.en [I x6, I x7] ++ catZ [x8, x9, x10, x11] ++ fZx.en [I x12, I x13] ++ enc (zz (x14.length : Int)) ++ x14.flatMap fZx.en ++ foI.en [I x15]) _ p1 (by simp only [List.length_append] at h ⊢; omega)
  have e2 := dSt (b ++ catZ [x0, x1, x2, x3, x4, x5] ++ fZx.en [I x6, I x7] ++ catZ [x8, x9, x10, x11] ++ fZx.en [I x12, I x13] ++ enc (zz (x14.length : Int)) ++ x14.flatMap fZx.en ++ foI.en [I x15] ++ fZx.en [I x16, I x17]) _ p2 (by simp only [List.length_append] at h ⊢; omega)
  have e3 := dlTx (b ++ catZ [x0, x1, x2, x3, x4, x5] ++ fZx.en [I x6, I x7] ++ catZ [x8, x9, x10, x11] ++ fZx.en [I x12, I x13] ++ enc (zz (x14.length : Int)) ++ x14.flatMap fZx.en ++ foI.en [I x15] ++ fZx.en [I x16, I x17] ++ fSt.en [.sl 5 x18, .sl 1 x19, I x20, I x21, I x22, I x23, .sl 4 x24, I x25, I x26]) _ p3 (by simp only [List.length_append] at h ⊢; omega)
  have e4 := dTx (b ++ catZ [x0, x1, x2, x3, x4, x5] ++ fZx.en [I x6, I x7] ++ catZ [x8, x9, x10, x11] ++ fZx.en [I x12, I x13] ++ enc (zz (x14.length : Int)) ++ x14.flatMap fZx.en ++ foI.en [I x15] ++ fZx.en [I x16, I x17] ++ fSt.en [.sl 5 x18, .sl 1 x19, I x20, I x21, I x22, I x23, .sl 4 x24, I x25, I x26] ++ (fl 8 fTx).en [.sl 8 x27]) _ k9 (by simp only [List.length_append] at h ⊢; omega)
  have e5 := dlI (b ++ catZ [x0, x1, x2, x3, x4, x5] ++ fZx.en [I x6, I x7] ++ catZ [x8, x9, x10, x11] ++ fZx.en [I x12, I x13] ++ enc (zz (x14.length : Int)) ++ x14.flatMap fZx.en ++ foI.en [I x15] ++ fZx.en [I x16, I x17] ++ fSt.en [.sl 5 x18, .sl 1 x19, I x20, I x21, I x22, I x23, .sl 4 x24, I x25, I x26] ++ (fl 8 fTx).en [.sl 8 x27] ++ fTx.en [I x28, I x29, I x30, I x31, I x32, I x33, SB x34, .sl 11 x35]) _ k10 (by simp only [List.length_append] at h ⊢; omega)
  have e6 := dRq (b ++ catZ [x0, x1, x2, x3, x4, x5] ++ fZx.en [I x6, I x7] ++ catZ [x8, x9, x10, x11] ++ fZx.en [I x12, I x13] ++ enc (zz (x14.length : Int)) ++ x14.flatMap fZx.en ++ foI.en [I x15] ++ fZx.en [I x16, I x17] ++ fSt.en [.sl 5 x18, .sl 1 x19, I x20, I x21, I x22, I x23, .sl 4 x24, I x25, I x26] ++ (fl 8 fTx).en [.sl 8 x27] ++ fTx.en [I x28, I x29, I x30, I x31, I x32, I x33, SB x34, .sl 11 x35] ++ (fl 1 foI).en [.sl 1 x36]) _ k11 (by simp only [List.length_append] at h ⊢; omega)
  have hM : (b ++ catZ [x0, x1, x2, x3, x4, x5] ++ fZx.en [I x6, I x7] ++ catZ [x8, x9, x10, x11] ++ fZx.en [I x12, I x13] ++ enc (zz (x14.length : Int)) ++ x14.flatMap fZx.en).length ≤ 1000000 := by simp only [List.length_append] at h ⊢; omega
  generalize b ++ catZ [x0, x1, x2, x3, x4, x5] ++ fZx.en [I x6, I x7] ++ catZ [x8, x9, x10, x11] ++ fZx.en [I x12, I x13] ++ enc (zz (x14.length : Int)) ++ x14.flatMap fZx.en ++ foI.en [I x15] ++ fZx.en [I x16, I x17] ++ fSt.en [.sl 5 x18, .sl 1 x19, I x20, I x21, I x22, I x23, .sl 4 x24, I x25, I x26] ++ (fl 8 fTx).en [.sl 8 x27] ++ fTx.en [I x28, I x29, I x30, I x31, I x32, I x33, SB x34, .sl 11 x35] ++ (fl 1 foI).en [.sl 1 x36] ++ fRq.en [I x37, I x38, I x39, .sl 6 x40, I x41, .sl 4 x42, .sl 1 x43, I x44, I x45] = y7 at *
  generalize b ++ catZ [x0, x1, x2, x3, x4, x5] ++ fZx.en [I x6, I x7] ++ catZ [x8, x9, x10, x11] ++ fZx.en [I x12, I x13] ++ enc (zz (x14.length : Int)) ++ x14.flatMap fZx.en ++ foI.en [I x15] ++ fZx.en [I x16, I x17] ++ fSt.en [.sl 5 x18, .sl 1 x19, I x20, I x21, I x22, I x23, .sl 4 x24, I x25, I x26] ++ (fl 8 fTx).en [.sl 8 x27] ++ fTx.en [I x28, I x29, I x30, I x31, I x32, I x33, SB x34, .sl 11 x35] ++ (fl 1 foI).en [.sl 1 x36] = y6 at *
  generalize b ++ catZ [x0, x1, x2, x3, x4, x5] ++ fZx.en [I x6, I x7] ++ catZ [x8, x9, x10, x11] ++ fZx.en [I x12, I x13] ++ enc (zz (x14.length : Int)) ++ x14.flatMap fZx.en ++ foI.en [I x15] ++ fZx.en [I x16, I x17] ++ fSt.en [.sl 5 x18, .sl 1 x19, I x20, I x21, I x22, I x23, .sl 4 x24, I x25, I x26] ++ (fl 8 fTx).en [.sl 8 x27] ++ fTx.en [I x28, I x29, I x30, I x31, I x32, I x33, SB x34, .sl 11 x35] = y5 at *
  generalize b ++ catZ [x0, x1, x2, x3, x4, x5] ++ fZx.en [I x6, I x7] ++ catZ [x8, x9, x10, x11] ++ fZx.en [I x12, I x13] ++ enc (zz (x14.length : Int)) ++ x14.flatMap fZx.en ++ foI.en [I x15] ++ fZx.en [I x16, I x17] ++ fSt.en [.sl 5 x18, .sl 1 x19, I x20, I x21, I x22, I x23, .sl 4 x24, I x25, I x26] ++ (fl 8 fTx).en [.sl 8 x27] = y4 at *
  generalize b ++ catZ [x0, x1, x2, x3, x4, x5] ++ fZx.en [I x6, I x7] ++ catZ [x8, x9, x10, x11] ++ fZx.en [I x12, I x13] ++ enc (zz (x14.length : Int)) ++ x14.flatMap fZx.en ++ foI.en [I x15] ++ fZx.en [I x16, I x17] ++ fSt.en [.sl 5 x18, .sl 1 x19, I x20, I x21, I x22, I x23, .sl 4 x24, I x25, I x26] = y3 at *
  generalize b ++ catZ [x0, x1, x2, x3, x4, x5] ++ fZx.en [I x6, I x7] ++ catZ [x8, x9, x10, x11] ++ fZx.en [I x12, I x13] ++ enc (zz (x14.length : Int)) ++ x14.flatMap fZx.en ++ foI.en [I x15] ++ fZx.en [I x16, I x17] = y2 at *
  generalize b ++ catZ [x0, x1, x2, x3, x4, x5] ++ fZx.en [I x6, I x7] ++ catZ [x8, x9, x10, x11] ++ fZx.en [I x12, I x13] ++ enc (zz (x14.length : Int)) ++ x14.flatMap fZx.en ++ foI.en [I x15] = y1 at *
  generalize hX : b ++ catZ [x0, x1, x2, x3, x4, x5] ++ fZx.en [I x6, I x7] ++ catZ [x8, x9, x10, x11] ++ fZx.en [I x12, I x13] ++ enc (zz (x14.length : Int)) = X at *
  generalize b ++ catZ [x0, x1, x2, x3, x4, x5] ++ fZx.en [I x6, I x7] ++ catZ [x8, x9, x10, x11] ++ fZx.en [I x12, I x13] = w4 at *
  generalize b ++ catZ [x0, x1, x2, x3, x4, x5] ++ fZx.en [I x6, I x7] ++ catZ [x8, x9, x10, x11] = w3 at *
  generalize b ++ catZ [x0, x1, x2, x3, x4, x5] ++ fZx.en [I x6, I x7] = w2 at *
  generalize b ++ catZ [x0, x1, x2, x3, x4, x5] = w1 at *
  clear hX
  have hl' : x14.length < 9223372036854775808 := by omega
  simp only [vOf2]
  try simp only [ints, List.map_cons, List.map_nil] at *
  refine wBody Try.tab Try.mixed Try.func26 rfl rfl Try.ntmps26 (by simp) (by simp) fun Q hr hn => ?_
  repeat' first | (refine hK _ ?_; clear hK) | (refine hK _ _ ?_; clear hK) | (clear hK; refine hK _ ?_; clear hK) | (clear hK; clear hK; refine hK _ ?_; clear hK) | (clear hK; clear hK; clear hK; refine hK _ ?_; clear hK) | (clear hK; clear hK; clear hK; clear hK; refine hK _ ?_; clear hK) | (refine wSeq fun K hK => ?_) | ((first | refine wReg ?_ | refine wDrwQ rfl (by kernel_rfl) ?_ | refine wDrwI ?_ | refine wDrw (by kernel_rfl) ?_); simp only [List.map_cons, List.map_nil, strip]) | ((first | refine wIs fun K hK => ?_ | refine wOs fun K hK => ?_ | refine wQs fun K hK => ?_ | refine CallK_plain ?_ | refine CallQ_plain ?_ | refine CallR_plain ?_ | refine wCond ?_); simp [hl']) | (refine wIn ?_; refine And.intro (by kernel_rfl) ?_; try simp only [thenA_n]) | (first | refine wBlock ?_ | refine wScope ?_) | ((first | refine wRet ?_ | refine wExit ?_ | refine wSkip ?_); try simp) | ((first | refine wLabel ?_ | refine wOn ?_ | refine wQn ?_); try simp only [thenA_n]) | (refine CallE.pure (c0) rfl ?_) | (refine CallE.lent (c0) rfl ?_) | (refine CallF.pure (c0) rfl ?_) | (refine CallF.lent (c0) rfl ?_) | (refine CallE.own (c0) ?_) | (refine CallH.pure (c0) rfl ?_) | (refine CallH.lent (c0) rfl ?_) | (refine CallH.own (c0) ?_) | (refine CallE.pure (c1) rfl ?_) | (refine CallE.lent (c1) rfl ?_) | (refine CallF.pure (c1) rfl ?_) | (refine CallF.lent (c1) rfl ?_) | (refine CallE.own (c1) ?_) | (refine CallH.pure (c1) rfl ?_) | (refine CallH.lent (c1) rfl ?_) | (refine CallH.own (c1) ?_) | (refine CallE.pure (c2) rfl ?_) | (refine CallE.lent (c2) rfl ?_) | (refine CallF.pure (c2) rfl ?_) | (refine CallF.lent (c2) rfl ?_) | (refine CallE.own (c2) ?_) | (refine CallH.pure (c2) rfl ?_) | (refine CallH.lent (c2) rfl ?_) | (refine CallH.own (c2) ?_) | (refine CallE.pure (c3) rfl ?_) | (refine CallE.lent (c3) rfl ?_) | (refine CallF.pure (c3) rfl ?_) | (refine CallF.lent (c3) rfl ?_) | (refine CallE.own (c3) ?_) | (refine CallH.pure (c3) rfl ?_) | (refine CallH.lent (c3) rfl ?_) | (refine CallH.own (c3) ?_) | (refine CallE.pure (c4) rfl ?_) | (refine CallE.lent (c4) rfl ?_) | (refine CallF.pure (c4) rfl ?_) | (refine CallF.lent (c4) rfl ?_) | (refine CallE.own (c4) ?_) | (refine CallH.pure (c4) rfl ?_) | (refine CallH.lent (c4) rfl ?_) | (refine CallH.own (c4) ?_)
  refine wLoop (fun N st => ∃ k, k + N = x14.length ∧ st.s 0 = .p (.sl 1 (by8 (X ++ (x14.take k).flatMap fZx.en))) ∧ st.s 3 = .ptr 3 0 ∧ st.b 3 = some (.box 51 [.p (I x0), .p (I x1), .p (I x2), .p (I x3), .p (I x4), .p (I x5), .p (I x6), .p (I x7), .p (I x8), .p (I x9), .p (I x10), .p (I x11), .p (I x12), .p (I x13), .p (.sl 2 x14), .p (I x15), .p (I x16), .p (I x17), .p (.sl 5 x18), .p (.sl 1 x19), .p (I x20), .p (I x21), .p (I x22), .p (I x23), .p (.sl 4 x24), .p (I x25), .p (I x26), .p (.sl 8 x27), .p (I x28), .p (I x29), .p (I x30), .p (I x31), .p (I x32), .p (I x33), .p (SB x34), .p (.sl 11 x35), .p (.sl 1 x36), .p (I x37), .p (I x38), .p (I x39), .p (.sl 6 x40), .p (I x41), .p (.sl 4 x42), .p (.sl 1 x43), .p (I x44), .p (I x45)]) ∧ st.s 51 = .p (.sl 2 x14) ∧ st.s 52 = .p (I x14.length) ∧ st.s 53 = .p (I k)) x14.length ⟨0, by simp⟩ fun K N st hL2 ⟨k, hk, g0, g3, b3, gl, gn, gi⟩ => ?_
  by_cases hlt : k < x14.length
  · have hlt' : (k : Int) < x14.length := by omega
    have hw := wrapS k _ hlt (by omega)
    have hok := ho x14[k] (List.getElem_mem hlt)
    have hgoal : X ++ (x14.take (k + 1)).flatMap fZx.en = X ++ (x14.take k).flatMap fZx.en ++ fZx.en x14[k] := by rw [flatMap_snoc hlt, List.append_assoc]
    have hpl2 : (X ++ (x14.take k).flatMap fZx.en ++ fZx.en x14[k]).length ≤ 1000000 := by rw [← hgoal]; have := flatMap_take_le fZx.en x14 (k + 1); simp only [List.length_append] at hM ⊢; omega
    have he : x14[k]? = some x14[k] := List.getElem?_eq_getElem hlt
    generalize hQ : x14[k] = r at *
    generalize X ++ (x14.take k).flatMap fZx.en = Y at *
    have d0 := dZx Y _ hok hpl2
    obtain ⟨z0, z1, rfl, -⟩ := fZx_sh hok
    generalize Y ++ fZx.en [I z0, I z1] = Y1 at *
    simp only [vOf2] at d0
    repeat' first | (refine hK _ ?_; clear hK) | (refine hK _ _ ?_; clear hK) | (clear hK; refine hK _ ?_; clear hK) | (clear hK; clear hK; refine hK _ ?_; clear hK) | (clear hK; clear hK; clear hK; refine hK _ ?_; clear hK) | (clear hK; clear hK; clear hK; clear hK; refine hK _ ?_; clear hK) | (refine wSeq fun K hK => ?_) | ((first | refine wReg ?_ | refine wDrwQ rfl (by kernel_rfl) ?_ | refine wDrwI ?_ | refine wDrw (by kernel_rfl) ?_); simp only [List.map_cons, List.map_nil, strip]) | ((first | refine wIs fun K hK => ?_ | refine wOs fun K hK => ?_ | refine wQs fun K hK => ?_ | refine CallK_plain ?_ | refine CallQ_plain ?_ | refine CallR_plain ?_ | refine wCond ?_); simp [g0, g3, b3, gl, gn, gi, hlt, hlt', hw, he, hQ]) | (refine wIn ?_; refine And.intro (by kernel_rfl) ?_; try simp only [thenA_n]) | (first | refine wBlock ?_ | refine wScope ?_) | ((first | refine wRet ?_ | refine wExit ?_ | refine wSkip ?_); try simp) | ((first | refine wLabel ?_ | refine wOn ?_ | refine wQn ?_); try simp only [thenA_n]) | (refine CallE.pure (d0) rfl ?_) | (refine CallE.lent (d0) rfl ?_) | (refine CallF.pure (d0) rfl ?_) | (refine CallF.lent (d0) rfl ?_) | (refine CallE.own (d0) ?_) | (refine CallH.pure (d0) rfl ?_) | (refine CallH.lent (d0) rfl ?_) | (refine CallH.own (d0) ?_)
    refine hL2 _ (N - 1) (by omega) ⟨k + 1, by omega, ?_⟩
    rw [hgoal]
    simp [g0, g3, b3, gl, gn, gi, hw]
  · have hlt' : ¬ (k : Int) < x14.length := by omega
    rw [List.take_of_length_le (by omega)] at g0
    repeat' first | (refine hK _ ?_; clear hK) | (refine hK _ _ ?_; clear hK) | (clear hK; refine hK _ ?_; clear hK) | (clear hK; clear hK; refine hK _ ?_; clear hK) | (clear hK; clear hK; clear hK; refine hK _ ?_; clear hK) | (clear hK; clear hK; clear hK; clear hK; refine hK _ ?_; clear hK) | (refine wSeq fun K hK => ?_) | ((first | refine wReg ?_ | refine wDrwQ rfl (by kernel_rfl) ?_ | refine wDrwI ?_ | refine wDrw (by kernel_rfl) ?_); simp only [List.map_cons, List.map_nil, strip]) | ((first | refine wIs fun K hK => ?_ | refine wOs fun K hK => ?_ | refine wQs fun K hK => ?_ | refine CallK_plain ?_ | refine CallQ_plain ?_ | refine CallR_plain ?_ | refine wCond ?_); simp [g0, g3, b3, gl, gn, gi, hlt, hlt']) | (refine wIn ?_; refine And.intro (by kernel_rfl) ?_; try simp only [thenA_n]) | (first | refine wBlock ?_ | refine wScope ?_) | ((first | refine wRet ?_ | refine wExit ?_ | refine wSkip ?_); try simp) | ((first | refine wLabel ?_ | refine wOn ?_ | refine wQn ?_); try simp only [thenA_n]) | (refine CallE.pure (e0) rfl ?_) | (refine CallE.lent (e0) rfl ?_) | (refine CallF.pure (e0) rfl ?_) | (refine CallF.lent (e0) rfl ?_) | (refine CallE.own (e0) ?_) | (refine CallH.pure (e0) rfl ?_) | (refine CallH.lent (e0) rfl ?_) | (refine CallH.own (e0) ?_) | (refine CallE.pure (e1) rfl ?_) | (refine CallE.lent (e1) rfl ?_) | (refine CallF.pure (e1) rfl ?_) | (refine CallF.lent (e1) rfl ?_) | (refine CallE.own (e1) ?_) | (refine CallH.pure (e1) rfl ?_) | (refine CallH.lent (e1) rfl ?_) | (refine CallH.own (e1) ?_) | (refine CallE.pure (e2) rfl ?_) | (refine CallE.lent (e2) rfl ?_) | (refine CallF.pure (e2) rfl ?_) | (refine CallF.lent (e2) rfl ?_) | (refine CallE.own (e2) ?_) | (refine CallH.pure (e2) rfl ?_) | (refine CallH.lent (e2) rfl ?_) | (refine CallH.own (e2) ?_) | (refine CallE.pure (e3) rfl ?_) | (refine CallE.lent (e3) rfl ?_) | (refine CallF.pure (e3) rfl ?_) | (refine CallF.lent (e3) rfl ?_) | (refine CallE.own (e3) ?_) | (refine CallH.pure (e3) rfl ?_) | (refine CallH.lent (e3) rfl ?_) | (refine CallH.own (e3) ?_) | (refine CallE.pure (e4) rfl ?_) | (refine CallE.lent (e4) rfl ?_) | (refine CallF.pure (e4) rfl ?_) | (refine CallF.lent (e4) rfl ?_) | (refine CallE.own (e4) ?_) | (refine CallH.pure (e4) rfl ?_) | (refine CallH.lent (e4) rfl ?_) | (refine CallH.own (e4) ?_) | (refine CallE.pure (e5) rfl ?_) | (refine CallE.lent (e5) rfl ?_) | (refine CallF.pure (e5) rfl ?_) | (refine CallF.lent (e5) rfl ?_) | (refine CallE.own (e5) ?_) | (refine CallH.pure (e5) rfl ?_) | (refine CallH.lent (e5) rfl ?_) | (refine CallH.own (e5) ?_) | (refine CallE.pure (e6) rfl ?_) | (refine CallE.lent (e6) rfl ?_) | (refine CallF.pure (e6) rfl ?_) | (refine CallF.lent (e6) rfl ?_) | (refine CallE.own (e6) ?_) | (refine CallH.pure (e6) rfl ?_) | (refine CallH.lent (e6) rfl ?_) | (refine CallH.own (e6) ?_)
    all_goals apply hr
    all_goals simp [Try.f26, g0]
/- Messages that are the same. -/
theorem vOf_cells (m : Mq) : vOf m.cells = .p (.agg m.cells) := by
  unfold Mq.cells
  cases hr : m.r with
  | nil => have := m.h; rw [hr] at this; cases this
  | cons x l => rfl
theorem sameM_con (m : Mq) (hk : fMs.ok m.cells) (hw : w5Ms m.cells ≤ 700) : ACon Try.prog 10 [.p (.agg m.cells), .p (.agg m.cells)] (.p (B true)) := by
  have c := dMs [] m.cells hk (by have := en5 hk hw; simp; omega)
  rw [vOf_cells, List.nil_append, show by8 [] = [] from rfl] at c
  have u := unL_by8 (fMs.en m.cells)
  have s := strOf_by8 (fMs.en m.cells)
  generalize fMs.en m.cells = z at *
  refine wBody Try.tab Try.mixed Try.func10 rfl rfl Try.ntmps10 (by simp) (by simp) fun Q hr hn => ?_
  repeat' first | (refine hK _ ?_; clear hK) | (refine hK _ _ ?_; clear hK) | (clear hK; refine hK _ ?_; clear hK) | (clear hK; clear hK; refine hK _ ?_; clear hK) | (clear hK; clear hK; clear hK; refine hK _ ?_; clear hK) | (clear hK; clear hK; clear hK; clear hK; refine hK _ ?_; clear hK) | (refine wSeq fun K hK => ?_) | ((first | refine wReg ?_ | refine wDrwQ rfl (by kernel_rfl) ?_ | refine wDrwI ?_ | refine wDrw (by kernel_rfl) ?_); simp only [List.map_cons, List.map_nil, strip]) | ((first | refine wIs fun K hK => ?_ | refine wOs fun K hK => ?_ | refine wQs fun K hK => ?_ | refine CallK_plain ?_ | refine CallQ_plain ?_ | refine CallR_plain ?_ | refine wCond ?_); simp [u, s]) | (refine wIn ?_; refine And.intro (by kernel_rfl) ?_; try simp only [thenA_n]) | (first | refine wBlock ?_ | refine wScope ?_) | ((first | refine wRet ?_ | refine wExit ?_ | refine wSkip ?_); try simp) | ((first | refine wLabel ?_ | refine wOn ?_ | refine wQn ?_); try simp only [thenA_n]) | (refine CallE.pure (c) rfl ?_) | (refine CallE.lent (c) rfl ?_) | (refine CallF.pure (c) rfl ?_) | (refine CallF.lent (c) rfl ?_) | (refine CallE.own (c) ?_) | (refine CallH.pure (c) rfl ?_) | (refine CallH.lent (c) rfl ?_) | (refine CallH.own (c) ?_)
  all_goals apply hr
  all_goals simp [Try.f10, u, s]
theorem sameMs_con (l : List Mq) (hk : ∀ m ∈ l, fMs.ok m.cells ∧ w5Ms m.cells ≤ 700) (hl : l.length ≤ 1048576) : ACon Try.prog 11 [.p (.sl 46 (mqs l)), .p (.sl 46 (mqs l))] (.p (B true)) := by
  refine wBody Try.tab Try.mixed Try.func11 rfl rfl Try.ntmps11 (by simp) (by simp) fun Q hr hn => ?_
  repeat' first | (refine hK _ ?_; clear hK) | (refine hK _ _ ?_; clear hK) | (clear hK; refine hK _ ?_; clear hK) | (clear hK; clear hK; refine hK _ ?_; clear hK) | (clear hK; clear hK; clear hK; refine hK _ ?_; clear hK) | (clear hK; clear hK; clear hK; clear hK; refine hK _ ?_; clear hK) | (refine wSeq fun K hK => ?_) | ((first | refine wReg ?_ | refine wDrwQ rfl (by kernel_rfl) ?_ | refine wDrwI ?_ | refine wDrw (by kernel_rfl) ?_); simp only [List.map_cons, List.map_nil, strip]) | ((first | refine wIs fun K hK => ?_ | refine wOs fun K hK => ?_ | refine wQs fun K hK => ?_ | refine CallK_plain ?_ | refine CallQ_plain ?_ | refine CallR_plain ?_ | refine wCond ?_); simp) | (refine wIn ?_; refine And.intro (by kernel_rfl) ?_; try simp only [thenA_n]) | (first | refine wBlock ?_ | refine wScope ?_) | ((first | refine wRet ?_ | refine wExit ?_ | refine wSkip ?_); try simp) | ((first | refine wLabel ?_ | refine wOn ?_ | refine wQn ?_); try simp only [thenA_n])
  refine wLoop (fun N st => ∃ k, k + N = l.length ∧ st.s 0 = .p (.sl 46 (mqs l)) ∧ st.s 1 = .p (.sl 46 (mqs l)) ∧ st.s 12 = .p (I l.length) ∧ st.s 13 = .p (I k)) l.length ⟨0, by simp⟩ fun K N st hL ⟨k, hk2, g0, g1, g12, g13⟩ => ?_
  by_cases hlt : k < l.length
  · have hlt' : (k : Int) < l.length := by omega
    have hw := wrapS k _ hlt (by omega)
    have he := mqs_get hlt
    obtain ⟨q1, q2⟩ := hk _ (List.getElem_mem hlt)
    have c := sameM_con l[k] q1 q2
    generalize hQ : l[k] = m at *
    repeat' first | (refine hK _ ?_; clear hK) | (refine hK _ _ ?_; clear hK) | (clear hK; refine hK _ ?_; clear hK) | (clear hK; clear hK; refine hK _ ?_; clear hK) | (clear hK; clear hK; clear hK; refine hK _ ?_; clear hK) | (clear hK; clear hK; clear hK; clear hK; refine hK _ ?_; clear hK) | (refine wSeq fun K hK => ?_) | ((first | refine wReg ?_ | refine wDrwQ rfl (by kernel_rfl) ?_ | refine wDrwI ?_ | refine wDrw (by kernel_rfl) ?_); simp only [List.map_cons, List.map_nil, strip]) | ((first | refine wIs fun K hK => ?_ | refine wOs fun K hK => ?_ | refine wQs fun K hK => ?_ | refine CallK_plain ?_ | refine CallQ_plain ?_ | refine CallR_plain ?_ | refine wCond ?_); simp [g0, g1, g12, g13, hlt, hlt', hw, he, hQ]) | (refine wIn ?_; refine And.intro (by kernel_rfl) ?_; try simp only [thenA_n]) | (first | refine wBlock ?_ | refine wScope ?_) | ((first | refine wRet ?_ | refine wExit ?_ | refine wSkip ?_); try simp) | ((first | refine wLabel ?_ | refine wOn ?_ | refine wQn ?_); try simp only [thenA_n]) | (refine CallE.pure (c) rfl ?_) | (refine CallE.lent (c) rfl ?_) | (refine CallF.pure (c) rfl ?_) | (refine CallF.lent (c) rfl ?_) | (refine CallE.own (c) ?_) | (refine CallH.pure (c) rfl ?_) | (refine CallH.lent (c) rfl ?_) | (refine CallH.own (c) ?_)
    refine hL _ (N - 1) (by omega) ⟨k + 1, by omega, ?_⟩
    simp [g0, g1, g12, g13, hw]
  · have hlt' : ¬ (k : Int) < l.length := by omega
    repeat' first | (refine hK _ ?_; clear hK) | (refine hK _ _ ?_; clear hK) | (clear hK; refine hK _ ?_; clear hK) | (clear hK; clear hK; refine hK _ ?_; clear hK) | (clear hK; clear hK; clear hK; refine hK _ ?_; clear hK) | (clear hK; clear hK; clear hK; clear hK; refine hK _ ?_; clear hK) | (refine wSeq fun K hK => ?_) | ((first | refine wReg ?_ | refine wDrwQ rfl (by kernel_rfl) ?_ | refine wDrwI ?_ | refine wDrw (by kernel_rfl) ?_); simp only [List.map_cons, List.map_nil, strip]) | ((first | refine wIs fun K hK => ?_ | refine wOs fun K hK => ?_ | refine wQs fun K hK => ?_ | refine CallK_plain ?_ | refine CallQ_plain ?_ | refine CallR_plain ?_ | refine wCond ?_); simp [g0, g1, g12, g13, hlt, hlt']) | (refine wIn ?_; refine And.intro (by kernel_rfl) ?_; try simp only [thenA_n]) | (first | refine wBlock ?_ | refine wScope ?_) | ((first | refine wRet ?_ | refine wExit ?_ | refine wSkip ?_); try simp) | ((first | refine wLabel ?_ | refine wOn ?_ | refine wQn ?_); try simp only [thenA_n])
    all_goals apply hr
    all_goals simp [Try.f11]
end Go.Proofs.Ytechjohebkcjiaa
