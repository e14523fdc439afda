/- Texts that the proof needs: RG3b RGB CEB CI CJ CL CM CK CN CP JB1 CT. -/
import Derived.Test.YtbeofcbehhljdaaGreatDoorP27JournalCrash
import Derived.Test.YtbeofcbehhljdaaGreatDoorP26JournalCrash
import Derived.Test.YtbeofcbehhljdaaGreatDoorP24JournalCrash
namespace Go.Proofs.YtbeofcbehhljdaaGreatDoor
set_option linter.unusedSimpArgs false
set_option linter.unusedVariables false
set_option maxRecDepth 8000
open Go Go.Av
attribute [local irreducible] Go.Av.CallK Go.Av.CallE Go.Av.CallQ Go.Av.CallF Go.Av.CallR Go.Av.CallH Go.Av.Con
set_option maxHeartbeats 2000000 in
theorem wPt (b : List UInt8) (cs : List PV) (hk : fPt.ok cs) (h : (b ++ fPt.en cs).length <= 30000000) : WCon 61 [vOf cs] b (b ++ fPt.en cs) := by
 obtain ⟨x0, x1, x2, x3, x4, x5, x6, x7, x8, x9, x10, rfl, k0, k1, k2, k3⟩ := fPt_sh hk
 have hres : b ++ fPt.en [I x0, SB x1, SB x2, I x3, I x4, I x5, I x6, I x7, I x8, I x9, .sl 4 x10] = b ++ foI.en [I x0] ++ fNd.en [SB x1, SB x2, I x3, I x4, I x5] ++ foI.en [I x6] ++ fCf.en [I x7, I x8, I x9, .sl 4 x10] := by rw [fPt_en]; simp only [catI2, catI3, catI4, List.append_assoc]
 rw [hres] at h ⊢
 clear hres
 have c0 := wnumF b x0 k0 (by simp only [List.length_append] at h ⊢; omega)
 have c1 := wNd (b ++ foI.en [I x0]) _ k1 (by simp only [List.length_append] at h ⊢; omega)
 have c2 := wnumF (b ++ foI.en [I x0] ++ fNd.en [SB x1, SB x2, I x3, I x4, I x5]) x6 k2 (by simp only [List.length_append] at h ⊢; omega)
 have c3 := wCf (b ++ foI.en [I x0] ++ fNd.en [SB x1, SB x2, I x3, I x4, I x5] ++ foI.en [I x6]) _ k3 h
 generalize b ++ foI.en [I x0] ++ fNd.en [SB x1, SB x2, I x3, I x4, I x5] ++ foI.en [I x6] ++ fCf.en [I x7, I x8, I x9, .sl 4 x10] = y4 at *
 generalize b ++ foI.en [I x0] ++ fNd.en [SB x1, SB x2, I x3, I x4, I x5] ++ foI.en [I x6] = y3 at *
 generalize b ++ foI.en [I x0] ++ fNd.en [SB x1, SB x2, I x3, I x4, I x5] = y2 at *
 generalize b ++ foI.en [I x0] = y1 at *
 simp only [vOf2, ints, List.map_cons, List.map_nil] at *
 refine wBodyG Tryz.tab Tryz.mixed Tryz.func61 rfl rfl Tryz.ntmps61 (by simp) (by simp) fun Q hr hn hp => ?_
 repeat' first | (refine CallK_gen [1024, 1025] c0 (by decide) (by decide) (by simp [blksOf, inN, pos, renB, ren0, ouN, lv, kpI, kpR]) (by simp [argsG, argG, ren0, inN, pos, renCs, renC]) ⟨[], by simp, by simp, ?_⟩; simp [lv, ouN, kpI, kpR, pos, ren, ren0, renB, renC, renCs]; clear c0) | (refine CallK_gen [1024, 1025] c1 (by decide) (by decide) (by simp [blksOf, inN, pos, renB, ren0, ouN, lv, kpI, kpR]) (by simp [argsG, argG, ren0, inN, pos, renCs, renC]) ⟨[], by simp, by simp, ?_⟩; simp [lv, ouN, kpI, kpR, pos, ren, ren0, renB, renC, renCs]; clear c1) | (refine CallK_gen [1024, 1025] c2 (by decide) (by decide) (by simp [blksOf, inN, pos, renB, ren0, ouN, lv, kpI, kpR]) (by simp [argsG, argG, ren0, inN, pos, renCs, renC]) ⟨[], by simp, by simp, ?_⟩; simp [lv, ouN, kpI, kpR, pos, ren, ren0, renB, renC, renCs]; clear c2) | (refine CallK_gen [1024, 1025] c3 (by decide) (by decide) (by simp [blksOf, inN, pos, renB, ren0, ouN, lv, kpI, kpR]) (by simp [argsG, argG, ren0, inN, pos, renCs, renC]) ⟨[], by simp, by simp, ?_⟩; simp [lv, ouN, kpI, kpR, pos, ren, ren0, renB, renC, renCs]; clear c3) | (refine hK _ ?_; clear hK) | (refine hK _ _ ?_; clear hK) | (clear hK; refine hK _ ?_; clear hK) | (clear hK; clear hK; refine hK _ ?_; clear hK) | (clear hK; clear hK; clear hK; refine hK _ ?_; clear hK) | (clear hK; clear hK; clear hK; clear hK; refine hK _ ?_; clear hK) | (refine wSeq fun K hK => ?_) | ((first | refine wReg ?_ | refine wDrwQ rfl (by kernel_rfl) ?_ | refine wDrwI ?_ | refine wDrw (by kernel_rfl) ?_); simp only [List.map_cons, List.map_nil, strip]) | ((first | refine wIs fun K hK => ?_ | refine wOs fun K hK => ?_ | refine wQs fun K hK => ?_ | refine CallK_plain ?_ | refine CallQ_plain ?_ | refine CallR_plain ?_ | refine wCond ?_); simp [lv, ouN, kpI, kpR, pos, ren, ren0, renB, renC, renCs]) | (refine wIn ?_; refine And.intro (by kernel_rfl) ?_; try simp only [thenA_n]) | (first | refine wBlock ?_ | refine wScope ?_) | ((first | refine wRet ?_ | refine wExit ?_ | refine wSkip ?_); try simp) | ((first | refine wLabel ?_ | refine wOn ?_ | refine wQn ?_); try simp only [thenA_n])
 all_goals first | apply hn | apply hr
 all_goals refine ⟨[], by simp, by simp, ?_⟩
 all_goals simp [Tryz.f61, outR, outB, renB, gaN, lv, ouN, kpI, kpR, pos, ren, ren0, renC, renCs]
set_option maxHeartbeats 2000000 in
theorem wlPt (b : List UInt8) (rows : List (List PV)) (hk : (fl 11 fPt).ok [.sl 11 rows]) (h : (b ++ (fl 11 fPt).en [.sl 11 rows]).length <= 30000000) : WCon 60 [.p (.sl 11 rows), .p (.v (.func (.func 61) #[] #[]))] b (b ++ (fl 11 fPt).en [.sl 11 rows]) := by
 obtain ⟨hl, ho⟩ := fl_ok hk
 rw [fl_en, <- List.append_assoc] at h ⊢
 have hL : okI (rows.length : Int) := ⟨by omega, by omega⟩
 have c0 := wnumF b rows.length (foI_ok.2 hL) (by rw [foI_en]; simp only [List.length_append] at h ⊢; omega)
 rw [foI_en] at c0
 generalize b ++ enc (zz (rows.length : Int)) = b2 at *
 refine wBodyG Tryz.tab Tryz.mixed Tryz.func60 rfl rfl Tryz.ntmps60 (by simp) (by simp) fun Q hr hn hp => ?_
 repeat' first | (refine CallK_gen [1024, 1025] c0 (by decide) (by decide) (by simp [blksOf, inN, pos, renB, ren0, ouN, lv, kpI, kpR]) (by simp [argsG, argG, ren0, inN, pos, renCs, renC]) ⟨[], by simp, by simp, ?_⟩; simp [lv, ouN, kpI, kpR, pos, ren, ren0, renB, renC, renCs]; clear c0) | (refine hK _ ?_; clear hK) | (refine hK _ _ ?_; clear hK) | (clear hK; refine hK _ ?_; clear hK) | (clear hK; clear hK; refine hK _ ?_; clear hK) | (clear hK; clear hK; clear hK; refine hK _ ?_; clear hK) | (clear hK; clear hK; clear hK; clear hK; refine hK _ ?_; clear hK) | (refine wSeq fun K hK => ?_) | ((first | refine wReg ?_ | refine wDrwQ rfl (by kernel_rfl) ?_ | refine wDrwI ?_ | refine wDrw (by kernel_rfl) ?_); simp only [List.map_cons, List.map_nil, strip]) | ((first | refine wIs fun K hK => ?_ | refine wOs fun K hK => ?_ | refine wQs fun K hK => ?_ | refine CallK_plain ?_ | refine CallQ_plain ?_ | refine CallR_plain ?_ | refine wCond ?_); simp [lv, ouN, kpI, kpR, pos, ren, ren0, renB, renC, renCs]) | (refine wIn ?_; refine And.intro (by kernel_rfl) ?_; try simp only [thenA_n]) | (first | refine wBlock ?_ | refine wScope ?_) | ((first | refine wRet ?_ | refine wExit ?_ | refine wSkip ?_); try simp) | ((first | refine wLabel ?_ | refine wOn ?_ | refine wQn ?_); try simp only [thenA_n])
 refine wLoop (fun N st => ∃ k p, k + N = rows.length /\ p = b2 ++ (rows.take k).flatMap fPt.en /\ st.s 0 = .ptr 1024 0 /\ st.s 2 = .p (.v (.func (.func 61) #[] #[])) /\ st.s 12 = .p (.sl 11 rows) /\ st.s 13 = .p (I rows.length) /\ st.s 14 = .p (I k) /\ st.b 1024 = some (.box 113 [.row 1025]) /\ st.b 1025 = some (.row 5 1 (by8 p))) rows.length ⟨0, b2, by simp [lv, ouN, kpI, kpR, pos, ren, ren0, renB, renC, renCs]⟩ fun K N st hL ⟨k, p, hk, hp, g0, g2, g12, g13, g14, b0, b1⟩ => ?_
 by_cases hlt : k < rows.length
 ·have hlt' : (k : Int) < rows.length := by omega
  have hw := wrapS k _ hlt (by omega)
  have hok := ho rows[k] (List.getElem_mem hlt)
  have hpp : p ++ fPt.en rows[k] = b2 ++ (rows.take (k + 1)).flatMap fPt.en := by rw [flatMap_snoc hlt, hp, List.append_assoc]
  have hpl2 : (p ++ fPt.en rows[k]).length <= 30000000 := by rw [hpp]; have := flatMap_take_le fPt.en rows (k + 1); simp only [List.length_append] at h ⊢; omega
  have he : rows[k]? = some rows[k] := List.getElem?_eq_getElem hlt
  generalize hQ : rows[k] = r at *
  obtain ⟨x0, x1, x2, x3, x4, x5, x6, x7, x8, x9, x10, rfl, -⟩ := fPt_sh hok
  have c := wPt p _ hok hpl2
  generalize p ++ fPt.en [I x0, SB x1, SB x2, I x3, I x4, I x5, I x6, I x7, I x8, I x9, .sl 4 x10] = p2 at c hpp hpl2
  try simp only [vOf1, vOf2] at c
  repeat' first | (refine CallK_gen [1024, 1025] c (by decide) (by decide) (by simp [blksOf, inN, pos, renB, ren0, ouN, lv, kpI, kpR, b0, b1]) (by simp [argsG, argG, ren0, inN, pos, renCs, renC]) ⟨[], by simp, by simp, ?_⟩; simp [lv, ouN, kpI, kpR, pos, ren, ren0, renB, renC, renCs, b0, b1]) | (refine hK _ ?_; clear hK) | (refine hK _ _ ?_; clear hK) | (clear hK; refine hK _ ?_; clear hK) | (clear hK; clear hK; refine hK _ ?_; clear hK) | (clear hK; clear hK; clear hK; refine hK _ ?_; clear hK) | (clear hK; clear hK; clear hK; clear hK; refine hK _ ?_; clear hK) | (refine wSeq fun K hK => ?_) | ((first | refine wReg ?_ | refine wDrwQ rfl (by kernel_rfl) ?_ | refine wDrwI ?_ | refine wDrw (by kernel_rfl) ?_); simp only [List.map_cons, List.map_nil, strip]) | ((first | refine wIs fun K hK => ?_ | refine wOs fun K hK => ?_ | refine wQs fun K hK => ?_ | refine CallK_plain ?_ | refine CallQ_plain ?_ | refine CallR_plain ?_ | refine wCond ?_); simp [g0, g2, g12, g13, g14, b0, b1, hlt, hlt', hw, he, hQ]) | (refine wIn ?_; refine And.intro (by kernel_rfl) ?_; try simp only [thenA_n]) | (first | refine wBlock ?_ | refine wScope ?_) | ((first | refine wRet ?_ | refine wExit ?_ | refine wSkip ?_); try simp) | ((first | refine wLabel ?_ | refine wOn ?_ | refine wQn ?_); try simp only [thenA_n])
  refine hL _ (N - 1) (by omega) ⟨k + 1, p2, by omega, hpp, ?_⟩
  simp [g0, g2, g12, g13, g14, b0, b1, hw, lv, ouN, kpI, kpR, pos, ren, ren0, renB, renC, renCs]
 ·have hlt' : ¬ (k : Int) < rows.length := by omega
  rw [List.take_of_length_le (by omega)] at hp
  subst hp
  repeat' first | (refine hK _ ?_; clear hK) | (refine hK _ _ ?_; clear hK) | (clear hK; refine hK _ ?_; clear hK) | (clear hK; clear hK; refine hK _ ?_; clear hK) | (clear hK; clear hK; clear hK; refine hK _ ?_; clear hK) | (clear hK; clear hK; clear hK; clear hK; refine hK _ ?_; clear hK) | (refine wSeq fun K hK => ?_) | ((first | refine wReg ?_ | refine wDrwQ rfl (by kernel_rfl) ?_ | refine wDrwI ?_ | refine wDrw (by kernel_rfl) ?_); simp only [List.map_cons, List.map_nil, strip]) | ((first | refine wIs fun K hK => ?_ | refine wOs fun K hK => ?_ | refine wQs fun K hK => ?_ | refine CallK_plain ?_ | refine CallQ_plain ?_ | refine CallR_plain ?_ | refine wCond ?_); simp [g0, g2, g12, g13, g14, b0, b1, hlt, hlt']) | (refine wIn ?_; refine And.intro (by kernel_rfl) ?_; try simp only [thenA_n]) | (first | refine wBlock ?_ | refine wScope ?_) | ((first | refine wRet ?_ | refine wExit ?_ | refine wSkip ?_); try simp) | ((first | refine wLabel ?_ | refine wOn ?_ | refine wQn ?_); try simp only [thenA_n])
  all_goals first | apply hn | apply hr
  all_goals refine ⟨[], by simp, by simp, ?_⟩
  all_goals simp [Tryz.f60, outR, outB, renB, gaN, b0, b1]
set_option maxHeartbeats 2000000 in
theorem wTx (b : List UInt8) (cs : List PV) (hk : fTx.ok cs) (h : (b ++ fTx.en cs).length <= 30000000) : WCon 48 [vOf cs] b (b ++ fTx.en cs) := by
 obtain ⟨x0, x1, x2, x3, x4, x5, x6, x7, rfl, k0, k1, k2, k3, k4, k5, k6⟩ := fTx_sh hk
 have hres : b ++ fTx.en [I x0, I x1, I x2, I x3, I x4, I x5, SB x6, .sl 11 x7] = b ++ fZx.en [I x0, I x1] ++ catI [x2, x3, x4, x5] ++ foS.en [SB x6] ++ (fl 11 fPt).en [.sl 11 x7] := by rw [fTx_en]; simp only [catI2, catI3, catI4, List.append_assoc]
 rw [hres] at h ⊢
 clear hres
 have c0 := wZx b _ k0 (by simp only [List.length_append] at h ⊢; omega)
 have c1 := wnumsF (b ++ fZx.en [I x0, I x1]) [x2, x3, x4, x5] (by intro n hn; simp at hn; rcases hn with rfl | rfl | rfl | rfl <;> simp only [<- foI_ok] <;> assumption) (by simp) (by simp only [List.length_append] at h ⊢; omega)
 have c2 := wtextF (b ++ fZx.en [I x0, I x1] ++ catI [x2, x3, x4, x5]) x6 k5 (by simp only [List.length_append] at h ⊢; omega)
 have c3 := wlPt (b ++ fZx.en [I x0, I x1] ++ catI [x2, x3, x4, x5] ++ foS.en [SB x6]) x7 k6 h
 generalize b ++ fZx.en [I x0, I x1] ++ catI [x2, x3, x4, x5] ++ foS.en [SB x6] ++ (fl 11 fPt).en [.sl 11 x7] = y4 at *
 generalize b ++ fZx.en [I x0, I x1] ++ catI [x2, x3, x4, x5] ++ foS.en [SB x6] = y3 at *
 generalize b ++ fZx.en [I x0, I x1] ++ catI [x2, x3, x4, x5] = y2 at *
 generalize b ++ fZx.en [I x0, I x1] = y1 at *
 simp only [vOf2, ints, List.map_cons, List.map_nil] at *
 refine wBodyG Tryz.tab Tryz.mixed Tryz.func48 rfl rfl Tryz.ntmps48 (by simp) (by simp) fun Q hr hn hp => ?_
 repeat' first | (refine CallK_gen [1024, 1025] c0 (by decide) (by decide) (by simp [blksOf, inN, pos, renB, ren0, ouN, lv, kpI, kpR]) (by simp [argsG, argG, ren0, inN, pos, renCs, renC]) ⟨[], by simp, by simp, ?_⟩; simp [lv, ouN, kpI, kpR, pos, ren, ren0, renB, renC, renCs]; clear c0) | (refine CallK_gen [1024, 1025] c1 (by decide) (by decide) (by simp [blksOf, inN, pos, renB, ren0, ouN, lv, kpI, kpR]) (by simp [argsG, argG, ren0, inN, pos, renCs, renC]) ⟨[], by simp, by simp, ?_⟩; simp [lv, ouN, kpI, kpR, pos, ren, ren0, renB, renC, renCs]; clear c1) | (refine CallK_gen [1024, 1025] c2 (by decide) (by decide) (by simp [blksOf, inN, pos, renB, ren0, ouN, lv, kpI, kpR]) (by simp [argsG, argG, ren0, inN, pos, renCs, renC]) ⟨[], by simp, by simp, ?_⟩; simp [lv, ouN, kpI, kpR, pos, ren, ren0, renB, renC, renCs]; clear c2) | (refine CallK_gen [1024, 1025] c3 (by decide) (by decide) (by simp [blksOf, inN, pos, renB, ren0, ouN, lv, kpI, kpR]) (by simp [argsG, argG, ren0, inN, pos, renCs, renC]) ⟨[], by simp, by simp, ?_⟩; simp [lv, ouN, kpI, kpR, pos, ren, ren0, renB, renC, renCs]; clear c3) | (refine hK _ ?_; clear hK) | (refine hK _ _ ?_; clear hK) | (clear hK; refine hK _ ?_; clear hK) | (clear hK; clear hK; refine hK _ ?_; clear hK) | (clear hK; clear hK; clear hK; refine hK _ ?_; clear hK) | (clear hK; clear hK; clear hK; clear hK; refine hK _ ?_; clear hK) | (refine wSeq fun K hK => ?_) | ((first | refine wReg ?_ | refine wDrwQ rfl (by kernel_rfl) ?_ | refine wDrwI ?_ | refine wDrw (by kernel_rfl) ?_); simp only [List.map_cons, List.map_nil, strip]) | ((first | refine wIs fun K hK => ?_ | refine wOs fun K hK => ?_ | refine wQs fun K hK => ?_ | refine CallK_plain ?_ | refine CallQ_plain ?_ | refine CallR_plain ?_ | refine wCond ?_); simp [lv, ouN, kpI, kpR, pos, ren, ren0, renB, renC, renCs]) | (refine wIn ?_; refine And.intro (by kernel_rfl) ?_; try simp only [thenA_n]) | (first | refine wBlock ?_ | refine wScope ?_) | ((first | refine wRet ?_ | refine wExit ?_ | refine wSkip ?_); try simp) | ((first | refine wLabel ?_ | refine wOn ?_ | refine wQn ?_); try simp only [thenA_n])
 all_goals first | apply hn | apply hr
 all_goals refine ⟨[], by simp, by simp, ?_⟩
 all_goals simp [Tryz.f48, outR, outB, renB, gaN, lv, ouN, kpI, kpR, pos, ren, ren0, renC, renCs]
abbrev RConX (g : FuncId) (args : List V) (e c : Nat) (l : List (List PV)) : Prop := Con Tryz.prog g args [] (.ret (.row 2048) [.row e c l] [])
theorem cloneB (l : List (List PV)) (hl : l.length <= 1000000) : RConX 42 [.p (.sl 1 l)] 5 1 l := by
 refine wBodyR Tryz.tab Tryz.mixed Tryz.func42 rfl rfl Tryz.ntmps42 rfl (by simp) (by simp) fun Q hr hn => ?_
 repeat' first | (refine wRetG [.row 2 5 1] ?_) | (refine And.intro (by omega) (Or.inl ?_)) | (refine And.intro ?_ (fun hnil => ?_)) | (refine hK _ ?_; clear hK) | (refine hK _ _ ?_; clear hK) | (clear hK; refine hK _ ?_; clear hK) | (clear hK; clear hK; refine hK _ ?_; clear hK) | (clear hK; clear hK; clear hK; refine hK _ ?_; clear hK) | (clear hK; clear hK; clear hK; clear hK; refine hK _ ?_; clear hK) | (refine wSeq fun K hK => ?_) | ((first | refine wReg ?_ | refine wDrwQ rfl (by kernel_rfl) ?_ | refine wDrwI ?_ | refine wDrw (by kernel_rfl) ?_); simp only [List.map_cons, List.map_nil, strip]) | ((first | refine wIs fun K hK => ?_ | refine wOs fun K hK => ?_ | refine wQs fun K hK => ?_ | refine CallK_plain ?_ | refine CallQ_plain ?_ | refine CallR_plain ?_ | refine wCond ?_); simp) | (refine wIn ?_; refine And.intro (by kernel_rfl) ?_; try simp only [thenA_n]) | (first | refine wBlock ?_ | refine wScope ?_) | ((first | refine wRet ?_ | refine wExit ?_ | refine wSkip ?_); try simp) | ((first | refine wLabel ?_ | refine wOn ?_ | refine wQn ?_); try simp only [thenA_n])
 ·refine hr _ 7 (by simp) (by simp) (by omega)
 ·subst hnil
  simp only [thenA_r]
  refine hr _ 2 (by simp) (by simp) (by omega)
set_option maxHeartbeats 4000000 in
theorem putTx (b : List UInt8) (cs : List PV) (hk : fTx.ok cs) (h : (b ++ fTx.en cs).length <= 1000000) : ACon Tryz.prog 27 [.p (.sl 1 (by8 b)), vOf cs] (.p (.sl 1 (by8 (b ++ fTx.en cs)))) := by
 have c := wTx b cs hk (by omega)
 have cl := cloneB (by8 b) (by rw [by8_len]; rw [List.length_append] at h; omega)
 obtain ⟨x0, x1, x2, x3, x4, x5, x6, x7, rfl, -⟩ := fTx_sh hk
 generalize b ++ fTx.en [I x0, I x1, I x2, I x3, I x4, I x5, SB x6, .sl 11 x7] = r at *
 simp only [vOf2] at *
 have hI : Con Tryz.prog 47 [.p (.sl 1 (by8 b)), .p (.agg [I x0, I x1, I x2, I x3, I x4, I x5, SB x6, .sl 11 x7]), .p (.v (.func (.func 48) #[] #[]))] [] (.ret (.row 2048) [.row 5 1 (by8 r)] []) := by
  refine wBodyG Tryz.tab Tryz.mixed Tryz.func47 rfl rfl Tryz.ntmps47 (by simp) (by simp) fun Q hr hn hp => ?_
  repeat' first | (refine CallK_gen [11, 9] (c) (by decide) (by decide) (by simp [blksOf, inN, pos, renB, renC, renCs, ren0, lv, ouN, kpI, kpR]) (by simp [argsG, argG, ren0, inN, pos, renCs, renC]) ⟨[], by simp, by simp, ?_⟩; simp [lv, ouN, kpI, kpR, pos, ren, ren0, renB, renC, renCs, renF, renFs]) | (refine CallE.own (cl) ?_) | (refine hK _ ?_; clear hK) | (refine hK _ _ ?_; clear hK) | (clear hK; refine hK _ ?_; clear hK) | (clear hK; clear hK; refine hK _ ?_; clear hK) | (clear hK; clear hK; clear hK; refine hK _ ?_; clear hK) | (clear hK; clear hK; clear hK; clear hK; refine hK _ ?_; clear hK) | (refine wSeq fun K hK => ?_) | ((first | refine wReg ?_ | refine wDrwQ rfl (by kernel_rfl) ?_ | refine wDrwI ?_ | refine wDrw (by kernel_rfl) ?_); simp only [List.map_cons, List.map_nil, strip]) | ((first | refine wIs fun K hK => ?_ | refine wOs fun K hK => ?_ | refine wQs fun K hK => ?_ | refine CallK_plain ?_ | refine CallQ_plain ?_ | refine CallR_plain ?_ | refine wCond ?_); simp [lv, ouN, kpI, kpR, pos, ren, ren0, renB, renC, renCs]) | (refine wIn ?_; refine And.intro (by kernel_rfl) ?_; try simp only [thenA_n]) | (first | refine wBlock ?_ | refine wScope ?_) | ((first | refine wRet ?_ | refine wExit ?_ | refine wSkip ?_); try simp) | ((first | refine wLabel ?_ | refine wOn ?_ | refine wQn ?_); try simp only [thenA_n])
  all_goals first | apply hr
  all_goals refine ⟨[9], by simp, by simp, ?_⟩
  all_goals simp [Tryz.f47, outR, outB, renB, gaN, lv, ouN, kpI, kpR, pos, ren, ren0, renC, renCs]
 have hc := hI.toPure
 refine wBody Tryz.tab Tryz.mixed Tryz.func27 rfl rfl Tryz.ntmps27 (by simp) (by simp) fun Q hr hn => ?_
 repeat' first | (refine hK _ ?_; clear hK) | (refine hK _ _ ?_; clear hK) | (clear hK; refine hK _ ?_; clear hK) | (clear hK; clear hK; refine hK _ ?_; clear hK) | (clear hK; clear hK; clear hK; refine hK _ ?_; clear hK) | (clear hK; clear hK; clear hK; clear hK; refine hK _ ?_; clear hK) | (refine wSeq fun K hK => ?_) | ((first | refine wReg ?_ | refine wDrwQ rfl (by kernel_rfl) ?_ | refine wDrwI ?_ | refine wDrw (by kernel_rfl) ?_); simp only [List.map_cons, List.map_nil, strip]) | ((first | refine wIs fun K hK => ?_ | refine wOs fun K hK => ?_ | refine wQs fun K hK => ?_ | refine CallK_plain ?_ | refine CallQ_plain ?_ | refine CallR_plain ?_ | refine wCond ?_); simp) | (refine wIn ?_; refine And.intro (by kernel_rfl) ?_; try simp only [thenA_n]) | (first | refine wBlock ?_ | refine wScope ?_) | ((first | refine wRet ?_ | refine wExit ?_ | refine wSkip ?_); try simp) | ((first | refine wLabel ?_ | refine wOn ?_ | refine wQn ?_); try simp only [thenA_n]) | (refine CallE.pure (hc) rfl ?_) | (refine CallE.lent (hc) rfl ?_) | (refine CallF.pure (hc) rfl ?_) | (refine CallF.lent (hc) rfl ?_) | (refine CallE.own (hc) ?_) | (refine CallH.pure (hc) rfl ?_) | (refine CallH.lent (hc) rfl ?_) | (refine CallH.own (hc) ?_)
 all_goals apply hr
 all_goals simp [Tryz.f27]
end Go.Proofs.YtbeofcbehhljdaaGreatDoor
namespace Go.Proofs.YtbeofcbehhljdaaGreatDoor
set_option linter.unusedSimpArgs false
set_option linter.unusedVariables false
open Go Go.Av
attribute [local irreducible] Go.Av.CallK Go.Av.CallE Go.Av.CallQ Go.Av.CallF Go.Av.CallR Go.Av.CallH Go.Av.Con
section
variable (b : List UInt8) (at' : Int) (X : PV)
abbrev rbB (g : FuncId) (x : V) (q : Int) : List Blk := [.box 3 [.p (I at')], .box 55 [.p (.sl 1 (by8 b))], .box 99 [.p (.v (.func (.func g) #[] #[]))], .box 101 [.ptr 1029 0], .box 55 [x], .box 121 [.p (.sl 1 (by8 b)), .p (I q)]]
abbrev raB : List V := [.ptr 1024 0, .ptr 1025 0, .ptr 1026 0, .ptr 1027 0, .ptr 1028 0]
theorem rcBad_B (g : FuncId) (h : at' < 0 \/ (b.length : Int) < at') : Con Tryz.prog 63 raB (rbB b at' g (.nil 1) at') (.pan (.iface 143 (.int .i64 1)) (rbB b at' g (.nil 1) at')) := by
 have e1 := give_con 1 (by decide)
 by_cases h1 : at' < 0
 ·refine wBodyG Tryz.tab Tryz.mixed Tryz.func63 rfl rfl Tryz.ntmps63 (by simp) (by simp) fun Q hr hn hp => ?_
  repeat' first | (refine CallE.pan e1 ?_) | (refine hK _ ?_; clear hK) | (refine hK _ _ ?_; clear hK) | (clear hK; refine hK _ ?_; clear hK) | (clear hK; clear hK; refine hK _ ?_; clear hK) | (clear hK; clear hK; clear hK; refine hK _ ?_; clear hK) | (clear hK; clear hK; clear hK; clear hK; refine hK _ ?_; clear hK) | (refine wSeq fun K hK => ?_) | ((first | refine wReg ?_ | refine wDrwQ rfl (by kernel_rfl) ?_ | refine wDrwI ?_ | refine wDrw (by kernel_rfl) ?_); simp only [List.map_cons, List.map_nil, strip]) | ((first | refine wIs fun K hK => ?_ | refine wOs fun K hK => ?_ | refine wQs fun K hK => ?_ | refine CallK_plain ?_ | refine CallQ_plain ?_ | refine CallR_plain ?_ | refine wCond ?_); simp [h1]) | (refine wIn ?_; refine And.intro (by kernel_rfl) ?_; try simp only [thenA_n]) | (first | refine wBlock ?_ | refine wScope ?_) | ((first | refine wRet ?_ | refine wExit ?_ | refine wSkip ?_); try simp) | ((first | refine wLabel ?_ | refine wOn ?_ | refine wQn ?_); try simp only [thenA_n])
  all_goals try simp only [thenA_p, blockA_p]
  all_goals apply hp
  all_goals simp [AResP, outB, renB, gaN]
 ·have h2 : (b.length : Int) < at' := by omega
  refine wBodyG Tryz.tab Tryz.mixed Tryz.func63 rfl rfl Tryz.ntmps63 (by simp) (by simp) fun Q hr hn hp => ?_
  repeat' first | (refine CallE.pan e1 ?_) | (refine hK _ ?_; clear hK) | (refine hK _ _ ?_; clear hK) | (clear hK; refine hK _ ?_; clear hK) | (clear hK; clear hK; refine hK _ ?_; clear hK) | (clear hK; clear hK; clear hK; refine hK _ ?_; clear hK) | (clear hK; clear hK; clear hK; clear hK; refine hK _ ?_; clear hK) | (refine wSeq fun K hK => ?_) | ((first | refine wReg ?_ | refine wDrwQ rfl (by kernel_rfl) ?_ | refine wDrwI ?_ | refine wDrw (by kernel_rfl) ?_); simp only [List.map_cons, List.map_nil, strip]) | ((first | refine wIs fun K hK => ?_ | refine wOs fun K hK => ?_ | refine wQs fun K hK => ?_ | refine CallK_plain ?_ | refine CallQ_plain ?_ | refine CallR_plain ?_ | refine wCond ?_); simp [h1, h2]) | (refine wIn ?_; refine And.intro (by kernel_rfl) ?_; try simp only [thenA_n]) | (first | refine wBlock ?_ | refine wScope ?_) | ((first | refine wRet ?_ | refine wExit ?_ | refine wSkip ?_); try simp) | ((first | refine wLabel ?_ | refine wOn ?_ | refine wQn ?_); try simp only [thenA_n])
  all_goals try simp only [thenA_p, blockA_p]
  all_goals apply hp
  all_goals simp [AResP, outB, renB, gaN]
theorem rcOk_B (h : ¬ at' < 0 /\ ¬ (b.length : Int) < at') (q : Int) (hX : ∃ n, X = .sl 1 n)
 (hc : Con Tryz.prog 53 [.ptr 1024 0] [.box 121 [.p (.sl 1 (by8 b)), .p (I at')]] (.ret (.p X) [] [.box 121 [.p (.sl 1 (by8 b)), .p (I q)]])) :
 Con Tryz.prog 63 raB (rbB b at' 53 (.nil 1) at') (.ret (.tup []) [] (rbB b at' 53 (.p X) q)) := by
 obtain ⟨xn, rfl⟩ := hX
 obtain ⟨h1, h2⟩ := h
 refine wBodyG Tryz.tab Tryz.mixed Tryz.func63 rfl rfl Tryz.ntmps63 (by simp) (by simp) fun Q hr hn hp => ?_
 repeat' first | (refine CallK_gen [1029] hc (by decide) (by decide) (by simp [blksOf, inN, pos, renB, ren0]) (by simp [argsG, argG, ren0, inN, pos, renCs, renC]) ⟨[], by simp, by simp, ?_⟩; simp [lv, ouN, kpI, kpR, pos, ren, ren0, renB, renC, renCs]) | (refine hK _ ?_; clear hK) | (refine hK _ _ ?_; clear hK) | (clear hK; refine hK _ ?_; clear hK) | (clear hK; clear hK; refine hK _ ?_; clear hK) | (clear hK; clear hK; clear hK; refine hK _ ?_; clear hK) | (clear hK; clear hK; clear hK; clear hK; refine hK _ ?_; clear hK) | (refine wSeq fun K hK => ?_) | ((first | refine wReg ?_ | refine wDrwQ rfl (by kernel_rfl) ?_ | refine wDrwI ?_ | refine wDrw (by kernel_rfl) ?_); simp only [List.map_cons, List.map_nil, strip]) | ((first | refine wIs fun K hK => ?_ | refine wOs fun K hK => ?_ | refine wQs fun K hK => ?_ | refine CallK_plain ?_ | refine CallQ_plain ?_ | refine CallR_plain ?_ | refine wCond ?_); simp [h1, h2, lv, ouN, kpI, kpR, pos, ren, ren0, renB, renC, renCs]) | (refine wIn ?_; refine And.intro (by kernel_rfl) ?_; try simp only [thenA_n]) | (first | refine wBlock ?_ | refine wScope ?_) | ((first | refine wRet ?_ | refine wExit ?_ | refine wSkip ?_); try simp) | ((first | refine wLabel ?_ | refine wOn ?_ | refine wQn ?_); try simp only [thenA_n])
 all_goals first | apply hr | apply hn
 all_goals refine ⟨[], by simp, by simp, ?_⟩
 all_goals simp [Tryz.f63, outR, outB, renB, gaN, lv, ouN, kpI, kpR, pos, ren, ren0, renC, renCs]
theorem rcPan_B (h : ¬ at' < 0 /\ ¬ (b.length : Int) < at') (q e : Int)
 (hc : Con Tryz.prog 53 [.ptr 1024 0] [.box 121 [.p (.sl 1 (by8 b)), .p (I at')]] (.pan (.iface 143 (.int .i64 e)) [.box 121 [.p (.sl 1 (by8 b)), .p (I q)]])) :
 Con Tryz.prog 63 raB (rbB b at' 53 (.nil 1) at') (.pan (.iface 143 (.int .i64 e)) (rbB b at' 53 (.nil 1) q)) := by
 obtain ⟨h1, h2⟩ := h
 refine wBodyG Tryz.tab Tryz.mixed Tryz.func63 rfl rfl Tryz.ntmps63 (by simp) (by simp) fun Q hr hn hp => ?_
 repeat' first | (refine CallK_gen [1029] hc (by decide) (by decide) (by simp [blksOf, inN, pos, renB, ren0]) (by simp [argsG, argG, ren0, inN, pos, renCs, renC]) ?_; simp [GenK, lv, ouN, kpI, kpR, pos, ren, ren0, renB, renC, renCs]) | (refine hK _ ?_; clear hK) | (refine hK _ _ ?_; clear hK) | (clear hK; refine hK _ ?_; clear hK) | (clear hK; clear hK; refine hK _ ?_; clear hK) | (clear hK; clear hK; clear hK; refine hK _ ?_; clear hK) | (clear hK; clear hK; clear hK; clear hK; refine hK _ ?_; clear hK) | (refine wSeq fun K hK => ?_) | ((first | refine wReg ?_ | refine wDrwQ rfl (by kernel_rfl) ?_ | refine wDrwI ?_ | refine wDrw (by kernel_rfl) ?_); simp only [List.map_cons, List.map_nil, strip]) | ((first | refine wIs fun K hK => ?_ | refine wOs fun K hK => ?_ | refine wQs fun K hK => ?_ | refine CallK_plain ?_ | refine CallQ_plain ?_ | refine CallR_plain ?_ | refine wCond ?_); simp [h1, h2, lv, ouN, kpI, kpR, pos, ren, ren0, renB, renC, renCs]) | (refine wIn ?_; refine And.intro (by kernel_rfl) ?_; try simp only [thenA_n]) | (first | refine wBlock ?_ | refine wScope ?_) | ((first | refine wRet ?_ | refine wExit ?_ | refine wSkip ?_); try simp) | ((first | refine wLabel ?_ | refine wOn ?_ | refine wQn ?_); try simp only [thenA_n])
 all_goals try simp only [thenA_p, blockA_p]
 all_goals apply hp
 all_goals simp [AResP, outB, renB, gaN, lv, ouN, kpI, kpR, pos, ren, ren0, renC, renCs]
end
set_option maxHeartbeats 4000000 in
theorem read0_B (b : List UInt8) (at' : Int) (g : FuncId) (X : PV) (q : Int) (hX : ∃ n, X = .sl 1 n) (out : Out) (ho : errOf out = some (0, rbB b at' g (.p X) q))
 (hc : Con Tryz.prog 63 raB (rbB b at' g (.nil 1) at') out) :
 ACon Tryz.prog 52 [.p (.sl 1 (by8 b)), .p (I at'), .p (.v (.func (.func g) #[] #[]))] (.tup [.p X, .p (I q), .p (I 0)]) := by
 obtain ⟨xn, rfl⟩ := hX
 have he0 : ByteArray.empty = bs [] := rfl
 have ct := try_con (caps := [.box 1024, .box 1025, .box 1026, .box 1027, .box 1028]) hc ho
 refine wBody Tryz.tab Tryz.mixed Tryz.func52 rfl rfl Tryz.ntmps52 (by simp) (by simp) fun Q hr hn => ?_
 repeat' first | (refine CallK_gen [4, 3, 5, 11, 9, 16] ct (by decide) (by decide) (by simp [blksOf, inN, pos, renB, ren0, he0]) (by simp [argsG, argG, ren0, inN, pos, renCs, renC]) ⟨[], by simp, by simp, ?_⟩; simp [lv, ouN, kpI, kpR, pos, ren, ren0, renB, renC, renCs]) | (refine hK _ ?_; clear hK) | (refine hK _ _ ?_; clear hK) | (clear hK; refine hK _ ?_; clear hK) | (clear hK; clear hK; refine hK _ ?_; clear hK) | (clear hK; clear hK; clear hK; refine hK _ ?_; clear hK) | (clear hK; clear hK; clear hK; clear hK; refine hK _ ?_; clear hK) | (refine wSeq fun K hK => ?_) | ((first | refine wReg ?_ | refine wDrwQ rfl (by kernel_rfl) ?_ | refine wDrwI ?_ | refine wDrw (by kernel_rfl) ?_); simp only [List.map_cons, List.map_nil, strip]) | ((first | refine wIs fun K hK => ?_ | refine wOs fun K hK => ?_ | refine wQs fun K hK => ?_ | refine CallK_plain ?_ | refine CallQ_plain ?_ | refine CallR_plain ?_ | refine wCond ?_); simp [lv, ouN, kpI, kpR, pos, ren, ren0, renB, renC, renCs]) | (refine wIn ?_; refine And.intro (by kernel_rfl) ?_; try simp only [thenA_n]) | (first | refine wBlock ?_ | refine wScope ?_) | ((first | refine wRet ?_ | refine wExit ?_ | refine wSkip ?_); try simp) | ((first | refine wLabel ?_ | refine wOn ?_ | refine wQn ?_); try simp only [thenA_n])
 all_goals apply hr
 all_goals simp [Tryz.f52]
set_option maxHeartbeats 4000000 in
theorem readE_B (b : List UInt8) (at' : Int) (g : FuncId) (q e : Int) (out : Out) (ho : errOf out = some (e, rbB b at' g (.nil 1) q)) (h0 : ¬ e = 0)
 (hc : Con Tryz.prog 63 raB (rbB b at' g (.nil 1) at') out) :
 ACon Tryz.prog 52 [.p (.sl 1 (by8 b)), .p (I at'), .p (.v (.func (.func g) #[] #[]))] (.tup [.p (.sl 1 []), .p (I 0), .p (I e)]) := by
 have he0 : ByteArray.empty = bs [] := rfl
 have ct := try_con (caps := [.box 1024, .box 1025, .box 1026, .box 1027, .box 1028]) hc ho
 refine wBody Tryz.tab Tryz.mixed Tryz.func52 rfl rfl Tryz.ntmps52 (by simp) (by simp) fun Q hr hn => ?_
 repeat' first | (refine CallK_gen [4, 3, 5, 11, 9, 16] ct (by decide) (by decide) (by simp [blksOf, inN, pos, renB, ren0, he0]) (by simp [argsG, argG, ren0, inN, pos, renCs, renC]) ⟨[], by simp, by simp, ?_⟩; simp [lv, ouN, kpI, kpR, pos, ren, ren0, renB, renC, renCs]) | (refine hK _ ?_; clear hK) | (refine hK _ _ ?_; clear hK) | (clear hK; refine hK _ ?_; clear hK) | (clear hK; clear hK; refine hK _ ?_; clear hK) | (clear hK; clear hK; clear hK; refine hK _ ?_; clear hK) | (clear hK; clear hK; clear hK; clear hK; refine hK _ ?_; clear hK) | (refine wSeq fun K hK => ?_) | ((first | refine wReg ?_ | refine wDrwQ rfl (by kernel_rfl) ?_ | refine wDrwI ?_ | refine wDrw (by kernel_rfl) ?_); simp only [List.map_cons, List.map_nil, strip]) | ((first | refine wIs fun K hK => ?_ | refine wOs fun K hK => ?_ | refine wQs fun K hK => ?_ | refine CallK_plain ?_ | refine CallQ_plain ?_ | refine CallR_plain ?_ | refine wCond ?_); simp [h0, lv, ouN, kpI, kpR, pos, ren, ren0, renB, renC, renCs]) | (refine wIn ?_; refine And.intro (by kernel_rfl) ?_; try simp only [thenA_n]) | (first | refine wBlock ?_ | refine wScope ?_) | ((first | refine wRet ?_ | refine wExit ?_ | refine wSkip ?_); try simp) | ((first | refine wLabel ?_ | refine wOn ?_ | refine wQn ?_); try simp only [thenA_n])
 all_goals apply hr
 all_goals simp [Tryz.f52, he0]
abbrev W32 := BitVec 32
def bit (x : W32) : W32 := if x.getLsbD 0 then (x >>> 1) ^^^ 2197175160#32 else x >>> 1
def nib (x : W32) : W32 := bit (bit (bit (bit x)))
def oct (x : W32) : W32 := nib (nib x)
def cb (c : UInt8) : W32 := BitVec.ofNat 32 c.toNat
def feed (x : W32) (l : List UInt8) : W32 := l.foldl (fun x c => oct (x ^^^ cb c)) x
def crc (l : List UInt8) : Nat := (~~~ feed (BitVec.allOnes 32) l).toNat
theorem feed_snoc (x : W32) (l : List UInt8) (k : Nat) (h : k < l.length) : feed x (l.take (k + 1)) = oct (feed x (l.take k) ^^^ cb l[k]) := by
 rw [List.take_succ_eq_append_getElem h]; simp only [feed, List.foldl_append, List.foldl_cons, List.foldl_nil]
theorem bit_xor (x y : W32) : bit (x ^^^ y) = bit x ^^^ bit y := by
 unfold bit
 rw [BitVec.getLsbD_xor]
 cases x.getLsbD 0 <;> cases y.getLsbD 0 <;> simp only [Bool.xor_false, Bool.false_xor, Bool.xor_true, Bool.not_false, Bool.not_true, if_true, if_false, Bool.false_eq_true, BitVec.ushiftRight_xor_distrib]
 ·rw [BitVec.xor_assoc]
 ·rw [BitVec.xor_assoc, BitVec.xor_assoc]; congr 1; rw [BitVec.xor_comm]
 ·have : (x >>> 1 ^^^ 2197175160#32) ^^^ (y >>> 1 ^^^ 2197175160#32) = x >>> 1 ^^^ y >>> 1 ^^^ (2197175160#32 ^^^ 2197175160#32) := by ac_rfl
  rw [this]; simp
theorem bit_even (x : W32) (h : x.getLsbD 0 = false) : bit x = x >>> 1 := by unfold bit; rw [h]; simp
theorem nib_xor (x y : W32) : nib (x ^^^ y) = nib x ^^^ nib y := by simp only [nib, bit_xor]
theorem nib_high (x : W32) : nib (x &&& 4294967280#32) = x >>> 4 := by
 have g : ∀ i, i < 4 -> (x &&& 4294967280#32).getLsbD i = false := fun i hi => by
  rw [BitVec.getLsbD_and]
  have : (4294967280#32).getLsbD i = false := by
   have : ∀ i : Fin 4, (4294967280#32).getLsbD i.val = false := by decide
   exact this ⟨i, hi⟩
  rw [this]; simp
 have s : ∀ (y : W32) (i j : Nat), (y >>> i).getLsbD j = y.getLsbD (i + j) := fun y i j => BitVec.getLsbD_ushiftRight ..
 generalize hh : x &&& 4294967280#32 = h at g
 have e1 : bit h = h >>> 1 := bit_even _ (g 0 (by omega))
 have e2 : bit (h >>> 1) = h >>> 1 >>> 1 := bit_even _ (by rw [s]; exact g 1 (by omega))
 have e3 : bit (h >>> 1 >>> 1) = h >>> 1 >>> 1 >>> 1 := bit_even _ (by rw [s, s]; exact g 2 (by omega))
 have e4 : bit (h >>> 1 >>> 1 >>> 1) = h >>> 1 >>> 1 >>> 1 >>> 1 := bit_even _ (by rw [s, s, s]; exact g 3 (by omega))
 unfold nib
 rw [e1, e2, e3, e4]
 apply BitVec.eq_of_getLsbD_eq
 intro i hi
 rw [s, s, s, s, s, <- hh, BitVec.getLsbD_and, show 1 + (1 + (1 + (1 + i))) = 4 + i by omega]
 by_cases h : 4 + i < 32
 ·have : (4294967280#32).getLsbD (4 + i) = true := by
   have : ∀ i : Fin 28, (4294967280#32).getLsbD (4 + i.val) = true := by decide
   exact this ⟨i, by omega⟩
  rw [this]; simp
 ·rw [BitVec.getLsbD_of_ge x (4 + i) (by omega)]; simp
def tabN (n : Nat) : Nat := (nib (BitVec.ofNat 32 n)).toNat
theorem nib_tab (x : W32) : nib x = x >>> 4 ^^^ nib (BitVec.ofNat 32 (x.toNat % 16)) := by
 have e : x = (x &&& 4294967280#32) ^^^ (x &&& 15#32) := by
  apply BitVec.eq_of_getLsbD_eq
  intro i hi
  rw [BitVec.getLsbD_xor, BitVec.getLsbD_and, BitVec.getLsbD_and]
  have : (4294967280#32).getLsbD i = !(15#32).getLsbD i := by
   have : ∀ i : Fin 32, (4294967280#32).getLsbD i.val = !(15#32).getLsbD i.val := by decide
   exact this ⟨i, hi⟩
  rw [this]
  cases x.getLsbD i <;> cases (15#32).getLsbD i <;> rfl
 have e2 : x &&& 15#32 = BitVec.ofNat 32 (x.toNat % 16) := by
  apply BitVec.eq_of_toNat_eq
  rw [BitVec.toNat_and, BitVec.toNat_ofNat, BitVec.toNat_ofNat, show 15 % 2 ^ 32 = 2 ^ 4 - 1 from rfl, Nat.and_two_pow_sub_one_eq_mod]
  omega
 rw [<- e2]
 conv => lhs; rw [e, nib_xor, nib_high]
def stepsL : List PV := (Glob.g 0).getD []
theorem glob0 : Glob.g 0 = some stepsL := rfl
theorem steps_get : ∀ n, n < 16 -> stepsL[n]? = some (.v (.int .u32 (tabN n)))
 | 0, _ => rfl | 1, _ => rfl | 2, _ => rfl | 3, _ => rfl | 4, _ => rfl | 5, _ => rfl | 6, _ => rfl | 7, _ => rfl
 | 8, _ => rfl | 9, _ => rfl | 10, _ => rfl | 11, _ => rfl | 12, _ => rfl | 13, _ => rfl | 14, _ => rfl | 15, _ => rfl
 | n + 16, h => absurd h (by omega)
attribute [local irreducible] stepsL tabN
theorem xor32 (a b : Nat) (ha : a < 4294967296) (hb : b < 4294967296) : IntKind.u32.wrap ((BitVec.ofInt IntKind.u32.bits (a : Int) ^^^ BitVec.ofInt IntKind.u32.bits (b : Int)).toNat : Int) = ((BitVec.ofNat 32 a ^^^ BitVec.ofNat 32 b).toNat : Int) := by
 show IntKind.u32.wrap ((BitVec.ofInt 32 (a : Int) ^^^ BitVec.ofInt 32 (b : Int)).toNat : Int) = _
 rw [ofInt_nat, ofInt_nat, u32_wrap]
 have := (BitVec.ofNat 32 a ^^^ BitVec.ofNat 32 b).isLt
 omega
theorem xorF (x y : W32) : IntKind.u32.wrap ((BitVec.ofInt IntKind.u32.bits (x.toNat : Int) ^^^ BitVec.ofInt IntKind.u32.bits (y.toNat : Int)).toNat : Int) = ((x ^^^ y).toNat : Int) := by
 rw [xor32 _ _ x.isLt y.isLt, BitVec.ofNat_toNat, BitVec.ofNat_toNat]; simp
theorem shr4F (x : W32) : (x.toNat : Int).fdiv (2 ^ min 4 IntKind.u32.bits) = ((x >>> 4).toNat : Int) := by
 show (x.toNat : Int).fdiv 16 = _
 rw [Int.fdiv_eq_ediv_of_nonneg _ (by omega), BitVec.toNat_ushiftRight, Nat.shiftRight_eq_div_pow]; omega
theorem and15F (x : W32) : IntKind.u32.wrap ((BitVec.ofInt IntKind.u32.bits (x.toNat : Int) &&& BitVec.ofInt IntKind.u32.bits 15).toNat : Int) = ((x.toNat % 16 : Nat) : Int) := by
 show IntKind.u32.wrap ((BitVec.ofInt 32 (x.toNat : Int) &&& BitVec.ofNat 32 15).toNat : Int) = _
 rw [ofInt_nat, BitVec.toNat_and, BitVec.toNat_ofNat, BitVec.toNat_ofNat, show 15 % 2 ^ 32 = 2 ^ 4 - 1 from rfl, Nat.and_two_pow_sub_one_eq_mod, u32_wrap]
 have := x.isLt
 omega
theorem cbF (c : UInt8) : IntKind.u32.wrap (c.toNat : Int) = ((cb c).toNat : Int) := by
 have := c.toNat_lt
 rw [u32_wrap, cb, BitVec.toNat_ofNat]; omega
theorem notF (x : W32) : IntKind.u32.wrap ((BitVec.ofInt IntKind.u32.bits (if IntKind.u32.signed = true then -1 else IntKind.u32.max) ^^^ BitVec.ofInt IntKind.u32.bits (x.toNat : Int)).toNat : Int) = ((~~~ x).toNat : Int) := by
 show IntKind.u32.wrap ((BitVec.ofInt 32 ((4294967295 : Nat) : Int) ^^^ BitVec.ofInt 32 (x.toNat : Int)).toNat : Int) = _
 rw [ofInt_nat, ofInt_nat, u32_wrap, BitVec.ofNat_toNat, show BitVec.ofNat 32 4294967295 = BitVec.allOnes 32 by decide, BitVec.xor_comm]
 simp only [BitVec.setWidth_eq, BitVec.xor_allOnes]
 have := (~~~ x).isLt
 omega
theorem wrapL (k n : Nat) (h : k < n) (hn : n <= 1000000000) : IntKind.i64.wrap ((k : Int) + 1) = ((k + 1 : Nat) : Int) := wrapS k n h (by omega)
set_option maxHeartbeats 1000000 in
theorem crc_con (l : List UInt8) (hl : l.length <= 1000000000) : ACon Tryz.prog 46 [.p (.sl 1 (by8 l))] (.p (.v (.int .u32 (crc l)))) := by
 have hin : (4294967295 : Int) = ((BitVec.allOnes 32).toNat : Int) := by decide
 unfold crc
 refine wBody Tryz.tab Tryz.mixed Tryz.func46 rfl rfl Tryz.ntmps46 (by simp) (by simp) fun Q hr hn => ?_
 repeat' first | (refine hK _ ?_; clear hK) | (refine hK _ _ ?_; clear hK) | (clear hK; refine hK _ ?_; clear hK) | (clear hK; clear hK; refine hK _ ?_; clear hK) | (clear hK; clear hK; clear hK; refine hK _ ?_; clear hK) | (clear hK; clear hK; clear hK; clear hK; refine hK _ ?_; clear hK) | (refine wSeq fun K hK => ?_) | ((first | refine wReg ?_ | refine wDrwQ rfl (by kernel_rfl) ?_ | refine wDrwI ?_ | refine wDrw (by kernel_rfl) ?_); simp only [List.map_cons, List.map_nil, strip]) | ((first | refine wIs fun K hK => ?_ | refine wOs fun K hK => ?_ | refine wQs fun K hK => ?_ | refine CallK_plain ?_ | refine CallQ_plain ?_ | refine CallR_plain ?_ | refine wCond ?_); simp) | (refine wIn ?_; refine And.intro (by kernel_rfl) ?_; try simp only [thenA_n]) | (first | refine wBlock ?_ | refine wScope ?_) | ((first | refine wRet ?_ | refine wExit ?_ | refine wSkip ?_); try simp) | ((first | refine wLabel ?_ | refine wOn ?_ | refine wQn ?_); try simp only [thenA_n])
 refine wLoop (fun N st => ∃ k r, k + N = l.length /\ r = (feed (BitVec.allOnes 32) (l.take k)).toNat /\ st.s 3 = .p (.v (.int .u32 (r : Nat))) /\ st.s 6 = .p (.sl 1 (by8 l)) /\ st.s 7 = .p (I l.length) /\ st.s 8 = .p (I k)) l.length ⟨0, 4294967295, by simp; decide⟩ fun K N st hL ⟨k, r, hk, hr0, g3, g6, g7, g8⟩ => ?_
 by_cases hlt : k < l.length
 ·have hw := wrapL k _ hlt hl
  have he := by8_get hlt
  have hs := feed_snoc (BitVec.allOnes 32) l k hlt
  generalize hcq : l[k] = c at he hs
  generalize feed (BitVec.allOnes 32) (l.take k) = x at hr0 hs
  have f1 := cbF c
  have f2 := xorF x (cb c)
  rw [<- f1] at f2
  rw [<- hr0] at f2
  unfold oct at hs
  generalize x ^^^ cb c = y at f2 hs
  have f3 := shr4F y
  have f4 := and15F y
  have f5 := nib_tab y
  have h16 : y.toNat % 16 < 16 := Nat.mod_lt _ (by omega)
  have f6 := steps_get _ h16
  have f7 := xorF (y >>> 4) (nib (BitVec.ofNat 32 (y.toNat % 16)))
  rw [<- f5, <- f3] at f7
  have e7 : (nib (BitVec.ofNat 32 (y.toNat % 16))).toNat = tabN (y.toNat % 16) := by unfold tabN; rfl
  rw [e7] at f7
  generalize y.toNat % 16 = n at f4 f6 f7 h16
  generalize nib y = z at f7 hs
  have p3 := shr4F z
  have p4 := and15F z
  have p5 := nib_tab z
  have p16 : z.toNat % 16 < 16 := Nat.mod_lt _ (by omega)
  have p6 := steps_get _ p16
  have p7 := xorF (z >>> 4) (nib (BitVec.ofNat 32 (z.toNat % 16)))
  rw [<- p5, <- p3] at p7
  have q7 : (nib (BitVec.ofNat 32 (z.toNat % 16))).toNat = tabN (z.toNat % 16) := by unfold tabN; rfl
  rw [q7] at p7
  generalize z.toNat % 16 = n2 at p4 p6 p7 p16
  rw [<- hs] at p7
  generalize hr' : (feed (BitVec.allOnes 32) (l.take (k + 1))).toNat = r' at p7
  generalize y.toNat = ry at f2 f3 f4 f7
  generalize z.toNat = rz at f7 p3 p4 p7
  generalize tabN n = t1 at f6 f7
  generalize tabN n2 = t2 at p6 p7
  have b16 : (n : Int) < 16 := by omega
  have b16' : (n2 : Int) < 16 := by omega
  clear f1 hr0 hs f5 p5 e7 q7
  simp at f2 f4 f7 p4 p7
  repeat' first | (refine hK _ ?_; clear hK) | (refine hK _ _ ?_; clear hK) | (clear hK; refine hK _ ?_; clear hK) | (clear hK; clear hK; refine hK _ ?_; clear hK) | (clear hK; clear hK; clear hK; refine hK _ ?_; clear hK) | (clear hK; clear hK; clear hK; clear hK; refine hK _ ?_; clear hK) | (refine wSeq fun K hK => ?_) | ((first | refine wReg ?_ | refine wDrwQ rfl (by kernel_rfl) ?_ | refine wDrwI ?_ | refine wDrw (by kernel_rfl) ?_); simp only [List.map_cons, List.map_nil, strip]) | ((first | refine wIs fun K hK => ?_ | refine wOs fun K hK => ?_ | refine wQs fun K hK => ?_ | refine CallK_plain ?_ | refine CallQ_plain ?_ | refine CallR_plain ?_ | refine wCond ?_); simp [g3, g6, g7, g8, hlt, hw, he, hcq, f2, f4, f7, p4, p7, f6, p6, h16, p16, glob0]) | (refine wIn ?_; refine And.intro (by kernel_rfl) ?_; try simp only [thenA_n]) | (first | refine wBlock ?_ | refine wScope ?_) | ((first | refine wRet ?_ | refine wExit ?_ | refine wSkip ?_); try simp) | ((first | refine wLabel ?_ | refine wOn ?_ | refine wQn ?_); try simp only [thenA_n])
  refine hL _ (N - 1) (by omega) ⟨k + 1, r', by omega, hr'.symm, ?_⟩
  simp [g3, g6, g7, g8, hw, hcq, f2, f4, f7, p4, p7, f6, p6, h16, p16, glob0]
 ·rw [List.take_of_length_le (by omega)] at hr0
  have f1 := notF (feed (BitVec.allOnes 32) l)
  rw [<- hr0] at f1
  generalize (~~~ feed (BitVec.allOnes 32) l).toNat = z at f1 hr
  simp at f1
  repeat' first | (refine hK _ ?_; clear hK) | (refine hK _ _ ?_; clear hK) | (clear hK; refine hK _ ?_; clear hK) | (clear hK; clear hK; refine hK _ ?_; clear hK) | (clear hK; clear hK; clear hK; refine hK _ ?_; clear hK) | (clear hK; clear hK; clear hK; clear hK; refine hK _ ?_; clear hK) | (refine wSeq fun K hK => ?_) | ((first | refine wReg ?_ | refine wDrwQ rfl (by kernel_rfl) ?_ | refine wDrwI ?_ | refine wDrw (by kernel_rfl) ?_); simp only [List.map_cons, List.map_nil, strip]) | ((first | refine wIs fun K hK => ?_ | refine wOs fun K hK => ?_ | refine wQs fun K hK => ?_ | refine CallK_plain ?_ | refine CallQ_plain ?_ | refine CallR_plain ?_ | refine wCond ?_); simp [g3, g6, g7, g8, hlt, f1]) | (refine wIn ?_; refine And.intro (by kernel_rfl) ?_; try simp only [thenA_n]) | (first | refine wBlock ?_ | refine wScope ?_) | ((first | refine wRet ?_ | refine wExit ?_ | refine wSkip ?_); try simp) | ((first | refine wLabel ?_ | refine wOn ?_ | refine wQn ?_); try simp only [thenA_n])
  all_goals apply hr
  all_goals simp [Tryz.f46, f1]
def bits : Nat -> W32 -> W32
 | 0, x => x
 | n + 1, x => bits n (bit x)
def le4 (n : Nat) : List UInt8 := [UInt8.ofNat n, UInt8.ofNat (n / 256), UInt8.ofNat (n / 65536), UInt8.ofNat (n / 16777216)]
theorem le4_len (n : Nat) : (le4 n).length = 4 := rfl
theorem ofNat8 (n : Nat) : (UInt8.ofNat n).toNat = n % 256 := UInt8.toNat_ofNat'
theorem u8_wrapN (m : Nat) : IntKind.u8.wrap (m : Int) = ((UInt8.ofNat m).toNat : Int) := by rw [u8_wrap, ofNat8]; omega
theorem shr8k (n : Nat) : ∀ k, k < 4 -> (n : Int).fdiv (2 ^ min (8 * k) IntKind.u32.bits) = ((n / 256 ^ k : Nat) : Int)
 | 0, _ => by show (n : Int).fdiv 1 = ((n / 1 : Nat) : Int); rw [Int.fdiv_eq_ediv_of_nonneg _ (by omega)]; omega
 | 1, _ => by show (n : Int).fdiv 256 = ((n / 256 : Nat) : Int); rw [Int.fdiv_eq_ediv_of_nonneg _ (by omega)]; omega
 | 2, _ => by show (n : Int).fdiv 65536 = ((n / 65536 : Nat) : Int); rw [Int.fdiv_eq_ediv_of_nonneg _ (by omega)]; omega
 | 3, _ => by show (n : Int).fdiv 16777216 = ((n / 16777216 : Nat) : Int); rw [Int.fdiv_eq_ediv_of_nonneg _ (by omega)]; omega
 | k + 4, h => absurd h (by omega)
theorem le4_succ (n : Nat) : ∀ k, k < 4 -> (le4 n).take (k + 1) = (le4 n).take k ++ [UInt8.ofNat (n / 256 ^ k)]
 | 0, _ => by simp [le4]
 | 1, _ => by simp [le4]
 | 2, _ => by simp [le4]
 | 3, _ => by simp [le4]
 | k + 4, h => absurd h (by omega)
theorem laySum_con (b : List UInt8) (n : Nat) (h : b.length <= 1000000000) : Con Tryz.prog 45 [.row 1024, .p (.v (.int .u32 n))] [.row 5 1 (by8 b)] (.ret (.row 1024) [] [.row 5 1 (by8 (b ++ le4 n))]) := by
 refine wBodyG Tryz.tab Tryz.mixed Tryz.func45 rfl rfl Tryz.ntmps45 (by simp) (by simp) fun Q hr hn hp => ?_
 repeat' first | (refine hK _ ?_; clear hK) | (refine hK _ _ ?_; clear hK) | (clear hK; refine hK _ ?_; clear hK) | (clear hK; clear hK; refine hK _ ?_; clear hK) | (clear hK; clear hK; clear hK; refine hK _ ?_; clear hK) | (clear hK; clear hK; clear hK; clear hK; refine hK _ ?_; clear hK) | (refine wSeq fun K hK => ?_) | ((first | refine wReg ?_ | refine wDrwQ rfl (by kernel_rfl) ?_ | refine wDrwI ?_ | refine wDrw (by kernel_rfl) ?_); simp only [List.map_cons, List.map_nil, strip]) | ((first | refine wIs fun K hK => ?_ | refine wOs fun K hK => ?_ | refine wQs fun K hK => ?_ | refine CallK_plain ?_ | refine CallQ_plain ?_ | refine CallR_plain ?_ | refine wCond ?_); simp) | (refine wIn ?_; refine And.intro (by kernel_rfl) ?_; try simp only [thenA_n]) | (first | refine wBlock ?_ | refine wScope ?_) | ((first | refine wRet ?_ | refine wExit ?_ | refine wSkip ?_); try simp) | ((first | refine wLabel ?_ | refine wOn ?_ | refine wQn ?_); try simp only [thenA_n])
 refine wLoop (fun N st => ∃ k l, k + N = 4 /\ l = b ++ (le4 n).take k /\ st.s 0 = .row 1024 /\ st.s 1 = .p (.v (.int .u32 (n : Nat))) /\ st.s 6 = .p (I k) /\ st.b 1024 = some (.row 5 1 (by8 l))) 4 ⟨0, b, by simp⟩ fun K N st hL ⟨k, l, hk, hl, g0, g1, g6, b0⟩ => ?_
 have hlen : l.length <= 1000000004 := by rw [hl, List.length_append, List.length_take, le4_len]; omega
 by_cases hlt : k < 4
 ·have hlt' : (k : Int) < 4 := by omega
  have hw := wrapS k 4 hlt (by omega)
  have hw8 : IntKind.i64.wrap (8 * (k : Int)) = 8 * (k : Int) := wrap_id (by omega) (by omega)
  have hn8 : ¬ 8 * (k : Int) < 0 := by omega
  have ht8 : (8 * (k : Int)).toNat = 8 * k := by omega
  have f := shr8k n k hlt
  have fw := u8_wrapN (n / 256 ^ k)
  have ht := le4_succ n k hlt
  generalize UInt8.ofNat (n / 256 ^ k) = c at fw ht
  generalize n / 256 ^ k = m at f fw
  have hx := by8_snoc l c _ rfl
  try simp at f
  repeat' first | (refine And.intro (by omega) ?_) | (refine hK _ ?_; clear hK) | (refine hK _ _ ?_; clear hK) | (clear hK; refine hK _ ?_; clear hK) | (clear hK; clear hK; refine hK _ ?_; clear hK) | (clear hK; clear hK; clear hK; refine hK _ ?_; clear hK) | (clear hK; clear hK; clear hK; clear hK; refine hK _ ?_; clear hK) | (refine wSeq fun K hK => ?_) | ((first | refine wReg ?_ | refine wDrwQ rfl (by kernel_rfl) ?_ | refine wDrwI ?_ | refine wDrw (by kernel_rfl) ?_); simp only [List.map_cons, List.map_nil, strip]) | ((first | refine wIs fun K hK => ?_ | refine wOs fun K hK => ?_ | refine wQs fun K hK => ?_ | refine CallK_plain ?_ | refine CallQ_plain ?_ | refine CallR_plain ?_ | refine wCond ?_); simp [g0, g1, g6, b0, hlt', hlt, hw, hw8, hn8, ht8, f, fw]) | (refine wIn ?_; refine And.intro (by kernel_rfl) ?_; try simp only [thenA_n]) | (first | refine wBlock ?_ | refine wScope ?_) | ((first | refine wRet ?_ | refine wExit ?_ | refine wSkip ?_); try simp) | ((first | refine wLabel ?_ | refine wOn ?_ | refine wQn ?_); try simp only [thenA_n])
  refine hL _ (N - 1) (by omega) ⟨k + 1, l ++ [c], by omega, by rw [hl, ht, List.append_assoc], ?_⟩
  simp [g0, g1, g6, b0, hw, hw8, hn8, ht8, f, fw, hx]
 ·have hk4 : k = 4 := by omega
  subst hk4
  rw [List.take_of_length_le (by simp [le4])] at hl
  subst hl
  repeat' first | (refine hK _ ?_; clear hK) | (refine hK _ _ ?_; clear hK) | (clear hK; refine hK _ ?_; clear hK) | (clear hK; clear hK; refine hK _ ?_; clear hK) | (clear hK; clear hK; clear hK; refine hK _ ?_; clear hK) | (clear hK; clear hK; clear hK; clear hK; refine hK _ ?_; clear hK) | (refine wSeq fun K hK => ?_) | ((first | refine wReg ?_ | refine wDrwQ rfl (by kernel_rfl) ?_ | refine wDrwI ?_ | refine wDrw (by kernel_rfl) ?_); simp only [List.map_cons, List.map_nil, strip]) | ((first | refine wIs fun K hK => ?_ | refine wOs fun K hK => ?_ | refine wQs fun K hK => ?_ | refine CallK_plain ?_ | refine CallQ_plain ?_ | refine CallR_plain ?_ | refine wCond ?_); simp [g0, g1, g6, b0]) | (refine wIn ?_; refine And.intro (by kernel_rfl) ?_; try simp only [thenA_n]) | (first | refine wBlock ?_ | refine wScope ?_) | ((first | refine wRet ?_ | refine wExit ?_ | refine wSkip ?_); try simp) | ((first | refine wLabel ?_ | refine wOn ?_ | refine wQn ?_); try simp only [thenA_n])
  all_goals apply hr
  all_goals refine ⟨[], by simp, by simp, ?_⟩
  all_goals simp [Tryz.f45, outR, outB, renB, gaN, g0, g1, g6, b0]
def le : List UInt8 -> Nat
 | [] => 0
 | c :: r => c.toNat + 256 * le r
theorem le_snoc : ∀ (l : List UInt8) (c : UInt8), le (l ++ [c]) = le l + c.toNat * 256 ^ l.length
 | [], c => by simp [le]
 | a :: r, c => by
  rw [List.cons_append, le, le, le_snoc r c, List.length_cons, Nat.pow_succ, Nat.mul_add, Nat.add_assoc]
  congr 2
  rw [Nat.mul_comm (256 ^ r.length), <- Nat.mul_assoc, <- Nat.mul_assoc, Nat.mul_comm 256]
theorem le_lt : ∀ l : List UInt8, le l < 256 ^ l.length
 | [] => by simp [le]
 | a :: r => by
  have := le_lt r
  have := a.toNat_lt
  rw [le, List.length_cons, Nat.pow_succ]; omega
theorem le_le4 (n : Nat) (h : n < 4294967296) : le (le4 n) = n := by
 simp only [le4, le, ofNat8]; omega
theorem le4_le : ∀ s : List UInt8, s.length = 4 -> le4 (le s) = s
 | [a, b, c, d], _ => by
  have := a.toNat_lt
  have := b.toNat_lt
  have := c.toNat_lt
  have := d.toNat_lt
  simp only [le4, le, List.cons.injEq, and_true, <- UInt8.toNat_inj, ofNat8]
  omega
theorem le_eq {s : List UInt8} {n : Nat} (hs : s.length = 4) (hn : n < 4294967296) : (n = le s) ↔ s = le4 n :=
 ⟨fun h => by rw [h, le4_le s hs], fun h => by rw [h, le_le4 n hn]⟩
theorem or32_fact {u x i : Nat} (hu : u < 256 ^ i) (hx : x < 256) (hi : i < 4) :
 IntKind.u32.wrap ((BitVec.ofInt IntKind.u32.bits (u : Int) ||| BitVec.ofInt IntKind.u32.bits (IntKind.u32.wrap ((x : Int) * 2 ^ min (8 * i) IntKind.u32.bits))).toNat : Int) = ((u + x * 256 ^ i : Nat) : Int) := by
 have hp : 2 ^ (8 * i) = 256 ^ i := by rw [Nat.pow_mul]
 have h2 : u + x * 256 ^ i < 4294967296 := by
  have h8 : 256 ^ (i + 1) <= 256 ^ 4 := Nat.pow_le_pow_right (by omega) (by omega)
  have : x * 256 ^ i <= 255 * 256 ^ i := Nat.mul_le_mul_right _ (by omega)
  rw [Nat.pow_succ] at h8
  omega
 have h1 : x * 256 ^ i < 4294967296 := by omega
 have e1 : min (8 * i) IntKind.u32.bits = 8 * i := by show min (8 * i) 32 = _; omega
 have e2 : (x : Int) * 2 ^ (8 * i) = ((x * 256 ^ i : Nat) : Int) := by rw [<- hp]; simp
 have e3 : IntKind.u32.wrap ((x * 256 ^ i : Nat) : Int) = ((x * 256 ^ i : Nat) : Int) := by rw [u32_wrap]; omega
 rw [e1, e2, e3]
 show IntKind.u32.wrap ((BitVec.ofInt 32 (u : Int) ||| BitVec.ofInt 32 ((x * 256 ^ i : Nat) : Int)).toNat : Int) = _
 rw [ofInt_nat, ofInt_nat, BitVec.toNat_or, BitVec.toNat_ofNat, BitVec.toNat_ofNat, Nat.mod_eq_of_lt (by omega), Nat.mod_eq_of_lt (by omega)]
 have e4 : u ||| x * 256 ^ i = u + x * 256 ^ i := by
  rw [<- hp, <- Nat.shiftLeft_eq, Nat.or_comm, <- Nat.shiftLeft_add_eq_or_of_lt (by rw [hp]; exact hu), Nat.add_comm]
 rw [e4, u32_wrap]; omega
theorem sum_con (b : List UInt8) (q : Int) (z : Nat) (hz : z + 4 <= b.length) (hb : b.length <= 1000000000) : Con Tryz.prog 66 [.ptr 1024 0, .p (I z)] [.box 121 [.p (.sl 1 (by8 b)), .p (I q)]] (.ret (.p (.v (.int .u32 (le ((b.drop z).take 4) : Nat)))) [] [.box 121 [.p (.sl 1 (by8 b)), .p (I q)]]) := by
 refine wBodyG Tryz.tab Tryz.mixed Tryz.func66 rfl rfl Tryz.ntmps66 (by simp) (by simp) fun Q hr hn hp => ?_
 repeat' first | (refine hK _ ?_; clear hK) | (refine hK _ _ ?_; clear hK) | (clear hK; refine hK _ ?_; clear hK) | (clear hK; clear hK; refine hK _ ?_; clear hK) | (clear hK; clear hK; clear hK; refine hK _ ?_; clear hK) | (clear hK; clear hK; clear hK; clear hK; refine hK _ ?_; clear hK) | (refine wSeq fun K hK => ?_) | ((first | refine wReg ?_ | refine wDrwQ rfl (by kernel_rfl) ?_ | refine wDrwI ?_ | refine wDrw (by kernel_rfl) ?_); simp only [List.map_cons, List.map_nil, strip]) | ((first | refine wIs fun K hK => ?_ | refine wOs fun K hK => ?_ | refine wQs fun K hK => ?_ | refine CallK_plain ?_ | refine CallQ_plain ?_ | refine CallR_plain ?_ | refine wCond ?_); simp) | (refine wIn ?_; refine And.intro (by kernel_rfl) ?_; try simp only [thenA_n]) | (first | refine wBlock ?_ | refine wScope ?_) | ((first | refine wRet ?_ | refine wExit ?_ | refine wSkip ?_); try simp) | ((first | refine wLabel ?_ | refine wOn ?_ | refine wQn ?_); try simp only [thenA_n])
 refine wLoop (fun N st => ∃ k y u, k + N = 4 /\ y = z + k /\ u = le ((b.drop z).take k) /\ st.s 0 = .ptr 1024 0 /\ st.s 1 = .p (I z) /\ st.s 5 = .p (.v (.int .u32 (u : Nat))) /\ st.s 7 = .p (I k) /\ st.b 1024 = some (.box 121 [.p (.sl 1 (by8 b)), .p (I q)])) 4 ⟨0, z, 0, by simp [le]⟩ fun K N st hL ⟨k, y, u, hk, hy, hu, g0, g1, g5, g7, b0⟩ => ?_
 by_cases hlt : k < 4
 ·have hlt' : (k : Int) < 4 := by omega
  have hw := wrapS k 4 hlt (by omega)
  have hwy : IntKind.i64.wrap ((z : Int) + (k : Int)) = (y : Int) := by rw [wrap_id (by omega) (by omega)]; omega
  have hyb : y < b.length := by omega
  have he := by8_get hyb
  have hw8 : IntKind.i64.wrap (8 * (k : Int)) = 8 * (k : Int) := wrap_id (by omega) (by omega)
  have hn8 : ¬ 8 * (k : Int) < 0 := by omega
  have ht8 : (8 * (k : Int)).toNat = 8 * k := by omega
  have hs : (b.drop z).take (k + 1) = (b.drop z).take k ++ [b[y]] := by
   rw [List.take_succ_eq_append_getElem (by rw [List.length_drop]; omega), List.getElem_drop]; congr 3; omega
  have hsl : ((b.drop z).take k).length = k := by rw [List.length_take, List.length_drop]; omega
  have hul := le_lt ((b.drop z).take k)
  have hls := le_snoc ((b.drop z).take k) b[y]
  rw [hsl, <- hu] at hls
  rw [<- hu, hsl] at hul
  rw [<- hs] at hls
  have hc := b[y].toNat_lt
  have hcq : ∃ x, x = b[y].toNat := ⟨_, rfl⟩
  obtain ⟨x, hx⟩ := hcq
  rw [<- hx] at hc he hls
  have hor := or32_fact hul hc hlt
  rw [<- hls] at hor
  generalize hU : le ((b.drop z).take (k + 1)) = u' at hor hls
  have hcv : IntKind.u32.wrap (x : Int) = (x : Int) := by rw [u32_wrap]; omega
  have hxb : b[y].toNat = x := hx.symm
  simp at hor
  repeat' first | (refine hK _ ?_; clear hK) | (refine hK _ _ ?_; clear hK) | (clear hK; refine hK _ ?_; clear hK) | (clear hK; clear hK; refine hK _ ?_; clear hK) | (clear hK; clear hK; clear hK; refine hK _ ?_; clear hK) | (clear hK; clear hK; clear hK; clear hK; refine hK _ ?_; clear hK) | (refine wSeq fun K hK => ?_) | ((first | refine wReg ?_ | refine wDrwQ rfl (by kernel_rfl) ?_ | refine wDrwI ?_ | refine wDrw (by kernel_rfl) ?_); simp only [List.map_cons, List.map_nil, strip]) | ((first | refine wIs fun K hK => ?_ | refine wOs fun K hK => ?_ | refine wQs fun K hK => ?_ | refine CallK_plain ?_ | refine CallQ_plain ?_ | refine CallR_plain ?_ | refine wCond ?_); simp [g0, g1, g5, g7, b0, hlt, hlt', hw, hwy, hyb, he, hxb, hw8, hn8, ht8, hor, hcv]) | (refine wIn ?_; refine And.intro (by kernel_rfl) ?_; try simp only [thenA_n]) | (first | refine wBlock ?_ | refine wScope ?_) | ((first | refine wRet ?_ | refine wExit ?_ | refine wSkip ?_); try simp) | ((first | refine wLabel ?_ | refine wOn ?_ | refine wQn ?_); try simp only [thenA_n])
  refine hL _ (N - 1) (by omega) ⟨k + 1, y + 1, u', by omega, by omega, ?_⟩
  simp [g0, g1, g5, g7, b0, hw, hwy, hw8, hn8, ht8, hor, hcv, hxb]
  exact hU.symm
 ·have hk4 : k = 4 := by omega
  subst hk4
  rw [<- hu] at hr
  repeat' first | (refine hK _ ?_; clear hK) | (refine hK _ _ ?_; clear hK) | (clear hK; refine hK _ ?_; clear hK) | (clear hK; clear hK; refine hK _ ?_; clear hK) | (clear hK; clear hK; clear hK; refine hK _ ?_; clear hK) | (clear hK; clear hK; clear hK; clear hK; refine hK _ ?_; clear hK) | (refine wSeq fun K hK => ?_) | ((first | refine wReg ?_ | refine wDrwQ rfl (by kernel_rfl) ?_ | refine wDrwI ?_ | refine wDrw (by kernel_rfl) ?_); simp only [List.map_cons, List.map_nil, strip]) | ((first | refine wIs fun K hK => ?_ | refine wOs fun K hK => ?_ | refine wQs fun K hK => ?_ | refine CallK_plain ?_ | refine CallQ_plain ?_ | refine CallR_plain ?_ | refine wCond ?_); simp [g0, g1, g5, g7, b0]) | (refine wIn ?_; refine And.intro (by kernel_rfl) ?_; try simp only [thenA_n]) | (first | refine wBlock ?_ | refine wScope ?_) | ((first | refine wRet ?_ | refine wExit ?_ | refine wSkip ?_); try simp) | ((first | refine wLabel ?_ | refine wOn ?_ | refine wQn ?_); try simp only [thenA_n])
  all_goals apply hr
  all_goals refine ⟨[], by simp, by simp, ?_⟩
  all_goals simp [Tryz.f66, outR, outB, renB, gaN, g0, g1, g5, g7, b0]
def frm (l : List UInt8) : List UInt8 := enc (zz l.length) ++ l ++ le4 (crc (enc (zz l.length) ++ l))
def sealT (l : List UInt8) : V := if 65536 < l.length then .tup [.p (.sl 1 []), .p (I 5)] else .tup [.p (.sl 1 (by8 (frm l))), .p (I 0)]
theorem seal_con (l : List UInt8) (h : l.length <= 100000000) : ACon Tryz.prog 26 [.p (.sl 1 (by8 l))] (sealT l) := by
 unfold sealT
 by_cases h1 : 65536 < l.length
 ·rw [if_pos h1]
  have h1' : (65536 : Int) < l.length := by omega
  refine wBody Tryz.tab Tryz.mixed Tryz.func26 rfl rfl Tryz.ntmps26 (by simp) (by simp) fun Q hr hn => ?_
  repeat' first | (refine hK _ ?_; clear hK) | (refine hK _ _ ?_; clear hK) | (clear hK; refine hK _ ?_; clear hK) | (clear hK; clear hK; refine hK _ ?_; clear hK) | (clear hK; clear hK; clear hK; refine hK _ ?_; clear hK) | (clear hK; clear hK; clear hK; clear hK; refine hK _ ?_; clear hK) | (refine wSeq fun K hK => ?_) | ((first | refine wReg ?_ | refine wDrwQ rfl (by kernel_rfl) ?_ | refine wDrwI ?_ | refine wDrw (by kernel_rfl) ?_); simp only [List.map_cons, List.map_nil, strip]) | ((first | refine wIs fun K hK => ?_ | refine wOs fun K hK => ?_ | refine wQs fun K hK => ?_ | refine CallK_plain ?_ | refine CallQ_plain ?_ | refine CallR_plain ?_ | refine wCond ?_); simp [h1, h1']) | (refine wIn ?_; refine And.intro (by kernel_rfl) ?_; try simp only [thenA_n]) | (first | refine wBlock ?_ | refine wScope ?_) | ((first | refine wRet ?_ | refine wExit ?_ | refine wSkip ?_); try simp) | ((first | refine wLabel ?_ | refine wOn ?_ | refine wQn ?_); try simp only [thenA_n])
  all_goals apply hr
  all_goals simp [Tryz.f26]
 rw [if_neg h1]
 have h1' : ¬ (65536 : Int) < l.length := by omega
 refine Con.toPureT (t := 5) ?_
 have hz := zz_len l.length (by omega)
 have hel := enc_len10 (zz_lt hz)
 have w1 : IntKind.i64.wrap (10 + (l.length : Int)) = 10 + (l.length : Int) := wrap_id (by omega) (by omega)
 have w2 : IntKind.i64.wrap (10 + (l.length : Int) + 4) = 10 + (l.length : Int) + 4 := wrap_id (by omega) (by omega)
 have c1 := roomy_con [] (10 + l.length + 4) (by simp; omega)
 have c2 := layInt_con [] l.length hz (by simp)
 rw [List.nil_append] at c2
 unfold frm
 have hx := by8_app (enc (zz l.length)) l
 have c3 := crc_con (enc (zz l.length) ++ l) (by rw [List.length_append]; omega)
 have c4 := laySum_con (enc (zz l.length) ++ l) (crc (enc (zz l.length) ++ l)) (by rw [List.length_append]; omega)
 generalize crc (enc (zz l.length) ++ l) = n at c3 c4 ⊢
 have hlen : (enc (zz l.length) ++ l).length <= 100000010 := by rw [List.length_append]; omega
 generalize enc (zz l.length) = x at c2 c3 c4 hx hel hlen ⊢
 simp at c1 hx
 unfold BCon at c1
 simp only [show by8 [] = [] from rfl] at c1 c2
 have hxl : ((x ++ l).length : Int) = x.length + l.length := by rw [List.length_append]; omega
 refine wBodyG Tryz.tab Tryz.mixed Tryz.func26 rfl rfl Tryz.ntmps26 (by simp) (by simp) fun Q hr hn hp => ?_
 repeat' first | (refine And.intro (by omega) ?_) | (refine CallK_gen [12] c2 (by decide) (by decide) (by simp [blksOf, inN, pos, renB, ren0]) (by simp [argsG, argG, ren0, inN, pos, renCs, renC]) ⟨[], by simp, by simp, ?_⟩; simp [lv, ouN, kpI, kpR, pos, ren, ren0, renB, renC, renCs]) | (refine CallK_gen [12] c4 (by decide) (by decide) (by simp [blksOf, inN, pos, renB, ren0]) (by simp [argsG, argG, ren0, inN, pos, renCs, renC]) ⟨[], by simp, by simp, ?_⟩; simp [lv, ouN, kpI, kpR, pos, ren, ren0, renB, renC, renCs]) | (refine hK _ ?_; clear hK) | (refine hK _ _ ?_; clear hK) | (clear hK; refine hK _ ?_; clear hK) | (clear hK; clear hK; refine hK _ ?_; clear hK) | (clear hK; clear hK; clear hK; refine hK _ ?_; clear hK) | (clear hK; clear hK; clear hK; clear hK; refine hK _ ?_; clear hK) | (refine wSeq fun K hK => ?_) | ((first | refine wReg ?_ | refine wDrwQ rfl (by kernel_rfl) ?_ | refine wDrwI ?_ | refine wDrw (by kernel_rfl) ?_); simp only [List.map_cons, List.map_nil, strip]) | ((first | refine wIs fun K hK => ?_ | refine wOs fun K hK => ?_ | refine wQs fun K hK => ?_ | refine CallK_plain ?_ | refine CallQ_plain ?_ | refine CallR_plain ?_ | refine wCond ?_); simp [h1, h1', w1, w2, hx]) | (refine wIn ?_; refine And.intro (by kernel_rfl) ?_; try simp only [thenA_n]) | (first | refine wBlock ?_ | refine wScope ?_) | ((first | refine wRet ?_ | refine wExit ?_ | refine wSkip ?_); try simp) | ((first | refine wLabel ?_ | refine wOn ?_ | refine wQn ?_); try simp only [thenA_n]) | (refine CallE.pure (c1) rfl ?_) | (refine CallE.lent (c1) rfl ?_) | (refine CallF.pure (c1) rfl ?_) | (refine CallF.lent (c1) rfl ?_) | (refine CallE.own (c1) ?_) | (refine CallH.pure (c1) rfl ?_) | (refine CallH.lent (c1) rfl ?_) | (refine CallH.own (c1) ?_) | (refine CallE.pure (c3) rfl ?_) | (refine CallE.lent (c3) rfl ?_) | (refine CallF.pure (c3) rfl ?_) | (refine CallF.lent (c3) rfl ?_) | (refine CallE.own (c3) ?_) | (refine CallH.pure (c3) rfl ?_) | (refine CallH.lent (c3) rfl ?_) | (refine CallH.own (c3) ?_)
 all_goals apply hr
 all_goals refine ⟨[12], by simp, by simp, ?_⟩
 all_goals simp [Tryz.f26, outR, outB, renB, gaN, hx]
def frR (b : List UInt8) (a : Nat) (r : Int × Nat × Nat) : Int × Nat × Nat :=
 if r.1 = 0 then (if (b.drop (r.2.2 + r.2.1)).take 4 = le4 (crc ((b.take (r.2.2 + r.2.1)).drop a)) then r else (4, 0, r.2.2)) else r
def frO (b : List UInt8) (r : Int × Nat × Nat) : Out :=
 if r.1 = 0 then .ret (.p (.sl 1 (by8 ((b.drop r.2.2).take r.2.1)))) [] [.box 121 [.p (.sl 1 (by8 b)), .p (I ((r.2.2 + r.2.1 + 4 : Nat) : Int))]]
 else .pan (.iface 143 (.int .i64 r.1)) [.box 121 [.p (.sl 1 (by8 b)), .p (I r.2.2)]]
set_option maxHeartbeats 2000000 in
theorem frame_con (b : List UInt8) (a : Nat) (ha : a <= b.length) (hb : b.length <= 1000000000) : Con Tryz.prog 53 [.ptr 1024 0] [.box 121 [.p (.sl 1 (by8 b)), .p (I a)]] (frO b (frR b a (lnR b.length a 4 (rdU 0 0 (b.drop a))))) := by
 have hc := length_con b a 4 ha hb (by omega)
 have hok := fun n q => lnR_ok (L := b.length) (a := a) (tail := 4) (r := rdU 0 0 (b.drop a)) (n := n) (q := q)
 generalize lnR b.length a 4 (rdU 0 0 (b.drop a)) = r at hc hok ⊢
 obtain ⟨e, n, q⟩ := r
 by_cases h0 : e = 0
 rotate_left
 ·unfold frR frO
  simp only [h0, if_false]
  rw [lnO_err h0] at hc
  simp at hc
  refine wBodyG Tryz.tab Tryz.mixed Tryz.func53 rfl rfl Tryz.ntmps53 (by simp) (by simp) fun Q hr hn hp => ?_
  repeat' first | (refine CallK_gen [1024] hc (by decide) (by decide) (by simp [blksOf, inN, pos, renB, ren0]) (by simp [argsG, argG, ren0, inN, pos, renCs, renC]) ?_; simp [GenK, lv, ouN, kpI, kpR, pos, ren, ren0, renB, renC, renCs]) | (refine hK _ ?_; clear hK) | (refine hK _ _ ?_; clear hK) | (clear hK; refine hK _ ?_; clear hK) | (clear hK; clear hK; refine hK _ ?_; clear hK) | (clear hK; clear hK; clear hK; refine hK _ ?_; clear hK) | (clear hK; clear hK; clear hK; clear hK; refine hK _ ?_; clear hK) | (refine wSeq fun K hK => ?_) | ((first | refine wReg ?_ | refine wDrwQ rfl (by kernel_rfl) ?_ | refine wDrwI ?_ | refine wDrw (by kernel_rfl) ?_); simp only [List.map_cons, List.map_nil, strip]) | ((first | refine wIs fun K hK => ?_ | refine wOs fun K hK => ?_ | refine wQs fun K hK => ?_ | refine CallK_plain ?_ | refine CallQ_plain ?_ | refine CallR_plain ?_ | refine wCond ?_); simp [lv, ouN, kpI, kpR, pos, ren, ren0, renB, renC, renCs]) | (refine wIn ?_; refine And.intro (by kernel_rfl) ?_; try simp only [thenA_n]) | (first | refine wBlock ?_ | refine wScope ?_) | ((first | refine wRet ?_ | refine wExit ?_ | refine wSkip ?_); try simp) | ((first | refine wLabel ?_ | refine wOn ?_ | refine wQn ?_); try simp only [thenA_n])
  all_goals try simp only [thenA_p, blockA_p]
  all_goals apply hp
  all_goals simp [AResP, outB, renB, gaN, lv, ouN, kpI, kpR, pos, ren, ren0, renC, renCs]
 subst h0
 rw [lnO_ok] at hc
 simp at hc
 obtain ⟨-, -, hn, hq1, hq⟩ := hok n q rfl
 have haq : a <= q := by omega
 obtain ⟨z, hz⟩ : ∃ z, z = q + n := ⟨_, rfl⟩
 unfold frR
 simp only [if_true]
 rw [<- hz]
 have w1 : IntKind.i64.wrap ((q : Int) + (n : Int)) = (z : Int) := by rw [wrap_id (by omega) (by omega)]; omega
 have w2 : IntKind.i64.wrap ((z : Int) + 4) = ((z + 4 : Nat) : Int) := by rw [wrap_id (by omega) (by omega)]; omega
 have hzb : z <= b.length := by omega
 have hqz : q <= z := by omega
 have haz : a <= z := by omega
 have ht : (b.take z).drop q = (b.drop q).take n := by rw [hz, List.drop_take]; congr 1; omega
 have d1 := by8_take b z
 have d2 := by8_drop (b.take z) q
 have d3 := by8_drop (b.take z) a
 rw [ht] at d2
 have c2 := crc_con ((b.take z).drop a) (by rw [List.length_drop, List.length_take]; omega)
 have c3 := sum_con b q z (by omega) hb
 have c4 := (roomy_con ((b.drop q).take n) 0 (by rw [List.length_take]; omega)).toPure
 have hs4 : ((b.drop z).take 4).length = 4 := by rw [List.length_take, List.length_drop]; omega
 have hcr : crc ((b.take z).drop a) < 4294967296 := BitVec.isLt _
 have heq := le_eq hs4 hcr
 generalize crc ((b.take z).drop a) = cx at c2 heq hcr ⊢
 generalize (b.drop z).take 4 = s at c3 heq ⊢
 generalize le s = sv at c3 heq
 generalize (b.take z).drop a = x1 at c2 d3
 simp at c4
 by_cases hs : s = le4 cx
 ·have hs' : (cx = sv) = True := by simp [heq.2 hs]
  have hs2 : ((cx : Int) = (sv : Int)) = True := by simp [heq.2 hs]
  rw [if_pos hs]
  unfold frO
  simp only [if_true]
  rw [<- hz]
  generalize (b.drop q).take n = load at c4 d2 ⊢
  refine wBodyG Tryz.tab Tryz.mixed Tryz.func53 rfl rfl Tryz.ntmps53 (by simp) (by simp) fun Q hr hn hp => ?_
  repeat' first | (refine CallK_gen [1024] hc (by decide) (by decide) (by simp [blksOf, inN, pos, renB, ren0]) (by simp [argsG, argG, ren0, inN, pos, renCs, renC]) ⟨[], by simp, by simp, ?_⟩; simp [lv, ouN, kpI, kpR, pos, ren, ren0, renB, renC, renCs]) | (refine CallK_gen [1024] c3 (by decide) (by decide) (by simp [blksOf, inN, pos, renB, ren0]) (by simp [argsG, argG, ren0, inN, pos, renCs, renC]) ⟨[], by simp, by simp, ?_⟩; simp [lv, ouN, kpI, kpR, pos, ren, ren0, renB, renC, renCs]) | (refine hK _ ?_; clear hK) | (refine hK _ _ ?_; clear hK) | (clear hK; refine hK _ ?_; clear hK) | (clear hK; clear hK; refine hK _ ?_; clear hK) | (clear hK; clear hK; clear hK; refine hK _ ?_; clear hK) | (clear hK; clear hK; clear hK; clear hK; refine hK _ ?_; clear hK) | (refine wSeq fun K hK => ?_) | ((first | refine wReg ?_ | refine wDrwQ rfl (by kernel_rfl) ?_ | refine wDrwI ?_ | refine wDrw (by kernel_rfl) ?_); simp only [List.map_cons, List.map_nil, strip]) | ((first | refine wIs fun K hK => ?_ | refine wOs fun K hK => ?_ | refine wQs fun K hK => ?_ | refine CallK_plain ?_ | refine CallQ_plain ?_ | refine CallR_plain ?_ | refine wCond ?_); simp [w1, w2, hzb, hqz, haz, d1, d2, d3, hs', hs2, lv, ouN, kpI, kpR, pos, ren, ren0, renB, renC, renCs]) | (refine wIn ?_; refine And.intro (by kernel_rfl) ?_; try simp only [thenA_n]) | (first | refine wBlock ?_ | refine wScope ?_) | ((first | refine wRet ?_ | refine wExit ?_ | refine wSkip ?_); try simp) | ((first | refine wLabel ?_ | refine wOn ?_ | refine wQn ?_); try simp only [thenA_n]) | (refine CallE.pure (c2) rfl ?_) | (refine CallE.lent (c2) rfl ?_) | (refine CallF.pure (c2) rfl ?_) | (refine CallF.lent (c2) rfl ?_) | (refine CallE.own (c2) ?_) | (refine CallH.pure (c2) rfl ?_) | (refine CallH.lent (c2) rfl ?_) | (refine CallH.own (c2) ?_) | (refine CallE.pure (c4) rfl ?_) | (refine CallE.lent (c4) rfl ?_) | (refine CallF.pure (c4) rfl ?_) | (refine CallF.lent (c4) rfl ?_) | (refine CallE.own (c4) ?_) | (refine CallH.pure (c4) rfl ?_) | (refine CallH.lent (c4) rfl ?_) | (refine CallH.own (c4) ?_)
  all_goals apply hr
  all_goals refine ⟨[], by simp, by simp, ?_⟩
  all_goals simp [Tryz.f53, outR, outB, renB, gaN, lv, ouN, kpI, kpR, pos, ren, ren0, renC, renCs, w1, w2]
 ·have hs' : ¬ cx = sv := fun h => hs (heq.1 h)
  have hs2 : ¬ (cx : Int) = (sv : Int) := by omega
  rw [if_neg hs]
  unfold frO
  simp only [show ¬ (4 : Int) = 0 by decide, if_false]
  have e4 := give_con 4 (by decide)
  refine wBodyG Tryz.tab Tryz.mixed Tryz.func53 rfl rfl Tryz.ntmps53 (by simp) (by simp) fun Q hr hn hp => ?_
  repeat' first | (refine CallE.pan e4 ?_) | (refine CallK_gen [1024] hc (by decide) (by decide) (by simp [blksOf, inN, pos, renB, ren0]) (by simp [argsG, argG, ren0, inN, pos, renCs, renC]) ⟨[], by simp, by simp, ?_⟩; simp [lv, ouN, kpI, kpR, pos, ren, ren0, renB, renC, renCs]) | (refine CallK_gen [1024] c3 (by decide) (by decide) (by simp [blksOf, inN, pos, renB, ren0]) (by simp [argsG, argG, ren0, inN, pos, renCs, renC]) ⟨[], by simp, by simp, ?_⟩; simp [lv, ouN, kpI, kpR, pos, ren, ren0, renB, renC, renCs]) | (refine hK _ ?_; clear hK) | (refine hK _ _ ?_; clear hK) | (clear hK; refine hK _ ?_; clear hK) | (clear hK; clear hK; refine hK _ ?_; clear hK) | (clear hK; clear hK; clear hK; refine hK _ ?_; clear hK) | (clear hK; clear hK; clear hK; clear hK; refine hK _ ?_; clear hK) | (refine wSeq fun K hK => ?_) | ((first | refine wReg ?_ | refine wDrwQ rfl (by kernel_rfl) ?_ | refine wDrwI ?_ | refine wDrw (by kernel_rfl) ?_); simp only [List.map_cons, List.map_nil, strip]) | ((first | refine wIs fun K hK => ?_ | refine wOs fun K hK => ?_ | refine wQs fun K hK => ?_ | refine CallK_plain ?_ | refine CallQ_plain ?_ | refine CallR_plain ?_ | refine wCond ?_); simp [w1, w2, hzb, hqz, haz, d1, d2, d3, hs', hs2, lv, ouN, kpI, kpR, pos, ren, ren0, renB, renC, renCs]) | (refine wIn ?_; refine And.intro (by kernel_rfl) ?_; try simp only [thenA_n]) | (first | refine wBlock ?_ | refine wScope ?_) | ((first | refine wRet ?_ | refine wExit ?_ | refine wSkip ?_); try simp) | ((first | refine wLabel ?_ | refine wOn ?_ | refine wQn ?_); try simp only [thenA_n]) | (refine CallE.pure (c2) rfl ?_) | (refine CallE.lent (c2) rfl ?_) | (refine CallF.pure (c2) rfl ?_) | (refine CallF.lent (c2) rfl ?_) | (refine CallE.own (c2) ?_) | (refine CallH.pure (c2) rfl ?_) | (refine CallH.lent (c2) rfl ?_) | (refine CallH.own (c2) ?_) | (refine CallE.pure (c4) rfl ?_) | (refine CallE.lent (c4) rfl ?_) | (refine CallF.pure (c4) rfl ?_) | (refine CallF.lent (c4) rfl ?_) | (refine CallE.own (c4) ?_) | (refine CallH.pure (c4) rfl ?_) | (refine CallH.lent (c4) rfl ?_) | (refine CallH.own (c4) ?_)
  all_goals try simp only [thenA_p, blockA_p]
  all_goals apply hp
  all_goals simp [AResP, outB, renB, gaN, lv, ouN, kpI, kpR, pos, ren, ren0, renC, renCs]
def frT (b : List UInt8) (r : Int × Nat × Nat) : V := if r.1 = 0 then .tup [.p (.sl 1 (by8 ((b.drop r.2.2).take r.2.1))), .p (I ((r.2.2 + r.2.1 + 4 : Nat) : Int)), .p (I 0)] else .tup [.p (.sl 1 []), .p (I 0), .p (I r.1)]
def opR (b : List UInt8) (a : Nat) : Int × Nat × Nat := frR b a (lnR b.length a 4 (rdU 0 0 (b.drop a)))
def openT (b : List UInt8) (at' : Int) : V := if at' < 0 \/ (b.length : Int) < at' then .tup [.p (.sl 1 []), .p (I 0), .p (I 1)] else frT b (opR b at'.toNat)
theorem openT_shape (b : List UInt8) (at' : Int) : ∃ (x : List UInt8) (y e : Int), openT b at' = .tup [.p (.sl 1 (by8 x)), .p (I y), .p (I e)] := by
 unfold openT frT
 split
 ·exact ⟨[], _, _, rfl⟩
 ·split
  ·exact ⟨_, _, _, rfl⟩
  ·exact ⟨[], _, _, rfl⟩
theorem open_con (b : List UInt8) (at' : Int) (hb : b.length <= 1000000000) : ACon Tryz.prog 37 [.p (.sl 1 (by8 b)), .p (I at')] (openT b at') := by
 have hc : ACon Tryz.prog 52 [.p (.sl 1 (by8 b)), .p (I at'), .p (.v (.func (.func 53) #[] #[]))] (openT b at') := by
  by_cases h : at' < 0 \/ (b.length : Int) < at'
  ·have := readE_B b at' 53 at' 1 _ rfl (by decide) (rcBad_B b at' _ h)
   unfold openT; rw [if_pos h]; exact this
  ·obtain ⟨a, rfl⟩ : ∃ a : Nat, at' = a := ⟨at'.toNat, by omega⟩
   have hn := frame_con b a (by omega) hb
   unfold openT opR
   rw [if_neg h]
   simp only [Int.toNat_natCast]
   generalize frR b a (lnR b.length a 4 (rdU 0 0 (b.drop a))) = r at hn ⊢
   obtain ⟨e, n, q⟩ := r
   unfold frO at hn
   unfold frT
   simp only at hn ⊢
   by_cases h0 : e = 0
   ·subst h0
    rw [if_pos rfl] at hn
    have := read0_B b a 53 (.sl 1 (by8 ((b.drop q).take n))) ((q + n + 4 : Nat) : Int) ⟨_, rfl⟩ _ rfl (rcOk_B b a _ (by omega) _ ⟨_, rfl⟩ hn)
    exact this
   ·rw [if_neg h0] at hn
    have := readE_B b a 53 (q : Int) e _ rfl h0 (rcPan_B b a (by omega) _ _ hn)
    rw [if_neg h0]; exact this
 obtain ⟨x, y, e, hk⟩ := openT_shape b at'
 rw [hk] at hc ⊢
 refine wBody Tryz.tab Tryz.mixed Tryz.func37 rfl rfl Tryz.ntmps37 (by simp) (by simp) fun Q hr hn => ?_
 repeat' first | (refine hK _ ?_; clear hK) | (refine hK _ _ ?_; clear hK) | (clear hK; refine hK _ ?_; clear hK) | (clear hK; clear hK; refine hK _ ?_; clear hK) | (clear hK; clear hK; clear hK; refine hK _ ?_; clear hK) | (clear hK; clear hK; clear hK; clear hK; refine hK _ ?_; clear hK) | (refine wSeq fun K hK => ?_) | ((first | refine wReg ?_ | refine wDrwQ rfl (by kernel_rfl) ?_ | refine wDrwI ?_ | refine wDrw (by kernel_rfl) ?_); simp only [List.map_cons, List.map_nil, strip]) | ((first | refine wIs fun K hK => ?_ | refine wOs fun K hK => ?_ | refine wQs fun K hK => ?_ | refine CallK_plain ?_ | refine CallQ_plain ?_ | refine CallR_plain ?_ | refine wCond ?_); simp) | (refine wIn ?_; refine And.intro (by kernel_rfl) ?_; try simp only [thenA_n]) | (first | refine wBlock ?_ | refine wScope ?_) | ((first | refine wRet ?_ | refine wExit ?_ | refine wSkip ?_); try simp) | ((first | refine wLabel ?_ | refine wOn ?_ | refine wQn ?_); try simp only [thenA_n]) | (refine CallE.pure (hc) rfl ?_) | (refine CallE.lent (hc) rfl ?_) | (refine CallF.pure (hc) rfl ?_) | (refine CallF.lent (hc) rfl ?_) | (refine CallE.own (hc) ?_) | (refine CallH.pure (hc) rfl ?_) | (refine CallH.lent (hc) rfl ?_) | (refine CallH.own (hc) ?_)
 all_goals apply hr
 all_goals simp [Tryz.f37]
def lds (l : List (List UInt8)) : List (List PV) := l.map fun x => [.sl 1 (by8 x)]
@[simp] theorem lds_len (l : List (List UInt8)) : (lds l).length = l.length := by simp [lds]
theorem opR_ok {b : List UInt8} {a : Nat} (h : (opR b a).1 = 0) : a < (opR b a).2.2 /\ (opR b a).2.2 + (opR b a).2.1 + 4 <= b.length /\ (opR b a).2.1 <= 65536 /\ opR b a = lnR b.length a 4 (rdU 0 0 (b.drop a)) /\ (b.drop ((opR b a).2.2 + (opR b a).2.1)).take 4 = le4 (crc ((b.take ((opR b a).2.2 + (opR b a).2.1)).drop a)) := by
 have hok := fun n q => lnR_ok (L := b.length) (a := a) (tail := 4) (r := rdU 0 0 (b.drop a)) (n := n) (q := q)
 have hrd := (rdU_le (b.drop a) 0 0 (by decide) (by omega)).2.2.2
 unfold opR frR at h ⊢
 generalize hr : lnR b.length a 4 (rdU 0 0 (b.drop a)) = r at hok h ⊢
 obtain ⟨e, n, q⟩ := r
 by_cases h0 : e = 0
 ·subst h0
  simp only [if_true] at h ⊢
  split at h
  ·rename_i hs
   rw [if_pos hs]
   obtain ⟨h1, -, h2, h3, h4⟩ := hok n q rfl
   have := hrd h1
   exact ⟨by simp only; omega, by simp only; omega, h2, rfl, hs⟩
  ·simp at h
 ·simp only [h0, if_false] at h
theorem bs_inj {a b : List UInt8} : (bs a = bs b) = (a = b) := by
 refine propext ⟨fun h => ?_, fun h => by rw [h]⟩
 have := congrArg (fun x => x.data.toList) h
 exact this
end Go.Proofs.YtbeofcbehhljdaaGreatDoor
namespace Go.Proofs.YtbeofcbehhljdaaGreatDoor
set_option linter.unusedSimpArgs false
set_option linter.unusedVariables false
open Go Go.Av
theorem rdU_enc : ∀ (n v i u : Nat) (t : List UInt8), v <= n -> i <= 9 -> v * 128 ^ i < 18446744073709551616 -> (0 < i -> 0 < v) -> rdU i u (enc v ++ t) = (0, u + v * 128 ^ i, i + (enc v).length) := by
 intro n
 induction n with
 | zero =>
  intro v i u t hv hi hlt h0
  have : v = 0 := by omega
  subst this
  rw [enc_small (by omega), List.cons_append, rdU, u8_toNat _ (by omega)]
  have : ¬ 0 < i := fun h => by have := h0 h; omega
  rw [if_neg (by omega), if_neg (by omega), if_neg (by omega)]
  simp
 | succ n ih =>
  intro v i u t hv hi hlt h0
  have hP := pow_le9 hi
  have hP0 : 0 < 128 ^ i := Nat.pow_pos (by omega)
  have h9 : i = 9 -> v <= 1 := fun h => by subst h; omega
  by_cases hs : v < 128
  ·rw [enc_small hs, List.cons_append, rdU, u8_toNat _ (by omega)]
   rw [if_neg (by omega), if_neg (by omega), if_neg (by omega), Nat.mod_eq_of_lt hs]
   simp
  ·rw [enc_big hs, List.cons_append, rdU, u8_toNat _ (by omega)]
   rw [if_neg (by omega), if_pos (by omega)]
   have hm : (v % 128 + 128) % 128 = v % 128 := by omega
   have hle : v / 128 * 128 ^ (i + 1) <= v * 128 ^ i := by
    rw [Nat.pow_succ, Nat.mul_comm (128 ^ i), <- Nat.mul_assoc]
    exact Nat.mul_le_mul_right _ (Nat.div_mul_le_self v 128)
   have hsum : v % 128 * 128 ^ i + v / 128 * 128 ^ (i + 1) = v * 128 ^ i := by
    rw [Nat.pow_succ, Nat.mul_comm (128 ^ i), <- Nat.mul_assoc, <- Nat.add_mul]
    congr 1; omega
   rw [hm, ih (v / 128) (i + 1) _ t (by omega) (by omega) (by omega) (fun _ => by omega)]
   simp only [List.length_cons, Prod.mk.injEq, true_and]
   omega
theorem rdU_back (v : Nat) (t : List UInt8) (h : v < 18446744073709551616) : rdU 0 0 (enc v ++ t) = (0, v, (enc v).length) := by
 have := rdU_enc v v 0 0 t (Nat.le_refl _) (by omega) (by simpa using h) (by omega)
 simpa using this
theorem lnR_back (p t : List UInt8) (n tail : Nat) (hn : n <= 65536) (ht : n + tail <= t.length) : lnR (p ++ (enc (zz n) ++ t)).length p.length tail (rdU 0 0 ((p ++ (enc (zz n) ++ t)).drop p.length)) = (0, n, p.length + (enc (zz n)).length) := by
 rw [drop_app, rdU_back _ _ (zz_lt (zz_len n (by omega)))]
 unfold lnR
 simp only [unzz_zz]
 rw [if_neg (by simp), if_neg (by omega), if_neg (by omega), if_neg (by simp only [List.length_append]; omega)]
 simp
theorem frm_len (l : List UInt8) : (frm l).length = (enc (zz l.length)).length + l.length + 4 := by unfold frm; simp only [List.length_append, le4_len]
theorem opR_back (p l t : List UInt8) (hl : l.length <= 65536) : opR (p ++ (frm l ++ t)) p.length = (0, l.length, p.length + (enc (zz l.length)).length) := by
 have hb : p ++ (frm l ++ t) = p ++ (enc (zz l.length) ++ (l ++ (le4 (crc (enc (zz l.length) ++ l)) ++ t))) := by unfold frm; simp only [List.append_assoc]
 rw [hb]
 unfold opR
 rw [lnR_back p _ l.length 4 hl (by simp only [List.length_append, le4_len]; omega)]
 unfold frR
 simp only [if_true]
 have e1 : ((p ++ (enc (zz l.length) ++ (l ++ (le4 (crc (enc (zz l.length) ++ l)) ++ t)))).drop (p.length + (enc (zz l.length)).length + l.length)).take 4 = le4 (crc (enc (zz l.length) ++ l)) := by
  generalize hc : le4 (crc (enc (zz l.length) ++ l)) = s
  have hs : s.length = 4 := by rw [<- hc, le4_len]
  have : p ++ (enc (zz l.length) ++ (l ++ (s ++ t))) = (p ++ (enc (zz l.length) ++ l)) ++ (s ++ t) := by simp only [List.append_assoc]
  rw [this, show p.length + (enc (zz l.length)).length + l.length = (p ++ (enc (zz l.length) ++ l)).length by simp only [List.length_append]; omega, drop_app, <- hs]; simp
 have e2 : ((p ++ (enc (zz l.length) ++ (l ++ (le4 (crc (enc (zz l.length) ++ l)) ++ t)))).take (p.length + (enc (zz l.length)).length + l.length)).drop p.length = enc (zz l.length) ++ l := by
  generalize le4 (crc (enc (zz l.length) ++ l)) = s
  have : p ++ (enc (zz l.length) ++ (l ++ (s ++ t))) = (p ++ (enc (zz l.length) ++ l)) ++ (s ++ t) := by simp only [List.append_assoc]
  rw [this, show p.length + (enc (zz l.length)).length + l.length = (p ++ (enc (zz l.length) ++ l)).length by simp only [List.length_append]; omega]
  rw [List.take_left]; simp
 rw [e1, e2, if_pos rfl]
theorem took_int {b : List UInt8} {a u k : Nat} (ha : a <= b.length) (h : rdU 0 0 (b.drop a) = (0, u, k)) : a < a + k /\ a + k <= b.length /\ b.take a ++ enc u = b.take (a + k) := by
 obtain ⟨h1, h2, h3⟩ := rdU_took h
 rw [List.length_drop] at h2
 exact ⟨by omega, by omega, by rw [List.take_add, h3]⟩
theorem took_ln {b : List UInt8} {a tail n q : Nat} (ha : a <= b.length) (h : lnR b.length a tail (rdU 0 0 (b.drop a)) = (0, n, q)) : a < q /\ n <= 65536 /\ q + n + tail <= b.length /\ b.take a ++ enc (zz n) = b.take q := by
 obtain ⟨h1, h2, h3, h4, h5⟩ := lnR_ok h
 have hu : rdU 0 0 (b.drop a) = (0, (rdU 0 0 (b.drop a)).2.1, (rdU 0 0 (b.drop a)).2.2) := by rw [<- h1]
 obtain ⟨g1, g2, g3⟩ := took_int ha hu
 have hz := zz_unzz (rdU 0 0 (b.drop a)).2.1
 rw [h2] at hz
 rw [<- h4] at g1 g2 g3
 exact ⟨g1, h3, h5, by rw [hz]; exact g3⟩
theorem took_frm {b : List UInt8} {a : Nat} (ha : a <= b.length) (h : (opR b a).1 = 0) : ((b.drop (opR b a).2.2).take (opR b a).2.1).length = (opR b a).2.1 /\ b.take a ++ frm ((b.drop (opR b a).2.2).take (opR b a).2.1) = b.take ((opR b a).2.2 + (opR b a).2.1 + 4) := by
 obtain ⟨h1, h2, h3, h4, h5⟩ := opR_ok h
 generalize hr : opR b a = r at h h1 h2 h3 h4 h5 ⊢
 obtain ⟨e, n, q⟩ := r
 simp only at h h1 h2 h3 h4 h5 ⊢
 subst h
 obtain ⟨-, -, -, g4⟩ := took_ln ha h4.symm
 have hl : ((b.drop q).take n).length = n := by rw [List.length_take, List.length_drop]; omega
 refine ⟨hl, ?_⟩
 have e1 : (b.take (q + n)).drop a = enc (zz n) ++ (b.drop q).take n := by
  rw [List.take_add, <- g4, List.append_assoc]
  have : (b.take a).length = a := by rw [List.length_take]; omega
  conv => lhs; rw [show a = (b.take a).length from this.symm]
  rw [show (b.take a).length = a from this, <- this]
  simp
 rw [e1] at h5
 unfold frm
 rw [hl, <- h5, List.take_add (i := q + n) (j := 4), <- List.append_assoc, <- List.append_assoc, g4, List.take_add (i := q) (j := n)]
end Go.Proofs.YtbeofcbehhljdaaGreatDoor
namespace Go.Proofs.YtbeofcbehhljdaaGreatDoor
set_option linter.unusedSimpArgs false
set_option linter.unusedVariables false
set_option maxRecDepth 8000
open Go Go.Av
theorem intP_back (p t : List UInt8) (n : Int) (hn : okI n) : intP (p ++ (enc (zz n) ++ t)) p.length = (n, ((p.length + (enc (zz n)).length : Nat) : Int), 0) := by
 unfold intP
 rw [if_neg (by simp only [List.length_append]; omega), Int.toNat_natCast, drop_app, rdU_back _ _ (zz_lt hn)]
 simp only [if_true, unzz_zz]
theorem rdN_back (p t : List UInt8) (n : Int) (hn : okI n) : rdN (p ++ (enc (zz n) ++ t)) (0, p.length) = (n, 0, ((p.length + (enc (zz n)).length : Nat) : Int)) := by
 unfold rdN
 rw [if_pos rfl, intP_back p t n hn, if_pos rfl]
theorem textP_back (p s t : List UInt8) (hs : s.length <= 65536) : textP (p ++ (enc (zz s.length) ++ (s ++ t))) p.length = (s, ((p.length + (enc (zz s.length)).length + s.length : Nat) : Int), 0) := by
 have : ((p ++ (enc (zz s.length) ++ (s ++ t))).drop (p.length + (enc (zz s.length)).length)).take s.length = s := by
  rw [<- List.append_assoc p, show p.length + (enc (zz s.length)).length = (p ++ enc (zz s.length)).length by rw [List.length_append], drop_app]; simp
 unfold textP
 rw [if_neg (by simp only [List.length_append]; omega), Int.toNat_natCast, lnR_back p (s ++ t) s.length 0 hs (by rw [List.length_append]; omega)]
 simp only [if_true]
 rw [this]
theorem rdS_back (p s t : List UInt8) (hs : s.length <= 65536) : rdS (p ++ (enc (zz s.length) ++ (s ++ t))) (0, p.length) = (s, 0, ((p.length + (enc (zz s.length)).length + s.length : Nat) : Int)) := by
 unfold rdS
 rw [if_pos rfl, textP_back p s t hs, if_pos rfl]
structure FoK (f : Fo) (g : List PV -> Prop) : Prop where
 back : ∀ (p t : List UInt8) (cs : List PV), g cs -> f.rd (p ++ (f.en cs ++ t)) (0, p.length) = (cs, 0, ((p.length + (f.en cs).length : Nat) : Int))
 good : ∀ cs, g cs -> f.ok cs
def gI (cs : List PV) : Prop := ∃ n, cs = [I n] /\ okI n
def gS (cs : List PV) : Prop := ∃ s : List UInt8, cs = [SB s] /\ s.length <= 65536
def gQ (f : Fo) (a b : List PV -> Prop) (cs : List PV) : Prop := a (cs.take f.n) /\ b (cs.drop f.n)
def gL (c : Nat) (a : List PV -> Prop) (cs : List PV) : Prop := ∃ rows, cs = [.sl c rows] /\ rows.length <= 1000 /\ ∀ r ∈ rows, a r
theorem foI_K : FoK foI gI where
 good := fun cs h => h
 back := fun p t cs ⟨n, h, hn⟩ => by
  subst h
  show ([I (rdN _ _).1], (rdN _ _).2) = _
  rw [foI_en, rdN_back p t n hn]
theorem foS_K : FoK foS gS where
 good := fun cs ⟨s, h, hs⟩ => ⟨s, h, by omega⟩
 back := fun p t cs ⟨s, h, hs⟩ => by
  subst h
  show ([SB (rdS _ _).1], (rdS _ _).2) = _
  rw [foS_en, List.append_assoc, rdS_back p s t hs, List.length_append, Nat.add_assoc]
theorem sq_K {f g : Fo} {a b : List PV -> Prop} (hf : FoK f a) (hg : FoK g b) : FoK (sq f g) (gQ f a b) where
 good := fun cs ⟨h1, h2⟩ => ⟨hf.good _ h1, hg.good _ h2⟩
 back := fun p t cs ⟨h1, h2⟩ => by
  rw [sq_rd, sq_en, List.append_assoc]
  rw [hf.back p (g.en (cs.drop f.n) ++ t) _ h1]
  dsimp only
  have := hg.back (p ++ f.en (cs.take f.n)) t _ h2
  rw [List.append_assoc, List.length_append] at this
  rw [this]
  dsimp only
  rw [List.take_append_drop, List.length_append, Nat.add_assoc]
theorem rdL_back {f : Fo} {a : List PV -> Prop} (hf : FoK f a) : ∀ (rows : List (List PV)) (p t : List UInt8), (∀ r ∈ rows, a r) →
 rdLf f.rd (p ++ (rows.flatMap f.en ++ t)) rows.length (0, p.length) = (rows, 0, ((p.length + (rows.flatMap f.en).length : Nat) : Int))
 | [], p, t, h => by simp [rdLf]
 | r :: rows, p, t, h => by
  rw [List.flatMap_cons, List.length_cons, rdLf, if_pos rfl, List.append_assoc, hf.back p (rows.flatMap f.en ++ t) r (h r List.mem_cons_self)]
  dsimp only
  have := rdL_back hf rows (p ++ f.en r) t fun x hx => h x (List.mem_cons_of_mem _ hx)
  rw [List.append_assoc, List.length_append] at this
  rw [this]
  dsimp only
  rw [List.length_append, Nat.add_assoc]
theorem fl_K {f : Fo} {a : List PV -> Prop} (hf : FoK f a) (c : Nat) : FoK (fl c f) (gL c a) where
 good := fun cs ⟨rows, h, hl, hr⟩ => ⟨rows, h, by omega, fun r hm => hf.good r (hr r hm)⟩
 back := fun p t cs ⟨rows, h, hl, hr⟩ => by
  subst h
  have ho : okI (rows.length : Int) := ⟨by omega, by omega⟩
  have h1 := rdN_back p (rows.flatMap f.en ++ t) rows.length ho
  have h2 : rdCf (p ++ (enc (zz rows.length) ++ (rows.flatMap f.en ++ t))) (0, p.length) = ((rows.length : Int), 0, ((p.length + (enc (zz rows.length)).length : Nat) : Int)) := by
   unfold rdCf
   rw [h1]
   simp only [not_true_eq_false, if_false]
   rw [if_neg (by omega), if_neg (by omega)]
  have h3 := rdL_back hf rows (p ++ enc (zz rows.length)) t hr
  rw [List.append_assoc, List.length_append] at h3
  show ([PV.sl c (rdLf _ _ _ _).1], (rdLf _ _ _ _).2) = _
  rw [fl_en, List.append_assoc, h2]
  dsimp only
  rw [Int.toNat_natCast, h3]
  dsimp only
  rw [List.length_append, Nat.add_assoc]
end Go.Proofs.YtbeofcbehhljdaaGreatDoor
namespace Go.Proofs.YtbeofcbehhljdaaGreatDoor
set_option linter.unusedSimpArgs false
set_option linter.unusedVariables false
open Go Go.Av
attribute [local irreducible] Go.Av.CallK Go.Av.CallE Go.Av.CallQ Go.Av.CallF Go.Av.CallR Go.Av.CallH Go.Av.Con
def fs (l : List (List UInt8)) : List UInt8 := l.flatMap frm
theorem load_back (p l t : List UInt8) : ((p ++ (frm l ++ t)).drop (p.length + (enc (zz l.length)).length)).take l.length = l := by
 have hb : p ++ (frm l ++ t) = (p ++ enc (zz l.length)) ++ (l ++ (le4 (crc (enc (zz l.length) ++ l)) ++ t)) := by unfold frm; simp only [List.append_assoc]
 rw [hb, show p.length + (enc (zz l.length)).length = (p ++ enc (zz l.length)).length by rw [List.length_append], drop_app]; simp
theorem frm_torn (p x u t : List UInt8) (hx : x.length <= 65536) (h : frm x = t ++ u) (hu : u ≠ []) : ¬ (opR (p ++ t) p.length).1 = 0 := by
 intro h0
 obtain ⟨g1, g2⟩ := took_frm (b := p ++ t) (a := p.length) (by rw [List.length_append]; omega) h0
 obtain ⟨-, -, g3, -⟩ := opR_ok h0
 generalize ((p ++ t).drop (opR (p ++ t) p.length).2.2).take (opR (p ++ t) p.length).2.1 = y at g1 g2
 generalize hz : (opR (p ++ t) p.length).2.2 + (opR (p ++ t) p.length).2.1 + 4 = z at g2
 rw [List.take_left] at g2
 have e1 : p ++ t = p ++ (frm y ++ (p ++ t).drop z) := by
  rw [<- List.append_assoc, g2, List.take_append_drop]
 have e2 := List.append_cancel_left e1
 generalize (p ++ t).drop z = t' at e2
 rw [e2, List.append_assoc] at h
 have o1 := opR_back [] x [] hx
 have o2 := opR_back [] y (t' ++ u) (by omega)
 rw [List.append_nil, List.nil_append] at o1
 rw [List.nil_append, <- h, o1] at o2
 simp only [Prod.mk.injEq, true_and] at o2
 have hxy := o2.1
 have l1 := congrArg List.length h
 have l2 := frm_len x
 have l3 := frm_len y
 rw [<- hxy] at l3
 have hul : 0 < u.length := List.length_pos_iff.2 hu
 simp only [List.length_append] at l1
 omega
def eds (l : List (List UInt8)) (k : Nat) : List (List PV) := (List.range (k + 1)).map fun j => [I ((fs (l.take j)).length : Nat)]
@[simp] theorem eds_len (l : List (List UInt8)) (k : Nat) : (eds l k).length = k + 1 := by simp [eds]
section
variable {Q : AExit -> St -> Prop} {st : St} (l : List (List UInt8)) (cut : Int)
end
end Go.Proofs.YtbeofcbehhljdaaGreatDoor
