/- Disks: a file synced, a file cut. -/
import Derived.Test.YtijjfiebmdejaaaDK4
namespace Go.Proofs.Ytijjfiebmdejaaa
set_option linter.unusedSimpArgs false
set_option linter.unusedVariables false
open Go Go.Av
attribute [local simp] Try.T1 Try.T2 Try.T3 Try.T4 Try.T5 Try.T9 Try.T12 Try.T15 Try.T16 Try.T17 Try.T21 Try.T22 Try.T23 Try.T24 Try.T25 Try.T27 Try.T28 Try.T29 Try.T30 Try.T32 Try.T33 Try.T35 Try.T37 Try.T38 Try.T39 Try.T40 Try.T41 Try.T42 Try.T43 Try.T44 Try.T45 Try.T47 Try.T48 Try.T49 Try.T50 Try.T51 Try.T52 Try.T53 Try.T55 Try.T56 Try.T57 Try.T58 Try.T59 Try.T60 Try.T61 Try.T62 Try.T63 Try.T64 Try.T65 Try.T66 Try.T67 Try.T69 Try.T71 Try.T72 Try.T73 Try.T74 Try.T75 Try.T78 Try.T81 Try.T82 Try.T85 Try.T86
attribute [local irreducible] Go.Av.CallK Go.Av.CallE Go.Av.CallQ Go.Av.CallF Go.Av.CallR Go.Av.CallH Go.Av.Con
def gF (l : List Fl) (nm : List UInt8) : Fl := l.getD (fiF l nm) ⟨[], [], 0⟩
theorem isF_lt {l : List Fl} {nm : List UInt8} (h : isF l nm = true) : fiF l nm < l.length := by
  unfold isF at h
  by_cases h' : fiF l nm < l.length
  · exact h'
  · rw [List.getElem?_eq_none (by omega)] at h; simp at h
theorem gF_eq {l : List Fl} {nm : List UInt8} (h : fiF l nm < l.length) : gF l nm = l[fiF l nm] := by
  unfold gF; rw [List.getD_eq_getElem?_getD, List.getElem?_eq_getElem h]; rfl
theorem isF_eq {l : List Fl} {nm : List UInt8} (h : isF l nm = true) : l[fiF l nm]'(isF_lt h) = gF l nm ∧ (gF l nm).n = nm := by
  have h1 := isF_lt h
  refine ⟨(gF_eq h1).symm, ?_⟩
  rw [gF_eq h1]
  unfold isF at h
  rw [List.getElem?_eq_getElem h1] at h
  simpa using h
def brn (d : Dk) : Dk := ⟨d.fs, d.cap, burnF d.fuse, burnN d.fuse d.dn⟩
def chg (d : Dk) (nm : List UInt8) (g : Fl → Fl) (e : Fl → Int) : Dk × Int :=
  if d.dn = true then (d, 9) else if isF d.fs nm = true then
    (if e (gF d.fs nm) = 0 then (if d.fuse = 1 then (brn d, 9) else (⟨d.fs.set (fiF d.fs nm) (g (gF d.fs nm)), d.cap, burnF d.fuse, d.dn⟩, 0)) else (d, e (gF d.fs nm)))
  else (d, 6)
def synF (f : Fl) : Fl := ⟨f.n, f.d, f.d.length⟩
structure OkK (x : Dk) : Prop extends OkD x where
  fu : x.fuse ≤ 9223372036854775807
set_option maxHeartbeats 4000000 in
theorem changeS_con (d : Dk) (nm : List UInt8) (hk : OkK d) : ACon Try.prog 44 [.p (.agg d.cells), .p (SB nm), .p (.v (.func (.func 45) #[] #[]))] (.tup [.p (.agg (chg d nm synF (fun _ => 0)).1.cells), .p (I (chg d nm synF (fun _ => 0)).2)]) := by
  have c1 := own13_con d hk.toOkD
  have c2 := open_con d nm (by have := hk.n; omega)
  have c3 := find_con d.fs nm (by have := hk.n; omega)
  have c5 := burn_con (fls d.fs) d.cap d.fuse d.dn hk.fu
  have hkd := hk.d
  obtain ⟨fs, cap, fuse, dn⟩ := d
  simp only at c1 c2 c3 c5 hkd
  unfold openE at c2
  unfold chg brn Dk.cells
  unfold Dk.cells at c1 c2
  dsimp only at c1 c2 ⊢
  cases dn with
  | true =>
    simp only [if_true] at c2 ⊢
    refine wBody Try.tab Try.mixed Try.func44 rfl rfl Try.ntmps44 (by simp) (by simp) fun Q hr hn => ?_
    repeat' first | (refine CallK_gen [] (c1) (by decide) (by decide) (by simp [blksOf]) (by simp [argsG, argG, ren0, inN, pos, renCs, renC, toP, toPF]) ⟨[500], by simp, by simp, ?_⟩; simp [lv, ouN, kpI, kpR, pos, ren, ren0, renB, renC, renCs, renF, renFs]) | (refine hK _ ?_; clear hK) | (refine hK _ _ ?_; clear hK) | (clear hK; refine hK _ ?_; clear hK) | (clear hK; clear hK; refine hK _ ?_; clear hK) | (clear hK; clear hK; clear hK; refine hK _ ?_; clear hK) | (clear hK; clear hK; clear hK; clear hK; refine hK _ ?_; clear hK) | (refine wSeq fun K hK => ?_) | ((first | refine wReg ?_ | refine wDrwQ rfl (by kernel_rfl) ?_ | refine wDrwI ?_ | refine wDrw (by kernel_rfl) ?_); simp only [List.map_cons, List.map_nil, strip]) | ((first | refine wIs fun K hK => ?_ | refine wOs fun K hK => ?_ | refine wQs fun K hK => ?_ | refine CallK_plain ?_ | refine CallQ_plain ?_ | refine CallR_plain ?_ | refine wCond ?_); simp [lv, ouN, kpI, kpR, pos, ren, ren0, renB, renC, renCs, renF, renFs]) | (refine wIn ?_; refine And.intro (by kernel_rfl) ?_; try simp only [thenA_n]) | (first | refine wBlock ?_ | refine wScope ?_) | ((first | refine wRet ?_ | refine wExit ?_ | refine wSkip ?_); try simp) | ((first | refine wLabel ?_ | refine wOn ?_ | refine wQn ?_); try simp only [thenA_n]) | (refine CallE.pure (c2) rfl ?_) | (refine CallE.lent (c2) rfl ?_) | (refine CallF.pure (c2) rfl ?_) | (refine CallF.lent (c2) rfl ?_) | (refine CallE.own (c2) ?_) | (refine CallH.pure (c2) rfl ?_) | (refine CallH.lent (c2) rfl ?_) | (refine CallH.own (c2) ?_)
    all_goals apply hr
    all_goals simp [Try.f44]
  | false =>
    simp only [Bool.false_eq_true, if_false] at c2 ⊢
    cases hi : isF fs nm with
    | false =>
      rw [hi] at c2
      simp only [Bool.false_eq_true, if_false] at c2 ⊢
      refine wBody Try.tab Try.mixed Try.func44 rfl rfl Try.ntmps44 (by simp) (by simp) fun Q hr hn => ?_
      repeat' first | (refine CallK_gen [] (c1) (by decide) (by decide) (by simp [blksOf]) (by simp [argsG, argG, ren0, inN, pos, renCs, renC, toP, toPF]) ⟨[500], by simp, by simp, ?_⟩; simp [lv, ouN, kpI, kpR, pos, ren, ren0, renB, renC, renCs, renF, renFs]) | (refine hK _ ?_; clear hK) | (refine hK _ _ ?_; clear hK) | (clear hK; refine hK _ ?_; clear hK) | (clear hK; clear hK; refine hK _ ?_; clear hK) | (clear hK; clear hK; clear hK; refine hK _ ?_; clear hK) | (clear hK; clear hK; clear hK; clear hK; refine hK _ ?_; clear hK) | (refine wSeq fun K hK => ?_) | ((first | refine wReg ?_ | refine wDrwQ rfl (by kernel_rfl) ?_ | refine wDrwI ?_ | refine wDrw (by kernel_rfl) ?_); simp only [List.map_cons, List.map_nil, strip]) | ((first | refine wIs fun K hK => ?_ | refine wOs fun K hK => ?_ | refine wQs fun K hK => ?_ | refine CallK_plain ?_ | refine CallQ_plain ?_ | refine CallR_plain ?_ | refine wCond ?_); simp [lv, ouN, kpI, kpR, pos, ren, ren0, renB, renC, renCs, renF, renFs]) | (refine wIn ?_; refine And.intro (by kernel_rfl) ?_; try simp only [thenA_n]) | (first | refine wBlock ?_ | refine wScope ?_) | ((first | refine wRet ?_ | refine wExit ?_ | refine wSkip ?_); try simp) | ((first | refine wLabel ?_ | refine wOn ?_ | refine wQn ?_); try simp only [thenA_n]) | (refine CallE.pure (c2) rfl ?_) | (refine CallE.lent (c2) rfl ?_) | (refine CallF.pure (c2) rfl ?_) | (refine CallF.lent (c2) rfl ?_) | (refine CallE.own (c2) ?_) | (refine CallH.pure (c2) rfl ?_) | (refine CallH.lent (c2) rfl ?_) | (refine CallH.own (c2) ?_)
      all_goals apply hr
      all_goals simp [Try.f44]
    | true =>
      rw [hi] at c2 c3
      simp only [if_true] at c2 ⊢
      have hlt := isF_lt hi
      have hg := (isF_eq hi).1
      have hdl := hkd _ (List.getElem_mem hlt)
      have he := fls_get hlt
      simp only [hg] at he hdl
      have c4 := sync1_con (gF fs nm) (by omega)
      have hst := fls_set fs (fiF fs nm) (synF (gF fs nm))
      have hg2 : fs[fiF fs nm]'hlt = gF fs nm := hg
      clear hg
      generalize gF fs nm = f at *
      generalize fiF fs nm = i at *
      have hE : (fun _ => 0) f = 0 := rfl
      skip
      skip
      by_cases hf : fuse = 1
      · rw [if_pos hf]
        unfold burnE burnN at c5
        unfold burnN
        rw [if_pos hf, if_pos hf] at c5
        rw [if_pos hf]
        refine wBody Try.tab Try.mixed Try.func44 rfl rfl Try.ntmps44 (by simp) (by simp) fun Q hr hn => ?_
        repeat' first | (refine CallK_gen [] (c1) (by decide) (by decide) (by simp [blksOf]) (by simp [argsG, argG, ren0, inN, pos, renCs, renC, toP, toPF]) ⟨[500], by simp, by simp, ?_⟩; simp [lv, ouN, kpI, kpR, pos, ren, ren0, renB, renC, renCs, renF, renFs]) | (refine CallK_gen [11] (c4) (by decide) (by decide) (by simp [blksOf, inN, pos, renB, renC, renCs, ren0, lv, ouN, kpI, kpR]) (by simp [argsG, argG, ren0, inN, pos, renCs, renC]) ⟨[], by simp, by simp, ?_⟩; simp [lv, ouN, kpI, kpR, pos, ren, ren0, renB, renC, renCs, renF, renFs]) | (refine CallK_gen [3, 500] (c5) (by decide) (by decide) (by simp [blksOf, inN, pos, renB, renC, renCs, ren0, lv, ouN, kpI, kpR]) (by simp [argsG, argG, ren0, inN, pos, renCs, renC]) ⟨[], by simp, by simp, ?_⟩; simp [lv, ouN, kpI, kpR, pos, ren, ren0, renB, renC, renCs, renF, renFs]) | (refine hK _ ?_; clear hK) | (refine hK _ _ ?_; clear hK) | (clear hK; refine hK _ ?_; clear hK) | (clear hK; clear hK; refine hK _ ?_; clear hK) | (clear hK; clear hK; clear hK; refine hK _ ?_; clear hK) | (clear hK; clear hK; clear hK; clear hK; refine hK _ ?_; clear hK) | (refine wSeq fun K hK => ?_) | ((first | refine wReg ?_ | refine wDrwQ rfl (by kernel_rfl) ?_ | refine wDrwI ?_ | refine wDrw (by kernel_rfl) ?_); simp only [List.map_cons, List.map_nil, strip]) | ((first | refine wIs fun K hK => ?_ | refine wOs fun K hK => ?_ | refine wQs fun K hK => ?_ | refine CallK_plain ?_ | refine CallQ_plain ?_ | refine CallR_plain ?_ | refine wCond ?_); simp [lv, ouN, kpI, kpR, pos, ren, ren0, renB, renC, renCs, renF, renFs, hlt, he, hg2, Cap.free]) | (refine wIn ?_; refine And.intro (by kernel_rfl) ?_; try simp only [thenA_n]) | (first | refine wBlock ?_ | refine wScope ?_) | ((first | refine wRet ?_ | refine wExit ?_ | refine wSkip ?_); try simp) | ((first | refine wLabel ?_ | refine wOn ?_ | refine wQn ?_); try simp only [thenA_n]) | (refine CallE.pure (c2) rfl ?_) | (refine CallE.lent (c2) rfl ?_) | (refine CallF.pure (c2) rfl ?_) | (refine CallF.lent (c2) rfl ?_) | (refine CallE.own (c2) ?_) | (refine CallH.pure (c2) rfl ?_) | (refine CallH.lent (c2) rfl ?_) | (refine CallH.own (c2) ?_) | (refine CallE.pure (c3) rfl ?_) | (refine CallE.lent (c3) rfl ?_) | (refine CallF.pure (c3) rfl ?_) | (refine CallF.lent (c3) rfl ?_) | (refine CallE.own (c3) ?_) | (refine CallH.pure (c3) rfl ?_) | (refine CallH.lent (c3) rfl ?_) | (refine CallH.own (c3) ?_)
        all_goals apply hr
        all_goals simp [Try.f44]
      · rw [if_neg hf]
        unfold burnE burnN at c5
        rw [if_neg hf, if_neg hf] at c5
        refine wBody Try.tab Try.mixed Try.func44 rfl rfl Try.ntmps44 (by simp) (by simp) fun Q hr hn => ?_
        repeat' first | (refine CallK_gen [] (c1) (by decide) (by decide) (by simp [blksOf]) (by simp [argsG, argG, ren0, inN, pos, renCs, renC, toP, toPF]) ⟨[500], by simp, by simp, ?_⟩; simp [lv, ouN, kpI, kpR, pos, ren, ren0, renB, renC, renCs, renF, renFs]) | (refine CallK_gen [11] (c4) (by decide) (by decide) (by simp [blksOf, inN, pos, renB, renC, renCs, ren0, lv, ouN, kpI, kpR]) (by simp [argsG, argG, ren0, inN, pos, renCs, renC]) ⟨[], by simp, by simp, ?_⟩; simp [lv, ouN, kpI, kpR, pos, ren, ren0, renB, renC, renCs, renF, renFs]) | (refine CallK_gen [3, 500] (c5) (by decide) (by decide) (by simp [blksOf, inN, pos, renB, renC, renCs, ren0, lv, ouN, kpI, kpR]) (by simp [argsG, argG, ren0, inN, pos, renCs, renC]) ⟨[], by simp, by simp, ?_⟩; simp [lv, ouN, kpI, kpR, pos, ren, ren0, renB, renC, renCs, renF, renFs]) | (refine hK _ ?_; clear hK) | (refine hK _ _ ?_; clear hK) | (clear hK; refine hK _ ?_; clear hK) | (clear hK; clear hK; refine hK _ ?_; clear hK) | (clear hK; clear hK; clear hK; refine hK _ ?_; clear hK) | (clear hK; clear hK; clear hK; clear hK; refine hK _ ?_; clear hK) | (refine wSeq fun K hK => ?_) | ((first | refine wReg ?_ | refine wDrwQ rfl (by kernel_rfl) ?_ | refine wDrwI ?_ | refine wDrw (by kernel_rfl) ?_); simp only [List.map_cons, List.map_nil, strip]) | ((first | refine wIs fun K hK => ?_ | refine wOs fun K hK => ?_ | refine wQs fun K hK => ?_ | refine CallK_plain ?_ | refine CallQ_plain ?_ | refine CallR_plain ?_ | refine wCond ?_); simp [lv, ouN, kpI, kpR, pos, ren, ren0, renB, renC, renCs, renF, renFs, hlt, he, hg2, Cap.free, hst]) | (refine wIn ?_; refine And.intro (by kernel_rfl) ?_; try simp only [thenA_n]) | (first | refine wBlock ?_ | refine wScope ?_) | ((first | refine wRet ?_ | refine wExit ?_ | refine wSkip ?_); try simp) | ((first | refine wLabel ?_ | refine wOn ?_ | refine wQn ?_); try simp only [thenA_n]) | (refine CallE.pure (c2) rfl ?_) | (refine CallE.lent (c2) rfl ?_) | (refine CallF.pure (c2) rfl ?_) | (refine CallF.lent (c2) rfl ?_) | (refine CallE.own (c2) ?_) | (refine CallH.pure (c2) rfl ?_) | (refine CallH.lent (c2) rfl ?_) | (refine CallH.own (c2) ?_) | (refine CallE.pure (c3) rfl ?_) | (refine CallE.lent (c3) rfl ?_) | (refine CallF.pure (c3) rfl ?_) | (refine CallF.lent (c3) rfl ?_) | (refine CallE.own (c3) ?_) | (refine CallH.pure (c3) rfl ?_) | (refine CallH.lent (c3) rfl ?_) | (refine CallH.own (c3) ?_)
        all_goals apply hr
        all_goals simp [Try.f44, hst]
        all_goals exact hst.symm
set_option maxHeartbeats 4000000 in
theorem changeC_con (d : Dk) (nm : List UInt8) (n : Int) (hk : OkK d) : ACon Try.prog 44 [.p (.agg d.cells), .p (SB nm), .clo 46 [.rp [I n] 0]] (.tup [.p (.agg (chg d nm (fun f => cutF f n) (fun f => cutE f n)).1.cells), .p (I (chg d nm (fun f => cutF f n) (fun f => cutE f n)).2)]) := by
  have c1 := own13_con d hk.toOkD
  have c2 := open_con d nm (by have := hk.n; omega)
  have c3 := find_con d.fs nm (by have := hk.n; omega)
  have c5 := burn_con (fls d.fs) d.cap d.fuse d.dn hk.fu
  have hkd := hk.d
  obtain ⟨fs, cap, fuse, dn⟩ := d
  simp only at c1 c2 c3 c5 hkd
  unfold openE at c2
  unfold chg brn Dk.cells
  unfold Dk.cells at c1 c2
  dsimp only at c1 c2 ⊢
  cases dn with
  | true =>
    simp only [if_true] at c2 ⊢
    refine wBody Try.tab Try.mixed Try.func44 rfl rfl Try.ntmps44 (by simp) (by simp) fun Q hr hn => ?_
    repeat' first | (refine CallK_gen [] (c1) (by decide) (by decide) (by simp [blksOf]) (by simp [argsG, argG, ren0, inN, pos, renCs, renC, toP, toPF]) ⟨[500], by simp, by simp, ?_⟩; simp [lv, ouN, kpI, kpR, pos, ren, ren0, renB, renC, renCs, renF, renFs]) | (refine hK _ ?_; clear hK) | (refine hK _ _ ?_; clear hK) | (clear hK; refine hK _ ?_; clear hK) | (clear hK; clear hK; refine hK _ ?_; clear hK) | (clear hK; clear hK; clear hK; refine hK _ ?_; clear hK) | (clear hK; clear hK; clear hK; clear hK; refine hK _ ?_; clear hK) | (refine wSeq fun K hK => ?_) | ((first | refine wReg ?_ | refine wDrwQ rfl (by kernel_rfl) ?_ | refine wDrwI ?_ | refine wDrw (by kernel_rfl) ?_); simp only [List.map_cons, List.map_nil, strip]) | ((first | refine wIs fun K hK => ?_ | refine wOs fun K hK => ?_ | refine wQs fun K hK => ?_ | refine CallK_plain ?_ | refine CallQ_plain ?_ | refine CallR_plain ?_ | refine wCond ?_); simp [lv, ouN, kpI, kpR, pos, ren, ren0, renB, renC, renCs, renF, renFs]) | (refine wIn ?_; refine And.intro (by kernel_rfl) ?_; try simp only [thenA_n]) | (first | refine wBlock ?_ | refine wScope ?_) | ((first | refine wRet ?_ | refine wExit ?_ | refine wSkip ?_); try simp) | ((first | refine wLabel ?_ | refine wOn ?_ | refine wQn ?_); try simp only [thenA_n]) | (refine CallE.pure (c2) rfl ?_) | (refine CallE.lent (c2) rfl ?_) | (refine CallF.pure (c2) rfl ?_) | (refine CallF.lent (c2) rfl ?_) | (refine CallE.own (c2) ?_) | (refine CallH.pure (c2) rfl ?_) | (refine CallH.lent (c2) rfl ?_) | (refine CallH.own (c2) ?_)
    all_goals apply hr
    all_goals simp [Try.f44]
  | false =>
    simp only [Bool.false_eq_true, if_false] at c2 ⊢
    cases hi : isF fs nm with
    | false =>
      rw [hi] at c2
      simp only [Bool.false_eq_true, if_false] at c2 ⊢
      refine wBody Try.tab Try.mixed Try.func44 rfl rfl Try.ntmps44 (by simp) (by simp) fun Q hr hn => ?_
      repeat' first | (refine CallK_gen [] (c1) (by decide) (by decide) (by simp [blksOf]) (by simp [argsG, argG, ren0, inN, pos, renCs, renC, toP, toPF]) ⟨[500], by simp, by simp, ?_⟩; simp [lv, ouN, kpI, kpR, pos, ren, ren0, renB, renC, renCs, renF, renFs]) | (refine hK _ ?_; clear hK) | (refine hK _ _ ?_; clear hK) | (clear hK; refine hK _ ?_; clear hK) | (clear hK; clear hK; refine hK _ ?_; clear hK) | (clear hK; clear hK; clear hK; refine hK _ ?_; clear hK) | (clear hK; clear hK; clear hK; clear hK; refine hK _ ?_; clear hK) | (refine wSeq fun K hK => ?_) | ((first | refine wReg ?_ | refine wDrwQ rfl (by kernel_rfl) ?_ | refine wDrwI ?_ | refine wDrw (by kernel_rfl) ?_); simp only [List.map_cons, List.map_nil, strip]) | ((first | refine wIs fun K hK => ?_ | refine wOs fun K hK => ?_ | refine wQs fun K hK => ?_ | refine CallK_plain ?_ | refine CallQ_plain ?_ | refine CallR_plain ?_ | refine wCond ?_); simp [lv, ouN, kpI, kpR, pos, ren, ren0, renB, renC, renCs, renF, renFs]) | (refine wIn ?_; refine And.intro (by kernel_rfl) ?_; try simp only [thenA_n]) | (first | refine wBlock ?_ | refine wScope ?_) | ((first | refine wRet ?_ | refine wExit ?_ | refine wSkip ?_); try simp) | ((first | refine wLabel ?_ | refine wOn ?_ | refine wQn ?_); try simp only [thenA_n]) | (refine CallE.pure (c2) rfl ?_) | (refine CallE.lent (c2) rfl ?_) | (refine CallF.pure (c2) rfl ?_) | (refine CallF.lent (c2) rfl ?_) | (refine CallE.own (c2) ?_) | (refine CallH.pure (c2) rfl ?_) | (refine CallH.lent (c2) rfl ?_) | (refine CallH.own (c2) ?_)
      all_goals apply hr
      all_goals simp [Try.f44]
    | true =>
      rw [hi] at c2 c3
      simp only [if_true] at c2 ⊢
      have hlt := isF_lt hi
      have hg := (isF_eq hi).1
      have hdl := hkd _ (List.getElem_mem hlt)
      have he := fls_get hlt
      simp only [hg] at he hdl
      have c4 := cut1_con (gF fs nm) n hdl
      have hst := fls_set fs (fiF fs nm) (cutF (gF fs nm) n)
      have hg2 : fs[fiF fs nm]'hlt = gF fs nm := hg
      clear hg
      generalize gF fs nm = f at *
      generalize fiF fs nm = i at *
      by_cases hE : cutE f n = 0
      · rw [if_pos hE]
        simp only [hE] at c4
        by_cases hf : fuse = 1
        · rw [if_pos hf]
          unfold burnE burnN at c5
          unfold burnN
          rw [if_pos hf, if_pos hf] at c5
          rw [if_pos hf]
          refine wBody Try.tab Try.mixed Try.func44 rfl rfl Try.ntmps44 (by simp) (by simp) fun Q hr hn => ?_
          repeat' first | (refine CallK_gen [] (c1) (by decide) (by decide) (by simp [blksOf]) (by simp [argsG, argG, ren0, inN, pos, renCs, renC, toP, toPF]) ⟨[500], by simp, by simp, ?_⟩; simp [lv, ouN, kpI, kpR, pos, ren, ren0, renB, renC, renCs, renF, renFs]) | (refine CallK_gen [11] (c4) (by decide) (by decide) (by simp [blksOf, inN, pos, renB, renC, renCs, ren0, lv, ouN, kpI, kpR]) (by simp [argsG, argG, ren0, inN, pos, renCs, renC]) ⟨[], by simp, by simp, ?_⟩; simp [lv, ouN, kpI, kpR, pos, ren, ren0, renB, renC, renCs, renF, renFs]) | (refine CallK_gen [3, 500] (c5) (by decide) (by decide) (by simp [blksOf, inN, pos, renB, renC, renCs, ren0, lv, ouN, kpI, kpR]) (by simp [argsG, argG, ren0, inN, pos, renCs, renC]) ⟨[], by simp, by simp, ?_⟩; simp [lv, ouN, kpI, kpR, pos, ren, ren0, renB, renC, renCs, renF, renFs]) | (refine hK _ ?_; clear hK) | (refine hK _ _ ?_; clear hK) | (clear hK; refine hK _ ?_; clear hK) | (clear hK; clear hK; refine hK _ ?_; clear hK) | (clear hK; clear hK; clear hK; refine hK _ ?_; clear hK) | (clear hK; clear hK; clear hK; clear hK; refine hK _ ?_; clear hK) | (refine wSeq fun K hK => ?_) | ((first | refine wReg ?_ | refine wDrwQ rfl (by kernel_rfl) ?_ | refine wDrwI ?_ | refine wDrw (by kernel_rfl) ?_); simp only [List.map_cons, List.map_nil, strip]) | ((first | refine wIs fun K hK => ?_ | refine wOs fun K hK => ?_ | refine wQs fun K hK => ?_ | refine CallK_plain ?_ | refine CallQ_plain ?_ | refine CallR_plain ?_ | refine wCond ?_); simp [lv, ouN, kpI, kpR, pos, ren, ren0, renB, renC, renCs, renF, renFs, hlt, he, hg2, Cap.free]) | (refine wIn ?_; refine And.intro (by kernel_rfl) ?_; try simp only [thenA_n]) | (first | refine wBlock ?_ | refine wScope ?_) | ((first | refine wRet ?_ | refine wExit ?_ | refine wSkip ?_); try simp) | ((first | refine wLabel ?_ | refine wOn ?_ | refine wQn ?_); try simp only [thenA_n]) | (refine CallE.pure (c2) rfl ?_) | (refine CallE.lent (c2) rfl ?_) | (refine CallF.pure (c2) rfl ?_) | (refine CallF.lent (c2) rfl ?_) | (refine CallE.own (c2) ?_) | (refine CallH.pure (c2) rfl ?_) | (refine CallH.lent (c2) rfl ?_) | (refine CallH.own (c2) ?_) | (refine CallE.pure (c3) rfl ?_) | (refine CallE.lent (c3) rfl ?_) | (refine CallF.pure (c3) rfl ?_) | (refine CallF.lent (c3) rfl ?_) | (refine CallE.own (c3) ?_) | (refine CallH.pure (c3) rfl ?_) | (refine CallH.lent (c3) rfl ?_) | (refine CallH.own (c3) ?_)
          all_goals apply hr
          all_goals simp [Try.f44]
        · rw [if_neg hf]
          unfold burnE burnN at c5
          rw [if_neg hf, if_neg hf] at c5
          refine wBody Try.tab Try.mixed Try.func44 rfl rfl Try.ntmps44 (by simp) (by simp) fun Q hr hn => ?_
          repeat' first | (refine CallK_gen [] (c1) (by decide) (by decide) (by simp [blksOf]) (by simp [argsG, argG, ren0, inN, pos, renCs, renC, toP, toPF]) ⟨[500], by simp, by simp, ?_⟩; simp [lv, ouN, kpI, kpR, pos, ren, ren0, renB, renC, renCs, renF, renFs]) | (refine CallK_gen [11] (c4) (by decide) (by decide) (by simp [blksOf, inN, pos, renB, renC, renCs, ren0, lv, ouN, kpI, kpR]) (by simp [argsG, argG, ren0, inN, pos, renCs, renC]) ⟨[], by simp, by simp, ?_⟩; simp [lv, ouN, kpI, kpR, pos, ren, ren0, renB, renC, renCs, renF, renFs]) | (refine CallK_gen [3, 500] (c5) (by decide) (by decide) (by simp [blksOf, inN, pos, renB, renC, renCs, ren0, lv, ouN, kpI, kpR]) (by simp [argsG, argG, ren0, inN, pos, renCs, renC]) ⟨[], by simp, by simp, ?_⟩; simp [lv, ouN, kpI, kpR, pos, ren, ren0, renB, renC, renCs, renF, renFs]) | (refine hK _ ?_; clear hK) | (refine hK _ _ ?_; clear hK) | (clear hK; refine hK _ ?_; clear hK) | (clear hK; clear hK; refine hK _ ?_; clear hK) | (clear hK; clear hK; clear hK; refine hK _ ?_; clear hK) | (clear hK; clear hK; clear hK; clear hK; refine hK _ ?_; clear hK) | (refine wSeq fun K hK => ?_) | ((first | refine wReg ?_ | refine wDrwQ rfl (by kernel_rfl) ?_ | refine wDrwI ?_ | refine wDrw (by kernel_rfl) ?_); simp only [List.map_cons, List.map_nil, strip]) | ((first | refine wIs fun K hK => ?_ | refine wOs fun K hK => ?_ | refine wQs fun K hK => ?_ | refine CallK_plain ?_ | refine CallQ_plain ?_ | refine CallR_plain ?_ | refine wCond ?_); simp [lv, ouN, kpI, kpR, pos, ren, ren0, renB, renC, renCs, renF, renFs, hlt, he, hg2, Cap.free, hst]) | (refine wIn ?_; refine And.intro (by kernel_rfl) ?_; try simp only [thenA_n]) | (first | refine wBlock ?_ | refine wScope ?_) | ((first | refine wRet ?_ | refine wExit ?_ | refine wSkip ?_); try simp) | ((first | refine wLabel ?_ | refine wOn ?_ | refine wQn ?_); try simp only [thenA_n]) | (refine CallE.pure (c2) rfl ?_) | (refine CallE.lent (c2) rfl ?_) | (refine CallF.pure (c2) rfl ?_) | (refine CallF.lent (c2) rfl ?_) | (refine CallE.own (c2) ?_) | (refine CallH.pure (c2) rfl ?_) | (refine CallH.lent (c2) rfl ?_) | (refine CallH.own (c2) ?_) | (refine CallE.pure (c3) rfl ?_) | (refine CallE.lent (c3) rfl ?_) | (refine CallF.pure (c3) rfl ?_) | (refine CallF.lent (c3) rfl ?_) | (refine CallE.own (c3) ?_) | (refine CallH.pure (c3) rfl ?_) | (refine CallH.lent (c3) rfl ?_) | (refine CallH.own (c3) ?_)
          all_goals apply hr
          all_goals simp [Try.f44, hst]
      · rw [if_neg hE]
        refine wBody Try.tab Try.mixed Try.func44 rfl rfl Try.ntmps44 (by simp) (by simp) fun Q hr hn => ?_
        have hE2 : (cutE f n = 0) = False := eq_false hE
        repeat' first | (refine CallK_gen [] (c1) (by decide) (by decide) (by simp [blksOf]) (by simp [argsG, argG, ren0, inN, pos, renCs, renC, toP, toPF]) ⟨[500], by simp, by simp, ?_⟩; simp [lv, ouN, kpI, kpR, pos, ren, ren0, renB, renC, renCs, renF, renFs]) | (refine CallK_gen [11] (c4) (by decide) (by decide) (by simp [blksOf, inN, pos, renB, renC, renCs, ren0, lv, ouN, kpI, kpR]) (by simp [argsG, argG, ren0, inN, pos, renCs, renC]) ⟨[], by simp, by simp, ?_⟩; simp [lv, ouN, kpI, kpR, pos, ren, ren0, renB, renC, renCs, renF, renFs]) | (refine hK _ ?_; clear hK) | (refine hK _ _ ?_; clear hK) | (clear hK; refine hK _ ?_; clear hK) | (clear hK; clear hK; refine hK _ ?_; clear hK) | (clear hK; clear hK; clear hK; refine hK _ ?_; clear hK) | (clear hK; clear hK; clear hK; clear hK; refine hK _ ?_; clear hK) | (refine wSeq fun K hK => ?_) | ((first | refine wReg ?_ | refine wDrwQ rfl (by kernel_rfl) ?_ | refine wDrwI ?_ | refine wDrw (by kernel_rfl) ?_); simp only [List.map_cons, List.map_nil, strip]) | ((first | refine wIs fun K hK => ?_ | refine wOs fun K hK => ?_ | refine wQs fun K hK => ?_ | refine CallK_plain ?_ | refine CallQ_plain ?_ | refine CallR_plain ?_ | refine wCond ?_); simp [lv, ouN, kpI, kpR, pos, ren, ren0, renB, renC, renCs, renF, renFs, hlt, he, hg2, Cap.free, hE2]) | (refine wIn ?_; refine And.intro (by kernel_rfl) ?_; try simp only [thenA_n]) | (first | refine wBlock ?_ | refine wScope ?_) | ((first | refine wRet ?_ | refine wExit ?_ | refine wSkip ?_); try simp) | ((first | refine wLabel ?_ | refine wOn ?_ | refine wQn ?_); try simp only [thenA_n]) | (refine CallE.pure (c2) rfl ?_) | (refine CallE.lent (c2) rfl ?_) | (refine CallF.pure (c2) rfl ?_) | (refine CallF.lent (c2) rfl ?_) | (refine CallE.own (c2) ?_) | (refine CallH.pure (c2) rfl ?_) | (refine CallH.lent (c2) rfl ?_) | (refine CallH.own (c2) ?_) | (refine CallE.pure (c3) rfl ?_) | (refine CallE.lent (c3) rfl ?_) | (refine CallF.pure (c3) rfl ?_) | (refine CallF.lent (c3) rfl ?_) | (refine CallE.own (c3) ?_) | (refine CallH.pure (c3) rfl ?_) | (refine CallH.lent (c3) rfl ?_) | (refine CallH.own (c3) ?_)
        all_goals apply hr
        all_goals simp [Try.f44]
end Go.Proofs.Ytijjfiebmdejaaa
