/- Disks: something appended. -/
import Derived.Test.YtijjfiebmdejaaaDK5
namespace Go.Proofs.Ytijjfiebmdejaaa
set_option linter.unusedSimpArgs false
set_option linter.unusedVariables false
open Go Go.Av
attribute [local simp] Try.T1 Try.T2 Try.T3 Try.T4 Try.T5 Try.T9 Try.T12 Try.T15 Try.T16 Try.T17 Try.T21 Try.T22 Try.T23 Try.T24 Try.T25 Try.T27 Try.T28 Try.T29 Try.T30 Try.T32 Try.T33 Try.T35 Try.T37 Try.T38 Try.T39 Try.T40 Try.T41 Try.T42 Try.T43 Try.T44 Try.T45 Try.T47 Try.T48 Try.T49 Try.T50 Try.T51 Try.T52 Try.T53 Try.T55 Try.T56 Try.T57 Try.T58 Try.T59 Try.T60 Try.T61 Try.T62 Try.T63 Try.T64 Try.T65 Try.T66 Try.T67 Try.T69 Try.T71 Try.T72 Try.T73 Try.T74 Try.T75 Try.T78 Try.T81 Try.T82 Try.T85 Try.T86
attribute [local irreducible] Go.Av.CallK Go.Av.CallE Go.Av.CallQ Go.Av.CallF Go.Av.CallR Go.Av.CallH Go.Av.Con
/-- A row is frozen ahead of a drawing region, once. -/
theorem wDrwR [Glob] {P : Program} {T : TypeId → Option Ty} {N : Nat} {Q : AExit → St → Prop} {st : St} {id : Nat} {l : List Oper} (b : Nat) {e c : Nat} {X : List (List PV)} (hb : st.b b = some (.row e c X)) (h : WC P T N (.region id l.toArray true) Q (Av.frz st b c X)) : WC P T N (.region id l.toArray true) Q st := by
  refine wDrwF [.frz b] ?_
  have e0 : frzL st [.frz b] = Av.frz st b c X := by simp only [frzL, gh1, hb]
  rw [e0]
  exact h
def putF (l : List Fl) (nm b : List UInt8) : List Fl :=
  if isF l nm = true then l.set (fiF l nm) ⟨(gF l nm).n, (gF l nm).d ++ b, (gF l nm).s⟩
  else l.take (fiF l nm) ++ ⟨nm, b, 0⟩ :: l.drop (fiF l nm)
def app (d : Dk) (nm b : List UInt8) : Dk × Int :=
  if d.dn = true then (d, 9) else if isN nm = true then
    (if d.cap < ((usedL d.fs : Nat) : Int) + b.length then (d, 8) else (⟨putF d.fs nm b, d.cap, burnF d.fuse, burnN d.fuse d.dn⟩, burnE d.fuse))
  else (d, 1)
set_option maxHeartbeats 4000000 in
theorem append_con (d : Dk) (nm b : List UInt8) (hk : OkK d) (hu : usedL d.fs ≤ 1000000000) (hb : b.length ≤ 10000000) (hn : nm.length ≤ 1000000000) : ACon Try.prog 22 [.p (.agg d.cells), .p (SB nm), .p (.sl 1 (by8 b))] (.tup [.p (.agg (app d nm b).1.cells), .p (I (app d nm b).2)]) := by
  have c1 := own13_con d hk.toOkD
  have c2 := isName_con nm hn
  have c3 := used_con d (by have := hk.n; omega) hu
  have c4 := find_con d.fs nm (by have := hk.n; omega)
  have c5 := burn_con (fls (putF d.fs nm b)) d.cap d.fuse d.dn hk.fu
  have hkd := hk.d
  have hkn := hk.n
  unfold app
  obtain ⟨fs, cap, fuse, dn⟩ := d
  unfold Dk.cells at c1 c3 ⊢
  dsimp only at c1 c3 c4 c5 hkd hu hkn ⊢
  have hbl : b.length < 9223372036854775808 := by omega
  have hw : IntKind.i64.wrap (((usedL fs : Nat) : Int) + (b.length : Int)) = ((usedL fs : Nat) : Int) + b.length := by rw [wrap_id] <;> omega
  cases dn with
  | true =>
    simp only [if_true]
    refine wBody Try.tab Try.mixed Try.func22 rfl rfl Try.ntmps22 (by simp) (by simp) fun Q hr hn => ?_
    repeat' first | (refine CallK_gen [] (c1) (by decide) (by decide) (by simp [blksOf]) (by simp [argsG, argG, ren0, inN, pos, renCs, renC, toP, toPF]) ⟨[500], by simp, by simp, ?_⟩; simp [lv, ouN, kpI, kpR, pos, ren, ren0, renB, renC, renCs, renF, renFs]) | (refine hK _ ?_; clear hK) | (refine hK _ _ ?_; clear hK) | (clear hK; refine hK _ ?_; clear hK) | (clear hK; clear hK; refine hK _ ?_; clear hK) | (clear hK; clear hK; clear hK; refine hK _ ?_; clear hK) | (clear hK; clear hK; clear hK; clear hK; refine hK _ ?_; clear hK) | (refine wSeq fun K hK => ?_) | ((first | refine wReg ?_ | refine wDrwQ rfl (by kernel_rfl) ?_ | refine wDrwI ?_ | refine wDrw (by kernel_rfl) ?_); simp only [List.map_cons, List.map_nil, strip]) | ((first | refine wIs fun K hK => ?_ | refine wOs fun K hK => ?_ | refine wQs fun K hK => ?_ | refine CallK_plain ?_ | refine CallQ_plain ?_ | refine CallR_plain ?_ | refine wCond ?_); simp [lv, ouN, kpI, kpR, pos, ren, ren0, renB, renC, renCs, renF, renFs]) | (refine wIn ?_; refine And.intro (by kernel_rfl) ?_; try simp only [thenA_n]) | (first | refine wBlock ?_ | refine wScope ?_) | ((first | refine wRet ?_ | refine wExit ?_ | refine wSkip ?_); try simp) | ((first | refine wLabel ?_ | refine wOn ?_ | refine wQn ?_); try simp only [thenA_n])
    all_goals apply hr
    all_goals simp [Try.f22]
  | false =>
    simp only [Bool.false_eq_true, if_false]
    cases hin : isN nm with
    | false =>
      rw [hin] at c2
      simp only [Bool.false_eq_true, if_false]
      refine wBody Try.tab Try.mixed Try.func22 rfl rfl Try.ntmps22 (by simp) (by simp) fun Q hr hn => ?_
      repeat' first | (refine CallK_gen [] (c1) (by decide) (by decide) (by simp [blksOf]) (by simp [argsG, argG, ren0, inN, pos, renCs, renC, toP, toPF]) ⟨[500], by simp, by simp, ?_⟩; simp [lv, ouN, kpI, kpR, pos, ren, ren0, renB, renC, renCs, renF, renFs]) | (refine hK _ ?_; clear hK) | (refine hK _ _ ?_; clear hK) | (clear hK; refine hK _ ?_; clear hK) | (clear hK; clear hK; refine hK _ ?_; clear hK) | (clear hK; clear hK; clear hK; refine hK _ ?_; clear hK) | (clear hK; clear hK; clear hK; clear hK; refine hK _ ?_; clear hK) | (refine wSeq fun K hK => ?_) | ((first | refine wReg ?_ | refine wDrwQ rfl (by kernel_rfl) ?_ | refine wDrwI ?_ | refine wDrw (by kernel_rfl) ?_); simp only [List.map_cons, List.map_nil, strip]) | ((first | refine wIs fun K hK => ?_ | refine wOs fun K hK => ?_ | refine wQs fun K hK => ?_ | refine CallK_plain ?_ | refine CallQ_plain ?_ | refine CallR_plain ?_ | refine wCond ?_); simp [lv, ouN, kpI, kpR, pos, ren, ren0, renB, renC, renCs, renF, renFs]) | (refine wIn ?_; refine And.intro (by kernel_rfl) ?_; try simp only [thenA_n]) | (first | refine wBlock ?_ | refine wScope ?_) | ((first | refine wRet ?_ | refine wExit ?_ | refine wSkip ?_); try simp) | ((first | refine wLabel ?_ | refine wOn ?_ | refine wQn ?_); try simp only [thenA_n]) | (refine CallE.pure (c2) rfl ?_) | (refine CallE.lent (c2) rfl ?_) | (refine CallF.pure (c2) rfl ?_) | (refine CallF.lent (c2) rfl ?_) | (refine CallE.own (c2) ?_) | (refine CallH.pure (c2) rfl ?_) | (refine CallH.lent (c2) rfl ?_) | (refine CallH.own (c2) ?_)
      all_goals apply hr
      all_goals simp [Try.f22]
    | true =>
      rw [hin] at c2
      simp only [if_true]
      by_cases hc : cap < ((usedL fs : Nat) : Int) + b.length
      · rw [if_pos hc]
        refine wBody Try.tab Try.mixed Try.func22 rfl rfl Try.ntmps22 (by simp) (by simp) fun Q hr hn => ?_
        repeat' first | (refine CallK_gen [] (c1) (by decide) (by decide) (by simp [blksOf]) (by simp [argsG, argG, ren0, inN, pos, renCs, renC, toP, toPF]) ⟨[500], by simp, by simp, ?_⟩; simp [lv, ouN, kpI, kpR, pos, ren, ren0, renB, renC, renCs, renF, renFs]) | (refine hK _ ?_; clear hK) | (refine hK _ _ ?_; clear hK) | (clear hK; refine hK _ ?_; clear hK) | (clear hK; clear hK; refine hK _ ?_; clear hK) | (clear hK; clear hK; clear hK; refine hK _ ?_; clear hK) | (clear hK; clear hK; clear hK; clear hK; refine hK _ ?_; clear hK) | (refine wSeq fun K hK => ?_) | ((first | refine wReg ?_ | refine wDrwQ rfl (by kernel_rfl) ?_ | refine wDrwI ?_ | refine wDrw (by kernel_rfl) ?_); simp only [List.map_cons, List.map_nil, strip]) | ((first | refine wIs fun K hK => ?_ | refine wOs fun K hK => ?_ | refine wQs fun K hK => ?_ | refine CallK_plain ?_ | refine CallQ_plain ?_ | refine CallR_plain ?_ | refine wCond ?_); simp [lv, ouN, kpI, kpR, pos, ren, ren0, renB, renC, renCs, renF, renFs, hbl, hw, hc]) | (refine wIn ?_; refine And.intro (by kernel_rfl) ?_; try simp only [thenA_n]) | (first | refine wBlock ?_ | refine wScope ?_) | ((first | refine wRet ?_ | refine wExit ?_ | refine wSkip ?_); try simp) | ((first | refine wLabel ?_ | refine wOn ?_ | refine wQn ?_); try simp only [thenA_n]) | (refine CallE.pure (c2) rfl ?_) | (refine CallE.lent (c2) rfl ?_) | (refine CallF.pure (c2) rfl ?_) | (refine CallF.lent (c2) rfl ?_) | (refine CallE.own (c2) ?_) | (refine CallH.pure (c2) rfl ?_) | (refine CallH.lent (c2) rfl ?_) | (refine CallH.own (c2) ?_) | (refine CallE.pure (c3) rfl ?_) | (refine CallE.lent (c3) rfl ?_) | (refine CallF.pure (c3) rfl ?_) | (refine CallF.lent (c3) rfl ?_) | (refine CallE.own (c3) ?_) | (refine CallH.pure (c3) rfl ?_) | (refine CallH.lent (c3) rfl ?_) | (refine CallH.own (c3) ?_)
        all_goals apply hr
        all_goals simp [Try.f22]
      · rw [if_neg hc]
        generalize usedL fs = u at *
        generalize burnF fuse = bf at *
        generalize burnN fuse false = bn at *
        generalize burnE fuse = be at *
        unfold putF at c5 ⊢
        cases hi : isF fs nm with
        | true =>
          rw [hi] at c4
          rw [hi] at c5
          simp only [if_true] at c5 ⊢
          have hlt := isF_lt hi
          have hg := (isF_eq hi).1
          have hdl := hkd _ (List.getElem_mem hlt)
          have he := fls_get hlt
          simp only [hg] at he hdl
          have cj := (joined_con (gF fs nm).d b (by omega)).toPure
          have hst := fls_set fs (fiF fs nm) ⟨(gF fs nm).n, (gF fs nm).d ++ b, (gF fs nm).s⟩
          have hg2 : fs[fiF fs nm]'hlt = gF fs nm := hg
          clear hg
          generalize gF fs nm = f at *
          generalize fiF fs nm = i at *
          rw [← hst] at c5 ⊢
          dsimp only at c5 ⊢
          generalize f.d ++ b = db at *
          refine wBody Try.tab Try.mixed Try.func22 rfl rfl Try.ntmps22 (by simp) (by simp) fun Q hr hn => ?_
          repeat' first | (refine CallK_gen [] (c1) (by decide) (by decide) (by simp [blksOf]) (by simp [argsG, argG, ren0, inN, pos, renCs, renC, toP, toPF]) ⟨[500], by simp, by simp, ?_⟩; simp [lv, ouN, kpI, kpR, pos, ren, ren0, renB, renC, renCs, renF, renFs]) | (refine CallK_gen [3, 500] (c5) (by decide) (by decide) (by simp [blksOf, inN, pos, renB, renC, renCs, ren0, lv, ouN, kpI, kpR]) (by simp [argsG, argG, ren0, inN, pos, renCs, renC]) ⟨[], by simp, by simp, ?_⟩; simp [lv, ouN, kpI, kpR, pos, ren, ren0, renB, renC, renCs, renF, renFs]) | (refine hK _ ?_; clear hK) | (refine hK _ _ ?_; clear hK) | (clear hK; refine hK _ ?_; clear hK) | (clear hK; clear hK; refine hK _ ?_; clear hK) | (clear hK; clear hK; clear hK; refine hK _ ?_; clear hK) | (clear hK; clear hK; clear hK; clear hK; refine hK _ ?_; clear hK) | (refine wSeq fun K hK => ?_) | ((first | refine wReg ?_ | refine wDrwQ rfl (by kernel_rfl) ?_ | refine wDrwI ?_ | refine wDrw (by kernel_rfl) ?_); simp only [List.map_cons, List.map_nil, strip]) | ((first | refine wIs fun K hK => ?_ | refine wOs fun K hK => ?_ | refine wQs fun K hK => ?_ | refine CallK_plain ?_ | refine CallQ_plain ?_ | refine CallR_plain ?_ | refine wCond ?_); simp [lv, ouN, kpI, kpR, pos, ren, ren0, renB, renC, renCs, renF, renFs, hbl, hw, hc, hlt, he, hg2]) | (refine wIn ?_; refine And.intro (by kernel_rfl) ?_; try simp only [thenA_n]) | (first | refine wBlock ?_ | refine wScope ?_) | ((first | refine wRet ?_ | refine wExit ?_ | refine wSkip ?_); try simp) | ((first | refine wLabel ?_ | refine wOn ?_ | refine wQn ?_); try simp only [thenA_n]) | (refine CallE.pure (c2) rfl ?_) | (refine CallE.lent (c2) rfl ?_) | (refine CallF.pure (c2) rfl ?_) | (refine CallF.lent (c2) rfl ?_) | (refine CallE.own (c2) ?_) | (refine CallH.pure (c2) rfl ?_) | (refine CallH.lent (c2) rfl ?_) | (refine CallH.own (c2) ?_) | (refine CallE.pure (c3) rfl ?_) | (refine CallE.lent (c3) rfl ?_) | (refine CallF.pure (c3) rfl ?_) | (refine CallF.lent (c3) rfl ?_) | (refine CallE.own (c3) ?_) | (refine CallH.pure (c3) rfl ?_) | (refine CallH.lent (c3) rfl ?_) | (refine CallH.own (c3) ?_) | (refine CallE.pure (c4) rfl ?_) | (refine CallE.lent (c4) rfl ?_) | (refine CallF.pure (c4) rfl ?_) | (refine CallF.lent (c4) rfl ?_) | (refine CallE.own (c4) ?_) | (refine CallH.pure (c4) rfl ?_) | (refine CallH.lent (c4) rfl ?_) | (refine CallH.own (c4) ?_) | (refine CallE.pure (cj) rfl ?_) | (refine CallE.lent (cj) rfl ?_) | (refine CallF.pure (cj) rfl ?_) | (refine CallF.lent (cj) rfl ?_) | (refine CallE.own (cj) ?_) | (refine CallH.pure (cj) rfl ?_) | (refine CallH.lent (cj) rfl ?_) | (refine CallH.own (cj) ?_)
          all_goals apply hr
          all_goals simp [Try.f22]
        | false =>
          rw [hi] at c4
          rw [hi] at c5
          simp only [Bool.false_eq_true, if_false] at c5 ⊢
          have hle := fiF_le fs nm
          generalize fiF fs nm = i at *
          have cj := (joined_con [] b (by simp; omega)).toPure
          rw [List.nil_append] at cj
          simp only [show by8 [] = [] from rfl] at cj
          have hst : fls (fs.take i ++ ⟨nm, b, 0⟩ :: fs.drop i) = fls (fs.take i) ++ [SB nm, .sl 1 (by8 b), I 0] :: fls (fs.drop i) := by simp [fls, Fl.cells]
          have e3 : List.take fs.length (fls fs) = fls fs := List.take_of_length_le (by simp)
          have hgt : (fls (fs.take i) ++ [[SB nm, .sl 1 [], I 0]] ++ fls (fs.drop i))[i]? = some [SB nm, .sl 1 [], I 0] := by
            rw [List.append_assoc, List.getElem?_append_right (by simp; omega)]
            simp [Nat.min_eq_left hle]
          rw [hst] at c5 ⊢
          have h1 : (i : Int) ≤ fs.length := by omega
          have e0 := fls_take fs i
          have e1 := fls_drop fs i
          refine wBody Try.tab Try.mixed Try.func22 rfl rfl Try.ntmps22 (by simp) (by simp) fun Q hr hn => ?_
          repeat' first | (refine CallK_gen [] (c1) (by decide) (by decide) (by simp [blksOf]) (by simp [argsG, argG, ren0, inN, pos, renCs, renC, toP, toPF]) ⟨[500], by simp, by simp, ?_⟩; simp [lv, ouN, kpI, kpR, pos, ren, ren0, renB, renC, renCs, renF, renFs]) | (refine CallK_gen [3, 49] (c5) (by decide) (by decide) (by simp [blksOf, inN, pos, renB, renC, renCs, ren0, lv, ouN, kpI, kpR]) (by simp [argsG, argG, ren0, inN, pos, renCs, renC]) ⟨[], by simp, by simp, ?_⟩; simp [lv, ouN, kpI, kpR, pos, ren, ren0, renB, renC, renCs, renF, renFs]) | (refine wDrwR 500 rfl ?_; simp [frz, sub, sub0, subB]) | (refine And.intro (by omega) (Or.inl ?_)) | (refine And.intro (by omega) ?_) | (refine hK _ ?_; clear hK) | (refine hK _ _ ?_; clear hK) | (clear hK; refine hK _ ?_; clear hK) | (clear hK; clear hK; refine hK _ ?_; clear hK) | (clear hK; clear hK; clear hK; refine hK _ ?_; clear hK) | (clear hK; clear hK; clear hK; clear hK; refine hK _ ?_; clear hK) | (refine wSeq fun K hK => ?_) | ((first | refine wReg ?_ | refine wDrwQ rfl (by kernel_rfl) ?_ | refine wDrwI ?_ | refine wDrw (by kernel_rfl) ?_); simp only [List.map_cons, List.map_nil, strip]) | ((first | refine wIs fun K hK => ?_ | refine wOs fun K hK => ?_ | refine wQs fun K hK => ?_ | refine CallK_plain ?_ | refine CallQ_plain ?_ | refine CallR_plain ?_ | refine wCond ?_); simp [lv, ouN, kpI, kpR, pos, ren, ren0, renB, renC, renCs, renF, renFs, hbl, hw, hc, hle, h1, e0, e1, e3, hgt]) | (refine wIn ?_; refine And.intro (by kernel_rfl) ?_; try simp only [thenA_n]) | (first | refine wBlock ?_ | refine wScope ?_) | ((first | refine wRet ?_ | refine wExit ?_ | refine wSkip ?_); try simp) | ((first | refine wLabel ?_ | refine wOn ?_ | refine wQn ?_); try simp only [thenA_n]) | (refine CallE.pure (c2) rfl ?_) | (refine CallE.lent (c2) rfl ?_) | (refine CallF.pure (c2) rfl ?_) | (refine CallF.lent (c2) rfl ?_) | (refine CallE.own (c2) ?_) | (refine CallH.pure (c2) rfl ?_) | (refine CallH.lent (c2) rfl ?_) | (refine CallH.own (c2) ?_) | (refine CallE.pure (c3) rfl ?_) | (refine CallE.lent (c3) rfl ?_) | (refine CallF.pure (c3) rfl ?_) | (refine CallF.lent (c3) rfl ?_) | (refine CallE.own (c3) ?_) | (refine CallH.pure (c3) rfl ?_) | (refine CallH.lent (c3) rfl ?_) | (refine CallH.own (c3) ?_) | (refine CallE.pure (c4) rfl ?_) | (refine CallE.lent (c4) rfl ?_) | (refine CallF.pure (c4) rfl ?_) | (refine CallF.lent (c4) rfl ?_) | (refine CallE.own (c4) ?_) | (refine CallH.pure (c4) rfl ?_) | (refine CallH.lent (c4) rfl ?_) | (refine CallH.own (c4) ?_) | (refine CallE.pure (cj) rfl ?_) | (refine CallE.lent (cj) rfl ?_) | (refine CallF.pure (cj) rfl ?_) | (refine CallF.lent (cj) rfl ?_) | (refine CallE.own (cj) ?_) | (refine CallH.pure (cj) rfl ?_) | (refine CallH.lent (cj) rfl ?_) | (refine CallH.own (cj) ?_)
          all_goals apply hr
          all_goals simp [Try.f22]
end Go.Proofs.Ytijjfiebmdejaaa
