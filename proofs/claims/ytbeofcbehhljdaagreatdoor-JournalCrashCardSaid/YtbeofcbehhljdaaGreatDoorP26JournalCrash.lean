/- Texts that the proof needs: DK7 JN1 CB TryA Try CC CD CE CES. -/
import Derived.Test.YtbeofcbehhljdaaGreatDoorP25JournalCrash
import Derived.Test.YtbeofcbehhljdaaGreatDoorP21JournalCrash
import Derived.Test.YtbeofcbehhljdaaGreatDoorP23JournalCrash
import Derived.Test.YtbeofcbehhljdaaGreatDoorP15JournalCrash
import Derived.Test.YtbeofcbehhljdaaGreatDoorP20JournalCrash
import Derived.WalkKit
import Derived.Defers
import Derived.Recover
namespace Go.Proofs.YtbeofcbehhljdaaGreatDoor
set_option linter.unusedSimpArgs false
set_option linter.unusedVariables false
open Go Go.Av
attribute [local irreducible] Go.Av.CallK Go.Av.CallE Go.Av.CallQ Go.Av.CallF Go.Av.CallR Go.Av.CallH Go.Av.Con
theorem wDrwR [Glob] {P : Program} {T : TypeId -> Option Ty} {N : Nat} {Q : AExit -> St -> Prop} {st : St} {id : Nat} {l : List Oper} (b : Nat) {e c : Nat} {X : List (List PV)} (hb : st.b b = some (.row e c X)) (h : WC P T N (.region id l.toArray true) Q (Av.frz st b c X)) : WC P T N (.region id l.toArray true) Q st := by
 refine wDrwF [.frz b] ?_
 have e0 : frzL st [.frz b] = Av.frz st b c X := by simp only [frzL, gh1, hb]
 rw [e0]
 exact h
def putF (l : List Fl) (nm b : List UInt8) : List Fl :=
 if isF l nm = true then l.set (fiF l nm) ⟨(gF l nm).n, (gF l nm).d ++ b, (gF l nm).s⟩
 else l.take (fiF l nm) ++ ⟨nm, b, 0⟩ :: l.drop (fiF l nm)
def app (d : Dk) (nm b : List UInt8) : Dk × Int :=
 if d.dn = true then (d, 9) else if isN nm = true then
  (if d.cap < ((usedL d.fs : Nat) : Int) + b.length then (d, 8) else (⟨putF d.fs nm b, d.cap, burnF d.fuse, burnN d.fuse d.dn⟩, burnE d.fuse))
 else (d, 1)
set_option maxHeartbeats 4000000 in
theorem append_con (d : Dk) (nm b : List UInt8) (hk : OkK d) (hu : usedL d.fs <= 1000000000) (hb : b.length <= 10000000) (hn : nm.length <= 1000000000) : ACon Tryz.prog 18 [.p (.agg d.cells), .p (SB nm), .p (.sl 1 (by8 b))] (.tup [.p (.agg (app d nm b).1.cells), .p (I (app d nm b).2)]) := by
 have c1 := own13_con d hk.toOkD
 have c2 := isName_con nm hn
 have c3 := used_con d (by have := hk.n; omega) hu
 have c4 := find_con d.fs nm (by have := hk.n; omega)
 have c5 := burn_con (fls (putF d.fs nm b)) d.cap d.fuse d.dn hk.fu
 have hkd := hk.d
 have hkn := hk.n
 unfold app
 obtain ⟨fs, cap, fuse, dn⟩ := d
 unfold Dk.cells at c1 c3 ⊢
 dsimp only at c1 c3 c4 c5 hkd hu hkn ⊢
 have hbl : b.length < 9223372036854775808 := by omega
 have hw : IntKind.i64.wrap (((usedL fs : Nat) : Int) + (b.length : Int)) = ((usedL fs : Nat) : Int) + b.length := by rw [wrap_id] <;> omega
 cases dn with
 | true =>
  simp only [if_true]
  refine wBody Tryz.tab Tryz.mixed Tryz.func18 rfl rfl Tryz.ntmps18 (by simp) (by simp) fun Q hr hn => ?_
  repeat' first | (refine CallK_gen [] (c1) (by decide) (by decide) (by simp [blksOf]) (by simp [argsG, argG, ren0, inN, pos, renCs, renC, toP, toPF]) ⟨[500], by simp, by simp, ?_⟩; simp [lv, ouN, kpI, kpR, pos, ren, ren0, renB, renC, renCs, renF, renFs]) | (refine hK _ ?_; clear hK) | (refine hK _ _ ?_; clear hK) | (clear hK; refine hK _ ?_; clear hK) | (clear hK; clear hK; refine hK _ ?_; clear hK) | (clear hK; clear hK; clear hK; refine hK _ ?_; clear hK) | (clear hK; clear hK; clear hK; clear hK; refine hK _ ?_; clear hK) | (refine wSeq fun K hK => ?_) | ((first | refine wReg ?_ | refine wDrwQ rfl (by kernel_rfl) ?_ | refine wDrwI ?_ | refine wDrw (by kernel_rfl) ?_); simp only [List.map_cons, List.map_nil, strip]) | ((first | refine wIs fun K hK => ?_ | refine wOs fun K hK => ?_ | refine wQs fun K hK => ?_ | refine CallK_plain ?_ | refine CallQ_plain ?_ | refine CallR_plain ?_ | refine wCond ?_); simp [lv, ouN, kpI, kpR, pos, ren, ren0, renB, renC, renCs, renF, renFs]) | (refine wIn ?_; refine And.intro (by kernel_rfl) ?_; try simp only [thenA_n]) | (first | refine wBlock ?_ | refine wScope ?_) | ((first | refine wRet ?_ | refine wExit ?_ | refine wSkip ?_); try simp) | ((first | refine wLabel ?_ | refine wOn ?_ | refine wQn ?_); try simp only [thenA_n])
  all_goals apply hr
  all_goals simp [Tryz.f18]
 | false =>
  simp only [Bool.false_eq_true, if_false]
  cases hin : isN nm with
  | false =>
   rw [hin] at c2
   simp only [Bool.false_eq_true, if_false]
   refine wBody Tryz.tab Tryz.mixed Tryz.func18 rfl rfl Tryz.ntmps18 (by simp) (by simp) fun Q hr hn => ?_
   repeat' first | (refine CallK_gen [] (c1) (by decide) (by decide) (by simp [blksOf]) (by simp [argsG, argG, ren0, inN, pos, renCs, renC, toP, toPF]) ⟨[500], by simp, by simp, ?_⟩; simp [lv, ouN, kpI, kpR, pos, ren, ren0, renB, renC, renCs, renF, renFs]) | (refine hK _ ?_; clear hK) | (refine hK _ _ ?_; clear hK) | (clear hK; refine hK _ ?_; clear hK) | (clear hK; clear hK; refine hK _ ?_; clear hK) | (clear hK; clear hK; clear hK; refine hK _ ?_; clear hK) | (clear hK; clear hK; clear hK; clear hK; refine hK _ ?_; clear hK) | (refine wSeq fun K hK => ?_) | ((first | refine wReg ?_ | refine wDrwQ rfl (by kernel_rfl) ?_ | refine wDrwI ?_ | refine wDrw (by kernel_rfl) ?_); simp only [List.map_cons, List.map_nil, strip]) | ((first | refine wIs fun K hK => ?_ | refine wOs fun K hK => ?_ | refine wQs fun K hK => ?_ | refine CallK_plain ?_ | refine CallQ_plain ?_ | refine CallR_plain ?_ | refine wCond ?_); simp [lv, ouN, kpI, kpR, pos, ren, ren0, renB, renC, renCs, renF, renFs]) | (refine wIn ?_; refine And.intro (by kernel_rfl) ?_; try simp only [thenA_n]) | (first | refine wBlock ?_ | refine wScope ?_) | ((first | refine wRet ?_ | refine wExit ?_ | refine wSkip ?_); try simp) | ((first | refine wLabel ?_ | refine wOn ?_ | refine wQn ?_); try simp only [thenA_n]) | (refine CallE.pure (c2) rfl ?_) | (refine CallE.lent (c2) rfl ?_) | (refine CallF.pure (c2) rfl ?_) | (refine CallF.lent (c2) rfl ?_) | (refine CallE.own (c2) ?_) | (refine CallH.pure (c2) rfl ?_) | (refine CallH.lent (c2) rfl ?_) | (refine CallH.own (c2) ?_)
   all_goals apply hr
   all_goals simp [Tryz.f18]
  | true =>
   rw [hin] at c2
   simp only [if_true]
   by_cases hc : cap < ((usedL fs : Nat) : Int) + b.length
   ·rw [if_pos hc]
    refine wBody Tryz.tab Tryz.mixed Tryz.func18 rfl rfl Tryz.ntmps18 (by simp) (by simp) fun Q hr hn => ?_
    repeat' first | (refine CallK_gen [] (c1) (by decide) (by decide) (by simp [blksOf]) (by simp [argsG, argG, ren0, inN, pos, renCs, renC, toP, toPF]) ⟨[500], by simp, by simp, ?_⟩; simp [lv, ouN, kpI, kpR, pos, ren, ren0, renB, renC, renCs, renF, renFs]) | (refine hK _ ?_; clear hK) | (refine hK _ _ ?_; clear hK) | (clear hK; refine hK _ ?_; clear hK) | (clear hK; clear hK; refine hK _ ?_; clear hK) | (clear hK; clear hK; clear hK; refine hK _ ?_; clear hK) | (clear hK; clear hK; clear hK; clear hK; refine hK _ ?_; clear hK) | (refine wSeq fun K hK => ?_) | ((first | refine wReg ?_ | refine wDrwQ rfl (by kernel_rfl) ?_ | refine wDrwI ?_ | refine wDrw (by kernel_rfl) ?_); simp only [List.map_cons, List.map_nil, strip]) | ((first | refine wIs fun K hK => ?_ | refine wOs fun K hK => ?_ | refine wQs fun K hK => ?_ | refine CallK_plain ?_ | refine CallQ_plain ?_ | refine CallR_plain ?_ | refine wCond ?_); simp [lv, ouN, kpI, kpR, pos, ren, ren0, renB, renC, renCs, renF, renFs, hbl, hw, hc]) | (refine wIn ?_; refine And.intro (by kernel_rfl) ?_; try simp only [thenA_n]) | (first | refine wBlock ?_ | refine wScope ?_) | ((first | refine wRet ?_ | refine wExit ?_ | refine wSkip ?_); try simp) | ((first | refine wLabel ?_ | refine wOn ?_ | refine wQn ?_); try simp only [thenA_n]) | (refine CallE.pure (c2) rfl ?_) | (refine CallE.lent (c2) rfl ?_) | (refine CallF.pure (c2) rfl ?_) | (refine CallF.lent (c2) rfl ?_) | (refine CallE.own (c2) ?_) | (refine CallH.pure (c2) rfl ?_) | (refine CallH.lent (c2) rfl ?_) | (refine CallH.own (c2) ?_) | (refine CallE.pure (c3) rfl ?_) | (refine CallE.lent (c3) rfl ?_) | (refine CallF.pure (c3) rfl ?_) | (refine CallF.lent (c3) rfl ?_) | (refine CallE.own (c3) ?_) | (refine CallH.pure (c3) rfl ?_) | (refine CallH.lent (c3) rfl ?_) | (refine CallH.own (c3) ?_)
    all_goals apply hr
    all_goals simp [Tryz.f18]
   ·rw [if_neg hc]
    generalize usedL fs = u at *
    generalize burnF fuse = bf at *
    generalize burnN fuse false = bn at *
    generalize burnE fuse = be at *
    unfold putF at c5 ⊢
    cases hi : isF fs nm with
    | true =>
     rw [hi] at c4
     rw [hi] at c5
     simp only [if_true] at c5 ⊢
     have hlt := isF_lt hi
     have hg := (isF_eq hi).1
     have hdl := hkd _ (List.getElem_mem hlt)
     have he := fls_get hlt
     simp only [hg] at he hdl
     have cj := (joined_con (gF fs nm).d b (by omega)).toPure
     have hst := fls_set fs (fiF fs nm) ⟨(gF fs nm).n, (gF fs nm).d ++ b, (gF fs nm).s⟩
     have hg2 : fs[fiF fs nm]'hlt = gF fs nm := hg
     clear hg
     generalize gF fs nm = f at *
     generalize fiF fs nm = i at *
     rw [<- hst] at c5 ⊢
     dsimp only at c5 ⊢
     generalize f.d ++ b = db at *
     refine wBody Tryz.tab Tryz.mixed Tryz.func18 rfl rfl Tryz.ntmps18 (by simp) (by simp) fun Q hr hn => ?_
     repeat' first | (refine CallK_gen [] (c1) (by decide) (by decide) (by simp [blksOf]) (by simp [argsG, argG, ren0, inN, pos, renCs, renC, toP, toPF]) ⟨[500], by simp, by simp, ?_⟩; simp [lv, ouN, kpI, kpR, pos, ren, ren0, renB, renC, renCs, renF, renFs]) | (refine CallK_gen [3, 500] (c5) (by decide) (by decide) (by simp [blksOf, inN, pos, renB, renC, renCs, ren0, lv, ouN, kpI, kpR]) (by simp [argsG, argG, ren0, inN, pos, renCs, renC]) ⟨[], by simp, by simp, ?_⟩; simp [lv, ouN, kpI, kpR, pos, ren, ren0, renB, renC, renCs, renF, renFs]) | (refine hK _ ?_; clear hK) | (refine hK _ _ ?_; clear hK) | (clear hK; refine hK _ ?_; clear hK) | (clear hK; clear hK; refine hK _ ?_; clear hK) | (clear hK; clear hK; clear hK; refine hK _ ?_; clear hK) | (clear hK; clear hK; clear hK; clear hK; refine hK _ ?_; clear hK) | (refine wSeq fun K hK => ?_) | ((first | refine wReg ?_ | refine wDrwQ rfl (by kernel_rfl) ?_ | refine wDrwI ?_ | refine wDrw (by kernel_rfl) ?_); simp only [List.map_cons, List.map_nil, strip]) | ((first | refine wIs fun K hK => ?_ | refine wOs fun K hK => ?_ | refine wQs fun K hK => ?_ | refine CallK_plain ?_ | refine CallQ_plain ?_ | refine CallR_plain ?_ | refine wCond ?_); simp [lv, ouN, kpI, kpR, pos, ren, ren0, renB, renC, renCs, renF, renFs, hbl, hw, hc, hlt, he, hg2]) | (refine wIn ?_; refine And.intro (by kernel_rfl) ?_; try simp only [thenA_n]) | (first | refine wBlock ?_ | refine wScope ?_) | ((first | refine wRet ?_ | refine wExit ?_ | refine wSkip ?_); try simp) | ((first | refine wLabel ?_ | refine wOn ?_ | refine wQn ?_); try simp only [thenA_n]) | (refine CallE.pure (c2) rfl ?_) | (refine CallE.lent (c2) rfl ?_) | (refine CallF.pure (c2) rfl ?_) | (refine CallF.lent (c2) rfl ?_) | (refine CallE.own (c2) ?_) | (refine CallH.pure (c2) rfl ?_) | (refine CallH.lent (c2) rfl ?_) | (refine CallH.own (c2) ?_) | (refine CallE.pure (c3) rfl ?_) | (refine CallE.lent (c3) rfl ?_) | (refine CallF.pure (c3) rfl ?_) | (refine CallF.lent (c3) rfl ?_) | (refine CallE.own (c3) ?_) | (refine CallH.pure (c3) rfl ?_) | (refine CallH.lent (c3) rfl ?_) | (refine CallH.own (c3) ?_) | (refine CallE.pure (c4) rfl ?_) | (refine CallE.lent (c4) rfl ?_) | (refine CallF.pure (c4) rfl ?_) | (refine CallF.lent (c4) rfl ?_) | (refine CallE.own (c4) ?_) | (refine CallH.pure (c4) rfl ?_) | (refine CallH.lent (c4) rfl ?_) | (refine CallH.own (c4) ?_) | (refine CallE.pure (cj) rfl ?_) | (refine CallE.lent (cj) rfl ?_) | (refine CallF.pure (cj) rfl ?_) | (refine CallF.lent (cj) rfl ?_) | (refine CallE.own (cj) ?_) | (refine CallH.pure (cj) rfl ?_) | (refine CallH.lent (cj) rfl ?_) | (refine CallH.own (cj) ?_)
     all_goals apply hr
     all_goals simp [Tryz.f18]
    | false =>
     rw [hi] at c4
     rw [hi] at c5
     simp only [Bool.false_eq_true, if_false] at c5 ⊢
     have hle := fiF_le fs nm
     generalize fiF fs nm = i at *
     have cj := (joined_con [] b (by simp; omega)).toPure
     rw [List.nil_append] at cj
     simp only [show by8 [] = [] from rfl] at cj
     have hst : fls (fs.take i ++ ⟨nm, b, 0⟩ :: fs.drop i) = fls (fs.take i) ++ [SB nm, .sl 1 (by8 b), I 0] :: fls (fs.drop i) := by simp [fls, Fl.cells]
     have e3 : List.take fs.length (fls fs) = fls fs := List.take_of_length_le (by simp)
     have hgt : (fls (fs.take i) ++ [[SB nm, .sl 1 [], I 0]] ++ fls (fs.drop i))[i]? = some [SB nm, .sl 1 [], I 0] := by
      rw [List.append_assoc, List.getElem?_append_right (by simp; omega)]
      simp [Nat.min_eq_left hle]
     rw [hst] at c5 ⊢
     have h1 : (i : Int) <= fs.length := by omega
     have e0 := fls_take fs i
     have e1 := fls_drop fs i
     refine wBody Tryz.tab Tryz.mixed Tryz.func18 rfl rfl Tryz.ntmps18 (by simp) (by simp) fun Q hr hn => ?_
     repeat' first | (refine CallK_gen [] (c1) (by decide) (by decide) (by simp [blksOf]) (by simp [argsG, argG, ren0, inN, pos, renCs, renC, toP, toPF]) ⟨[500], by simp, by simp, ?_⟩; simp [lv, ouN, kpI, kpR, pos, ren, ren0, renB, renC, renCs, renF, renFs]) | (refine CallK_gen [3, 49] (c5) (by decide) (by decide) (by simp [blksOf, inN, pos, renB, renC, renCs, ren0, lv, ouN, kpI, kpR]) (by simp [argsG, argG, ren0, inN, pos, renCs, renC]) ⟨[], by simp, by simp, ?_⟩; simp [lv, ouN, kpI, kpR, pos, ren, ren0, renB, renC, renCs, renF, renFs]) | (refine wDrwR 500 rfl ?_; simp [frz, sub, sub0, subB]) | (refine And.intro (by omega) (Or.inl ?_)) | (refine And.intro (by omega) ?_) | (refine hK _ ?_; clear hK) | (refine hK _ _ ?_; clear hK) | (clear hK; refine hK _ ?_; clear hK) | (clear hK; clear hK; refine hK _ ?_; clear hK) | (clear hK; clear hK; clear hK; refine hK _ ?_; clear hK) | (clear hK; clear hK; clear hK; clear hK; refine hK _ ?_; clear hK) | (refine wSeq fun K hK => ?_) | ((first | refine wReg ?_ | refine wDrwQ rfl (by kernel_rfl) ?_ | refine wDrwI ?_ | refine wDrw (by kernel_rfl) ?_); simp only [List.map_cons, List.map_nil, strip]) | ((first | refine wIs fun K hK => ?_ | refine wOs fun K hK => ?_ | refine wQs fun K hK => ?_ | refine CallK_plain ?_ | refine CallQ_plain ?_ | refine CallR_plain ?_ | refine wCond ?_); simp [lv, ouN, kpI, kpR, pos, ren, ren0, renB, renC, renCs, renF, renFs, hbl, hw, hc, hle, h1, e0, e1, e3, hgt]) | (refine wIn ?_; refine And.intro (by kernel_rfl) ?_; try simp only [thenA_n]) | (first | refine wBlock ?_ | refine wScope ?_) | ((first | refine wRet ?_ | refine wExit ?_ | refine wSkip ?_); try simp) | ((first | refine wLabel ?_ | refine wOn ?_ | refine wQn ?_); try simp only [thenA_n]) | (refine CallE.pure (c2) rfl ?_) | (refine CallE.lent (c2) rfl ?_) | (refine CallF.pure (c2) rfl ?_) | (refine CallF.lent (c2) rfl ?_) | (refine CallE.own (c2) ?_) | (refine CallH.pure (c2) rfl ?_) | (refine CallH.lent (c2) rfl ?_) | (refine CallH.own (c2) ?_) | (refine CallE.pure (c3) rfl ?_) | (refine CallE.lent (c3) rfl ?_) | (refine CallF.pure (c3) rfl ?_) | (refine CallF.lent (c3) rfl ?_) | (refine CallE.own (c3) ?_) | (refine CallH.pure (c3) rfl ?_) | (refine CallH.lent (c3) rfl ?_) | (refine CallH.own (c3) ?_) | (refine CallE.pure (c4) rfl ?_) | (refine CallE.lent (c4) rfl ?_) | (refine CallF.pure (c4) rfl ?_) | (refine CallF.lent (c4) rfl ?_) | (refine CallE.own (c4) ?_) | (refine CallH.pure (c4) rfl ?_) | (refine CallH.lent (c4) rfl ?_) | (refine CallH.own (c4) ?_) | (refine CallE.pure (cj) rfl ?_) | (refine CallE.lent (cj) rfl ?_) | (refine CallF.pure (cj) rfl ?_) | (refine CallF.lent (cj) rfl ?_) | (refine CallE.own (cj) ?_) | (refine CallH.pure (cj) rfl ?_) | (refine CallH.lent (cj) rfl ?_) | (refine CallH.own (cj) ?_)
     all_goals apply hr
     all_goals simp [Tryz.f18]
end Go.Proofs.YtbeofcbehhljdaaGreatDoor
namespace Go.Proofs.YtbeofcbehhljdaaGreatDoor
set_option linter.unusedSimpArgs false
set_option linter.unusedVariables false
set_option maxRecDepth 8000
open Go Go.Av
attribute [local irreducible] Go.Av.CallK Go.Av.CallE Go.Av.CallQ Go.Av.CallF Go.Av.CallR Go.Av.CallH Go.Av.Con
def lgN (g : Int) : List UInt8 := [108, 111, 103, 46] ++ Go.Lib.itoa g
theorem jname_con {g : Int} (h : rgt g = true) (hl : (Go.Lib.itoa g).length <= 100) : ACon Tryz.prog 14 [.p (I g)] (.p (SB (lgN g))) := by
 have c1 := itoa_con h
 simp only [rgt, decide_eq_true_eq] at h
 have h1 : ¬ g < 0 := by omega
 have h2 : ¬ 1099511627776 < g := by omega
 unfold lgN
 generalize Go.Lib.itoa g = s at c1 hl ⊢
 have hl2 : 4 + s.length <= 9223372036854775807 := by omega
 refine wBody Tryz.tab Tryz.mixed Tryz.func14 rfl rfl Tryz.ntmps14 (by simp) (by simp) fun Q hr hn => ?_
 repeat' first | (refine hK _ ?_; clear hK) | (refine hK _ _ ?_; clear hK) | (clear hK; refine hK _ ?_; clear hK) | (clear hK; clear hK; refine hK _ ?_; clear hK) | (clear hK; clear hK; clear hK; refine hK _ ?_; clear hK) | (clear hK; clear hK; clear hK; clear hK; refine hK _ ?_; clear hK) | (refine wSeq fun K hK => ?_) | ((first | refine wReg ?_ | refine wDrwQ rfl (by kernel_rfl) ?_ | refine wDrwI ?_ | refine wDrw (by kernel_rfl) ?_); simp only [List.map_cons, List.map_nil, strip]) | ((first | refine wIs fun K hK => ?_ | refine wOs fun K hK => ?_ | refine wQs fun K hK => ?_ | refine CallK_plain ?_ | refine CallQ_plain ?_ | refine CallR_plain ?_ | refine wCond ?_); simp [h1, h2, hl2]) | (refine wIn ?_; refine And.intro (by kernel_rfl) ?_; try simp only [thenA_n]) | (first | refine wBlock ?_ | refine wScope ?_) | ((first | refine wRet ?_ | refine wExit ?_ | refine wSkip ?_); try simp) | ((first | refine wLabel ?_ | refine wOn ?_ | refine wQn ?_); try simp only [thenA_n]) | (refine CallE.pure (c1) rfl ?_) | (refine CallE.lent (c1) rfl ?_) | (refine CallF.pure (c1) rfl ?_) | (refine CallF.lent (c1) rfl ?_) | (refine CallE.own (c1) ?_) | (refine CallH.pure (c1) rfl ?_) | (refine CallH.lent (c1) rfl ?_) | (refine CallH.own (c1) ?_)
 all_goals apply hr
 all_goals simp [Tryz.f14]
theorem itoa3 : Go.Lib.itoa 3 = [51] := by unfold Go.Lib.itoa; rw [if_neg (by decide)]; unfold Go.Lib.decDigits; rfl
theorem itoa1 : Go.Lib.itoa 1 = [49] := by unfold Go.Lib.itoa; rw [if_neg (by decide)]; unfold Go.Lib.decDigits; rfl
theorem name3_con : ACon Tryz.prog 14 [.p (I 3)] (.p (SB [108, 111, 103, 46, 51])) := by
 have := jname_con (g := 3) (by decide) (by rw [itoa3]; decide)
 unfold lgN at this; rw [itoa3] at this; exact this
theorem name1_con : ACon Tryz.prog 14 [.p (I 1)] (.p (SB [108, 111, 103, 46, 49])) := by
 have := jname_con (g := 1) (by decide) (by rw [itoa1]; decide)
 unfold lgN at this; rw [itoa1] at this; exact this
end Go.Proofs.YtbeofcbehhljdaaGreatDoor
namespace Go.Proofs.YtbeofcbehhljdaaGreatDoor
set_option linter.unusedSimpArgs false
set_option linter.unusedVariables false
open Go Go.Av
attribute [local irreducible] Go.Av.CallK Go.Av.CallE Go.Av.CallQ Go.Av.CallF Go.Av.CallR Go.Av.CallH Go.Av.Con
abbrev BCon (g : FuncId) (args : List V) (l : List UInt8) : Prop := Con Tryz.prog g args [] (.ret (.row 2048) [.row 5 1 (by8 l)] [])
theorem roomy_con (b : List UInt8) (n : Nat) (h : b.length + n <= 2000000000100) : BCon 44 [.p (.sl 1 (by8 b)), .p (I n)] b := by
 have hw : IntKind.i64.wrap ((b.length : Int) + (n : Int)) = ((b.length + n : Nat) : Int) := by rw [wrap_id (by omega) (by omega)]; omega
 have h1 : (0 : Int) <= ((b.length + n : Nat) : Int) := by omega
 generalize hz : ((b.length + n : Nat) : Int) = z at hw h1
 have h2 : z <= 281474976710656 := by omega
 have h3 : z <= 9223372036854775807 := by omega
 refine wBodyR Tryz.tab Tryz.mixed Tryz.func44 rfl rfl Tryz.ntmps44 rfl (by simp) (by simp) fun Q hr hn => ?_
 repeat' first | (refine And.intro (by (try simp only [by8_len]); omega) ?_) | (rw [if_pos ⟨by omega, by omega⟩]) | (refine hK _ ?_; clear hK) | (refine hK _ _ ?_; clear hK) | (clear hK; refine hK _ ?_; clear hK) | (clear hK; clear hK; refine hK _ ?_; clear hK) | (clear hK; clear hK; clear hK; refine hK _ ?_; clear hK) | (clear hK; clear hK; clear hK; clear hK; refine hK _ ?_; clear hK) | (refine wSeq fun K hK => ?_) | ((first | refine wReg ?_ | refine wDrwQ rfl (by kernel_rfl) ?_ | refine wDrwI ?_ | refine wDrw (by kernel_rfl) ?_); simp only [List.map_cons, List.map_nil, strip]) | ((first | refine wIs fun K hK => ?_ | refine wOs fun K hK => ?_ | refine wQs fun K hK => ?_ | refine CallK_plain ?_ | refine CallQ_plain ?_ | refine CallR_plain ?_ | refine wCond ?_); simp [hw, h1, h2, h3]) | (refine wIn ?_; refine And.intro (by kernel_rfl) ?_; try simp only [thenA_n]) | (first | refine wBlock ?_ | refine wScope ?_) | ((first | refine wRet ?_ | refine wExit ?_ | refine wSkip ?_); try simp) | ((first | refine wLabel ?_ | refine wOn ?_ | refine wQn ?_); try simp only [thenA_n])
 all_goals refine hr _ 9 ?_ ?_ (by omega)
 all_goals simp [Tryz.f44]
theorem or_fact (u : Nat) (h : u < 18446744073709551616) : IntKind.u8.wrap ((BitVec.ofInt IntKind.u8.bits (IntKind.u8.wrap (u : Int)) ||| BitVec.ofInt IntKind.u8.bits 128).toNat : Int) = ((UInt8.ofNat (u % 128 + 128)).toNat : Int) := by
 have e1 : IntKind.u8.wrap (u : Int) = ((u % 256 : Nat) : Int) := by rw [u8_wrap]; omega
 rw [e1]
 show IntKind.u8.wrap ((BitVec.ofInt 8 ((u % 256 : Nat) : Int) ||| BitVec.ofNat 8 128).toNat : Int) = _
 rw [ofInt_nat]
 have := or128 (u % 256) (by omega)
 rw [this, u8_toNat _ (by omega), u8_wrap]
 omega
theorem shr7 (u : Nat) : (u : Int).fdiv (2 ^ min 7 IntKind.u64.bits) = ((u / 128 : Nat) : Int) := by
 show (u : Int).fdiv 128 = _
 rw [Int.fdiv_eq_ediv_of_nonneg _ (by omega)]; omega
theorem u8_small (u : Nat) (h : u < 128) : IntKind.u8.wrap (u : Int) = ((UInt8.ofNat u).toNat : Int) := by rw [u8_wrap, u8_toNat _ (by omega)]; omega
theorem layInt_con (b : List UInt8) (n : Int) (hn : okI n) (h : b.length <= 1000000000000) : Con Tryz.prog 43 [.row 1024, .p (I n)] [.row 5 1 (by8 b)] (.ret (.row 1024) [] [.row 5 1 (by8 (b ++ enc (zz n)))]) := by
 have hz := zig hn
 simp at hz
 have hlt := zz_lt hn
 generalize zz n = z at hz hlt ⊢
 refine wBodyG Tryz.tab Tryz.mixed Tryz.func43 rfl rfl Tryz.ntmps43 (by simp) (by simp) fun Q hr hn hp => ?_
 repeat' first | (refine hK _ ?_; clear hK) | (refine hK _ _ ?_; clear hK) | (clear hK; refine hK _ ?_; clear hK) | (clear hK; clear hK; refine hK _ ?_; clear hK) | (clear hK; clear hK; clear hK; refine hK _ ?_; clear hK) | (clear hK; clear hK; clear hK; clear hK; refine hK _ ?_; clear hK) | (refine wSeq fun K hK => ?_) | ((first | refine wReg ?_ | refine wDrwQ rfl (by kernel_rfl) ?_ | refine wDrwI ?_ | refine wDrw (by kernel_rfl) ?_); simp only [List.map_cons, List.map_nil, strip]) | ((first | refine wIs fun K hK => ?_ | refine wOs fun K hK => ?_ | refine wQs fun K hK => ?_ | refine CallK_plain ?_ | refine CallQ_plain ?_ | refine CallR_plain ?_ | refine wCond ?_); simp [hz]) | (refine wIn ?_; refine And.intro (by kernel_rfl) ?_; try simp only [thenA_n]) | (first | refine wBlock ?_ | refine wScope ?_) | ((first | refine wRet ?_ | refine wExit ?_ | refine wSkip ?_); try simp) | ((first | refine wLabel ?_ | refine wOn ?_ | refine wQn ?_); try simp only [thenA_n])
 refine wLoop (fun N st => ∃ k u pre, k + N = 10 /\ st.s 0 = .row 1024 /\ st.s 5 = .p (.v (.int .u64 (u : Nat))) /\ st.s 13 = .p (I k) /\ st.b 1024 = some (.row 5 1 (by8 (b ++ pre))) /\ pre ++ enc u = enc z /\ pre.length = k /\ u * 128 ^ k < 18446744073709551616) 10 ⟨0, z, [], by simp [hz, hlt]⟩ fun K N st hL ⟨k, u, pre, hk, g0, g5, g13, b0, he, hp, hu⟩ => ?_
 have hu64 : u < 18446744073709551616 := Nat.lt_of_le_of_lt (Nat.le_mul_of_pos_right u (Nat.pow_pos (by omega))) hu
 have last : u < 128 -> by8 (b ++ pre) ++ [[.v (.int .u8 (IntKind.u8.wrap (u : Int)))]] = by8 (b ++ enc z) := fun h => by
  rw [by8_snoc _ (UInt8.ofNat u) _ (u8_small u h), <- he, enc_small h, List.append_assoc]
 by_cases hkl : k < 10
 ·have hkl' : (k : Int) < 10 := by omega
  have hw := wrapS k 10 hkl (by omega)
  by_cases o : u < 128
  ·have o' : (u : Int) < 128 := by omega
   have hl := last o
   repeat' first | (refine And.intro (by omega) ?_) | (refine hK _ ?_; clear hK) | (refine hK _ _ ?_; clear hK) | (clear hK; refine hK _ ?_; clear hK) | (clear hK; clear hK; refine hK _ ?_; clear hK) | (clear hK; clear hK; clear hK; refine hK _ ?_; clear hK) | (clear hK; clear hK; clear hK; clear hK; refine hK _ ?_; clear hK) | (refine wSeq fun K hK => ?_) | ((first | refine wReg ?_ | refine wDrwQ rfl (by kernel_rfl) ?_ | refine wDrwI ?_ | refine wDrw (by kernel_rfl) ?_); simp only [List.map_cons, List.map_nil, strip]) | ((first | refine wIs fun K hK => ?_ | refine wOs fun K hK => ?_ | refine wQs fun K hK => ?_ | refine CallK_plain ?_ | refine CallQ_plain ?_ | refine CallR_plain ?_ | refine wCond ?_); simp [g0, g5, g13, b0, hkl, hkl', hw, o, o']) | (refine wIn ?_; refine And.intro (by kernel_rfl) ?_; try simp only [thenA_n]) | (first | refine wBlock ?_ | refine wScope ?_) | ((first | refine wRet ?_ | refine wExit ?_ | refine wSkip ?_); try simp) | ((first | refine wLabel ?_ | refine wOn ?_ | refine wQn ?_); try simp only [thenA_n])
   all_goals apply hr
   all_goals refine ⟨[], by simp, by simp, ?_⟩
   all_goals simp [Tryz.f43, outR, outB, renB, gaN, hl]
  ·have o' : ¬ (u : Int) < 128 := by omega
   have hor := or_fact u hu64
   have hb := enc_big o
   generalize UInt8.ofNat (u % 128 + 128) = c at hor hb
   simp at hor
   have hsh := shr7 u
   simp at hsh
   have hx := by8_snoc (b ++ pre) c _ rfl
   rw [List.append_assoc] at hx
   repeat' first | (refine And.intro (by omega) ?_) | (refine hK _ ?_; clear hK) | (refine hK _ _ ?_; clear hK) | (clear hK; refine hK _ ?_; clear hK) | (clear hK; clear hK; refine hK _ ?_; clear hK) | (clear hK; clear hK; clear hK; refine hK _ ?_; clear hK) | (clear hK; clear hK; clear hK; clear hK; refine hK _ ?_; clear hK) | (refine wSeq fun K hK => ?_) | ((first | refine wReg ?_ | refine wDrwQ rfl (by kernel_rfl) ?_ | refine wDrwI ?_ | refine wDrw (by kernel_rfl) ?_); simp only [List.map_cons, List.map_nil, strip]) | ((first | refine wIs fun K hK => ?_ | refine wOs fun K hK => ?_ | refine wQs fun K hK => ?_ | refine CallK_plain ?_ | refine CallQ_plain ?_ | refine CallR_plain ?_ | refine wCond ?_); simp [g0, g5, g13, b0, hkl, hkl', hw, o, o', hor, hsh]) | (refine wIn ?_; refine And.intro (by kernel_rfl) ?_; try simp only [thenA_n]) | (first | refine wBlock ?_ | refine wScope ?_) | ((first | refine wRet ?_ | refine wExit ?_ | refine wSkip ?_); try simp) | ((first | refine wLabel ?_ | refine wOn ?_ | refine wQn ?_); try simp only [thenA_n])
   refine hL _ (N - 1) (by omega) ⟨k + 1, u / 128, pre ++ [c], by omega, ?_⟩
   simp [g0, g5, g13, b0, hw, hor, hsh, hx, hp]
   refine ⟨by rw [<- he, hb], Nat.lt_of_le_of_lt ?_ hu⟩
   rw [Nat.pow_succ, Nat.mul_comm (128 ^ k), <- Nat.mul_assoc]
   exact Nat.mul_le_mul_right _ (Nat.div_mul_le_self u 128)
 ·have hk10 : k = 10 := by omega
  subst hk10
  have o : u < 128 := by omega
  have hl := last o
  repeat' first | (refine And.intro (by omega) ?_) | (refine hK _ ?_; clear hK) | (refine hK _ _ ?_; clear hK) | (clear hK; refine hK _ ?_; clear hK) | (clear hK; clear hK; refine hK _ ?_; clear hK) | (clear hK; clear hK; clear hK; refine hK _ ?_; clear hK) | (clear hK; clear hK; clear hK; clear hK; refine hK _ ?_; clear hK) | (refine wSeq fun K hK => ?_) | ((first | refine wReg ?_ | refine wDrwQ rfl (by kernel_rfl) ?_ | refine wDrwI ?_ | refine wDrw (by kernel_rfl) ?_); simp only [List.map_cons, List.map_nil, strip]) | ((first | refine wIs fun K hK => ?_ | refine wOs fun K hK => ?_ | refine wQs fun K hK => ?_ | refine CallK_plain ?_ | refine CallQ_plain ?_ | refine CallR_plain ?_ | refine wCond ?_); simp [g0, g5, g13, b0]) | (refine wIn ?_; refine And.intro (by kernel_rfl) ?_; try simp only [thenA_n]) | (first | refine wBlock ?_ | refine wScope ?_) | ((first | refine wRet ?_ | refine wExit ?_ | refine wSkip ?_); try simp) | ((first | refine wLabel ?_ | refine wOn ?_ | refine wQn ?_); try simp only [thenA_n])
  all_goals apply hr
  all_goals refine ⟨[], by simp, by simp, ?_⟩
  all_goals simp [Tryz.f43, outR, outB, renB, gaN, hl]
theorem putInt_con (b : List UInt8) (n : Int) (hn : okI n) (h : b.length <= 1000000000000) : BCon 92 [.p (.sl 1 (by8 b)), .p (I n)] (b ++ enc (zz n)) := by
 have c1 := roomy_con b 10 (by omega)
 have c2 := layInt_con b n hn (by omega)
 simp at c1
 refine wBodyR Tryz.tab Tryz.mixed Tryz.func92 rfl rfl Tryz.ntmps92 rfl (by simp) (by simp) fun Q hr hn => ?_
 repeat' first | (refine CallK_gen [6] c2 (by decide) (by decide) (by simp [blksOf, inN, pos, renB, ren0]) (by simp [argsG, argG, ren0, inN, pos, renCs, renC]) ⟨[], by simp, by simp, ?_⟩; simp [lv, ouN, kpI, kpR, pos, ren, ren0, renB, renC, renCs]) | (refine hK _ ?_; clear hK) | (refine hK _ _ ?_; clear hK) | (clear hK; refine hK _ ?_; clear hK) | (clear hK; clear hK; refine hK _ ?_; clear hK) | (clear hK; clear hK; clear hK; refine hK _ ?_; clear hK) | (clear hK; clear hK; clear hK; clear hK; refine hK _ ?_; clear hK) | (refine wSeq fun K hK => ?_) | ((first | refine wReg ?_ | refine wDrwQ rfl (by kernel_rfl) ?_ | refine wDrwI ?_ | refine wDrw (by kernel_rfl) ?_); simp only [List.map_cons, List.map_nil, strip]) | ((first | refine wIs fun K hK => ?_ | refine wOs fun K hK => ?_ | refine wQs fun K hK => ?_ | refine CallK_plain ?_ | refine CallQ_plain ?_ | refine CallR_plain ?_ | refine wCond ?_); simp) | (refine wIn ?_; refine And.intro (by kernel_rfl) ?_; try simp only [thenA_n]) | (first | refine wBlock ?_ | refine wScope ?_) | ((first | refine wRet ?_ | refine wExit ?_ | refine wSkip ?_); try simp) | ((first | refine wLabel ?_ | refine wOn ?_ | refine wQn ?_); try simp only [thenA_n]) | (refine CallE.pure (c1) rfl ?_) | (refine CallE.lent (c1) rfl ?_) | (refine CallF.pure (c1) rfl ?_) | (refine CallF.lent (c1) rfl ?_) | (refine CallE.own (c1) ?_) | (refine CallH.pure (c1) rfl ?_) | (refine CallH.lent (c1) rfl ?_) | (refine CallH.own (c1) ?_)
 all_goals refine hr _ 6 ?_ ?_ (by omega)
 all_goals simp [Tryz.f92]
end Go.Proofs.YtbeofcbehhljdaaGreatDoor
namespace Go.Proofs.YtbeofcbehhljdaaGreatDoor
set_option linter.unusedSimpArgs false
set_option linter.unusedVariables false
open Go Go.Av Go.RowKit
theorem hp_move [Glob] {w w' : World} {F F' : Nat -> Prop} {m : Nm} {β : Nat -> Option Blk} (h : Hp w F m β) (hsz : w.heap.size <= w'.heap.size) (h1 : ∀ k, F' k -> k < w'.heap.size) (h2 : ∀ k, k < w.heap.size -> F' k -> F k)
 (h3 : ∀ k, k < w.heap.size -> ¬ F k -> w'.heap[k]? = w.heap[k]?) : Hp w' F' m β := by
 have ht : Turn w w' (Gd F m β) (Gd F' m β) := ⟨hsz, fun k hk hg => h3 k hk fun hf => hg (.inl hf), fun k hk hg => hg.imp (h2 k hk) id⟩
 refine ⟨h1, fun b k ho => ⟨Nat.lt_of_lt_of_le (h.own b k ho).1 hsz, fun hf => (h.own b k ho).2 (h2 k (h.own b k ho).1 hf)⟩, h.uniq, fun b blk hb => (h.blks b blk hb).keep ht fun k hk => ?_, fun g e he => (h.glob g e he).move ht.size ht.block ht.less⟩
 have ho : owns m β b k := by unfold owns; rw [hb]; cases blk <;> exact hk
 exact h3 k (h.own b k ho).1 (h.own b k ho).2
theorem catch_idle (k : Nat) (w : World) : CallsD Tryz.prog 81 #[.pointer (some ⟨k, 0, none⟩)] .returning w fun e u' w' => e = .returned (.tuple #[]) /\ u' = .returning /\ w' = w := by
 refine callsD_of_wpS Tryz.func81 rfl fun c₀ cs hu => ?_
 apply wpS_seq
 apply wpS_region
 simp [wpOpsS, go_sem, recoverD, hu, Tryz.ntmps81, Exit.thenS]
 refine wpS_of_wp ?_
 go_wp2
 cases c₀
 simp_all [bodyPostS, results, Tryz.results81, Exit.thenS]
set_option maxHeartbeats 1000000 in
theorem catch_take (k : Nat) (n : Int) (x : Value) (w : World) (hc : w.heap[k]? = some (.cells #[x] 32 (0, 0))) : CallsD Tryz.prog 81 #[.pointer (some ⟨k, 0, none⟩)] (.panicking [{ v := .iface 143 (.int .i64 n), recovered := false }]) w fun e u' w' =>
 e = .returned (.tuple #[]) /\ u' = .panicking [{ v := .iface 143 (.int .i64 n), recovered := true }] /\ w' = w.setCell ⟨k, 0, none⟩ (.int .i64 n) := by
 refine callsD_of_wpS Tryz.func81 rfl fun c₀ cs hu => ?_
 apply wpS_seq
 apply wpS_region
 simp [wpOpsS, go_sem, recoverD, hu, Tryz.ntmps81, Exit.thenS]
 refine wpS_of_wp ?_
 have hta : ∀ w : World, (Instr.typeAssert (.iface 143 (.int .i64 n)) 20 143 true).run Tryz.prog w = .ok (.tuple #[.int .i64 n, .bool true]) w := fun w => by
  simp [Instr.typeAssert, run_underlying Tryz.underlying143]
 have hcell : w.cell? ⟨k, 0, none⟩ = some x := by simp [World.cell?, hc]
 have hfz : w.frozen? ⟨k, 0, none⟩ = false := by simp [World.frozen?, hc]
 go_wp2
 cases c₀
 simp_all [bodyPostS, results, Tryz.results81, Exit.thenS]
end Go.Proofs.YtbeofcbehhljdaaGreatDoor
namespace Go.Proofs.YtbeofcbehhljdaaGreatDoor
set_option maxRecDepth 8000
set_option linter.unusedSimpArgs false
set_option linter.unusedVariables false
open Go Go.Av Go.RowKit
def errOf : Out -> Option (Int × List Blk)
 | .ret _ [] β => some (0, β)
 | .pan (.iface t (.int .i64 n)) β => if t = 143 then some (n, β) else none
 | _ => none
theorem try_con {g : FuncId} {caps : List Cap} {β β' : List Blk} {out : Out} {n : Int} (hc : Con Tryz.prog g (caps.map capV) β out) (ho : errOf out = some (n, β')) :
 Con Tryz.prog 62 [.clo ⟨g, false⟩ caps] β (.ret (.p (I n)) [] β') := by
 intro F w m xs hp hl har
 obtain ⟨x, hx, hr⟩ := har 0 _ rfl
 obtain ⟨cs, rfl, hcl, hcs⟩ := hr
 have hxs : xs = [fnv ⟨g, false⟩ cs] := by
  match xs, hl with
  | [y], _ => simpa using hx
 subst hxs
 refine .inl ⟨⟨Tryz.f62, Tryz.func62, rfl, rfl⟩, ?_⟩
 show Calls Tryz.prog 62 #[.func (.func g) #[] cs.toArray] w _
 let w1 := w.alloc (Obj.cells #[Value.int IntKind.i64 0] 32)
 let k0 := w.heap.size
 have s1 : w1.heap.size = w.heap.size + 1 := by simp [w1]
 have o1 : ∀ k, k < w.heap.size -> w1.heap[k]? = w.heap[k]? := fun k hk => Below.heap_alloc w _ k hk
 have n1 : w1.heap[k0]? = some (.cells #[.int .i64 0] 32 (0, 0)) := by show (w.heap.push _)[w.heap.size]? = _; simp
 let F' : Nat -> Prop := fun k => F k \/ k = k0
 have hp1 : Hp w1 F' m (nmF β []) := hp_move hp (by omega) (fun k hk => by
  rcases hk with hk | hk
  ·have := hp.fold k hk; omega
  ·show k < _; rw [s1, hk]; exact Nat.lt_succ_self _) (fun k hk hf => by
  rcases hf with hf | hf
  ·exact hf
  ·exact absurd hk (by rw [hf]; exact Nat.lt_irrefl _)) (fun k hk _ => o1 k hk)
 have ht1 : Turn w w1 (Gd F m (nmF β [])) (Gd F' m (nmF β [])) := ⟨by omega, fun k hk _ => o1 k hk, fun k hk hg => hg.imp (fun hf => by
  rcases hf with hf | hf
  ·exact hf
  ·exact absurd hk (by rw [hf]; exact Nat.lt_irrefl _)) id⟩
 have hcall := hc F' w1 m cs hp1 (by simp [hcl]) (fun i v hi => by
  rw [List.getElem?_map] at hi
  cases hci : caps[i]? with
  | none => rw [hci] at hi; simp at hi
  | some c =>
   rw [hci] at hi
   simp only [Option.map_some, Option.some.injEq] at hi
   obtain ⟨y, h4, h5⟩ := hcs i c hci
   refine ⟨y, h4, ?_⟩
   subst hi
   cases c with
   | box b => exact h5
   | val p => exact RV0.keep (v := .p p) ht1 h5
   | rp e j => exact RV0.keep (v := .rptr e j) ht1 h5)
 have hlt2 : ∀ {w2 : World}, Keeps (fun k => ∃ n, owns m (nmF β []) n k) w1 w2 -> w2.heap[k0]? = some (.cells #[.int .i64 0] 32 (0, 0)) /\ w.heap.size <= w2.heap.size /\ Keeps (fun k => ∃ n, owns m (nmF β []) n k) w w2 := fun {w2} hk => by
  have hno : ¬ ∃ n, owns m (nmF β []) n k0 := fun ⟨n, hn⟩ => (hp1.own n k0 hn).2 (.inr rfl)
  refine ⟨by rw [hk.block k0 (by rw [s1]; exact Nat.lt_succ_self _) hno]; exact n1, by have := hk.size; omega, ⟨hk.os, hk.tape, hk.output, by have := hk.size; omega, fun k hlt hX => ?_⟩⟩
  rw [hk.block k (by omega) hX, o1 k hlt]
 have fin : ∀ (w2 : World) (m2 : Nm) (z : Int), Keeps (fun k => ∃ n, owns m (nmF β []) n k) w1 w2 -> Hp w2 F' m2 (nmF β' []) -> (∀ n k, owns m2 (nmF β' []) n k -> w1.heap.size <= k \/ ∃ n, owns m (nmF β []) n k) -> (∀ n, 1024 <= n -> n < 2048 -> m2.i n = m.i n) →
  Keeps (fun k => ∃ n, owns m (nmF β []) n k) w (w2.setCell ⟨k0, 0, none⟩ (.int .i64 z)) /\ OutR w F (fun k => ∃ n, owns m (nmF β []) n k) m (.returned (.int .i64 z)) (w2.setCell ⟨k0, 0, none⟩ (.int .i64 z)) (.ret (.p (I z)) [] β') := fun w2 m2 z hk hp2 hown hnam => by
  obtain ⟨hc2, hs2, hkw⟩ := hlt2 hk
  have hb : ∀ k, k ≠ k0 -> (w2.setCell ⟨k0, 0, none⟩ (.int .i64 z)).heap[k]? = w2.heap[k]? := fun k hne => heap_setCell_other w2 ⟨k0, 0, none⟩ k _ hne
  refine ⟨⟨hkw.os, hkw.tape, hkw.output, by rw [World.size_setCell]; exact hs2, fun k hlt hX => ?_⟩, _, m2, rfl, ?_, fun n k ho => ?_, hnam, .of0 (v := .p _) (.v _ rfl)⟩
  ·rw [hb k (Nat.ne_of_lt hlt), hkw.block k hlt hX]
  ·refine hp_move hp2 (by rw [World.size_setCell]; exact Nat.le_refl _) (fun k hf => by rw [World.size_setCell]; have := hp.fold k hf; omega) (fun k _ hf => .inl hf) (fun k hlt hn => hb k fun he => hn (.inr he))
  ·rcases hown n k ho with h1 | h1
   ·exact .inl (by omega)
   ·exact .inr h1
 have hload : ∀ (w2 : World) (z : Int), w2.heap[k0]? = some (.cells #[.int .i64 0] 32 (0, 0)) -> (w2.setCell ⟨k0, 0, none⟩ (.int .i64 z)).cell? ⟨k0, 0, none⟩ = some (.int .i64 z) := fun w2 z h => World.cell?_setCell_same w2 ⟨k0, 0, none⟩ (.int .i64 z) (u := .int .i64 0) (by simp [World.cell?, h])
 have hcellW : ∀ (w2 : World) (x : Value), w2.heap[k0]? = some (.cells #[x] 32 (0, 0)) -> w2.cell? ⟨k0, 0, none⟩ = some x /\ w2.frozen? ⟨k0, 0, none⟩ = false := fun w2 x h => ⟨by simp [World.cell?, h], by simp [World.frozen?, h]⟩
 have retd : ∀ (x : Value) (w2 : World), (Keeps (fun k => ∃ n, owns m (nmF β []) n k) w1 w2 /\ OutR w1 F' (fun k => ∃ n, owns m (nmF β []) n k) m (.returned x) w2 out) -> n = 0 /\ Keeps (fun k => ∃ n, owns m (nmF β []) n k) w (w2.setCell ⟨k0, 0, none⟩ (.int .i64 0)) /\ OutR w F (fun k => ∃ n, owns m (nmF β []) n k) m (.returned (.int .i64 0)) (w2.setCell ⟨k0, 0, none⟩ (.int .i64 0)) (.ret (.p (I n)) [] β') /\ w2.heap[k0]? = some (.cells #[.int .i64 0] 32 (0, 0)) := fun x w2 ⟨hk, hout⟩ => by
  cases out with
  | ret v R β2 =>
   cases R with
   | nil =>
    simp only [errOf, Option.some.injEq, Prod.mk.injEq] at ho
    obtain ⟨rfl, rfl⟩ := ho
    obtain ⟨x', m2, -, hp2, hown, hnam, -⟩ := hout
    obtain ⟨h1, h2⟩ := fin w2 m2 0 hk hp2 hown hnam
    exact ⟨rfl, h1, h2, (hlt2 hk).1⟩
   | cons b R => simp [errOf] at ho
  | pan y β2 => obtain ⟨m2, he, -⟩ := hout; simp at he
 have pand : ∀ (ch : List PanicEntry) (w2 : World), (Keeps (fun k => ∃ n, owns m (nmF β []) n k) w1 w2 /\ OutR w1 F' (fun k => ∃ n, owns m (nmF β []) n k) m (.panicked ch) w2 out) -> ch = [{ v := .iface 143 (.int .i64 n), recovered := false }] /\ Keeps (fun k => ∃ n, owns m (nmF β []) n k) w (w2.setCell ⟨k0, 0, none⟩ (.int .i64 n)) /\ OutR w F (fun k => ∃ n, owns m (nmF β []) n k) m (.returned (.int .i64 n)) (w2.setCell ⟨k0, 0, none⟩ (.int .i64 n)) (.ret (.p (I n)) [] β') /\ w2.heap[k0]? = some (.cells #[.int .i64 0] 32 (0, 0)) := fun ch w2 ⟨hk, hout⟩ => by
  cases out with
  | ret v R β2 => obtain ⟨x', m2, he, -⟩ := hout; simp at he
  | pan y β2 =>
   obtain ⟨m2, he, hp2, hown, hnam⟩ := hout
   unfold errOf at ho
   split at ho
   ·rename_i hh; simp at hh
   ·rename_i t n' β3 hh
    simp only [Out.pan.injEq] at hh
    obtain ⟨rfl, rfl⟩ := hh
    split at ho
    ·rename_i ht
     subst ht
     simp only [Option.some.injEq, Prod.mk.injEq] at ho
     obtain ⟨rfl, rfl⟩ := ho
     simp only [Ending.panicked.injEq] at he
     obtain ⟨h1, h2⟩ := fin w2 m2 n' hk hp2 hown hnam
     exact ⟨he, h1, h2, (hlt2 hk).1⟩
    ·simp at ho
   ·simp at ho
 have hnog : ∀ w2, ¬ OutR w1 F' (fun k => ∃ n, owns m (nmF β []) n k) m .outgrown w2 out := fun w2 h => by
  cases out with
  | ret v R β2 => obtain ⟨x', m2, he, -⟩ := h; simp at he
  | pan y β2 => obtain ⟨m2, he, -⟩ := h; simp at he
 have hw1 : w.alloc (Obj.cells #[Value.int IntKind.i64 0] 32) = w1 := rfl
 have hk0 : w.heap.size = k0 := rfl
 clear_value k0 w1
 go_enter_defers Tryz.func62, Tryz.ntmps62
 go_wp2
 rename_i K1 hK1 K2 hK2
 have tail1 : ∀ (x : Value) (w2 : World), (Keeps (fun k => ∃ n, owns m (nmF β []) n k) w1 w2 /\ OutR w1 F' (fun k => ∃ n, owns m (nmF β []) n k) m (.returned x) w2 out) -> True := fun _ _ _ => trivial
 rcases hcall with ⟨⟨fn, f1, f2, f3⟩, hcl2⟩ | ⟨x, w2, hrun, hR⟩
 ·have f2' : ¬ fn.name = "runtime.NumGoroutine" := by simpa using f2
  have f3' : ¬ fn.body = none := by intro h0; rw [h0] at f3; simp at f3
  rw [show (callFunc g cs.toArray).run Tryz.prog w1 = .ok (.enter g cs.toArray) w1 by simp [callFunc, f1, f2', f3']]
  refine hcl2.mono fun e w2 hR => ?_
  cases e with
  | outgrown => exact absurd hR.2 (hnog w2)
  | returned x =>
   obtain ⟨hn, hk, ho2, hc2⟩ := retd x w2 hR
   obtain ⟨hc3, hf3⟩ := hcellW w2 _ hc2
   have hl := hload w2 0 hc2
   refine hK2 _ _ ?_
   go_wp2
   subst hn
   refine leaves_cons (f := 81) (args := #[.pointer (some ⟨k0, 0, none⟩)]) (by simp) (by simp [go_sem]) ?_
   refine (catch_idle k0 _).mono ?_
   rintro e u' w'' ⟨rfl, rfl, rfl⟩
   simp [Leaves, settle, results, Tryz.results62, go_sem, hl]
   exact ⟨hk, ho2⟩
  | panicked ch =>
   obtain ⟨hch, hk, ho2, hc2⟩ := pand ch w2 hR
   subst hch
   have hl := hload w2 n hc2
   show Leaves Tryz.prog Tryz.f62 _ _ _ _ _
   refine leaves_cons (f := 81) (args := #[.pointer (some ⟨k0, 0, none⟩)]) (by simp) (by simp [go_sem]) ?_
   refine (catch_take k0 n _ w2 hc2).mono ?_
   rintro e u' w'' ⟨rfl, rfl, rfl⟩
   simp [Leaves, settle, results, Tryz.results62, go_sem, hl]
   exact ⟨hk, ho2⟩
 ·rw [hrun]
  obtain ⟨hn, hk, ho2, hc2⟩ := retd x w2 hR
  obtain ⟨hc3, hf3⟩ := hcellW w2 _ hc2
  have hl := hload w2 0 hc2
  refine hK2 _ _ ?_
  go_wp2
  subst hn
  refine leaves_cons (f := 81) (args := #[.pointer (some ⟨k0, 0, none⟩)]) (by simp) (by simp [go_sem]) ?_
  refine (catch_idle k0 _).mono ?_
  rintro e u' w'' ⟨rfl, rfl, rfl⟩
  simp [Leaves, settle, results, Tryz.results62, go_sem, hl]
  exact ⟨hk, ho2⟩
end Go.Proofs.YtbeofcbehhljdaaGreatDoor
namespace Go.Proofs.YtbeofcbehhljdaaGreatDoor
set_option linter.unusedSimpArgs false
set_option linter.unusedVariables false
open Go Go.Av
attribute [local irreducible] Go.Av.CallK Go.Av.CallE Go.Av.CallQ Go.Av.CallF Go.Av.CallR Go.Av.CallH Go.Av.Con
def rdU : Nat -> Nat -> List UInt8 -> Int × Nat × Nat
 | i, _, [] => (2, 0, i)
 | i, u, c :: r =>
  if i = 9 /\ 1 < c.toNat then (5, 0, i + 1)
  else if 128 <= c.toNat then rdU (i + 1) (u + c.toNat % 128 * 128 ^ i) r
  else if c.toNat = 0 /\ 0 < i then (3, 0, i + 1)
  else (0, u + c.toNat % 128 * 128 ^ i, i + 1)
theorem and8_fact (c : UInt8) : IntKind.u8.wrap ((BitVec.ofInt IntKind.u8.bits (c.toNat : Int) &&& BitVec.ofInt IntKind.u8.bits 127).toNat : Int) = ((c.toNat % 128 : Nat) : Int) := by
 have hc := c.toNat_lt
 show IntKind.u8.wrap ((BitVec.ofInt 8 (c.toNat : Int) &&& BitVec.ofNat 8 127).toNat : Int) = _
 rw [ofInt_nat, and127 _ (by omega), u8_wrap]; omega
theorem pow7 (i : Nat) : 2 ^ (7 * i) = 128 ^ i := by rw [Nat.pow_mul]
theorem pow_le9 {i : Nat} (h : i <= 9) : 128 ^ i <= 9223372036854775808 := Nat.le_trans (Nat.pow_le_pow_right (by omega) h) (by decide)
theorem step_lt {u x i : Nat} (hu : u < 128 ^ i) (hx : x < 128) : u + x * 128 ^ i < 128 ^ (i + 1) := by
 rw [Nat.pow_succ]
 have : x * 128 ^ i <= 127 * 128 ^ i := Nat.mul_le_mul_right _ (by omega)
 omega
theorem step_lt64 {u x i : Nat} (hu : u < 128 ^ i) (hx : x < 128) (hi : i <= 9) (h9 : i = 9 -> x <= 1) : x * 128 ^ i < 18446744073709551616 /\ u + x * 128 ^ i < 18446744073709551616 := by
 by_cases h : i = 9
 ·subst h
  have := h9 rfl
  have : x * 128 ^ 9 <= 1 * 128 ^ 9 := Nat.mul_le_mul_right _ this
  omega
 ·have h8 : 128 ^ (i + 1) <= 128 ^ 9 := Nat.pow_le_pow_right (by omega) (by omega)
  have := step_lt hu hx
  omega
theorem or64_fact {u x i : Nat} (hu : u < 128 ^ i) (hx : x < 128) (hi : i <= 9) (h9 : i = 9 -> x <= 1) :
 IntKind.u64.wrap ((BitVec.ofInt IntKind.u64.bits (u : Int) ||| BitVec.ofInt IntKind.u64.bits (IntKind.u64.wrap ((x : Int) * 2 ^ min (7 * i) IntKind.u64.bits))).toNat : Int) = ((u + x * 128 ^ i : Nat) : Int) := by
 obtain ⟨h1, h2⟩ := step_lt64 hu hx hi h9
 have e1 : min (7 * i) IntKind.u64.bits = 7 * i := by show min (7 * i) 64 = _; omega
 have e2 : (x : Int) * 2 ^ (7 * i) = ((x * 128 ^ i : Nat) : Int) := by rw [<- pow7]; simp
 have e3 : IntKind.u64.wrap ((x * 128 ^ i : Nat) : Int) = ((x * 128 ^ i : Nat) : Int) := by rw [u64_wrap]; omega
 rw [e1, e2, e3]
 show IntKind.u64.wrap ((BitVec.ofInt 64 (u : Int) ||| BitVec.ofInt 64 ((x * 128 ^ i : Nat) : Int)).toNat : Int) = _
 rw [ofInt_nat, ofInt_nat, BitVec.toNat_or, BitVec.toNat_ofNat, BitVec.toNat_ofNat, Nat.mod_eq_of_lt (by omega), Nat.mod_eq_of_lt (by omega)]
 have e4 : u ||| x * 128 ^ i = u + x * 128 ^ i := by
  rw [<- pow7, <- Nat.shiftLeft_eq, Nat.or_comm, <- Nat.shiftLeft_add_eq_or_of_lt (by rw [pow7]; exact hu), Nat.add_comm]
 rw [e4, u64_wrap]; omega
theorem and1 (u : Nat) (h : u < 18446744073709551616) : IntKind.u64.wrap ((BitVec.ofInt IntKind.u64.bits (u : Int) &&& BitVec.ofInt IntKind.u64.bits 1).toNat : Int) = ((u % 2 : Nat) : Int) := by
 show IntKind.u64.wrap ((BitVec.ofInt 64 (u : Int) &&& BitVec.ofNat 64 1).toNat : Int) = _
 rw [ofInt_nat, BitVec.toNat_and, BitVec.toNat_ofNat, BitVec.toNat_ofNat, show 1 % 2 ^ 64 = 2 ^ 1 - 1 from rfl, Nat.and_two_pow_sub_one_eq_mod, u64_wrap]
 omega
theorem shr1 (u : Nat) : (u : Int).fdiv (2 ^ min 1 IntKind.u64.bits) = ((u / 2 : Nat) : Int) := by
 show (u : Int).fdiv 2 = _
 rw [Int.fdiv_eq_ediv_of_nonneg _ (by omega)]; omega
theorem unz_fact (u : Nat) (h : u < 18446744073709551616) : IntKind.i64.wrap ((BitVec.ofInt IntKind.i64.bits (IntKind.i64.wrap ((u / 2 : Nat) : Int)) ^^^ BitVec.ofInt IntKind.i64.bits (IntKind.i64.wrap (0 - IntKind.i64.wrap ((u % 2 : Nat) : Int)))).toNat : Int) = unzz u := by
 have e1 : IntKind.i64.wrap ((u / 2 : Nat) : Int) = ((u / 2 : Nat) : Int) := wrap_id (by omega) (by omega)
 have e2 : IntKind.i64.wrap ((u % 2 : Nat) : Int) = ((u % 2 : Nat) : Int) := wrap_id (by omega) (by omega)
 have e3 : IntKind.i64.wrap (0 - ((u % 2 : Nat) : Int)) = -((u % 2 : Nat) : Int) := by rw [wrap_id (by omega) (by omega)]; omega
 rw [e1, e2, e3]
 show IntKind.i64.wrap ((BitVec.ofInt 64 ((u / 2 : Nat) : Int) ^^^ BitVec.ofInt 64 (-((u % 2 : Nat) : Int))).toNat : Int) = _
 unfold unzz
 by_cases o : u % 2 = 1
 ·rw [if_pos o, o, show BitVec.ofInt 64 (-((1 : Nat) : Int)) = BitVec.ofNat 64 18446744073709551615 by decide, ofInt_nat, xor_ones _ (by omega), IntKind.wrap_i64]
  omega
 ·rw [if_neg o, show u % 2 = 0 by omega, show BitVec.ofInt 64 (-((0 : Nat) : Int)) = BitVec.ofNat 64 0 by decide, ofInt_nat]
  simp only [BitVec.ofNat_eq_ofNat, BitVec.xor_zero, BitVec.toNat_ofNat]
  rw [IntKind.wrap_i64]
  omega
theorem give_con (n : Int) (h : ¬ n = 0) : Con Tryz.prog 64 [.p (I n)] [] (.pan (.iface 143 (.int .i64 n)) []) := by
 refine wBodyG Tryz.tab Tryz.mixed Tryz.func64 rfl rfl Tryz.ntmps64 (by simp) (by simp) fun Q hr hn hp => ?_
 repeat' first | (refine hK _ ?_; clear hK) | (refine hK _ _ ?_; clear hK) | (clear hK; refine hK _ ?_; clear hK) | (clear hK; clear hK; refine hK _ ?_; clear hK) | (clear hK; clear hK; clear hK; refine hK _ ?_; clear hK) | (clear hK; clear hK; clear hK; clear hK; refine hK _ ?_; clear hK) | (refine wSeq fun K hK => ?_) | ((first | refine wReg ?_ | refine wDrwQ rfl (by kernel_rfl) ?_ | refine wDrwI ?_ | refine wDrw (by kernel_rfl) ?_); simp only [List.map_cons, List.map_nil, strip]) | ((first | refine wIs fun K hK => ?_ | refine wOs fun K hK => ?_ | refine wQs fun K hK => ?_ | refine CallK_plain ?_ | refine CallQ_plain ?_ | refine CallR_plain ?_ | refine wCond ?_); simp [h]) | (refine wIn ?_; refine And.intro (by kernel_rfl) ?_; try simp only [thenA_n]) | (first | refine wBlock ?_ | refine wScope ?_) | ((first | refine wRet ?_ | refine wExit ?_ | refine wSkip ?_); try simp) | ((first | refine wLabel ?_ | refine wOn ?_ | refine wQn ?_); try simp only [thenA_n])
 all_goals apply hp
 all_goals simp [AResP, outB]
def rdO (b : List UInt8) (at' : Nat) (r : Int × Nat × Nat) : Out :=
 if r.1 = 0 then .ret (.p (I (unzz r.2.1))) [] [.box 121 [.p (.sl 1 (by8 b)), .p (I ((at' + r.2.2 : Nat) : Int))]]
 else .pan (.iface 143 (.int .i64 r.1)) [.box 121 [.p (.sl 1 (by8 b)), .p (I ((at' + r.2.2 : Nat) : Int))]]
theorem rdO_ok {b : List UInt8} {a u k : Nat} : rdO b a (0, u, k) = .ret (.p (I (unzz u))) [] [.box 121 [.p (.sl 1 (by8 b)), .p (I ((a + k : Nat) : Int))]] := rfl
theorem rdO_err {b : List UInt8} {a u k : Nat} {e : Int} (h : ¬ e = 0) : rdO b a (e, u, k) = .pan (.iface 143 (.int .i64 e)) [.box 121 [.p (.sl 1 (by8 b)), .p (I ((a + k : Nat) : Int))]] := by unfold rdO; rw [if_neg h]
set_option maxHeartbeats 2000000 in
theorem number_con (b : List UInt8) (a : Nat) (ha : a <= b.length) (hb : b.length <= 1000000000) : Con Tryz.prog 82 [.ptr 1024 0] [.box 121 [.p (.sl 1 (by8 b)), .p (I a)]] (rdO b a (rdU 0 0 (b.drop a))) := by
 have e2 := give_con 2 (by decide)
 have e3 := give_con 3 (by decide)
 have e5 := give_con 5 (by decide)
 refine wBodyG Tryz.tab Tryz.mixed Tryz.func82 rfl rfl Tryz.ntmps82 (by simp) (by simp) fun Q hr hn hp => ?_
 repeat' first | (refine hK _ ?_; clear hK) | (refine hK _ _ ?_; clear hK) | (clear hK; refine hK _ ?_; clear hK) | (clear hK; clear hK; refine hK _ ?_; clear hK) | (clear hK; clear hK; clear hK; refine hK _ ?_; clear hK) | (clear hK; clear hK; clear hK; clear hK; refine hK _ ?_; clear hK) | (refine wSeq fun K hK => ?_) | ((first | refine wReg ?_ | refine wDrwQ rfl (by kernel_rfl) ?_ | refine wDrwI ?_ | refine wDrw (by kernel_rfl) ?_); simp only [List.map_cons, List.map_nil, strip]) | ((first | refine wIs fun K hK => ?_ | refine wOs fun K hK => ?_ | refine wQs fun K hK => ?_ | refine CallK_plain ?_ | refine CallQ_plain ?_ | refine CallR_plain ?_ | refine wCond ?_); simp) | (refine wIn ?_; refine And.intro (by kernel_rfl) ?_; try simp only [thenA_n]) | (first | refine wBlock ?_ | refine wScope ?_) | ((first | refine wRet ?_ | refine wExit ?_ | refine wSkip ?_); try simp) | ((first | refine wLabel ?_ | refine wOn ?_ | refine wQn ?_); try simp only [thenA_n])
 refine wLoop (fun N st => ∃ i q u, i + N = 10 /\ i <= 9 /\ q = a + i /\ st.s 0 = .ptr 1024 0 /\ st.s 3 = .p (.v (.int .u64 (u : Nat))) /\ st.s 6 = .p (I i) /\ st.b 1024 = some (.box 121 [.p (.sl 1 (by8 b)), .p (I q)]) /\ u < 128 ^ i /\ q <= b.length /\ rdU i u (b.drop q) = rdU 0 0 (b.drop a)) 10 ⟨0, a, 0, by simp; exact ha⟩ fun K N st hL ⟨i, q, u, hk, hi9, hq, g0, g3, g6, b0, hu, hqb, hrd⟩ => ?_
 have hi10 : (i : Int) < 10 := by omega
 by_cases hlt : q < b.length
 rotate_left
 ·have hae : q = b.length := by omega
  rw [List.drop_of_length_le (by omega), rdU] at hrd
  rw [<- hrd, rdO_err (by decide), <- hq] at hp
  have hae' : (q : Int) = (b.length : Int) := by omega
  repeat' first | (refine CallE.pan e2 ?_) | (refine hK _ ?_; clear hK) | (refine hK _ _ ?_; clear hK) | (clear hK; refine hK _ ?_; clear hK) | (clear hK; clear hK; refine hK _ ?_; clear hK) | (clear hK; clear hK; clear hK; refine hK _ ?_; clear hK) | (clear hK; clear hK; clear hK; clear hK; refine hK _ ?_; clear hK) | (refine wSeq fun K hK => ?_) | ((first | refine wReg ?_ | refine wDrwQ rfl (by kernel_rfl) ?_ | refine wDrwI ?_ | refine wDrw (by kernel_rfl) ?_); simp only [List.map_cons, List.map_nil, strip]) | ((first | refine wIs fun K hK => ?_ | refine wOs fun K hK => ?_ | refine wQs fun K hK => ?_ | refine CallK_plain ?_ | refine CallQ_plain ?_ | refine CallR_plain ?_ | refine wCond ?_); simp [g0, g3, g6, b0, hi10, hae, hae']) | (refine wIn ?_; refine And.intro (by kernel_rfl) ?_; try simp only [thenA_n]) | (first | refine wBlock ?_ | refine wScope ?_) | ((first | refine wRet ?_ | refine wExit ?_ | refine wSkip ?_); try simp) | ((first | refine wLabel ?_ | refine wOn ?_ | refine wQn ?_); try simp only [thenA_n])
  simp only [thenA_p, blockA_p]
  apply hp
  simp [AResP, outB, renB, gaN, b0, hae]
 have hlt' : ¬ (q : Int) = (b.length : Int) := by omega
 have hne : ¬ q = b.length := by omega
 have hw : IntKind.i64.wrap ((q : Int) + 1) = ((q + 1 : Nat) : Int) := by rw [wrap_id (by omega) (by omega)]; omega
 have hwi := wrapS i 10 (by omega) (by omega)
 have he := by8_get hlt
 rw [List.drop_eq_getElem_cons hlt, rdU] at hrd
 have hc256 := b[q].toNat_lt
 generalize hcq : b[q] = c at he hrd hc256
 obtain ⟨x, hx⟩ : ∃ x : Nat, x = c.toNat := ⟨_, rfl⟩
 rw [<- hx] at he hrd hc256
 have h8 := and8_fact c
 rw [<- hx] at h8
 have hcx : c.toNat = x := hx.symm
 simp at h8
 by_cases o1 : i = 9 /\ 1 < x
 ·rw [if_pos o1] at hrd
  rw [<- hrd, rdO_err (by decide), show a + (i + 1) = q + 1 by omega] at hp
  have o1' : (1 : Int) < (x : Int) := by omega
  have o2' : (i : Int) = 9 := by omega
  repeat' first | (refine CallE.pan e5 ?_) | (refine hK _ ?_; clear hK) | (refine hK _ _ ?_; clear hK) | (clear hK; refine hK _ ?_; clear hK) | (clear hK; clear hK; refine hK _ ?_; clear hK) | (clear hK; clear hK; clear hK; refine hK _ ?_; clear hK) | (clear hK; clear hK; clear hK; clear hK; refine hK _ ?_; clear hK) | (refine wSeq fun K hK => ?_) | ((first | refine wReg ?_ | refine wDrwQ rfl (by kernel_rfl) ?_ | refine wDrwI ?_ | refine wDrw (by kernel_rfl) ?_); simp only [List.map_cons, List.map_nil, strip]) | ((first | refine wIs fun K hK => ?_ | refine wOs fun K hK => ?_ | refine wQs fun K hK => ?_ | refine CallK_plain ?_ | refine CallQ_plain ?_ | refine CallR_plain ?_ | refine wCond ?_); simp [g0, g3, g6, b0, hi10, hlt, hlt', hne, hw, he, hcq, hcx, o1', o2', o1]) | (refine wIn ?_; refine And.intro (by kernel_rfl) ?_; try simp only [thenA_n]) | (first | refine wBlock ?_ | refine wScope ?_) | ((first | refine wRet ?_ | refine wExit ?_ | refine wSkip ?_); try simp) | ((first | refine wLabel ?_ | refine wOn ?_ | refine wQn ?_); try simp only [thenA_n])
  simp only [thenA_p, blockA_p]
  apply hp
  simp [AResP, outB, renB, gaN, b0, hw]
 rw [if_neg o1] at hrd
 have o1' : (i : Int) = 9 -> ¬ (1 : Int) < (x : Int) := by omega
 have hx9 : i = 9 -> x <= 1 := by omega
 have hxm : x % 128 < 128 := by omega
 have hor := or64_fact (x := x % 128) hu hxm hi9 (by omega)
 have hst := step_lt64 (x := x % 128) hu hxm hi9 (by omega)
 have hsl := step_lt (x := x % 128) hu hxm
 generalize u + x % 128 * 128 ^ i = u' at hor hst hsl hrd
 have hw7 : IntKind.i64.wrap (7 * (i : Int)) = 7 * (i : Int) := wrap_id (by omega) (by omega)
 have hn7 : ¬ 7 * (i : Int) < 0 := by omega
 have ht7 : (7 * (i : Int)).toNat = 7 * i := by omega
 have hcv : IntKind.u64.wrap ((x % 128 : Nat) : Int) = ((x % 128 : Nat) : Int) := by rw [u64_wrap]; omega
 simp at hor hcv
 by_cases o2 : 128 <= x
 ·rw [if_pos o2] at hrd
  have o2' : (128 : Int) <= (x : Int) := by omega
  have o3' : ¬ (i : Int) = 9 := by omega
  have o3 : ¬ i = 9 := by omega
  repeat' first | (refine hK _ ?_; clear hK) | (refine hK _ _ ?_; clear hK) | (clear hK; refine hK _ ?_; clear hK) | (clear hK; clear hK; refine hK _ ?_; clear hK) | (clear hK; clear hK; clear hK; refine hK _ ?_; clear hK) | (clear hK; clear hK; clear hK; clear hK; refine hK _ ?_; clear hK) | (refine wSeq fun K hK => ?_) | ((first | refine wReg ?_ | refine wDrwQ rfl (by kernel_rfl) ?_ | refine wDrwI ?_ | refine wDrw (by kernel_rfl) ?_); simp only [List.map_cons, List.map_nil, strip]) | ((first | refine wIs fun K hK => ?_ | refine wOs fun K hK => ?_ | refine wQs fun K hK => ?_ | refine CallK_plain ?_ | refine CallQ_plain ?_ | refine CallR_plain ?_ | refine wCond ?_); simp [g0, g3, g6, b0, hi10, hlt, hlt', hne, hw, he, hcq, hcx, o2', o2, o3, o3', h8, hor, hw7, hn7, ht7, hcv, hwi]) | (refine wIn ?_; refine And.intro (by kernel_rfl) ?_; try simp only [thenA_n]) | (first | refine wBlock ?_ | refine wScope ?_) | ((first | refine wRet ?_ | refine wExit ?_ | refine wSkip ?_); try simp) | ((first | refine wLabel ?_ | refine wOn ?_ | refine wQn ?_); try simp only [thenA_n])
  refine hL _ (N - 1) (by omega) ⟨i + 1, q + 1, u', by omega, by omega, by omega, ?_⟩
  simp [g0, g3, g6, b0, hw, hwi, h8, hor, hw7, hn7, ht7, hcv, hsl, hrd]
  omega
 rw [if_neg o2] at hrd
 have o2' : ¬ (128 : Int) <= (x : Int) := by omega
 by_cases o4 : x = 0 /\ 0 < i
 ·rw [if_pos o4] at hrd
  rw [<- hrd, rdO_err (by decide), show a + (i + 1) = q + 1 by omega] at hp
  obtain ⟨o4, o5⟩ := o4
  have o4' : (x : Int) = 0 := by omega
  have o5' : (0 : Int) < (i : Int) := by omega
  have o1x : ¬ (1 : Int) < (x : Int) := by omega
  by_cases o3 : i = 9
  ·have o3' : (i : Int) = 9 := by omega
   repeat' first | (refine CallE.pan e3 ?_) | (refine hK _ ?_; clear hK) | (refine hK _ _ ?_; clear hK) | (clear hK; refine hK _ ?_; clear hK) | (clear hK; clear hK; refine hK _ ?_; clear hK) | (clear hK; clear hK; clear hK; refine hK _ ?_; clear hK) | (clear hK; clear hK; clear hK; clear hK; refine hK _ ?_; clear hK) | (refine wSeq fun K hK => ?_) | ((first | refine wReg ?_ | refine wDrwQ rfl (by kernel_rfl) ?_ | refine wDrwI ?_ | refine wDrw (by kernel_rfl) ?_); simp only [List.map_cons, List.map_nil, strip]) | ((first | refine wIs fun K hK => ?_ | refine wOs fun K hK => ?_ | refine wQs fun K hK => ?_ | refine CallK_plain ?_ | refine CallQ_plain ?_ | refine CallR_plain ?_ | refine wCond ?_); simp [g0, g3, g6, b0, hi10, hlt, hlt', hne, hw, he, hcq, hcx, o2', o2, o3', o3, o1x, o4', o5', o4, o5, h8, hor, hw7, hn7, ht7, hcv]) | (refine wIn ?_; refine And.intro (by kernel_rfl) ?_; try simp only [thenA_n]) | (first | refine wBlock ?_ | refine wScope ?_) | ((first | refine wRet ?_ | refine wExit ?_ | refine wSkip ?_); try simp) | ((first | refine wLabel ?_ | refine wOn ?_ | refine wQn ?_); try simp only [thenA_n])
   simp only [thenA_p, blockA_p]
   apply hp
   simp [AResP, outB, renB, gaN, b0, hw]
  ·have o3' : ¬ (i : Int) = 9 := by omega
   repeat' first | (refine CallE.pan e3 ?_) | (refine hK _ ?_; clear hK) | (refine hK _ _ ?_; clear hK) | (clear hK; refine hK _ ?_; clear hK) | (clear hK; clear hK; refine hK _ ?_; clear hK) | (clear hK; clear hK; clear hK; refine hK _ ?_; clear hK) | (clear hK; clear hK; clear hK; clear hK; refine hK _ ?_; clear hK) | (refine wSeq fun K hK => ?_) | ((first | refine wReg ?_ | refine wDrwQ rfl (by kernel_rfl) ?_ | refine wDrwI ?_ | refine wDrw (by kernel_rfl) ?_); simp only [List.map_cons, List.map_nil, strip]) | ((first | refine wIs fun K hK => ?_ | refine wOs fun K hK => ?_ | refine wQs fun K hK => ?_ | refine CallK_plain ?_ | refine CallQ_plain ?_ | refine CallR_plain ?_ | refine wCond ?_); simp [g0, g3, g6, b0, hi10, hlt, hlt', hne, hw, he, hcq, hcx, o2', o2, o3', o3, o1x, o4', o5', o4, o5, h8, hor, hw7, hn7, ht7, hcv]) | (refine wIn ?_; refine And.intro (by kernel_rfl) ?_; try simp only [thenA_n]) | (first | refine wBlock ?_ | refine wScope ?_) | ((first | refine wRet ?_ | refine wExit ?_ | refine wSkip ?_); try simp) | ((first | refine wLabel ?_ | refine wOn ?_ | refine wQn ?_); try simp only [thenA_n])
   simp only [thenA_p, blockA_p]
   apply hp
   simp [AResP, outB, renB, gaN, b0, hw]
 rw [if_neg o4] at hrd
 rw [<- hrd, rdO_ok, show a + (i + 1) = q + 1 by omega] at hr
 have f1 := and1 u' hst.2
 have f2 := shr1 u'
 have f3 := unz_fact u' hst.2
 simp at f1 f2 f3
 have hlast : ∀ st : St, st.s 2 = .p (I (unzz u')) -> st.b 1024 = some (.box 121 [.p (.sl 1 (by8 b)), .p (I ((q + 1 : Nat) : Int))]) -> Q .ret st := fun st h1 h2 => by
  apply hr
  refine ⟨[], by simp, by simp, ?_⟩
  simp [Tryz.f82, outR, outB, renB, gaN, h1, h2]
 have o1x : (i : Int) = 9 -> ¬ (1 : Int) < (x : Int) := by omega
 by_cases o3 : i = 9
 ·have o3' : ((i : Int) = 9) = True := by simp; omega
  have o3t : (i = 9) = True := by simp [o3]
  have o1y : ¬ (1 : Int) < (x : Int) := by omega
  have o5' : (0 : Int) < (i : Int) := by omega
  have o4' : ¬ (x : Int) = 0 := by omega
  have o4n : ¬ x = 0 := by omega
  have o5n : 0 < i := by omega
  repeat' first | (refine hK _ ?_; clear hK) | (refine hK _ _ ?_; clear hK) | (clear hK; refine hK _ ?_; clear hK) | (clear hK; clear hK; refine hK _ ?_; clear hK) | (clear hK; clear hK; clear hK; refine hK _ ?_; clear hK) | (clear hK; clear hK; clear hK; clear hK; refine hK _ ?_; clear hK) | (refine wSeq fun K hK => ?_) | ((first | refine wReg ?_ | refine wDrwQ rfl (by kernel_rfl) ?_ | refine wDrwI ?_ | refine wDrw (by kernel_rfl) ?_); simp only [List.map_cons, List.map_nil, strip]) | ((first | refine wIs fun K hK => ?_ | refine wOs fun K hK => ?_ | refine wQs fun K hK => ?_ | refine CallK_plain ?_ | refine CallQ_plain ?_ | refine CallR_plain ?_ | refine wCond ?_); simp [g0, g3, g6, b0, hi10, hlt, hlt', hne, hw, he, hcq, hcx, o2', o2, o3', o3t, o1y, o4', o4n, o5n, o5', h8, hor, hw7, hn7, ht7, hcv, f1, f2, f3]) | (refine wIn ?_; refine And.intro (by kernel_rfl) ?_; try simp only [thenA_n]) | (first | refine wBlock ?_ | refine wScope ?_) | ((first | refine wRet ?_ | refine wExit ?_ | refine wSkip ?_); try simp) | ((first | refine wLabel ?_ | refine wOn ?_ | refine wQn ?_); try simp only [thenA_n])
  apply hlast
  all_goals simp [g0, g3, g6, b0, hw, h8, hor, hw7, hn7, ht7, hcv, f1, f2, f3]
 ·have o3' : ¬ (i : Int) = 9 := by omega
  by_cases o4x : x = 0
  ·have o4' : ((x : Int) = 0) = True := by simp; omega
   have o4t : (x = 0) = True := by simp [o4x]
   have o5' : ¬ (0 : Int) < (i : Int) := by omega
   have o5n : ¬ 0 < i := by omega
   repeat' first | (refine hK _ ?_; clear hK) | (refine hK _ _ ?_; clear hK) | (clear hK; refine hK _ ?_; clear hK) | (clear hK; clear hK; refine hK _ ?_; clear hK) | (clear hK; clear hK; clear hK; refine hK _ ?_; clear hK) | (clear hK; clear hK; clear hK; clear hK; refine hK _ ?_; clear hK) | (refine wSeq fun K hK => ?_) | ((first | refine wReg ?_ | refine wDrwQ rfl (by kernel_rfl) ?_ | refine wDrwI ?_ | refine wDrw (by kernel_rfl) ?_); simp only [List.map_cons, List.map_nil, strip]) | ((first | refine wIs fun K hK => ?_ | refine wOs fun K hK => ?_ | refine wQs fun K hK => ?_ | refine CallK_plain ?_ | refine CallQ_plain ?_ | refine CallR_plain ?_ | refine wCond ?_); simp [g0, g3, g6, b0, hi10, hlt, hlt', hne, hw, he, hcq, hcx, o2', o2, o3', o3, o4', o5', o4t, o5n, h8, hor, hw7, hn7, ht7, hcv, f1, f2, f3]) | (refine wIn ?_; refine And.intro (by kernel_rfl) ?_; try simp only [thenA_n]) | (first | refine wBlock ?_ | refine wScope ?_) | ((first | refine wRet ?_ | refine wExit ?_ | refine wSkip ?_); try simp) | ((first | refine wLabel ?_ | refine wOn ?_ | refine wQn ?_); try simp only [thenA_n])
   apply hlast
   all_goals simp [g0, g3, g6, b0, hw, h8, hor, hw7, hn7, ht7, hcv, f1, f2, f3]
  ·have o4' : ¬ (x : Int) = 0 := by omega
   repeat' first | (refine hK _ ?_; clear hK) | (refine hK _ _ ?_; clear hK) | (clear hK; refine hK _ ?_; clear hK) | (clear hK; clear hK; refine hK _ ?_; clear hK) | (clear hK; clear hK; clear hK; refine hK _ ?_; clear hK) | (clear hK; clear hK; clear hK; clear hK; refine hK _ ?_; clear hK) | (refine wSeq fun K hK => ?_) | ((first | refine wReg ?_ | refine wDrwQ rfl (by kernel_rfl) ?_ | refine wDrwI ?_ | refine wDrw (by kernel_rfl) ?_); simp only [List.map_cons, List.map_nil, strip]) | ((first | refine wIs fun K hK => ?_ | refine wOs fun K hK => ?_ | refine wQs fun K hK => ?_ | refine CallK_plain ?_ | refine CallQ_plain ?_ | refine CallR_plain ?_ | refine wCond ?_); simp [g0, g3, g6, b0, hi10, hlt, hlt', hne, hw, he, hcq, hcx, o2', o2, o3', o3, o4', o4x, h8, hor, hw7, hn7, ht7, hcv, f1, f2, f3]) | (refine wIn ?_; refine And.intro (by kernel_rfl) ?_; try simp only [thenA_n]) | (first | refine wBlock ?_ | refine wScope ?_) | ((first | refine wRet ?_ | refine wExit ?_ | refine wSkip ?_); try simp) | ((first | refine wLabel ?_ | refine wOn ?_ | refine wQn ?_); try simp only [thenA_n])
   apply hlast
   all_goals simp [g0, g3, g6, b0, hw, h8, hor, hw7, hn7, ht7, hcv, f1, f2, f3]
def rdT (a : Nat) (r : Int × Nat × Nat) : V := if r.1 = 0 then .tup [.p (I (unzz r.2.1)), .p (I ((a + r.2.2 : Nat) : Int)), .p (I 0)] else .tup [.p (I 0), .p (I 0), .p (I r.1)]
def intT (b : List UInt8) (at' : Int) : V := if at' < 0 \/ (b.length : Int) < at' then .tup [.p (I 0), .p (I 0), .p (I 1)] else rdT at'.toNat (rdU 0 0 (b.drop at'.toNat))
theorem rdT_err {a u k : Nat} {e : Int} (h : ¬ e = 0) : rdT a (e, u, k) = .tup [.p (I 0), .p (I 0), .p (I e)] := by unfold rdT; rw [if_neg h]
section
variable (b : List UInt8) (at' : Int) (X : PV)
abbrev rbI (g : FuncId) (x : V) (q : Int) : List Blk := [.box 3 [.p (I at')], .box 55 [.p (.sl 1 (by8 b))], .box 159 [.p (.v (.func (.func g) #[] #[]))], .box 101 [.ptr 1029 0], .box 3 [x], .box 121 [.p (.sl 1 (by8 b)), .p (I q)]]
abbrev raI : List V := [.ptr 1024 0, .ptr 1025 0, .ptr 1026 0, .ptr 1027 0, .ptr 1028 0]
theorem rcBad_I (g : FuncId) (h : at' < 0 \/ (b.length : Int) < at') : Con Tryz.prog 102 raI (rbI b at' g (.p (I 0)) at') (.pan (.iface 143 (.int .i64 1)) (rbI b at' g (.p (I 0)) at')) := by
 have e1 := give_con 1 (by decide)
 by_cases h1 : at' < 0
 ·refine wBodyG Tryz.tab Tryz.mixed Tryz.func102 rfl rfl Tryz.ntmps102 (by simp) (by simp) fun Q hr hn hp => ?_
  repeat' first | (refine CallE.pan e1 ?_) | (refine hK _ ?_; clear hK) | (refine hK _ _ ?_; clear hK) | (clear hK; refine hK _ ?_; clear hK) | (clear hK; clear hK; refine hK _ ?_; clear hK) | (clear hK; clear hK; clear hK; refine hK _ ?_; clear hK) | (clear hK; clear hK; clear hK; clear hK; refine hK _ ?_; clear hK) | (refine wSeq fun K hK => ?_) | ((first | refine wReg ?_ | refine wDrwQ rfl (by kernel_rfl) ?_ | refine wDrwI ?_ | refine wDrw (by kernel_rfl) ?_); simp only [List.map_cons, List.map_nil, strip]) | ((first | refine wIs fun K hK => ?_ | refine wOs fun K hK => ?_ | refine wQs fun K hK => ?_ | refine CallK_plain ?_ | refine CallQ_plain ?_ | refine CallR_plain ?_ | refine wCond ?_); simp [h1]) | (refine wIn ?_; refine And.intro (by kernel_rfl) ?_; try simp only [thenA_n]) | (first | refine wBlock ?_ | refine wScope ?_) | ((first | refine wRet ?_ | refine wExit ?_ | refine wSkip ?_); try simp) | ((first | refine wLabel ?_ | refine wOn ?_ | refine wQn ?_); try simp only [thenA_n])
  all_goals try simp only [thenA_p, blockA_p]
  all_goals apply hp
  all_goals simp [AResP, outB, renB, gaN]
 ·have h2 : (b.length : Int) < at' := by omega
  refine wBodyG Tryz.tab Tryz.mixed Tryz.func102 rfl rfl Tryz.ntmps102 (by simp) (by simp) fun Q hr hn hp => ?_
  repeat' first | (refine CallE.pan e1 ?_) | (refine hK _ ?_; clear hK) | (refine hK _ _ ?_; clear hK) | (clear hK; refine hK _ ?_; clear hK) | (clear hK; clear hK; refine hK _ ?_; clear hK) | (clear hK; clear hK; clear hK; refine hK _ ?_; clear hK) | (clear hK; clear hK; clear hK; clear hK; refine hK _ ?_; clear hK) | (refine wSeq fun K hK => ?_) | ((first | refine wReg ?_ | refine wDrwQ rfl (by kernel_rfl) ?_ | refine wDrwI ?_ | refine wDrw (by kernel_rfl) ?_); simp only [List.map_cons, List.map_nil, strip]) | ((first | refine wIs fun K hK => ?_ | refine wOs fun K hK => ?_ | refine wQs fun K hK => ?_ | refine CallK_plain ?_ | refine CallQ_plain ?_ | refine CallR_plain ?_ | refine wCond ?_); simp [h1, h2]) | (refine wIn ?_; refine And.intro (by kernel_rfl) ?_; try simp only [thenA_n]) | (first | refine wBlock ?_ | refine wScope ?_) | ((first | refine wRet ?_ | refine wExit ?_ | refine wSkip ?_); try simp) | ((first | refine wLabel ?_ | refine wOn ?_ | refine wQn ?_); try simp only [thenA_n])
  all_goals try simp only [thenA_p, blockA_p]
  all_goals apply hp
  all_goals simp [AResP, outB, renB, gaN]
theorem rcOk_I (h : ¬ at' < 0 /\ ¬ (b.length : Int) < at') (q : Int) (hX : ∃ n, X = I n)
 (hc : Con Tryz.prog 82 [.ptr 1024 0] [.box 121 [.p (.sl 1 (by8 b)), .p (I at')]] (.ret (.p X) [] [.box 121 [.p (.sl 1 (by8 b)), .p (I q)]])) :
 Con Tryz.prog 102 raI (rbI b at' 82 (.p (I 0)) at') (.ret (.tup []) [] (rbI b at' 82 (.p X) q)) := by
 obtain ⟨xn, rfl⟩ := hX
 obtain ⟨h1, h2⟩ := h
 refine wBodyG Tryz.tab Tryz.mixed Tryz.func102 rfl rfl Tryz.ntmps102 (by simp) (by simp) fun Q hr hn hp => ?_
 repeat' first | (refine CallK_gen [1029] hc (by decide) (by decide) (by simp [blksOf, inN, pos, renB, ren0]) (by simp [argsG, argG, ren0, inN, pos, renCs, renC]) ⟨[], by simp, by simp, ?_⟩; simp [lv, ouN, kpI, kpR, pos, ren, ren0, renB, renC, renCs]) | (refine hK _ ?_; clear hK) | (refine hK _ _ ?_; clear hK) | (clear hK; refine hK _ ?_; clear hK) | (clear hK; clear hK; refine hK _ ?_; clear hK) | (clear hK; clear hK; clear hK; refine hK _ ?_; clear hK) | (clear hK; clear hK; clear hK; clear hK; refine hK _ ?_; clear hK) | (refine wSeq fun K hK => ?_) | ((first | refine wReg ?_ | refine wDrwQ rfl (by kernel_rfl) ?_ | refine wDrwI ?_ | refine wDrw (by kernel_rfl) ?_); simp only [List.map_cons, List.map_nil, strip]) | ((first | refine wIs fun K hK => ?_ | refine wOs fun K hK => ?_ | refine wQs fun K hK => ?_ | refine CallK_plain ?_ | refine CallQ_plain ?_ | refine CallR_plain ?_ | refine wCond ?_); simp [h1, h2, lv, ouN, kpI, kpR, pos, ren, ren0, renB, renC, renCs]) | (refine wIn ?_; refine And.intro (by kernel_rfl) ?_; try simp only [thenA_n]) | (first | refine wBlock ?_ | refine wScope ?_) | ((first | refine wRet ?_ | refine wExit ?_ | refine wSkip ?_); try simp) | ((first | refine wLabel ?_ | refine wOn ?_ | refine wQn ?_); try simp only [thenA_n])
 all_goals first | apply hr | apply hn
 all_goals refine ⟨[], by simp, by simp, ?_⟩
 all_goals simp [Tryz.f102, outR, outB, renB, gaN, lv, ouN, kpI, kpR, pos, ren, ren0, renC, renCs]
theorem rcPan_I (h : ¬ at' < 0 /\ ¬ (b.length : Int) < at') (q e : Int)
 (hc : Con Tryz.prog 82 [.ptr 1024 0] [.box 121 [.p (.sl 1 (by8 b)), .p (I at')]] (.pan (.iface 143 (.int .i64 e)) [.box 121 [.p (.sl 1 (by8 b)), .p (I q)]])) :
 Con Tryz.prog 102 raI (rbI b at' 82 (.p (I 0)) at') (.pan (.iface 143 (.int .i64 e)) (rbI b at' 82 (.p (I 0)) q)) := by
 obtain ⟨h1, h2⟩ := h
 refine wBodyG Tryz.tab Tryz.mixed Tryz.func102 rfl rfl Tryz.ntmps102 (by simp) (by simp) fun Q hr hn hp => ?_
 repeat' first | (refine CallK_gen [1029] hc (by decide) (by decide) (by simp [blksOf, inN, pos, renB, ren0]) (by simp [argsG, argG, ren0, inN, pos, renCs, renC]) ?_; simp [GenK, lv, ouN, kpI, kpR, pos, ren, ren0, renB, renC, renCs]) | (refine hK _ ?_; clear hK) | (refine hK _ _ ?_; clear hK) | (clear hK; refine hK _ ?_; clear hK) | (clear hK; clear hK; refine hK _ ?_; clear hK) | (clear hK; clear hK; clear hK; refine hK _ ?_; clear hK) | (clear hK; clear hK; clear hK; clear hK; refine hK _ ?_; clear hK) | (refine wSeq fun K hK => ?_) | ((first | refine wReg ?_ | refine wDrwQ rfl (by kernel_rfl) ?_ | refine wDrwI ?_ | refine wDrw (by kernel_rfl) ?_); simp only [List.map_cons, List.map_nil, strip]) | ((first | refine wIs fun K hK => ?_ | refine wOs fun K hK => ?_ | refine wQs fun K hK => ?_ | refine CallK_plain ?_ | refine CallQ_plain ?_ | refine CallR_plain ?_ | refine wCond ?_); simp [h1, h2, lv, ouN, kpI, kpR, pos, ren, ren0, renB, renC, renCs]) | (refine wIn ?_; refine And.intro (by kernel_rfl) ?_; try simp only [thenA_n]) | (first | refine wBlock ?_ | refine wScope ?_) | ((first | refine wRet ?_ | refine wExit ?_ | refine wSkip ?_); try simp) | ((first | refine wLabel ?_ | refine wOn ?_ | refine wQn ?_); try simp only [thenA_n])
 all_goals try simp only [thenA_p, blockA_p]
 all_goals apply hp
 all_goals simp [AResP, outB, renB, gaN, lv, ouN, kpI, kpR, pos, ren, ren0, renC, renCs]
end
set_option maxHeartbeats 4000000 in
theorem read0_I (b : List UInt8) (at' : Int) (g : FuncId) (X : PV) (q : Int) (hX : ∃ n, X = I n) (out : Out) (ho : errOf out = some (0, rbI b at' g (.p X) q))
 (hc : Con Tryz.prog 102 raI (rbI b at' g (.p (I 0)) at') out) :
 ACon Tryz.prog 95 [.p (.sl 1 (by8 b)), .p (I at'), .p (.v (.func (.func g) #[] #[]))] (.tup [.p X, .p (I q), .p (I 0)]) := by
 obtain ⟨xn, rfl⟩ := hX
 have he0 : ByteArray.empty = bs [] := rfl
 have ct := try_con (caps := [.box 1024, .box 1025, .box 1026, .box 1027, .box 1028]) hc ho
 refine wBody Tryz.tab Tryz.mixed Tryz.func95 rfl rfl Tryz.ntmps95 (by simp) (by simp) fun Q hr hn => ?_
 repeat' first | (refine CallK_gen [4, 3, 5, 11, 9, 16] ct (by decide) (by decide) (by simp [blksOf, inN, pos, renB, ren0, he0]) (by simp [argsG, argG, ren0, inN, pos, renCs, renC]) ⟨[], by simp, by simp, ?_⟩; simp [lv, ouN, kpI, kpR, pos, ren, ren0, renB, renC, renCs]) | (refine hK _ ?_; clear hK) | (refine hK _ _ ?_; clear hK) | (clear hK; refine hK _ ?_; clear hK) | (clear hK; clear hK; refine hK _ ?_; clear hK) | (clear hK; clear hK; clear hK; refine hK _ ?_; clear hK) | (clear hK; clear hK; clear hK; clear hK; refine hK _ ?_; clear hK) | (refine wSeq fun K hK => ?_) | ((first | refine wReg ?_ | refine wDrwQ rfl (by kernel_rfl) ?_ | refine wDrwI ?_ | refine wDrw (by kernel_rfl) ?_); simp only [List.map_cons, List.map_nil, strip]) | ((first | refine wIs fun K hK => ?_ | refine wOs fun K hK => ?_ | refine wQs fun K hK => ?_ | refine CallK_plain ?_ | refine CallQ_plain ?_ | refine CallR_plain ?_ | refine wCond ?_); simp [lv, ouN, kpI, kpR, pos, ren, ren0, renB, renC, renCs]) | (refine wIn ?_; refine And.intro (by kernel_rfl) ?_; try simp only [thenA_n]) | (first | refine wBlock ?_ | refine wScope ?_) | ((first | refine wRet ?_ | refine wExit ?_ | refine wSkip ?_); try simp) | ((first | refine wLabel ?_ | refine wOn ?_ | refine wQn ?_); try simp only [thenA_n])
 all_goals apply hr
 all_goals simp [Tryz.f95]
set_option maxHeartbeats 4000000 in
theorem readE_I (b : List UInt8) (at' : Int) (g : FuncId) (q e : Int) (out : Out) (ho : errOf out = some (e, rbI b at' g (.p (I 0)) q)) (h0 : ¬ e = 0)
 (hc : Con Tryz.prog 102 raI (rbI b at' g (.p (I 0)) at') out) :
 ACon Tryz.prog 95 [.p (.sl 1 (by8 b)), .p (I at'), .p (.v (.func (.func g) #[] #[]))] (.tup [.p (I 0), .p (I 0), .p (I e)]) := by
 have he0 : ByteArray.empty = bs [] := rfl
 have ct := try_con (caps := [.box 1024, .box 1025, .box 1026, .box 1027, .box 1028]) hc ho
 refine wBody Tryz.tab Tryz.mixed Tryz.func95 rfl rfl Tryz.ntmps95 (by simp) (by simp) fun Q hr hn => ?_
 repeat' first | (refine CallK_gen [4, 3, 5, 11, 9, 16] ct (by decide) (by decide) (by simp [blksOf, inN, pos, renB, ren0, he0]) (by simp [argsG, argG, ren0, inN, pos, renCs, renC]) ⟨[], by simp, by simp, ?_⟩; simp [lv, ouN, kpI, kpR, pos, ren, ren0, renB, renC, renCs]) | (refine hK _ ?_; clear hK) | (refine hK _ _ ?_; clear hK) | (clear hK; refine hK _ ?_; clear hK) | (clear hK; clear hK; refine hK _ ?_; clear hK) | (clear hK; clear hK; clear hK; refine hK _ ?_; clear hK) | (clear hK; clear hK; clear hK; clear hK; refine hK _ ?_; clear hK) | (refine wSeq fun K hK => ?_) | ((first | refine wReg ?_ | refine wDrwQ rfl (by kernel_rfl) ?_ | refine wDrwI ?_ | refine wDrw (by kernel_rfl) ?_); simp only [List.map_cons, List.map_nil, strip]) | ((first | refine wIs fun K hK => ?_ | refine wOs fun K hK => ?_ | refine wQs fun K hK => ?_ | refine CallK_plain ?_ | refine CallQ_plain ?_ | refine CallR_plain ?_ | refine wCond ?_); simp [h0, lv, ouN, kpI, kpR, pos, ren, ren0, renB, renC, renCs]) | (refine wIn ?_; refine And.intro (by kernel_rfl) ?_; try simp only [thenA_n]) | (first | refine wBlock ?_ | refine wScope ?_) | ((first | refine wRet ?_ | refine wExit ?_ | refine wSkip ?_); try simp) | ((first | refine wLabel ?_ | refine wOn ?_ | refine wQn ?_); try simp only [thenA_n])
 all_goals apply hr
 all_goals simp [Tryz.f95, he0]
section
variable (b : List UInt8) (at' : Int) (X : PV)
abbrev rbS (g : FuncId) (x : V) (q : Int) : List Blk := [.box 3 [.p (I at')], .box 55 [.p (.sl 1 (by8 b))], .box 161 [.p (.v (.func (.func g) #[] #[]))], .box 101 [.ptr 1029 0], .box 9 [x], .box 121 [.p (.sl 1 (by8 b)), .p (I q)]]
abbrev raS : List V := [.ptr 1024 0, .ptr 1025 0, .ptr 1026 0, .ptr 1027 0, .ptr 1028 0]
theorem rcBad_S (g : FuncId) (h : at' < 0 \/ (b.length : Int) < at') : Con Tryz.prog 103 raS (rbS b at' g (.p (SB [])) at') (.pan (.iface 143 (.int .i64 1)) (rbS b at' g (.p (SB [])) at')) := by
 have e1 := give_con 1 (by decide)
 by_cases h1 : at' < 0
 ·refine wBodyG Tryz.tab Tryz.mixed Tryz.func103 rfl rfl Tryz.ntmps103 (by simp) (by simp) fun Q hr hn hp => ?_
  repeat' first | (refine CallE.pan e1 ?_) | (refine hK _ ?_; clear hK) | (refine hK _ _ ?_; clear hK) | (clear hK; refine hK _ ?_; clear hK) | (clear hK; clear hK; refine hK _ ?_; clear hK) | (clear hK; clear hK; clear hK; refine hK _ ?_; clear hK) | (clear hK; clear hK; clear hK; clear hK; refine hK _ ?_; clear hK) | (refine wSeq fun K hK => ?_) | ((first | refine wReg ?_ | refine wDrwQ rfl (by kernel_rfl) ?_ | refine wDrwI ?_ | refine wDrw (by kernel_rfl) ?_); simp only [List.map_cons, List.map_nil, strip]) | ((first | refine wIs fun K hK => ?_ | refine wOs fun K hK => ?_ | refine wQs fun K hK => ?_ | refine CallK_plain ?_ | refine CallQ_plain ?_ | refine CallR_plain ?_ | refine wCond ?_); simp [h1]) | (refine wIn ?_; refine And.intro (by kernel_rfl) ?_; try simp only [thenA_n]) | (first | refine wBlock ?_ | refine wScope ?_) | ((first | refine wRet ?_ | refine wExit ?_ | refine wSkip ?_); try simp) | ((first | refine wLabel ?_ | refine wOn ?_ | refine wQn ?_); try simp only [thenA_n])
  all_goals try simp only [thenA_p, blockA_p]
  all_goals apply hp
  all_goals simp [AResP, outB, renB, gaN]
 ·have h2 : (b.length : Int) < at' := by omega
  refine wBodyG Tryz.tab Tryz.mixed Tryz.func103 rfl rfl Tryz.ntmps103 (by simp) (by simp) fun Q hr hn hp => ?_
  repeat' first | (refine CallE.pan e1 ?_) | (refine hK _ ?_; clear hK) | (refine hK _ _ ?_; clear hK) | (clear hK; refine hK _ ?_; clear hK) | (clear hK; clear hK; refine hK _ ?_; clear hK) | (clear hK; clear hK; clear hK; refine hK _ ?_; clear hK) | (clear hK; clear hK; clear hK; clear hK; refine hK _ ?_; clear hK) | (refine wSeq fun K hK => ?_) | ((first | refine wReg ?_ | refine wDrwQ rfl (by kernel_rfl) ?_ | refine wDrwI ?_ | refine wDrw (by kernel_rfl) ?_); simp only [List.map_cons, List.map_nil, strip]) | ((first | refine wIs fun K hK => ?_ | refine wOs fun K hK => ?_ | refine wQs fun K hK => ?_ | refine CallK_plain ?_ | refine CallQ_plain ?_ | refine CallR_plain ?_ | refine wCond ?_); simp [h1, h2]) | (refine wIn ?_; refine And.intro (by kernel_rfl) ?_; try simp only [thenA_n]) | (first | refine wBlock ?_ | refine wScope ?_) | ((first | refine wRet ?_ | refine wExit ?_ | refine wSkip ?_); try simp) | ((first | refine wLabel ?_ | refine wOn ?_ | refine wQn ?_); try simp only [thenA_n])
  all_goals try simp only [thenA_p, blockA_p]
  all_goals apply hp
  all_goals simp [AResP, outB, renB, gaN]
theorem rcOk_S (h : ¬ at' < 0 /\ ¬ (b.length : Int) < at') (q : Int) (hX : ∃ n, X = SB n)
 (hc : Con Tryz.prog 97 [.ptr 1024 0] [.box 121 [.p (.sl 1 (by8 b)), .p (I at')]] (.ret (.p X) [] [.box 121 [.p (.sl 1 (by8 b)), .p (I q)]])) :
 Con Tryz.prog 103 raS (rbS b at' 97 (.p (SB [])) at') (.ret (.tup []) [] (rbS b at' 97 (.p X) q)) := by
 obtain ⟨xn, rfl⟩ := hX
 obtain ⟨h1, h2⟩ := h
 refine wBodyG Tryz.tab Tryz.mixed Tryz.func103 rfl rfl Tryz.ntmps103 (by simp) (by simp) fun Q hr hn hp => ?_
 repeat' first | (refine CallK_gen [1029] hc (by decide) (by decide) (by simp [blksOf, inN, pos, renB, ren0]) (by simp [argsG, argG, ren0, inN, pos, renCs, renC]) ⟨[], by simp, by simp, ?_⟩; simp [lv, ouN, kpI, kpR, pos, ren, ren0, renB, renC, renCs]) | (refine hK _ ?_; clear hK) | (refine hK _ _ ?_; clear hK) | (clear hK; refine hK _ ?_; clear hK) | (clear hK; clear hK; refine hK _ ?_; clear hK) | (clear hK; clear hK; clear hK; refine hK _ ?_; clear hK) | (clear hK; clear hK; clear hK; clear hK; refine hK _ ?_; clear hK) | (refine wSeq fun K hK => ?_) | ((first | refine wReg ?_ | refine wDrwQ rfl (by kernel_rfl) ?_ | refine wDrwI ?_ | refine wDrw (by kernel_rfl) ?_); simp only [List.map_cons, List.map_nil, strip]) | ((first | refine wIs fun K hK => ?_ | refine wOs fun K hK => ?_ | refine wQs fun K hK => ?_ | refine CallK_plain ?_ | refine CallQ_plain ?_ | refine CallR_plain ?_ | refine wCond ?_); simp [h1, h2, lv, ouN, kpI, kpR, pos, ren, ren0, renB, renC, renCs]) | (refine wIn ?_; refine And.intro (by kernel_rfl) ?_; try simp only [thenA_n]) | (first | refine wBlock ?_ | refine wScope ?_) | ((first | refine wRet ?_ | refine wExit ?_ | refine wSkip ?_); try simp) | ((first | refine wLabel ?_ | refine wOn ?_ | refine wQn ?_); try simp only [thenA_n])
 all_goals first | apply hr | apply hn
 all_goals refine ⟨[], by simp, by simp, ?_⟩
 all_goals simp [Tryz.f103, outR, outB, renB, gaN, lv, ouN, kpI, kpR, pos, ren, ren0, renC, renCs]
theorem rcPan_S (h : ¬ at' < 0 /\ ¬ (b.length : Int) < at') (q e : Int)
 (hc : Con Tryz.prog 97 [.ptr 1024 0] [.box 121 [.p (.sl 1 (by8 b)), .p (I at')]] (.pan (.iface 143 (.int .i64 e)) [.box 121 [.p (.sl 1 (by8 b)), .p (I q)]])) :
 Con Tryz.prog 103 raS (rbS b at' 97 (.p (SB [])) at') (.pan (.iface 143 (.int .i64 e)) (rbS b at' 97 (.p (SB [])) q)) := by
 obtain ⟨h1, h2⟩ := h
 refine wBodyG Tryz.tab Tryz.mixed Tryz.func103 rfl rfl Tryz.ntmps103 (by simp) (by simp) fun Q hr hn hp => ?_
 repeat' first | (refine CallK_gen [1029] hc (by decide) (by decide) (by simp [blksOf, inN, pos, renB, ren0]) (by simp [argsG, argG, ren0, inN, pos, renCs, renC]) ?_; simp [GenK, lv, ouN, kpI, kpR, pos, ren, ren0, renB, renC, renCs]) | (refine hK _ ?_; clear hK) | (refine hK _ _ ?_; clear hK) | (clear hK; refine hK _ ?_; clear hK) | (clear hK; clear hK; refine hK _ ?_; clear hK) | (clear hK; clear hK; clear hK; refine hK _ ?_; clear hK) | (clear hK; clear hK; clear hK; clear hK; refine hK _ ?_; clear hK) | (refine wSeq fun K hK => ?_) | ((first | refine wReg ?_ | refine wDrwQ rfl (by kernel_rfl) ?_ | refine wDrwI ?_ | refine wDrw (by kernel_rfl) ?_); simp only [List.map_cons, List.map_nil, strip]) | ((first | refine wIs fun K hK => ?_ | refine wOs fun K hK => ?_ | refine wQs fun K hK => ?_ | refine CallK_plain ?_ | refine CallQ_plain ?_ | refine CallR_plain ?_ | refine wCond ?_); simp [h1, h2, lv, ouN, kpI, kpR, pos, ren, ren0, renB, renC, renCs]) | (refine wIn ?_; refine And.intro (by kernel_rfl) ?_; try simp only [thenA_n]) | (first | refine wBlock ?_ | refine wScope ?_) | ((first | refine wRet ?_ | refine wExit ?_ | refine wSkip ?_); try simp) | ((first | refine wLabel ?_ | refine wOn ?_ | refine wQn ?_); try simp only [thenA_n])
 all_goals try simp only [thenA_p, blockA_p]
 all_goals apply hp
 all_goals simp [AResP, outB, renB, gaN, lv, ouN, kpI, kpR, pos, ren, ren0, renC, renCs]
end
set_option maxHeartbeats 4000000 in
theorem read0_S (b : List UInt8) (at' : Int) (g : FuncId) (X : PV) (q : Int) (hX : ∃ n, X = SB n) (out : Out) (ho : errOf out = some (0, rbS b at' g (.p X) q))
 (hc : Con Tryz.prog 103 raS (rbS b at' g (.p (SB [])) at') out) :
 ACon Tryz.prog 96 [.p (.sl 1 (by8 b)), .p (I at'), .p (.v (.func (.func g) #[] #[]))] (.tup [.p X, .p (I q), .p (I 0)]) := by
 obtain ⟨xn, rfl⟩ := hX
 have he0 : ByteArray.empty = bs [] := rfl
 have ct := try_con (caps := [.box 1024, .box 1025, .box 1026, .box 1027, .box 1028]) hc ho
 refine wBody Tryz.tab Tryz.mixed Tryz.func96 rfl rfl Tryz.ntmps96 (by simp) (by simp) fun Q hr hn => ?_
 repeat' first | (refine CallK_gen [4, 3, 5, 11, 9, 16] ct (by decide) (by decide) (by simp [blksOf, inN, pos, renB, ren0, he0]) (by simp [argsG, argG, ren0, inN, pos, renCs, renC]) ⟨[], by simp, by simp, ?_⟩; simp [lv, ouN, kpI, kpR, pos, ren, ren0, renB, renC, renCs]) | (refine hK _ ?_; clear hK) | (refine hK _ _ ?_; clear hK) | (clear hK; refine hK _ ?_; clear hK) | (clear hK; clear hK; refine hK _ ?_; clear hK) | (clear hK; clear hK; clear hK; refine hK _ ?_; clear hK) | (clear hK; clear hK; clear hK; clear hK; refine hK _ ?_; clear hK) | (refine wSeq fun K hK => ?_) | ((first | refine wReg ?_ | refine wDrwQ rfl (by kernel_rfl) ?_ | refine wDrwI ?_ | refine wDrw (by kernel_rfl) ?_); simp only [List.map_cons, List.map_nil, strip]) | ((first | refine wIs fun K hK => ?_ | refine wOs fun K hK => ?_ | refine wQs fun K hK => ?_ | refine CallK_plain ?_ | refine CallQ_plain ?_ | refine CallR_plain ?_ | refine wCond ?_); simp [lv, ouN, kpI, kpR, pos, ren, ren0, renB, renC, renCs]) | (refine wIn ?_; refine And.intro (by kernel_rfl) ?_; try simp only [thenA_n]) | (first | refine wBlock ?_ | refine wScope ?_) | ((first | refine wRet ?_ | refine wExit ?_ | refine wSkip ?_); try simp) | ((first | refine wLabel ?_ | refine wOn ?_ | refine wQn ?_); try simp only [thenA_n])
 all_goals apply hr
 all_goals simp [Tryz.f96]
set_option maxHeartbeats 4000000 in
theorem readE_S (b : List UInt8) (at' : Int) (g : FuncId) (q e : Int) (out : Out) (ho : errOf out = some (e, rbS b at' g (.p (SB [])) q)) (h0 : ¬ e = 0)
 (hc : Con Tryz.prog 103 raS (rbS b at' g (.p (SB [])) at') out) :
 ACon Tryz.prog 96 [.p (.sl 1 (by8 b)), .p (I at'), .p (.v (.func (.func g) #[] #[]))] (.tup [.p (SB []), .p (I 0), .p (I e)]) := by
 have he0 : ByteArray.empty = bs [] := rfl
 have ct := try_con (caps := [.box 1024, .box 1025, .box 1026, .box 1027, .box 1028]) hc ho
 refine wBody Tryz.tab Tryz.mixed Tryz.func96 rfl rfl Tryz.ntmps96 (by simp) (by simp) fun Q hr hn => ?_
 repeat' first | (refine CallK_gen [4, 3, 5, 11, 9, 16] ct (by decide) (by decide) (by simp [blksOf, inN, pos, renB, ren0, he0]) (by simp [argsG, argG, ren0, inN, pos, renCs, renC]) ⟨[], by simp, by simp, ?_⟩; simp [lv, ouN, kpI, kpR, pos, ren, ren0, renB, renC, renCs]) | (refine hK _ ?_; clear hK) | (refine hK _ _ ?_; clear hK) | (clear hK; refine hK _ ?_; clear hK) | (clear hK; clear hK; refine hK _ ?_; clear hK) | (clear hK; clear hK; clear hK; refine hK _ ?_; clear hK) | (clear hK; clear hK; clear hK; clear hK; refine hK _ ?_; clear hK) | (refine wSeq fun K hK => ?_) | ((first | refine wReg ?_ | refine wDrwQ rfl (by kernel_rfl) ?_ | refine wDrwI ?_ | refine wDrw (by kernel_rfl) ?_); simp only [List.map_cons, List.map_nil, strip]) | ((first | refine wIs fun K hK => ?_ | refine wOs fun K hK => ?_ | refine wQs fun K hK => ?_ | refine CallK_plain ?_ | refine CallQ_plain ?_ | refine CallR_plain ?_ | refine wCond ?_); simp [h0, lv, ouN, kpI, kpR, pos, ren, ren0, renB, renC, renCs]) | (refine wIn ?_; refine And.intro (by kernel_rfl) ?_; try simp only [thenA_n]) | (first | refine wBlock ?_ | refine wScope ?_) | ((first | refine wRet ?_ | refine wExit ?_ | refine wSkip ?_); try simp) | ((first | refine wLabel ?_ | refine wOn ?_ | refine wQn ?_); try simp only [thenA_n])
 all_goals apply hr
 all_goals simp [Tryz.f96, he0]
end Go.Proofs.YtbeofcbehhljdaaGreatDoor
