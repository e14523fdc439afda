/- Disks: crashed. -/
import Derived.Test.YtijjfiebmdejaaaDK5
namespace Go.Proofs.Ytijjfiebmdejaaa
set_option linter.unusedSimpArgs false
set_option linter.unusedVariables false
open Go Go.Av
attribute [local simp] Try.T1 Try.T2 Try.T3 Try.T4 Try.T5 Try.T9 Try.T12 Try.T15 Try.T16 Try.T17 Try.T21 Try.T22 Try.T23 Try.T24 Try.T25 Try.T27 Try.T28 Try.T29 Try.T30 Try.T32 Try.T33 Try.T35 Try.T37 Try.T38 Try.T39 Try.T40 Try.T41 Try.T42 Try.T43 Try.T44 Try.T45 Try.T47 Try.T48 Try.T49 Try.T50 Try.T51 Try.T52 Try.T53 Try.T55 Try.T56 Try.T57 Try.T58 Try.T59 Try.T60 Try.T61 Try.T62 Try.T63 Try.T64 Try.T65 Try.T66 Try.T67 Try.T69 Try.T71 Try.T72 Try.T73 Try.T74 Try.T75 Try.T78 Try.T81 Try.T82 Try.T85 Try.T86
attribute [local irreducible] Go.Av.CallK Go.Av.CallE Go.Av.CallQ Go.Av.CallF Go.Av.CallR Go.Av.CallH Go.Av.Con
def ints (l : List Int) : List (List PV) := l.map fun n => [I n]
@[simp] theorem ints_len (l : List Int) : (ints l).length = l.length := by simp [ints]
@[simp] theorem ints_getElem (l : List Int) (k : Nat) (h : k < (ints l).length) : (ints l)[k] = [I (l[k]'(by simpa using h))] := by simp [ints]
theorem ints_get {l : List Int} {k : Nat} (h : k < l.length) : (ints l)[k]? = some [I l[k]] := by simp [ints, h]
theorem joinedX_con (X : List (List PV)) (hl : X.length ≤ 100000000) : ACon Try.prog 37 [.p (.sl 1 X), .p (.sl 1 [])] (.p (.sl 1 X)) := by
  have c := (joinedG_con X [] (by simpa using hl)).toPure
  rw [List.append_nil] at c
  exact c
/-- What a file keeps of what is not sure. -/
def crS (f : Fl) (k : Int) : Int := if 0 < k then min (max f.s 0) f.d.length + min k (f.d.length - min (max f.s 0) f.d.length) else min (max f.s 0) f.d.length
def crF (f : Fl) (k : Int) : Fl := ⟨f.n, f.d.take (crS f k).toNat, crS f k⟩
theorem crS_le (f : Fl) (k : Int) : 0 ≤ crS f k ∧ crS f k ≤ f.d.length := by unfold crS; split <;> omega
def crL (l : List Fl) (ks : List Int) : List Fl := l.mapIdx fun i f => crF f (ks.getD i 0)
@[simp] theorem crL_len (l : List Fl) (ks : List Int) : (crL l ks).length = l.length := by simp [crL]
theorem crL_get {l : List Fl} {ks : List Int} {k : Nat} (h : k < l.length) : (crL l ks)[k]'(by simpa using h) = crF l[k] (ks.getD k 0) := by simp [crL]
def crsh (d : Dk) (ks : List Int) : Dk := ⟨crL d.fs ks, d.cap, 0, true⟩
/-- The list under way. -/
def crT (l : List Fl) (ks : List Int) (k : Nat) : List Fl := (crL l ks).take k ++ l.drop k
theorem crT_len (l : List Fl) (ks : List Int) (k : Nat) (h : k ≤ l.length) : (crT l ks k).length = l.length := by simp [crT]; omega
theorem crT_get {l : List Fl} {ks : List Int} {k : Nat} (h : k < l.length) : (crT l ks k)[k]'(by rw [crT_len _ _ _ (by omega)]; exact h) = l[k] := by
  simp only [crT]
  rw [List.getElem_append_right (by simp; omega)]
  simp [Nat.min_eq_left (Nat.le_of_lt h)]
theorem crT_set {l : List Fl} {ks : List Int} {k : Nat} (h : k < l.length) : (crT l ks k).set k (crF l[k] (ks.getD k 0)) = crT l ks (k + 1) := by
  have e : k - ((crL l ks).take k).length = 0 := by simp; omega
  unfold crT
  rw [List.set_append_right _ _ (by simp; omega), e, List.drop_eq_getElem_cons h, List.set_cons_zero, List.take_succ_eq_append_getElem (by simpa using h), crL_get h, List.append_assoc]
  rfl
set_option maxHeartbeats 8000000 in
theorem crash_con (d : Dk) (ks : List Int) (hk : OkD d) (hks : ks.length ≤ 1000000) : ACon Try.prog 21 [.p (.agg d.cells), .p (.sl 1 (ints ks))] (.p (.agg (crsh d ks).cells)) := by
  have c1 := own13_con d hk
  have hkd := hk.d
  have hkn := hk.n
  unfold crsh
  obtain ⟨fs, cap, fuse, dn⟩ := d
  unfold Dk.cells at c1 ⊢
  dsimp only at c1 hkd hkn ⊢
  refine wBody Try.tab Try.mixed Try.func21 rfl rfl Try.ntmps21 (by simp) (by simp) fun Q hr hn => ?_
  repeat' first | (refine CallK_gen [] (c1) (by decide) (by decide) (by simp [blksOf]) (by simp [argsG, argG, ren0, inN, pos, renCs, renC, toP, toPF]) ⟨[500], by simp, by simp, ?_⟩; simp [lv, ouN, kpI, kpR, pos, ren, ren0, renB, renC, renCs, renF, renFs]) | (refine hK _ ?_; clear hK) | (refine hK _ _ ?_; clear hK) | (clear hK; refine hK _ ?_; clear hK) | (clear hK; clear hK; refine hK _ ?_; clear hK) | (clear hK; clear hK; clear hK; refine hK _ ?_; clear hK) | (clear hK; clear hK; clear hK; clear hK; refine hK _ ?_; clear hK) | (refine wSeq fun K hK => ?_) | ((first | refine wReg ?_ | refine wDrwQ rfl (by kernel_rfl) ?_ | refine wDrwI ?_ | refine wDrw (by kernel_rfl) ?_); simp only [List.map_cons, List.map_nil, strip]) | ((first | refine wIs fun K hK => ?_ | refine wOs fun K hK => ?_ | refine wQs fun K hK => ?_ | refine CallK_plain ?_ | refine CallQ_plain ?_ | refine CallR_plain ?_ | refine wCond ?_); simp [lv, ouN, kpI, kpR, pos, ren, ren0, renB, renC, renCs, renF, renFs]) | (refine wIn ?_; refine And.intro (by kernel_rfl) ?_; try simp only [thenA_n]) | (first | refine wBlock ?_ | refine wScope ?_) | ((first | refine wRet ?_ | refine wExit ?_ | refine wSkip ?_); try simp) | ((first | refine wLabel ?_ | refine wOn ?_ | refine wQn ?_); try simp only [thenA_n])
  refine wLoop (fun N st => ∃ k, k + N = fs.length ∧ st.s 1 = .p (.sl 1 (ints ks)) ∧ st.s 2 = .ptr 2 0 ∧ st.b 2 = some (.box 27 [.row 500, .p (I cap), .p (I 0), .p (B true)]) ∧ st.s 4 = .ptr 4 0 ∧ st.b 4 = some (.box 27 [.nil 3, .p (I 0), .p (I 0), .p (B false)]) ∧ st.b 500 = some (.row 47 3 (fls (crT fs ks k))) ∧ st.s 14 = .p (I fs.length) ∧ st.s 15 = .p (I k)) fs.length ⟨0, by simp [crT]⟩ fun K N st hL ⟨k, hk, g1, g2, b2, g4, b4, b500, g14, g15⟩ => ?_
  by_cases hlt : k < fs.length
  · have hlt' : (k : Int) < fs.length := by omega
    have hw := wrapS k _ hlt (by omega)
    have hlT := crT_len fs ks k (by omega)
    have hlt2 : k < (crT fs ks k).length := by omega
    have hgT := crT_get (ks := ks) hlt
    have hset := crT_set (ks := ks) hlt
    have hdl := hkd _ (List.getElem_mem hlt)
    have he := fls_get hlt2
    rw [hgT] at he
    have hst := fls_set (crT fs ks k) k (crF fs[k] (ks.getD k 0))
    rw [hset] at hst
    have hs := crS_le fs[k] (ks.getD k 0)
    have htk := by8_take fs[k].d (crS fs[k] (ks.getD k 0)).toNat
    have cj := joinedX_con (by8 (fs[k].d.take (crS fs[k] (ks.getD k 0)).toNat)) (by simp; omega)
    unfold crF at hst
    dsimp only at hst
    have hL2 : ∀ st : St, st.s 1 = .p (.sl 1 (ints ks)) → st.s 2 = .ptr 2 0 → st.b 2 = some (.box 27 [.row 500, .p (I cap), .p (I 0), .p (B true)]) → st.s 4 = .ptr 4 0 → st.b 4 = some (.box 27 [.nil 3, .p (I 0), .p (I 0), .p (B false)]) → st.b 500 = some (.row 47 3 (fls (crT fs ks (k + 1)))) → st.s 14 = .p (I fs.length) → st.s 15 = .p (I ((k + 1 : Nat) : Int)) → K st := fun st a1 a2 a3 a4 a5 a6 a7 a8 => hL st (N - 1) (by omega) ⟨k + 1, by omega, a1, a2, a3, a4, a5, a6, a7, a8⟩
    clear hL hset
    generalize hF : fs[k] = f at *
    have hdn : f.d.length < 9223372036854775808 := by omega
    obtain ⟨p, hp⟩ : ∃ p : Nat, (if f.s < 0 then (0 : Int) else f.s) = p := ⟨(if f.s < 0 then (0 : Int) else f.s).toNat, by split <;> omega⟩
    obtain ⟨a, ha⟩ : ∃ a : Nat, (if (f.d.length : Int) < p then (f.d.length : Int) else p) = a := ⟨(if (f.d.length : Int) < p then (f.d.length : Int) else p).toNat, by split <;> omega⟩
    have ha' : (if f.d.length < p then (f.d.length : Int) else (p : Int)) = a := by rw [← ha]; simp only [Int.ofNat_lt]
    have hA : min (max f.s 0) (f.d.length : Int) = a := by
      rw [← ha, ← hp]; split <;> split <;> omega
    have hal : a ≤ f.d.length := by omega
    by_cases hki : k < ks.length
    · have hki' : (k : Int) < ks.length := by omega
      have he2 := ints_get hki
      have hgd : ks.getD k 0 = ks[k] := by rw [List.getD_eq_getElem?_getD, List.getElem?_eq_getElem hki]; rfl
      rw [hgd] at hst hs htk cj
      generalize hQ : ks[k] = q at *
      by_cases hq : 0 < q
      · obtain ⟨r, hr'⟩ : ∃ r : Nat, (if (f.d.length : Int) - a < q then (f.d.length : Int) - a else q) = r := ⟨(if (f.d.length : Int) - a < q then (f.d.length : Int) - a else q).toNat, by split <;> omega⟩
        have hcr : crS f q = ((a + r : Nat) : Int) := by unfold crS; rw [if_pos hq, hA]; split at hr' <;> omega
        have hw1 : IntKind.i64.wrap ((f.d.length : Int) - a) = f.d.length - a := by rw [wrap_id] <;> omega
        have hw2 : IntKind.i64.wrap ((a : Int) + r) = ((a + r : Nat) : Int) := by rw [wrap_id] <;> (split at hr' <;> omega)
        rw [hcr] at hst hs htk cj
        generalize a + r = m at hst hs htk cj hw2
        have hml : m ≤ f.d.length := by omega
        have hml' : (m : Int) ≤ f.d.length := by omega
        simp only [Int.toNat_natCast] at hst htk cj
        repeat' first | (refine hK _ ?_; clear hK) | (refine hK _ _ ?_; clear hK) | (clear hK; refine hK _ ?_; clear hK) | (clear hK; clear hK; refine hK _ ?_; clear hK) | (clear hK; clear hK; clear hK; refine hK _ ?_; clear hK) | (clear hK; clear hK; clear hK; clear hK; refine hK _ ?_; clear hK) | (refine wSeq fun K hK => ?_) | ((first | refine wReg ?_ | refine wDrwQ rfl (by kernel_rfl) ?_ | refine wDrwI ?_ | refine wDrw (by kernel_rfl) ?_); simp only [List.map_cons, List.map_nil, strip]) | ((first | refine wIs fun K hK => ?_ | refine wOs fun K hK => ?_ | refine wQs fun K hK => ?_ | refine CallK_plain ?_ | refine CallQ_plain ?_ | refine CallR_plain ?_ | refine wCond ?_); simp [g1, g2, b2, g4, b4, b500, g14, g15, hlt, hlt', hlt2, hw, he, hdn, hgT, hml, hml', htk, hst, hp, ha, ha', hr', hw1, hw2, hq, hki, hki', he2, hQ]) | (refine wIn ?_; refine And.intro (by kernel_rfl) ?_; try simp only [thenA_n]) | (first | refine wBlock ?_ | refine wScope ?_) | ((first | refine wRet ?_ | refine wExit ?_ | refine wSkip ?_); try simp) | ((first | refine wLabel ?_ | refine wOn ?_ | refine wQn ?_); try simp only [thenA_n]) | (refine CallE.pure (cj) rfl ?_) | (refine CallE.lent (cj) rfl ?_) | (refine CallF.pure (cj) rfl ?_) | (refine CallF.lent (cj) rfl ?_) | (refine CallE.own (cj) ?_) | (refine CallH.pure (cj) rfl ?_) | (refine CallH.lent (cj) rfl ?_) | (refine CallH.own (cj) ?_)
        all_goals refine hL2 _ ?_ ?_ ?_ ?_ ?_ ?_ ?_ ?_
        all_goals simp [g1, g2, b2, g4, b4, b500, g14, g15, hw, hst]
      · have hcr : crS f q = a := by unfold crS; rw [if_neg hq, hA]
        rw [hcr] at hst hs htk cj
        have hml' : (a : Int) ≤ f.d.length := by omega
        simp only [Int.toNat_natCast] at hst htk cj
        repeat' first | (refine hK _ ?_; clear hK) | (refine hK _ _ ?_; clear hK) | (clear hK; refine hK _ ?_; clear hK) | (clear hK; clear hK; refine hK _ ?_; clear hK) | (clear hK; clear hK; clear hK; refine hK _ ?_; clear hK) | (clear hK; clear hK; clear hK; clear hK; refine hK _ ?_; clear hK) | (refine wSeq fun K hK => ?_) | ((first | refine wReg ?_ | refine wDrwQ rfl (by kernel_rfl) ?_ | refine wDrwI ?_ | refine wDrw (by kernel_rfl) ?_); simp only [List.map_cons, List.map_nil, strip]) | ((first | refine wIs fun K hK => ?_ | refine wOs fun K hK => ?_ | refine wQs fun K hK => ?_ | refine CallK_plain ?_ | refine CallQ_plain ?_ | refine CallR_plain ?_ | refine wCond ?_); simp [g1, g2, b2, g4, b4, b500, g14, g15, hlt, hlt', hlt2, hw, he, hdn, hgT, hal, hml', htk, hst, hp, ha, ha', hq, hki, hki', he2, hQ]) | (refine wIn ?_; refine And.intro (by kernel_rfl) ?_; try simp only [thenA_n]) | (first | refine wBlock ?_ | refine wScope ?_) | ((first | refine wRet ?_ | refine wExit ?_ | refine wSkip ?_); try simp) | ((first | refine wLabel ?_ | refine wOn ?_ | refine wQn ?_); try simp only [thenA_n]) | (refine CallE.pure (cj) rfl ?_) | (refine CallE.lent (cj) rfl ?_) | (refine CallF.pure (cj) rfl ?_) | (refine CallF.lent (cj) rfl ?_) | (refine CallE.own (cj) ?_) | (refine CallH.pure (cj) rfl ?_) | (refine CallH.lent (cj) rfl ?_) | (refine CallH.own (cj) ?_)
        all_goals refine hL2 _ ?_ ?_ ?_ ?_ ?_ ?_ ?_ ?_
        all_goals simp [g1, g2, b2, g4, b4, b500, g14, g15, hw, hst]
    · have hki' : ¬ (k : Int) < ks.length := by omega
      have hgd : ks.getD k 0 = 0 := by rw [List.getD_eq_getElem?_getD, List.getElem?_eq_none (by omega)]; rfl
      rw [hgd] at hst hs htk cj
      have hcr : crS f 0 = a := by unfold crS; rw [if_neg (by omega), hA]
      rw [hcr] at hst hs htk cj
      have hml' : (a : Int) ≤ f.d.length := by omega
      simp only [Int.toNat_natCast] at hst htk cj
      repeat' first | (refine hK _ ?_; clear hK) | (refine hK _ _ ?_; clear hK) | (clear hK; refine hK _ ?_; clear hK) | (clear hK; clear hK; refine hK _ ?_; clear hK) | (clear hK; clear hK; clear hK; refine hK _ ?_; clear hK) | (clear hK; clear hK; clear hK; clear hK; refine hK _ ?_; clear hK) | (refine wSeq fun K hK => ?_) | ((first | refine wReg ?_ | refine wDrwQ rfl (by kernel_rfl) ?_ | refine wDrwI ?_ | refine wDrw (by kernel_rfl) ?_); simp only [List.map_cons, List.map_nil, strip]) | ((first | refine wIs fun K hK => ?_ | refine wOs fun K hK => ?_ | refine wQs fun K hK => ?_ | refine CallK_plain ?_ | refine CallQ_plain ?_ | refine CallR_plain ?_ | refine wCond ?_); simp [g1, g2, b2, g4, b4, b500, g14, g15, hlt, hlt', hlt2, hw, he, hdn, hgT, hal, hml', htk, hst, hp, ha, ha', hki, hki']) | (refine wIn ?_; refine And.intro (by kernel_rfl) ?_; try simp only [thenA_n]) | (first | refine wBlock ?_ | refine wScope ?_) | ((first | refine wRet ?_ | refine wExit ?_ | refine wSkip ?_); try simp) | ((first | refine wLabel ?_ | refine wOn ?_ | refine wQn ?_); try simp only [thenA_n]) | (refine CallE.pure (cj) rfl ?_) | (refine CallE.lent (cj) rfl ?_) | (refine CallF.pure (cj) rfl ?_) | (refine CallF.lent (cj) rfl ?_) | (refine CallE.own (cj) ?_) | (refine CallH.pure (cj) rfl ?_) | (refine CallH.lent (cj) rfl ?_) | (refine CallH.own (cj) ?_)
      all_goals refine hL2 _ ?_ ?_ ?_ ?_ ?_ ?_ ?_ ?_
      all_goals simp [g1, g2, b2, g4, b4, b500, g14, g15, hw, hst]
  · have hlt' : ¬ (k : Int) < fs.length := by omega
    have e : crT fs ks k = crL fs ks := by
      unfold crT
      rw [List.take_of_length_le (by simp; omega), List.drop_of_length_le (by omega), List.append_nil]
    rw [e] at b500
    repeat' first | (refine hK _ ?_; clear hK) | (refine hK _ _ ?_; clear hK) | (clear hK; refine hK _ ?_; clear hK) | (clear hK; clear hK; refine hK _ ?_; clear hK) | (clear hK; clear hK; clear hK; refine hK _ ?_; clear hK) | (clear hK; clear hK; clear hK; clear hK; refine hK _ ?_; clear hK) | (refine wSeq fun K hK => ?_) | ((first | refine wReg ?_ | refine wDrwQ rfl (by kernel_rfl) ?_ | refine wDrwI ?_ | refine wDrw (by kernel_rfl) ?_); simp only [List.map_cons, List.map_nil, strip]) | ((first | refine wIs fun K hK => ?_ | refine wOs fun K hK => ?_ | refine wQs fun K hK => ?_ | refine CallK_plain ?_ | refine CallQ_plain ?_ | refine CallR_plain ?_ | refine wCond ?_); simp [g1, g2, b2, g4, b4, b500, g14, g15, hlt, hlt']) | (refine wIn ?_; refine And.intro (by kernel_rfl) ?_; try simp only [thenA_n]) | (first | refine wBlock ?_ | refine wScope ?_) | ((first | refine wRet ?_ | refine wExit ?_ | refine wSkip ?_); try simp) | ((first | refine wLabel ?_ | refine wOn ?_ | refine wQn ?_); try simp only [thenA_n])
    all_goals apply hr
    all_goals simp [Try.f21, g4, b4, b2, b500]
end Go.Proofs.Ytijjfiebmdejaaa
