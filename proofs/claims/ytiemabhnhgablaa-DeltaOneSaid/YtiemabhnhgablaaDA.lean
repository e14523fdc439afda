/- The change between two configs: the program's. -/
import Derived.Test.YtiemabhnhgablaaQI
import Derived.Test.YtiemabhnhgablaaAw06
namespace Go.Proofs.Ytiemabhnhgablaa
set_option linter.unusedSimpArgs false
set_option linter.unusedVariables false
open Go Go.Av
attribute [local simp] Try.T1 Try.T2 Try.T3 Try.T4 Try.T5 Try.T9 Try.T12 Try.T15 Try.T16 Try.T17 Try.T21 Try.T23 Try.T24 Try.T26 Try.T27 Try.T28 Try.T30 Try.T31 Try.T32 Try.T33 Try.T35 Try.T36 Try.T37 Try.T38 Try.T39 Try.T41 Try.T43 Try.T44 Try.T45 Try.T46 Try.T47 Try.T48 Try.T49 Try.T50 Try.T51 Try.T52 Try.T53 Try.T54 Try.T55 Try.T56 Try.T57 Try.T58 Try.T59 Try.T60 Try.T61 Try.T62 Try.T65 Try.T68 Try.T69 Try.T72 Try.T73
attribute [local irreducible] Go.Av.CallK Go.Av.CallE Go.Av.CallQ Go.Av.CallF Go.Av.CallR Go.Av.CallH Go.Av.Con

theorem Mb.ext4 {x y : Mb} : x = y ↔ x.i = y.i ∧ x.r = y.r ∧ x.w = y.w ∧ x.g = y.g := by cases x; cases y; simp
structure Dl where
  kind : Int
  put : List Mb
  drop : List Int
def Dl.cells (d : Dl) : List PV := [I d.kind, .sl 4 (mbs d.put), .sl 1 (ints d.drop)]
def newM (a : List Mb) (m : Mb) : Bool := decide (¬ fm m.i a = (m, true))
def dput (a b : List Mb) : List Mb := b.filter (newM a)
def hasI (b : List Mb) (id : Int) : Bool := b.any fun x => decide (x.i = id)
def ddrop (a b : List Mb) : List Int := (a.filter fun m => !hasI b m.i).map Mb.i
theorem dput_snoc (a b : List Mb) (k : Nat) (h : k < b.length) : dput a (b.take (k + 1)) = if newM a b[k] = true then dput a (b.take k) ++ [b[k]] else dput a (b.take k) := by
  rw [take_snoc _ k h]; unfold dput
  rw [List.filter_append]
  by_cases g : newM a b[k] = true
  · rw [if_pos g]; simp only [List.filter, g]
  · rw [if_neg g]; simp only [Bool.not_eq_true] at g; simp only [List.filter, g, List.append_nil]
theorem ddrop_snoc (a b : List Mb) (k : Nat) (h : k < a.length) : ddrop (a.take (k + 1)) b = if hasI b a[k].i = true then ddrop (a.take k) b else ddrop (a.take k) b ++ [a[k].i] := by
  rw [take_snoc _ k h]; unfold ddrop
  rw [List.filter_append, List.map_append]
  by_cases g : hasI b a[k].i = true
  · rw [if_pos g]; simp [List.filter, g]
  · rw [if_neg g]; simp only [Bool.not_eq_true] at g; simp [List.filter, g]
theorem dput_len (a b : List Mb) : (dput a b).length ≤ b.length := by simp [dput, List.length_filter_le]
theorem ddrop_len (a b : List Mb) : (ddrop a b).length ≤ a.length := by simp [ddrop, List.length_filter_le]
theorem mbs_snoc (l : List Mb) (a : Mb) : mbs l ++ [[I a.i, I a.r, I a.w, I a.g]] = mbs (l ++ [a]) := by simp [mbs, Mb.cells]
theorem int_snoc (l : List Int) (a : Int) : ints l ++ [[I a]] = ints (l ++ [a]) := by simp [ints]
def diff (a b : Cf) : Dl := ⟨if a.kind = b.kind then 0 else b.kind, dput a.ms b.ms, ddrop a.ms b.ms⟩

set_option maxHeartbeats 1000000 in
theorem find_con (c : Cf) (id : Int) (hl : c.ms.length ≤ 1000000) : ACon Try.prog 18 [.p (.agg c.cells), .p (I id)] (.tup [.p (.agg (fm id c.ms).1.cells), .p (B (fm id c.ms).2)]) := by
  obtain ⟨ep, n, kind, l⟩ := c
  simp only [Cf.cells] at hl ⊢
  refine wBody Try.tab Try.mixed Try.func18 rfl rfl Try.ntmps18 (by simp) (by simp) fun Q hr hn => ?_
  repeat' first | (refine hK _ ?_; clear hK) | (refine hK _ _ ?_; clear hK) | (clear hK; refine hK _ ?_; clear hK) | (clear hK; clear hK; refine hK _ ?_; clear hK) | (clear hK; clear hK; clear hK; refine hK _ ?_; clear hK) | (clear hK; clear hK; clear hK; clear hK; refine hK _ ?_; clear hK) | (refine wSeq fun K hK => ?_) | ((first | refine wReg ?_ | refine wDrwQ rfl (by kernel_rfl) ?_ | refine wDrwI ?_ | refine wDrw (by kernel_rfl) ?_); simp only [List.map_cons, List.map_nil, strip]) | ((first | refine wIs fun K hK => ?_ | refine wOs fun K hK => ?_ | refine wQs fun K hK => ?_ | refine CallK_plain ?_ | refine CallQ_plain ?_ | refine CallR_plain ?_ | refine wCond ?_); simp) | (refine wIn ?_; refine And.intro (by kernel_rfl) ?_; try simp only [thenA_n]) | (first | refine wBlock ?_ | refine wScope ?_) | ((first | refine wRet ?_ | refine wExit ?_ | refine wSkip ?_); try simp) | ((first | refine wLabel ?_ | refine wOn ?_ | refine wQn ?_); try simp only [thenA_n])
  refine wLoop (fun N st => ∃ (k : Nat), k + N = l.length ∧ st.s 1 = .p (I id) ∧ st.s 4 = .ptr 4 0 ∧ st.b 4 = some (.box 41 [.p (I 0), .p (I 0), .p (I 0), .p (I 0)]) ∧ st.s 9 = .p (.sl 4 (mbs l)) ∧ st.s 10 = .p (I l.length) ∧ st.s 11 = .p (I k) ∧ fm id (l.drop k) = fm id l) l.length ⟨0, by simp⟩ fun K N st hL ⟨k, hk, h1, h4, b4, h9, h10, h11, hi⟩ => ?_
  by_cases hlt : k < l.length
  · have hw := wrapS k _ hlt (by omega)
    rw [List.drop_eq_getElem_cons hlt, fm] at hi
    by_cases o : l[k].i = id
    · rw [if_pos o] at hi
      repeat' first | (refine hK _ ?_; clear hK) | (refine hK _ _ ?_; clear hK) | (clear hK; refine hK _ ?_; clear hK) | (clear hK; clear hK; refine hK _ ?_; clear hK) | (clear hK; clear hK; clear hK; refine hK _ ?_; clear hK) | (clear hK; clear hK; clear hK; clear hK; refine hK _ ?_; clear hK) | (refine wSeq fun K hK => ?_) | ((first | refine wReg ?_ | refine wDrwQ rfl (by kernel_rfl) ?_ | refine wDrwI ?_ | refine wDrw (by kernel_rfl) ?_); simp only [List.map_cons, List.map_nil, strip]) | ((first | refine wIs fun K hK => ?_ | refine wOs fun K hK => ?_ | refine wQs fun K hK => ?_ | refine CallK_plain ?_ | refine CallQ_plain ?_ | refine CallR_plain ?_ | refine wCond ?_); simp [h1, h4, b4, h9, h10, h11, hlt, hw, o]) | (refine wIn ?_; refine And.intro (by kernel_rfl) ?_; try simp only [thenA_n]) | (first | refine wBlock ?_ | refine wScope ?_) | ((first | refine wRet ?_ | refine wExit ?_ | refine wSkip ?_); try simp) | ((first | refine wLabel ?_ | refine wOn ?_ | refine wQn ?_); try simp only [thenA_n])
      all_goals apply hr
      all_goals rw [← hi]
      all_goals simp [Try.f18, Mb.cells, o, h4, b4]
    · rw [if_neg o] at hi
      repeat' first | (refine hK _ ?_; clear hK) | (refine hK _ _ ?_; clear hK) | (clear hK; refine hK _ ?_; clear hK) | (clear hK; clear hK; refine hK _ ?_; clear hK) | (clear hK; clear hK; clear hK; refine hK _ ?_; clear hK) | (clear hK; clear hK; clear hK; clear hK; refine hK _ ?_; clear hK) | (refine wSeq fun K hK => ?_) | ((first | refine wReg ?_ | refine wDrwQ rfl (by kernel_rfl) ?_ | refine wDrwI ?_ | refine wDrw (by kernel_rfl) ?_); simp only [List.map_cons, List.map_nil, strip]) | ((first | refine wIs fun K hK => ?_ | refine wOs fun K hK => ?_ | refine wQs fun K hK => ?_ | refine CallK_plain ?_ | refine CallQ_plain ?_ | refine CallR_plain ?_ | refine wCond ?_); simp [h1, h4, b4, h9, h10, h11, hlt, hw, o]) | (refine wIn ?_; refine And.intro (by kernel_rfl) ?_; try simp only [thenA_n]) | (first | refine wBlock ?_ | refine wScope ?_) | ((first | refine wRet ?_ | refine wExit ?_ | refine wSkip ?_); try simp) | ((first | refine wLabel ?_ | refine wOn ?_ | refine wQn ?_); try simp only [thenA_n])
      refine hL _ (N - 1) (by omega) ⟨k + 1, by omega, ?_⟩
      simp [h1, h4, b4, h9, h10, hw, hi]
  · rw [List.drop_of_length_le (by omega), fm] at hi
    repeat' first | (refine hK _ ?_; clear hK) | (refine hK _ _ ?_; clear hK) | (clear hK; refine hK _ ?_; clear hK) | (clear hK; clear hK; refine hK _ ?_; clear hK) | (clear hK; clear hK; clear hK; refine hK _ ?_; clear hK) | (clear hK; clear hK; clear hK; clear hK; refine hK _ ?_; clear hK) | (refine wSeq fun K hK => ?_) | ((first | refine wReg ?_ | refine wDrwQ rfl (by kernel_rfl) ?_ | refine wDrwI ?_ | refine wDrw (by kernel_rfl) ?_); simp only [List.map_cons, List.map_nil, strip]) | ((first | refine wIs fun K hK => ?_ | refine wOs fun K hK => ?_ | refine wQs fun K hK => ?_ | refine CallK_plain ?_ | refine CallQ_plain ?_ | refine CallR_plain ?_ | refine wCond ?_); simp [h1, h4, b4, h9, h10, h11, hlt]) | (refine wIn ?_; refine And.intro (by kernel_rfl) ?_; try simp only [thenA_n]) | (first | refine wBlock ?_ | refine wScope ?_) | ((first | refine wRet ?_ | refine wExit ?_ | refine wSkip ?_); try simp) | ((first | refine wLabel ?_ | refine wOn ?_ | refine wQn ?_); try simp only [thenA_n])
    apply hr
    rw [← hi]
    simp [Try.f18, Mb.cells, h4, b4]

set_option maxHeartbeats 8000000 in
theorem diff_con (a b : Cf) (ha : a.ms.length ≤ 1000000) (hb : b.ms.length ≤ 1000000) : ACon Try.prog 9 [.p (.agg a.cells), .p (.agg b.cells)] (.p (.agg (diff a b).cells)) := by
  have cf := fun id => find_con a id ha
  obtain ⟨ae, an, ak, am⟩ := a
  obtain ⟨be, bn, bk, bm⟩ := b
  simp only [Cf.cells] at ha hb cf ⊢
  obtain ⟨kd, hkd⟩ : ∃ kd, kd = (if ak = bk then 0 else bk) := ⟨_, rfl⟩
  rw [show diff ⟨ae, an, ak, am⟩ ⟨be, bn, bk, bm⟩ = ⟨kd, dput am bm, ddrop am bm⟩ by simp [diff, hkd]]
  refine wBody Try.tab Try.mixed Try.func9 rfl rfl Try.ntmps9 (by simp) (by simp) fun Q hr hn => ?_
  by_cases okd : ak = bk
  all_goals first | rw [if_pos okd] at hkd | rw [if_neg okd] at hkd
  all_goals
    repeat' first | (refine hK _ ?_; clear hK) | (refine hK _ _ ?_; clear hK) | (clear hK; refine hK _ ?_; clear hK) | (clear hK; clear hK; refine hK _ ?_; clear hK) | (clear hK; clear hK; clear hK; refine hK _ ?_; clear hK) | (clear hK; clear hK; clear hK; clear hK; refine hK _ ?_; clear hK) | (refine wSeq fun K hK => ?_) | ((first | refine wReg ?_ | refine wDrwQ rfl (by kernel_rfl) ?_ | refine wDrwI ?_ | refine wDrw (by kernel_rfl) ?_); simp only [List.map_cons, List.map_nil, strip]) | ((first | refine wIs fun K hK => ?_ | refine wOs fun K hK => ?_ | refine wQs fun K hK => ?_ | refine CallK_plain ?_ | refine CallQ_plain ?_ | refine CallR_plain ?_ | refine wCond ?_); simp [okd]) | (refine wIn ?_; refine And.intro (by kernel_rfl) ?_; try simp only [thenA_n]) | (first | refine wBlock ?_ | refine wScope ?_) | ((first | refine wRet ?_ | refine wExit ?_ | refine wSkip ?_); try simp) | ((first | refine wLabel ?_ | refine wOn ?_ | refine wQn ?_); try simp only [thenA_n])
    refine wLoopG [.cel 5 1 47 41 4, .cel 5 2 75 3 1] (fun N st => ∃ k, k + N = bm.length ∧ st.s 2 = .ptr 2 0 ∧ st.s 3 = .ptr 3 0 ∧ st.s 4 = .ptr 4 0 ∧ st.s 5 = .ptr 5 0 ∧ st.b 2 = some (.box 26 [.p (I ae), .p (I an), .p (I ak), .p (.sl 4 (mbs am))]) ∧ st.b 3 = some (.box 26 [.p (I be), .p (I bn), .p (I bk), .p (.sl 4 (mbs bm))]) ∧
      st.b 4 = some (.box 30 [.p (I 0), .nil 4, .nil 1]) ∧ st.s 23 = .p (.sl 4 (mbs bm)) ∧ st.s 24 = .p (I bm.length) ∧ st.s 25 = .p (I k) ∧ st.b 5 = some (.box 30 [.p (I kd), .row 47, .row 75]) ∧ st.b 47 = some (.row 41 4 (mbs (dput am (bm.take k)))) ∧ st.b 75 = some (.row 3 1 [])) bm.length ⟨0, by simp [hkd, okd, dput, mbs]⟩ fun K N st hL ⟨k, hk, g2, g3, g4, g5, b2, b3, b4, g23, g24, g25, b5, b47, b75⟩ => ?_
    by_cases hlt : k < bm.length
    · have hw := wrapS k _ hlt (by omega)
      have he := mbs_get hlt
      have hs := dput_snoc am bm k hlt
      have hln : (dput am (bm.take k)).length ≤ k := Nat.le_trans (dput_len _ _) (by simp; omega)
      have hx := mbs_snoc (dput am (bm.take k)) bm[k]
      have c1 := cf bm[k].i
      have hnm : newM am bm[k] = decide (¬ fm bm[k].i am = (bm[k], true)) := rfl
      generalize dput am (bm.take k) = q at hs hln hx b47
      generalize fm bm[k].i am = r at c1 hnm
      obtain ⟨⟨wi, wr, ww, wg⟩, there⟩ := r
      simp only [Mb.cells, Prod.mk.injEq, Mb.ext4] at c1 hnm
      cases there
      · rw [hnm, if_pos (by simp)] at hs
        repeat' first | (refine And.intro (by (try simp only [mbs_len]); omega) ?_) | (refine hK _ ?_; clear hK) | (refine hK _ _ ?_; clear hK) | (clear hK; refine hK _ ?_; clear hK) | (clear hK; clear hK; refine hK _ ?_; clear hK) | (clear hK; clear hK; clear hK; refine hK _ ?_; clear hK) | (clear hK; clear hK; clear hK; clear hK; refine hK _ ?_; clear hK) | (refine wSeq fun K hK => ?_) | ((first | refine wReg ?_ | refine wDrwQ rfl (by kernel_rfl) ?_ | refine wDrwI ?_ | refine wDrw (by kernel_rfl) ?_); simp only [List.map_cons, List.map_nil, strip]) | ((first | refine wIs fun K hK => ?_ | refine wOs fun K hK => ?_ | refine wQs fun K hK => ?_ | refine CallK_plain ?_ | refine CallQ_plain ?_ | refine CallR_plain ?_ | refine wCond ?_); simp [g2, g3, g4, g5, b2, b3, b4, b5, b47, b75, g23, g24, g25, hlt, hw, he]) | (refine wIn ?_; refine And.intro (by kernel_rfl) ?_; try simp only [thenA_n]) | (first | refine wBlock ?_ | refine wScope ?_) | ((first | refine wRet ?_ | refine wExit ?_ | refine wSkip ?_); try simp) | ((first | refine wLabel ?_ | refine wOn ?_ | refine wQn ?_); try simp only [thenA_n]) | (refine CallE.pure (c1) rfl ?_) | (refine CallE.lent (c1) rfl ?_) | (refine CallF.pure (c1) rfl ?_) | (refine CallF.lent (c1) rfl ?_) | (refine CallE.own (c1) ?_) | (refine CallH.pure (c1) rfl ?_) | (refine CallH.lent (c1) rfl ?_) | (refine CallH.own (c1) ?_)
        refine hL _ (N - 1) (by omega) ⟨k + 1, by omega, ?_⟩
        simp [g2, g3, g4, g5, b2, b3, b4, b5, b47, b75, g23, g24, g25, hw, hs, hx]
      · by_cases o : wi = bm[k].i ∧ wr = bm[k].r ∧ ww = bm[k].w ∧ wg = bm[k].g
        · rw [hnm, if_neg (by simp [o])] at hs
          obtain ⟨o1, o2, o3, o4⟩ := o
          repeat' first | (refine hK _ ?_; clear hK) | (refine hK _ _ ?_; clear hK) | (clear hK; refine hK _ ?_; clear hK) | (clear hK; clear hK; refine hK _ ?_; clear hK) | (clear hK; clear hK; clear hK; refine hK _ ?_; clear hK) | (clear hK; clear hK; clear hK; clear hK; refine hK _ ?_; clear hK) | (refine wSeq fun K hK => ?_) | ((first | refine wReg ?_ | refine wDrwQ rfl (by kernel_rfl) ?_ | refine wDrwI ?_ | refine wDrw (by kernel_rfl) ?_); simp only [List.map_cons, List.map_nil, strip]) | ((first | refine wIs fun K hK => ?_ | refine wOs fun K hK => ?_ | refine wQs fun K hK => ?_ | refine CallK_plain ?_ | refine CallQ_plain ?_ | refine CallR_plain ?_ | refine wCond ?_); simp [g2, g3, g4, g5, b2, b3, b4, b5, b47, b75, g23, g24, g25, hlt, hw, he, o1, o2, o3, o4]) | (refine wIn ?_; refine And.intro (by kernel_rfl) ?_; try simp only [thenA_n]) | (first | refine wBlock ?_ | refine wScope ?_) | ((first | refine wRet ?_ | refine wExit ?_ | refine wSkip ?_); try simp) | ((first | refine wLabel ?_ | refine wOn ?_ | refine wQn ?_); try simp only [thenA_n]) | (refine CallE.pure (c1) rfl ?_) | (refine CallE.lent (c1) rfl ?_) | (refine CallF.pure (c1) rfl ?_) | (refine CallF.lent (c1) rfl ?_) | (refine CallE.own (c1) ?_) | (refine CallH.pure (c1) rfl ?_) | (refine CallH.lent (c1) rfl ?_) | (refine CallH.own (c1) ?_)
          refine hL _ (N - 1) (by omega) ⟨k + 1, by omega, ?_⟩
          simp [g2, g3, g4, g5, b2, b3, b4, b5, b47, b75, g23, g24, g25, hw, hs]
        · rw [hnm, if_pos (by simp only [decide_eq_true_eq]; exact fun h => o h.1)] at hs
          repeat' first | (refine And.intro (by (try simp only [mbs_len]); omega) ?_) | (refine hK _ ?_; clear hK) | (refine hK _ _ ?_; clear hK) | (clear hK; refine hK _ ?_; clear hK) | (clear hK; clear hK; refine hK _ ?_; clear hK) | (clear hK; clear hK; clear hK; refine hK _ ?_; clear hK) | (clear hK; clear hK; clear hK; clear hK; refine hK _ ?_; clear hK) | (refine wSeq fun K hK => ?_) | ((first | refine wReg ?_ | refine wDrwQ rfl (by kernel_rfl) ?_ | refine wDrwI ?_ | refine wDrw (by kernel_rfl) ?_); simp only [List.map_cons, List.map_nil, strip]) | ((first | refine wIs fun K hK => ?_ | refine wOs fun K hK => ?_ | refine wQs fun K hK => ?_ | refine CallK_plain ?_ | refine CallQ_plain ?_ | refine CallR_plain ?_ | refine wCond ?_); simp [g2, g3, g4, g5, b2, b3, b4, b5, b47, b75, g23, g24, g25, hlt, hw, he, o]) | (refine wIn ?_; refine And.intro (by kernel_rfl) ?_; try simp only [thenA_n]) | (first | refine wBlock ?_ | refine wScope ?_) | ((first | refine wRet ?_ | refine wExit ?_ | refine wSkip ?_); try simp) | ((first | refine wLabel ?_ | refine wOn ?_ | refine wQn ?_); try simp only [thenA_n]) | (refine CallE.pure (c1) rfl ?_) | (refine CallE.lent (c1) rfl ?_) | (refine CallF.pure (c1) rfl ?_) | (refine CallF.lent (c1) rfl ?_) | (refine CallE.own (c1) ?_) | (refine CallH.pure (c1) rfl ?_) | (refine CallH.lent (c1) rfl ?_) | (refine CallH.own (c1) ?_) | (intro _)
          refine hL _ (N - 1) (by omega) ⟨k + 1, by omega, ?_⟩
          simp [g2, g3, g4, g5, b2, b3, b4, b5, b47, b75, g23, g24, g25, hw, hs, hx]
    · rw [List.take_of_length_le (by omega)] at b47
      generalize hpm : dput am bm = pm at b47
      repeat' first | (refine hK _ ?_; clear hK) | (refine hK _ _ ?_; clear hK) | (clear hK; refine hK _ ?_; clear hK) | (clear hK; clear hK; refine hK _ ?_; clear hK) | (clear hK; clear hK; clear hK; refine hK _ ?_; clear hK) | (clear hK; clear hK; clear hK; clear hK; refine hK _ ?_; clear hK) | (refine wSeq fun K hK => ?_) | ((first | refine wReg ?_ | refine wDrwQ rfl (by kernel_rfl) ?_ | refine wDrwI ?_ | refine wDrw (by kernel_rfl) ?_); simp only [List.map_cons, List.map_nil, strip]) | ((first | refine wIs fun K hK => ?_ | refine wOs fun K hK => ?_ | refine wQs fun K hK => ?_ | refine CallK_plain ?_ | refine CallQ_plain ?_ | refine CallR_plain ?_ | refine wCond ?_); simp [g2, g3, g4, g5, b2, b3, b4, b5, b47, b75, g23, g24, g25, hlt]) | (refine wIn ?_; refine And.intro (by kernel_rfl) ?_; try simp only [thenA_n]) | (first | refine wBlock ?_ | refine wScope ?_) | ((first | refine wRet ?_ | refine wExit ?_ | refine wSkip ?_); try simp) | ((first | refine wLabel ?_ | refine wOn ?_ | refine wQn ?_); try simp only [thenA_n])
      refine wLoop (fun N st => ∃ k, k + N = am.length ∧ st.s 2 = .ptr 2 0 ∧ st.s 3 = .ptr 3 0 ∧ st.s 4 = .ptr 4 0 ∧ st.s 5 = .ptr 5 0 ∧ st.b 2 = some (.box 26 [.p (I ae), .p (I an), .p (I ak), .p (.sl 4 (mbs am))]) ∧ st.b 3 = some (.box 26 [.p (I be), .p (I bn), .p (I bk), .p (.sl 4 (mbs bm))]) ∧
        st.b 4 = some (.box 30 [.p (I 0), .nil 4, .nil 1]) ∧ st.s 51 = .p (.sl 4 (mbs am)) ∧ st.s 52 = .p (I am.length) ∧ st.s 53 = .p (I k) ∧ st.b 5 = some (.box 30 [.p (I kd), .row 47, .row 75]) ∧ st.b 47 = some (.row 41 4 (mbs pm)) ∧ st.b 75 = some (.row 3 1 (ints (ddrop (am.take k) bm)))) am.length ⟨0, by simp [g2, g3, g4, g5, b2, b3, b4, b5, b47, b75, ddrop, ints]⟩ fun K N st hL ⟨k, hk, g2, g3, g4, g5, b2, b3, b4, g51, g52, g53, b5, b47, b75⟩ => ?_
      by_cases hlt : k < am.length
      · have hw := wrapS k _ hlt (by omega)
        have he := mbs_get hlt
        have hs := ddrop_snoc am bm k hlt
        have hln : (ddrop (am.take k) bm).length ≤ k := Nat.le_trans (ddrop_len _ _) (by simp; omega)
        have hx := int_snoc (ddrop (am.take k) bm) am[k].i
        generalize ddrop (am.take k) bm = q at hs hln hx b75
        repeat' first | (refine hK _ ?_; clear hK) | (refine hK _ _ ?_; clear hK) | (clear hK; refine hK _ ?_; clear hK) | (clear hK; clear hK; refine hK _ ?_; clear hK) | (clear hK; clear hK; clear hK; refine hK _ ?_; clear hK) | (clear hK; clear hK; clear hK; clear hK; refine hK _ ?_; clear hK) | (refine wSeq fun K hK => ?_) | ((first | refine wReg ?_ | refine wDrwQ rfl (by kernel_rfl) ?_ | refine wDrwI ?_ | refine wDrw (by kernel_rfl) ?_); simp only [List.map_cons, List.map_nil, strip]) | ((first | refine wIs fun K hK => ?_ | refine wOs fun K hK => ?_ | refine wQs fun K hK => ?_ | refine CallK_plain ?_ | refine CallQ_plain ?_ | refine CallR_plain ?_ | refine wCond ?_); simp [g2, g3, g4, g5, b2, b3, b4, b5, b47, b75, g51, g52, g53, hlt, hw, he]) | (refine wIn ?_; refine And.intro (by kernel_rfl) ?_; try simp only [thenA_n]) | (first | refine wBlock ?_ | refine wScope ?_) | ((first | refine wRet ?_ | refine wExit ?_ | refine wSkip ?_); try simp) | ((first | refine wLabel ?_ | refine wOn ?_ | refine wQn ?_); try simp only [thenA_n])
        refine wLoop (fun N st => ∃ j, j + N = bm.length ∧ st.s 2 = .ptr 2 0 ∧ st.s 3 = .ptr 3 0 ∧ st.s 4 = .ptr 4 0 ∧ st.s 5 = .ptr 5 0 ∧ st.b 2 = some (.box 26 [.p (I ae), .p (I an), .p (I ak), .p (.sl 4 (mbs am))]) ∧ st.b 3 = some (.box 26 [.p (I be), .p (I bn), .p (I bk), .p (.sl 4 (mbs bm))]) ∧
          st.b 4 = some (.box 30 [.p (I 0), .nil 4, .nil 1]) ∧ st.s 51 = .p (.sl 4 (mbs am)) ∧ st.s 52 = .p (I am.length) ∧ st.s 53 = .p (I k) ∧ st.b 5 = some (.box 30 [.p (I kd), .row 47, .row 75]) ∧ st.b 47 = some (.row 41 4 (mbs pm)) ∧ st.b 75 = some (.row 3 1 (ints q)) ∧
          st.s 11 = .ptr 11 0 ∧ st.b 11 = some (.box 41 [.p (I am[k].i), .p (I am[k].r), .p (I am[k].w), .p (I am[k].g)]) ∧ st.s 58 = .p (.sl 4 (mbs bm)) ∧ st.s 59 = .p (I bm.length) ∧ st.s 60 = .p (I j) ∧ hasI bm am[k].i = hasI (bm.drop j) am[k].i) bm.length ⟨0, by simp [g2, g3, g4, g5, b2, b3, b4, b5, b47, b75, g51, g52, g53]⟩ fun K M st hM ⟨j, hj, g2, g3, g4, g5, b2, b3, b4, g51, g52, g53, b5, b47, b75, g11, b11, g58, g59, g60, hh⟩ => ?_
        by_cases hjl : j < bm.length
        · have hwj := wrapS j _ hjl (by omega)
          have hej := mbs_get hjl
          rw [List.drop_eq_getElem_cons hjl] at hh
          simp only [hasI, List.any_cons] at hh
          by_cases o : bm[j].i = am[k].i
          · rw [show hasI bm am[k].i = true by rw [hasI, hh, decide_eq_true o]; rfl, if_pos rfl] at hs
            repeat' first | (refine hK _ ?_; clear hK) | (refine hK _ _ ?_; clear hK) | (clear hK; refine hK _ ?_; clear hK) | (clear hK; clear hK; refine hK _ ?_; clear hK) | (clear hK; clear hK; clear hK; refine hK _ ?_; clear hK) | (clear hK; clear hK; clear hK; clear hK; refine hK _ ?_; clear hK) | (refine wSeq fun K hK => ?_) | ((first | refine wReg ?_ | refine wDrwQ rfl (by kernel_rfl) ?_ | refine wDrwI ?_ | refine wDrw (by kernel_rfl) ?_); simp only [List.map_cons, List.map_nil, strip]) | ((first | refine wIs fun K hK => ?_ | refine wOs fun K hK => ?_ | refine wQs fun K hK => ?_ | refine CallK_plain ?_ | refine CallQ_plain ?_ | refine CallR_plain ?_ | refine wCond ?_); simp [g2, g3, g4, g5, b2, b3, b4, b5, b47, b75, g51, g52, g53, g11, b11, g58, g59, g60, hjl, hwj, hej, o, hw]) | (refine wIn ?_; refine And.intro (by kernel_rfl) ?_; try simp only [thenA_n]) | (first | refine wBlock ?_ | refine wScope ?_) | ((first | refine wRet ?_ | refine wExit ?_ | refine wSkip ?_); try simp) | ((first | refine wLabel ?_ | refine wOn ?_ | refine wQn ?_); try simp only [thenA_n])
            refine hL _ (N - 1) (by omega) ⟨k + 1, by omega, ?_⟩
            simp [g2, g3, g4, g5, b2, b3, b4, b5, b47, b75, g51, g52, g53, hw, hs]
          · rw [decide_eq_false o, Bool.false_or] at hh
            repeat' first | (refine hK _ ?_; clear hK) | (refine hK _ _ ?_; clear hK) | (clear hK; refine hK _ ?_; clear hK) | (clear hK; clear hK; refine hK _ ?_; clear hK) | (clear hK; clear hK; clear hK; refine hK _ ?_; clear hK) | (clear hK; clear hK; clear hK; clear hK; refine hK _ ?_; clear hK) | (refine wSeq fun K hK => ?_) | ((first | refine wReg ?_ | refine wDrwQ rfl (by kernel_rfl) ?_ | refine wDrwI ?_ | refine wDrw (by kernel_rfl) ?_); simp only [List.map_cons, List.map_nil, strip]) | ((first | refine wIs fun K hK => ?_ | refine wOs fun K hK => ?_ | refine wQs fun K hK => ?_ | refine CallK_plain ?_ | refine CallQ_plain ?_ | refine CallR_plain ?_ | refine wCond ?_); simp [g2, g3, g4, g5, b2, b3, b4, b5, b47, b75, g51, g52, g53, g11, b11, g58, g59, g60, hjl, hwj, hej, o]) | (refine wIn ?_; refine And.intro (by kernel_rfl) ?_; try simp only [thenA_n]) | (first | refine wBlock ?_ | refine wScope ?_) | ((first | refine wRet ?_ | refine wExit ?_ | refine wSkip ?_); try simp) | ((first | refine wLabel ?_ | refine wOn ?_ | refine wQn ?_); try simp only [thenA_n])
            refine hM _ (M - 1) (by omega) ⟨j + 1, by omega, ?_⟩
            simp [g2, g3, g4, g5, b2, b3, b4, b5, b47, b75, g51, g52, g53, g11, b11, g58, g59, g60, hwj]
            exact hh
        · rw [List.drop_of_length_le (by omega)] at hh
          rw [hh, if_neg (by simp [hasI])] at hs
          repeat' first | (refine And.intro (by (try simp only [ints_len]); omega) ?_) | (refine hK _ ?_; clear hK) | (refine hK _ _ ?_; clear hK) | (clear hK; refine hK _ ?_; clear hK) | (clear hK; clear hK; refine hK _ ?_; clear hK) | (clear hK; clear hK; clear hK; refine hK _ ?_; clear hK) | (clear hK; clear hK; clear hK; clear hK; refine hK _ ?_; clear hK) | (refine wSeq fun K hK => ?_) | ((first | refine wReg ?_ | refine wDrwQ rfl (by kernel_rfl) ?_ | refine wDrwI ?_ | refine wDrw (by kernel_rfl) ?_); simp only [List.map_cons, List.map_nil, strip]) | ((first | refine wIs fun K hK => ?_ | refine wOs fun K hK => ?_ | refine wQs fun K hK => ?_ | refine CallK_plain ?_ | refine CallQ_plain ?_ | refine CallR_plain ?_ | refine wCond ?_); simp [g2, g3, g4, g5, b2, b3, b4, b5, b47, b75, g51, g52, g53, g11, b11, g58, g59, g60, hjl, hw]) | (refine wIn ?_; refine And.intro (by kernel_rfl) ?_; try simp only [thenA_n]) | (first | refine wBlock ?_ | refine wScope ?_) | ((first | refine wRet ?_ | refine wExit ?_ | refine wSkip ?_); try simp) | ((first | refine wLabel ?_ | refine wOn ?_ | refine wQn ?_); try simp only [thenA_n])
          refine hL _ (N - 1) (by omega) ⟨k + 1, by omega, ?_⟩
          simp [g2, g3, g4, g5, b2, b3, b4, b5, b47, b75, g51, g52, g53, hw, hs, hx]
      · rw [List.take_of_length_le (by omega)] at b75
        repeat' first | (refine hK _ ?_; clear hK) | (refine hK _ _ ?_; clear hK) | (clear hK; refine hK _ ?_; clear hK) | (clear hK; clear hK; refine hK _ ?_; clear hK) | (clear hK; clear hK; clear hK; refine hK _ ?_; clear hK) | (clear hK; clear hK; clear hK; clear hK; refine hK _ ?_; clear hK) | (refine wSeq fun K hK => ?_) | ((first | refine wReg ?_ | refine wDrwQ rfl (by kernel_rfl) ?_ | refine wDrwI ?_ | refine wDrw (by kernel_rfl) ?_); simp only [List.map_cons, List.map_nil, strip]) | ((first | refine wIs fun K hK => ?_ | refine wOs fun K hK => ?_ | refine wQs fun K hK => ?_ | refine CallK_plain ?_ | refine CallQ_plain ?_ | refine CallR_plain ?_ | refine wCond ?_); simp [g2, g3, g4, g5, b2, b3, b4, b5, b47, b75, g51, g52, g53, hlt]) | (refine wIn ?_; refine And.intro (by kernel_rfl) ?_; try simp only [thenA_n]) | (first | refine wBlock ?_ | refine wScope ?_) | ((first | refine wRet ?_ | refine wExit ?_ | refine wSkip ?_); try simp) | ((first | refine wLabel ?_ | refine wOn ?_ | refine wQn ?_); try simp only [thenA_n])
        all_goals apply hr
        all_goals simp [Try.f9, Dl.cells, g4, b4, b5, b47, b75, hpm]
end Go.Proofs.Ytiemabhnhgablaa
