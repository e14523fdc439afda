/- States: when lists of numbers, parts, transactions, states are the same. -/
import Derived.Test.YtpadfoaigbfekaaXG
namespace Go.Proofs.Ytpadfoaigbfekaa
set_option linter.unusedSimpArgs false
set_option linter.unusedVariables false
open Go Go.Av
attribute [local simp] Try.T1 Try.T2 Try.T3 Try.T4 Try.T5 Try.T9 Try.T12 Try.T21 Try.T22 Try.T24 Try.T25 Try.T26 Try.T27 Try.T28 Try.T29 Try.T30 Try.T31 Try.T33 Try.T34 Try.T35 Try.T36 Try.T37 Try.T38 Try.T39 Try.T41 Try.T42 Try.T43 Try.T44 Try.T46 Try.T47 Try.T49 Try.T51 Try.T52 Try.T53 Try.T54 Try.T56 Try.T57 Try.T58 Try.T59 Try.T60 Try.T62 Try.T64 Try.T65 Try.T66 Try.T67 Try.T68 Try.T69 Try.T70 Try.T71 Try.T72 Try.T73 Try.T75 Try.T76 Try.T77 Try.T78 Try.T79 Try.T80 Try.T82 Try.T83 Try.T84 Try.T85 Try.T87 Try.T88 Try.T89 Try.T90 Try.T91 Try.T92 Try.T93 Try.T94 Try.T95 Try.T96 Try.T97 Try.T98 Try.T99 Try.T100 Try.T102 Try.T103 Try.T104 Try.T105 Try.T106 Try.T107 Try.T109 Try.T110 Try.T111 Try.T112 Try.T113 Try.T114 Try.T115 Try.T116 Try.T117 Try.T123 Try.T126
attribute [local irreducible] Go.Av.CallK Go.Av.CallE Go.Av.CallQ Go.Av.CallF Go.Av.CallR Go.Av.CallH Go.Av.Con

theorem intsE_con (a b : List Int) : ACon Try.prog 69 [.p (.sl 1 (ints a)), .p (.sl 1 (ints b))] (.p (B (decide (a = b)))) := by
  refine ACon.len ⟨Try.f69, Try.func69, rfl, rfl⟩ 0 _ _ rfl fun hlen => ?_
  simp only [ints_len] at hlen
  by_cases hl : a.length = b.length
  · refine wBody Try.tab Try.mixed Try.func69 rfl rfl Try.ntmps69 (by simp) (by simp) fun Q hr hn => ?_
    repeat' first | (refine hK _ ?_; clear hK) | (refine hK _ _ ?_; clear hK) | (clear hK; refine hK _ ?_; clear hK) | (clear hK; clear hK; refine hK _ ?_; clear hK) | (clear hK; clear hK; clear hK; refine hK _ ?_; clear hK) | (clear hK; clear hK; clear hK; clear hK; refine hK _ ?_; clear hK) | (refine wSeq fun K hK => ?_) | ((first | refine wReg ?_ | refine wDrwQ rfl (by kernel_rfl) ?_ | refine wDrwI ?_ | refine wDrw (by kernel_rfl) ?_); simp only [List.map_cons, List.map_nil, strip]) | ((first | refine wIs fun K hK => ?_ | refine wOs fun K hK => ?_ | refine wQs fun K hK => ?_ | refine CallK_plain ?_ | refine CallQ_plain ?_ | refine CallR_plain ?_ | refine wCond ?_); simp [hl]) | (refine wIn ?_; refine And.intro (by kernel_rfl) ?_; try simp only [thenA_n]) | (first | refine wBlock ?_ | refine wScope ?_) | ((first | refine wRet ?_ | refine wExit ?_ | refine wSkip ?_); try simp) | ((first | refine wLabel ?_ | refine wOn ?_ | refine wQn ?_); try simp only [thenA_n])
    refine wLoop (fun N st => ∃ k, k + N = a.length ∧ st.s 0 = .p (.sl 1 (ints a)) ∧ st.s 1 = .p (.sl 1 (ints b)) ∧ st.s 12 = .p (I a.length) ∧ st.s 13 = .p (I k) ∧ (a = b ↔ a.drop k = b.drop k)) a.length ⟨0, by simp [hl]⟩ fun K N st hL ⟨k, hk, h0, h1, h12, h13, hi⟩ => ?_
    by_cases hlt : k < a.length
    · have hw := wrapS k _ hlt hlen
      have he := ints_get hlt
      have he' := ints_get (l := b) (k := k) (by omega)
      rw [List.drop_eq_getElem_cons hlt, List.drop_eq_getElem_cons (l := b) (by omega), List.cons.injEq] at hi
      repeat' first | (refine hK _ ?_; clear hK) | (refine hK _ _ ?_; clear hK) | (clear hK; refine hK _ ?_; clear hK) | (clear hK; clear hK; refine hK _ ?_; clear hK) | (clear hK; clear hK; clear hK; refine hK _ ?_; clear hK) | (clear hK; clear hK; clear hK; clear hK; refine hK _ ?_; clear hK) | (refine wSeq fun K hK => ?_) | ((first | refine wReg ?_ | refine wDrwQ rfl (by kernel_rfl) ?_ | refine wDrwI ?_ | refine wDrw (by kernel_rfl) ?_); simp only [List.map_cons, List.map_nil, strip]) | ((first | refine wIs fun K hK => ?_ | refine wOs fun K hK => ?_ | refine wQs fun K hK => ?_ | refine CallK_plain ?_ | refine CallQ_plain ?_ | refine CallR_plain ?_ | refine wCond ?_); simp [h0, h1, h12, h13, hlt, hw, he, he']) | (refine wIn ?_; refine And.intro (by kernel_rfl) ?_; try simp only [thenA_n]) | (first | refine wBlock ?_ | refine wScope ?_) | ((first | refine wRet ?_ | refine wExit ?_ | refine wSkip ?_); try simp) | ((first | refine wLabel ?_ | refine wOn ?_ | refine wQn ?_); try simp only [thenA_n]) | (refine And.intro (fun hc => ?_) (fun hc => ?_))
      · apply hr
        simp [Try.f69]
        intro h
        exact hc (hi.1 h).1
      · refine hL _ (N - 1) (by omega) ⟨k + 1, by omega, ?_⟩
        simp [h0, h1, h12, hw]
        rw [hi]; simp [hc]
    · have hd : a.drop k = [] := List.drop_of_length_le (by omega)
      have hd' : b.drop k = [] := List.drop_of_length_le (by omega)
      rw [hd, hd'] at hi
      repeat' first | (refine hK _ ?_; clear hK) | (refine hK _ _ ?_; clear hK) | (clear hK; refine hK _ ?_; clear hK) | (clear hK; clear hK; refine hK _ ?_; clear hK) | (clear hK; clear hK; clear hK; refine hK _ ?_; clear hK) | (clear hK; clear hK; clear hK; clear hK; refine hK _ ?_; clear hK) | (refine wSeq fun K hK => ?_) | ((first | refine wReg ?_ | refine wDrwQ rfl (by kernel_rfl) ?_ | refine wDrwI ?_ | refine wDrw (by kernel_rfl) ?_); simp only [List.map_cons, List.map_nil, strip]) | ((first | refine wIs fun K hK => ?_ | refine wOs fun K hK => ?_ | refine wQs fun K hK => ?_ | refine CallK_plain ?_ | refine CallQ_plain ?_ | refine CallR_plain ?_ | refine wCond ?_); simp [h0, h1, h12, h13, hlt]) | (refine wIn ?_; refine And.intro (by kernel_rfl) ?_; try simp only [thenA_n]) | (first | refine wBlock ?_ | refine wScope ?_) | ((first | refine wRet ?_ | refine wExit ?_ | refine wSkip ?_); try simp) | ((first | refine wLabel ?_ | refine wOn ?_ | refine wQn ?_); try simp only [thenA_n])
      apply hr
      simp [Try.f69]
      simpa using hi
  · have hne : ¬ a = b := fun h => hl (by rw [h])
    have hl' : ¬ ((a.length : Int) = b.length) := by omega
    refine wBody Try.tab Try.mixed Try.func69 rfl rfl Try.ntmps69 (by simp) (by simp) fun Q hr hn => ?_
    repeat' first | (refine hK _ ?_; clear hK) | (refine hK _ _ ?_; clear hK) | (clear hK; refine hK _ ?_; clear hK) | (clear hK; clear hK; refine hK _ ?_; clear hK) | (clear hK; clear hK; clear hK; refine hK _ ?_; clear hK) | (clear hK; clear hK; clear hK; clear hK; refine hK _ ?_; clear hK) | (refine wSeq fun K hK => ?_) | ((first | refine wReg ?_ | refine wDrwQ rfl (by kernel_rfl) ?_ | refine wDrwI ?_ | refine wDrw (by kernel_rfl) ?_); simp only [List.map_cons, List.map_nil, strip]) | ((first | refine wIs fun K hK => ?_ | refine wOs fun K hK => ?_ | refine wQs fun K hK => ?_ | refine CallK_plain ?_ | refine CallQ_plain ?_ | refine CallR_plain ?_ | refine wCond ?_); simp [hl, hl']) | (refine wIn ?_; refine And.intro (by kernel_rfl) ?_; try simp only [thenA_n]) | (first | refine wBlock ?_ | refine wScope ?_) | ((first | refine wRet ?_ | refine wExit ?_ | refine wSkip ?_); try simp) | ((first | refine wLabel ?_ | refine wOn ?_ | refine wQn ?_); try simp only [thenA_n])
    all_goals apply hr
    all_goals simp [Try.f69, hne]
theorem ints08_con (a b : List Int) : ACon Try.prog 65 [.p (.sl 1 (ints a)), .p (.sl 1 (ints b))] (.p (B (decide (a = b)))) := by
  refine ACon.len ⟨Try.f65, Try.func65, rfl, rfl⟩ 0 _ _ rfl fun hlen => ?_
  simp only [ints_len] at hlen
  by_cases hl : a.length = b.length
  · refine wBody Try.tab Try.mixed Try.func65 rfl rfl Try.ntmps65 (by simp) (by simp) fun Q hr hn => ?_
    repeat' first | (refine hK _ ?_; clear hK) | (refine hK _ _ ?_; clear hK) | (clear hK; refine hK _ ?_; clear hK) | (clear hK; clear hK; refine hK _ ?_; clear hK) | (clear hK; clear hK; clear hK; refine hK _ ?_; clear hK) | (clear hK; clear hK; clear hK; clear hK; refine hK _ ?_; clear hK) | (refine wSeq fun K hK => ?_) | ((first | refine wReg ?_ | refine wDrwQ rfl (by kernel_rfl) ?_ | refine wDrwI ?_ | refine wDrw (by kernel_rfl) ?_); simp only [List.map_cons, List.map_nil, strip]) | ((first | refine wIs fun K hK => ?_ | refine wOs fun K hK => ?_ | refine wQs fun K hK => ?_ | refine CallK_plain ?_ | refine CallQ_plain ?_ | refine CallR_plain ?_ | refine wCond ?_); simp [hl]) | (refine wIn ?_; refine And.intro (by kernel_rfl) ?_; try simp only [thenA_n]) | (first | refine wBlock ?_ | refine wScope ?_) | ((first | refine wRet ?_ | refine wExit ?_ | refine wSkip ?_); try simp) | ((first | refine wLabel ?_ | refine wOn ?_ | refine wQn ?_); try simp only [thenA_n])
    refine wLoop (fun N st => ∃ k, k + N = a.length ∧ st.s 0 = .p (.sl 1 (ints a)) ∧ st.s 1 = .p (.sl 1 (ints b)) ∧ st.s 12 = .p (I a.length) ∧ st.s 13 = .p (I k) ∧ (a = b ↔ a.drop k = b.drop k)) a.length ⟨0, by simp [hl]⟩ fun K N st hL ⟨k, hk, h0, h1, h12, h13, hi⟩ => ?_
    by_cases hlt : k < a.length
    · have hw := wrapS k _ hlt hlen
      have he := ints_get hlt
      have he' := ints_get (l := b) (k := k) (by omega)
      rw [List.drop_eq_getElem_cons hlt, List.drop_eq_getElem_cons (l := b) (by omega), List.cons.injEq] at hi
      repeat' first | (refine hK _ ?_; clear hK) | (refine hK _ _ ?_; clear hK) | (clear hK; refine hK _ ?_; clear hK) | (clear hK; clear hK; refine hK _ ?_; clear hK) | (clear hK; clear hK; clear hK; refine hK _ ?_; clear hK) | (clear hK; clear hK; clear hK; clear hK; refine hK _ ?_; clear hK) | (refine wSeq fun K hK => ?_) | ((first | refine wReg ?_ | refine wDrwQ rfl (by kernel_rfl) ?_ | refine wDrwI ?_ | refine wDrw (by kernel_rfl) ?_); simp only [List.map_cons, List.map_nil, strip]) | ((first | refine wIs fun K hK => ?_ | refine wOs fun K hK => ?_ | refine wQs fun K hK => ?_ | refine CallK_plain ?_ | refine CallQ_plain ?_ | refine CallR_plain ?_ | refine wCond ?_); simp [h0, h1, h12, h13, hlt, hw, he, he']) | (refine wIn ?_; refine And.intro (by kernel_rfl) ?_; try simp only [thenA_n]) | (first | refine wBlock ?_ | refine wScope ?_) | ((first | refine wRet ?_ | refine wExit ?_ | refine wSkip ?_); try simp) | ((first | refine wLabel ?_ | refine wOn ?_ | refine wQn ?_); try simp only [thenA_n]) | (refine And.intro (fun hc => ?_) (fun hc => ?_))
      · apply hr
        simp [Try.f65]
        intro h
        exact hc (hi.1 h).1
      · refine hL _ (N - 1) (by omega) ⟨k + 1, by omega, ?_⟩
        simp [h0, h1, h12, hw]
        rw [hi]; simp [hc]
    · have hd : a.drop k = [] := List.drop_of_length_le (by omega)
      have hd' : b.drop k = [] := List.drop_of_length_le (by omega)
      rw [hd, hd'] at hi
      repeat' first | (refine hK _ ?_; clear hK) | (refine hK _ _ ?_; clear hK) | (clear hK; refine hK _ ?_; clear hK) | (clear hK; clear hK; refine hK _ ?_; clear hK) | (clear hK; clear hK; clear hK; refine hK _ ?_; clear hK) | (clear hK; clear hK; clear hK; clear hK; refine hK _ ?_; clear hK) | (refine wSeq fun K hK => ?_) | ((first | refine wReg ?_ | refine wDrwQ rfl (by kernel_rfl) ?_ | refine wDrwI ?_ | refine wDrw (by kernel_rfl) ?_); simp only [List.map_cons, List.map_nil, strip]) | ((first | refine wIs fun K hK => ?_ | refine wOs fun K hK => ?_ | refine wQs fun K hK => ?_ | refine CallK_plain ?_ | refine CallQ_plain ?_ | refine CallR_plain ?_ | refine wCond ?_); simp [h0, h1, h12, h13, hlt]) | (refine wIn ?_; refine And.intro (by kernel_rfl) ?_; try simp only [thenA_n]) | (first | refine wBlock ?_ | refine wScope ?_) | ((first | refine wRet ?_ | refine wExit ?_ | refine wSkip ?_); try simp) | ((first | refine wLabel ?_ | refine wOn ?_ | refine wQn ?_); try simp only [thenA_n])
      apply hr
      simp [Try.f65]
      simpa using hi
  · have hne : ¬ a = b := fun h => hl (by rw [h])
    have hl' : ¬ ((a.length : Int) = b.length) := by omega
    refine wBody Try.tab Try.mixed Try.func65 rfl rfl Try.ntmps65 (by simp) (by simp) fun Q hr hn => ?_
    repeat' first | (refine hK _ ?_; clear hK) | (refine hK _ _ ?_; clear hK) | (clear hK; refine hK _ ?_; clear hK) | (clear hK; clear hK; refine hK _ ?_; clear hK) | (clear hK; clear hK; clear hK; refine hK _ ?_; clear hK) | (clear hK; clear hK; clear hK; clear hK; refine hK _ ?_; clear hK) | (refine wSeq fun K hK => ?_) | ((first | refine wReg ?_ | refine wDrwQ rfl (by kernel_rfl) ?_ | refine wDrwI ?_ | refine wDrw (by kernel_rfl) ?_); simp only [List.map_cons, List.map_nil, strip]) | ((first | refine wIs fun K hK => ?_ | refine wOs fun K hK => ?_ | refine wQs fun K hK => ?_ | refine CallK_plain ?_ | refine CallQ_plain ?_ | refine CallR_plain ?_ | refine wCond ?_); simp [hl, hl']) | (refine wIn ?_; refine And.intro (by kernel_rfl) ?_; try simp only [thenA_n]) | (first | refine wBlock ?_ | refine wScope ?_) | ((first | refine wRet ?_ | refine wExit ?_ | refine wSkip ?_); try simp) | ((first | refine wLabel ?_ | refine wOn ?_ | refine wQn ?_); try simp only [thenA_n])
    all_goals apply hr
    all_goals simp [Try.f65, hne]
structure Pt where
  (k : Int)
  (z : Zn)
  (s : Int)
  (c : Cf)
  deriving DecidableEq
def Pt.cells (x : Pt) : List PV := [I x.k, SB x.z.p, SB x.z.d, I x.z.v, I x.z.k, I x.z.o, I x.s, I x.c.ep, I x.c.n, I x.c.kind, .sl 4 (mbs x.c.ms)]
theorem Pt.ext8 {x y : Pt} : x = y ↔ x.k = y.k ∧ x.z.p = y.z.p ∧ x.z.d = y.z.d ∧ x.z.v = y.z.v ∧ x.z.k = y.z.k ∧ x.z.o = y.z.o ∧ x.s = y.s ∧ x.c = y.c := by
  cases x; cases y; simp only [Pt.mk.injEq, Zn.ext5]; simp only [and_assoc]
def pts (l : List Pt) : List (List PV) := l.map Pt.cells
@[simp] theorem pts_len (l : List Pt) : (pts l).length = l.length := by simp [pts]
@[simp] theorem pts_getElem (l : List Pt) (k : Nat) (h : k < (pts l).length) : (pts l)[k] = (l[k]'(by simpa using h)).cells := by simp [pts]
theorem samePart_con (x y : Pt) : ACon Try.prog 72 [.p (.agg x.cells), .p (.agg y.cells)] (.p (B (decide (x = y)))) := by
  have c := cfSame_con x.c y.c
  rw [show decide (x = y) = decide (x.k = y.k ∧ x.z.p = y.z.p ∧ x.z.d = y.z.d ∧ x.z.v = y.z.v ∧ x.z.k = y.z.k ∧ x.z.o = y.z.o ∧ x.s = y.s ∧ decide (x.c = y.c) = true) from by
    rw [decide_eq_decide, Pt.ext8]; simp]
  generalize decide (x.c = y.c) = b at c ⊢
  unfold Pt.cells
  unfold Cf.cells at c
  by_cases q0 : x.k = y.k
  rotate_left
  · rw [show decide (x.k = y.k ∧ x.z.p = y.z.p ∧ x.z.d = y.z.d ∧ x.z.v = y.z.v ∧ x.z.k = y.z.k ∧ x.z.o = y.z.o ∧ x.s = y.s ∧ b = true) = false from decide_eq_false fun h => q0 h.1]
    refine wBody Try.tab Try.mixed Try.func72 rfl rfl Try.ntmps72 (by simp) (by simp) fun Q hr hn => ?_
    repeat' first | (refine hK _ ?_; clear hK) | (refine hK _ _ ?_; clear hK) | (clear hK; refine hK _ ?_; clear hK) | (clear hK; clear hK; refine hK _ ?_; clear hK) | (clear hK; clear hK; clear hK; refine hK _ ?_; clear hK) | (clear hK; clear hK; clear hK; clear hK; refine hK _ ?_; clear hK) | (refine wSeq fun K hK => ?_) | ((first | refine wReg ?_ | refine wDrwQ rfl (by kernel_rfl) ?_ | refine wDrwI ?_ | refine wDrw (by kernel_rfl) ?_); simp only [List.map_cons, List.map_nil, strip]) | ((first | refine wIs fun K hK => ?_ | refine wOs fun K hK => ?_ | refine wQs fun K hK => ?_ | refine CallK_plain ?_ | refine CallQ_plain ?_ | refine CallR_plain ?_ | refine wCond ?_); simp [q0]) | (refine wIn ?_; refine And.intro (by kernel_rfl) ?_; try simp only [thenA_n]) | (first | refine wBlock ?_ | refine wScope ?_) | ((first | refine wRet ?_ | refine wExit ?_ | refine wSkip ?_); try simp) | ((first | refine wLabel ?_ | refine wOn ?_ | refine wQn ?_); try simp only [thenA_n]) | (refine CallE.pure (c) rfl ?_) | (refine CallE.lent (c) rfl ?_) | (refine CallF.pure (c) rfl ?_) | (refine CallF.lent (c) rfl ?_) | (refine CallE.own (c) ?_) | (refine CallH.pure (c) rfl ?_) | (refine CallH.lent (c) rfl ?_) | (refine CallH.own (c) ?_)
    all_goals apply hr
    all_goals simp [Try.f72]
  by_cases q1 : x.z.p = y.z.p
  rotate_left
  · rw [show decide (x.k = y.k ∧ x.z.p = y.z.p ∧ x.z.d = y.z.d ∧ x.z.v = y.z.v ∧ x.z.k = y.z.k ∧ x.z.o = y.z.o ∧ x.s = y.s ∧ b = true) = false from decide_eq_false fun h => q1 h.2.1]
    refine wBody Try.tab Try.mixed Try.func72 rfl rfl Try.ntmps72 (by simp) (by simp) fun Q hr hn => ?_
    repeat' first | (refine hK _ ?_; clear hK) | (refine hK _ _ ?_; clear hK) | (clear hK; refine hK _ ?_; clear hK) | (clear hK; clear hK; refine hK _ ?_; clear hK) | (clear hK; clear hK; clear hK; refine hK _ ?_; clear hK) | (clear hK; clear hK; clear hK; clear hK; refine hK _ ?_; clear hK) | (refine wSeq fun K hK => ?_) | ((first | refine wReg ?_ | refine wDrwQ rfl (by kernel_rfl) ?_ | refine wDrwI ?_ | refine wDrw (by kernel_rfl) ?_); simp only [List.map_cons, List.map_nil, strip]) | ((first | refine wIs fun K hK => ?_ | refine wOs fun K hK => ?_ | refine wQs fun K hK => ?_ | refine CallK_plain ?_ | refine CallQ_plain ?_ | refine CallR_plain ?_ | refine wCond ?_); simp [q0, q1]) | (refine wIn ?_; refine And.intro (by kernel_rfl) ?_; try simp only [thenA_n]) | (first | refine wBlock ?_ | refine wScope ?_) | ((first | refine wRet ?_ | refine wExit ?_ | refine wSkip ?_); try simp) | ((first | refine wLabel ?_ | refine wOn ?_ | refine wQn ?_); try simp only [thenA_n]) | (refine CallE.pure (c) rfl ?_) | (refine CallE.lent (c) rfl ?_) | (refine CallF.pure (c) rfl ?_) | (refine CallF.lent (c) rfl ?_) | (refine CallE.own (c) ?_) | (refine CallH.pure (c) rfl ?_) | (refine CallH.lent (c) rfl ?_) | (refine CallH.own (c) ?_)
    all_goals apply hr
    all_goals simp [Try.f72]
  by_cases q2 : x.z.d = y.z.d
  rotate_left
  · rw [show decide (x.k = y.k ∧ x.z.p = y.z.p ∧ x.z.d = y.z.d ∧ x.z.v = y.z.v ∧ x.z.k = y.z.k ∧ x.z.o = y.z.o ∧ x.s = y.s ∧ b = true) = false from decide_eq_false fun h => q2 h.2.2.1]
    refine wBody Try.tab Try.mixed Try.func72 rfl rfl Try.ntmps72 (by simp) (by simp) fun Q hr hn => ?_
    repeat' first | (refine hK _ ?_; clear hK) | (refine hK _ _ ?_; clear hK) | (clear hK; refine hK _ ?_; clear hK) | (clear hK; clear hK; refine hK _ ?_; clear hK) | (clear hK; clear hK; clear hK; refine hK _ ?_; clear hK) | (clear hK; clear hK; clear hK; clear hK; refine hK _ ?_; clear hK) | (refine wSeq fun K hK => ?_) | ((first | refine wReg ?_ | refine wDrwQ rfl (by kernel_rfl) ?_ | refine wDrwI ?_ | refine wDrw (by kernel_rfl) ?_); simp only [List.map_cons, List.map_nil, strip]) | ((first | refine wIs fun K hK => ?_ | refine wOs fun K hK => ?_ | refine wQs fun K hK => ?_ | refine CallK_plain ?_ | refine CallQ_plain ?_ | refine CallR_plain ?_ | refine wCond ?_); simp [q0, q1, q2]) | (refine wIn ?_; refine And.intro (by kernel_rfl) ?_; try simp only [thenA_n]) | (first | refine wBlock ?_ | refine wScope ?_) | ((first | refine wRet ?_ | refine wExit ?_ | refine wSkip ?_); try simp) | ((first | refine wLabel ?_ | refine wOn ?_ | refine wQn ?_); try simp only [thenA_n]) | (refine CallE.pure (c) rfl ?_) | (refine CallE.lent (c) rfl ?_) | (refine CallF.pure (c) rfl ?_) | (refine CallF.lent (c) rfl ?_) | (refine CallE.own (c) ?_) | (refine CallH.pure (c) rfl ?_) | (refine CallH.lent (c) rfl ?_) | (refine CallH.own (c) ?_)
    all_goals apply hr
    all_goals simp [Try.f72]
  by_cases q3 : x.z.v = y.z.v
  rotate_left
  · rw [show decide (x.k = y.k ∧ x.z.p = y.z.p ∧ x.z.d = y.z.d ∧ x.z.v = y.z.v ∧ x.z.k = y.z.k ∧ x.z.o = y.z.o ∧ x.s = y.s ∧ b = true) = false from decide_eq_false fun h => q3 h.2.2.2.1]
    refine wBody Try.tab Try.mixed Try.func72 rfl rfl Try.ntmps72 (by simp) (by simp) fun Q hr hn => ?_
    repeat' first | (refine hK _ ?_; clear hK) | (refine hK _ _ ?_; clear hK) | (clear hK; refine hK _ ?_; clear hK) | (clear hK; clear hK; refine hK _ ?_; clear hK) | (clear hK; clear hK; clear hK; refine hK _ ?_; clear hK) | (clear hK; clear hK; clear hK; clear hK; refine hK _ ?_; clear hK) | (refine wSeq fun K hK => ?_) | ((first | refine wReg ?_ | refine wDrwQ rfl (by kernel_rfl) ?_ | refine wDrwI ?_ | refine wDrw (by kernel_rfl) ?_); simp only [List.map_cons, List.map_nil, strip]) | ((first | refine wIs fun K hK => ?_ | refine wOs fun K hK => ?_ | refine wQs fun K hK => ?_ | refine CallK_plain ?_ | refine CallQ_plain ?_ | refine CallR_plain ?_ | refine wCond ?_); simp [q0, q1, q2, q3]) | (refine wIn ?_; refine And.intro (by kernel_rfl) ?_; try simp only [thenA_n]) | (first | refine wBlock ?_ | refine wScope ?_) | ((first | refine wRet ?_ | refine wExit ?_ | refine wSkip ?_); try simp) | ((first | refine wLabel ?_ | refine wOn ?_ | refine wQn ?_); try simp only [thenA_n]) | (refine CallE.pure (c) rfl ?_) | (refine CallE.lent (c) rfl ?_) | (refine CallF.pure (c) rfl ?_) | (refine CallF.lent (c) rfl ?_) | (refine CallE.own (c) ?_) | (refine CallH.pure (c) rfl ?_) | (refine CallH.lent (c) rfl ?_) | (refine CallH.own (c) ?_)
    all_goals apply hr
    all_goals simp [Try.f72]
  by_cases q4 : x.z.k = y.z.k
  rotate_left
  · rw [show decide (x.k = y.k ∧ x.z.p = y.z.p ∧ x.z.d = y.z.d ∧ x.z.v = y.z.v ∧ x.z.k = y.z.k ∧ x.z.o = y.z.o ∧ x.s = y.s ∧ b = true) = false from decide_eq_false fun h => q4 h.2.2.2.2.1]
    refine wBody Try.tab Try.mixed Try.func72 rfl rfl Try.ntmps72 (by simp) (by simp) fun Q hr hn => ?_
    repeat' first | (refine hK _ ?_; clear hK) | (refine hK _ _ ?_; clear hK) | (clear hK; refine hK _ ?_; clear hK) | (clear hK; clear hK; refine hK _ ?_; clear hK) | (clear hK; clear hK; clear hK; refine hK _ ?_; clear hK) | (clear hK; clear hK; clear hK; clear hK; refine hK _ ?_; clear hK) | (refine wSeq fun K hK => ?_) | ((first | refine wReg ?_ | refine wDrwQ rfl (by kernel_rfl) ?_ | refine wDrwI ?_ | refine wDrw (by kernel_rfl) ?_); simp only [List.map_cons, List.map_nil, strip]) | ((first | refine wIs fun K hK => ?_ | refine wOs fun K hK => ?_ | refine wQs fun K hK => ?_ | refine CallK_plain ?_ | refine CallQ_plain ?_ | refine CallR_plain ?_ | refine wCond ?_); simp [q0, q1, q2, q3, q4]) | (refine wIn ?_; refine And.intro (by kernel_rfl) ?_; try simp only [thenA_n]) | (first | refine wBlock ?_ | refine wScope ?_) | ((first | refine wRet ?_ | refine wExit ?_ | refine wSkip ?_); try simp) | ((first | refine wLabel ?_ | refine wOn ?_ | refine wQn ?_); try simp only [thenA_n]) | (refine CallE.pure (c) rfl ?_) | (refine CallE.lent (c) rfl ?_) | (refine CallF.pure (c) rfl ?_) | (refine CallF.lent (c) rfl ?_) | (refine CallE.own (c) ?_) | (refine CallH.pure (c) rfl ?_) | (refine CallH.lent (c) rfl ?_) | (refine CallH.own (c) ?_)
    all_goals apply hr
    all_goals simp [Try.f72]
  by_cases q5 : x.z.o = y.z.o
  rotate_left
  · rw [show decide (x.k = y.k ∧ x.z.p = y.z.p ∧ x.z.d = y.z.d ∧ x.z.v = y.z.v ∧ x.z.k = y.z.k ∧ x.z.o = y.z.o ∧ x.s = y.s ∧ b = true) = false from decide_eq_false fun h => q5 h.2.2.2.2.2.1]
    refine wBody Try.tab Try.mixed Try.func72 rfl rfl Try.ntmps72 (by simp) (by simp) fun Q hr hn => ?_
    repeat' first | (refine hK _ ?_; clear hK) | (refine hK _ _ ?_; clear hK) | (clear hK; refine hK _ ?_; clear hK) | (clear hK; clear hK; refine hK _ ?_; clear hK) | (clear hK; clear hK; clear hK; refine hK _ ?_; clear hK) | (clear hK; clear hK; clear hK; clear hK; refine hK _ ?_; clear hK) | (refine wSeq fun K hK => ?_) | ((first | refine wReg ?_ | refine wDrwQ rfl (by kernel_rfl) ?_ | refine wDrwI ?_ | refine wDrw (by kernel_rfl) ?_); simp only [List.map_cons, List.map_nil, strip]) | ((first | refine wIs fun K hK => ?_ | refine wOs fun K hK => ?_ | refine wQs fun K hK => ?_ | refine CallK_plain ?_ | refine CallQ_plain ?_ | refine CallR_plain ?_ | refine wCond ?_); simp [q0, q1, q2, q3, q4, q5]) | (refine wIn ?_; refine And.intro (by kernel_rfl) ?_; try simp only [thenA_n]) | (first | refine wBlock ?_ | refine wScope ?_) | ((first | refine wRet ?_ | refine wExit ?_ | refine wSkip ?_); try simp) | ((first | refine wLabel ?_ | refine wOn ?_ | refine wQn ?_); try simp only [thenA_n]) | (refine CallE.pure (c) rfl ?_) | (refine CallE.lent (c) rfl ?_) | (refine CallF.pure (c) rfl ?_) | (refine CallF.lent (c) rfl ?_) | (refine CallE.own (c) ?_) | (refine CallH.pure (c) rfl ?_) | (refine CallH.lent (c) rfl ?_) | (refine CallH.own (c) ?_)
    all_goals apply hr
    all_goals simp [Try.f72]
  by_cases q6 : x.s = y.s
  rotate_left
  · rw [show decide (x.k = y.k ∧ x.z.p = y.z.p ∧ x.z.d = y.z.d ∧ x.z.v = y.z.v ∧ x.z.k = y.z.k ∧ x.z.o = y.z.o ∧ x.s = y.s ∧ b = true) = false from decide_eq_false fun h => q6 h.2.2.2.2.2.2.1]
    refine wBody Try.tab Try.mixed Try.func72 rfl rfl Try.ntmps72 (by simp) (by simp) fun Q hr hn => ?_
    repeat' first | (refine hK _ ?_; clear hK) | (refine hK _ _ ?_; clear hK) | (clear hK; refine hK _ ?_; clear hK) | (clear hK; clear hK; refine hK _ ?_; clear hK) | (clear hK; clear hK; clear hK; refine hK _ ?_; clear hK) | (clear hK; clear hK; clear hK; clear hK; refine hK _ ?_; clear hK) | (refine wSeq fun K hK => ?_) | ((first | refine wReg ?_ | refine wDrwQ rfl (by kernel_rfl) ?_ | refine wDrwI ?_ | refine wDrw (by kernel_rfl) ?_); simp only [List.map_cons, List.map_nil, strip]) | ((first | refine wIs fun K hK => ?_ | refine wOs fun K hK => ?_ | refine wQs fun K hK => ?_ | refine CallK_plain ?_ | refine CallQ_plain ?_ | refine CallR_plain ?_ | refine wCond ?_); simp [q0, q1, q2, q3, q4, q5, q6]) | (refine wIn ?_; refine And.intro (by kernel_rfl) ?_; try simp only [thenA_n]) | (first | refine wBlock ?_ | refine wScope ?_) | ((first | refine wRet ?_ | refine wExit ?_ | refine wSkip ?_); try simp) | ((first | refine wLabel ?_ | refine wOn ?_ | refine wQn ?_); try simp only [thenA_n]) | (refine CallE.pure (c) rfl ?_) | (refine CallE.lent (c) rfl ?_) | (refine CallF.pure (c) rfl ?_) | (refine CallF.lent (c) rfl ?_) | (refine CallE.own (c) ?_) | (refine CallH.pure (c) rfl ?_) | (refine CallH.lent (c) rfl ?_) | (refine CallH.own (c) ?_)
    all_goals apply hr
    all_goals simp [Try.f72]
  by_cases q7 : b = true
  rotate_left
  · rw [show decide (x.k = y.k ∧ x.z.p = y.z.p ∧ x.z.d = y.z.d ∧ x.z.v = y.z.v ∧ x.z.k = y.z.k ∧ x.z.o = y.z.o ∧ x.s = y.s ∧ b = true) = false from decide_eq_false fun h => q7 h.2.2.2.2.2.2.2]
    refine wBody Try.tab Try.mixed Try.func72 rfl rfl Try.ntmps72 (by simp) (by simp) fun Q hr hn => ?_
    repeat' first | (refine hK _ ?_; clear hK) | (refine hK _ _ ?_; clear hK) | (clear hK; refine hK _ ?_; clear hK) | (clear hK; clear hK; refine hK _ ?_; clear hK) | (clear hK; clear hK; clear hK; refine hK _ ?_; clear hK) | (clear hK; clear hK; clear hK; clear hK; refine hK _ ?_; clear hK) | (refine wSeq fun K hK => ?_) | ((first | refine wReg ?_ | refine wDrwQ rfl (by kernel_rfl) ?_ | refine wDrwI ?_ | refine wDrw (by kernel_rfl) ?_); simp only [List.map_cons, List.map_nil, strip]) | ((first | refine wIs fun K hK => ?_ | refine wOs fun K hK => ?_ | refine wQs fun K hK => ?_ | refine CallK_plain ?_ | refine CallQ_plain ?_ | refine CallR_plain ?_ | refine wCond ?_); simp [q0, q1, q2, q3, q4, q5, q6, q7]) | (refine wIn ?_; refine And.intro (by kernel_rfl) ?_; try simp only [thenA_n]) | (first | refine wBlock ?_ | refine wScope ?_) | ((first | refine wRet ?_ | refine wExit ?_ | refine wSkip ?_); try simp) | ((first | refine wLabel ?_ | refine wOn ?_ | refine wQn ?_); try simp only [thenA_n]) | (refine CallE.pure (c) rfl ?_) | (refine CallE.lent (c) rfl ?_) | (refine CallF.pure (c) rfl ?_) | (refine CallF.lent (c) rfl ?_) | (refine CallE.own (c) ?_) | (refine CallH.pure (c) rfl ?_) | (refine CallH.lent (c) rfl ?_) | (refine CallH.own (c) ?_)
    all_goals apply hr
    all_goals simp [Try.f72]
  rw [show decide (x.k = y.k ∧ x.z.p = y.z.p ∧ x.z.d = y.z.d ∧ x.z.v = y.z.v ∧ x.z.k = y.z.k ∧ x.z.o = y.z.o ∧ x.s = y.s ∧ b = true) = true from decide_eq_true ⟨q0, q1, q2, q3, q4, q5, q6, q7⟩]
  refine wBody Try.tab Try.mixed Try.func72 rfl rfl Try.ntmps72 (by simp) (by simp) fun Q hr hn => ?_
  repeat' first | (refine hK _ ?_; clear hK) | (refine hK _ _ ?_; clear hK) | (clear hK; refine hK _ ?_; clear hK) | (clear hK; clear hK; refine hK _ ?_; clear hK) | (clear hK; clear hK; clear hK; refine hK _ ?_; clear hK) | (clear hK; clear hK; clear hK; clear hK; refine hK _ ?_; clear hK) | (refine wSeq fun K hK => ?_) | ((first | refine wReg ?_ | refine wDrwQ rfl (by kernel_rfl) ?_ | refine wDrwI ?_ | refine wDrw (by kernel_rfl) ?_); simp only [List.map_cons, List.map_nil, strip]) | ((first | refine wIs fun K hK => ?_ | refine wOs fun K hK => ?_ | refine wQs fun K hK => ?_ | refine CallK_plain ?_ | refine CallQ_plain ?_ | refine CallR_plain ?_ | refine wCond ?_); simp [q0, q1, q2, q3, q4, q5, q6, q7]) | (refine wIn ?_; refine And.intro (by kernel_rfl) ?_; try simp only [thenA_n]) | (first | refine wBlock ?_ | refine wScope ?_) | ((first | refine wRet ?_ | refine wExit ?_ | refine wSkip ?_); try simp) | ((first | refine wLabel ?_ | refine wOn ?_ | refine wQn ?_); try simp only [thenA_n]) | (refine CallE.pure (c) rfl ?_) | (refine CallE.lent (c) rfl ?_) | (refine CallF.pure (c) rfl ?_) | (refine CallF.lent (c) rfl ?_) | (refine CallE.own (c) ?_) | (refine CallH.pure (c) rfl ?_) | (refine CallH.lent (c) rfl ?_) | (refine CallH.own (c) ?_)
  all_goals apply hr
  all_goals simp [Try.f72]
end Go.Proofs.Ytpadfoaigbfekaa
