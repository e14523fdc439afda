/- The laws QuorumIs and QuorumMeets. -/
import Derived.Test.YtehopfedgkmalaaQG
namespace Go.Proofs.Ytehopfedgkmalaa
set_option linter.unusedSimpArgs false
set_option linter.unusedVariables false
open Go Go.Av
attribute [local simp] Try.T
attribute [local irreducible] Go.Av.CallK Go.Av.CallE Go.Av.CallQ Go.Av.CallF Go.Av.Con

theorem quorumIs_con (l : List Cf) (set : List Int) : ACon Try.prog 3 [.p (.sl 4 (cfs l)), .p (.sl 1 (ints set))] (.p (B true)) := by
  by_cases hl : 20 < l.length
  · have hl' : (20 : Int) < l.length := by omega
    refine wBody Try.tab Try.mixed Try.func3 rfl rfl Try.ntmps3 (by simp) (by simp) fun Q hr hn => ?_
    repeat' first | (refine hK _ ?_; clear hK) | (clear hK; refine hK _ ?_; clear hK) | (clear hK; clear hK; refine hK _ ?_; clear hK) | (clear hK; clear hK; clear hK; refine hK _ ?_; clear hK) | (clear hK; clear hK; clear hK; clear hK; refine hK _ ?_; clear hK) | (refine wSeq fun K hK => ?_) | (refine wReg ?_; simp only [List.map_cons, List.map_nil, strip]) | (refine wDrw (by kernel_rfl) ?_; simp only [List.map_cons, List.map_nil, strip]) | (refine wOs fun K hK => ?_; simp [hl, hl']) | (refine wQs fun K hK => ?_; simp [hl, hl']) | (refine CallK_plain ?_; simp [hl, hl']) | (refine CallQ_plain ?_; simp [hl, hl']) | (refine wRet ?_; try simp) | (refine wCond ?_; simp [hl, hl']) | (refine wBlock ?_) | (refine wExit ?_; try simp) | (refine wSkip ?_; try simp) | (refine wOn ?_; try simp only [thenA_n]) | (refine wQn ?_; try simp only [thenA_n]) | (refine CallE.pure (awake05) rfl ?_) | (refine CallE.lent (awake05) rfl ?_) | (refine CallF.pure (awake05) rfl ?_) | (refine CallF.lent (awake05) rfl ?_) | (refine CallE.own (awake05) ?_)
    all_goals apply hr
    all_goals simp [Try.f3]
  have hl' : ¬ (20 : Int) < l.length := by omega
  refine wBody Try.tab Try.mixed Try.func3 rfl rfl Try.ntmps3 (by simp) (by simp) fun Q hr hn => ?_
  repeat' first | (refine hK _ ?_; clear hK) | (clear hK; refine hK _ ?_; clear hK) | (clear hK; clear hK; refine hK _ ?_; clear hK) | (clear hK; clear hK; clear hK; refine hK _ ?_; clear hK) | (clear hK; clear hK; clear hK; clear hK; refine hK _ ?_; clear hK) | (refine wSeq fun K hK => ?_) | (refine wReg ?_; simp only [List.map_cons, List.map_nil, strip]) | (refine wDrw (by kernel_rfl) ?_; simp only [List.map_cons, List.map_nil, strip]) | (refine wOs fun K hK => ?_; simp [hl, hl']) | (refine wQs fun K hK => ?_; simp [hl, hl']) | (refine CallK_plain ?_; simp [hl, hl']) | (refine CallQ_plain ?_; simp [hl, hl']) | (refine wRet ?_; try simp) | (refine wCond ?_; simp [hl, hl']) | (refine wBlock ?_) | (refine wExit ?_; try simp) | (refine wSkip ?_; try simp) | (refine wOn ?_; try simp only [thenA_n]) | (refine wQn ?_; try simp only [thenA_n])
  refine wLoop (fun N st => ∃ (k : Nat), k + N = l.length ∧ st.s 0 = .p (.sl 4 (cfs l)) ∧ st.s 1 = .p (.sl 1 (ints set)) ∧ st.s 11 = .p (.sl 4 (cfs l)) ∧ st.s 12 = .p (I l.length) ∧ st.s 13 = .p (I k) ∧ ∀ c ∈ l.take k, c.ms.length ≤ 100) l.length ⟨0, by simp⟩ fun K N st hL ⟨k, hk, h0, h1, h11, h12, h13, hi⟩ => ?_
  by_cases hlt : k < l.length
  · have hw := wrapS k _ hlt (by omega)
    have hf := far_con l[k] [set] (by simp)
    simp only [lists, List.map_cons, List.map_nil, Cf.cells] at hf
    by_cases hfar : 100 < mx l[k].ms.length [set]
    · rw [decide_eq_true hfar] at hf
      repeat' first | (refine hK _ ?_; clear hK) | (clear hK; refine hK _ ?_; clear hK) | (clear hK; clear hK; refine hK _ ?_; clear hK) | (clear hK; clear hK; clear hK; refine hK _ ?_; clear hK) | (clear hK; clear hK; clear hK; clear hK; refine hK _ ?_; clear hK) | (refine wSeq fun K hK => ?_) | (refine wReg ?_; simp only [List.map_cons, List.map_nil, strip]) | (refine wDrw (by kernel_rfl) ?_; simp only [List.map_cons, List.map_nil, strip]) | (refine wOs fun K hK => ?_; simp [h0, h1, h11, h12, h13, hlt, hw]) | (refine wQs fun K hK => ?_; simp [h0, h1, h11, h12, h13, hlt, hw]) | (refine CallK_plain ?_; simp [h0, h1, h11, h12, h13, hlt, hw]) | (refine CallQ_plain ?_; simp [h0, h1, h11, h12, h13, hlt, hw]) | (refine wRet ?_; try simp) | (refine wCond ?_; simp [h0, h1, h11, h12, h13, hlt, hw]) | (refine wBlock ?_) | (refine wExit ?_; try simp) | (refine wSkip ?_; try simp) | (refine wOn ?_; try simp only [thenA_n]) | (refine wQn ?_; try simp only [thenA_n]) | (refine CallE.pure (hf) rfl ?_) | (refine CallE.lent (hf) rfl ?_) | (refine CallF.pure (hf) rfl ?_) | (refine CallF.lent (hf) rfl ?_) | (refine CallE.own (hf) ?_) | (refine CallE.pure (awake05) rfl ?_) | (refine CallE.lent (awake05) rfl ?_) | (refine CallF.pure (awake05) rfl ?_) | (refine CallF.lent (awake05) rfl ?_) | (refine CallE.own (awake05) ?_)
      all_goals apply hr
      all_goals simp [Try.f3]
    · rw [decide_eq_false hfar] at hf
      have hb := (mx_le [set] l[k].ms.length).1
      have hm : l[k].ms.length ≤ 1000000 := by omega
      have c1 := is_con l[k] set hm
      have c2 := is05_con l[k] set hm
      have c3 := whole_con l[k] hm
      have c4 := whole05_con l[k] hm
      generalize isQ l[k] set = z at c1 c2
      generalize isQ l[k] (ids l[k].ms 1) = y at c3 c4
      simp only [Cf.cells] at c1 c2 c3 c4
      repeat' first | (refine hK _ ?_; clear hK) | (clear hK; refine hK _ ?_; clear hK) | (clear hK; clear hK; refine hK _ ?_; clear hK) | (clear hK; clear hK; clear hK; refine hK _ ?_; clear hK) | (clear hK; clear hK; clear hK; clear hK; refine hK _ ?_; clear hK) | (refine wSeq fun K hK => ?_) | (refine wReg ?_; simp only [List.map_cons, List.map_nil, strip]) | (refine wDrw (by kernel_rfl) ?_; simp only [List.map_cons, List.map_nil, strip]) | (refine wOs fun K hK => ?_; simp [h0, h1, h11, h12, h13, hlt, hw]) | (refine wQs fun K hK => ?_; simp [h0, h1, h11, h12, h13, hlt, hw]) | (refine CallK_plain ?_; simp [h0, h1, h11, h12, h13, hlt, hw]) | (refine CallQ_plain ?_; simp [h0, h1, h11, h12, h13, hlt, hw]) | (refine wRet ?_; try simp) | (refine wCond ?_; simp [h0, h1, h11, h12, h13, hlt, hw]) | (refine wBlock ?_) | (refine wExit ?_; try simp) | (refine wSkip ?_; try simp) | (refine wOn ?_; try simp only [thenA_n]) | (refine wQn ?_; try simp only [thenA_n]) | (refine CallE.pure (hf) rfl ?_) | (refine CallE.lent (hf) rfl ?_) | (refine CallF.pure (hf) rfl ?_) | (refine CallF.lent (hf) rfl ?_) | (refine CallE.own (hf) ?_) | (refine CallE.pure (c1) rfl ?_) | (refine CallE.lent (c1) rfl ?_) | (refine CallF.pure (c1) rfl ?_) | (refine CallF.lent (c1) rfl ?_) | (refine CallE.own (c1) ?_) | (refine CallE.pure (c2) rfl ?_) | (refine CallE.lent (c2) rfl ?_) | (refine CallF.pure (c2) rfl ?_) | (refine CallF.lent (c2) rfl ?_) | (refine CallE.own (c2) ?_) | (refine CallE.pure (c3) rfl ?_) | (refine CallE.lent (c3) rfl ?_) | (refine CallF.pure (c3) rfl ?_) | (refine CallF.lent (c3) rfl ?_) | (refine CallE.own (c3) ?_) | (refine CallE.pure (c4) rfl ?_) | (refine CallE.lent (c4) rfl ?_) | (refine CallF.pure (c4) rfl ?_) | (refine CallF.lent (c4) rfl ?_) | (refine CallE.own (c4) ?_)
      refine hL _ (N - 1) (by omega) ⟨k + 1, by omega, ?_⟩
      have hi' : ∀ c ∈ l.take (k + 1), c.ms.length ≤ 100 := fun c hc => by
        rw [take_snoc _ k hlt] at hc
        rcases List.mem_append.1 hc with hc | hc
        · exact hi c hc
        · rw [List.mem_singleton.1 hc]; omega
      refine ⟨?_, ?_, ?_, ?_, ?_, hi'⟩
      all_goals simp [h0, h1, h11, h12, hw]
  · rw [List.take_of_length_le (by omega)] at hi
    have c1 := all_con l set (by omega) (fun c hc => by have := hi c hc; omega)
    have c2 := all05_con l set (by omega) (fun c hc => by have := hi c hc; omega)
    generalize allQ l set = z at c1 c2
    repeat' first | (refine hK _ ?_; clear hK) | (clear hK; refine hK _ ?_; clear hK) | (clear hK; clear hK; refine hK _ ?_; clear hK) | (clear hK; clear hK; clear hK; refine hK _ ?_; clear hK) | (clear hK; clear hK; clear hK; clear hK; refine hK _ ?_; clear hK) | (refine wSeq fun K hK => ?_) | (refine wReg ?_; simp only [List.map_cons, List.map_nil, strip]) | (refine wDrw (by kernel_rfl) ?_; simp only [List.map_cons, List.map_nil, strip]) | (refine wOs fun K hK => ?_; simp [h0, h1, h11, h12, h13, hlt]) | (refine wQs fun K hK => ?_; simp [h0, h1, h11, h12, h13, hlt]) | (refine CallK_plain ?_; simp [h0, h1, h11, h12, h13, hlt]) | (refine CallQ_plain ?_; simp [h0, h1, h11, h12, h13, hlt]) | (refine wRet ?_; try simp) | (refine wCond ?_; simp [h0, h1, h11, h12, h13, hlt]) | (refine wBlock ?_) | (refine wExit ?_; try simp) | (refine wSkip ?_; try simp) | (refine wOn ?_; try simp only [thenA_n]) | (refine wQn ?_; try simp only [thenA_n]) | (refine CallE.pure (c1) rfl ?_) | (refine CallE.lent (c1) rfl ?_) | (refine CallF.pure (c1) rfl ?_) | (refine CallF.lent (c1) rfl ?_) | (refine CallE.own (c1) ?_) | (refine CallE.pure (c2) rfl ?_) | (refine CallE.lent (c2) rfl ?_) | (refine CallF.pure (c2) rfl ?_) | (refine CallF.lent (c2) rfl ?_) | (refine CallE.own (c2) ?_) | (refine CallE.pure (awake05) rfl ?_) | (refine CallE.lent (awake05) rfl ?_) | (refine CallF.pure (awake05) rfl ?_) | (refine CallF.lent (awake05) rfl ?_) | (refine CallE.own (awake05) ?_)
    all_goals apply hr
    all_goals simp [Try.f3]

/-! ### Two quorums meet -/
theorem tot_le (f : Mb → Int) (p q : Mb → Bool) : ∀ l : List Mb, (∀ m ∈ l, 0 ≤ f m) → (∀ m ∈ l, m.r = 1 → p m = true → q m = true) → tot f p l ≤ tot f q l
  | [], _, _ => by simp [tot]
  | m :: l, h, hpq => by
    have h1 := tot_le f p q l (fun x hx => h x (List.mem_cons_of_mem _ hx)) (fun x hx => hpq x (List.mem_cons_of_mem _ hx))
    have h2 := h m (by simp)
    have h3 := hpq m (by simp)
    simp only [tot]
    by_cases a : m.r = 1 ∧ p m = true
    · rw [if_pos a, if_pos ⟨a.1, h3 a.1 a.2⟩]; omega
    · rw [if_neg a]; split <;> omega
theorem tot_apart (f : Mb → Int) (p q u : Mb → Bool) : ∀ l : List Mb, (∀ m ∈ l, 0 ≤ f m) → (∀ m ∈ l, m.r = 1 → p m = true → q m = true → False) → (∀ m ∈ l, p m = true → u m = true) → (∀ m ∈ l, q m = true → u m = true) → tot f p l + tot f q l ≤ tot f u l
  | [], _, _, _, _ => by simp [tot]
  | m :: l, h, hpq, hp, hq => by
    have h1 := tot_apart f p q u l (fun x hx => h x (List.mem_cons_of_mem _ hx)) (fun x hx => hpq x (List.mem_cons_of_mem _ hx)) (fun x hx => hp x (List.mem_cons_of_mem _ hx)) (fun x hx => hq x (List.mem_cons_of_mem _ hx))
    have h2 := h m (by simp)
    have h3 := hpq m (by simp)
    have h4 := hp m (by simp)
    have h5 := hq m (by simp)
    simp only [tot]
    by_cases a : m.r = 1
    · cases hpm : p m <;> cases hqm : q m <;> simp only [a, hpm, hqm, true_and, Bool.false_eq_true, if_false, if_true] at h3 h4 h5 ⊢
      · split <;> omega
      · rw [if_pos (h5 trivial)]; omega
      · rw [if_pos (h4 trivial)]; omega
      · exact (h3 trivial trivial trivial).elim
    · simp only [a, false_and, if_false]; omega
theorem num_apart (p q u : Nat → Bool) : ∀ k, (∀ g, g < k → p g = true → q g = true → False) → (∀ g, p g = true → u g = true) → (∀ g, q g = true → u g = true) → num p k + num q k ≤ num u k
  | 0, _, _, _ => by simp [num]
  | k + 1, hpq, hp, hq => by
    have h1 := num_apart p q u k (fun g hg => hpq g (by omega)) hp hq
    have h3 := hpq k (by omega)
    have h4 := hp k
    have h5 := hq k
    simp only [num]
    cases hpm : p k <;> cases hqm : q k <;> simp only [hpm, hqm, Bool.false_eq_true, if_false, if_true] at h3 h4 h5 ⊢
    · split <;> omega
    · rw [if_pos (h5 trivial)]; omega
    · rw [if_pos (h4 trivial)]; omega
    · exact (h3 trivial trivial).elim
theorem won_has (set : List Int) (l : List Mb) (ho : okL l) (g : Nat) (h : wonG set l g = true) : hasG l g = true := by
  have h1 := tot_le Mb.w (inG (inS set) g) (inG yes g) l (fun m hm => (okL_w ho m hm).1) (fun m _ _ hp => by simp [inG, yes] at hp ⊢; exact hp.1)
  have h2 := tot_bound Mb.w (inG (inS set) g) l (okL_w ho)
  simp only [wonG, hasG, decide_eq_true_eq] at h ⊢
  omega
theorem quorums_meet {c : Cf} {a b : List Int} (ha : isQ c a = true) (hb : isQ c b = true) : ∃ m ∈ c.ms, m.r = 1 ∧ m.i ∈ a ∧ m.i ∈ b := by
  by_cases hc : check c = 0
  rotate_left
  · unfold isQ at ha; rw [if_neg hc] at ha; simp at ha
  obtain ⟨-, hf, -⟩ := check_ok hc
  have ho := fine_ok _ _ hf
  unfold isQ at ha hb
  rw [if_pos hc] at ha hb
  unfold enough at ha hb
  refine Classical.byContradiction fun hno => ?_
  have hd : ∀ m ∈ c.ms, m.r = 1 → inS a m = true → inS b m = true → False := fun m hm h1 h2 h3 => hno ⟨m, hm, h1, by simpa [inS] using h2, by simpa [inS] using h3⟩
  by_cases k1 : c.kind = 1
  · rw [if_pos k1, decide_eq_true_eq] at ha hb
    have := tot_apart one (inS a) (inS b) yes c.ms (fun m _ => by simp [one]) hd (fun _ _ _ => rfl) (fun _ _ _ => rfl)
    omega
  rw [if_neg k1] at ha hb
  by_cases k2 : c.kind = 2
  · rw [if_pos k2, decide_eq_true_eq] at ha hb
    have := tot_apart Mb.w (inS a) (inS b) yes c.ms (fun m hm => (okL_w ho m hm).1) hd (fun _ _ _ => rfl) (fun _ _ _ => rfl)
    omega
  rw [if_neg k2, decide_eq_true_eq] at ha hb
  have := num_apart (wonG a c.ms) (wonG b c.ms) (hasG c.ms) 8 (fun g _ h1 h2 => by
    simp only [wonG, decide_eq_true_eq] at h1 h2
    have := tot_apart Mb.w (inG (inS a) g) (inG (inS b) g) (inG yes g) c.ms (fun m hm => (okL_w ho m hm).1) (fun m hm e1 e2 e3 => by
      simp only [inG, Bool.and_eq_true] at e2 e3
      exact hd m hm e1 e2.2 e3.2) (fun m _ e => by simp [inG, yes] at e ⊢; exact e.1) (fun m _ e => by simp [inG, yes] at e ⊢; exact e.1)
    omega) (won_has a c.ms ho) (won_has b c.ms ho)
  omega

theorem quorumMeets_con (c : Cf) (a b : List Int) : ACon Try.prog 5 [.p (.agg c.cells), .p (.sl 1 (ints a)), .p (.sl 1 (ints b))] (.p (B true)) := by
  have hf := far_con c [a, b] (by simp)
  have hmeet := @quorums_meet c a b
  have hb := (mx_le [a, b] c.ms.length).1
  by_cases hfar : 100 < mx c.ms.length [a, b]
  · rw [decide_eq_true hfar] at hf
    obtain ⟨ep, n, kind, l⟩ := c
    simp only [lists, List.map_cons, List.map_nil, Cf.cells] at hf ⊢
    refine wBody Try.tab Try.mixed Try.func5 rfl rfl Try.ntmps5 (by simp) (by simp) fun Q hr hn => ?_
    repeat' first | (refine hK _ ?_; clear hK) | (clear hK; refine hK _ ?_; clear hK) | (clear hK; clear hK; refine hK _ ?_; clear hK) | (clear hK; clear hK; clear hK; refine hK _ ?_; clear hK) | (clear hK; clear hK; clear hK; clear hK; refine hK _ ?_; clear hK) | (refine wSeq fun K hK => ?_) | (refine wReg ?_; simp only [List.map_cons, List.map_nil, strip]) | (refine wDrw (by kernel_rfl) ?_; simp only [List.map_cons, List.map_nil, strip]) | (refine wOs fun K hK => ?_; simp) | (refine wQs fun K hK => ?_; simp) | (refine CallK_plain ?_; simp) | (refine CallQ_plain ?_; simp) | (refine wRet ?_; try simp) | (refine wCond ?_; simp) | (refine wBlock ?_) | (refine wExit ?_; try simp) | (refine wSkip ?_; try simp) | (refine wOn ?_; try simp only [thenA_n]) | (refine wQn ?_; try simp only [thenA_n]) | (refine CallE.pure (hf) rfl ?_) | (refine CallE.lent (hf) rfl ?_) | (refine CallF.pure (hf) rfl ?_) | (refine CallF.lent (hf) rfl ?_) | (refine CallE.own (hf) ?_) | (refine CallE.pure (awake05) rfl ?_) | (refine CallE.lent (awake05) rfl ?_) | (refine CallF.pure (awake05) rfl ?_) | (refine CallF.lent (awake05) rfl ?_) | (refine CallE.own (awake05) ?_)
    all_goals apply hr
    all_goals simp [Try.f5]
  rw [decide_eq_false hfar] at hf
  have hm : c.ms.length ≤ 1000000 := by omega
  have c1 := is_con c a hm
  have c2 := is_con c b hm
  by_cases ha : isQ c a = true
  rotate_left
  · rw [Bool.not_eq_true] at ha
    rw [ha] at c1
    obtain ⟨ep, n, kind, l⟩ := c
    simp only [lists, List.map_cons, List.map_nil, Cf.cells] at hf c1 ⊢
    refine wBody Try.tab Try.mixed Try.func5 rfl rfl Try.ntmps5 (by simp) (by simp) fun Q hr hn => ?_
    repeat' first | (refine hK _ ?_; clear hK) | (clear hK; refine hK _ ?_; clear hK) | (clear hK; clear hK; refine hK _ ?_; clear hK) | (clear hK; clear hK; clear hK; refine hK _ ?_; clear hK) | (clear hK; clear hK; clear hK; clear hK; refine hK _ ?_; clear hK) | (refine wSeq fun K hK => ?_) | (refine wReg ?_; simp only [List.map_cons, List.map_nil, strip]) | (refine wDrw (by kernel_rfl) ?_; simp only [List.map_cons, List.map_nil, strip]) | (refine wOs fun K hK => ?_; simp) | (refine wQs fun K hK => ?_; simp) | (refine CallK_plain ?_; simp) | (refine CallQ_plain ?_; simp) | (refine wRet ?_; try simp) | (refine wCond ?_; simp) | (refine wBlock ?_) | (refine wExit ?_; try simp) | (refine wSkip ?_; try simp) | (refine wOn ?_; try simp only [thenA_n]) | (refine wQn ?_; try simp only [thenA_n]) | (refine CallE.pure (hf) rfl ?_) | (refine CallE.lent (hf) rfl ?_) | (refine CallF.pure (hf) rfl ?_) | (refine CallF.lent (hf) rfl ?_) | (refine CallE.own (hf) ?_) | (refine CallE.pure (c1) rfl ?_) | (refine CallE.lent (c1) rfl ?_) | (refine CallF.pure (c1) rfl ?_) | (refine CallF.lent (c1) rfl ?_) | (refine CallE.own (c1) ?_) | (refine CallE.pure (awake05) rfl ?_) | (refine CallE.lent (awake05) rfl ?_) | (refine CallF.pure (awake05) rfl ?_) | (refine CallF.lent (awake05) rfl ?_) | (refine CallE.own (awake05) ?_)
    all_goals apply hr
    all_goals simp [Try.f5]
  by_cases hbq : isQ c b = true
  rotate_left
  · rw [Bool.not_eq_true] at hbq
    rw [ha] at c1
    rw [hbq] at c2
    obtain ⟨ep, n, kind, l⟩ := c
    simp only [lists, List.map_cons, List.map_nil, Cf.cells] at hf c1 c2 ⊢
    refine wBody Try.tab Try.mixed Try.func5 rfl rfl Try.ntmps5 (by simp) (by simp) fun Q hr hn => ?_
    repeat' first | (refine hK _ ?_; clear hK) | (clear hK; refine hK _ ?_; clear hK) | (clear hK; clear hK; refine hK _ ?_; clear hK) | (clear hK; clear hK; clear hK; refine hK _ ?_; clear hK) | (clear hK; clear hK; clear hK; clear hK; refine hK _ ?_; clear hK) | (refine wSeq fun K hK => ?_) | (refine wReg ?_; simp only [List.map_cons, List.map_nil, strip]) | (refine wDrw (by kernel_rfl) ?_; simp only [List.map_cons, List.map_nil, strip]) | (refine wOs fun K hK => ?_; simp) | (refine wQs fun K hK => ?_; simp) | (refine CallK_plain ?_; simp) | (refine CallQ_plain ?_; simp) | (refine wRet ?_; try simp) | (refine wCond ?_; simp) | (refine wBlock ?_) | (refine wExit ?_; try simp) | (refine wSkip ?_; try simp) | (refine wOn ?_; try simp only [thenA_n]) | (refine wQn ?_; try simp only [thenA_n]) | (refine CallE.pure (hf) rfl ?_) | (refine CallE.lent (hf) rfl ?_) | (refine CallF.pure (hf) rfl ?_) | (refine CallF.lent (hf) rfl ?_) | (refine CallE.own (hf) ?_) | (refine CallE.pure (c1) rfl ?_) | (refine CallE.lent (c1) rfl ?_) | (refine CallF.pure (c1) rfl ?_) | (refine CallF.lent (c1) rfl ?_) | (refine CallE.own (c1) ?_) | (refine CallE.pure (c2) rfl ?_) | (refine CallE.lent (c2) rfl ?_) | (refine CallF.pure (c2) rfl ?_) | (refine CallF.lent (c2) rfl ?_) | (refine CallE.own (c2) ?_) | (refine CallE.pure (awake05) rfl ?_) | (refine CallE.lent (awake05) rfl ?_) | (refine CallF.pure (awake05) rfl ?_) | (refine CallF.lent (awake05) rfl ?_) | (refine CallE.own (awake05) ?_)
    all_goals apply hr
    all_goals simp [Try.f5]
  obtain ⟨m, hmm, m1, m2, m3⟩ := hmeet ha hbq
  rw [ha] at c1
  rw [hbq] at c2
  obtain ⟨ep, n, kind, l⟩ := c
  simp only [lists, List.map_cons, List.map_nil, Cf.cells] at hf c1 c2 hmm hm ⊢
  refine wBody Try.tab Try.mixed Try.func5 rfl rfl Try.ntmps5 (by simp) (by simp) fun Q hr hn => ?_
  repeat' first | (refine hK _ ?_; clear hK) | (clear hK; refine hK _ ?_; clear hK) | (clear hK; clear hK; refine hK _ ?_; clear hK) | (clear hK; clear hK; clear hK; refine hK _ ?_; clear hK) | (clear hK; clear hK; clear hK; clear hK; refine hK _ ?_; clear hK) | (refine wSeq fun K hK => ?_) | (refine wReg ?_; simp only [List.map_cons, List.map_nil, strip]) | (refine wDrw (by kernel_rfl) ?_; simp only [List.map_cons, List.map_nil, strip]) | (refine wOs fun K hK => ?_; simp) | (refine wQs fun K hK => ?_; simp) | (refine CallK_plain ?_; simp) | (refine CallQ_plain ?_; simp) | (refine wRet ?_; try simp) | (refine wCond ?_; simp) | (refine wBlock ?_) | (refine wExit ?_; try simp) | (refine wSkip ?_; try simp) | (refine wOn ?_; try simp only [thenA_n]) | (refine wQn ?_; try simp only [thenA_n]) | (refine CallE.pure (hf) rfl ?_) | (refine CallE.lent (hf) rfl ?_) | (refine CallF.pure (hf) rfl ?_) | (refine CallF.lent (hf) rfl ?_) | (refine CallE.own (hf) ?_) | (refine CallE.pure (c1) rfl ?_) | (refine CallE.lent (c1) rfl ?_) | (refine CallF.pure (c1) rfl ?_) | (refine CallF.lent (c1) rfl ?_) | (refine CallE.own (c1) ?_) | (refine CallE.pure (c2) rfl ?_) | (refine CallE.lent (c2) rfl ?_) | (refine CallF.pure (c2) rfl ?_) | (refine CallF.lent (c2) rfl ?_) | (refine CallE.own (c2) ?_)
  refine wLoop (fun N st => ∃ (k : Nat), k + N = l.length ∧ st.s 1 = .p (.sl 1 (ints a)) ∧ st.s 2 = .p (.sl 1 (ints b)) ∧ st.s 28 = .p (.sl 4 (mbs l)) ∧ st.s 29 = .p (I l.length) ∧ st.s 30 = .p (I k) ∧ m ∈ l.drop k) l.length ⟨0, by simp [hmm]⟩ fun K N st hL ⟨k, hk, h1, h2, h28, h29, h30, hi⟩ => ?_
  by_cases hlt : k < l.length
  · have hw := wrapS k _ hlt (by omega)
    rw [List.drop_eq_getElem_cons hlt] at hi
    have d1 := hasL_con a l[k].i
    have d2 := hasL_con b l[k].i
    by_cases o1 : l[k].r = 1
    · by_cases o2 : l[k].i ∈ a
      · rw [decide_eq_true o2] at d1
        by_cases o3 : l[k].i ∈ b
        · rw [decide_eq_true o3] at d2
          repeat' first | (refine hK _ ?_; clear hK) | (clear hK; refine hK _ ?_; clear hK) | (clear hK; clear hK; refine hK _ ?_; clear hK) | (clear hK; clear hK; clear hK; refine hK _ ?_; clear hK) | (clear hK; clear hK; clear hK; clear hK; refine hK _ ?_; clear hK) | (refine wSeq fun K hK => ?_) | (refine wReg ?_; simp only [List.map_cons, List.map_nil, strip]) | (refine wDrw (by kernel_rfl) ?_; simp only [List.map_cons, List.map_nil, strip]) | (refine wOs fun K hK => ?_; simp [h1, h2, h28, h29, h30, hlt, hw, o1]) | (refine wQs fun K hK => ?_; simp [h1, h2, h28, h29, h30, hlt, hw, o1]) | (refine CallK_plain ?_; simp [h1, h2, h28, h29, h30, hlt, hw, o1]) | (refine CallQ_plain ?_; simp [h1, h2, h28, h29, h30, hlt, hw, o1]) | (refine wRet ?_; try simp) | (refine wCond ?_; simp [h1, h2, h28, h29, h30, hlt, hw, o1]) | (refine wBlock ?_) | (refine wExit ?_; try simp) | (refine wSkip ?_; try simp) | (refine wOn ?_; try simp only [thenA_n]) | (refine wQn ?_; try simp only [thenA_n]) | (refine CallE.pure (d1) rfl ?_) | (refine CallE.lent (d1) rfl ?_) | (refine CallF.pure (d1) rfl ?_) | (refine CallF.lent (d1) rfl ?_) | (refine CallE.own (d1) ?_) | (refine CallE.pure (d2) rfl ?_) | (refine CallE.lent (d2) rfl ?_) | (refine CallF.pure (d2) rfl ?_) | (refine CallF.lent (d2) rfl ?_) | (refine CallE.own (d2) ?_) | (refine CallE.pure (awake05) rfl ?_) | (refine CallE.lent (awake05) rfl ?_) | (refine CallF.pure (awake05) rfl ?_) | (refine CallF.lent (awake05) rfl ?_) | (refine CallE.own (awake05) ?_)
          all_goals apply hr
          all_goals simp [Try.f5]
        · rw [decide_eq_false o3] at d2
          repeat' first | (refine hK _ ?_; clear hK) | (clear hK; refine hK _ ?_; clear hK) | (clear hK; clear hK; refine hK _ ?_; clear hK) | (clear hK; clear hK; clear hK; refine hK _ ?_; clear hK) | (clear hK; clear hK; clear hK; clear hK; refine hK _ ?_; clear hK) | (refine wSeq fun K hK => ?_) | (refine wReg ?_; simp only [List.map_cons, List.map_nil, strip]) | (refine wDrw (by kernel_rfl) ?_; simp only [List.map_cons, List.map_nil, strip]) | (refine wOs fun K hK => ?_; simp [h1, h2, h28, h29, h30, hlt, hw, o1]) | (refine wQs fun K hK => ?_; simp [h1, h2, h28, h29, h30, hlt, hw, o1]) | (refine CallK_plain ?_; simp [h1, h2, h28, h29, h30, hlt, hw, o1]) | (refine CallQ_plain ?_; simp [h1, h2, h28, h29, h30, hlt, hw, o1]) | (refine wRet ?_; try simp) | (refine wCond ?_; simp [h1, h2, h28, h29, h30, hlt, hw, o1]) | (refine wBlock ?_) | (refine wExit ?_; try simp) | (refine wSkip ?_; try simp) | (refine wOn ?_; try simp only [thenA_n]) | (refine wQn ?_; try simp only [thenA_n]) | (refine CallE.pure (d1) rfl ?_) | (refine CallE.lent (d1) rfl ?_) | (refine CallF.pure (d1) rfl ?_) | (refine CallF.lent (d1) rfl ?_) | (refine CallE.own (d1) ?_) | (refine CallE.pure (d2) rfl ?_) | (refine CallE.lent (d2) rfl ?_) | (refine CallF.pure (d2) rfl ?_) | (refine CallF.lent (d2) rfl ?_) | (refine CallE.own (d2) ?_)
          refine hL _ (N - 1) (by omega) ⟨k + 1, by omega, ?_⟩
          rcases List.mem_cons.1 hi with hi | hi
          · rw [hi] at m3; exact (o3 m3).elim
          · simp [h1, h2, h28, h29, hw, hi]
      · rw [decide_eq_false o2] at d1
        repeat' first | (refine hK _ ?_; clear hK) | (clear hK; refine hK _ ?_; clear hK) | (clear hK; clear hK; refine hK _ ?_; clear hK) | (clear hK; clear hK; clear hK; refine hK _ ?_; clear hK) | (clear hK; clear hK; clear hK; clear hK; refine hK _ ?_; clear hK) | (refine wSeq fun K hK => ?_) | (refine wReg ?_; simp only [List.map_cons, List.map_nil, strip]) | (refine wDrw (by kernel_rfl) ?_; simp only [List.map_cons, List.map_nil, strip]) | (refine wOs fun K hK => ?_; simp [h1, h2, h28, h29, h30, hlt, hw, o1]) | (refine wQs fun K hK => ?_; simp [h1, h2, h28, h29, h30, hlt, hw, o1]) | (refine CallK_plain ?_; simp [h1, h2, h28, h29, h30, hlt, hw, o1]) | (refine CallQ_plain ?_; simp [h1, h2, h28, h29, h30, hlt, hw, o1]) | (refine wRet ?_; try simp) | (refine wCond ?_; simp [h1, h2, h28, h29, h30, hlt, hw, o1]) | (refine wBlock ?_) | (refine wExit ?_; try simp) | (refine wSkip ?_; try simp) | (refine wOn ?_; try simp only [thenA_n]) | (refine wQn ?_; try simp only [thenA_n]) | (refine CallE.pure (d1) rfl ?_) | (refine CallE.lent (d1) rfl ?_) | (refine CallF.pure (d1) rfl ?_) | (refine CallF.lent (d1) rfl ?_) | (refine CallE.own (d1) ?_)
        refine hL _ (N - 1) (by omega) ⟨k + 1, by omega, ?_⟩
        rcases List.mem_cons.1 hi with hi | hi
        · rw [hi] at m2; exact (o2 m2).elim
        · simp [h1, h2, h28, h29, hw, hi]
    · repeat' first | (refine hK _ ?_; clear hK) | (clear hK; refine hK _ ?_; clear hK) | (clear hK; clear hK; refine hK _ ?_; clear hK) | (clear hK; clear hK; clear hK; refine hK _ ?_; clear hK) | (clear hK; clear hK; clear hK; clear hK; refine hK _ ?_; clear hK) | (refine wSeq fun K hK => ?_) | (refine wReg ?_; simp only [List.map_cons, List.map_nil, strip]) | (refine wDrw (by kernel_rfl) ?_; simp only [List.map_cons, List.map_nil, strip]) | (refine wOs fun K hK => ?_; simp [h1, h2, h28, h29, h30, hlt, hw, o1]) | (refine wQs fun K hK => ?_; simp [h1, h2, h28, h29, h30, hlt, hw, o1]) | (refine CallK_plain ?_; simp [h1, h2, h28, h29, h30, hlt, hw, o1]) | (refine CallQ_plain ?_; simp [h1, h2, h28, h29, h30, hlt, hw, o1]) | (refine wRet ?_; try simp) | (refine wCond ?_; simp [h1, h2, h28, h29, h30, hlt, hw, o1]) | (refine wBlock ?_) | (refine wExit ?_; try simp) | (refine wSkip ?_; try simp) | (refine wOn ?_; try simp only [thenA_n]) | (refine wQn ?_; try simp only [thenA_n])
      refine hL _ (N - 1) (by omega) ⟨k + 1, by omega, ?_⟩
      rcases List.mem_cons.1 hi with hi | hi
      · rw [hi] at m1; exact (o1 m1).elim
      · simp [h1, h2, h28, h29, hw, hi]
  · rw [List.drop_of_length_le (by omega)] at hi
    simp at hi
end Go.Proofs.Ytehopfedgkmalaa
