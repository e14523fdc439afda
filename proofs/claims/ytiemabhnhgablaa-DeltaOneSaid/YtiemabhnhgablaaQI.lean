/- Who is found; which sets block; what follows of quorums. -/
import Derived.Test.YtiemabhnhgablaaQH
namespace Go.Proofs.Ytiemabhnhgablaa
set_option linter.unusedSimpArgs false
set_option linter.unusedVariables false
open Go Go.Av
attribute [local simp] Try.T1 Try.T2 Try.T3 Try.T4 Try.T5 Try.T9 Try.T12 Try.T15 Try.T16 Try.T17 Try.T21 Try.T23 Try.T24 Try.T26 Try.T27 Try.T28 Try.T30 Try.T31 Try.T32 Try.T33 Try.T35 Try.T36 Try.T37 Try.T38 Try.T39 Try.T41 Try.T43 Try.T44 Try.T45 Try.T46 Try.T47 Try.T48 Try.T49 Try.T50 Try.T51 Try.T52 Try.T53 Try.T54 Try.T55 Try.T56 Try.T57 Try.T58 Try.T59 Try.T60 Try.T61 Try.T62 Try.T65 Try.T68 Try.T69 Try.T72 Try.T73
attribute [local irreducible] Go.Av.CallK Go.Av.CallE Go.Av.CallQ Go.Av.CallF Go.Av.CallR Go.Av.CallH Go.Av.Con

def fm (id : Int) : List Mb → Mb × Bool
  | [] => (⟨0, 0, 0, 0⟩, false)
  | m :: l => if m.i = id then (m, true) else fm id l
theorem find04_con (c : Cf) (id : Int) (hl : c.ms.length ≤ 1000000) : ACon Try.prog 12 [.p (.agg c.cells), .p (I id)] (.tup [.p (.agg (fm id c.ms).1.cells), .p (B (fm id c.ms).2)]) := by
  obtain ⟨ep, n, kind, l⟩ := c
  simp only [Cf.cells] at hl ⊢
  refine wBody Try.tab Try.mixed Try.func12 rfl rfl Try.ntmps12 (by simp) (by simp) fun Q hr hn => ?_
  repeat' first | (refine hK _ ?_; clear hK) | (refine hK _ _ ?_; clear hK) | (clear hK; refine hK _ ?_; clear hK) | (clear hK; clear hK; refine hK _ ?_; clear hK) | (clear hK; clear hK; clear hK; refine hK _ ?_; clear hK) | (clear hK; clear hK; clear hK; clear hK; refine hK _ ?_; clear hK) | (refine wSeq fun K hK => ?_) | ((first | refine wReg ?_ | refine wDrwQ rfl (by kernel_rfl) ?_ | refine wDrwI ?_ | refine wDrw (by kernel_rfl) ?_); simp only [List.map_cons, List.map_nil, strip]) | ((first | refine wIs fun K hK => ?_ | refine wOs fun K hK => ?_ | refine wQs fun K hK => ?_ | refine CallK_plain ?_ | refine CallQ_plain ?_ | refine CallR_plain ?_ | refine wCond ?_); simp) | (refine wIn ?_; refine And.intro (by kernel_rfl) ?_; try simp only [thenA_n]) | (first | refine wBlock ?_ | refine wScope ?_) | ((first | refine wRet ?_ | refine wExit ?_ | refine wSkip ?_); try simp) | ((first | refine wLabel ?_ | refine wOn ?_ | refine wQn ?_); try simp only [thenA_n])
  refine wLoop (fun N st => ∃ (k : Nat), k + N = l.length ∧ st.s 1 = .p (I id) ∧ st.s 4 = .ptr 4 0 ∧ st.b 4 = some (.box 41 [.p (I 0), .p (I 0), .p (I 0), .p (I 0)]) ∧ st.s 9 = .p (.sl 4 (mbs l)) ∧ st.s 10 = .p (I l.length) ∧ st.s 11 = .p (I k) ∧ fm id (l.drop k) = fm id l) l.length ⟨0, by simp⟩ fun K N st hL ⟨k, hk, h1, h4, b4, h9, h10, h11, hi⟩ => ?_
  by_cases hlt : k < l.length
  · have hw := wrapS k _ hlt (by omega)
    rw [List.drop_eq_getElem_cons hlt, fm] at hi
    by_cases o : l[k].i = id
    · rw [if_pos o] at hi
      repeat' first | (refine hK _ ?_; clear hK) | (refine hK _ _ ?_; clear hK) | (clear hK; refine hK _ ?_; clear hK) | (clear hK; clear hK; refine hK _ ?_; clear hK) | (clear hK; clear hK; clear hK; refine hK _ ?_; clear hK) | (clear hK; clear hK; clear hK; clear hK; refine hK _ ?_; clear hK) | (refine wSeq fun K hK => ?_) | ((first | refine wReg ?_ | refine wDrwQ rfl (by kernel_rfl) ?_ | refine wDrwI ?_ | refine wDrw (by kernel_rfl) ?_); simp only [List.map_cons, List.map_nil, strip]) | ((first | refine wIs fun K hK => ?_ | refine wOs fun K hK => ?_ | refine wQs fun K hK => ?_ | refine CallK_plain ?_ | refine CallQ_plain ?_ | refine CallR_plain ?_ | refine wCond ?_); simp [h1, h4, b4, h9, h10, h11, hlt, hw, o]) | (refine wIn ?_; refine And.intro (by kernel_rfl) ?_; try simp only [thenA_n]) | (first | refine wBlock ?_ | refine wScope ?_) | ((first | refine wRet ?_ | refine wExit ?_ | refine wSkip ?_); try simp) | ((first | refine wLabel ?_ | refine wOn ?_ | refine wQn ?_); try simp only [thenA_n])
      all_goals apply hr
      all_goals rw [← hi]
      all_goals simp [Try.f12, Mb.cells, o, h4, b4]
    · rw [if_neg o] at hi
      repeat' first | (refine hK _ ?_; clear hK) | (refine hK _ _ ?_; clear hK) | (clear hK; refine hK _ ?_; clear hK) | (clear hK; clear hK; refine hK _ ?_; clear hK) | (clear hK; clear hK; clear hK; refine hK _ ?_; clear hK) | (clear hK; clear hK; clear hK; clear hK; refine hK _ ?_; clear hK) | (refine wSeq fun K hK => ?_) | ((first | refine wReg ?_ | refine wDrwQ rfl (by kernel_rfl) ?_ | refine wDrwI ?_ | refine wDrw (by kernel_rfl) ?_); simp only [List.map_cons, List.map_nil, strip]) | ((first | refine wIs fun K hK => ?_ | refine wOs fun K hK => ?_ | refine wQs fun K hK => ?_ | refine CallK_plain ?_ | refine CallQ_plain ?_ | refine CallR_plain ?_ | refine wCond ?_); simp [h1, h4, b4, h9, h10, h11, hlt, hw, o]) | (refine wIn ?_; refine And.intro (by kernel_rfl) ?_; try simp only [thenA_n]) | (first | refine wBlock ?_ | refine wScope ?_) | ((first | refine wRet ?_ | refine wExit ?_ | refine wSkip ?_); try simp) | ((first | refine wLabel ?_ | refine wOn ?_ | refine wQn ?_); try simp only [thenA_n])
      refine hL _ (N - 1) (by omega) ⟨k + 1, by omega, ?_⟩
      simp [h1, h4, b4, h9, h10, hw, hi]
  · rw [List.drop_of_length_le (by omega), fm] at hi
    repeat' first | (refine hK _ ?_; clear hK) | (refine hK _ _ ?_; clear hK) | (clear hK; refine hK _ ?_; clear hK) | (clear hK; clear hK; refine hK _ ?_; clear hK) | (clear hK; clear hK; clear hK; refine hK _ ?_; clear hK) | (clear hK; clear hK; clear hK; clear hK; refine hK _ ?_; clear hK) | (refine wSeq fun K hK => ?_) | ((first | refine wReg ?_ | refine wDrwQ rfl (by kernel_rfl) ?_ | refine wDrwI ?_ | refine wDrw (by kernel_rfl) ?_); simp only [List.map_cons, List.map_nil, strip]) | ((first | refine wIs fun K hK => ?_ | refine wOs fun K hK => ?_ | refine wQs fun K hK => ?_ | refine CallK_plain ?_ | refine CallQ_plain ?_ | refine CallR_plain ?_ | refine wCond ?_); simp [h1, h4, b4, h9, h10, h11, hlt]) | (refine wIn ?_; refine And.intro (by kernel_rfl) ?_; try simp only [thenA_n]) | (first | refine wBlock ?_ | refine wScope ?_) | ((first | refine wRet ?_ | refine wExit ?_ | refine wSkip ?_); try simp) | ((first | refine wLabel ?_ | refine wOn ?_ | refine wQn ?_); try simp only [thenA_n])
    apply hr
    rw [← hi]
    simp [Try.f12, Mb.cells, h4, b4]

def outof (set l : List Int) : List Int := l.filter fun x => decide (¬ x ∈ set)
theorem outof_snoc (set l : List Int) (k : Nat) (h : k < l.length) : outof set (l.take (k + 1)) = if l[k] ∈ set then outof set (l.take k) else outof set (l.take k) ++ [l[k]] := by
  rw [take_snoc _ k h]; unfold outof
  rw [List.filter_append]
  by_cases g : l[k] ∈ set
  · rw [if_pos g]; simp [List.filter, g]
  · rw [if_neg g]; simp only [List.filter, g, not_false_eq_true, decide_true]
theorem outof_len (set l : List Int) : (outof set l).length ≤ l.length := by simp [outof, List.length_filter_le]
def blocks (c : Cf) (set : List Int) : Bool := decide (check c = 0) && !isQ c (outof set (ids c.ms 1))

/-! ### What follows of quorums -/
theorem num_le (p q : Nat → Bool) : ∀ k, (∀ g, p g = true → q g = true) → num p k ≤ num q k
  | 0, _ => by simp [num]
  | k + 1, h => by
    have h1 := num_le p q k h
    have h2 := h k
    simp only [num]
    cases hp : p k
    · simp only [Bool.false_eq_true, if_false]; split <;> omega
    · rw [h2 hp]; omega
theorem isQ_mono {c : Cf} {a b : List Int} (h : ∀ m ∈ c.ms, m.r = 1 → m.i ∈ a → m.i ∈ b) (ha : isQ c a = true) : isQ c b = true := by
  by_cases hc : check c = 0
  rotate_left
  · unfold isQ at ha; rw [if_neg hc] at ha; simp at ha
  obtain ⟨-, hf, -⟩ := check_ok hc
  have ho := fine_ok _ _ hf
  unfold isQ at ha ⊢
  rw [if_pos hc] at ha ⊢
  unfold enough at ha ⊢
  have hd : ∀ m ∈ c.ms, m.r = 1 → inS a m = true → inS b m = true := fun m hm h1 h2 => by
    simp only [inS, decide_eq_true_eq] at h2 ⊢; exact h m hm h1 h2
  by_cases k1 : c.kind = 1
  · rw [if_pos k1, decide_eq_true_eq] at ha ⊢
    have := tot_le one (inS a) (inS b) c.ms (fun m _ => by simp [one]) hd
    omega
  rw [if_neg k1] at ha ⊢
  by_cases k2 : c.kind = 2
  · rw [if_pos k2, decide_eq_true_eq] at ha ⊢
    have := tot_le Mb.w (inS a) (inS b) c.ms (fun m hm => (okL_w ho m hm).1) hd
    omega
  rw [if_neg k2, decide_eq_true_eq] at ha ⊢
  have := num_le (wonG a c.ms) (wonG b c.ms) 8 (fun g h1 => by
    simp only [wonG, decide_eq_true_eq] at h1 ⊢
    have := tot_le Mb.w (inG (inS a) g) (inG (inS b) g) c.ms (fun m hm => (okL_w ho m hm).1) (fun m hm e1 e2 => by
      simp only [inG, Bool.and_eq_true] at e2 ⊢
      exact ⟨e2.1, hd m hm e1 e2.2⟩)
    omega)
  omega
theorem isQ_congr {c : Cf} {a b : List Int} (h : ∀ m ∈ c.ms, m.r = 1 → (m.i ∈ a ↔ m.i ∈ b)) : isQ c a = isQ c b := by
  have h1 := @isQ_mono c a b (fun m hm hr => (h m hm hr).1)
  have h2 := @isQ_mono c b a (fun m hm hr => (h m hm hr).2)
  cases ha : isQ c a <;> cases hb : isQ c b <;> simp_all
theorem tot_cnt : ∀ l : List Mb, tot one yes l = cnt l
  | [] => rfl
  | m :: l => by simp only [tot, cnt, one, yes, tot_cnt l, and_true]
theorem tot_wsum : ∀ l : List Mb, tot Mb.w yes l = wsum l
  | [] => rfl
  | m :: l => by simp only [tot, wsum, yes, tot_wsum l, and_true]
theorem num_pos (p : Nat → Bool) : ∀ (k g : Nat), g < k → p g = true → 0 < num p k
  | 0, g, h, _ => by omega
  | k + 1, g, h, hp => by
    have hb := num_bound p k
    simp only [num]
    by_cases e : g = k
    · subst e; rw [hp]; simp; omega
    · have := num_pos p k g (by omega) hp
      split <;> omega
theorem tot_pos (f : Mb → Int) (p : Mb → Bool) : ∀ l : List Mb, (∀ m ∈ l, 0 ≤ f m) → ∀ m ∈ l, m.r = 1 → p m = true → 0 < f m → 0 < tot f p l
  | x :: l, h, m, hm, hr, hp, hf => by
    have h1 := tot_le f (fun _ => false) p l (fun x hx => h x (List.mem_cons_of_mem _ hx)) (fun _ _ _ h => by simp at h)
    have h0 : ∀ l : List Mb, tot f (fun _ => false) l = 0 := fun l => by
      induction l with
      | nil => rfl
      | cons a l ih => simp [tot, ih]
    rw [h0] at h1
    simp only [tot]
    rcases List.mem_cons.1 hm with rfl | hm
    · rw [if_pos ⟨hr, hp⟩]; omega
    · have := tot_pos f p l (fun x hx => h x (List.mem_cons_of_mem _ hx)) m hm hr hp hf
      have := h x (by simp)
      split <;> omega
theorem mem_ids (l : List Mb) (m : Mb) (hm : m ∈ l) (hr : m.r = 1) : m.i ∈ ids l 1 := by
  unfold ids; exact List.mem_map.2 ⟨m, List.mem_filter.2 ⟨hm, by simp [hr]⟩, rfl⟩
theorem ids_mem {l : List Mb} {x : Int} (h : x ∈ ids l 1) : ∃ m ∈ l, m.r = 1 ∧ m.i = x := by
  unfold ids at h
  obtain ⟨m, h1, h2⟩ := List.mem_map.1 h
  rw [List.mem_filter] at h1
  exact ⟨m, h1.1, by simpa using h1.2, h2⟩
theorem tot_same (f : Mb → Int) (p q : Mb → Bool) (l : List Mb) (hf : ∀ m ∈ l, 0 ≤ f m) (h : ∀ m ∈ l, m.r = 1 → p m = q m) : tot f p l = tot f q l := by
  have h1 := tot_le f p q l hf (fun m hm hr hp => by rw [← h m hm hr]; exact hp)
  have h2 := tot_le f q p l hf (fun m hm hr hp => by rw [h m hm hr]; exact hp)
  omega
theorem whole_true {c : Cf} (hc : check c = 0) : isQ c (ids c.ms 1) = true := by
  obtain ⟨-, hf, hcar⟩ := check_ok hc
  have ho := fine_ok _ _ hf
  obtain ⟨e1, e2, e3, e4, e5⟩ := sums c.kind c.ms _ hf
  have hs : ∀ m ∈ c.ms, m.r = 1 → inS (ids c.ms 1) m = yes m := fun m hm hr => by simp [inS, yes, mem_ids _ m hm hr]
  have hw0 : ∀ m ∈ c.ms, 0 ≤ m.w := fun m hm => (okL_w ho m hm).1
  unfold isQ; rw [if_pos hc]; unfold enough
  by_cases k1 : c.kind = 1
  · rw [if_pos k1, decide_eq_true_eq, tot_same one _ yes c.ms (fun m _ => by simp [one]) hs, tot_cnt]
    rw [e4 k1, decide_eq_true_eq] at hcar
    omega
  rw [if_neg k1]
  rw [e5 k1, decide_eq_true_eq] at hcar
  by_cases k2 : c.kind = 2
  · rw [if_pos k2, decide_eq_true_eq, tot_same Mb.w _ yes c.ms hw0 hs, tot_wsum]
    omega
  rw [if_neg k2, decide_eq_true_eq]
  have hsame : wonG (ids c.ms 1) c.ms = hasG c.ms := funext fun g => by
    have h1 := tot_same Mb.w (inG (inS (ids c.ms 1)) g) (inG yes g) c.ms hw0 (fun m hm hr => by simp only [inG, hs m hm hr])
    have h2 := tot_bound Mb.w (inG yes g) c.ms (okL_w ho)
    simp only [wonG, hasG, h1]
    by_cases q : 0 < tot Mb.w (inG yes g) c.ms
    · rw [decide_eq_true q, decide_eq_true (by omega)]
    · rw [decide_eq_false q, decide_eq_false (by omega)]
  rw [hsame]
  have : ∃ m ∈ c.ms, m.r = 1 ∧ 0 < m.w := by
    refine Classical.byContradiction fun hno => ?_
    have : ∀ l : List Mb, (∀ m ∈ l, m.r = 1 → ¬ 0 < m.w) → wsum l ≤ 0 := fun l => by
      induction l with
      | nil => intro _; simp [wsum]
      | cons a l ih =>
        intro h
        have := ih (fun m hm => h m (List.mem_cons_of_mem _ hm))
        have := h a (by simp)
        simp only [wsum]; split <;> simp_all <;> omega
    have := this c.ms (fun m hm hr hw => hno ⟨m, hm, hr, hw⟩)
    omega
  obtain ⟨m, hm, hr, hw⟩ := this
  have hg := (ho m hm).2.2.2
  have hp := tot_pos Mb.w (inG yes m.g.toNat) c.ms hw0 m hm hr (by simp [inG, yes]; omega) hw
  have := num_pos (hasG c.ms) 8 m.g.toNat (by omega) (by simp [hasG, hp])
  omega
theorem nobody {c : Cf} : isQ c [] = false := by
  by_cases hc : check c = 0
  rotate_left
  · unfold isQ; rw [if_neg hc]
  obtain ⟨-, hf, hcar⟩ := check_ok hc
  have ho := fine_ok _ _ hf
  have hw0 : ∀ m ∈ c.ms, 0 ≤ m.w := fun m hm => (okL_w ho m hm).1
  have z : ∀ (f : Mb → Int) (p : Mb → Bool) (l : List Mb), (∀ m ∈ l, p m = false) → tot f p l = 0 := fun f p l => by
    induction l with
    | nil => intro _; rfl
    | cons a l ih => intro h; simp [tot, ih (fun m hm => h m (List.mem_cons_of_mem _ hm)), h a (by simp)]
  unfold isQ; rw [if_pos hc]; unfold enough
  by_cases k1 : c.kind = 1
  · have := tot_bound one yes c.ms (fun m _ => by simp [one])
    rw [if_pos k1, decide_eq_false_iff_not, z one (inS []) c.ms (fun m _ => by simp [inS])]
    omega
  rw [if_neg k1]
  by_cases k2 : c.kind = 2
  · have := tot_bound Mb.w yes c.ms (okL_w ho)
    rw [if_pos k2, decide_eq_false_iff_not, z Mb.w (inS []) c.ms (fun m _ => by simp [inS])]
    omega
  rw [if_neg k2, decide_eq_false_iff_not]
  have hn : ∀ k, num (wonG [] c.ms) k = 0 := fun k => by
    induction k with
    | zero => rfl
    | succ k ih =>
      have := tot_bound Mb.w (inG yes k) c.ms (okL_w ho)
      simp only [num, ih, wonG, z Mb.w (inG (inS []) k) c.ms (fun m _ => by simp [inG, inS])]
      rw [decide_eq_false (by omega)]; rfl
  have := num_bound (hasG c.ms) 8
  rw [hn]; omega
theorem fm_mem (id : Int) : ∀ l : List Mb, (fm id l).2 = true → (fm id l).1 ∈ l ∧ (fm id l).1.i = id
  | [], h => by simp [fm] at h
  | m :: l, h => by
    simp only [fm] at h ⊢
    by_cases e : m.i = id
    · rw [if_pos e] at h ⊢; exact ⟨by simp, e⟩
    · rw [if_neg e] at h ⊢
      have := fm_mem id l h
      exact ⟨List.mem_cons_of_mem _ this.1, this.2⟩
theorem fine_lt : ∀ (l : List Mb) (p : Int), fine p l = true → ∀ m ∈ l, p < m.i
  | [], _, _, m, hm => by simp at hm
  | x :: l, p, h, m, hm => by
    simp only [fine, Bool.and_eq_true, decide_eq_true_eq] at h
    rcases List.mem_cons.1 hm with rfl | hm
    · exact h.1.2
    · have := fine_lt l _ h.2 m hm
      omega
theorem fm_of : ∀ (l : List Mb) (p : Int), fine p l = true → ∀ m ∈ l, fm m.i l = (m, true)
  | [], _, _, m, hm => by simp at hm
  | x :: l, p, h, m, hm => by
    simp only [fine, Bool.and_eq_true, decide_eq_true_eq] at h
    rcases List.mem_cons.1 hm with rfl | hm
    · simp [fm]
    · have h1 := fine_lt l _ h.2 m hm
      have h2 := fm_of l _ h.2 m hm
      simp only [fm]
      rw [if_neg (by omega), h2]
end Go.Proofs.Ytiemabhnhgablaa
