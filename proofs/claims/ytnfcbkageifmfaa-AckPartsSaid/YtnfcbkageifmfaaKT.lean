/- Acknowledged: the law AckParts. -/
import Derived.Test.YtnfcbkageifmfaaMM5
namespace Go.Proofs.Ytnfcbkageifmfaa
set_option linter.unusedSimpArgs false
set_option linter.unusedVariables false
open Go Go.Av
attribute [local simp] Try.T1 Try.T2 Try.T3 Try.T4 Try.T5 Try.T9 Try.T12 Try.T15 Try.T16 Try.T17 Try.T21 Try.T22 Try.T23 Try.T25 Try.T27 Try.T29 Try.T30 Try.T31 Try.T32 Try.T33 Try.T35 Try.T37 Try.T38 Try.T40 Try.T41 Try.T42 Try.T43 Try.T44 Try.T45 Try.T46 Try.T47 Try.T48 Try.T49 Try.T50 Try.T51 Try.T52 Try.T53 Try.T54 Try.T56 Try.T57 Try.T58 Try.T59 Try.T60 Try.T61 Try.T62 Try.T64 Try.T66 Try.T67 Try.T68 Try.T69 Try.T71 Try.T72 Try.T73 Try.T74 Try.T75 Try.T76 Try.T77 Try.T78 Try.T79 Try.T80 Try.T81 Try.T82 Try.T83 Try.T84 Try.T85 Try.T86 Try.T87 Try.T88 Try.T89 Try.T90 Try.T91 Try.T92 Try.T93 Try.T94 Try.T95 Try.T97 Try.T98 Try.T99 Try.T100 Try.T101 Try.T102 Try.T103 Try.T104 Try.T105 Try.T106 Try.T107 Try.T108 Try.T109 Try.T110 Try.T111 Try.T112 Try.T113 Try.T114 Try.T115 Try.T116 Try.T117 Try.T120 Try.T123 Try.T124 Try.T127 Try.T128
attribute [local irreducible] Go.Av.CallK Go.Av.CallE Go.Av.CallQ Go.Av.CallF Go.Av.CallR Go.Av.CallH Go.Av.Con
theorem rises_snoc : ∀ (l : List Zx) (p x : Zx), risesB (p :: l) = true → (∀ z ∈ p :: l, zlt z x) → risesB (p :: (l ++ [x])) = true
  | [], p, x, _, h => by
    have := h p (by simp)
    simp only [List.nil_append, risesB, Bool.and_true, decide_eq_true_eq, zcmp_neg]; exact this
  | q :: l, p, x, hr, h => by
    simp only [risesB, Bool.and_eq_true] at hr
    simp only [List.cons_append, risesB, Bool.and_eq_true]
    exact ⟨hr.1, rises_snoc l q x hr.2 fun z hz => h z (by simp at hz ⊢; exact .inr hz)⟩
def txAt (z : Zx) : Tx := ⟨z.e, z.n, 0, 0, 0, 0, [], []⟩
/-- A history with one more transaction. -/
def grow (h : Hy) (x : Zx) : Hy := ⟨h.im, h.lg ++ [txAt x]⟩
theorem grow_rises {h : Hy} (hr : risesB (marksH h) = true) {x : Zx} (hx : zlt (pv h h.lg.length) x) : risesB (marksH (grow h x)) = true := by
  have e : marksH (grow h x) = ⟨h.im.ae, h.im.an⟩ :: (txZ h.lg ++ [x]) := by simp [marksH, grow, txZ, txAt]
  rw [e]
  refine rises_snoc _ _ _ hr fun z hz => ?_
  have hz' : z ∈ marksH h := hz
  obtain ⟨i, hi, rfl⟩ := List.getElem_of_mem hz'
  have hi' := hi
  rw [marks_len] at hi'
  have e2 : (marksH h)[i] = pv h i := by unfold pv; rw [List.getD_eq_getElem?_getD, List.getElem?_eq_getElem hi]; rfl
  rw [e2]
  by_cases hil : i = h.lg.length
  · rw [hil]; exact hx
  · exact zlt_tr (pv_lt hr (show i < h.lg.length by omega) (Nat.le_refl _)) hx
theorem grow_ok {h : Hy} (hk : OkH h) (hl : h.lg.length ≤ 900) (x : Zx) : OkH (grow h x) := by
  refine ⟨hk.ns, hk.ss, hk.c, by simp [grow]; omega, fun t ht => ?_, ?_⟩
  · rcases List.mem_append.1 ht with ht | ht
    · exact hk.ps t ht
    · rw [List.mem_singleton.1 ht]; simp [txAt]
  · have := hk.tot
    unfold grow
    simp only [List.map_append, List.sum_append]
    simpa [txAt] using this
theorem ns_plain (h : Hy) : ∀ (l : List Tx), (∀ t ∈ l, lastC t.ps = none) → l.foldl nsStep (ns0 h) = ns0 h
  | [], _ => rfl
  | t :: l, hn => by
    have e : nsStep (ns0 h) t = ns0 h := by unfold nsStep; rw [hn t (by simp)]
    rw [List.foldl_cons, e]
    exact ns_plain h l fun t' ht => hn t' (by simp [ht])
/-- Where nobody changes the config, who commits the last transaction has a quorum of the one that there is. -/
theorem grow_quorum {h : Hy} (hr : risesB (marksH h) = true) {x : Zx} (hx : zlt (pv h h.lg.length) x) (hn : ∀ t ∈ h.lg, lastC t.ps = none) {self : Int} {l : List Lr}
    (hc : (comF (grow h x) self l (grow h x).lg 0 h.im.ae h.im.an).1 = x.e ∧ (comF (grow h x) self l (grow h x).lg 0 h.im.ae h.im.an).2 = x.n) : isQ h.im.c (setS self 4 x.e x.n l) = true := by
  have hr2 := grow_rises hr hx
  have hgl : (grow h x).lg.length = h.lg.length + 1 := by simp [grow]
  have hlt : h.lg.length < (grow h x).lg.length := by omega
  have hlast : pv (grow h x) (h.lg.length + 1) = x := by rw [pv_succ hlt]; simp [grow, txAt]
  obtain ⟨m, h1, h2, -, h4⟩ := com_first hr2 self l
  have e0 : (grow h x).im = h.im := rfl
  rw [e0] at h4
  rw [h4] at hc
  simp only at hc
  have hm : m = h.lg.length + 1 := by
    rcases Nat.lt_trichotomy m (h.lg.length + 1) with h5 | h5 | h5
    · have := pv_lt hr2 h5 (by omega)
      rw [hlast] at this
      unfold zlt at this; omega
    · exact h5
    · omega
  have hq := h2 h.lg.length (by omega)
  unfold stepQ at hq
  rw [hlast] at hq
  have hns : nsOf (grow h x) ((grow h x).lg.take (h.lg.length + 1)) = ns0 (grow h x) := by
    rw [List.take_of_length_le (by omega)]
    refine ns_plain _ _ fun t ht => ?_
    rcases List.mem_append.1 ht with ht | ht
    · exact hn t ht
    · rw [List.mem_singleton.1 ht]; rfl
  rw [hns] at hq
  unfold endN at hq
  rw [if_pos (.inl rfl)] at hq
  simp only [allQ, List.all_cons, List.all_nil, Bool.and_true, Bool.and_eq_true] at hq
  exact hq.1
theorem lastH_pv (h : Hy) : lastH h = pv h h.lg.length := by
  have := lastH_take (h := h) (Nat.le_refl _)
  rw [List.take_length] at this
  exact this
abbrev hyB (h : Hy) (lg : V) : List V := [.p (.sl 5 (zns h.im.ns)), .p (.sl 1 (ints h.im.ss)), .p (I h.im.nx), .p (I h.im.c.ep), .p (I h.im.c.n), .p (I h.im.c.kind), .p (.sl 4 (mbs h.im.c.ms)), .p (I h.im.ae), .p (I h.im.an), lg]
set_option maxHeartbeats 16000000 in
theorem ackParts_con (h : Hy) (l0 l1 : List Lr) (s0 s1 : Int) (hs : SmallH h) (hl0 : SmallL l0) (hl1 : SmallL l1) :
    ACon Try.prog 7 [.p (.agg h.cells), .p (.agg [.sl 8 (lrs l0), .sl 8 (lrs l1)]), .p (.agg [I s0, I s1])] (.p (B true)) := by
  have c0 := far19_con h l0 hs hl0
  have c1 := far19_con h l1 hs hl1
  have ca := awake19
  by_cases hn : nearK h l0
  rotate_left
  · rw [decide_eq_true hn] at c0
    unfold Hy.cells at c0 ⊢
    refine wBody Try.tab Try.mixed Try.func7 rfl rfl Try.ntmps7 (by simp) (by simp) fun Q hr hn => ?_
    repeat' first | (refine hK _ ?_; clear hK) | (refine hK _ _ ?_; clear hK) | (clear hK; refine hK _ ?_; clear hK) | (clear hK; clear hK; refine hK _ ?_; clear hK) | (clear hK; clear hK; clear hK; refine hK _ ?_; clear hK) | (clear hK; clear hK; clear hK; clear hK; refine hK _ ?_; clear hK) | (refine wSeq fun K hK => ?_) | ((first | refine wReg ?_ | refine wDrwQ rfl (by kernel_rfl) ?_ | refine wDrwI ?_ | refine wDrw (by kernel_rfl) ?_); simp only [List.map_cons, List.map_nil, strip]) | ((first | refine wIs fun K hK => ?_ | refine wOs fun K hK => ?_ | refine wQs fun K hK => ?_ | refine CallK_plain ?_ | refine CallQ_plain ?_ | refine CallR_plain ?_ | refine wCond ?_); simp) | (refine wIn ?_; refine And.intro (by kernel_rfl) ?_; try simp only [thenA_n]) | (first | refine wBlock ?_ | refine wScope ?_) | ((first | refine wRet ?_ | refine wExit ?_ | refine wSkip ?_); try simp) | ((first | refine wLabel ?_ | refine wOn ?_ | refine wQn ?_); try simp only [thenA_n]) | (refine CallE.pure (c0) rfl ?_) | (refine CallE.lent (c0) rfl ?_) | (refine CallF.pure (c0) rfl ?_) | (refine CallF.lent (c0) rfl ?_) | (refine CallE.own (c0) ?_) | (refine CallH.pure (c0) rfl ?_) | (refine CallH.lent (c0) rfl ?_) | (refine CallH.own (c0) ?_) | (refine CallE.pure (ca) rfl ?_) | (refine CallE.lent (ca) rfl ?_) | (refine CallF.pure (ca) rfl ?_) | (refine CallF.lent (ca) rfl ?_) | (refine CallE.own (ca) ?_) | (refine CallH.pure (ca) rfl ?_) | (refine CallH.lent (ca) rfl ?_) | (refine CallH.own (ca) ?_)
    all_goals apply hr
    all_goals simp [Try.f7]
  rw [decide_eq_false (fun h => h hn)] at c0
  by_cases hn1 : nearK h l1
  rotate_left
  · rw [decide_eq_true hn1] at c1
    unfold Hy.cells at c0 c1 ⊢
    refine wBody Try.tab Try.mixed Try.func7 rfl rfl Try.ntmps7 (by simp) (by simp) fun Q hr hn => ?_
    repeat' first | (refine hK _ ?_; clear hK) | (refine hK _ _ ?_; clear hK) | (clear hK; refine hK _ ?_; clear hK) | (clear hK; clear hK; refine hK _ ?_; clear hK) | (clear hK; clear hK; clear hK; refine hK _ ?_; clear hK) | (clear hK; clear hK; clear hK; clear hK; refine hK _ ?_; clear hK) | (refine wSeq fun K hK => ?_) | ((first | refine wReg ?_ | refine wDrwQ rfl (by kernel_rfl) ?_ | refine wDrwI ?_ | refine wDrw (by kernel_rfl) ?_); simp only [List.map_cons, List.map_nil, strip]) | ((first | refine wIs fun K hK => ?_ | refine wOs fun K hK => ?_ | refine wQs fun K hK => ?_ | refine CallK_plain ?_ | refine CallQ_plain ?_ | refine CallR_plain ?_ | refine wCond ?_); simp) | (refine wIn ?_; refine And.intro (by kernel_rfl) ?_; try simp only [thenA_n]) | (first | refine wBlock ?_ | refine wScope ?_) | ((first | refine wRet ?_ | refine wExit ?_ | refine wSkip ?_); try simp) | ((first | refine wLabel ?_ | refine wOn ?_ | refine wQn ?_); try simp only [thenA_n]) | (refine CallE.pure (c0) rfl ?_) | (refine CallE.lent (c0) rfl ?_) | (refine CallF.pure (c0) rfl ?_) | (refine CallF.lent (c0) rfl ?_) | (refine CallE.own (c0) ?_) | (refine CallH.pure (c0) rfl ?_) | (refine CallH.lent (c0) rfl ?_) | (refine CallH.own (c0) ?_) | (refine CallE.pure (c1) rfl ?_) | (refine CallE.lent (c1) rfl ?_) | (refine CallF.pure (c1) rfl ?_) | (refine CallF.lent (c1) rfl ?_) | (refine CallE.own (c1) ?_) | (refine CallH.pure (c1) rfl ?_) | (refine CallH.lent (c1) rfl ?_) | (refine CallH.own (c1) ?_) | (refine CallE.pure (ca) rfl ?_) | (refine CallE.lent (ca) rfl ?_) | (refine CallF.pure (ca) rfl ?_) | (refine CallF.lent (ca) rfl ?_) | (refine CallE.own (ca) ?_) | (refine CallH.pure (ca) rfl ?_) | (refine CallH.lent (ca) rfl ?_) | (refine CallH.own (ca) ?_)
    all_goals apply hr
    all_goals simp [Try.f7]
  rw [decide_eq_false (fun h => h hn1)] at c1
  have hk := OkH.of hn
  have hll0 := hn.2.2.1
  have hll1 := hn1.2.2.1
  have hlg50 := hn.1
  have hlg := hk.lg
  have cc := check16_con h hlg
  by_cases hr0 : risesB (marksH h) = true
  rotate_left
  · simp only [Bool.not_eq_true] at hr0
    rw [hr0] at cc
    unfold Hy.cells at c0 c1 cc ⊢
    refine wBody Try.tab Try.mixed Try.func7 rfl rfl Try.ntmps7 (by simp) (by simp) fun Q hr hn => ?_
    repeat' first | (refine hK _ ?_; clear hK) | (refine hK _ _ ?_; clear hK) | (clear hK; refine hK _ ?_; clear hK) | (clear hK; clear hK; refine hK _ ?_; clear hK) | (clear hK; clear hK; clear hK; refine hK _ ?_; clear hK) | (clear hK; clear hK; clear hK; clear hK; refine hK _ ?_; clear hK) | (refine wSeq fun K hK => ?_) | ((first | refine wReg ?_ | refine wDrwQ rfl (by kernel_rfl) ?_ | refine wDrwI ?_ | refine wDrw (by kernel_rfl) ?_); simp only [List.map_cons, List.map_nil, strip]) | ((first | refine wIs fun K hK => ?_ | refine wOs fun K hK => ?_ | refine wQs fun K hK => ?_ | refine CallK_plain ?_ | refine CallQ_plain ?_ | refine CallR_plain ?_ | refine wCond ?_); simp) | (refine wIn ?_; refine And.intro (by kernel_rfl) ?_; try simp only [thenA_n]) | (first | refine wBlock ?_ | refine wScope ?_) | ((first | refine wRet ?_ | refine wExit ?_ | refine wSkip ?_); try simp) | ((first | refine wLabel ?_ | refine wOn ?_ | refine wQn ?_); try simp only [thenA_n]) | (refine CallE.pure (c0) rfl ?_) | (refine CallE.lent (c0) rfl ?_) | (refine CallF.pure (c0) rfl ?_) | (refine CallF.lent (c0) rfl ?_) | (refine CallE.own (c0) ?_) | (refine CallH.pure (c0) rfl ?_) | (refine CallH.lent (c0) rfl ?_) | (refine CallH.own (c0) ?_) | (refine CallE.pure (c1) rfl ?_) | (refine CallE.lent (c1) rfl ?_) | (refine CallF.pure (c1) rfl ?_) | (refine CallF.lent (c1) rfl ?_) | (refine CallE.own (c1) ?_) | (refine CallH.pure (c1) rfl ?_) | (refine CallH.lent (c1) rfl ?_) | (refine CallH.own (c1) ?_) | (refine CallE.pure (cc) rfl ?_) | (refine CallE.lent (cc) rfl ?_) | (refine CallF.pure (cc) rfl ?_) | (refine CallF.lent (cc) rfl ?_) | (refine CallE.own (cc) ?_) | (refine CallH.pure (cc) rfl ?_) | (refine CallH.lent (cc) rfl ?_) | (refine CallH.own (cc) ?_) | (refine CallE.pure (ca) rfl ?_) | (refine CallE.lent (ca) rfl ?_) | (refine CallF.pure (ca) rfl ?_) | (refine CallF.lent (ca) rfl ?_) | (refine CallE.own (ca) ?_) | (refine CallH.pure (ca) rfl ?_) | (refine CallH.lent (ca) rfl ?_) | (refine CallH.own (ca) ?_)
    all_goals apply hr
    all_goals simp [Try.f7]
  rw [hr0] at cc
  by_cases hse : s0 = s1
  · unfold Hy.cells at c0 c1 cc ⊢
    refine wBody Try.tab Try.mixed Try.func7 rfl rfl Try.ntmps7 (by simp) (by simp) fun Q hr hn => ?_
    repeat' first | (refine hK _ ?_; clear hK) | (refine hK _ _ ?_; clear hK) | (clear hK; refine hK _ ?_; clear hK) | (clear hK; clear hK; refine hK _ ?_; clear hK) | (clear hK; clear hK; clear hK; refine hK _ ?_; clear hK) | (clear hK; clear hK; clear hK; clear hK; refine hK _ ?_; clear hK) | (refine wSeq fun K hK => ?_) | ((first | refine wReg ?_ | refine wDrwQ rfl (by kernel_rfl) ?_ | refine wDrwI ?_ | refine wDrw (by kernel_rfl) ?_); simp only [List.map_cons, List.map_nil, strip]) | ((first | refine wIs fun K hK => ?_ | refine wOs fun K hK => ?_ | refine wQs fun K hK => ?_ | refine CallK_plain ?_ | refine CallQ_plain ?_ | refine CallR_plain ?_ | refine wCond ?_); simp [hse]) | (refine wIn ?_; refine And.intro (by kernel_rfl) ?_; try simp only [thenA_n]) | (first | refine wBlock ?_ | refine wScope ?_) | ((first | refine wRet ?_ | refine wExit ?_ | refine wSkip ?_); try simp) | ((first | refine wLabel ?_ | refine wOn ?_ | refine wQn ?_); try simp only [thenA_n]) | (refine CallE.pure (c0) rfl ?_) | (refine CallE.lent (c0) rfl ?_) | (refine CallF.pure (c0) rfl ?_) | (refine CallF.lent (c0) rfl ?_) | (refine CallE.own (c0) ?_) | (refine CallH.pure (c0) rfl ?_) | (refine CallH.lent (c0) rfl ?_) | (refine CallH.own (c0) ?_) | (refine CallE.pure (c1) rfl ?_) | (refine CallE.lent (c1) rfl ?_) | (refine CallF.pure (c1) rfl ?_) | (refine CallF.lent (c1) rfl ?_) | (refine CallE.own (c1) ?_) | (refine CallH.pure (c1) rfl ?_) | (refine CallH.lent (c1) rfl ?_) | (refine CallH.own (c1) ?_) | (refine CallE.pure (cc) rfl ?_) | (refine CallE.lent (cc) rfl ?_) | (refine CallF.pure (cc) rfl ?_) | (refine CallF.lent (cc) rfl ?_) | (refine CallE.own (cc) ?_) | (refine CallH.pure (cc) rfl ?_) | (refine CallH.lent (cc) rfl ?_) | (refine CallH.own (cc) ?_) | (refine CallE.pure (ca) rfl ?_) | (refine CallE.lent (ca) rfl ?_) | (refine CallF.pure (ca) rfl ?_) | (refine CallF.lent (ca) rfl ?_) | (refine CallE.own (ca) ?_) | (refine CallH.pure (ca) rfl ?_) | (refine CallH.lent (ca) rfl ?_) | (refine CallH.own (ca) ?_)
    all_goals apply hr
    all_goals simp [Try.f7]
  have cl := last16_con h hlg
  rw [lastH_pv] at cl
  have cb := base16_con h
  have cv := voters04_con h.im.c (by have := hk.c; omega)
  have hvl : (ids h.im.c.ms 1).length ≤ 1000 := Nat.le_trans (ids_len _ _) hk.c
  have hzx : ∀ (x : Zx), zlt (pv h h.lg.length) x → x.e = x.e := fun _ _ => rfl
  unfold Hy.cells at c0 c1 cc cl cb ⊢
  unfold Cf.cells at cv
  refine wBody Try.tab Try.mixed Try.func7 rfl rfl Try.ntmps7 (by simp) (by simp) fun Q hr hn => ?_
  repeat' first | (refine hK _ ?_; clear hK) | (refine hK _ _ ?_; clear hK) | (clear hK; refine hK _ ?_; clear hK) | (clear hK; clear hK; refine hK _ ?_; clear hK) | (clear hK; clear hK; clear hK; refine hK _ ?_; clear hK) | (clear hK; clear hK; clear hK; clear hK; refine hK _ ?_; clear hK) | (refine wSeq fun K hK => ?_) | ((first | refine wReg ?_ | refine wDrwQ rfl (by kernel_rfl) ?_ | refine wDrwI ?_ | refine wDrw (by kernel_rfl) ?_); simp only [List.map_cons, List.map_nil, strip]) | ((first | refine wIs fun K hK => ?_ | refine wOs fun K hK => ?_ | refine wQs fun K hK => ?_ | refine CallK_plain ?_ | refine CallQ_plain ?_ | refine CallR_plain ?_ | refine wCond ?_); simp [hse]) | (refine wIn ?_; refine And.intro (by kernel_rfl) ?_; try simp only [thenA_n]) | (first | refine wBlock ?_ | refine wScope ?_) | ((first | refine wRet ?_ | refine wExit ?_ | refine wSkip ?_); try simp) | ((first | refine wLabel ?_ | refine wOn ?_ | refine wQn ?_); try simp only [thenA_n]) | (refine CallE.pure (c0) rfl ?_) | (refine CallE.lent (c0) rfl ?_) | (refine CallF.pure (c0) rfl ?_) | (refine CallF.lent (c0) rfl ?_) | (refine CallE.own (c0) ?_) | (refine CallH.pure (c0) rfl ?_) | (refine CallH.lent (c0) rfl ?_) | (refine CallH.own (c0) ?_) | (refine CallE.pure (c1) rfl ?_) | (refine CallE.lent (c1) rfl ?_) | (refine CallF.pure (c1) rfl ?_) | (refine CallF.lent (c1) rfl ?_) | (refine CallE.own (c1) ?_) | (refine CallH.pure (c1) rfl ?_) | (refine CallH.lent (c1) rfl ?_) | (refine CallH.own (c1) ?_) | (refine CallE.pure (cc) rfl ?_) | (refine CallE.lent (cc) rfl ?_) | (refine CallF.pure (cc) rfl ?_) | (refine CallF.lent (cc) rfl ?_) | (refine CallE.own (cc) ?_) | (refine CallH.pure (cc) rfl ?_) | (refine CallH.lent (cc) rfl ?_) | (refine CallH.own (cc) ?_)
  refine wLoop (fun N st => ∃ (k : Nat), k + N = h.lg.length ∧ (∀ t ∈ h.lg.take k, lastC t.ps = none) ∧ st.s 3 = .ptr 3 0 ∧ st.b 3 = some (.box 40 (hyB h (.p (.sl 8 (txns h.lg))))) ∧ st.s 4 = .ptr 4 0 ∧ st.b 4 = some (.box 61 [.p (.sl 8 (lrs l0)), .p (.sl 8 (lrs l1))]) ∧ st.s 5 = .ptr 5 0 ∧ st.b 5 = some (.box 62 [.p (I s0), .p (I s1)]) ∧ st.s 44 = .p (.sl 8 (txns h.lg)) ∧ st.s 45 = .p (I h.lg.length) ∧ st.s 46 = .p (I k)) h.lg.length ⟨0, by simp⟩ fun K N st hL ⟨k, hkN, hpl, g3, b3, g4, b4, g5, b5, g44, g45, g46⟩ => ?_
  by_cases hlt : k < h.lg.length
  · have hlt' : (k : Int) < h.lg.length := by omega
    have hw := wrapS k _ hlt (by omega)
    have he := txns_get hlt
    obtain ⟨hp1, hp2⟩ := hk.ps _ (List.getElem_mem hlt)
    repeat' first | (refine hK _ ?_; clear hK) | (refine hK _ _ ?_; clear hK) | (clear hK; refine hK _ ?_; clear hK) | (clear hK; clear hK; refine hK _ ?_; clear hK) | (clear hK; clear hK; clear hK; refine hK _ ?_; clear hK) | (clear hK; clear hK; clear hK; clear hK; refine hK _ ?_; clear hK) | (refine wSeq fun K hK => ?_) | ((first | refine wReg ?_ | refine wDrwQ rfl (by kernel_rfl) ?_ | refine wDrwI ?_ | refine wDrw (by kernel_rfl) ?_); simp only [List.map_cons, List.map_nil, strip]) | ((first | refine wIs fun K hK => ?_ | refine wOs fun K hK => ?_ | refine wQs fun K hK => ?_ | refine CallK_plain ?_ | refine CallQ_plain ?_ | refine CallR_plain ?_ | refine wCond ?_); simp [g3, b3, g4, b4, g5, b5, g44, g45, g46, hlt, hlt', he]) | (refine wIn ?_; refine And.intro (by kernel_rfl) ?_; try simp only [thenA_n]) | (first | refine wBlock ?_ | refine wScope ?_) | ((first | refine wRet ?_ | refine wExit ?_ | refine wSkip ?_); try simp) | ((first | refine wLabel ?_ | refine wOn ?_ | refine wQn ?_); try simp only [thenA_n])
    refine wLoop (fun N' st => ∃ (q : Nat), q + N' = h.lg[k].ps.length ∧ (∀ j (hj : j < h.lg[k].ps.length), j < q → ¬ (h.lg[k].ps[j]).k = 5) ∧ st.s 3 = .ptr 3 0 ∧ st.b 3 = some (.box 40 (hyB h (.p (.sl 8 (txns h.lg))))) ∧ st.s 4 = .ptr 4 0 ∧ st.b 4 = some (.box 61 [.p (.sl 8 (lrs l0)), .p (.sl 8 (lrs l1))]) ∧ st.s 5 = .ptr 5 0 ∧ st.b 5 = some (.box 62 [.p (I s0), .p (I s1)]) ∧ st.s 44 = .p (.sl 8 (txns h.lg)) ∧ st.s 45 = .p (I h.lg.length) ∧ st.s 46 = .p (I k) ∧ st.s 51 = .p (.sl 11 (pts h.lg[k].ps)) ∧ st.s 52 = .p (I h.lg[k].ps.length) ∧ st.s 53 = .p (I q)) h.lg[k].ps.length ⟨0, by simp [g3, b3, g4, b4, g5, b5, g44, g45, g46]⟩ fun K' N' st hL' ⟨q, hqN, hno, e3, d3, e4, d4, e5, d5, e44, e45, e46, e51, e52, e53⟩ => ?_
    by_cases hlq : q < h.lg[k].ps.length
    · have hlq' : (q : Int) < h.lg[k].ps.length := by omega
      have hwq := wrapS q _ hlq (by omega)
      have heq := pts_get hlq
      by_cases o : (h.lg[k].ps[q]).k = 5
      · repeat' first | (refine hK _ ?_; clear hK) | (refine hK _ _ ?_; clear hK) | (clear hK; refine hK _ ?_; clear hK) | (clear hK; clear hK; refine hK _ ?_; clear hK) | (clear hK; clear hK; clear hK; refine hK _ ?_; clear hK) | (clear hK; clear hK; clear hK; clear hK; refine hK _ ?_; clear hK) | (refine wSeq fun K hK => ?_) | ((first | refine wReg ?_ | refine wDrwQ rfl (by kernel_rfl) ?_ | refine wDrwI ?_ | refine wDrw (by kernel_rfl) ?_); simp only [List.map_cons, List.map_nil, strip]) | ((first | refine wIs fun K hK => ?_ | refine wOs fun K hK => ?_ | refine wQs fun K hK => ?_ | refine CallK_plain ?_ | refine CallQ_plain ?_ | refine CallR_plain ?_ | refine wCond ?_); simp [e3, d3, e4, d4, e5, d5, e44, e45, e46, e51, e52, e53, hlq, hlq', heq, o, Pt.cells]) | (refine wIn ?_; refine And.intro (by kernel_rfl) ?_; try simp only [thenA_n]) | (first | refine wBlock ?_ | refine wScope ?_) | ((first | refine wRet ?_ | refine wExit ?_ | refine wSkip ?_); try simp) | ((first | refine wLabel ?_ | refine wOn ?_ | refine wQn ?_); try simp only [thenA_n]) | (refine CallE.pure (ca) rfl ?_) | (refine CallE.lent (ca) rfl ?_) | (refine CallF.pure (ca) rfl ?_) | (refine CallF.lent (ca) rfl ?_) | (refine CallE.own (ca) ?_) | (refine CallH.pure (ca) rfl ?_) | (refine CallH.lent (ca) rfl ?_) | (refine CallH.own (ca) ?_)
        all_goals apply hr
        all_goals simp [Try.f7]
      · repeat' first | (refine hK _ ?_; clear hK) | (refine hK _ _ ?_; clear hK) | (clear hK; refine hK _ ?_; clear hK) | (clear hK; clear hK; refine hK _ ?_; clear hK) | (clear hK; clear hK; clear hK; refine hK _ ?_; clear hK) | (clear hK; clear hK; clear hK; clear hK; refine hK _ ?_; clear hK) | (refine wSeq fun K hK => ?_) | ((first | refine wReg ?_ | refine wDrwQ rfl (by kernel_rfl) ?_ | refine wDrwI ?_ | refine wDrw (by kernel_rfl) ?_); simp only [List.map_cons, List.map_nil, strip]) | ((first | refine wIs fun K hK => ?_ | refine wOs fun K hK => ?_ | refine wQs fun K hK => ?_ | refine CallK_plain ?_ | refine CallQ_plain ?_ | refine CallR_plain ?_ | refine wCond ?_); simp [e3, d3, e4, d4, e5, d5, e44, e45, e46, e51, e52, e53, hlq, hlq', heq, o, hwq, Pt.cells]) | (refine wIn ?_; refine And.intro (by kernel_rfl) ?_; try simp only [thenA_n]) | (first | refine wBlock ?_ | refine wScope ?_) | ((first | refine wRet ?_ | refine wExit ?_ | refine wSkip ?_); try simp) | ((first | refine wLabel ?_ | refine wOn ?_ | refine wQn ?_); try simp only [thenA_n])
        refine hL' _ (N' - 1) (by omega) ⟨q + 1, by omega, fun j hj hjq => ?_, ?_⟩
        · by_cases hjr : j = q
          · subst hjr; exact o
          · exact hno j hj (by omega)
        · simp [e3, d3, e4, d4, e5, d5, e44, e45, e46, e51, e52, e53, hwq]
    · have hlq' : ¬ (q : Int) < h.lg[k].ps.length := by omega
      repeat' first | (refine hK _ ?_; clear hK) | (refine hK _ _ ?_; clear hK) | (clear hK; refine hK _ ?_; clear hK) | (clear hK; clear hK; refine hK _ ?_; clear hK) | (clear hK; clear hK; clear hK; refine hK _ ?_; clear hK) | (clear hK; clear hK; clear hK; clear hK; refine hK _ ?_; clear hK) | (refine wSeq fun K hK => ?_) | ((first | refine wReg ?_ | refine wDrwQ rfl (by kernel_rfl) ?_ | refine wDrwI ?_ | refine wDrw (by kernel_rfl) ?_); simp only [List.map_cons, List.map_nil, strip]) | ((first | refine wIs fun K hK => ?_ | refine wOs fun K hK => ?_ | refine wQs fun K hK => ?_ | refine CallK_plain ?_ | refine CallQ_plain ?_ | refine CallR_plain ?_ | refine wCond ?_); simp [e3, d3, e4, d4, e5, d5, e44, e45, e46, e51, e52, e53, hlq, hlq', hw]) | (refine wIn ?_; refine And.intro (by kernel_rfl) ?_; try simp only [thenA_n]) | (first | refine wBlock ?_ | refine wScope ?_) | ((first | refine wRet ?_ | refine wExit ?_ | refine wSkip ?_); try simp) | ((first | refine wLabel ?_ | refine wOn ?_ | refine wQn ?_); try simp only [thenA_n])
      refine hL _ (N - 1) (by omega) ⟨k + 1, by omega, fun t ht => ?_, ?_⟩
      · rw [List.take_succ_eq_append_getElem hlt] at ht
        rcases List.mem_append.1 ht with ht | ht
        · exact hpl t ht
        · rw [List.mem_singleton.1 ht]; exact lastC_none fun j hj => hno j hj (by omega)
      · simp [e3, d3, e4, d4, e5, d5, e44, e45, e46, hw]
  have hlt' : ¬ (k : Int) < h.lg.length := by omega
  rw [List.take_of_length_le (by omega)] at hpl
  have hx := grow_quorum hr0 (x := ⟨(pv h h.lg.length).e, (pv h h.lg.length).n + 1⟩) (Or.inr ⟨rfl, by show (pv h h.lg.length).n < (pv h h.lg.length).n + 1; omega⟩) hpl (self := s0) (l := l0)
  have hy := grow_quorum hr0 (x := ⟨(pv h h.lg.length).e + 1, 1⟩) (Or.inl (by show (pv h h.lg.length).e < (pv h h.lg.length).e + 1; omega)) hpl (self := s1) (l := l1)
  have ca1 := commit_con (grow h ⟨(pv h h.lg.length).e, (pv h h.lg.length).n + 1⟩) h.im.ae h.im.an s0 l0 (grow_ok hk (by omega) _) (by omega)
  have ca2 := commit_con (grow h ⟨(pv h h.lg.length).e + 1, 1⟩) h.im.ae h.im.an s1 l1 (grow_ok hk (by omega) _) (by omega)
  generalize comF (grow h ⟨(pv h h.lg.length).e, (pv h h.lg.length).n + 1⟩) s0 l0 (grow h ⟨(pv h h.lg.length).e, (pv h h.lg.length).n + 1⟩).lg 0 h.im.ae h.im.an = fz at hx ca1
  generalize comF (grow h ⟨(pv h h.lg.length).e + 1, 1⟩) s1 l1 (grow h ⟨(pv h h.lg.length).e + 1, 1⟩).lg 0 h.im.ae h.im.an = sz at hy ca2
  have hg1 : (grow h ⟨(pv h h.lg.length).e, (pv h h.lg.length).n + 1⟩).cells = [.sl 5 (zns h.im.ns), .sl 1 (ints h.im.ss), I h.im.nx, I h.im.c.ep, I h.im.c.n, I h.im.c.kind, .sl 4 (mbs h.im.c.ms), I h.im.ae, I h.im.an, .sl 8 (txns h.lg ++ [[I (pv h h.lg.length).e, I ((pv h h.lg.length).n + 1), I 0, I 0, I 0, I 0, SB [], .sl 11 []]])] := by
    simp [Hy.cells, grow, txns, Tx.cells, txAt, pts]
  have hg2 : (grow h ⟨(pv h h.lg.length).e + 1, 1⟩).cells = [.sl 5 (zns h.im.ns), .sl 1 (ints h.im.ss), I h.im.nx, I h.im.c.ep, I h.im.c.n, I h.im.c.kind, .sl 4 (mbs h.im.c.ms), I h.im.ae, I h.im.an, .sl 8 (txns h.lg ++ [[I ((pv h h.lg.length).e + 1), I 1, I 0, I 0, I 0, I 0, SB [], .sl 11 []]])] := by
    simp [Hy.cells, grow, txns, Tx.cells, txAt, pts]
  rw [hg1] at ca1
  rw [hg2] at ca2
  clear hg1 hg2
  generalize pv h h.lg.length = z at *
  by_cases b1 : (1099511627776 : Int) < z.n
  · repeat' first | (refine hK _ ?_; clear hK) | (refine hK _ _ ?_; clear hK) | (clear hK; refine hK _ ?_; clear hK) | (clear hK; clear hK; refine hK _ ?_; clear hK) | (clear hK; clear hK; clear hK; refine hK _ ?_; clear hK) | (clear hK; clear hK; clear hK; clear hK; refine hK _ ?_; clear hK) | (refine wSeq fun K hK => ?_) | ((first | refine wReg ?_ | refine wDrwQ rfl (by kernel_rfl) ?_ | refine wDrwI ?_ | refine wDrw (by kernel_rfl) ?_); simp only [List.map_cons, List.map_nil, strip]) | ((first | refine wIs fun K hK => ?_ | refine wOs fun K hK => ?_ | refine wQs fun K hK => ?_ | refine CallK_plain ?_ | refine CallQ_plain ?_ | refine CallR_plain ?_ | refine wCond ?_); simp [g3, b3, g4, b4, g5, b5, g44, g45, g46, hlt, hlt', b1]) | (refine wIn ?_; refine And.intro (by kernel_rfl) ?_; try simp only [thenA_n]) | (first | refine wBlock ?_ | refine wScope ?_) | ((first | refine wRet ?_ | refine wExit ?_ | refine wSkip ?_); try simp) | ((first | refine wLabel ?_ | refine wOn ?_ | refine wQn ?_); try simp only [thenA_n]) | (refine CallE.pure (cl) rfl ?_) | (refine CallE.lent (cl) rfl ?_) | (refine CallF.pure (cl) rfl ?_) | (refine CallF.lent (cl) rfl ?_) | (refine CallE.own (cl) ?_) | (refine CallH.pure (cl) rfl ?_) | (refine CallH.lent (cl) rfl ?_) | (refine CallH.own (cl) ?_) | (refine CallE.pure (ca) rfl ?_) | (refine CallE.lent (ca) rfl ?_) | (refine CallF.pure (ca) rfl ?_) | (refine CallF.lent (ca) rfl ?_) | (refine CallE.own (ca) ?_) | (refine CallH.pure (ca) rfl ?_) | (refine CallH.lent (ca) rfl ?_) | (refine CallH.own (ca) ?_)
    all_goals apply hr
    all_goals simp [Try.f7]
  by_cases b2 : z.n < 0
  · repeat' first | (refine hK _ ?_; clear hK) | (refine hK _ _ ?_; clear hK) | (clear hK; refine hK _ ?_; clear hK) | (clear hK; clear hK; refine hK _ ?_; clear hK) | (clear hK; clear hK; clear hK; refine hK _ ?_; clear hK) | (clear hK; clear hK; clear hK; clear hK; refine hK _ ?_; clear hK) | (refine wSeq fun K hK => ?_) | ((first | refine wReg ?_ | refine wDrwQ rfl (by kernel_rfl) ?_ | refine wDrwI ?_ | refine wDrw (by kernel_rfl) ?_); simp only [List.map_cons, List.map_nil, strip]) | ((first | refine wIs fun K hK => ?_ | refine wOs fun K hK => ?_ | refine wQs fun K hK => ?_ | refine CallK_plain ?_ | refine CallQ_plain ?_ | refine CallR_plain ?_ | refine wCond ?_); simp [g3, b3, g4, b4, g5, b5, g44, g45, g46, hlt, hlt', b1, b2]) | (refine wIn ?_; refine And.intro (by kernel_rfl) ?_; try simp only [thenA_n]) | (first | refine wBlock ?_ | refine wScope ?_) | ((first | refine wRet ?_ | refine wExit ?_ | refine wSkip ?_); try simp) | ((first | refine wLabel ?_ | refine wOn ?_ | refine wQn ?_); try simp only [thenA_n]) | (refine CallE.pure (cl) rfl ?_) | (refine CallE.lent (cl) rfl ?_) | (refine CallF.pure (cl) rfl ?_) | (refine CallF.lent (cl) rfl ?_) | (refine CallE.own (cl) ?_) | (refine CallH.pure (cl) rfl ?_) | (refine CallH.lent (cl) rfl ?_) | (refine CallH.own (cl) ?_) | (refine CallE.pure (ca) rfl ?_) | (refine CallE.lent (ca) rfl ?_) | (refine CallF.pure (ca) rfl ?_) | (refine CallF.lent (ca) rfl ?_) | (refine CallE.own (ca) ?_) | (refine CallH.pure (ca) rfl ?_) | (refine CallH.lent (ca) rfl ?_) | (refine CallH.own (ca) ?_)
    all_goals apply hr
    all_goals simp [Try.f7]
  by_cases b3' : (1099511627776 : Int) < z.e
  · repeat' first | (refine hK _ ?_; clear hK) | (refine hK _ _ ?_; clear hK) | (clear hK; refine hK _ ?_; clear hK) | (clear hK; clear hK; refine hK _ ?_; clear hK) | (clear hK; clear hK; clear hK; refine hK _ ?_; clear hK) | (clear hK; clear hK; clear hK; clear hK; refine hK _ ?_; clear hK) | (refine wSeq fun K hK => ?_) | ((first | refine wReg ?_ | refine wDrwQ rfl (by kernel_rfl) ?_ | refine wDrwI ?_ | refine wDrw (by kernel_rfl) ?_); simp only [List.map_cons, List.map_nil, strip]) | ((first | refine wIs fun K hK => ?_ | refine wOs fun K hK => ?_ | refine wQs fun K hK => ?_ | refine CallK_plain ?_ | refine CallQ_plain ?_ | refine CallR_plain ?_ | refine wCond ?_); simp [g3, b3, g4, b4, g5, b5, g44, g45, g46, hlt, hlt', b1, b2, b3']) | (refine wIn ?_; refine And.intro (by kernel_rfl) ?_; try simp only [thenA_n]) | (first | refine wBlock ?_ | refine wScope ?_) | ((first | refine wRet ?_ | refine wExit ?_ | refine wSkip ?_); try simp) | ((first | refine wLabel ?_ | refine wOn ?_ | refine wQn ?_); try simp only [thenA_n]) | (refine CallE.pure (cl) rfl ?_) | (refine CallE.lent (cl) rfl ?_) | (refine CallF.pure (cl) rfl ?_) | (refine CallF.lent (cl) rfl ?_) | (refine CallE.own (cl) ?_) | (refine CallH.pure (cl) rfl ?_) | (refine CallH.lent (cl) rfl ?_) | (refine CallH.own (cl) ?_) | (refine CallE.pure (ca) rfl ?_) | (refine CallE.lent (ca) rfl ?_) | (refine CallF.pure (ca) rfl ?_) | (refine CallF.lent (ca) rfl ?_) | (refine CallE.own (ca) ?_) | (refine CallH.pure (ca) rfl ?_) | (refine CallH.lent (ca) rfl ?_) | (refine CallH.own (ca) ?_)
    all_goals apply hr
    all_goals simp [Try.f7]
  by_cases b4' : z.e < 0
  · repeat' first | (refine hK _ ?_; clear hK) | (refine hK _ _ ?_; clear hK) | (clear hK; refine hK _ ?_; clear hK) | (clear hK; clear hK; refine hK _ ?_; clear hK) | (clear hK; clear hK; clear hK; refine hK _ ?_; clear hK) | (clear hK; clear hK; clear hK; clear hK; refine hK _ ?_; clear hK) | (refine wSeq fun K hK => ?_) | ((first | refine wReg ?_ | refine wDrwQ rfl (by kernel_rfl) ?_ | refine wDrwI ?_ | refine wDrw (by kernel_rfl) ?_); simp only [List.map_cons, List.map_nil, strip]) | ((first | refine wIs fun K hK => ?_ | refine wOs fun K hK => ?_ | refine wQs fun K hK => ?_ | refine CallK_plain ?_ | refine CallQ_plain ?_ | refine CallR_plain ?_ | refine wCond ?_); simp [g3, b3, g4, b4, g5, b5, g44, g45, g46, hlt, hlt', b1, b2, b3', b4']) | (refine wIn ?_; refine And.intro (by kernel_rfl) ?_; try simp only [thenA_n]) | (first | refine wBlock ?_ | refine wScope ?_) | ((first | refine wRet ?_ | refine wExit ?_ | refine wSkip ?_); try simp) | ((first | refine wLabel ?_ | refine wOn ?_ | refine wQn ?_); try simp only [thenA_n]) | (refine CallE.pure (cl) rfl ?_) | (refine CallE.lent (cl) rfl ?_) | (refine CallF.pure (cl) rfl ?_) | (refine CallF.lent (cl) rfl ?_) | (refine CallE.own (cl) ?_) | (refine CallH.pure (cl) rfl ?_) | (refine CallH.lent (cl) rfl ?_) | (refine CallH.own (cl) ?_) | (refine CallE.pure (ca) rfl ?_) | (refine CallE.lent (ca) rfl ?_) | (refine CallF.pure (ca) rfl ?_) | (refine CallF.lent (ca) rfl ?_) | (refine CallE.own (ca) ?_) | (refine CallH.pure (ca) rfl ?_) | (refine CallH.lent (ca) rfl ?_) | (refine CallH.own (ca) ?_)
    all_goals apply hr
    all_goals simp [Try.f7]
  have w1 : IntKind.i64.wrap (z.n + 1) = z.n + 1 := by rw [wrap_id] <;> omega
  have w2 : IntKind.i64.wrap (z.e + 1) = z.e + 1 := by rw [wrap_id] <;> omega
  obtain ⟨X, hX⟩ : ∃ X, X = [I z.e, I (z.n + 1), I 0, I 0, I 0, I 0, SB [], .sl 11 []] := ⟨_, rfl⟩
  obtain ⟨Y, hY⟩ : ∃ Y, Y = [I (z.e + 1), I 1, I 0, I 0, I 0, I 0, SB [], .sl 11 []] := ⟨_, rfl⟩
  have hgX : (txns h.lg ++ [[I z.e, I (z.n + 1), I 0, I 0, I 0, I 0, SB [], .sl 11 []]])[h.lg.length]? = some [I z.e, I (z.n + 1), I 0, I 0, I 0, I 0, SB [], .sl 11 []] := by simp
  have hgY : (txns h.lg ++ [[I (z.e + 1), I 1, I 0, I 0, I 0, I 0, SB [], .sl 11 []]])[h.lg.length]? = some [I (z.e + 1), I 1, I 0, I 0, I 0, I 0, SB [], .sl 11 []] := by simp
  have w3 : IntKind.i64.wrap ((h.lg.length : Int) + 1 - 1) = (h.lg.length : Int) := by rw [wrap_id] <;> omega
  have w3' : IntKind.i64.wrap (h.lg.length : Int) = (h.lg.length : Int) := by rw [wrap_id] <;> omega
  have w4 : h.lg.length < h.lg.length + 1 := by omega
  repeat' first | (refine And.intro (by (try simp only [txns_len, List.length_append, List.length_cons, List.length_nil]); omega) ?_) | (refine Or.inl ?_) | (refine hK _ ?_; clear hK) | (refine hK _ _ ?_; clear hK) | (clear hK; refine hK _ ?_; clear hK) | (clear hK; clear hK; refine hK _ ?_; clear hK) | (clear hK; clear hK; clear hK; refine hK _ ?_; clear hK) | (clear hK; clear hK; clear hK; clear hK; refine hK _ ?_; clear hK) | (refine wSeq fun K hK => ?_) | ((first | refine wReg ?_ | refine wDrwQ rfl (by kernel_rfl) ?_ | refine wDrwI ?_ | refine wDrw (by kernel_rfl) ?_); simp only [List.map_cons, List.map_nil, strip]) | ((first | refine wIs fun K hK => ?_ | refine wOs fun K hK => ?_ | refine wQs fun K hK => ?_ | refine CallK_plain ?_ | refine CallQ_plain ?_ | refine CallR_plain ?_ | refine wCond ?_); simp [g3, b3, g4, b4, g5, b5, g44, g45, g46, hlt, hlt', b1, b2, b3', b4', w1, w2, w3, w3', w4, hgX, hgY]) | (refine wIn ?_; refine And.intro (by kernel_rfl) ?_; try simp only [thenA_n]) | (first | refine wBlock ?_ | refine wScope ?_) | ((first | refine wRet ?_ | refine wExit ?_ | refine wSkip ?_); try simp) | ((first | refine wLabel ?_ | refine wOn ?_ | refine wQn ?_); try simp only [thenA_n]) | (refine CallE.pure (cl) rfl ?_) | (refine CallE.lent (cl) rfl ?_) | (refine CallF.pure (cl) rfl ?_) | (refine CallF.lent (cl) rfl ?_) | (refine CallE.own (cl) ?_) | (refine CallH.pure (cl) rfl ?_) | (refine CallH.lent (cl) rfl ?_) | (refine CallH.own (cl) ?_) | (refine CallE.pure (cv) rfl ?_) | (refine CallE.lent (cv) rfl ?_) | (refine CallF.pure (cv) rfl ?_) | (refine CallF.lent (cv) rfl ?_) | (refine CallE.own (cv) ?_) | (refine CallH.pure (cv) rfl ?_) | (refine CallH.lent (cv) rfl ?_) | (refine CallH.own (cv) ?_)
  refine wLoopG [.frz 89, .frz 103] (fun N st => ∃ (k : Nat), k + N = (ids h.im.c.ms 1).length ∧ (∀ j (hj : j < (ids h.im.c.ms 1).length), j < k → ¬ (hasK l0 s0 (ids h.im.c.ms 1)[j] z.e (z.n + 1) = true ∧ hasK l1 s1 (ids h.im.c.ms 1)[j] (z.e + 1) 1 = true)) ∧ st.s 3 = .ptr 3 0 ∧ st.b 3 = some (.box 40 (hyB h (.p (.sl 8 (txns h.lg))))) ∧ st.s 4 = .ptr 4 0 ∧ st.b 4 = some (.box 61 [.p (.sl 8 (lrs l0)), .p (.sl 8 (lrs l1))]) ∧ st.s 5 = .ptr 5 0 ∧ st.b 5 = some (.box 62 [.p (I s0), .p (I s1)]) ∧ st.s 12 = .ptr 12 0 ∧ st.b 12 = some (.box 40 (hyB h (.p (.sl 8 (txns h.lg ++ [[I z.e, I (z.n + 1), I 0, I 0, I 0, I 0, SB [], .sl 11 []]]))))) ∧ st.s 13 = .ptr 13 0 ∧ st.b 13 = some (.box 40 (hyB h (.p (.sl 8 (txns h.lg ++ [[I (z.e + 1), I 1, I 0, I 0, I 0, I 0, SB [], .sl 11 []]]))))) ∧ st.s 14 = .ptr 14 0 ∧ st.b 14 = some (.box 25 [.p (I z.e), .p (I (z.n + 1))]) ∧ st.s 15 = .ptr 15 0 ∧ st.b 15 = some (.box 25 [.p (I (z.e + 1)), .p (I 1)]) ∧ st.s 133 = .p (.sl 1 (ints (ids h.im.c.ms 1))) ∧ st.s 134 = .p (I (ids h.im.c.ms 1).length) ∧ st.s 135 = .p (I k)) (ids h.im.c.ms 1).length ⟨0, by simp [frzL, gh1, frz, sub, subB, g3, b3, g4, b4, g5, b5]⟩ fun K' N' st hL' ⟨q, hqN, hno, e3, d3, e4, d4, e5, d5, e12, d12, e13, d13, e14, d14, e15, d15, e133, e134, e135⟩ => ?_
  by_cases hlq : q < (ids h.im.c.ms 1).length
  · have hlq' : (q : Int) < (ids h.im.c.ms 1).length := by omega
    have hwq := wrapS q _ hlq (by omega)
    have heq := ints_get hlq
    have f1 := has19_con l0 s0 (ids h.im.c.ms 1)[q] z.e (z.n + 1) (by omega)
    have f2 := has19_con l1 s1 (ids h.im.c.ms 1)[q] (z.e + 1) 1 (by omega)
    cases o1 : hasK l0 s0 (ids h.im.c.ms 1)[q] z.e (z.n + 1) with
    | false =>
      rw [o1] at f1
      repeat' first | (refine hK _ ?_; clear hK) | (refine hK _ _ ?_; clear hK) | (clear hK; refine hK _ ?_; clear hK) | (clear hK; clear hK; refine hK _ ?_; clear hK) | (clear hK; clear hK; clear hK; refine hK _ ?_; clear hK) | (clear hK; clear hK; clear hK; clear hK; refine hK _ ?_; clear hK) | (refine wSeq fun K hK => ?_) | ((first | refine wReg ?_ | refine wDrwQ rfl (by kernel_rfl) ?_ | refine wDrwI ?_ | refine wDrw (by kernel_rfl) ?_); simp only [List.map_cons, List.map_nil, strip]) | ((first | refine wIs fun K hK => ?_ | refine wOs fun K hK => ?_ | refine wQs fun K hK => ?_ | refine CallK_plain ?_ | refine CallQ_plain ?_ | refine CallR_plain ?_ | refine wCond ?_); simp [e3, d3, e4, d4, e5, d5, e12, d12, e13, d13, e14, d14, e15, d15, e133, e134, e135, hlq, hlq', hwq, heq]) | (refine wIn ?_; refine And.intro (by kernel_rfl) ?_; try simp only [thenA_n]) | (first | refine wBlock ?_ | refine wScope ?_) | ((first | refine wRet ?_ | refine wExit ?_ | refine wSkip ?_); try simp) | ((first | refine wLabel ?_ | refine wOn ?_ | refine wQn ?_); try simp only [thenA_n]) | (refine CallE.pure (f1) rfl ?_) | (refine CallE.lent (f1) rfl ?_) | (refine CallF.pure (f1) rfl ?_) | (refine CallF.lent (f1) rfl ?_) | (refine CallE.own (f1) ?_) | (refine CallH.pure (f1) rfl ?_) | (refine CallH.lent (f1) rfl ?_) | (refine CallH.own (f1) ?_) | (refine CallE.pure (f2) rfl ?_) | (refine CallE.lent (f2) rfl ?_) | (refine CallF.pure (f2) rfl ?_) | (refine CallF.lent (f2) rfl ?_) | (refine CallE.own (f2) ?_) | (refine CallH.pure (f2) rfl ?_) | (refine CallH.lent (f2) rfl ?_) | (refine CallH.own (f2) ?_)
      refine hL' _ (N' - 1) (by omega) ⟨q + 1, by omega, fun j hj hjq => ?_, ?_⟩
      · by_cases hjr : j = q
        · subst hjr; rw [o1]; simp
        · exact hno j hj (by omega)
      · simp [e3, d3, e4, d4, e5, d5, e12, d12, e13, d13, e14, d14, e15, d15, e133, e134, e135, hwq]
    | true =>
      rw [o1] at f1
      cases o2 : hasK l1 s1 (ids h.im.c.ms 1)[q] (z.e + 1) 1 with
      | false =>
        rw [o2] at f2
        repeat' first | (refine hK _ ?_; clear hK) | (refine hK _ _ ?_; clear hK) | (clear hK; refine hK _ ?_; clear hK) | (clear hK; clear hK; refine hK _ ?_; clear hK) | (clear hK; clear hK; clear hK; refine hK _ ?_; clear hK) | (clear hK; clear hK; clear hK; clear hK; refine hK _ ?_; clear hK) | (refine wSeq fun K hK => ?_) | ((first | refine wReg ?_ | refine wDrwQ rfl (by kernel_rfl) ?_ | refine wDrwI ?_ | refine wDrw (by kernel_rfl) ?_); simp only [List.map_cons, List.map_nil, strip]) | ((first | refine wIs fun K hK => ?_ | refine wOs fun K hK => ?_ | refine wQs fun K hK => ?_ | refine CallK_plain ?_ | refine CallQ_plain ?_ | refine CallR_plain ?_ | refine wCond ?_); simp [e3, d3, e4, d4, e5, d5, e12, d12, e13, d13, e14, d14, e15, d15, e133, e134, e135, hlq, hlq', hwq, heq]) | (refine wIn ?_; refine And.intro (by kernel_rfl) ?_; try simp only [thenA_n]) | (first | refine wBlock ?_ | refine wScope ?_) | ((first | refine wRet ?_ | refine wExit ?_ | refine wSkip ?_); try simp) | ((first | refine wLabel ?_ | refine wOn ?_ | refine wQn ?_); try simp only [thenA_n]) | (refine CallE.pure (f1) rfl ?_) | (refine CallE.lent (f1) rfl ?_) | (refine CallF.pure (f1) rfl ?_) | (refine CallF.lent (f1) rfl ?_) | (refine CallE.own (f1) ?_) | (refine CallH.pure (f1) rfl ?_) | (refine CallH.lent (f1) rfl ?_) | (refine CallH.own (f1) ?_) | (refine CallE.pure (f2) rfl ?_) | (refine CallE.lent (f2) rfl ?_) | (refine CallF.pure (f2) rfl ?_) | (refine CallF.lent (f2) rfl ?_) | (refine CallE.own (f2) ?_) | (refine CallH.pure (f2) rfl ?_) | (refine CallH.lent (f2) rfl ?_) | (refine CallH.own (f2) ?_)
        refine hL' _ (N' - 1) (by omega) ⟨q + 1, by omega, fun j hj hjq => ?_, ?_⟩
        · by_cases hjr : j = q
          · subst hjr; rw [o2]; simp
          · exact hno j hj (by omega)
        · simp [e3, d3, e4, d4, e5, d5, e12, d12, e13, d13, e14, d14, e15, d15, e133, e134, e135, hwq]
      | true =>
        rw [o2] at f2
        repeat' first | (refine hK _ ?_; clear hK) | (refine hK _ _ ?_; clear hK) | (clear hK; refine hK _ ?_; clear hK) | (clear hK; clear hK; refine hK _ ?_; clear hK) | (clear hK; clear hK; clear hK; refine hK _ ?_; clear hK) | (clear hK; clear hK; clear hK; clear hK; refine hK _ ?_; clear hK) | (refine wSeq fun K hK => ?_) | ((first | refine wReg ?_ | refine wDrwQ rfl (by kernel_rfl) ?_ | refine wDrwI ?_ | refine wDrw (by kernel_rfl) ?_); simp only [List.map_cons, List.map_nil, strip]) | ((first | refine wIs fun K hK => ?_ | refine wOs fun K hK => ?_ | refine wQs fun K hK => ?_ | refine CallK_plain ?_ | refine CallQ_plain ?_ | refine CallR_plain ?_ | refine wCond ?_); simp [e3, d3, e4, d4, e5, d5, e12, d12, e13, d13, e14, d14, e15, d15, e133, e134, e135, hlq, hlq', hwq, heq]) | (refine wIn ?_; refine And.intro (by kernel_rfl) ?_; try simp only [thenA_n]) | (first | refine wBlock ?_ | refine wScope ?_) | ((first | refine wRet ?_ | refine wExit ?_ | refine wSkip ?_); try simp) | ((first | refine wLabel ?_ | refine wOn ?_ | refine wQn ?_); try simp only [thenA_n]) | (refine CallE.pure (f1) rfl ?_) | (refine CallE.lent (f1) rfl ?_) | (refine CallF.pure (f1) rfl ?_) | (refine CallF.lent (f1) rfl ?_) | (refine CallE.own (f1) ?_) | (refine CallH.pure (f1) rfl ?_) | (refine CallH.lent (f1) rfl ?_) | (refine CallH.own (f1) ?_) | (refine CallE.pure (f2) rfl ?_) | (refine CallE.lent (f2) rfl ?_) | (refine CallF.pure (f2) rfl ?_) | (refine CallF.lent (f2) rfl ?_) | (refine CallE.own (f2) ?_) | (refine CallH.pure (f2) rfl ?_) | (refine CallH.lent (f2) rfl ?_) | (refine CallH.own (f2) ?_) | (refine CallE.pure (ca) rfl ?_) | (refine CallE.lent (ca) rfl ?_) | (refine CallF.pure (ca) rfl ?_) | (refine CallF.lent (ca) rfl ?_) | (refine CallE.own (ca) ?_) | (refine CallH.pure (ca) rfl ?_) | (refine CallH.lent (ca) rfl ?_) | (refine CallH.own (ca) ?_)
        all_goals apply hr
        all_goals simp [Try.f7]
  · have hlq' : ¬ (q : Int) < (ids h.im.c.ms 1).length := by omega
    have hnot : (fz.1 = z.e ∧ fz.2 = z.n + 1) → ¬ (sz.1 = z.e + 1 ∧ sz.2 = 1) := fun u v => by
      obtain ⟨m, m1, m2, m3, m4⟩ := quorums_meet (hx u) (hy v)
      have hin : m.i ∈ ids h.im.c.ms 1 := by unfold ids; exact List.mem_map.2 ⟨m, List.mem_filter.2 ⟨m1, decide_eq_true m2⟩, rfl⟩
      obtain ⟨j, hj, hje⟩ := List.getElem_of_mem hin
      exact hno j hj (by omega) (by rw [hje]; exact ⟨hasK_of m3, hasK_of m4⟩)
    by_cases u1 : fz.1 = z.e
    · by_cases u2 : fz.2 = z.n + 1
      · have hv := hnot ⟨u1, u2⟩
        replace u1 : (fz.1 = z.e) = True := eq_true u1
        replace u2 : (fz.2 = z.n + 1) = True := eq_true u2
        by_cases v1 : sz.1 = z.e + 1
        · have v2 : (sz.2 = 1) = False := eq_false fun hh => hv ⟨v1, hh⟩
          replace v1 : (sz.1 = z.e + 1) = True := eq_true v1
          repeat' first | (refine hK _ ?_; clear hK) | (refine hK _ _ ?_; clear hK) | (clear hK; refine hK _ ?_; clear hK) | (clear hK; clear hK; refine hK _ ?_; clear hK) | (clear hK; clear hK; clear hK; refine hK _ ?_; clear hK) | (clear hK; clear hK; clear hK; clear hK; refine hK _ ?_; clear hK) | (refine wSeq fun K hK => ?_) | ((first | refine wReg ?_ | refine wDrwQ rfl (by kernel_rfl) ?_ | refine wDrwI ?_ | refine wDrw (by kernel_rfl) ?_); simp only [List.map_cons, List.map_nil, strip]) | ((first | refine wIs fun K hK => ?_ | refine wOs fun K hK => ?_ | refine wQs fun K hK => ?_ | refine CallK_plain ?_ | refine CallQ_plain ?_ | refine CallR_plain ?_ | refine wCond ?_); simp [e3, d3, e4, d4, e5, d5, e12, d12, e13, d13, e14, d14, e15, d15, e133, e134, e135, hlq, hlq', u1, u2, v1, v2]) | (refine wIn ?_; refine And.intro (by kernel_rfl) ?_; try simp only [thenA_n]) | (first | refine wBlock ?_ | refine wScope ?_) | ((first | refine wRet ?_ | refine wExit ?_ | refine wSkip ?_); try simp) | ((first | refine wLabel ?_ | refine wOn ?_ | refine wQn ?_); try simp only [thenA_n]) | (refine CallE.pure (cb) rfl ?_) | (refine CallE.lent (cb) rfl ?_) | (refine CallF.pure (cb) rfl ?_) | (refine CallF.lent (cb) rfl ?_) | (refine CallE.own (cb) ?_) | (refine CallH.pure (cb) rfl ?_) | (refine CallH.lent (cb) rfl ?_) | (refine CallH.own (cb) ?_) | (refine CallE.pure (ca1) rfl ?_) | (refine CallE.lent (ca1) rfl ?_) | (refine CallF.pure (ca1) rfl ?_) | (refine CallF.lent (ca1) rfl ?_) | (refine CallE.own (ca1) ?_) | (refine CallH.pure (ca1) rfl ?_) | (refine CallH.lent (ca1) rfl ?_) | (refine CallH.own (ca1) ?_) | (refine CallE.pure (ca2) rfl ?_) | (refine CallE.lent (ca2) rfl ?_) | (refine CallF.pure (ca2) rfl ?_) | (refine CallF.lent (ca2) rfl ?_) | (refine CallE.own (ca2) ?_) | (refine CallH.pure (ca2) rfl ?_) | (refine CallH.lent (ca2) rfl ?_) | (refine CallH.own (ca2) ?_) | (refine CallE.pure (ca) rfl ?_) | (refine CallE.lent (ca) rfl ?_) | (refine CallF.pure (ca) rfl ?_) | (refine CallF.lent (ca) rfl ?_) | (refine CallE.own (ca) ?_) | (refine CallH.pure (ca) rfl ?_) | (refine CallH.lent (ca) rfl ?_) | (refine CallH.own (ca) ?_)
          all_goals apply hr
          all_goals simp [Try.f7]
        · replace v1 : (sz.1 = z.e + 1) = False := eq_false v1
          repeat' first | (refine hK _ ?_; clear hK) | (refine hK _ _ ?_; clear hK) | (clear hK; refine hK _ ?_; clear hK) | (clear hK; clear hK; refine hK _ ?_; clear hK) | (clear hK; clear hK; clear hK; refine hK _ ?_; clear hK) | (clear hK; clear hK; clear hK; clear hK; refine hK _ ?_; clear hK) | (refine wSeq fun K hK => ?_) | ((first | refine wReg ?_ | refine wDrwQ rfl (by kernel_rfl) ?_ | refine wDrwI ?_ | refine wDrw (by kernel_rfl) ?_); simp only [List.map_cons, List.map_nil, strip]) | ((first | refine wIs fun K hK => ?_ | refine wOs fun K hK => ?_ | refine wQs fun K hK => ?_ | refine CallK_plain ?_ | refine CallQ_plain ?_ | refine CallR_plain ?_ | refine wCond ?_); simp [e3, d3, e4, d4, e5, d5, e12, d12, e13, d13, e14, d14, e15, d15, e133, e134, e135, hlq, hlq', u1, u2, v1]) | (refine wIn ?_; refine And.intro (by kernel_rfl) ?_; try simp only [thenA_n]) | (first | refine wBlock ?_ | refine wScope ?_) | ((first | refine wRet ?_ | refine wExit ?_ | refine wSkip ?_); try simp) | ((first | refine wLabel ?_ | refine wOn ?_ | refine wQn ?_); try simp only [thenA_n]) | (refine CallE.pure (cb) rfl ?_) | (refine CallE.lent (cb) rfl ?_) | (refine CallF.pure (cb) rfl ?_) | (refine CallF.lent (cb) rfl ?_) | (refine CallE.own (cb) ?_) | (refine CallH.pure (cb) rfl ?_) | (refine CallH.lent (cb) rfl ?_) | (refine CallH.own (cb) ?_) | (refine CallE.pure (ca1) rfl ?_) | (refine CallE.lent (ca1) rfl ?_) | (refine CallF.pure (ca1) rfl ?_) | (refine CallF.lent (ca1) rfl ?_) | (refine CallE.own (ca1) ?_) | (refine CallH.pure (ca1) rfl ?_) | (refine CallH.lent (ca1) rfl ?_) | (refine CallH.own (ca1) ?_) | (refine CallE.pure (ca2) rfl ?_) | (refine CallE.lent (ca2) rfl ?_) | (refine CallF.pure (ca2) rfl ?_) | (refine CallF.lent (ca2) rfl ?_) | (refine CallE.own (ca2) ?_) | (refine CallH.pure (ca2) rfl ?_) | (refine CallH.lent (ca2) rfl ?_) | (refine CallH.own (ca2) ?_) | (refine CallE.pure (ca) rfl ?_) | (refine CallE.lent (ca) rfl ?_) | (refine CallF.pure (ca) rfl ?_) | (refine CallF.lent (ca) rfl ?_) | (refine CallE.own (ca) ?_) | (refine CallH.pure (ca) rfl ?_) | (refine CallH.lent (ca) rfl ?_) | (refine CallH.own (ca) ?_)
          all_goals apply hr
          all_goals simp [Try.f7]
      · replace u1 : (fz.1 = z.e) = True := eq_true u1
        replace u2 : (fz.2 = z.n + 1) = False := eq_false u2
        repeat' first | (refine hK _ ?_; clear hK) | (refine hK _ _ ?_; clear hK) | (clear hK; refine hK _ ?_; clear hK) | (clear hK; clear hK; refine hK _ ?_; clear hK) | (clear hK; clear hK; clear hK; refine hK _ ?_; clear hK) | (clear hK; clear hK; clear hK; clear hK; refine hK _ ?_; clear hK) | (refine wSeq fun K hK => ?_) | ((first | refine wReg ?_ | refine wDrwQ rfl (by kernel_rfl) ?_ | refine wDrwI ?_ | refine wDrw (by kernel_rfl) ?_); simp only [List.map_cons, List.map_nil, strip]) | ((first | refine wIs fun K hK => ?_ | refine wOs fun K hK => ?_ | refine wQs fun K hK => ?_ | refine CallK_plain ?_ | refine CallQ_plain ?_ | refine CallR_plain ?_ | refine wCond ?_); simp [e3, d3, e4, d4, e5, d5, e12, d12, e13, d13, e14, d14, e15, d15, e133, e134, e135, hlq, hlq', u1, u2]) | (refine wIn ?_; refine And.intro (by kernel_rfl) ?_; try simp only [thenA_n]) | (first | refine wBlock ?_ | refine wScope ?_) | ((first | refine wRet ?_ | refine wExit ?_ | refine wSkip ?_); try simp) | ((first | refine wLabel ?_ | refine wOn ?_ | refine wQn ?_); try simp only [thenA_n]) | (refine CallE.pure (cb) rfl ?_) | (refine CallE.lent (cb) rfl ?_) | (refine CallF.pure (cb) rfl ?_) | (refine CallF.lent (cb) rfl ?_) | (refine CallE.own (cb) ?_) | (refine CallH.pure (cb) rfl ?_) | (refine CallH.lent (cb) rfl ?_) | (refine CallH.own (cb) ?_) | (refine CallE.pure (ca1) rfl ?_) | (refine CallE.lent (ca1) rfl ?_) | (refine CallF.pure (ca1) rfl ?_) | (refine CallF.lent (ca1) rfl ?_) | (refine CallE.own (ca1) ?_) | (refine CallH.pure (ca1) rfl ?_) | (refine CallH.lent (ca1) rfl ?_) | (refine CallH.own (ca1) ?_) | (refine CallE.pure (ca2) rfl ?_) | (refine CallE.lent (ca2) rfl ?_) | (refine CallF.pure (ca2) rfl ?_) | (refine CallF.lent (ca2) rfl ?_) | (refine CallE.own (ca2) ?_) | (refine CallH.pure (ca2) rfl ?_) | (refine CallH.lent (ca2) rfl ?_) | (refine CallH.own (ca2) ?_) | (refine CallE.pure (ca) rfl ?_) | (refine CallE.lent (ca) rfl ?_) | (refine CallF.pure (ca) rfl ?_) | (refine CallF.lent (ca) rfl ?_) | (refine CallE.own (ca) ?_) | (refine CallH.pure (ca) rfl ?_) | (refine CallH.lent (ca) rfl ?_) | (refine CallH.own (ca) ?_)
        all_goals apply hr
        all_goals simp [Try.f7]
    · replace u1 : (fz.1 = z.e) = False := eq_false u1
      repeat' first | (refine hK _ ?_; clear hK) | (refine hK _ _ ?_; clear hK) | (clear hK; refine hK _ ?_; clear hK) | (clear hK; clear hK; refine hK _ ?_; clear hK) | (clear hK; clear hK; clear hK; refine hK _ ?_; clear hK) | (clear hK; clear hK; clear hK; clear hK; refine hK _ ?_; clear hK) | (refine wSeq fun K hK => ?_) | ((first | refine wReg ?_ | refine wDrwQ rfl (by kernel_rfl) ?_ | refine wDrwI ?_ | refine wDrw (by kernel_rfl) ?_); simp only [List.map_cons, List.map_nil, strip]) | ((first | refine wIs fun K hK => ?_ | refine wOs fun K hK => ?_ | refine wQs fun K hK => ?_ | refine CallK_plain ?_ | refine CallQ_plain ?_ | refine CallR_plain ?_ | refine wCond ?_); simp [e3, d3, e4, d4, e5, d5, e12, d12, e13, d13, e14, d14, e15, d15, e133, e134, e135, hlq, hlq', u1]) | (refine wIn ?_; refine And.intro (by kernel_rfl) ?_; try simp only [thenA_n]) | (first | refine wBlock ?_ | refine wScope ?_) | ((first | refine wRet ?_ | refine wExit ?_ | refine wSkip ?_); try simp) | ((first | refine wLabel ?_ | refine wOn ?_ | refine wQn ?_); try simp only [thenA_n]) | (refine CallE.pure (cb) rfl ?_) | (refine CallE.lent (cb) rfl ?_) | (refine CallF.pure (cb) rfl ?_) | (refine CallF.lent (cb) rfl ?_) | (refine CallE.own (cb) ?_) | (refine CallH.pure (cb) rfl ?_) | (refine CallH.lent (cb) rfl ?_) | (refine CallH.own (cb) ?_) | (refine CallE.pure (ca1) rfl ?_) | (refine CallE.lent (ca1) rfl ?_) | (refine CallF.pure (ca1) rfl ?_) | (refine CallF.lent (ca1) rfl ?_) | (refine CallE.own (ca1) ?_) | (refine CallH.pure (ca1) rfl ?_) | (refine CallH.lent (ca1) rfl ?_) | (refine CallH.own (ca1) ?_) | (refine CallE.pure (ca2) rfl ?_) | (refine CallE.lent (ca2) rfl ?_) | (refine CallF.pure (ca2) rfl ?_) | (refine CallF.lent (ca2) rfl ?_) | (refine CallE.own (ca2) ?_) | (refine CallH.pure (ca2) rfl ?_) | (refine CallH.lent (ca2) rfl ?_) | (refine CallH.own (ca2) ?_) | (refine CallE.pure (ca) rfl ?_) | (refine CallE.lent (ca) rfl ?_) | (refine CallF.pure (ca) rfl ?_) | (refine CallF.lent (ca) rfl ?_) | (refine CallE.own (ca) ?_) | (refine CallH.pure (ca) rfl ?_) | (refine CallH.lent (ca) rfl ?_) | (refine CallH.own (ca) ?_)
      all_goals apply hr
      all_goals simp [Try.f7]
end Go.Proofs.Ytnfcbkageifmfaa
