/- Watches: awake; the law WatchOnce. -/
import Derived.Test.YtkeopdjnidmaeaaWY
import Derived.Test.YtkeopdjnidmaeaaWAw
import Derived.Test.YtkeopdjnidmaeaaAvTup
namespace Go.Proofs.Ytkeopdjnidmaeaa
set_option linter.unusedSimpArgs false
set_option linter.unusedVariables false
open Go Go.Av
attribute [local simp] Try.T1 Try.T2 Try.T3 Try.T4 Try.T5 Try.T9 Try.T12 Try.T21 Try.T22 Try.T23 Try.T24 Try.T26 Try.T27 Try.T29 Try.T31 Try.T32 Try.T33 Try.T34 Try.T35 Try.T37 Try.T39 Try.T41 Try.T42 Try.T43 Try.T44 Try.T46 Try.T47 Try.T48 Try.T50 Try.T51 Try.T52 Try.T53 Try.T54 Try.T55 Try.T56 Try.T57 Try.T59 Try.T60 Try.T61 Try.T62 Try.T63 Try.T64 Try.T65 Try.T66 Try.T67 Try.T69 Try.T70 Try.T71 Try.T72 Try.T73 Try.T74 Try.T75 Try.T77 Try.T78 Try.T79 Try.T85 Try.T88 Try.T95
attribute [local irreducible] Go.Av.CallK Go.Av.CallE Go.Av.CallQ Go.Av.CallF Go.Av.CallR Go.Av.CallH Go.Av.Con

def wa0 : Wt := ⟨1, 2, [47]⟩
def was0 : Ws := ⟨[⟨[47], [], 0, 0, 0⟩], [], [], 0, 0, 0, 0, 0, 0⟩
def now0 : Ws := ⟨[⟨[47], [], 0, 1, 0⟩], [], [], 0, 0, 0, 0, 1, 1⟩
theorem told0 : told wa0 was0 now0 = 4 := by decide +kernel
theorem add0 : ACon Try.prog 8 [.p (.sl 3 []), .p (.agg [I 1, I 2, .v (.string ⟨#[47]⟩)])] (.tup [.p (.sl 3 [[I 1, I 2, .v (.string ⟨#[47]⟩)]]), .p (I 0)]) := Con.toPureT (t := 39) <| xCall_sound Try.tab Try.mixed base_ok 40 _ _ _ _ (by kernel_rfl)
theorem stay0 : stay was0 now0 [wa0] = [] := by unfold stay; rw [List.filter_cons_of_neg (by rw [told0]; decide)]; rfl
theorem tolds0 : tolds was0 now0 [wa0] = [⟨1, 2, [47], 4, 1, 1⟩] := by
  unfold tolds
  rw [List.filter_cons_of_pos (by rw [told0]; decide)]
  simp only [List.filter_nil, List.map_cons, List.map_nil, note, told0]
  rfl
theorem fit0 : Fit was0 := ⟨by simp [was0], fun z hz => by simp [was0] at hz; subst hz; simp [long]⟩
theorem fit1 : Fit now0 := ⟨by simp [now0], fun z hz => by simp [now0] at hz; subst hz; simp [long]⟩
set_option maxHeartbeats 2000000 in
theorem awake10 : ACon Try.prog 6 [] (.p (B true)) := by
  have c1 := add0
  have c2 := fire_con [wa0] was0 now0 fit0 fit1 (by simp)
  rw [stay0, tolds0] at c2
  simp only [wts, nts, zns, Ws.c, Wt.c, Nt.c, Zn.c, was0, now0, wa0, List.map_cons, List.map_nil] at c2
  refine wBody Try.tab Try.mixed Try.func6 rfl rfl Try.ntmps6 (by simp) (by simp) fun Q hr hn => ?_
  repeat' first | (refine hK _ ?_; clear hK) | (refine hK _ _ ?_; clear hK) | (clear hK; refine hK _ ?_; clear hK) | (clear hK; clear hK; refine hK _ ?_; clear hK) | (clear hK; clear hK; clear hK; refine hK _ ?_; clear hK) | (clear hK; clear hK; clear hK; clear hK; refine hK _ ?_; clear hK) | (refine wSeq fun K hK => ?_) | ((first | refine wReg ?_ | refine wDrwQ rfl (by kernel_rfl) ?_ | refine wDrwI ?_ | refine wDrw (by kernel_rfl) ?_); simp only [List.map_cons, List.map_nil, strip]) | ((first | refine wIs fun K hK => ?_ | refine wOs fun K hK => ?_ | refine wQs fun K hK => ?_ | refine CallK_plain ?_ | refine CallQ_plain ?_ | refine CallR_plain ?_ | refine wCond ?_); simp) | (refine wIn ?_; refine And.intro (by kernel_rfl) ?_; try simp only [thenA_n]) | (first | refine wBlock ?_ | refine wScope ?_) | ((first | refine wRet ?_ | refine wExit ?_ | refine wSkip ?_); try simp) | ((first | refine wLabel ?_ | refine wOn ?_ | refine wQn ?_); try simp only [thenA_n]) | (refine CallE.pure (c1) rfl ?_) | (refine CallE.lent (c1) rfl ?_) | (refine CallF.pure (c1) rfl ?_) | (refine CallF.lent (c1) rfl ?_) | (refine CallE.own (c1) ?_) | (refine CallH.pure (c1) rfl ?_) | (refine CallH.lent (c1) rfl ?_) | (refine CallH.own (c1) ?_) | (refine CallE.pure (c2) rfl ?_) | (refine CallE.lent (c2) rfl ?_) | (refine CallF.pure (c2) rfl ?_) | (refine CallF.lent (c2) rfl ?_) | (refine CallE.own (c2) ?_) | (refine CallH.pure (c2) rfl ?_) | (refine CallH.lent (c2) rfl ?_) | (refine CallH.own (c2) ?_)
  all_goals apply hr
  all_goals simp [Try.f6]
def farW (a b c : Nat) : Bool := decide (200 < a) || (decide (200 < b) || decide (200 < c))
theorem farW_con (l : List Wt) (a b : Ws) : ACon Try.prog 5 [.p (.sl 3 (wts l)), .p (.agg a.c), .p (.agg b.c)] (.p (B (farW l.length a.l.length b.l.length))) := by
  have h1 := wts_len l
  have h2 := zns_len a.l
  have h3 := zns_len b.l
  unfold farW Ws.c
  generalize wts l = L at h1 ⊢
  generalize zns a.l = A at h2 ⊢
  generalize zns b.l = B at h3 ⊢
  by_cases o1 : 200 < l.length
  · have o1' : (200 : Int) < l.length := by omega
    refine wBody Try.tab Try.mixed Try.func5 rfl rfl Try.ntmps5 (by simp) (by simp) fun Q hr hn => ?_
    repeat' first | (refine hK _ ?_; clear hK) | (refine hK _ _ ?_; clear hK) | (clear hK; refine hK _ ?_; clear hK) | (clear hK; clear hK; refine hK _ ?_; clear hK) | (clear hK; clear hK; clear hK; refine hK _ ?_; clear hK) | (clear hK; clear hK; clear hK; clear hK; refine hK _ ?_; clear hK) | (refine wSeq fun K hK => ?_) | ((first | refine wReg ?_ | refine wDrwQ rfl (by kernel_rfl) ?_ | refine wDrwI ?_ | refine wDrw (by kernel_rfl) ?_); simp only [List.map_cons, List.map_nil, strip]) | ((first | refine wIs fun K hK => ?_ | refine wOs fun K hK => ?_ | refine wQs fun K hK => ?_ | refine CallK_plain ?_ | refine CallQ_plain ?_ | refine CallR_plain ?_ | refine wCond ?_); simp [h1, h2, h3, o1']) | (refine wIn ?_; refine And.intro (by kernel_rfl) ?_; try simp only [thenA_n]) | (first | refine wBlock ?_ | refine wScope ?_) | ((first | refine wRet ?_ | refine wExit ?_ | refine wSkip ?_); try simp) | ((first | refine wLabel ?_ | refine wOn ?_ | refine wQn ?_); try simp only [thenA_n])
    all_goals apply hr
    all_goals simp [Try.f5, o1]
  have o1' : ¬ (200 : Int) < l.length := by omega
  by_cases o2 : 200 < a.l.length
  · have o2' : (200 : Int) < a.l.length := by omega
    refine wBody Try.tab Try.mixed Try.func5 rfl rfl Try.ntmps5 (by simp) (by simp) fun Q hr hn => ?_
    repeat' first | (refine hK _ ?_; clear hK) | (refine hK _ _ ?_; clear hK) | (clear hK; refine hK _ ?_; clear hK) | (clear hK; clear hK; refine hK _ ?_; clear hK) | (clear hK; clear hK; clear hK; refine hK _ ?_; clear hK) | (clear hK; clear hK; clear hK; clear hK; refine hK _ ?_; clear hK) | (refine wSeq fun K hK => ?_) | ((first | refine wReg ?_ | refine wDrwQ rfl (by kernel_rfl) ?_ | refine wDrwI ?_ | refine wDrw (by kernel_rfl) ?_); simp only [List.map_cons, List.map_nil, strip]) | ((first | refine wIs fun K hK => ?_ | refine wOs fun K hK => ?_ | refine wQs fun K hK => ?_ | refine CallK_plain ?_ | refine CallQ_plain ?_ | refine CallR_plain ?_ | refine wCond ?_); simp [h1, h2, h3, o1', o2']) | (refine wIn ?_; refine And.intro (by kernel_rfl) ?_; try simp only [thenA_n]) | (first | refine wBlock ?_ | refine wScope ?_) | ((first | refine wRet ?_ | refine wExit ?_ | refine wSkip ?_); try simp) | ((first | refine wLabel ?_ | refine wOn ?_ | refine wQn ?_); try simp only [thenA_n])
    all_goals apply hr
    all_goals simp [Try.f5, o1, o2]
  have o2' : ¬ (200 : Int) < a.l.length := by omega
  by_cases o3 : 200 < b.l.length
  · have o3' : (200 : Int) < b.l.length := by omega
    refine wBody Try.tab Try.mixed Try.func5 rfl rfl Try.ntmps5 (by simp) (by simp) fun Q hr hn => ?_
    repeat' first | (refine hK _ ?_; clear hK) | (refine hK _ _ ?_; clear hK) | (clear hK; refine hK _ ?_; clear hK) | (clear hK; clear hK; refine hK _ ?_; clear hK) | (clear hK; clear hK; clear hK; refine hK _ ?_; clear hK) | (clear hK; clear hK; clear hK; clear hK; refine hK _ ?_; clear hK) | (refine wSeq fun K hK => ?_) | ((first | refine wReg ?_ | refine wDrwQ rfl (by kernel_rfl) ?_ | refine wDrwI ?_ | refine wDrw (by kernel_rfl) ?_); simp only [List.map_cons, List.map_nil, strip]) | ((first | refine wIs fun K hK => ?_ | refine wOs fun K hK => ?_ | refine wQs fun K hK => ?_ | refine CallK_plain ?_ | refine CallQ_plain ?_ | refine CallR_plain ?_ | refine wCond ?_); simp [h1, h2, h3, o1', o2', o3']) | (refine wIn ?_; refine And.intro (by kernel_rfl) ?_; try simp only [thenA_n]) | (first | refine wBlock ?_ | refine wScope ?_) | ((first | refine wRet ?_ | refine wExit ?_ | refine wSkip ?_); try simp) | ((first | refine wLabel ?_ | refine wOn ?_ | refine wQn ?_); try simp only [thenA_n])
    all_goals apply hr
    all_goals simp [Try.f5, o1, o2, o3]
  have o3' : ¬ (200 : Int) < b.l.length := by omega
  refine wBody Try.tab Try.mixed Try.func5 rfl rfl Try.ntmps5 (by simp) (by simp) fun Q hr hn => ?_
  repeat' first | (refine hK _ ?_; clear hK) | (refine hK _ _ ?_; clear hK) | (clear hK; refine hK _ ?_; clear hK) | (clear hK; clear hK; refine hK _ ?_; clear hK) | (clear hK; clear hK; clear hK; refine hK _ ?_; clear hK) | (clear hK; clear hK; clear hK; clear hK; refine hK _ ?_; clear hK) | (refine wSeq fun K hK => ?_) | ((first | refine wReg ?_ | refine wDrwQ rfl (by kernel_rfl) ?_ | refine wDrwI ?_ | refine wDrw (by kernel_rfl) ?_); simp only [List.map_cons, List.map_nil, strip]) | ((first | refine wIs fun K hK => ?_ | refine wOs fun K hK => ?_ | refine wQs fun K hK => ?_ | refine CallK_plain ?_ | refine CallQ_plain ?_ | refine CallR_plain ?_ | refine wCond ?_); simp [h1, h2, h3, o1', o2', o3']) | (refine wIn ?_; refine And.intro (by kernel_rfl) ?_; try simp only [thenA_n]) | (first | refine wBlock ?_ | refine wScope ?_) | ((first | refine wRet ?_ | refine wExit ?_ | refine wSkip ?_); try simp) | ((first | refine wLabel ?_ | refine wOn ?_ | refine wQn ?_); try simp only [thenA_n])
  all_goals apply hr
  all_goals simp [Try.f5, o1, o2, o3]
theorem both_len (a b : Ws) : ∀ l : List Wt, (stay a b l).length + (tolds a b l).length = l.length
  | [] => rfl
  | w :: l => by
    have ih := both_len a b l
    unfold stay tolds at ih ⊢
    by_cases g : told w a b = 0
    · rw [List.filter_cons_of_pos (by simpa using g), List.filter_cons_of_neg (by simpa using g)]
      simp only [List.length_cons] at ih ⊢; omega
    · rw [List.filter_cons_of_neg (by simpa using g), List.filter_cons_of_pos (by simpa using g)]
      simp only [List.length_cons, List.length_map] at ih ⊢; omega
theorem stay_at (a b : Ws) {l : List Wt} {j : Nat} (h : j < l.length) (g : told l[j] a b = 0) : ∃ h' : (stay a b (l.take j)).length < (stay a b l).length, (stay a b l)[(stay a b (l.take j)).length] = l[j] := by
  have e : stay a b l = stay a b (l.take j) ++ l[j] :: stay a b (l.drop (j + 1)) := by
    conv => lhs; rw [← List.take_append_drop j l]
    unfold stay
    rw [List.filter_append, List.drop_eq_getElem_cons h, List.filter_cons_of_pos (by simpa using g)]
  refine ⟨by rw [e]; simp, ?_⟩
  simp only [e]
  rw [List.getElem_append_right (Nat.le_refl _)]
  simp
theorem tolds_at (a b : Ws) {l : List Wt} {j : Nat} (h : j < l.length) (g : ¬ told l[j] a b = 0) : ∃ h' : (tolds a b (l.take j)).length < (tolds a b l).length, (tolds a b l)[(tolds a b (l.take j)).length] = note a b l[j] := by
  have e : tolds a b l = tolds a b (l.take j) ++ note a b l[j] :: tolds a b (l.drop (j + 1)) := by
    conv => lhs; rw [← List.take_append_drop j l]
    unfold tolds
    rw [List.filter_append, List.drop_eq_getElem_cons h, List.filter_cons_of_pos (by simpa using g), List.map_append, List.map_cons]
  refine ⟨by rw [e]; simp, ?_⟩
  simp only [e]
  rw [List.getElem_append_right (Nat.le_refl _)]
  simp
theorem stay_not (a b : Ws) {l : List Wt} {w : Wt} (g : ¬ told w a b = 0) {i : Nat} (h : i < (stay a b l).length) : ¬ (stay a b l)[i] = w := fun e => by
  have := List.getElem_mem h
  rw [e] at this
  unfold stay at this
  have := (List.mem_filter.1 this).2
  exact g (by simpa using this)
theorem Wt.ext3 {x y : Wt} : x = y ↔ x.s = y.s ∧ x.k = y.k ∧ x.p = y.p := by cases x; cases y; simp
set_option maxHeartbeats 8000000 in
theorem watchOnce_con (l : List Wt) (a b c : Ws) (ha : ∀ z ∈ a.l, long z) (hb : ∀ z ∈ b.l, long z) (hc : ∀ z ∈ c.l, long z) : ACon Try.prog 3 [.p (.sl 3 (wts l)), .p (.agg a.c), .p (.agg (b.c ++ c.c))] (.p (B true)) := by
  have cf := farW_con l a b
  have ca := awake10
  have hcl := zns_len c.l
  cases hf : farW l.length a.l.length b.l.length
  rotate_left
  · rw [hf] at cf
    unfold Ws.c at cf ⊢
    generalize wts l = LL at cf ⊢
    generalize zns a.l = LA at cf ⊢
    generalize zns b.l = LB at cf ⊢
    generalize zns c.l = LC at ⊢
    refine wBody Try.tab Try.mixed Try.func3 rfl rfl Try.ntmps3 (by simp) (by simp) fun Q hr hn => ?_
    repeat' first | (refine hK _ ?_; clear hK) | (refine hK _ _ ?_; clear hK) | (clear hK; refine hK _ ?_; clear hK) | (clear hK; clear hK; refine hK _ ?_; clear hK) | (clear hK; clear hK; clear hK; refine hK _ ?_; clear hK) | (clear hK; clear hK; clear hK; clear hK; refine hK _ ?_; clear hK) | (refine wSeq fun K hK => ?_) | ((first | refine wReg ?_ | refine wDrwQ rfl (by kernel_rfl) ?_ | refine wDrwI ?_ | refine wDrw (by kernel_rfl) ?_); simp only [List.map_cons, List.map_nil, strip]) | ((first | refine wIs fun K hK => ?_ | refine wOs fun K hK => ?_ | refine wQs fun K hK => ?_ | refine CallK_plain ?_ | refine CallQ_plain ?_ | refine CallR_plain ?_ | refine wCond ?_); simp) | (refine wIn ?_; refine And.intro (by kernel_rfl) ?_; try simp only [thenA_n]) | (first | refine wBlock ?_ | refine wScope ?_) | ((first | refine wRet ?_ | refine wExit ?_ | refine wSkip ?_); try simp) | ((first | refine wLabel ?_ | refine wOn ?_ | refine wQn ?_); try simp only [thenA_n]) | (refine CallE.pure (cf) rfl ?_) | (refine CallE.lent (cf) rfl ?_) | (refine CallF.pure (cf) rfl ?_) | (refine CallF.lent (cf) rfl ?_) | (refine CallE.own (cf) ?_) | (refine CallH.pure (cf) rfl ?_) | (refine CallH.lent (cf) rfl ?_) | (refine CallH.own (cf) ?_) | (refine CallE.pure (ca) rfl ?_) | (refine CallE.lent (ca) rfl ?_) | (refine CallF.pure (ca) rfl ?_) | (refine CallF.lent (ca) rfl ?_) | (refine CallE.own (ca) ?_) | (refine CallH.pure (ca) rfl ?_) | (refine CallH.lent (ca) rfl ?_) | (refine CallH.own (ca) ?_)
    all_goals apply hr
    all_goals simp [Try.f3]
  rw [hf] at cf
  unfold farW at hf
  simp only [Bool.or_eq_false_iff, decide_eq_false_iff_not] at hf
  obtain ⟨hl, hal, hbl⟩ := hf
  by_cases h3 : 200 < c.l.length
  · have h3' : (200 : Int) < c.l.length := by omega
    unfold Ws.c at cf ⊢
    generalize wts l = LL at cf ⊢
    generalize zns a.l = LA at cf ⊢
    generalize zns b.l = LB at cf ⊢
    generalize zns c.l = LC at hcl ⊢
    refine wBody Try.tab Try.mixed Try.func3 rfl rfl Try.ntmps3 (by simp) (by simp) fun Q hr hn => ?_
    repeat' first | (refine hK _ ?_; clear hK) | (refine hK _ _ ?_; clear hK) | (clear hK; refine hK _ ?_; clear hK) | (clear hK; clear hK; refine hK _ ?_; clear hK) | (clear hK; clear hK; clear hK; refine hK _ ?_; clear hK) | (clear hK; clear hK; clear hK; clear hK; refine hK _ ?_; clear hK) | (refine wSeq fun K hK => ?_) | ((first | refine wReg ?_ | refine wDrwQ rfl (by kernel_rfl) ?_ | refine wDrwI ?_ | refine wDrw (by kernel_rfl) ?_); simp only [List.map_cons, List.map_nil, strip]) | ((first | refine wIs fun K hK => ?_ | refine wOs fun K hK => ?_ | refine wQs fun K hK => ?_ | refine CallK_plain ?_ | refine CallQ_plain ?_ | refine CallR_plain ?_ | refine wCond ?_); simp [hcl, h3']) | (refine wIn ?_; refine And.intro (by kernel_rfl) ?_; try simp only [thenA_n]) | (first | refine wBlock ?_ | refine wScope ?_) | ((first | refine wRet ?_ | refine wExit ?_ | refine wSkip ?_); try simp) | ((first | refine wLabel ?_ | refine wOn ?_ | refine wQn ?_); try simp only [thenA_n]) | (refine CallE.pure (cf) rfl ?_) | (refine CallE.lent (cf) rfl ?_) | (refine CallF.pure (cf) rfl ?_) | (refine CallF.lent (cf) rfl ?_) | (refine CallE.own (cf) ?_) | (refine CallH.pure (cf) rfl ?_) | (refine CallH.lent (cf) rfl ?_) | (refine CallH.own (cf) ?_) | (refine CallE.pure (ca) rfl ?_) | (refine CallE.lent (ca) rfl ?_) | (refine CallF.pure (ca) rfl ?_) | (refine CallF.lent (ca) rfl ?_) | (refine CallE.own (ca) ?_) | (refine CallH.pure (ca) rfl ?_) | (refine CallH.lent (ca) rfl ?_) | (refine CallH.own (ca) ?_)
    all_goals apply hr
    all_goals simp [Try.f3]
  have h3' : ¬ (200 : Int) < c.l.length := by omega
  have fa : Fit a := ⟨by omega, ha⟩
  have fb : Fit b := ⟨by omega, hb⟩
  have fc : Fit c := ⟨by omega, hc⟩
  have c1 := fire_con l a b fa fb (by omega)
  have n1 := both_len a b l
  have c2 := fire_con (stay a b l) b c fb fc (by omega)
  have n2 := both_len b c (stay a b l)
  have hLat := fun j (h : j < l.length) g => stay_at a b h g
  have hMat := fun j (h : j < l.length) g => tolds_at a b h g
  have hLnot := fun (w : Wt) g i h => stay_not a b (l := l) (w := w) g (i := i) h
  have hsl := fun j => stay_len a b l j
  have htl := fun j => tolds_len a b l j
  have hss := fun j (h : j < l.length) => stay_snoc a b h
  have hts := fun j (h : j < l.length) => tolds_snoc a b h
  generalize stay a b l = L at c1 c2 n1 n2 hLat hLnot
  generalize tolds a b l = M at c1 n1 hMat
  generalize hP : stay b c L = L2 at c2 n2
  generalize hQ : tolds b c L = M2 at c2 n2
  unfold Ws.c at cf c1 c2 ⊢
  generalize zns a.l = LA at cf c1 ⊢
  generalize zns b.l = LB at cf c1 c2 ⊢
  generalize zns c.l = LC at hcl c2 ⊢
  have w1 : IntKind.i64.wrap ((L.length : Int) + M.length) = l.length := by rw [wrap_id] <;> omega
  have w2 : IntKind.i64.wrap ((L2.length : Int) + M2.length) = L.length := by rw [wrap_id] <;> omega
  refine wBody Try.tab Try.mixed Try.func3 rfl rfl Try.ntmps3 (by simp) (by simp) fun Q hr hn => ?_
  repeat' first | (refine hK _ ?_; clear hK) | (refine hK _ _ ?_; clear hK) | (clear hK; refine hK _ ?_; clear hK) | (clear hK; clear hK; refine hK _ ?_; clear hK) | (clear hK; clear hK; clear hK; refine hK _ ?_; clear hK) | (clear hK; clear hK; clear hK; clear hK; refine hK _ ?_; clear hK) | (refine wSeq fun K hK => ?_) | ((first | refine wReg ?_ | refine wDrwQ rfl (by kernel_rfl) ?_ | refine wDrwI ?_ | refine wDrw (by kernel_rfl) ?_); simp only [List.map_cons, List.map_nil, strip]) | ((first | refine wIs fun K hK => ?_ | refine wOs fun K hK => ?_ | refine wQs fun K hK => ?_ | refine CallK_plain ?_ | refine CallQ_plain ?_ | refine CallR_plain ?_ | refine wCond ?_); simp [hcl, h3', w1]) | (refine wIn ?_; refine And.intro (by kernel_rfl) ?_; try simp only [thenA_n]) | (first | refine wBlock ?_ | refine wScope ?_) | ((first | refine wRet ?_ | refine wExit ?_ | refine wSkip ?_); try simp) | ((first | refine wLabel ?_ | refine wOn ?_ | refine wQn ?_); try simp only [thenA_n]) | (refine CallE.pure (cf) rfl ?_) | (refine CallE.lent (cf) rfl ?_) | (refine CallF.pure (cf) rfl ?_) | (refine CallF.lent (cf) rfl ?_) | (refine CallE.own (cf) ?_) | (refine CallH.pure (cf) rfl ?_) | (refine CallH.lent (cf) rfl ?_) | (refine CallH.own (cf) ?_) | (refine CallE.pure (c1) rfl ?_) | (refine CallE.lent (c1) rfl ?_) | (refine CallF.pure (c1) rfl ?_) | (refine CallF.lent (c1) rfl ?_) | (refine CallE.own (c1) ?_) | (refine CallH.pure (c1) rfl ?_) | (refine CallH.lent (c1) rfl ?_) | (refine CallH.own (c1) ?_)
  refine wLoop (fun N st => ∃ j, j + N = l.length ∧ st.s 5 = .ptr 5 0 ∧ st.s 7 = .p (.sl 3 (wts L)) ∧ st.s 8 = .p (.sl 6 (nts M)) ∧ st.s 9 = .p (I (stay a b (l.take j)).length) ∧ st.s 10 = .p (I (tolds a b (l.take j)).length) ∧ st.s 44 = .p (.sl 3 (wts l)) ∧ st.s 45 = .p (I l.length) ∧ st.s 46 = .p (I j) ∧ st.b 5 = some (.box 32 [.p (.sl 5 LB), .p (.sl 1 b.ss), .p (I b.nx), .p (I b.e), .p (I b.n), .p (I b.k), .p (.sl 4 b.ms), .p (I b.ae), .p (I b.an), .p (.sl 5 LC), .p (.sl 1 c.ss), .p (I c.nx), .p (I c.e), .p (I c.n), .p (I c.k), .p (.sl 4 c.ms), .p (I c.ae), .p (I c.an)])) l.length ⟨0, by simp [stay, tolds]⟩ fun K N st hL ⟨j, hj, g5, g7, g8, g9, g10, g44, g45, g46, b5⟩ => ?_
  by_cases hlt : j < l.length
  · have hw := wrapW j _ hlt (by omega)
    have he := wts_get hlt
    have hs := hss j hlt
    have ht := hts j hlt
    have q1 := hsl j
    have q2 := htl j
    have hA := hLat j hlt
    have hB := hMat j hlt
    have hC := hLnot l[j]
    generalize stay a b (l.take j) = S0 at hs g9 q1 hA
    generalize tolds a b (l.take j) = T0 at ht g10 q2 hB
    have wS : IntKind.i64.wrap ((S0.length : Int) + 1) = S0.length + 1 := by rw [wrap_id] <;> omega
    have wT : IntKind.i64.wrap ((T0.length : Int) + 1) = T0.length + 1 := by rw [wrap_id] <;> omega
    by_cases o : told l[j] a b = 0
    · obtain ⟨hi, hv⟩ := hA o
      rw [if_pos o] at hs ht
      rw [Wt.ext3] at hv
      obtain ⟨v1, v2, v3⟩ := hv
      have hi' : (S0.length : Int) < L.length := by omega
      repeat' first | (refine hK _ ?_; clear hK) | (refine hK _ _ ?_; clear hK) | (clear hK; refine hK _ ?_; clear hK) | (clear hK; clear hK; refine hK _ ?_; clear hK) | (clear hK; clear hK; clear hK; refine hK _ ?_; clear hK) | (clear hK; clear hK; clear hK; clear hK; refine hK _ ?_; clear hK) | (refine wSeq fun K hK => ?_) | ((first | refine wReg ?_ | refine wDrwQ rfl (by kernel_rfl) ?_ | refine wDrwI ?_ | refine wDrw (by kernel_rfl) ?_); simp only [List.map_cons, List.map_nil, strip]) | ((first | refine wIs fun K hK => ?_ | refine wOs fun K hK => ?_ | refine wQs fun K hK => ?_ | refine CallK_plain ?_ | refine CallQ_plain ?_ | refine CallR_plain ?_ | refine wCond ?_); simp [g5, g7, g8, g9, g10, g44, g45, g46, b5, hlt, hw, he, hi, hi', v1, v2, v3, wS]) | (refine wIn ?_; refine And.intro (by kernel_rfl) ?_; try simp only [thenA_n]) | (first | refine wBlock ?_ | refine wScope ?_) | ((first | refine wRet ?_ | refine wExit ?_ | refine wSkip ?_); try simp) | ((first | refine wLabel ?_ | refine wOn ?_ | refine wQn ?_); try simp only [thenA_n])
      refine hL _ (N - 1) (by omega) ⟨j + 1, by omega, ?_⟩
      simp [g5, g7, g8, g9, g10, g44, g45, g46, b5, hw, hs, ht, wS]
    · obtain ⟨hi, hv⟩ := hB o
      rw [if_neg o] at hs ht
      have hr0 := toldV_pos l[j].k (fnd a.l l[j].p).1 (fnd b.l l[j].p).1 (fnd a.l l[j].p).2 (fnd b.l l[j].p).2 (decide (kds a.l l[j].p = kds b.l l[j].p))
      have hr1 : 0 < told l[j] a b := by
        rcases hr0 with h | h
        · exact absurd h o
        · exact h
      have v1 : M[T0.length].s = l[j].s := by rw [hv]; rfl
      have v2 : M[T0.length].k = l[j].k := by rw [hv]; rfl
      have v3 : M[T0.length].p = l[j].p := by rw [hv]; rfl
      have v4 : 0 < M[T0.length].r := by rw [hv]; exact hr1
      have hi' : (T0.length : Int) < M.length := by omega
      by_cases hx : S0.length < L.length
      · have hx' : (S0.length : Int) < L.length := by omega
        have hne := hC o S0.length hx
        rw [Wt.ext3] at hne
        by_cases y1 : L[S0.length].s = l[j].s
        · by_cases y2 : L[S0.length].k = l[j].k
          · have y3 : ¬ L[S0.length].p = l[j].p := fun h => hne ⟨y1, y2, h⟩
            repeat' first | (refine hK _ ?_; clear hK) | (refine hK _ _ ?_; clear hK) | (clear hK; refine hK _ ?_; clear hK) | (clear hK; clear hK; refine hK _ ?_; clear hK) | (clear hK; clear hK; clear hK; refine hK _ ?_; clear hK) | (clear hK; clear hK; clear hK; clear hK; refine hK _ ?_; clear hK) | (refine wSeq fun K hK => ?_) | ((first | refine wReg ?_ | refine wDrwQ rfl (by kernel_rfl) ?_ | refine wDrwI ?_ | refine wDrw (by kernel_rfl) ?_); simp only [List.map_cons, List.map_nil, strip]) | ((first | refine wIs fun K hK => ?_ | refine wOs fun K hK => ?_ | refine wQs fun K hK => ?_ | refine CallK_plain ?_ | refine CallQ_plain ?_ | refine CallR_plain ?_ | refine wCond ?_); simp [g5, g7, g8, g9, g10, g44, g45, g46, b5, hlt, hw, he, hi, hi', hx, hx', v1, v2, v3, v4, y1, y2, y3, wT]) | (refine wIn ?_; refine And.intro (by kernel_rfl) ?_; try simp only [thenA_n]) | (first | refine wBlock ?_ | refine wScope ?_) | ((first | refine wRet ?_ | refine wExit ?_ | refine wSkip ?_); try simp) | ((first | refine wLabel ?_ | refine wOn ?_ | refine wQn ?_); try simp only [thenA_n])
            refine hL _ (N - 1) (by omega) ⟨j + 1, by omega, ?_⟩
            simp [g5, g7, g8, g9, g10, g44, g45, g46, b5, hw, hs, ht, wT]
          · repeat' first | (refine hK _ ?_; clear hK) | (refine hK _ _ ?_; clear hK) | (clear hK; refine hK _ ?_; clear hK) | (clear hK; clear hK; refine hK _ ?_; clear hK) | (clear hK; clear hK; clear hK; refine hK _ ?_; clear hK) | (clear hK; clear hK; clear hK; clear hK; refine hK _ ?_; clear hK) | (refine wSeq fun K hK => ?_) | ((first | refine wReg ?_ | refine wDrwQ rfl (by kernel_rfl) ?_ | refine wDrwI ?_ | refine wDrw (by kernel_rfl) ?_); simp only [List.map_cons, List.map_nil, strip]) | ((first | refine wIs fun K hK => ?_ | refine wOs fun K hK => ?_ | refine wQs fun K hK => ?_ | refine CallK_plain ?_ | refine CallQ_plain ?_ | refine CallR_plain ?_ | refine wCond ?_); simp [g5, g7, g8, g9, g10, g44, g45, g46, b5, hlt, hw, he, hi, hi', hx, hx', v1, v2, v3, v4, y1, y2, wT]) | (refine wIn ?_; refine And.intro (by kernel_rfl) ?_; try simp only [thenA_n]) | (first | refine wBlock ?_ | refine wScope ?_) | ((first | refine wRet ?_ | refine wExit ?_ | refine wSkip ?_); try simp) | ((first | refine wLabel ?_ | refine wOn ?_ | refine wQn ?_); try simp only [thenA_n])
            refine hL _ (N - 1) (by omega) ⟨j + 1, by omega, ?_⟩
            simp [g5, g7, g8, g9, g10, g44, g45, g46, b5, hw, hs, ht, wT]
        · repeat' first | (refine hK _ ?_; clear hK) | (refine hK _ _ ?_; clear hK) | (clear hK; refine hK _ ?_; clear hK) | (clear hK; clear hK; refine hK _ ?_; clear hK) | (clear hK; clear hK; clear hK; refine hK _ ?_; clear hK) | (clear hK; clear hK; clear hK; clear hK; refine hK _ ?_; clear hK) | (refine wSeq fun K hK => ?_) | ((first | refine wReg ?_ | refine wDrwQ rfl (by kernel_rfl) ?_ | refine wDrwI ?_ | refine wDrw (by kernel_rfl) ?_); simp only [List.map_cons, List.map_nil, strip]) | ((first | refine wIs fun K hK => ?_ | refine wOs fun K hK => ?_ | refine wQs fun K hK => ?_ | refine CallK_plain ?_ | refine CallQ_plain ?_ | refine CallR_plain ?_ | refine wCond ?_); simp [g5, g7, g8, g9, g10, g44, g45, g46, b5, hlt, hw, he, hi, hi', hx, hx', v1, v2, v3, v4, y1, wT]) | (refine wIn ?_; refine And.intro (by kernel_rfl) ?_; try simp only [thenA_n]) | (first | refine wBlock ?_ | refine wScope ?_) | ((first | refine wRet ?_ | refine wExit ?_ | refine wSkip ?_); try simp) | ((first | refine wLabel ?_ | refine wOn ?_ | refine wQn ?_); try simp only [thenA_n])
          refine hL _ (N - 1) (by omega) ⟨j + 1, by omega, ?_⟩
          simp [g5, g7, g8, g9, g10, g44, g45, g46, b5, hw, hs, ht, wT]
      · have hx' : ¬ (S0.length : Int) < L.length := by omega
        repeat' first | (refine hK _ ?_; clear hK) | (refine hK _ _ ?_; clear hK) | (clear hK; refine hK _ ?_; clear hK) | (clear hK; clear hK; refine hK _ ?_; clear hK) | (clear hK; clear hK; clear hK; refine hK _ ?_; clear hK) | (clear hK; clear hK; clear hK; clear hK; refine hK _ ?_; clear hK) | (refine wSeq fun K hK => ?_) | ((first | refine wReg ?_ | refine wDrwQ rfl (by kernel_rfl) ?_ | refine wDrwI ?_ | refine wDrw (by kernel_rfl) ?_); simp only [List.map_cons, List.map_nil, strip]) | ((first | refine wIs fun K hK => ?_ | refine wOs fun K hK => ?_ | refine wQs fun K hK => ?_ | refine CallK_plain ?_ | refine CallQ_plain ?_ | refine CallR_plain ?_ | refine wCond ?_); simp [g5, g7, g8, g9, g10, g44, g45, g46, b5, hlt, hw, he, hi, hi', hx, hx', v1, v2, v3, v4, wT]) | (refine wIn ?_; refine And.intro (by kernel_rfl) ?_; try simp only [thenA_n]) | (first | refine wBlock ?_ | refine wScope ?_) | ((first | refine wRet ?_ | refine wExit ?_ | refine wSkip ?_); try simp) | ((first | refine wLabel ?_ | refine wOn ?_ | refine wQn ?_); try simp only [thenA_n])
        refine hL _ (N - 1) (by omega) ⟨j + 1, by omega, ?_⟩
        simp [g5, g7, g8, g9, g10, g44, g45, g46, b5, hw, hs, ht, wT]
  · repeat' first | (refine hK _ ?_; clear hK) | (refine hK _ _ ?_; clear hK) | (clear hK; refine hK _ ?_; clear hK) | (clear hK; clear hK; refine hK _ ?_; clear hK) | (clear hK; clear hK; clear hK; refine hK _ ?_; clear hK) | (clear hK; clear hK; clear hK; clear hK; refine hK _ ?_; clear hK) | (refine wSeq fun K hK => ?_) | ((first | refine wReg ?_ | refine wDrwQ rfl (by kernel_rfl) ?_ | refine wDrwI ?_ | refine wDrw (by kernel_rfl) ?_); simp only [List.map_cons, List.map_nil, strip]) | ((first | refine wIs fun K hK => ?_ | refine wOs fun K hK => ?_ | refine wQs fun K hK => ?_ | refine CallK_plain ?_ | refine CallQ_plain ?_ | refine CallR_plain ?_ | refine wCond ?_); simp [g5, g7, g8, g9, g10, g44, g45, g46, b5, hlt, w2]) | (refine wIn ?_; refine And.intro (by kernel_rfl) ?_; try simp only [thenA_n]) | (first | refine wBlock ?_ | refine wScope ?_) | ((first | refine wRet ?_ | refine wExit ?_ | refine wSkip ?_); try simp) | ((first | refine wLabel ?_ | refine wOn ?_ | refine wQn ?_); try simp only [thenA_n]) | (refine CallE.pure (c2) rfl ?_) | (refine CallE.lent (c2) rfl ?_) | (refine CallF.pure (c2) rfl ?_) | (refine CallF.lent (c2) rfl ?_) | (refine CallE.own (c2) ?_) | (refine CallH.pure (c2) rfl ?_) | (refine CallH.lent (c2) rfl ?_) | (refine CallH.own (c2) ?_) | (refine CallE.pure (ca) rfl ?_) | (refine CallE.lent (ca) rfl ?_) | (refine CallF.pure (ca) rfl ?_) | (refine CallF.lent (ca) rfl ?_) | (refine CallE.own (ca) ?_) | (refine CallH.pure (ca) rfl ?_) | (refine CallH.lent (ca) rfl ?_) | (refine CallH.own (ca) ?_)
    all_goals apply hr
    all_goals simp [Try.f3]
end Go.Proofs.Ytkeopdjnidmaeaa
