/- Disks: law DiskDown. -/
import Derived.Test.YtijjfiebmdejaaaDKF
import Derived.Test.YtijjfiebmdejaaaDKA
namespace Go.Proofs.Ytijjfiebmdejaaa
set_option linter.unusedSimpArgs false
set_option linter.unusedVariables false
set_option maxRecDepth 8000
open Go Go.Av
attribute [local simp] Try.T1 Try.T2 Try.T3 Try.T4 Try.T5 Try.T9 Try.T12 Try.T15 Try.T16 Try.T17 Try.T21 Try.T22 Try.T23 Try.T24 Try.T25 Try.T27 Try.T28 Try.T29 Try.T30 Try.T32 Try.T33 Try.T35 Try.T37 Try.T38 Try.T39 Try.T40 Try.T41 Try.T42 Try.T43 Try.T44 Try.T45 Try.T47 Try.T48 Try.T49 Try.T50 Try.T51 Try.T52 Try.T53 Try.T55 Try.T56 Try.T57 Try.T58 Try.T59 Try.T60 Try.T61 Try.T62 Try.T63 Try.T64 Try.T65 Try.T66 Try.T67 Try.T69 Try.T71 Try.T72 Try.T73 Try.T74 Try.T75 Try.T78 Try.T81 Try.T82 Try.T85 Try.T86
attribute [local irreducible] Go.Av.CallK Go.Av.CallE Go.Av.CallQ Go.Av.CallF Go.Av.CallR Go.Av.CallH Go.Av.Con
theorem crsh_dn (d : Dk) (ks : List Int) : (crsh d ks).dn = true := rfl
theorem crF_crF (f : Fl) (k m : Int) : crF (crF f k) m = crF f k := by
  have h := crS_le f k
  have e1 : ((crF f k).d.length : Int) = crS f k := by
    unfold crF; simp only [List.length_take]; omega
  have e2 : (crF f k).s = crS f k := rfl
  have e3 : crS (crF f k) m = crS f k := by
    unfold crS at *
    rw [e1, e2]
    split <;> omega
  have e4 : (crF f k).d.take (crS f k).toNat = (crF f k).d := List.take_of_length_le (by omega)
  show (⟨(crF f k).n, (crF f k).d.take (crS (crF f k) m).toNat, crS (crF f k) m⟩ : Fl) = _
  rw [e3, e4]; rfl
theorem crsh_crsh (d : Dk) (ks ms : List Int) : crsh (crsh d ks) ms = crsh d ks := by
  unfold crsh
  have : crL (crL d.fs ks) ms = crL d.fs ks := by
    apply List.ext_getElem (by simp)
    intro j h1 h2
    have hj : j < d.fs.length := by simpa using h2
    rw [crL_get (by simpa using hj), crL_get hj, crF_crF]
  simp only [this]
theorem ply_down {d : Dk} {o : Op13} (hd : d.dn = true) (h0 : 0 ≤ o.k) (h5 : o.k ≤ 5) : (ply d o).1 = d ∧ (o.k < 5 → (ply d o).2 = 9) := by
  unfold ply
  split
  · unfold app; rw [if_pos hd]; exact ⟨rfl, fun _ => rfl⟩
  split
  · unfold chg; rw [if_pos hd]; exact ⟨rfl, fun _ => rfl⟩
  split
  · unfold chg; rw [if_pos hd]; exact ⟨rfl, fun _ => rfl⟩
  split
  · have : openE d o.a = 9 := by unfold openE; rw [if_pos hd]
    unfold rmv; rw [this, if_neg (by decide)]; exact ⟨rfl, fun _ => rfl⟩
  split
  · unfold ren13; rw [if_pos hd]; exact ⟨rfl, fun _ => rfl⟩
  split
  · unfold armD; rw [if_pos hd]; exact ⟨rfl, fun h => by omega⟩
  split
  · omega
  · omega
def bxD (d : Dk) : List V := [.p (.sl 3 (fls d.fs)), .p (I d.cap), .p (I d.fuse), .p (B d.dn)]
theorem plys_inv (n : Int) {l : List Op13} (hn : ∀ o ∈ l, o.n ≤ 9223372036854775807) (k : Nat) : Inv13 (plys (newD n) (l.take k)) k (szO (l.take k)) := by
  induction k with
  | zero => simpa [plys, szO] using Inv13.new n
  | succ k ih =>
    by_cases hk : k < l.length
    · rw [plys_snoc _ hk, szO_take hk]
      have h := ih.ply l[k] (hn _ (List.getElem_mem hk))
      refine ⟨h.n, ?_, h.f⟩
      have := h.u
      unfold Op13.sz; omega
    · rw [List.take_of_length_le (by omega)] at ih ⊢
      exact ⟨by have := ih.n; omega, ih.u, ih.f⟩
theorem plys_okP (n : Int) {l : List Op13} (hn : ∀ o ∈ l, o.n ≤ 9223372036854775807) (hf : farO l = false) (k : Nat) : OkP (plys (newD n) (l.take k)) := by
  have h1 := farO_not hf
  have h2 := szO_le (l := l) (k := k)
  by_cases hk : k ≤ l.length
  · exact (plys_inv n hn k).okP (by omega) (by omega)
  · have := plys_inv n hn l.length
    rw [List.take_length] at this
    rw [List.take_of_length_le (by omega)]
    have h3 := szO_le (l := l) (k := l.length)
    rw [List.take_length] at h3
    exact this.okP (by omega) (by omega)
theorem crsh_okP {d : Dk} (h : OkP d) (ks : List Int) : OkP (crsh d ks) :=
  { n := by have := h.n; simpa [crsh] using this
    d := fun f hf => by
      have h1 := usedL_mem hf
      have h2 := usedL_crL d.fs ks
      obtain ⟨j, hj, rfl⟩ := List.getElem_of_mem hf
      have hj' : j < d.fs.length := by simpa [crsh] using hj
      have e : (crsh d ks).fs[j] = crF d.fs[j] (ks.getD j 0) := crL_get hj'
      rw [e]
      have := h.d _ (List.getElem_mem hj')
      simp [crF]; omega
    fu := by simp [crsh]
    u := by have h1 := h.u; have h2 := usedL_crL d.fs ks; show usedL (crL d.fs ks) ≤ _; omega }
set_option maxHeartbeats 8000000 in
theorem diskDown_con (l m : List Op13) (ka kb : List Int) (hl : ∀ o ∈ l, OkS o) (hm : ∀ o ∈ m, OkS o) (l63 : l.length ≤ 9223372036854775807) (m63 : m.length ≤ 9223372036854775807) (ka63 : ka.length < 9223372036854775808) (kb63 : kb.length < 9223372036854775808) :
    ACon Try.prog 6 [.p (.sl 6 (ops13 l)), .p (.sl 6 (ops13 m)), .p (.agg [.sl 1 (ints ka), .sl 1 (ints kb)])] (.p (B true)) := by
  have cf1 := far13_con l hl l63
  have cf2 := far13_con m hm m63
  cases f1 : farO l with
  | true =>
    rw [f1] at cf1
    refine wBody Try.tab Try.mixed Try.func6 rfl rfl Try.ntmps6 (by simp) (by simp) fun Q hr hn => ?_
    repeat' first | (refine hK _ ?_; clear hK) | (refine hK _ _ ?_; clear hK) | (clear hK; refine hK _ ?_; clear hK) | (clear hK; clear hK; refine hK _ ?_; clear hK) | (clear hK; clear hK; clear hK; refine hK _ ?_; clear hK) | (clear hK; clear hK; clear hK; clear hK; refine hK _ ?_; clear hK) | (refine wSeq fun K hK => ?_) | ((first | refine wReg ?_ | refine wDrwQ rfl (by kernel_rfl) ?_ | refine wDrwI ?_ | refine wDrw (by kernel_rfl) ?_); simp only [List.map_cons, List.map_nil, strip]) | ((first | refine wIs fun K hK => ?_ | refine wOs fun K hK => ?_ | refine wQs fun K hK => ?_ | refine CallK_plain ?_ | refine CallQ_plain ?_ | refine CallR_plain ?_ | refine wCond ?_); simp) | (refine wIn ?_; refine And.intro (by kernel_rfl) ?_; try simp only [thenA_n]) | (first | refine wBlock ?_ | refine wScope ?_) | ((first | refine wRet ?_ | refine wExit ?_ | refine wSkip ?_); try simp) | ((first | refine wLabel ?_ | refine wOn ?_ | refine wQn ?_); try simp only [thenA_n]) | (refine CallE.pure (cf1) rfl ?_) | (refine CallE.lent (cf1) rfl ?_) | (refine CallF.pure (cf1) rfl ?_) | (refine CallF.lent (cf1) rfl ?_) | (refine CallE.own (cf1) ?_) | (refine CallH.pure (cf1) rfl ?_) | (refine CallH.lent (cf1) rfl ?_) | (refine CallH.own (cf1) ?_) | (refine CallE.pure (awake13) rfl ?_) | (refine CallE.lent (awake13) rfl ?_) | (refine CallF.pure (awake13) rfl ?_) | (refine CallF.lent (awake13) rfl ?_) | (refine CallE.own (awake13) ?_) | (refine CallH.pure (awake13) rfl ?_) | (refine CallH.lent (awake13) rfl ?_) | (refine CallH.own (awake13) ?_)
    all_goals apply hr
    all_goals simp [Try.f6]
  | false =>
  rw [f1] at cf1
  cases f2 : farO m with
  | true =>
    rw [f2] at cf2
    refine wBody Try.tab Try.mixed Try.func6 rfl rfl Try.ntmps6 (by simp) (by simp) fun Q hr hn => ?_
    repeat' first | (refine hK _ ?_; clear hK) | (refine hK _ _ ?_; clear hK) | (clear hK; refine hK _ ?_; clear hK) | (clear hK; clear hK; refine hK _ ?_; clear hK) | (clear hK; clear hK; clear hK; refine hK _ ?_; clear hK) | (clear hK; clear hK; clear hK; clear hK; refine hK _ ?_; clear hK) | (refine wSeq fun K hK => ?_) | ((first | refine wReg ?_ | refine wDrwQ rfl (by kernel_rfl) ?_ | refine wDrwI ?_ | refine wDrw (by kernel_rfl) ?_); simp only [List.map_cons, List.map_nil, strip]) | ((first | refine wIs fun K hK => ?_ | refine wOs fun K hK => ?_ | refine wQs fun K hK => ?_ | refine CallK_plain ?_ | refine CallQ_plain ?_ | refine CallR_plain ?_ | refine wCond ?_); simp) | (refine wIn ?_; refine And.intro (by kernel_rfl) ?_; try simp only [thenA_n]) | (first | refine wBlock ?_ | refine wScope ?_) | ((first | refine wRet ?_ | refine wExit ?_ | refine wSkip ?_); try simp) | ((first | refine wLabel ?_ | refine wOn ?_ | refine wQn ?_); try simp only [thenA_n]) | (refine CallE.pure (cf1) rfl ?_) | (refine CallE.lent (cf1) rfl ?_) | (refine CallF.pure (cf1) rfl ?_) | (refine CallF.lent (cf1) rfl ?_) | (refine CallE.own (cf1) ?_) | (refine CallH.pure (cf1) rfl ?_) | (refine CallH.lent (cf1) rfl ?_) | (refine CallH.own (cf1) ?_) | (refine CallE.pure (cf2) rfl ?_) | (refine CallE.lent (cf2) rfl ?_) | (refine CallF.pure (cf2) rfl ?_) | (refine CallF.lent (cf2) rfl ?_) | (refine CallE.own (cf2) ?_) | (refine CallH.pure (cf2) rfl ?_) | (refine CallH.lent (cf2) rfl ?_) | (refine CallH.own (cf2) ?_) | (refine CallE.pure (awake13) rfl ?_) | (refine CallE.lent (awake13) rfl ?_) | (refine CallF.pure (awake13) rfl ?_) | (refine CallF.lent (awake13) rfl ?_) | (refine CallE.own (awake13) ?_) | (refine CallH.pure (awake13) rfl ?_) | (refine CallH.lent (awake13) rfl ?_) | (refine CallH.own (awake13) ?_)
    all_goals apply hr
    all_goals simp [Try.f6]
  | false =>
  rw [f2] at cf2
  by_cases hka : 100 < ka.length
  · have hka' : (100 : Int) < ka.length := by omega
    refine wBody Try.tab Try.mixed Try.func6 rfl rfl Try.ntmps6 (by simp) (by simp) fun Q hr hn => ?_
    repeat' first | (refine hK _ ?_; clear hK) | (refine hK _ _ ?_; clear hK) | (clear hK; refine hK _ ?_; clear hK) | (clear hK; clear hK; refine hK _ ?_; clear hK) | (clear hK; clear hK; clear hK; refine hK _ ?_; clear hK) | (clear hK; clear hK; clear hK; clear hK; refine hK _ ?_; clear hK) | (refine wSeq fun K hK => ?_) | ((first | refine wReg ?_ | refine wDrwQ rfl (by kernel_rfl) ?_ | refine wDrwI ?_ | refine wDrw (by kernel_rfl) ?_); simp only [List.map_cons, List.map_nil, strip]) | ((first | refine wIs fun K hK => ?_ | refine wOs fun K hK => ?_ | refine wQs fun K hK => ?_ | refine CallK_plain ?_ | refine CallQ_plain ?_ | refine CallR_plain ?_ | refine wCond ?_); simp [ka63, kb63, hka, hka']) | (refine wIn ?_; refine And.intro (by kernel_rfl) ?_; try simp only [thenA_n]) | (first | refine wBlock ?_ | refine wScope ?_) | ((first | refine wRet ?_ | refine wExit ?_ | refine wSkip ?_); try simp) | ((first | refine wLabel ?_ | refine wOn ?_ | refine wQn ?_); try simp only [thenA_n]) | (refine CallE.pure (cf1) rfl ?_) | (refine CallE.lent (cf1) rfl ?_) | (refine CallF.pure (cf1) rfl ?_) | (refine CallF.lent (cf1) rfl ?_) | (refine CallE.own (cf1) ?_) | (refine CallH.pure (cf1) rfl ?_) | (refine CallH.lent (cf1) rfl ?_) | (refine CallH.own (cf1) ?_) | (refine CallE.pure (cf2) rfl ?_) | (refine CallE.lent (cf2) rfl ?_) | (refine CallF.pure (cf2) rfl ?_) | (refine CallF.lent (cf2) rfl ?_) | (refine CallE.own (cf2) ?_) | (refine CallH.pure (cf2) rfl ?_) | (refine CallH.lent (cf2) rfl ?_) | (refine CallH.own (cf2) ?_) | (refine CallE.pure (awake13) rfl ?_) | (refine CallE.lent (awake13) rfl ?_) | (refine CallF.pure (awake13) rfl ?_) | (refine CallF.lent (awake13) rfl ?_) | (refine CallE.own (awake13) ?_) | (refine CallH.pure (awake13) rfl ?_) | (refine CallH.lent (awake13) rfl ?_) | (refine CallH.own (awake13) ?_)
    all_goals apply hr
    all_goals simp [Try.f6]
  have hka' : ¬ (100 : Int) < ka.length := by omega
  by_cases hkb : 100 < kb.length
  · have hkb' : (100 : Int) < kb.length := by omega
    refine wBody Try.tab Try.mixed Try.func6 rfl rfl Try.ntmps6 (by simp) (by simp) fun Q hr hn => ?_
    repeat' first | (refine hK _ ?_; clear hK) | (refine hK _ _ ?_; clear hK) | (clear hK; refine hK _ ?_; clear hK) | (clear hK; clear hK; refine hK _ ?_; clear hK) | (clear hK; clear hK; clear hK; refine hK _ ?_; clear hK) | (clear hK; clear hK; clear hK; clear hK; refine hK _ ?_; clear hK) | (refine wSeq fun K hK => ?_) | ((first | refine wReg ?_ | refine wDrwQ rfl (by kernel_rfl) ?_ | refine wDrwI ?_ | refine wDrw (by kernel_rfl) ?_); simp only [List.map_cons, List.map_nil, strip]) | ((first | refine wIs fun K hK => ?_ | refine wOs fun K hK => ?_ | refine wQs fun K hK => ?_ | refine CallK_plain ?_ | refine CallQ_plain ?_ | refine CallR_plain ?_ | refine wCond ?_); simp [ka63, kb63, hka, hka', hkb, hkb']) | (refine wIn ?_; refine And.intro (by kernel_rfl) ?_; try simp only [thenA_n]) | (first | refine wBlock ?_ | refine wScope ?_) | ((first | refine wRet ?_ | refine wExit ?_ | refine wSkip ?_); try simp) | ((first | refine wLabel ?_ | refine wOn ?_ | refine wQn ?_); try simp only [thenA_n]) | (refine CallE.pure (cf1) rfl ?_) | (refine CallE.lent (cf1) rfl ?_) | (refine CallF.pure (cf1) rfl ?_) | (refine CallF.lent (cf1) rfl ?_) | (refine CallE.own (cf1) ?_) | (refine CallH.pure (cf1) rfl ?_) | (refine CallH.lent (cf1) rfl ?_) | (refine CallH.own (cf1) ?_) | (refine CallE.pure (cf2) rfl ?_) | (refine CallE.lent (cf2) rfl ?_) | (refine CallF.pure (cf2) rfl ?_) | (refine CallF.lent (cf2) rfl ?_) | (refine CallE.own (cf2) ?_) | (refine CallH.pure (cf2) rfl ?_) | (refine CallH.lent (cf2) rfl ?_) | (refine CallH.own (cf2) ?_) | (refine CallE.pure (awake13) rfl ?_) | (refine CallE.lent (awake13) rfl ?_) | (refine CallF.pure (awake13) rfl ?_) | (refine CallF.lent (awake13) rfl ?_) | (refine CallE.own (awake13) ?_) | (refine CallH.pure (awake13) rfl ?_) | (refine CallH.lent (awake13) rfl ?_) | (refine CallH.own (awake13) ?_)
    all_goals apply hr
    all_goals simp [Try.f6]
  have hkb' : ¬ (100 : Int) < kb.length := by omega
  have cn := new_con 1000
  unfold Dk.cells at cn
  have hln : ∀ o ∈ l, o.n ≤ 9223372036854775807 := fun o ho => (hl o ho).n
  have hfar := farO_not f1
  have hfarm := farO_not f2
  refine wBody Try.tab Try.mixed Try.func6 rfl rfl Try.ntmps6 (by simp) (by simp) fun Q hr hn => ?_
  repeat' first | (refine hK _ ?_; clear hK) | (refine hK _ _ ?_; clear hK) | (clear hK; refine hK _ ?_; clear hK) | (clear hK; clear hK; refine hK _ ?_; clear hK) | (clear hK; clear hK; clear hK; refine hK _ ?_; clear hK) | (clear hK; clear hK; clear hK; clear hK; refine hK _ ?_; clear hK) | (refine wSeq fun K hK => ?_) | ((first | refine wReg ?_ | refine wDrwQ rfl (by kernel_rfl) ?_ | refine wDrwI ?_ | refine wDrw (by kernel_rfl) ?_); simp only [List.map_cons, List.map_nil, strip]) | ((first | refine wIs fun K hK => ?_ | refine wOs fun K hK => ?_ | refine wQs fun K hK => ?_ | refine CallK_plain ?_ | refine CallQ_plain ?_ | refine CallR_plain ?_ | refine wCond ?_); simp [ka63, kb63, hka, hka', hkb, hkb']) | (refine wIn ?_; refine And.intro (by kernel_rfl) ?_; try simp only [thenA_n]) | (first | refine wBlock ?_ | refine wScope ?_) | ((first | refine wRet ?_ | refine wExit ?_ | refine wSkip ?_); try simp) | ((first | refine wLabel ?_ | refine wOn ?_ | refine wQn ?_); try simp only [thenA_n]) | (refine CallE.pure (cf1) rfl ?_) | (refine CallE.lent (cf1) rfl ?_) | (refine CallF.pure (cf1) rfl ?_) | (refine CallF.lent (cf1) rfl ?_) | (refine CallE.own (cf1) ?_) | (refine CallH.pure (cf1) rfl ?_) | (refine CallH.lent (cf1) rfl ?_) | (refine CallH.own (cf1) ?_) | (refine CallE.pure (cf2) rfl ?_) | (refine CallE.lent (cf2) rfl ?_) | (refine CallF.pure (cf2) rfl ?_) | (refine CallF.lent (cf2) rfl ?_) | (refine CallE.own (cf2) ?_) | (refine CallH.pure (cf2) rfl ?_) | (refine CallH.lent (cf2) rfl ?_) | (refine CallH.own (cf2) ?_) | (refine CallE.pure (cn) rfl ?_) | (refine CallE.lent (cn) rfl ?_) | (refine CallF.pure (cn) rfl ?_) | (refine CallF.lent (cn) rfl ?_) | (refine CallE.own (cn) ?_) | (refine CallH.pure (cn) rfl ?_) | (refine CallH.lent (cn) rfl ?_) | (refine CallH.own (cn) ?_)
  refine wLoop (fun N st => ∃ k, k + N = l.length ∧ st.s 1 = .p (.sl 6 (ops13 m)) ∧ st.s 5 = .ptr 5 0 ∧ st.b 5 = some (.box 44 [.p (.sl 1 (ints ka)), .p (.sl 1 (ints kb))]) ∧ st.s 7 = .ptr 7 0 ∧ st.b 7 = some (.box 27 (bxD (plys (newD 1000) (l.take k)))) ∧ st.s 36 = .p (.sl 6 (ops13 l)) ∧ st.s 37 = .p (I l.length) ∧ st.s 38 = .p (I k)) l.length ⟨0, by simp [plys, bxD]⟩ fun K N st hL ⟨k, hk, g1, g5, b5, g7, b7, g36, g37, g38⟩ => ?_
  by_cases hlt : k < l.length
  · have hlt' : (k : Int) < l.length := by omega
    have hw := wrapS k _ hlt (by omega)
    have he := ops13_get hlt
    have cp := play_con (plys (newD 1000) (l.take k)) l[k] (plys_okP 1000 hln f1 k) (.of f1 (List.getElem_mem hlt))
    have hsn := plys_snoc (newD 1000) hlt
    generalize hP : ply (plys (newD 1000) (l.take k)) l[k] = r at cp hsn
    generalize plys (newD 1000) (l.take k) = d at cp b7 hP
    clear hP
    unfold Dk.cells Op13.cells at cp
    unfold bxD at b7
    repeat' first | (refine hK _ ?_; clear hK) | (refine hK _ _ ?_; clear hK) | (clear hK; refine hK _ ?_; clear hK) | (clear hK; clear hK; refine hK _ ?_; clear hK) | (clear hK; clear hK; clear hK; refine hK _ ?_; clear hK) | (clear hK; clear hK; clear hK; clear hK; refine hK _ ?_; clear hK) | (refine wSeq fun K hK => ?_) | ((first | refine wReg ?_ | refine wDrwQ rfl (by kernel_rfl) ?_ | refine wDrwI ?_ | refine wDrw (by kernel_rfl) ?_); simp only [List.map_cons, List.map_nil, strip]) | ((first | refine wIs fun K hK => ?_ | refine wOs fun K hK => ?_ | refine wQs fun K hK => ?_ | refine CallK_plain ?_ | refine CallQ_plain ?_ | refine CallR_plain ?_ | refine wCond ?_); simp [g1, g5, b5, g7, b7, g36, g37, g38, hlt, hlt', hw, he]) | (refine wIn ?_; refine And.intro (by kernel_rfl) ?_; try simp only [thenA_n]) | (first | refine wBlock ?_ | refine wScope ?_) | ((first | refine wRet ?_ | refine wExit ?_ | refine wSkip ?_); try simp) | ((first | refine wLabel ?_ | refine wOn ?_ | refine wQn ?_); try simp only [thenA_n]) | (refine CallE.pure (cp) rfl ?_) | (refine CallE.lent (cp) rfl ?_) | (refine CallF.pure (cp) rfl ?_) | (refine CallF.lent (cp) rfl ?_) | (refine CallE.own (cp) ?_) | (refine CallH.pure (cp) rfl ?_) | (refine CallH.lent (cp) rfl ?_) | (refine CallH.own (cp) ?_)
    refine hL _ (N - 1) (by omega) ⟨k + 1, by omega, ?_⟩
    rw [hsn]
    simp [g1, g5, b5, g7, b7, g36, g37, g38, hw, bxD]
  · have hlt' : ¬ (k : Int) < l.length := by omega
    rw [List.take_of_length_le (by omega)] at b7
    have hokl := plys_okP 1000 hln f1 l.length
    rw [List.take_length] at hokl
    generalize plys (newD 1000) l = dl at b7 hokl
    have cc1 := crash_con dl ka hokl.toOkD (by omega)
    have hok1 := crsh_okP hokl ka
    have cc2 := crash_con (crsh dl ka) kb hok1.toOkD (by omega)
    rw [crsh_crsh] at cc2
    have hdn := crsh_dn dl ka
    generalize crsh dl ka = d at *
    have cs := same13_con d d (by have := hok1.n; omega) (by have := hok1.n; omega)
    rw [show decide (d = d) = true from decide_eq_true rfl] at cs
    have cr := read_con d [108, 111, 103] hok1.toOkD
    rw [show readE d [108, 111, 103] = 9 by unfold readE; rw [if_pos hdn]] at cr
    unfold Dk.cells at cc1 cc2 cs cr
    unfold bxD at b7
    repeat' first | (refine hK _ ?_; clear hK) | (refine hK _ _ ?_; clear hK) | (clear hK; refine hK _ ?_; clear hK) | (clear hK; clear hK; refine hK _ ?_; clear hK) | (clear hK; clear hK; clear hK; refine hK _ ?_; clear hK) | (clear hK; clear hK; clear hK; clear hK; refine hK _ ?_; clear hK) | (refine wSeq fun K hK => ?_) | ((first | refine wReg ?_ | refine wDrwQ rfl (by kernel_rfl) ?_ | refine wDrwI ?_ | refine wDrw (by kernel_rfl) ?_); simp only [List.map_cons, List.map_nil, strip]) | ((first | refine wIs fun K hK => ?_ | refine wOs fun K hK => ?_ | refine wQs fun K hK => ?_ | refine CallK_plain ?_ | refine CallQ_plain ?_ | refine CallR_plain ?_ | refine wCond ?_); simp [g1, g5, b5, g7, b7, g36, g37, g38, hlt, hlt', ka63, kb63]) | (refine wIn ?_; refine And.intro (by kernel_rfl) ?_; try simp only [thenA_n]) | (first | refine wBlock ?_ | refine wScope ?_) | ((first | refine wRet ?_ | refine wExit ?_ | refine wSkip ?_); try simp) | ((first | refine wLabel ?_ | refine wOn ?_ | refine wQn ?_); try simp only [thenA_n]) | (refine CallE.pure (cc1) rfl ?_) | (refine CallE.lent (cc1) rfl ?_) | (refine CallF.pure (cc1) rfl ?_) | (refine CallF.lent (cc1) rfl ?_) | (refine CallE.own (cc1) ?_) | (refine CallH.pure (cc1) rfl ?_) | (refine CallH.lent (cc1) rfl ?_) | (refine CallH.own (cc1) ?_) | (refine CallE.pure (cc2) rfl ?_) | (refine CallE.lent (cc2) rfl ?_) | (refine CallF.pure (cc2) rfl ?_) | (refine CallF.lent (cc2) rfl ?_) | (refine CallE.own (cc2) ?_) | (refine CallH.pure (cc2) rfl ?_) | (refine CallH.lent (cc2) rfl ?_) | (refine CallH.own (cc2) ?_) | (refine CallE.pure (cs) rfl ?_) | (refine CallE.lent (cs) rfl ?_) | (refine CallF.pure (cs) rfl ?_) | (refine CallF.lent (cs) rfl ?_) | (refine CallE.own (cs) ?_) | (refine CallH.pure (cs) rfl ?_) | (refine CallH.lent (cs) rfl ?_) | (refine CallH.own (cs) ?_)
    refine wLoop (fun N st => ∃ k, k + N = m.length ∧ st.s 7 = .ptr 7 0 ∧ st.b 7 = some (.box 27 (bxD d)) ∧ st.s 60 = .p (.sl 6 (ops13 m)) ∧ st.s 61 = .p (I m.length) ∧ st.s 62 = .p (I k)) m.length ⟨0, by simp [g1, g5, b5, g7, b7, g36, g37, g38, bxD]⟩ fun K N st hL ⟨k, hk, g7, b7, g60, g61, g62⟩ => ?_
    unfold bxD at b7
    by_cases hlt : k < m.length
    · have hlt' : (k : Int) < m.length := by omega
      have hw := wrapS k _ hlt (by omega)
      have he := ops13_get hlt
      have cp := play_con d m[k] hok1 (.of f2 (List.getElem_mem hlt))
      have hpd : 0 ≤ m[k].k → m[k].k ≤ 5 → (ply d m[k]).1 = d ∧ (m[k].k < 5 → (ply d m[k]).2 = 9) := fun h0 h5 => ply_down hdn h0 h5
      have hL2 : ∀ st : St, st.s 7 = .ptr 7 0 → st.b 7 = some (.box 27 (bxD d)) → st.s 60 = .p (.sl 6 (ops13 m)) → st.s 61 = .p (I m.length) → st.s 62 = .p (I ((k + 1 : Nat) : Int)) → K st := fun st a1 a2 a3 a4 a5 => hL st (N - 1) (by omega) ⟨k + 1, by omega, a1, a2, a3, a4, a5⟩
      clear hL
      generalize hO : m[k] = o at *
      obtain ⟨ok, oa, ob, op, on, oks⟩ := o
      simp only at hpd
      unfold Op13.cells at cp
      simp only at cp he
      have q1 : m[k].k = ok := by rw [hO]
      have q2 : m[k].a = oa := by rw [hO]
      have q3 : m[k].b = ob := by rw [hO]
      have q4 : m[k].p = op := by rw [hO]
      have q5 : m[k].n = on := by rw [hO]
      have q6 : m[k].ks = oks := by rw [hO]
      clear hO
      by_cases n0 : ok < 0
      · repeat' first | (refine hK _ ?_; clear hK) | (refine hK _ _ ?_; clear hK) | (clear hK; refine hK _ ?_; clear hK) | (clear hK; clear hK; refine hK _ ?_; clear hK) | (clear hK; clear hK; clear hK; refine hK _ ?_; clear hK) | (clear hK; clear hK; clear hK; clear hK; refine hK _ ?_; clear hK) | (refine wSeq fun K hK => ?_) | ((first | refine wReg ?_ | refine wDrwQ rfl (by kernel_rfl) ?_ | refine wDrwI ?_ | refine wDrw (by kernel_rfl) ?_); simp only [List.map_cons, List.map_nil, strip]) | ((first | refine wIs fun K hK => ?_ | refine wOs fun K hK => ?_ | refine wQs fun K hK => ?_ | refine CallK_plain ?_ | refine CallQ_plain ?_ | refine CallR_plain ?_ | refine wCond ?_); simp [g7, b7, g60, g61, g62, hlt, hlt', hw, he, n0, q1, q2, q3, q4, q5, q6]) | (refine wIn ?_; refine And.intro (by kernel_rfl) ?_; try simp only [thenA_n]) | (first | refine wBlock ?_ | refine wScope ?_) | ((first | refine wRet ?_ | refine wExit ?_ | refine wSkip ?_); try simp) | ((first | refine wLabel ?_ | refine wOn ?_ | refine wQn ?_); try simp only [thenA_n])
        all_goals refine hL2 _ ?_ ?_ ?_ ?_ ?_
        all_goals simp [g7, b7, g60, g61, g62, hw, bxD]
      by_cases n5 : 5 < ok
      · repeat' first | (refine hK _ ?_; clear hK) | (refine hK _ _ ?_; clear hK) | (clear hK; refine hK _ ?_; clear hK) | (clear hK; clear hK; refine hK _ ?_; clear hK) | (clear hK; clear hK; clear hK; refine hK _ ?_; clear hK) | (clear hK; clear hK; clear hK; clear hK; refine hK _ ?_; clear hK) | (refine wSeq fun K hK => ?_) | ((first | refine wReg ?_ | refine wDrwQ rfl (by kernel_rfl) ?_ | refine wDrwI ?_ | refine wDrw (by kernel_rfl) ?_); simp only [List.map_cons, List.map_nil, strip]) | ((first | refine wIs fun K hK => ?_ | refine wOs fun K hK => ?_ | refine wQs fun K hK => ?_ | refine CallK_plain ?_ | refine CallQ_plain ?_ | refine CallR_plain ?_ | refine wCond ?_); simp [g7, b7, g60, g61, g62, hlt, hlt', hw, he, n0, n5, q1, q2, q3, q4, q5, q6]) | (refine wIn ?_; refine And.intro (by kernel_rfl) ?_; try simp only [thenA_n]) | (first | refine wBlock ?_ | refine wScope ?_) | ((first | refine wRet ?_ | refine wExit ?_ | refine wSkip ?_); try simp) | ((first | refine wLabel ?_ | refine wOn ?_ | refine wQn ?_); try simp only [thenA_n])
        all_goals refine hL2 _ ?_ ?_ ?_ ?_ ?_
        all_goals simp [g7, b7, g60, g61, g62, hw, bxD]
      have hp2 := hpd (by omega) (by omega)
      rw [hp2.1] at cp
      generalize (ply d ⟨ok, oa, ob, op, on, oks⟩).2 = e at cp hp2
      unfold Dk.cells at cp
      by_cases n4 : ok < 5
      · have he9 := hp2.2 n4
        subst he9
        repeat' first | (refine hK _ ?_; clear hK) | (refine hK _ _ ?_; clear hK) | (clear hK; refine hK _ ?_; clear hK) | (clear hK; clear hK; refine hK _ ?_; clear hK) | (clear hK; clear hK; clear hK; refine hK _ ?_; clear hK) | (clear hK; clear hK; clear hK; clear hK; refine hK _ ?_; clear hK) | (refine wSeq fun K hK => ?_) | ((first | refine wReg ?_ | refine wDrwQ rfl (by kernel_rfl) ?_ | refine wDrwI ?_ | refine wDrw (by kernel_rfl) ?_); simp only [List.map_cons, List.map_nil, strip]) | ((first | refine wIs fun K hK => ?_ | refine wOs fun K hK => ?_ | refine wQs fun K hK => ?_ | refine CallK_plain ?_ | refine CallQ_plain ?_ | refine CallR_plain ?_ | refine wCond ?_); simp [g7, b7, g60, g61, g62, hlt, hlt', hw, he, n0, n5, n4, q1, q2, q3, q4, q5, q6]) | (refine wIn ?_; refine And.intro (by kernel_rfl) ?_; try simp only [thenA_n]) | (first | refine wBlock ?_ | refine wScope ?_) | ((first | refine wRet ?_ | refine wExit ?_ | refine wSkip ?_); try simp) | ((first | refine wLabel ?_ | refine wOn ?_ | refine wQn ?_); try simp only [thenA_n]) | (refine CallE.pure (cp) rfl ?_) | (refine CallE.lent (cp) rfl ?_) | (refine CallF.pure (cp) rfl ?_) | (refine CallF.lent (cp) rfl ?_) | (refine CallE.own (cp) ?_) | (refine CallH.pure (cp) rfl ?_) | (refine CallH.lent (cp) rfl ?_) | (refine CallH.own (cp) ?_) | (refine CallE.pure (cs) rfl ?_) | (refine CallE.lent (cs) rfl ?_) | (refine CallF.pure (cs) rfl ?_) | (refine CallF.lent (cs) rfl ?_) | (refine CallE.own (cs) ?_) | (refine CallH.pure (cs) rfl ?_) | (refine CallH.lent (cs) rfl ?_) | (refine CallH.own (cs) ?_)
        all_goals refine hL2 _ ?_ ?_ ?_ ?_ ?_
        all_goals simp [g7, b7, g60, g61, g62, hw, bxD]
      · repeat' first | (refine hK _ ?_; clear hK) | (refine hK _ _ ?_; clear hK) | (clear hK; refine hK _ ?_; clear hK) | (clear hK; clear hK; refine hK _ ?_; clear hK) | (clear hK; clear hK; clear hK; refine hK _ ?_; clear hK) | (clear hK; clear hK; clear hK; clear hK; refine hK _ ?_; clear hK) | (refine wSeq fun K hK => ?_) | ((first | refine wReg ?_ | refine wDrwQ rfl (by kernel_rfl) ?_ | refine wDrwI ?_ | refine wDrw (by kernel_rfl) ?_); simp only [List.map_cons, List.map_nil, strip]) | ((first | refine wIs fun K hK => ?_ | refine wOs fun K hK => ?_ | refine wQs fun K hK => ?_ | refine CallK_plain ?_ | refine CallQ_plain ?_ | refine CallR_plain ?_ | refine wCond ?_); simp [g7, b7, g60, g61, g62, hlt, hlt', hw, he, n0, n5, n4, q1, q2, q3, q4, q5, q6]) | (refine wIn ?_; refine And.intro (by kernel_rfl) ?_; try simp only [thenA_n]) | (first | refine wBlock ?_ | refine wScope ?_) | ((first | refine wRet ?_ | refine wExit ?_ | refine wSkip ?_); try simp) | ((first | refine wLabel ?_ | refine wOn ?_ | refine wQn ?_); try simp only [thenA_n]) | (refine CallE.pure (cp) rfl ?_) | (refine CallE.lent (cp) rfl ?_) | (refine CallF.pure (cp) rfl ?_) | (refine CallF.lent (cp) rfl ?_) | (refine CallE.own (cp) ?_) | (refine CallH.pure (cp) rfl ?_) | (refine CallH.lent (cp) rfl ?_) | (refine CallH.own (cp) ?_) | (refine CallE.pure (cs) rfl ?_) | (refine CallE.lent (cs) rfl ?_) | (refine CallF.pure (cs) rfl ?_) | (refine CallF.lent (cs) rfl ?_) | (refine CallE.own (cs) ?_) | (refine CallH.pure (cs) rfl ?_) | (refine CallH.lent (cs) rfl ?_) | (refine CallH.own (cs) ?_)
        all_goals refine hL2 _ ?_ ?_ ?_ ?_ ?_
        all_goals simp [g7, b7, g60, g61, g62, hw, bxD]
    · have hlt' : ¬ (k : Int) < m.length := by omega
      repeat' first | (refine hK _ ?_; clear hK) | (refine hK _ _ ?_; clear hK) | (clear hK; refine hK _ ?_; clear hK) | (clear hK; clear hK; refine hK _ ?_; clear hK) | (clear hK; clear hK; clear hK; refine hK _ ?_; clear hK) | (clear hK; clear hK; clear hK; clear hK; refine hK _ ?_; clear hK) | (refine wSeq fun K hK => ?_) | ((first | refine wReg ?_ | refine wDrwQ rfl (by kernel_rfl) ?_ | refine wDrwI ?_ | refine wDrw (by kernel_rfl) ?_); simp only [List.map_cons, List.map_nil, strip]) | ((first | refine wIs fun K hK => ?_ | refine wOs fun K hK => ?_ | refine wQs fun K hK => ?_ | refine CallK_plain ?_ | refine CallQ_plain ?_ | refine CallR_plain ?_ | refine wCond ?_); simp [g7, b7, g60, g61, g62, hlt, hlt']) | (refine wIn ?_; refine And.intro (by kernel_rfl) ?_; try simp only [thenA_n]) | (first | refine wBlock ?_ | refine wScope ?_) | ((first | refine wRet ?_ | refine wExit ?_ | refine wSkip ?_); try simp) | ((first | refine wLabel ?_ | refine wOn ?_ | refine wQn ?_); try simp only [thenA_n]) | (refine CallE.pure (cr) rfl ?_) | (refine CallE.lent (cr) rfl ?_) | (refine CallF.pure (cr) rfl ?_) | (refine CallF.lent (cr) rfl ?_) | (refine CallE.own (cr) ?_) | (refine CallH.pure (cr) rfl ?_) | (refine CallH.lent (cr) rfl ?_) | (refine CallH.own (cr) ?_) | (refine CallE.pure (awake13) rfl ?_) | (refine CallE.lent (awake13) rfl ?_) | (refine CallF.pure (awake13) rfl ?_) | (refine CallF.lent (awake13) rfl ?_) | (refine CallE.own (awake13) ?_) | (refine CallH.pure (awake13) rfl ?_) | (refine CallH.lent (awake13) rfl ?_) | (refine CallH.own (awake13) ?_)
      all_goals apply hr
      all_goals simp [Try.f6]
end Go.Proofs.Ytijjfiebmdejaaa
