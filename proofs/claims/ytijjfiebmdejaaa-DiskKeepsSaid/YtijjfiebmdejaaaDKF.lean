/- Disks: operations that are too many; what comes in, opened. -/
import Derived.Test.YtijjfiebmdejaaaDKC
import Derived.Test.YtijjfiebmdejaaaAvDeep
import Derived.Test.YtijjfiebmdejaaaAvRow
namespace Go.Proofs.Ytijjfiebmdejaaa
set_option linter.unusedSimpArgs false
set_option linter.unusedVariables false
set_option maxRecDepth 8000
open Go Go.Av Go.ChangeShapes Go.WideShapes Go.ChangeAt Go.RowKit
attribute [local simp] Try.T1 Try.T2 Try.T3 Try.T4 Try.T5 Try.T9 Try.T12 Try.T15 Try.T16 Try.T17 Try.T21 Try.T22 Try.T23 Try.T24 Try.T25 Try.T27 Try.T28 Try.T29 Try.T30 Try.T32 Try.T33 Try.T35 Try.T37 Try.T38 Try.T39 Try.T40 Try.T41 Try.T42 Try.T43 Try.T44 Try.T45 Try.T47 Try.T48 Try.T49 Try.T50 Try.T51 Try.T52 Try.T53 Try.T55 Try.T56 Try.T57 Try.T58 Try.T59 Try.T60 Try.T61 Try.T62 Try.T63 Try.T64 Try.T65 Try.T66 Try.T67 Try.T69 Try.T71 Try.T72 Try.T73 Try.T74 Try.T75 Try.T78 Try.T81 Try.T82 Try.T85 Try.T86
attribute [local irreducible] Go.Av.CallK Go.Av.CallE Go.Av.CallQ Go.Av.CallF Go.Av.CallR Go.Av.CallH Go.Av.Con
def Op13.sz (o : Op13) : Nat := o.p.length + o.a.length + o.b.length + o.ks.length
def szO (l : List Op13) : Nat := (l.map Op13.sz).sum
theorem szO_cons (o : Op13) (l : List Op13) : szO (o :: l) = o.sz + szO l := by simp [szO]
theorem szO_app (l m : List Op13) : szO (l ++ m) = szO l + szO m := by simp [szO]
theorem szO_take {l : List Op13} {k : Nat} (h : k < l.length) : szO (l.take (k + 1)) = szO (l.take k) + l[k].sz := by
  rw [List.take_succ_eq_append_getElem h, szO_app]; simp [szO]
theorem szO_le {l : List Op13} {k : Nat} : szO (l.take k) ≤ szO l := by
  have := szO_app (l.take k) (l.drop k)
  rw [List.take_append_drop] at this; omega
theorem szO_mem {l : List Op13} {o : Op13} (h : o ∈ l) : o.sz ≤ szO l := by
  induction l with
  | nil => simp at h
  | cons g l ih =>
    rw [szO_cons]
    rcases List.mem_cons.1 h with rfl | h
    · omega
    · have := ih h; omega
def farO (l : List Op13) : Bool := decide (80 < l.length) || decide (5000 < szO l)
/-- What the form's reach bounds. -/
structure OkS (o : Op13) : Prop where
  a : o.a.length ≤ 140737488351232
  b : o.b.length ≤ 140737488351232
  p : o.p.length ≤ 140737488351232
  ks : o.ks.length ≤ 140737488351232
  n : o.n ≤ 9223372036854775807
theorem OkS.sz {o : Op13} (h : OkS o) : o.sz ≤ 562949953404928 := by
  have := h.a; have := h.b; have := h.p; have := h.ks
  unfold Op13.sz; omega
theorem szO_bdB {l : List Op13} (B : Nat) (h : ∀ o ∈ l, o.sz ≤ B) (k : Nat) : szO (l.take k) ≤ k * B := by
  induction k with
  | zero => simp [szO]
  | succ k ih =>
    rw [Nat.succ_mul]
    by_cases hk : k < l.length
    · rw [szO_take hk]
      have := h _ (List.getElem_mem hk)
      omega
    · rw [List.take_of_length_le (by omega)] at ih ⊢
      omega
theorem szO_bd {l : List Op13} (h : ∀ o ∈ l, OkS o) (k : Nat) (hk : k ≤ 100) : szO (l.take k) ≤ 56294995340492800 := by
  have h1 := szO_bdB 562949953404928 (fun o ho => (h o ho).sz) k
  have h2 := Nat.mul_le_mul_right 562949953404928 hk
  exact Nat.le_trans h1 h2
set_option maxHeartbeats 4000000 in
theorem far13_con (l : List Op13) (h : ∀ o ∈ l, OkS o) (hl63 : l.length ≤ 9223372036854775807) : ACon Try.prog 8 [.p (.sl 6 (ops13 l))] (.p (B (farO l))) := by
  by_cases h1 : 100 < l.length
  · have e : farO l = true := by unfold farO; rw [decide_eq_true (by omega), Bool.true_or]
    rw [e]
    have h1' : (100 : Int) < l.length := by omega
    refine wBody Try.tab Try.mixed Try.func8 rfl rfl Try.ntmps8 (by simp) (by simp) fun Q hr hn => ?_
    repeat' first | (refine hK _ ?_; clear hK) | (refine hK _ _ ?_; clear hK) | (clear hK; refine hK _ ?_; clear hK) | (clear hK; clear hK; refine hK _ ?_; clear hK) | (clear hK; clear hK; clear hK; refine hK _ ?_; clear hK) | (clear hK; clear hK; clear hK; clear hK; refine hK _ ?_; clear hK) | (refine wSeq fun K hK => ?_) | ((first | refine wReg ?_ | refine wDrwQ rfl (by kernel_rfl) ?_ | refine wDrwI ?_ | refine wDrw (by kernel_rfl) ?_); simp only [List.map_cons, List.map_nil, strip]) | ((first | refine wIs fun K hK => ?_ | refine wOs fun K hK => ?_ | refine wQs fun K hK => ?_ | refine CallK_plain ?_ | refine CallQ_plain ?_ | refine CallR_plain ?_ | refine wCond ?_); simp [h1, h1']) | (refine wIn ?_; refine And.intro (by kernel_rfl) ?_; try simp only [thenA_n]) | (first | refine wBlock ?_ | refine wScope ?_) | ((first | refine wRet ?_ | refine wExit ?_ | refine wSkip ?_); try simp) | ((first | refine wLabel ?_ | refine wOn ?_ | refine wQn ?_); try simp only [thenA_n])
    all_goals apply hr
    all_goals simp [Try.f8]
  have h1' : ¬ (100 : Int) < l.length := by omega
  refine wBody Try.tab Try.mixed Try.func8 rfl rfl Try.ntmps8 (by simp) (by simp) fun Q hr hn => ?_
  repeat' first | (refine hK _ ?_; clear hK) | (refine hK _ _ ?_; clear hK) | (clear hK; refine hK _ ?_; clear hK) | (clear hK; clear hK; refine hK _ ?_; clear hK) | (clear hK; clear hK; clear hK; refine hK _ ?_; clear hK) | (clear hK; clear hK; clear hK; clear hK; refine hK _ ?_; clear hK) | (refine wSeq fun K hK => ?_) | ((first | refine wReg ?_ | refine wDrwQ rfl (by kernel_rfl) ?_ | refine wDrwI ?_ | refine wDrw (by kernel_rfl) ?_); simp only [List.map_cons, List.map_nil, strip]) | ((first | refine wIs fun K hK => ?_ | refine wOs fun K hK => ?_ | refine wQs fun K hK => ?_ | refine CallK_plain ?_ | refine CallQ_plain ?_ | refine CallR_plain ?_ | refine wCond ?_); simp [h1, h1']) | (refine wIn ?_; refine And.intro (by kernel_rfl) ?_; try simp only [thenA_n]) | (first | refine wBlock ?_ | refine wScope ?_) | ((first | refine wRet ?_ | refine wExit ?_ | refine wSkip ?_); try simp) | ((first | refine wLabel ?_ | refine wOn ?_ | refine wQn ?_); try simp only [thenA_n])
  refine wLoop (fun N st => ∃ (k m : Nat), k + N = l.length ∧ m = szO (l.take k) ∧ st.s 0 = .p (.sl 6 (ops13 l)) ∧ st.s 4 = .p (I k) ∧ st.s 3 = .p (I m)) l.length ⟨0, 0, by simp [szO]⟩ fun K N st hL ⟨k, m, hk, hm, g0, g4, g3⟩ => ?_
  by_cases hlt : k < l.length
  · have hlt' : (k : Int) < l.length := by omega
    have hw := wrapS k _ hlt (by omega)
    have he := ops13_get hlt
    have hb := szO_bd h k (by omega)
    have ho := h _ (List.getElem_mem hlt)
    have hs := szO_take hlt
    have b1 := ho.a; have b2 := ho.b; have b3 := ho.p; have b4 := ho.ks
    unfold Op13.sz at hs
    generalize hO : l[k] = o at *
    have c1 : o.a.length < 9223372036854775808 := by omega
    have c2 : o.b.length < 9223372036854775808 := by omega
    have c3 : o.p.length < 9223372036854775808 := by omega
    have c4 : o.ks.length < 9223372036854775808 := by omega
    have w1 : IntKind.i64.wrap ((o.p.length : Int) + o.a.length) = ((o.p.length + o.a.length : Nat) : Int) := by rw [wrap_id] <;> omega
    have w2 : IntKind.i64.wrap (((o.p.length + o.a.length : Nat) : Int) + o.b.length) = ((o.p.length + o.a.length + o.b.length : Nat) : Int) := by rw [wrap_id] <;> omega
    have w3 : IntKind.i64.wrap (((o.p.length + o.a.length + o.b.length : Nat) : Int) + o.ks.length) = ((o.p.length + o.a.length + o.b.length + o.ks.length : Nat) : Int) := by rw [wrap_id] <;> omega
    have w4 : IntKind.i64.wrap ((m : Int) + ((o.p.length + o.a.length + o.b.length + o.ks.length : Nat) : Int)) = ((m + (o.p.length + o.a.length + o.b.length + o.ks.length) : Nat) : Int) := by rw [wrap_id] <;> omega
    generalize hA : o.p.length + o.a.length = A at w1 w2 w3 w4 hs
    generalize hB : A + o.b.length = BB at w2 w3 w4 hs
    generalize hC : BB + o.ks.length = C at w3 w4 hs
    repeat' first | (refine hK _ ?_; clear hK) | (refine hK _ _ ?_; clear hK) | (clear hK; refine hK _ ?_; clear hK) | (clear hK; clear hK; refine hK _ ?_; clear hK) | (clear hK; clear hK; clear hK; refine hK _ ?_; clear hK) | (clear hK; clear hK; clear hK; clear hK; refine hK _ ?_; clear hK) | (refine wSeq fun K hK => ?_) | ((first | refine wReg ?_ | refine wDrwQ rfl (by kernel_rfl) ?_ | refine wDrwI ?_ | refine wDrw (by kernel_rfl) ?_); simp only [List.map_cons, List.map_nil, strip]) | ((first | refine wIs fun K hK => ?_ | refine wOs fun K hK => ?_ | refine wQs fun K hK => ?_ | refine CallK_plain ?_ | refine CallQ_plain ?_ | refine CallR_plain ?_ | refine wCond ?_); simp [g0, g4, g3, hlt, hlt', hw, he, c1, c2, c3, c4, w1, w2, w3, w4, hO]) | (refine wIn ?_; refine And.intro (by kernel_rfl) ?_; try simp only [thenA_n]) | (first | refine wBlock ?_ | refine wScope ?_) | ((first | refine wRet ?_ | refine wExit ?_ | refine wSkip ?_); try simp) | ((first | refine wLabel ?_ | refine wOn ?_ | refine wQn ?_); try simp only [thenA_n])
    refine hL _ (N - 1) (by omega) ⟨k + 1, m + C, by omega, by omega, ?_⟩
    simp [g0, g4, g3, hw, w1, w2, w3, w4, hO]
  · have hlt' : ¬ (k : Int) < l.length := by omega
    rw [List.take_of_length_le (by omega)] at hm
    unfold farO at hr
    rw [← hm] at hr
    by_cases h2 : 80 < l.length
    · have h2' : (80 : Int) < l.length := by omega
      repeat' first | (refine hK _ ?_; clear hK) | (refine hK _ _ ?_; clear hK) | (clear hK; refine hK _ ?_; clear hK) | (clear hK; clear hK; refine hK _ ?_; clear hK) | (clear hK; clear hK; clear hK; refine hK _ ?_; clear hK) | (clear hK; clear hK; clear hK; clear hK; refine hK _ ?_; clear hK) | (refine wSeq fun K hK => ?_) | ((first | refine wReg ?_ | refine wDrwQ rfl (by kernel_rfl) ?_ | refine wDrwI ?_ | refine wDrw (by kernel_rfl) ?_); simp only [List.map_cons, List.map_nil, strip]) | ((first | refine wIs fun K hK => ?_ | refine wOs fun K hK => ?_ | refine wQs fun K hK => ?_ | refine CallK_plain ?_ | refine CallQ_plain ?_ | refine CallR_plain ?_ | refine wCond ?_); simp [g0, g4, g3, hlt, hlt', h2, h2']) | (refine wIn ?_; refine And.intro (by kernel_rfl) ?_; try simp only [thenA_n]) | (first | refine wBlock ?_ | refine wScope ?_) | ((first | refine wRet ?_ | refine wExit ?_ | refine wSkip ?_); try simp) | ((first | refine wLabel ?_ | refine wOn ?_ | refine wQn ?_); try simp only [thenA_n])
      all_goals apply hr
      all_goals simp [Try.f8, h2]
    · have h2' : ¬ (80 : Int) < l.length := by omega
      by_cases h3 : 5000 < m
      · have h3' : (5000 : Int) < m := by omega
        repeat' first | (refine hK _ ?_; clear hK) | (refine hK _ _ ?_; clear hK) | (clear hK; refine hK _ ?_; clear hK) | (clear hK; clear hK; refine hK _ ?_; clear hK) | (clear hK; clear hK; clear hK; refine hK _ ?_; clear hK) | (clear hK; clear hK; clear hK; clear hK; refine hK _ ?_; clear hK) | (refine wSeq fun K hK => ?_) | ((first | refine wReg ?_ | refine wDrwQ rfl (by kernel_rfl) ?_ | refine wDrwI ?_ | refine wDrw (by kernel_rfl) ?_); simp only [List.map_cons, List.map_nil, strip]) | ((first | refine wIs fun K hK => ?_ | refine wOs fun K hK => ?_ | refine wQs fun K hK => ?_ | refine CallK_plain ?_ | refine CallQ_plain ?_ | refine CallR_plain ?_ | refine wCond ?_); simp [g0, g4, g3, hlt, hlt', h2, h2', h3, h3']) | (refine wIn ?_; refine And.intro (by kernel_rfl) ?_; try simp only [thenA_n]) | (first | refine wBlock ?_ | refine wScope ?_) | ((first | refine wRet ?_ | refine wExit ?_ | refine wSkip ?_); try simp) | ((first | refine wLabel ?_ | refine wOn ?_ | refine wQn ?_); try simp only [thenA_n])
        all_goals apply hr
        all_goals simp [Try.f8, h2, h3]
      · have h3' : ¬ (5000 : Int) < m := by omega
        repeat' first | (refine hK _ ?_; clear hK) | (refine hK _ _ ?_; clear hK) | (clear hK; refine hK _ ?_; clear hK) | (clear hK; clear hK; refine hK _ ?_; clear hK) | (clear hK; clear hK; clear hK; refine hK _ ?_; clear hK) | (clear hK; clear hK; clear hK; clear hK; refine hK _ ?_; clear hK) | (refine wSeq fun K hK => ?_) | ((first | refine wReg ?_ | refine wDrwQ rfl (by kernel_rfl) ?_ | refine wDrwI ?_ | refine wDrw (by kernel_rfl) ?_); simp only [List.map_cons, List.map_nil, strip]) | ((first | refine wIs fun K hK => ?_ | refine wOs fun K hK => ?_ | refine wQs fun K hK => ?_ | refine CallK_plain ?_ | refine CallQ_plain ?_ | refine CallR_plain ?_ | refine wCond ?_); simp [g0, g4, g3, hlt, hlt', h2, h2', h3, h3']) | (refine wIn ?_; refine And.intro (by kernel_rfl) ?_; try simp only [thenA_n]) | (first | refine wBlock ?_ | refine wScope ?_) | ((first | refine wRet ?_ | refine wExit ?_ | refine wSkip ?_); try simp) | ((first | refine wLabel ?_ | refine wOn ?_ | refine wQn ?_); try simp only [thenA_n])
        all_goals apply hr
        all_goals simp [Try.f8, h2, h3]
theorem farO_not {l : List Op13} (h : farO l = false) : l.length ≤ 80 ∧ szO l ≤ 5000 := by
  unfold farO at h
  simp only [Bool.or_eq_false_iff, decide_eq_false_iff_not] at h
  omega
theorem OkO.of {l : List Op13} (h : farO l = false) {o : Op13} (ho : o ∈ l) : OkO o := by
  have h1 := farO_not h
  have h2 := szO_mem ho
  unfold Op13.sz at h2
  exact ⟨by omega, by omega, by omega, by omega⟩
/-! ### What comes in -/
def KB (c : Nat) : Nat := if c = 6 then 96 else 1
theorem KB1 : KB 1 = 1 := rfl
theorem KB6 : KB 6 = 96 := rfl
theorem hpos : PosK Try.T KB := by
  intro t yt e y h hk hy hs
  unfold Try.T at h
  split at h
  all_goals first | (cases h; done) | (cases h; cases hk; done) | (cases h; cases hk; cases hy; done) | (cases h; cases hk; cases hy; first | exact of_decide_eq_true (by kernel_rfl) | (simp at hs; done))
abbrev LOp : List Lf := [.int .i64, .str, .str, .sl [.int .u8], .int .i64, .sl [.int .i64]]
theorem u8_of {ps : List PV} (h : ShL [.int .u8] ps) : ∃ b, ps = dcell b := by
  obtain ⟨_, _, rfl, h0, h⟩ := h.cons
  obtain rfl := h.nil
  obtain ⟨n, rfl, hn⟩ := h0.intI
  simp only [Lit.wf, Bool.and_eq_true, decide_eq_true_eq] at hn
  have h1 : IntKind.u8.min = 0 := by decide
  have h2 : IntKind.u8.max = 255 := by decide
  refine ⟨UInt8.ofNat n.toNat, ?_⟩
  unfold dcell
  rw [UInt8.toNat_ofNat_of_lt' (by simp; omega), Int.toNat_of_nonneg (by omega)]
theorem int_of {ps : List PV} (h : ShL [.int .i64] ps) : ∃ n, ps = [I n] := by
  obtain ⟨_, _, rfl, h0, h⟩ := h.cons
  obtain rfl := h.nil
  obtain ⟨n, rfl, -⟩ := h0.intI
  exact ⟨n, rfl⟩
theorem Op13.ofL {ps : List PV} (h : ShL LOp ps) : ∃ o : Op13, o.n ≤ 9223372036854775807 ∧ ps = o.cells := by
  obtain ⟨_, _, rfl, h0, h⟩ := h.cons
  obtain ⟨_, _, rfl, h1, h⟩ := h.cons
  obtain ⟨_, _, rfl, h2, h⟩ := h.cons
  obtain ⟨_, _, rfl, h3, h⟩ := h.cons
  obtain ⟨_, _, rfl, h4, h⟩ := h.cons
  obtain ⟨_, _, rfl, h5, h⟩ := h.cons
  obtain rfl := h.nil
  obtain ⟨_, rfl, -⟩ := h0.intI
  obtain ⟨s1, rfl, -⟩ := h1.strI
  obtain ⟨s2, rfl, -⟩ := h2.strI
  obtain ⟨p, rfl⟩ := h3.slI (f := dcell) fun ps h => u8_of h
  obtain ⟨n, rfl, hn⟩ := h4.intI
  obtain ⟨ks, rfl⟩ := h5.slI (f := fun n : Int => [I n]) fun ps h => int_of h
  simp only [Lit.wf, Bool.and_eq_true, decide_eq_true_eq] at hn
  have h2 : IntKind.i64.max = 9223372036854775807 := by decide
  exact ⟨⟨_, s1.data.toList, s2.data.toList, p, n, ks⟩, by simp only; omega, rfl⟩
/-- An operation whose number is one. -/
structure OpN where
  (o : Op13)
  (h : o.n ≤ 9223372036854775807)
theorem OpN.all (l : List OpN) : ∀ o ∈ l.map OpN.o, o.n ≤ 9223372036854775807 := fun o ho => by
  obtain ⟨x, -, rfl⟩ := List.mem_map.1 ho
  exact x.h
theorem ops13_open {p : PV} (hp : ShT Try.T 22 p) : ∃ l : List Op13, (∀ o ∈ l, o.n ≤ 9223372036854775807) ∧ p = .sl 6 (ops13 l) := by
  obtain ⟨l, h⟩ := (hp.one (f := .sl LOp) rfl rfl rfl).slI (f := fun x : OpN => x.o.cells) fun ps h => by
    obtain ⟨o, h1, h2⟩ := Op13.ofL h
    exact ⟨⟨o, h1⟩, h2⟩
  refine ⟨l.map OpN.o, OpN.all l, ?_⟩
  rw [h]
  unfold ops13
  rw [List.map_map]
  rfl
theorem op13_open {p : PV} (hp : ShT Try.T 32 p) : ∃ o : Op13, o.n ≤ 9223372036854775807 ∧ p = .agg o.cells := by
  obtain ⟨ps, rfl, h⟩ := hp.agg (E := LOp) rfl rfl rfl
  obtain ⟨o, h1, rfl⟩ := Op13.ofL h
  exact ⟨o, h1, rfl⟩
theorem ints_open {p : PV} (hp : ShT Try.T 30 p) : ∃ l, p = .sl 1 (ints l) :=
  (hp.one (f := .sl [.int .i64]) rfl rfl rfl).slI (f := fun n : Int => [I n]) fun ps h => int_of h
theorem OkS.of {o : Op13} (hn : o.n ≤ 9223372036854775807) (h : ∀ p ∈ o.cells, SzI KB reachBytes p) : OkS o := by
  have hr : reachBytes = 140737488351232 := rfl
  have h1 := (h (SB o.a) (by simp [Op13.cells])).str
  have h2 := (h (SB o.b) (by simp [Op13.cells])).str
  have h3 := (h (.sl 1 (by8 o.p)) (by simp [Op13.cells])).len
  have h4 := (h (.sl 1 (ints o.ks)) (by simp [Op13.cells])).len
  have e1 : (bs o.a).size = o.a.length := by simp
  have e2 : (bs o.b).size = o.b.length := by simp
  rw [ints_len] at h4
  rw [by8_len] at h3
  rw [KB1] at h3 h4
  exact ⟨by omega, by omega, by omega, by omega, hn⟩
theorem OkS.ofL {l : List Op13} (hn : ∀ o ∈ l, o.n ≤ 9223372036854775807) (h : SzI KB reachBytes (.sl 6 (ops13 l))) : ∀ o ∈ l, OkS o := fun o ho =>
  .of (hn o ho) fun p hp => h.at (e := o.cells) (List.mem_map.2 ⟨o, ho, rfl⟩) hp
theorem ops_len63 {l : List Op13} (h : SzI KB reachBytes (.sl 6 (ops13 l))) : l.length ≤ 9223372036854775807 := by
  have := h.len
  rw [ops13_len] at this
  have hr : reachBytes = 140737488351232 := rfl
  rw [KB6] at this
  omega
end Go.Proofs.Ytijjfiebmdejaaa
