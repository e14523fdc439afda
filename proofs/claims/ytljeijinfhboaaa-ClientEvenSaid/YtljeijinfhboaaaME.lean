/- The law ClientEven. -/
import Derived.Test.YtljeijinfhboaaaMV
namespace Go.Proofs.Ytljeijinfhboaaa
set_option linter.unusedSimpArgs false
set_option linter.unusedVariables false
open Go Go.Av
attribute [local simp] Try.T1 Try.T2 Try.T3 Try.T4 Try.T5 Try.T9 Try.T12 Try.T21 Try.T23 Try.T24 Try.T26 Try.T27 Try.T29 Try.T30 Try.T31 Try.T32 Try.T33 Try.T34 Try.T35 Try.T36 Try.T38 Try.T39 Try.T41 Try.T43 Try.T44 Try.T45 Try.T46 Try.T47 Try.T48 Try.T49 Try.T50 Try.T51 Try.T52 Try.T53 Try.T54 Try.T55 Try.T56 Try.T57 Try.T58 Try.T59 Try.T60 Try.T61 Try.T62 Try.T63 Try.T64 Try.T66 Try.T67 Try.T68 Try.T69 Try.T70 Try.T71 Try.T72 Try.T73 Try.T75 Try.T77 Try.T78 Try.T79 Try.T81 Try.T83 Try.T84 Try.T86 Try.T88 Try.T89 Try.T91 Try.T93 Try.T94 Try.T95 Try.T96 Try.T97 Try.T98 Try.T99 Try.T100 Try.T102 Try.T104 Try.T105 Try.T106 Try.T107 Try.T108 Try.T109 Try.T110 Try.T111 Try.T112 Try.T113 Try.T115 Try.T116 Try.T117 Try.T118 Try.T119 Try.T120 Try.T121 Try.T122 Try.T123 Try.T124 Try.T126 Try.T127 Try.T128 Try.T134 Try.T135 Try.T138
attribute [local irreducible] Go.Av.CallK Go.Av.CallE Go.Av.CallQ Go.Av.CallF Go.Av.CallR Go.Av.CallH Go.Av.Con

def rngI (n : Nat) : List Int := (List.range n).map (fun (i : Nat) => (i : Int))
@[simp] theorem rngI_len (n : Nat) : (rngI n).length = n := by simp [rngI]
theorem rngI_get {n k : Nat} (h : k < (rngI n).length) : (rngI n)[k] = (k : Int) := by simp [rngI]
theorem rngI_succ (n : Nat) : rngI (n + 1) = rngI n ++ [(n : Int)] := by simp [rngI, List.range_succ]
theorem mem_rngI {n : Nat} {x : Int} : x ∈ rngI n ↔ 0 ≤ x ∧ x < n := by
  simp only [rngI, List.mem_map, List.mem_range]
  constructor
  · rintro ⟨a, h, rfl⟩; omega
  · intro h; exact ⟨x.toNat, by omega, by omega⟩
theorem newof_rng (n k : Nat) : newof (rngI n) (rngI (n + k)) = (List.range k).map fun (i : Nat) => ((n + i : Nat) : Int) := by
  induction k with
  | zero =>
    simp only [Nat.add_zero, List.range_zero, List.map_nil]
    unfold newof; rw [List.filter_eq_nil_iff]; intro x hx; simp [hx]
  | succ k ih =>
    rw [show n + (k + 1) = (n + k) + 1 by omega, rngI_succ]
    unfold newof at ih ⊢
    rw [List.filter_append, ih, List.range_succ, List.map_append]
    congr 1
    simp only [List.filter, mem_rngI]
    rw [decide_eq_true (by omega)]
    simp
theorem mv_rng (n L s d : Nat) (hn : n ≤ L) (hs : s < n) (hd : d < L) (hl : L ≤ 1000000) : mv (rngI n) (rngI L) (s : Int) (d : Int) = if d < n then (s : Int) else (d : Int) := by
  obtain ⟨k, rfl⟩ : ∃ k, L = n + k := ⟨L - n, by omega⟩
  have hn := newof_rng n k
  unfold mv
  rw [hn]
  simp only [rngI_len, List.length_map, List.length_range]
  rw [if_neg (by omega), if_pos ⟨mem_rngI.2 (by omega), mem_rngI.2 (by omega)⟩, mvk_small d (n + k) hd hl, Nat.add_sub_cancel]
  by_cases h : d < n
  · rw [if_pos h, if_pos h]
  · rw [if_neg h, if_neg h]
    have : d - n < k := by omega
    simp [List.getD_eq_getElem?_getD, this]
    omega
/-- How often each server was drawn, behind all draws of s clients and d of the next. -/
def gotAt (n s d j : Nat) : Int := if j < n then (if j < s then (n : Int) else if j = s then ((min d n : Nat) : Int) else 0) else (s : Int) + (if j < d then 1 else 0)
def got (n L s d : Nat) : List Int := (List.range L).map (gotAt n s d)
@[simp] theorem got_len (n L s d : Nat) : (got n L s d).length = L := by simp [got]
theorem got_get {n L s d j : Nat} (h : j < (got n L s d).length) : (got n L s d)[j] = gotAt n s d j := by simp [got]
theorem got_step (n L s d to : Nat) (hs : s < n) (hto : to = if d < n then s else d) : (got n L s d).set to (gotAt n s d to + 1) = got n L s (d + 1) := by
  apply List.ext_getElem
  · simp
  · intro j h1 h2
    rw [List.getElem_set, got_get h2]
    by_cases he : to = j
    · rw [if_pos he]
      subst he
      unfold gotAt
      by_cases hdn : d < n
      · rw [if_pos hdn] at hto
        subst hto
        rw [if_pos hs, if_neg (by omega), if_pos rfl, if_pos hs, if_neg (by omega), if_pos rfl]; omega
      · rw [if_neg hdn] at hto
        subst hto
        rw [if_neg hdn, if_neg (by omega), if_neg hdn, if_pos (by omega)]; omega
    · rw [if_neg he, got_get]
      unfold gotAt
      by_cases hdn : d < n
      · rw [if_pos hdn] at hto
        by_cases hj : j < n
        · rw [if_pos hj, if_pos hj]
          by_cases hjs : j < s
          · rw [if_pos hjs, if_pos hjs]
          · rw [if_neg hjs, if_neg hjs, if_neg (by omega), if_neg (by omega)]
        · rw [if_neg hj, if_neg hj, if_neg (by omega), if_neg (by omega)]
      · rw [if_neg hdn] at hto
        by_cases hj : j < n
        · rw [if_pos hj, if_pos hj, show min d n = min (d + 1) n by omega]
        · rw [if_neg hj, if_neg hj]
          by_cases hjd : j < d
          · rw [if_pos hjd, if_pos (by omega)]
          · rw [if_neg hjd, if_neg (by omega)]
theorem got_row (n L s : Nat) (hn : n ≤ L) (hs : s < n) : got n L s L = got n L (s + 1) 0 := by
  apply List.ext_getElem
  · simp
  · intro j h1 h2
    rw [got_get h1, got_get h2]
    simp only [got_len] at h1
    unfold gotAt
    by_cases hj : j < n
    · rw [if_pos hj, if_pos hj]
      by_cases hjs : j < s
      · rw [if_pos hjs, if_pos (by omega)]
      · by_cases hjs2 : j = s
        · rw [if_neg hjs, if_pos hjs2, if_pos (by omega), show min L n = n by omega]
        · rw [if_neg hjs, if_neg hjs2, if_neg (by omega)]
          split <;> simp
    · rw [if_neg hj, if_neg hj, if_pos (by omega), if_neg (by omega)]; omega
theorem got_zero (n L : Nat) : got n L 0 0 = List.replicate L 0 := by
  apply List.ext_getElem
  · simp
  · intro j h1 h2
    rw [got_get h1]
    simp [gotAt]
theorem got_end (n j : Nat) : gotAt n n 0 j = n := by
  unfold gotAt
  by_cases hj : j < n
  · rw [if_pos hj, if_pos hj]
  · rw [if_neg hj]; simp
theorem ints_rep (n : Nat) : List.replicate n [I 0] = ints (List.replicate n 0) := by simp [ints]
theorem ints_set (l : List Int) (j : Nat) (x : Int) : (ints l).set j [I x] = ints (l.set j x) := by simp [ints, List.map_set]

set_option maxHeartbeats 8000000 in
theorem clientEven_con (o m : Int) (ho : 0 ≤ o ∧ o < 256) (hm : 0 ≤ m ∧ m < 256) : ACon Try.prog 7 [.p (.v (.int .u8 o)), .p (.v (.int .u8 m))] (.p (B true)) := by
  have e1 : o.tmod 10 = o % 10 := Int.tmod_eq_emod_of_nonneg ho.1
  have e2 : m.tmod 10 = m % 10 := Int.tmod_eq_emod_of_nonneg hm.1
  obtain ⟨n, hn⟩ : ∃ n : Nat, (n : Int) = o % 10 + 1 := ⟨(o % 10 + 1).toNat, by omega⟩
  obtain ⟨k, hk⟩ : ∃ k : Nat, (k : Int) = m % 10 := ⟨(m % 10).toNat, by omega⟩
  obtain ⟨L, hL0⟩ : ∃ L : Nat, L = n + k := ⟨_, rfl⟩
  have hn1 : 1 ≤ n ∧ n ≤ 10 := by omega
  have hk1 : L ≤ 19 ∧ n ≤ L := by omega
  have e3 : IntKind.i64.wrap (o % 10) = o % 10 := wrap_id (by omega) (by omega)
  have e4 : IntKind.i64.wrap (m % 10) = k := by rw [wrap_id (by omega) (by omega)]; omega
  have e5 : IntKind.i64.wrap (o % 10 + 1) = n := by rw [wrap_id (by omega) (by omega)]; omega
  have e6 : IntKind.i64.wrap ((n : Int) + (k : Int)) = (L : Int) := by rw [wrap_id (by omega) (by omega)]; omega
  clear hn hk hL0
  refine wBody Try.tab Try.mixed Try.func7 rfl rfl Try.ntmps7 (by simp) (by simp) fun Q hr hn => ?_
  repeat' first | (refine hK _ ?_; clear hK) | (refine hK _ _ ?_; clear hK) | (clear hK; refine hK _ ?_; clear hK) | (clear hK; clear hK; refine hK _ ?_; clear hK) | (clear hK; clear hK; clear hK; refine hK _ ?_; clear hK) | (clear hK; clear hK; clear hK; clear hK; refine hK _ ?_; clear hK) | (refine wSeq fun K hK => ?_) | ((first | refine wReg ?_ | refine wDrwQ rfl (by kernel_rfl) ?_ | refine wDrwI ?_ | refine wDrw (by kernel_rfl) ?_); simp only [List.map_cons, List.map_nil, strip]) | ((first | refine wIs fun K hK => ?_ | refine wOs fun K hK => ?_ | refine wQs fun K hK => ?_ | refine CallK_plain ?_ | refine CallQ_plain ?_ | refine CallR_plain ?_ | refine wCond ?_); simp [e1, e2, e3, e4, e5, e6]) | (refine wIn ?_; refine And.intro (by kernel_rfl) ?_; try simp only [thenA_n]) | (first | refine wBlock ?_ | refine wScope ?_) | ((first | refine wRet ?_ | refine wExit ?_ | refine wSkip ?_); try simp) | ((first | refine wLabel ?_ | refine wOn ?_ | refine wQn ?_); try simp only [thenA_n])
  refine wLoopG [.row 7 3 1, .row 8 3 1] (fun N st => ∃ i, i + N = L ∧ st.s 5 = .p (I n) ∧ st.s 6 = .p (I k) ∧ st.s 7 = .row 7 ∧ st.s 8 = .row 8 ∧ st.s 26 = .p (I (L : Int)) ∧ st.s 27 = .p (I i) ∧
    st.b 7 = some (.row 3 1 (ints (rngI (min i n)))) ∧ st.b 8 = some (.row 3 1 (ints (rngI i)))) L ⟨0, by simp [rngI, ints]⟩ fun K N st hL ⟨i, hi, g5, g6, g7, g8, g26, g27, b7, b8⟩ => ?_
  by_cases hil : i < L
  · have hil' : (i : Int) < (L : Int) := by omega
    have hw : IntKind.i64.wrap ((i : Int) + 1) = ((i + 1 : Nat) : Int) := by rw [wrap_id (by omega) (by omega)]; omega
    have hx := ints_snoc (rngI i) i
    rw [← rngI_succ] at hx
    by_cases hin : i < n
    · have hin' : (i : Int) < (n : Int) := by omega
      rw [show min i n = i by omega] at b7
      have hmin : min (i + 1) n = i + 1 := by omega
      repeat' first | (refine And.intro (by omega) ?_) | (refine hK _ ?_; clear hK) | (refine hK _ _ ?_; clear hK) | (clear hK; refine hK _ ?_; clear hK) | (clear hK; clear hK; refine hK _ ?_; clear hK) | (clear hK; clear hK; clear hK; refine hK _ ?_; clear hK) | (clear hK; clear hK; clear hK; clear hK; refine hK _ ?_; clear hK) | (refine wSeq fun K hK => ?_) | ((first | refine wReg ?_ | refine wDrwQ rfl (by kernel_rfl) ?_ | refine wDrwI ?_ | refine wDrw (by kernel_rfl) ?_); simp only [List.map_cons, List.map_nil, strip]) | ((first | refine wIs fun K hK => ?_ | refine wOs fun K hK => ?_ | refine wQs fun K hK => ?_ | refine CallK_plain ?_ | refine CallQ_plain ?_ | refine CallR_plain ?_ | refine wCond ?_); simp [g5, g6, g7, g8, g26, g27, b7, b8, hil, hil', hw, hin, hin']) | (refine wIn ?_; refine And.intro (by kernel_rfl) ?_; try simp only [thenA_n]) | (first | refine wBlock ?_ | refine wScope ?_) | ((first | refine wRet ?_ | refine wExit ?_ | refine wSkip ?_); try simp) | ((first | refine wLabel ?_ | refine wOn ?_ | refine wQn ?_); try simp only [thenA_n])
      refine hL _ (N - 1) (by omega) ⟨i + 1, by omega, ?_⟩
      simp [g5, g6, g7, g8, g26, g27, b7, b8, hw, hx, hmin]
    · have hin' : ¬ (i : Int) < (n : Int) := by omega
      have hmin : min (i + 1) n = min i n := by omega
      repeat' first | (refine And.intro (by omega) ?_) | (refine hK _ ?_; clear hK) | (refine hK _ _ ?_; clear hK) | (clear hK; refine hK _ ?_; clear hK) | (clear hK; clear hK; refine hK _ ?_; clear hK) | (clear hK; clear hK; clear hK; refine hK _ ?_; clear hK) | (clear hK; clear hK; clear hK; clear hK; refine hK _ ?_; clear hK) | (refine wSeq fun K hK => ?_) | ((first | refine wReg ?_ | refine wDrwQ rfl (by kernel_rfl) ?_ | refine wDrwI ?_ | refine wDrw (by kernel_rfl) ?_); simp only [List.map_cons, List.map_nil, strip]) | ((first | refine wIs fun K hK => ?_ | refine wOs fun K hK => ?_ | refine wQs fun K hK => ?_ | refine CallK_plain ?_ | refine CallQ_plain ?_ | refine CallR_plain ?_ | refine wCond ?_); simp [g5, g6, g7, g8, g26, g27, b7, b8, hil, hil', hw, hin, hin']) | (refine wIn ?_; refine And.intro (by kernel_rfl) ?_; try simp only [thenA_n]) | (first | refine wBlock ?_ | refine wScope ?_) | ((first | refine wRet ?_ | refine wExit ?_ | refine wSkip ?_); try simp) | ((first | refine wLabel ?_ | refine wOn ?_ | refine wQn ?_); try simp only [thenA_n])
      refine hL _ (N - 1) (by omega) ⟨i + 1, by omega, ?_⟩
      simp [g5, g6, g7, g8, g26, g27, b7, b8, hw, hx, hmin]
  · have hiL : L = i := by omega
    subst hiL
    rw [show min L n = n by omega] at b7
    have hge : (L : Int) ≤ 9223372036854775807 := by omega
    repeat' first | (rw [if_pos ⟨by omega, by omega⟩]) | (rw [if_pos ⟨by omega, by omega, by omega, by omega⟩]) | (refine hK _ ?_; clear hK) | (refine hK _ _ ?_; clear hK) | (clear hK; refine hK _ ?_; clear hK) | (clear hK; clear hK; refine hK _ ?_; clear hK) | (clear hK; clear hK; clear hK; refine hK _ ?_; clear hK) | (clear hK; clear hK; clear hK; clear hK; refine hK _ ?_; clear hK) | (refine wSeq fun K hK => ?_) | ((first | refine wReg ?_ | refine wDrwQ rfl (by kernel_rfl) ?_ | refine wDrwI ?_ | refine wDrw (by kernel_rfl) ?_); simp only [List.map_cons, List.map_nil, strip]) | ((first | refine wIs fun K hK => ?_ | refine wOs fun K hK => ?_ | refine wQs fun K hK => ?_ | refine CallK_plain ?_ | refine CallQ_plain ?_ | refine CallR_plain ?_ | refine wCond ?_); simp [g5, g6, g7, g8, g26, g27, b7, b8, e6]) | (refine wIn ?_; refine And.intro (by kernel_rfl) ?_; try simp only [thenA_n]) | (first | refine wBlock ?_ | refine wScope ?_) | ((first | refine wRet ?_ | refine wExit ?_ | refine wSkip ?_); try simp) | ((first | refine wLabel ?_ | refine wOn ?_ | refine wQn ?_); try simp only [thenA_n])
    refine wLoopG [.frz 7, .frz 8] (fun N st => ∃ s, s + N = n ∧ st.s 5 = .p (I n) ∧ st.s 6 = .p (I k) ∧ st.s 7 = .p (.sl 1 (ints (rngI n))) ∧ st.s 8 = .p (.sl 1 (ints (rngI L))) ∧ st.s 10 = .row 45 ∧ st.s 46 = .p (.sl 1 (ints (rngI n))) ∧ st.s 47 = .p (I n) ∧ st.s 48 = .p (I s) ∧
      st.b 45 = some (.row 3 1 (ints (got n L s 0)))) n ⟨0, by simp [g5, g6, g7, g8, b7, b8, got_zero, ints_rep]⟩ fun K N2 st hL2 ⟨s, hs, g5, g6, g7, g8, g10, g46, g47, g48, b45⟩ => ?_
    by_cases hsl : s < n
    · have hsl' : (s : Int) < (n : Int) := by omega
      have hws : IntKind.i64.wrap ((s : Int) + 1) = ((s + 1 : Nat) : Int) := by rw [wrap_id (by omega) (by omega)]; omega
      have hes : (ints (rngI n))[s]? = some [I s] := by rw [ints_get (by simpa using hsl), rngI_get]
      have hes2 : (ints (rngI n))[s]'(by simpa using hsl) = [I s] := by rw [ints_getElem, rngI_get]
      have hes3 : (rngI n)[s]'(by simpa using hsl) = (s : Int) := rngI_get _
      repeat' first | (refine hK _ ?_; clear hK) | (refine hK _ _ ?_; clear hK) | (clear hK; refine hK _ ?_; clear hK) | (clear hK; clear hK; refine hK _ ?_; clear hK) | (clear hK; clear hK; clear hK; refine hK _ ?_; clear hK) | (clear hK; clear hK; clear hK; clear hK; refine hK _ ?_; clear hK) | (refine wSeq fun K hK => ?_) | ((first | refine wReg ?_ | refine wDrwQ rfl (by kernel_rfl) ?_ | refine wDrwI ?_ | refine wDrw (by kernel_rfl) ?_); simp only [List.map_cons, List.map_nil, strip]) | ((first | refine wIs fun K hK => ?_ | refine wOs fun K hK => ?_ | refine wQs fun K hK => ?_ | refine CallK_plain ?_ | refine CallQ_plain ?_ | refine CallR_plain ?_ | refine wCond ?_); simp [g5, g6, g7, g8, g10, g46, g47, g48, b45, e6, hsl, hsl', hes, hes2, hes3]) | (refine wIn ?_; refine And.intro (by kernel_rfl) ?_; try simp only [thenA_n]) | (first | refine wBlock ?_ | refine wScope ?_) | ((first | refine wRet ?_ | refine wExit ?_ | refine wSkip ?_); try simp) | ((first | refine wLabel ?_ | refine wOn ?_ | refine wQn ?_); try simp only [thenA_n])
      refine wLoop (fun N st => ∃ d, d + N = L ∧ st.s 5 = .p (I n) ∧ st.s 6 = .p (I k) ∧ st.s 7 = .p (.sl 1 (ints (rngI n))) ∧ st.s 8 = .p (.sl 1 (ints (rngI L))) ∧ st.s 10 = .row 45 ∧ st.s 46 = .p (.sl 1 (ints (rngI n))) ∧ st.s 47 = .p (I n) ∧ st.s 48 = .p (I s) ∧
        st.b 45 = some (.row 3 1 (ints (got n L s d))) ∧ st.s 12 = .p (I s) ∧ st.s 54 = .p (I (L : Int)) ∧ st.s 55 = .p (I d)) L ⟨0, by simp [g5, g6, g7, g8, g10, g46, g47, g48, b45, hes3]⟩ fun K M st hM ⟨d, hd, g5, g6, g7, g8, g10, g46, g47, g48, b45, g12, g54, g55⟩ => ?_
      by_cases hdl : d < L
      · have hdl' : (d : Int) < (L : Int) := by omega
        have hwd : IntKind.i64.wrap ((d : Int) + 1) = ((d + 1 : Nat) : Int) := by rw [wrap_id (by omega) (by omega)]; omega
        have c := move_con (rngI n) (rngI L) s d (by simp; omega)
        rw [mv_rng n L s d hk1.2 hsl hdl (by omega)] at c
        obtain ⟨to, hto⟩ : ∃ to : Nat, to = if d < n then s else d := ⟨_, rfl⟩
        have hto' : (if d < n then (s : Int) else (d : Int)) = (to : Int) := by rw [hto]; split <;> rfl
        rw [hto'] at c
        have hst := got_step n L s d to hsl hto
        have ht1 : to < L := by rw [hto]; split <;> omega
        have ht2 : ¬ (to : Int) < 0 := by omega
        have ht3 : ¬ (L : Int) ≤ (to : Int) := by omega
        have ht4 : (to : Int) < (n : Int) → (to : Int) = (s : Int) := by rw [hto]; split <;> omega
        have hgt : (got n L s d)[to]'(by simpa using ht1) = gotAt n s d to := got_get _
        have hge : (ints (got n L s d))[to]? = some [I (gotAt n s d to)] := by rw [ints_get (by simpa using ht1), hgt]
        have hb1 : gotAt n s d to ≤ 100 ∧ 0 ≤ gotAt n s d to := by unfold gotAt; (repeat' split) <;> omega
        have hwg : IntKind.i64.wrap (gotAt n s d to + 1) = gotAt n s d to + 1 := wrap_id (by omega) (by omega)
        have hst2 := ints_set (got n L s d) to (gotAt n s d to + 1)
        rw [hst] at hst2
        by_cases hts : (to : Int) < (n : Int)
        · have hts3 : to = s := by have := ht4 hts; omega
          subst hts3
          repeat' first | (refine hK _ ?_; clear hK) | (refine hK _ _ ?_; clear hK) | (clear hK; refine hK _ ?_; clear hK) | (clear hK; clear hK; refine hK _ ?_; clear hK) | (clear hK; clear hK; clear hK; refine hK _ ?_; clear hK) | (clear hK; clear hK; clear hK; clear hK; refine hK _ ?_; clear hK) | (refine wSeq fun K hK => ?_) | ((first | refine wReg ?_ | refine wDrwQ rfl (by kernel_rfl) ?_ | refine wDrwI ?_ | refine wDrw (by kernel_rfl) ?_); simp only [List.map_cons, List.map_nil, strip]) | ((first | refine wIs fun K hK => ?_ | refine wOs fun K hK => ?_ | refine wQs fun K hK => ?_ | refine CallK_plain ?_ | refine CallQ_plain ?_ | refine CallR_plain ?_ | refine wCond ?_); simp [g5, g6, g7, g8, g10, g46, g47, g48, b45, g12, g54, g55, e6, hdl, hdl', hwd, ht1, ht2, ht3, hts, hge, hgt, hwg]) | (refine wIn ?_; refine And.intro (by kernel_rfl) ?_; try simp only [thenA_n]) | (first | refine wBlock ?_ | refine wScope ?_) | ((first | refine wRet ?_ | refine wExit ?_ | refine wSkip ?_); try simp) | ((first | refine wLabel ?_ | refine wOn ?_ | refine wQn ?_); try simp only [thenA_n]) | (refine CallE.pure (c) rfl ?_) | (refine CallE.lent (c) rfl ?_) | (refine CallF.pure (c) rfl ?_) | (refine CallF.lent (c) rfl ?_) | (refine CallE.own (c) ?_) | (refine CallH.pure (c) rfl ?_) | (refine CallH.lent (c) rfl ?_) | (refine CallH.own (c) ?_)
          refine hM _ (M - 1) (by omega) ⟨d + 1, by omega, ?_⟩
          simp [g5, g6, g7, g8, g10, g46, g47, g48, b45, g12, g54, g55, hwd, hst2]
        · repeat' first | (refine hK _ ?_; clear hK) | (refine hK _ _ ?_; clear hK) | (clear hK; refine hK _ ?_; clear hK) | (clear hK; clear hK; refine hK _ ?_; clear hK) | (clear hK; clear hK; clear hK; refine hK _ ?_; clear hK) | (clear hK; clear hK; clear hK; clear hK; refine hK _ ?_; clear hK) | (refine wSeq fun K hK => ?_) | ((first | refine wReg ?_ | refine wDrwQ rfl (by kernel_rfl) ?_ | refine wDrwI ?_ | refine wDrw (by kernel_rfl) ?_); simp only [List.map_cons, List.map_nil, strip]) | ((first | refine wIs fun K hK => ?_ | refine wOs fun K hK => ?_ | refine wQs fun K hK => ?_ | refine CallK_plain ?_ | refine CallQ_plain ?_ | refine CallR_plain ?_ | refine wCond ?_); simp [g5, g6, g7, g8, g10, g46, g47, g48, b45, g12, g54, g55, e6, hdl, hdl', hwd, ht1, ht2, ht3, hts, hge, hgt, hwg]) | (refine wIn ?_; refine And.intro (by kernel_rfl) ?_; try simp only [thenA_n]) | (first | refine wBlock ?_ | refine wScope ?_) | ((first | refine wRet ?_ | refine wExit ?_ | refine wSkip ?_); try simp) | ((first | refine wLabel ?_ | refine wOn ?_ | refine wQn ?_); try simp only [thenA_n]) | (refine CallE.pure (c) rfl ?_) | (refine CallE.lent (c) rfl ?_) | (refine CallF.pure (c) rfl ?_) | (refine CallF.lent (c) rfl ?_) | (refine CallE.own (c) ?_) | (refine CallH.pure (c) rfl ?_) | (refine CallH.lent (c) rfl ?_) | (refine CallH.own (c) ?_)
          refine hM _ (M - 1) (by omega) ⟨d + 1, by omega, ?_⟩
          simp [g5, g6, g7, g8, g10, g46, g47, g48, b45, g12, g54, g55, hwd, hst2]
      · have hdL : L = d := by omega
        subst hdL
        rw [got_row n _ s hk1.2 hsl] at b45
        repeat' first | (refine hK _ ?_; clear hK) | (refine hK _ _ ?_; clear hK) | (clear hK; refine hK _ ?_; clear hK) | (clear hK; clear hK; refine hK _ ?_; clear hK) | (clear hK; clear hK; clear hK; refine hK _ ?_; clear hK) | (clear hK; clear hK; clear hK; clear hK; refine hK _ ?_; clear hK) | (refine wSeq fun K hK => ?_) | ((first | refine wReg ?_ | refine wDrwQ rfl (by kernel_rfl) ?_ | refine wDrwI ?_ | refine wDrw (by kernel_rfl) ?_); simp only [List.map_cons, List.map_nil, strip]) | ((first | refine wIs fun K hK => ?_ | refine wOs fun K hK => ?_ | refine wQs fun K hK => ?_ | refine CallK_plain ?_ | refine CallQ_plain ?_ | refine CallR_plain ?_ | refine wCond ?_); simp [g5, g6, g7, g8, g10, g46, g47, g48, b45, g12, g54, g55, hws]) | (refine wIn ?_; refine And.intro (by kernel_rfl) ?_; try simp only [thenA_n]) | (first | refine wBlock ?_ | refine wScope ?_) | ((first | refine wRet ?_ | refine wExit ?_ | refine wSkip ?_); try simp) | ((first | refine wLabel ?_ | refine wOn ?_ | refine wQn ?_); try simp only [thenA_n])
        refine hL2 _ (N2 - 1) (by omega) ⟨s + 1, by omega, ?_⟩
        simp [g5, g6, g7, g8, g10, g46, g47, g48, b45, hws]
    · obtain rfl : s = n := by omega
      repeat' first | (refine hK _ ?_; clear hK) | (refine hK _ _ ?_; clear hK) | (clear hK; refine hK _ ?_; clear hK) | (clear hK; clear hK; refine hK _ ?_; clear hK) | (clear hK; clear hK; clear hK; refine hK _ ?_; clear hK) | (clear hK; clear hK; clear hK; clear hK; refine hK _ ?_; clear hK) | (refine wSeq fun K hK => ?_) | ((first | refine wReg ?_ | refine wDrwQ rfl (by kernel_rfl) ?_ | refine wDrwI ?_ | refine wDrw (by kernel_rfl) ?_); simp only [List.map_cons, List.map_nil, strip]) | ((first | refine wIs fun K hK => ?_ | refine wOs fun K hK => ?_ | refine wQs fun K hK => ?_ | refine CallK_plain ?_ | refine CallQ_plain ?_ | refine CallR_plain ?_ | refine wCond ?_); simp [g5, g6, g7, g8, g10, g46, g47, g48, b45]) | (refine wIn ?_; refine And.intro (by kernel_rfl) ?_; try simp only [thenA_n]) | (first | refine wBlock ?_ | refine wScope ?_) | ((first | refine wRet ?_ | refine wExit ?_ | refine wSkip ?_); try simp) | ((first | refine wLabel ?_ | refine wOn ?_ | refine wQn ?_); try simp only [thenA_n])
      refine wLoopG [.frz 45] (fun N st => ∃ j, j + N = L ∧ st.s 5 = .p (I s) ∧ st.s 90 = .p (.sl 1 (ints (got s L s 0))) ∧ st.s 91 = .p (I (L : Int)) ∧ st.s 92 = .p (I j)) L ⟨0, by simp [g5, g10, b45]⟩ fun K M st hM ⟨j, hj, g5, g90, g91, g92⟩ => ?_
      by_cases hjl : j < L
      · have hjl' : (j : Int) < (L : Int) := by omega
        have hwj : IntKind.i64.wrap ((j : Int) + 1) = ((j + 1 : Nat) : Int) := by rw [wrap_id (by omega) (by omega)]; omega
        have hgt : (got s L s 0)[j]'(by simpa using hjl) = (s : Int) := by rw [got_get, got_end]
        have hge : (ints (got s L s 0))[j]? = some [I s] := by rw [ints_get (by simpa using hjl), hgt]
        repeat' first | (refine hK _ ?_; clear hK) | (refine hK _ _ ?_; clear hK) | (clear hK; refine hK _ ?_; clear hK) | (clear hK; clear hK; refine hK _ ?_; clear hK) | (clear hK; clear hK; clear hK; refine hK _ ?_; clear hK) | (clear hK; clear hK; clear hK; clear hK; refine hK _ ?_; clear hK) | (refine wSeq fun K hK => ?_) | ((first | refine wReg ?_ | refine wDrwQ rfl (by kernel_rfl) ?_ | refine wDrwI ?_ | refine wDrw (by kernel_rfl) ?_); simp only [List.map_cons, List.map_nil, strip]) | ((first | refine wIs fun K hK => ?_ | refine wOs fun K hK => ?_ | refine wQs fun K hK => ?_ | refine CallK_plain ?_ | refine CallQ_plain ?_ | refine CallR_plain ?_ | refine wCond ?_); simp [g5, g90, g91, g92, hjl, hjl', hwj, hge, hgt]) | (refine wIn ?_; refine And.intro (by kernel_rfl) ?_; try simp only [thenA_n]) | (first | refine wBlock ?_ | refine wScope ?_) | ((first | refine wRet ?_ | refine wExit ?_ | refine wSkip ?_); try simp) | ((first | refine wLabel ?_ | refine wOn ?_ | refine wQn ?_); try simp only [thenA_n])
        refine hM _ (M - 1) (by omega) ⟨j + 1, by omega, ?_⟩
        simp [g5, g90, g91, g92, hwj]
      · have hjl' : ¬ (j : Int) < (L : Int) := by omega
        repeat' first | (refine hK _ ?_; clear hK) | (refine hK _ _ ?_; clear hK) | (clear hK; refine hK _ ?_; clear hK) | (clear hK; clear hK; refine hK _ ?_; clear hK) | (clear hK; clear hK; clear hK; refine hK _ ?_; clear hK) | (clear hK; clear hK; clear hK; clear hK; refine hK _ ?_; clear hK) | (refine wSeq fun K hK => ?_) | ((first | refine wReg ?_ | refine wDrwQ rfl (by kernel_rfl) ?_ | refine wDrwI ?_ | refine wDrw (by kernel_rfl) ?_); simp only [List.map_cons, List.map_nil, strip]) | ((first | refine wIs fun K hK => ?_ | refine wOs fun K hK => ?_ | refine wQs fun K hK => ?_ | refine CallK_plain ?_ | refine CallQ_plain ?_ | refine CallR_plain ?_ | refine wCond ?_); simp [g5, g90, g91, g92, hjl, hjl']) | (refine wIn ?_; refine And.intro (by kernel_rfl) ?_; try simp only [thenA_n]) | (first | refine wBlock ?_ | refine wScope ?_) | ((first | refine wRet ?_ | refine wExit ?_ | refine wSkip ?_); try simp) | ((first | refine wLabel ?_ | refine wOn ?_ | refine wQn ?_); try simp only [thenA_n]) | (refine CallE.pure (awake26) rfl ?_) | (refine CallE.lent (awake26) rfl ?_) | (refine CallF.pure (awake26) rfl ?_) | (refine CallF.lent (awake26) rfl ?_) | (refine CallE.own (awake26) ?_) | (refine CallH.pure (awake26) rfl ?_) | (refine CallH.lent (awake26) rfl ?_) | (refine CallH.own (awake26) ?_)
        all_goals apply hr
        all_goals simp [Try.f7]
end Go.Proofs.Ytljeijinfhboaaa
