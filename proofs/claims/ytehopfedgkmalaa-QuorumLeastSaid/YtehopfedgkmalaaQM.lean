/- The smallest quorum: the program's answer and the document's; the law QuorumLeast. -/
import Derived.Test.YtehopfedgkmalaaQL
import Derived.Test.YtehopfedgkmalaaQK
namespace Go.Proofs.Ytehopfedgkmalaa
set_option linter.unusedSimpArgs false
set_option linter.unusedVariables false
open Go Go.Av
attribute [local simp] Try.T
attribute [local irreducible] Go.Av.CallK Go.Av.CallE Go.Av.CallQ Go.Av.CallF Go.Av.Con

theorem pow_u64 : ∀ n : Nat, n < 9 → IntKind.u64.wrap (2 ^ min n IntKind.u64.bits) = ((2 ^ n : Nat) : Int) := by decide +kernel
theorem pow_i64 : ∀ n : Nat, n < 9 → IntKind.i64.wrap (2 ^ min n IntKind.i64.bits) = ((2 ^ n : Nat) : Int) := by decide +kernel
theorem pow_le : ∀ n : Nat, n < 9 → 2 ^ n ≤ 256 := by decide +kernel
theorem suc_u64 : ∀ k : Nat, k < 256 → IntKind.u64.wrap ((k : Int) + 1) = ((k + 1 : Nat) : Int) := by decide +kernel
theorem id_u64 : ∀ k : Nat, k < 256 → IntKind.u64.wrap (k : Int) = (k : Int) := by decide +kernel
theorem popN_8 : ∀ n : Nat, n < 9 → ∀ k : Nat, k < 256 → k < 2 ^ n → popN 8 k = popN n k := by decide +kernel
theorem ones_bit : ∀ n : Nat, n < 9 → ∀ j : Nat, j < 8 → j < n → (2 ^ n - 1).testBit j = true := by decide +kernel

def leastP (n : Nat) (Q : Nat → Bool) : Nat → Int
  | 0 => n
  | k + 1 => if (popN n k : Int) < leastP n Q k ∧ Q k = true then (popN n k : Int) else leastP n Q k
def refP (n : Nat) (Q : Nat → Bool) : Nat → Int
  | 0 => -1
  | k + 1 => if Q k = true ∧ (refP n Q k < 0 ∨ (popN n k : Int) < refP n Q k) then (popN n k : Int) else refP n Q k
theorem ref_least (n : Nat) (Q : Nat → Bool) : ∀ k, (refP n Q k < 0 → leastP n Q k = n ∧ ∀ j, j < k → Q j = false) ∧ (0 ≤ refP n Q k → leastP n Q k = refP n Q k)
  | 0 => by simp [refP, leastP]
  | k + 1 => by
    obtain ⟨h1, h2⟩ := ref_least n Q k
    have hp := popN_le k n
    simp only [refP, leastP]
    cases hq : Q k with
    | false =>
      simp only [Bool.false_eq_true, and_false, false_and, if_false]
      refine ⟨fun h => ⟨(h1 h).1, fun j hj => ?_⟩, h2⟩
      by_cases e : j = k
      · rw [e]; exact hq
      · exact (h1 h).2 j (by omega)
    | true =>
      simp only [and_true, true_and]
      by_cases hr : refP n Q k < 0
      · rw [if_pos (Or.inl hr), (h1 hr).1]
        refine ⟨fun h => by omega, fun _ => ?_⟩
        split <;> omega
      · rw [h2 (by omega)]
        by_cases hl : (popN n k : Int) < refP n Q k
        · rw [if_pos hl, if_pos (Or.inr hl)]; exact ⟨fun h => by omega, fun _ => rfl⟩
        · rw [if_neg hl, if_neg (by omega)]; exact ⟨fun h => by omega, fun _ => rfl⟩
theorem leastP_bound (n : Nat) (Q : Nat → Bool) : ∀ k, 0 ≤ leastP n Q k ∧ leastP n Q k ≤ n
  | 0 => by simp [leastP]
  | k + 1 => by
    have := leastP_bound n Q k
    have hp := popN_le k n
    simp only [leastP]; split <;> omega
theorem chs_take (m : Nat) (v : List Int) : ∀ k, k ≤ v.length → (∀ j, j < k → m.testBit j = true) → chs m v k = v.take k
  | 0, _, _ => by simp [chs]
  | k + 1, h, hb => by
    rw [chs, chs_take m v k (by omega) (fun j hj => hb j (by omega)), if_pos (hb k (by omega)), take_snoc _ k (by omega), show v.getD k 0 = v[k] by simp [List.getD, show k < v.length by omega]]
def qm (c : Cf) (v : List Int) (k : Nat) : Bool := isQ c (chs k v v.length)
def least (c : Cf) : Int := if check c = 0 ∧ (ids c.ms 1).length ≤ 8 then leastP (ids c.ms 1).length (qm c (ids c.ms 1)) (2 ^ (ids c.ms 1).length) else -1
theorem least_ref {c : Cf} (hc : check c = 0) (h8 : (ids c.ms 1).length ≤ 8) : leastP (ids c.ms 1).length (qm c (ids c.ms 1)) (2 ^ (ids c.ms 1).length) = refP (ids c.ms 1).length (qm c (ids c.ms 1)) (2 ^ (ids c.ms 1).length) := by
  have hw := whole_true hc
  generalize hv : ids c.ms 1 = v at hw h8 ⊢
  obtain ⟨h1, h2⟩ := ref_least v.length (qm c v) (2 ^ v.length)
  refine h2 (Int.not_lt.1 fun h => ?_)
  have hpos : 0 < 2 ^ v.length := Nat.two_pow_pos _
  have := (h1 h).2 (2 ^ v.length - 1) (by omega)
  unfold qm at this
  rw [chs_take _ v v.length (Nat.le_refl _) (fun j hj => ones_bit _ (by omega) j (by omega) hj), List.take_of_length_le (Nat.le_refl _), hw] at this
  simp at this

set_option maxHeartbeats 4000000 in
theorem least_con (c : Cf) (hl : c.ms.length ≤ 1000000) : ACon Try.prog 20 [.p (.agg c.cells)] (.p (I (least c))) := by
  have h1 := voters_con c hl
  have h2 := check_con c hl
  have h3 := fun s => is_con c s hl
  have hvl := ids_len c.ms 1
  unfold least
  generalize ids c.ms 1 = v at h1 hvl ⊢
  by_cases hc : check c = 0
  rotate_left
  · rw [if_neg (fun h => hc h.1)]
    generalize check c = y at h2 hc
    obtain ⟨ep, n, kind, l⟩ := c
    simp only [Cf.cells] at h1 h2 ⊢
    refine wBody Try.tab Try.mixed Try.func20 rfl rfl Try.ntmps20 (by simp) (by simp) fun Q hr hn => ?_
    repeat' first | (refine hK _ ?_; clear hK) | (clear hK; refine hK _ ?_; clear hK) | (clear hK; clear hK; refine hK _ ?_; clear hK) | (clear hK; clear hK; clear hK; refine hK _ ?_; clear hK) | (clear hK; clear hK; clear hK; clear hK; refine hK _ ?_; clear hK) | (refine wSeq fun K hK => ?_) | (refine wReg ?_; simp only [List.map_cons, List.map_nil, strip]) | (refine wDrw (by kernel_rfl) ?_; simp only [List.map_cons, List.map_nil, strip]) | (refine wOs fun K hK => ?_; simp [hc]) | (refine wQs fun K hK => ?_; simp [hc]) | (refine CallK_plain ?_; simp [hc]) | (refine CallQ_plain ?_; simp [hc]) | (refine wRet ?_; try simp) | (refine wCond ?_; simp [hc]) | (refine wBlock ?_) | (refine wExit ?_; try simp) | (refine wSkip ?_; try simp) | (refine wOn ?_; try simp only [thenA_n]) | (refine wQn ?_; try simp only [thenA_n]) | (refine CallE.pure (h1) rfl ?_) | (refine CallE.lent (h1) rfl ?_) | (refine CallF.pure (h1) rfl ?_) | (refine CallF.lent (h1) rfl ?_) | (refine CallE.own (h1) ?_) | (refine CallE.pure (h2) rfl ?_) | (refine CallE.lent (h2) rfl ?_) | (refine CallF.pure (h2) rfl ?_) | (refine CallF.lent (h2) rfl ?_) | (refine CallE.own (h2) ?_)
    all_goals apply hr
    all_goals simp [Try.f20]
  rw [hc] at h2
  by_cases h8 : v.length ≤ 8
  rotate_left
  · rw [if_neg (fun h => h8 h.2)]
    have h8' : 8 < v.length := by omega
    have h8i : (8 : Int) < v.length := by omega
    obtain ⟨ep, n, kind, l⟩ := c
    simp only [Cf.cells] at h1 h2 ⊢
    refine wBody Try.tab Try.mixed Try.func20 rfl rfl Try.ntmps20 (by simp) (by simp) fun Q hr hn => ?_
    repeat' first | (refine hK _ ?_; clear hK) | (clear hK; refine hK _ ?_; clear hK) | (clear hK; clear hK; refine hK _ ?_; clear hK) | (clear hK; clear hK; clear hK; refine hK _ ?_; clear hK) | (clear hK; clear hK; clear hK; clear hK; refine hK _ ?_; clear hK) | (refine wSeq fun K hK => ?_) | (refine wReg ?_; simp only [List.map_cons, List.map_nil, strip]) | (refine wDrw (by kernel_rfl) ?_; simp only [List.map_cons, List.map_nil, strip]) | (refine wOs fun K hK => ?_; simp [h8', h8i]) | (refine wQs fun K hK => ?_; simp [h8', h8i]) | (refine CallK_plain ?_; simp [h8', h8i]) | (refine CallQ_plain ?_; simp [h8', h8i]) | (refine wRet ?_; try simp) | (refine wCond ?_; simp [h8', h8i]) | (refine wBlock ?_) | (refine wExit ?_; try simp) | (refine wSkip ?_; try simp) | (refine wOn ?_; try simp only [thenA_n]) | (refine wQn ?_; try simp only [thenA_n]) | (refine CallE.pure (h1) rfl ?_) | (refine CallE.lent (h1) rfl ?_) | (refine CallF.pure (h1) rfl ?_) | (refine CallF.lent (h1) rfl ?_) | (refine CallE.own (h1) ?_) | (refine CallE.pure (h2) rfl ?_) | (refine CallE.lent (h2) rfl ?_) | (refine CallF.pure (h2) rfl ?_) | (refine CallF.lent (h2) rfl ?_) | (refine CallE.own (h2) ?_)
    all_goals apply hr
    all_goals simp [Try.f20]
  rw [if_pos ⟨hc, h8⟩]
  have h8' : ¬ 8 < v.length := by omega
  have h8i : ¬ (8 : Int) < v.length := by omega
  have hpw := pow_u64 v.length (by omega)
  have hM := pow_le v.length (by omega)
  have hp8 := popN_8 v.length (by omega)
  generalize hMe : 2 ^ v.length = M at hpw hM hp8 ⊢
  have hq : ∀ k, isQ c (chs k v v.length) = qm c v k := fun k => rfl
  generalize hqe : qm c v = W at hq ⊢
  obtain ⟨ep, n, kind, l⟩ := c
  simp only [Cf.cells] at h1 h2 h3 hvl hl ⊢
  refine wBody Try.tab Try.mixed Try.func20 rfl rfl Try.ntmps20 (by simp) (by simp) fun Q hr hn => ?_
  repeat' first | (refine hK _ ?_; clear hK) | (clear hK; refine hK _ ?_; clear hK) | (clear hK; clear hK; refine hK _ ?_; clear hK) | (clear hK; clear hK; clear hK; refine hK _ ?_; clear hK) | (clear hK; clear hK; clear hK; clear hK; refine hK _ ?_; clear hK) | (refine wSeq fun K hK => ?_) | (refine wReg ?_; simp only [List.map_cons, List.map_nil, strip]) | (refine wDrw (by kernel_rfl) ?_; simp only [List.map_cons, List.map_nil, strip]) | (refine wOs fun K hK => ?_; simp [h8', h8i, hpw]) | (refine wQs fun K hK => ?_; simp [h8', h8i, hpw]) | (refine CallK_plain ?_; simp [h8', h8i, hpw]) | (refine CallQ_plain ?_; simp [h8', h8i, hpw]) | (refine wRet ?_; try simp) | (refine wCond ?_; simp [h8', h8i, hpw]) | (refine wBlock ?_) | (refine wExit ?_; try simp) | (refine wSkip ?_; try simp) | (refine wOn ?_; try simp only [thenA_n]) | (refine wQn ?_; try simp only [thenA_n]) | (refine CallE.pure (h1) rfl ?_) | (refine CallE.lent (h1) rfl ?_) | (refine CallF.pure (h1) rfl ?_) | (refine CallF.lent (h1) rfl ?_) | (refine CallE.own (h1) ?_) | (refine CallE.pure (h2) rfl ?_) | (refine CallE.lent (h2) rfl ?_) | (refine CallF.pure (h2) rfl ?_) | (refine CallF.lent (h2) rfl ?_) | (refine CallE.own (h2) ?_)
  refine wLoop (fun N st => ∃ k, k + N = M ∧ st.s 1 = .ptr 1 0 ∧ st.b 1 = some (.box 29 [.p (I ep), .p (I n), .p (I kind), .p (.sl 4 (mbs l))]) ∧ st.s 3 = .p (.sl 1 (ints v)) ∧ st.s 4 = .p (I (leastP v.length W k)) ∧ st.s 21 = .p (U M) ∧ st.s 22 = .p (U k)) M ⟨0, by simp [leastP]⟩ fun K N st hL ⟨k, hk, g1, b1, g3, g4, g21, g22⟩ => ?_
  by_cases hlt : k < M
  · have hk2 : k < 256 := by omega
    have hw := suc_u64 k hk2
    have ho := ones_con k hk2
    rw [hp8 k hk2 hlt] at ho
    have hch := chosen_con v k hk2 h8
    have his := h3 (chs k v v.length)
    rw [hq] at his
    have hpl := popN_le k v.length
    by_cases q1 : (popN v.length k : Int) < leastP v.length W k
    · by_cases q2 : W k = true
      · rw [q2] at his
        have e : leastP v.length W (k + 1) = popN v.length k := by rw [leastP, if_pos ⟨q1, q2⟩]
        repeat' first | (refine hK _ ?_; clear hK) | (clear hK; refine hK _ ?_; clear hK) | (clear hK; clear hK; refine hK _ ?_; clear hK) | (clear hK; clear hK; clear hK; refine hK _ ?_; clear hK) | (clear hK; clear hK; clear hK; clear hK; refine hK _ ?_; clear hK) | (refine wSeq fun K hK => ?_) | (refine wReg ?_; simp only [List.map_cons, List.map_nil, strip]) | (refine wDrw (by kernel_rfl) ?_; simp only [List.map_cons, List.map_nil, strip]) | (refine wOs fun K hK => ?_; simp [g1, b1, g3, g4, g21, g22, hlt, hw, q1]) | (refine wQs fun K hK => ?_; simp [g1, b1, g3, g4, g21, g22, hlt, hw, q1]) | (refine CallK_plain ?_; simp [g1, b1, g3, g4, g21, g22, hlt, hw, q1]) | (refine CallQ_plain ?_; simp [g1, b1, g3, g4, g21, g22, hlt, hw, q1]) | (refine wRet ?_; try simp) | (refine wCond ?_; simp [g1, b1, g3, g4, g21, g22, hlt, hw, q1]) | (refine wBlock ?_) | (refine wExit ?_; try simp) | (refine wSkip ?_; try simp) | (refine wOn ?_; try simp only [thenA_n]) | (refine wQn ?_; try simp only [thenA_n]) | (refine CallE.pure (ho) rfl ?_) | (refine CallE.lent (ho) rfl ?_) | (refine CallF.pure (ho) rfl ?_) | (refine CallF.lent (ho) rfl ?_) | (refine CallE.own (ho) ?_) | (refine CallE.pure (hch) rfl ?_) | (refine CallE.lent (hch) rfl ?_) | (refine CallF.pure (hch) rfl ?_) | (refine CallF.lent (hch) rfl ?_) | (refine CallE.own (hch) ?_) | (refine CallE.pure (his) rfl ?_) | (refine CallE.lent (his) rfl ?_) | (refine CallF.pure (his) rfl ?_) | (refine CallF.lent (his) rfl ?_) | (refine CallE.own (his) ?_)
        refine hL _ (N - 1) (by omega) ⟨k + 1, by omega, ?_⟩
        simp [g1, b1, g3, g4, g21, hw, e]
      · have e : leastP v.length W (k + 1) = leastP v.length W k := by rw [leastP, if_neg (fun h => q2 h.2)]
        rw [Bool.not_eq_true] at q2
        rw [q2] at his
        repeat' first | (refine hK _ ?_; clear hK) | (clear hK; refine hK _ ?_; clear hK) | (clear hK; clear hK; refine hK _ ?_; clear hK) | (clear hK; clear hK; clear hK; refine hK _ ?_; clear hK) | (clear hK; clear hK; clear hK; clear hK; refine hK _ ?_; clear hK) | (refine wSeq fun K hK => ?_) | (refine wReg ?_; simp only [List.map_cons, List.map_nil, strip]) | (refine wDrw (by kernel_rfl) ?_; simp only [List.map_cons, List.map_nil, strip]) | (refine wOs fun K hK => ?_; simp [g1, b1, g3, g4, g21, g22, hlt, hw, q1]) | (refine wQs fun K hK => ?_; simp [g1, b1, g3, g4, g21, g22, hlt, hw, q1]) | (refine CallK_plain ?_; simp [g1, b1, g3, g4, g21, g22, hlt, hw, q1]) | (refine CallQ_plain ?_; simp [g1, b1, g3, g4, g21, g22, hlt, hw, q1]) | (refine wRet ?_; try simp) | (refine wCond ?_; simp [g1, b1, g3, g4, g21, g22, hlt, hw, q1]) | (refine wBlock ?_) | (refine wExit ?_; try simp) | (refine wSkip ?_; try simp) | (refine wOn ?_; try simp only [thenA_n]) | (refine wQn ?_; try simp only [thenA_n]) | (refine CallE.pure (ho) rfl ?_) | (refine CallE.lent (ho) rfl ?_) | (refine CallF.pure (ho) rfl ?_) | (refine CallF.lent (ho) rfl ?_) | (refine CallE.own (ho) ?_) | (refine CallE.pure (hch) rfl ?_) | (refine CallE.lent (hch) rfl ?_) | (refine CallF.pure (hch) rfl ?_) | (refine CallF.lent (hch) rfl ?_) | (refine CallE.own (hch) ?_) | (refine CallE.pure (his) rfl ?_) | (refine CallE.lent (his) rfl ?_) | (refine CallF.pure (his) rfl ?_) | (refine CallF.lent (his) rfl ?_) | (refine CallE.own (his) ?_)
        refine hL _ (N - 1) (by omega) ⟨k + 1, by omega, ?_⟩
        simp [g1, b1, g3, g4, g21, hw, e]
    · have e : leastP v.length W (k + 1) = leastP v.length W k := by rw [leastP, if_neg (fun h => q1 h.1)]
      repeat' first | (refine hK _ ?_; clear hK) | (clear hK; refine hK _ ?_; clear hK) | (clear hK; clear hK; refine hK _ ?_; clear hK) | (clear hK; clear hK; clear hK; refine hK _ ?_; clear hK) | (clear hK; clear hK; clear hK; clear hK; refine hK _ ?_; clear hK) | (refine wSeq fun K hK => ?_) | (refine wReg ?_; simp only [List.map_cons, List.map_nil, strip]) | (refine wDrw (by kernel_rfl) ?_; simp only [List.map_cons, List.map_nil, strip]) | (refine wOs fun K hK => ?_; simp [g1, b1, g3, g4, g21, g22, hlt, hw, q1]) | (refine wQs fun K hK => ?_; simp [g1, b1, g3, g4, g21, g22, hlt, hw, q1]) | (refine CallK_plain ?_; simp [g1, b1, g3, g4, g21, g22, hlt, hw, q1]) | (refine CallQ_plain ?_; simp [g1, b1, g3, g4, g21, g22, hlt, hw, q1]) | (refine wRet ?_; try simp) | (refine wCond ?_; simp [g1, b1, g3, g4, g21, g22, hlt, hw, q1]) | (refine wBlock ?_) | (refine wExit ?_; try simp) | (refine wSkip ?_; try simp) | (refine wOn ?_; try simp only [thenA_n]) | (refine wQn ?_; try simp only [thenA_n]) | (refine CallE.pure (ho) rfl ?_) | (refine CallE.lent (ho) rfl ?_) | (refine CallF.pure (ho) rfl ?_) | (refine CallF.lent (ho) rfl ?_) | (refine CallE.own (ho) ?_)
      refine hL _ (N - 1) (by omega) ⟨k + 1, by omega, ?_⟩
      simp [g1, b1, g3, g4, g21, hw, e]
  · obtain rfl : k = M := by omega
    repeat' first | (refine hK _ ?_; clear hK) | (clear hK; refine hK _ ?_; clear hK) | (clear hK; clear hK; refine hK _ ?_; clear hK) | (clear hK; clear hK; clear hK; refine hK _ ?_; clear hK) | (clear hK; clear hK; clear hK; clear hK; refine hK _ ?_; clear hK) | (refine wSeq fun K hK => ?_) | (refine wReg ?_; simp only [List.map_cons, List.map_nil, strip]) | (refine wDrw (by kernel_rfl) ?_; simp only [List.map_cons, List.map_nil, strip]) | (refine wOs fun K hK => ?_; simp [g1, b1, g3, g4, g21, g22, hlt]) | (refine wQs fun K hK => ?_; simp [g1, b1, g3, g4, g21, g22, hlt]) | (refine CallK_plain ?_; simp [g1, b1, g3, g4, g21, g22, hlt]) | (refine CallQ_plain ?_; simp [g1, b1, g3, g4, g21, g22, hlt]) | (refine wRet ?_; try simp) | (refine wCond ?_; simp [g1, b1, g3, g4, g21, g22, hlt]) | (refine wBlock ?_) | (refine wExit ?_; try simp) | (refine wSkip ?_; try simp) | (refine wOn ?_; try simp only [thenA_n]) | (refine wQn ?_; try simp only [thenA_n])
    apply hr
    simp [Try.f20]

set_option maxHeartbeats 4000000 in
theorem least05_con (c : Cf) (hl : c.ms.length ≤ 1000000) : ACon Try.prog 21 [.p (.agg c.cells)] (.p (I (least c))) := by
  have h1 := voters04_con c hl
  have h2 := check04_con c hl
  have h3 := fun s => is05_con c s hl
  have hvl := ids_len c.ms 1
  have hlr := @least_ref c
  unfold least
  generalize ids c.ms 1 = v at h1 hvl hlr ⊢
  by_cases hc : check c = 0
  rotate_left
  · rw [if_neg (fun h => hc h.1)]
    generalize check c = y at h2 hc
    obtain ⟨ep, n, kind, l⟩ := c
    simp only [Cf.cells] at h1 h2 ⊢
    refine wBody Try.tab Try.mixed Try.func21 rfl rfl Try.ntmps21 (by simp) (by simp) fun Q hr hn => ?_
    repeat' first | (refine hK _ ?_; clear hK) | (clear hK; refine hK _ ?_; clear hK) | (clear hK; clear hK; refine hK _ ?_; clear hK) | (clear hK; clear hK; clear hK; refine hK _ ?_; clear hK) | (clear hK; clear hK; clear hK; clear hK; refine hK _ ?_; clear hK) | (refine wSeq fun K hK => ?_) | (refine wReg ?_; simp only [List.map_cons, List.map_nil, strip]) | (refine wDrw (by kernel_rfl) ?_; simp only [List.map_cons, List.map_nil, strip]) | (refine wOs fun K hK => ?_; simp [hc]) | (refine wQs fun K hK => ?_; simp [hc]) | (refine CallK_plain ?_; simp [hc]) | (refine CallQ_plain ?_; simp [hc]) | (refine wRet ?_; try simp) | (refine wCond ?_; simp [hc]) | (refine wBlock ?_) | (refine wExit ?_; try simp) | (refine wSkip ?_; try simp) | (refine wOn ?_; try simp only [thenA_n]) | (refine wQn ?_; try simp only [thenA_n]) | (refine CallE.pure (h1) rfl ?_) | (refine CallE.lent (h1) rfl ?_) | (refine CallF.pure (h1) rfl ?_) | (refine CallF.lent (h1) rfl ?_) | (refine CallE.own (h1) ?_) | (refine CallE.pure (h2) rfl ?_) | (refine CallE.lent (h2) rfl ?_) | (refine CallF.pure (h2) rfl ?_) | (refine CallF.lent (h2) rfl ?_) | (refine CallE.own (h2) ?_)
    all_goals apply hr
    all_goals simp [Try.f21]
  rw [hc] at h2
  by_cases h8 : v.length ≤ 8
  rotate_left
  · rw [if_neg (fun h => h8 h.2)]
    have h8' : 8 < v.length := by omega
    have h8i : (8 : Int) < v.length := by omega
    obtain ⟨ep, n, kind, l⟩ := c
    simp only [Cf.cells] at h1 h2 ⊢
    refine wBody Try.tab Try.mixed Try.func21 rfl rfl Try.ntmps21 (by simp) (by simp) fun Q hr hn => ?_
    repeat' first | (refine hK _ ?_; clear hK) | (clear hK; refine hK _ ?_; clear hK) | (clear hK; clear hK; refine hK _ ?_; clear hK) | (clear hK; clear hK; clear hK; refine hK _ ?_; clear hK) | (clear hK; clear hK; clear hK; clear hK; refine hK _ ?_; clear hK) | (refine wSeq fun K hK => ?_) | (refine wReg ?_; simp only [List.map_cons, List.map_nil, strip]) | (refine wDrw (by kernel_rfl) ?_; simp only [List.map_cons, List.map_nil, strip]) | (refine wOs fun K hK => ?_; simp [h8', h8i]) | (refine wQs fun K hK => ?_; simp [h8', h8i]) | (refine CallK_plain ?_; simp [h8', h8i]) | (refine CallQ_plain ?_; simp [h8', h8i]) | (refine wRet ?_; try simp) | (refine wCond ?_; simp [h8', h8i]) | (refine wBlock ?_) | (refine wExit ?_; try simp) | (refine wSkip ?_; try simp) | (refine wOn ?_; try simp only [thenA_n]) | (refine wQn ?_; try simp only [thenA_n]) | (refine CallE.pure (h1) rfl ?_) | (refine CallE.lent (h1) rfl ?_) | (refine CallF.pure (h1) rfl ?_) | (refine CallF.lent (h1) rfl ?_) | (refine CallE.own (h1) ?_) | (refine CallE.pure (h2) rfl ?_) | (refine CallE.lent (h2) rfl ?_) | (refine CallF.pure (h2) rfl ?_) | (refine CallF.lent (h2) rfl ?_) | (refine CallE.own (h2) ?_)
    all_goals apply hr
    all_goals simp [Try.f21]
  rw [if_pos ⟨hc, h8⟩, hlr hc h8]
  have h8' : ¬ 8 < v.length := by omega
  have h8i : ¬ (8 : Int) < v.length := by omega
  have hpw := pow_i64 v.length (by omega)
  have hM := pow_le v.length (by omega)
  have hcv := id_u64 v.length (by omega)
  generalize hMe : 2 ^ v.length = M at hpw hM ⊢
  have hq : ∀ k, isQ c (chs k v v.length) = qm c v k := fun k => rfl
  generalize hqe : qm c v = W at hq ⊢
  clear hlr
  obtain ⟨ep, n, kind, l⟩ := c
  simp only [Cf.cells] at h1 h2 h3 hvl hl ⊢
  refine wBody Try.tab Try.mixed Try.func21 rfl rfl Try.ntmps21 (by simp) (by simp) fun Q hr hn => ?_
  repeat' first | (refine hK _ ?_; clear hK) | (clear hK; refine hK _ ?_; clear hK) | (clear hK; clear hK; refine hK _ ?_; clear hK) | (clear hK; clear hK; clear hK; refine hK _ ?_; clear hK) | (clear hK; clear hK; clear hK; clear hK; refine hK _ ?_; clear hK) | (refine wSeq fun K hK => ?_) | (refine wReg ?_; simp only [List.map_cons, List.map_nil, strip]) | (refine wDrw (by kernel_rfl) ?_; simp only [List.map_cons, List.map_nil, strip]) | (refine wOs fun K hK => ?_; simp [h8', h8i, hpw, hcv]) | (refine wQs fun K hK => ?_; simp [h8', h8i, hpw, hcv]) | (refine CallK_plain ?_; simp [h8', h8i, hpw, hcv]) | (refine CallQ_plain ?_; simp [h8', h8i, hpw, hcv]) | (refine wRet ?_; try simp) | (refine wCond ?_; simp [h8', h8i, hpw, hcv]) | (refine wBlock ?_) | (refine wExit ?_; try simp) | (refine wSkip ?_; try simp) | (refine wOn ?_; try simp only [thenA_n]) | (refine wQn ?_; try simp only [thenA_n]) | (refine CallE.pure (h1) rfl ?_) | (refine CallE.lent (h1) rfl ?_) | (refine CallF.pure (h1) rfl ?_) | (refine CallF.lent (h1) rfl ?_) | (refine CallE.own (h1) ?_) | (refine CallE.pure (h2) rfl ?_) | (refine CallE.lent (h2) rfl ?_) | (refine CallF.pure (h2) rfl ?_) | (refine CallF.lent (h2) rfl ?_) | (refine CallE.own (h2) ?_)
  refine wLoop (fun N st => ∃ k, k + N = M ∧ st.s 1 = .ptr 1 0 ∧ st.b 1 = some (.box 29 [.p (I ep), .p (I n), .p (I kind), .p (.sl 4 (mbs l))]) ∧ st.s 3 = .p (.sl 1 (ints v)) ∧ st.s 4 = .p (I (refP v.length W k)) ∧ st.s 21 = .p (I M) ∧ st.s 22 = .p (I k)) M ⟨0, by simp [refP]⟩ fun K N st hL ⟨k, hk, g1, b1, g3, g4, g21, g22⟩ => ?_
  by_cases hlt : k < M
  · have hk2 : k < 256 := by omega
    have hw := wrapS k _ hlt (by omega)
    have his := h3 (chs k v v.length)
    rw [hq] at his
    have hpl := popN_le k v.length
    have hcl := chs_len k v v.length
    repeat' first | (refine hK _ ?_; clear hK) | (clear hK; refine hK _ ?_; clear hK) | (clear hK; clear hK; refine hK _ ?_; clear hK) | (clear hK; clear hK; clear hK; refine hK _ ?_; clear hK) | (clear hK; clear hK; clear hK; clear hK; refine hK _ ?_; clear hK) | (refine wSeq fun K hK => ?_) | (refine wReg ?_; simp only [List.map_cons, List.map_nil, strip]) | (refine wDrw (by kernel_rfl) ?_; simp only [List.map_cons, List.map_nil, strip]) | (refine wOs fun K hK => ?_; simp [g1, b1, g3, g4, g21, g22, hlt]) | (refine wQs fun K hK => ?_; simp [g1, b1, g3, g4, g21, g22, hlt]) | (refine CallK_plain ?_; simp [g1, b1, g3, g4, g21, g22, hlt]) | (refine CallQ_plain ?_; simp [g1, b1, g3, g4, g21, g22, hlt]) | (refine wRet ?_; try simp) | (refine wCond ?_; simp [g1, b1, g3, g4, g21, g22, hlt]) | (refine wBlock ?_) | (refine wExit ?_; try simp) | (refine wSkip ?_; try simp) | (refine wOn ?_; try simp only [thenA_n]) | (refine wQn ?_; try simp only [thenA_n])
    refine wLoopG [.row 6 3 1] (fun N st => ∃ j, j + N = v.length ∧ st.s 1 = .ptr 1 0 ∧ st.b 1 = some (.box 29 [.p (I ep), .p (I n), .p (I kind), .p (.sl 4 (mbs l))]) ∧ st.s 3 = .p (.sl 1 (ints v)) ∧ st.s 4 = .p (I (refP v.length W k)) ∧ st.s 5 = .p (I k) ∧ st.s 6 = .row 6 ∧ st.s 21 = .p (I M) ∧ st.s 22 = .p (I k) ∧ st.s 26 = .p (I v.length) ∧ st.s 27 = .p (I j) ∧
      st.b 6 = some (.row 3 1 (ints (chs k v j)))) v.length ⟨0, by simp [g1, b1, g3, g4, g21, g22, chs, ints]⟩ fun K' N' st' hL' ⟨j, hj, e1, c1, e3, e4, e5, e6, e21, e22, e26, e27, c6⟩ => ?_
    by_cases hjl : j < v.length
    · have hw' := wrapS j _ hjl (by omega)
      have hcj := id_u64 j (by omega)
      have hbit := bit_i64 k hk2 j (by omega)
      have hln : (chs k v j).length ≤ 8 := by rw [chs_len]; have := popN_le k j; omega
      by_cases hb : k.testBit j = true
      · rw [if_pos hb] at hbit
        repeat' first | (refine And.intro (by omega) ?_) | (refine hK _ ?_; clear hK) | (clear hK; refine hK _ ?_; clear hK) | (clear hK; clear hK; refine hK _ ?_; clear hK) | (clear hK; clear hK; clear hK; refine hK _ ?_; clear hK) | (clear hK; clear hK; clear hK; clear hK; refine hK _ ?_; clear hK) | (refine wSeq fun K hK => ?_) | (refine wReg ?_; simp only [List.map_cons, List.map_nil, strip]) | (refine wDrw (by kernel_rfl) ?_; simp only [List.map_cons, List.map_nil, strip]) | (refine wOs fun K hK => ?_; simp [e1, c1, e3, e4, e5, e6, e21, e22, e26, e27, c6, hjl, hw', hcj, hbit]) | (refine wQs fun K hK => ?_; simp [e1, c1, e3, e4, e5, e6, e21, e22, e26, e27, c6, hjl, hw', hcj, hbit]) | (refine CallK_plain ?_; simp [e1, c1, e3, e4, e5, e6, e21, e22, e26, e27, c6, hjl, hw', hcj, hbit]) | (refine CallQ_plain ?_; simp [e1, c1, e3, e4, e5, e6, e21, e22, e26, e27, c6, hjl, hw', hcj, hbit]) | (refine wRet ?_; try simp) | (refine wCond ?_; simp [e1, c1, e3, e4, e5, e6, e21, e22, e26, e27, c6, hjl, hw', hcj, hbit]) | (refine wBlock ?_) | (refine wExit ?_; try simp) | (refine wSkip ?_; try simp) | (refine wOn ?_; try simp only [thenA_n]) | (refine wQn ?_; try simp only [thenA_n])
        refine hL' _ (N' - 1) (by omega) ⟨j + 1, by omega, ?_⟩
        simp [e1, c1, e3, e4, e5, e6, e21, e22, e26, hw', c6]
        rw [ints_snoc, chs, if_pos hb, show v.getD j 0 = v[j] by simp [List.getD, hjl]]
      · rw [if_neg hb] at hbit
        repeat' first | (refine hK _ ?_; clear hK) | (clear hK; refine hK _ ?_; clear hK) | (clear hK; clear hK; refine hK _ ?_; clear hK) | (clear hK; clear hK; clear hK; refine hK _ ?_; clear hK) | (clear hK; clear hK; clear hK; clear hK; refine hK _ ?_; clear hK) | (refine wSeq fun K hK => ?_) | (refine wReg ?_; simp only [List.map_cons, List.map_nil, strip]) | (refine wDrw (by kernel_rfl) ?_; simp only [List.map_cons, List.map_nil, strip]) | (refine wOs fun K hK => ?_; simp [e1, c1, e3, e4, e5, e6, e21, e22, e26, e27, c6, hjl, hw', hcj, hbit]) | (refine wQs fun K hK => ?_; simp [e1, c1, e3, e4, e5, e6, e21, e22, e26, e27, c6, hjl, hw', hcj, hbit]) | (refine CallK_plain ?_; simp [e1, c1, e3, e4, e5, e6, e21, e22, e26, e27, c6, hjl, hw', hcj, hbit]) | (refine CallQ_plain ?_; simp [e1, c1, e3, e4, e5, e6, e21, e22, e26, e27, c6, hjl, hw', hcj, hbit]) | (refine wRet ?_; try simp) | (refine wCond ?_; simp [e1, c1, e3, e4, e5, e6, e21, e22, e26, e27, c6, hjl, hw', hcj, hbit]) | (refine wBlock ?_) | (refine wExit ?_; try simp) | (refine wSkip ?_; try simp) | (refine wOn ?_; try simp only [thenA_n]) | (refine wQn ?_; try simp only [thenA_n])
        refine hL' _ (N' - 1) (by omega) ⟨j + 1, by omega, ?_⟩
        simp [e1, c1, e3, e4, e5, e6, e21, e22, e26, hw', c6]
        rw [chs, if_neg hb, List.append_nil]
    · obtain rfl : j = v.length := by omega
      by_cases q2 : W k = true
      · rw [q2] at his
        by_cases q0 : refP v.length W k < 0
        · have e : refP v.length W (k + 1) = popN v.length k := by rw [refP, if_pos ⟨q2, .inl q0⟩]
          repeat' first | (refine hK _ ?_; clear hK) | (clear hK; refine hK _ ?_; clear hK) | (clear hK; clear hK; refine hK _ ?_; clear hK) | (clear hK; clear hK; clear hK; refine hK _ ?_; clear hK) | (clear hK; clear hK; clear hK; clear hK; refine hK _ ?_; clear hK) | (refine wSeq fun K hK => ?_) | (refine wReg ?_; simp only [List.map_cons, List.map_nil, strip]) | (refine wDrw (by kernel_rfl) ?_; simp only [List.map_cons, List.map_nil, strip]) | (refine wOs fun K hK => ?_; simp [e1, c1, e3, e4, e5, e6, e21, e22, e26, e27, c6, hjl, hw, q0, hcl]) | (refine wQs fun K hK => ?_; simp [e1, c1, e3, e4, e5, e6, e21, e22, e26, e27, c6, hjl, hw, q0, hcl]) | (refine CallK_plain ?_; simp [e1, c1, e3, e4, e5, e6, e21, e22, e26, e27, c6, hjl, hw, q0, hcl]) | (refine CallQ_plain ?_; simp [e1, c1, e3, e4, e5, e6, e21, e22, e26, e27, c6, hjl, hw, q0, hcl]) | (refine wRet ?_; try simp) | (refine wCond ?_; simp [e1, c1, e3, e4, e5, e6, e21, e22, e26, e27, c6, hjl, hw, q0, hcl]) | (refine wBlock ?_) | (refine wExit ?_; try simp) | (refine wSkip ?_; try simp) | (refine wOn ?_; try simp only [thenA_n]) | (refine wQn ?_; try simp only [thenA_n]) | (refine CallE.pure (his) rfl ?_) | (refine CallE.lent (his) rfl ?_) | (refine CallF.pure (his) rfl ?_) | (refine CallF.lent (his) rfl ?_) | (refine CallE.own (his) ?_)
          refine hL _ (N - 1) (by omega) ⟨k + 1, by omega, ?_⟩
          simp [e1, c1, e3, e4, e21, hw, e, hcl]
        · by_cases q1 : (popN v.length k : Int) < refP v.length W k
          · have e : refP v.length W (k + 1) = popN v.length k := by rw [refP, if_pos ⟨q2, .inr q1⟩]
            repeat' first | (refine hK _ ?_; clear hK) | (clear hK; refine hK _ ?_; clear hK) | (clear hK; clear hK; refine hK _ ?_; clear hK) | (clear hK; clear hK; clear hK; refine hK _ ?_; clear hK) | (clear hK; clear hK; clear hK; clear hK; refine hK _ ?_; clear hK) | (refine wSeq fun K hK => ?_) | (refine wReg ?_; simp only [List.map_cons, List.map_nil, strip]) | (refine wDrw (by kernel_rfl) ?_; simp only [List.map_cons, List.map_nil, strip]) | (refine wOs fun K hK => ?_; simp [e1, c1, e3, e4, e5, e6, e21, e22, e26, e27, c6, hjl, hw, q0, q1, hcl]) | (refine wQs fun K hK => ?_; simp [e1, c1, e3, e4, e5, e6, e21, e22, e26, e27, c6, hjl, hw, q0, q1, hcl]) | (refine CallK_plain ?_; simp [e1, c1, e3, e4, e5, e6, e21, e22, e26, e27, c6, hjl, hw, q0, q1, hcl]) | (refine CallQ_plain ?_; simp [e1, c1, e3, e4, e5, e6, e21, e22, e26, e27, c6, hjl, hw, q0, q1, hcl]) | (refine wRet ?_; try simp) | (refine wCond ?_; simp [e1, c1, e3, e4, e5, e6, e21, e22, e26, e27, c6, hjl, hw, q0, q1, hcl]) | (refine wBlock ?_) | (refine wExit ?_; try simp) | (refine wSkip ?_; try simp) | (refine wOn ?_; try simp only [thenA_n]) | (refine wQn ?_; try simp only [thenA_n]) | (refine CallE.pure (his) rfl ?_) | (refine CallE.lent (his) rfl ?_) | (refine CallF.pure (his) rfl ?_) | (refine CallF.lent (his) rfl ?_) | (refine CallE.own (his) ?_)
            refine hL _ (N - 1) (by omega) ⟨k + 1, by omega, ?_⟩
            simp [e1, c1, e3, e4, e21, hw, e, hcl]
          · have e : refP v.length W (k + 1) = refP v.length W k := by rw [refP, if_neg (by omega)]
            repeat' first | (refine hK _ ?_; clear hK) | (clear hK; refine hK _ ?_; clear hK) | (clear hK; clear hK; refine hK _ ?_; clear hK) | (clear hK; clear hK; clear hK; refine hK _ ?_; clear hK) | (clear hK; clear hK; clear hK; clear hK; refine hK _ ?_; clear hK) | (refine wSeq fun K hK => ?_) | (refine wReg ?_; simp only [List.map_cons, List.map_nil, strip]) | (refine wDrw (by kernel_rfl) ?_; simp only [List.map_cons, List.map_nil, strip]) | (refine wOs fun K hK => ?_; simp [e1, c1, e3, e4, e5, e6, e21, e22, e26, e27, c6, hjl, hw, q0, q1, hcl]) | (refine wQs fun K hK => ?_; simp [e1, c1, e3, e4, e5, e6, e21, e22, e26, e27, c6, hjl, hw, q0, q1, hcl]) | (refine CallK_plain ?_; simp [e1, c1, e3, e4, e5, e6, e21, e22, e26, e27, c6, hjl, hw, q0, q1, hcl]) | (refine CallQ_plain ?_; simp [e1, c1, e3, e4, e5, e6, e21, e22, e26, e27, c6, hjl, hw, q0, q1, hcl]) | (refine wRet ?_; try simp) | (refine wCond ?_; simp [e1, c1, e3, e4, e5, e6, e21, e22, e26, e27, c6, hjl, hw, q0, q1, hcl]) | (refine wBlock ?_) | (refine wExit ?_; try simp) | (refine wSkip ?_; try simp) | (refine wOn ?_; try simp only [thenA_n]) | (refine wQn ?_; try simp only [thenA_n]) | (refine CallE.pure (his) rfl ?_) | (refine CallE.lent (his) rfl ?_) | (refine CallF.pure (his) rfl ?_) | (refine CallF.lent (his) rfl ?_) | (refine CallE.own (his) ?_)
            refine hL _ (N - 1) (by omega) ⟨k + 1, by omega, ?_⟩
            simp [e1, c1, e3, e4, e21, hw, e, hcl]
      · have e : refP v.length W (k + 1) = refP v.length W k := by rw [refP, if_neg (fun h => q2 h.1)]
        rw [Bool.not_eq_true] at q2
        rw [q2] at his
        repeat' first | (refine hK _ ?_; clear hK) | (clear hK; refine hK _ ?_; clear hK) | (clear hK; clear hK; refine hK _ ?_; clear hK) | (clear hK; clear hK; clear hK; refine hK _ ?_; clear hK) | (clear hK; clear hK; clear hK; clear hK; refine hK _ ?_; clear hK) | (refine wSeq fun K hK => ?_) | (refine wReg ?_; simp only [List.map_cons, List.map_nil, strip]) | (refine wDrw (by kernel_rfl) ?_; simp only [List.map_cons, List.map_nil, strip]) | (refine wOs fun K hK => ?_; simp [e1, c1, e3, e4, e5, e6, e21, e22, e26, e27, c6, hjl, hw, hcl]) | (refine wQs fun K hK => ?_; simp [e1, c1, e3, e4, e5, e6, e21, e22, e26, e27, c6, hjl, hw, hcl]) | (refine CallK_plain ?_; simp [e1, c1, e3, e4, e5, e6, e21, e22, e26, e27, c6, hjl, hw, hcl]) | (refine CallQ_plain ?_; simp [e1, c1, e3, e4, e5, e6, e21, e22, e26, e27, c6, hjl, hw, hcl]) | (refine wRet ?_; try simp) | (refine wCond ?_; simp [e1, c1, e3, e4, e5, e6, e21, e22, e26, e27, c6, hjl, hw, hcl]) | (refine wBlock ?_) | (refine wExit ?_; try simp) | (refine wSkip ?_; try simp) | (refine wOn ?_; try simp only [thenA_n]) | (refine wQn ?_; try simp only [thenA_n]) | (refine CallE.pure (his) rfl ?_) | (refine CallE.lent (his) rfl ?_) | (refine CallF.pure (his) rfl ?_) | (refine CallF.lent (his) rfl ?_) | (refine CallE.own (his) ?_)
        refine hL _ (N - 1) (by omega) ⟨k + 1, by omega, ?_⟩
        simp [e1, c1, e3, e4, e21, hw, e, hcl]
  · obtain rfl : k = M := by omega
    repeat' first | (refine hK _ ?_; clear hK) | (clear hK; refine hK _ ?_; clear hK) | (clear hK; clear hK; refine hK _ ?_; clear hK) | (clear hK; clear hK; clear hK; refine hK _ ?_; clear hK) | (clear hK; clear hK; clear hK; clear hK; refine hK _ ?_; clear hK) | (refine wSeq fun K hK => ?_) | (refine wReg ?_; simp only [List.map_cons, List.map_nil, strip]) | (refine wDrw (by kernel_rfl) ?_; simp only [List.map_cons, List.map_nil, strip]) | (refine wOs fun K hK => ?_; simp [g1, b1, g3, g4, g21, g22, hlt]) | (refine wQs fun K hK => ?_; simp [g1, b1, g3, g4, g21, g22, hlt]) | (refine CallK_plain ?_; simp [g1, b1, g3, g4, g21, g22, hlt]) | (refine CallQ_plain ?_; simp [g1, b1, g3, g4, g21, g22, hlt]) | (refine wRet ?_; try simp) | (refine wCond ?_; simp [g1, b1, g3, g4, g21, g22, hlt]) | (refine wBlock ?_) | (refine wExit ?_; try simp) | (refine wSkip ?_; try simp) | (refine wOn ?_; try simp only [thenA_n]) | (refine wQn ?_; try simp only [thenA_n])
    apply hr
    simp [Try.f21]

theorem quorumLeast_con (c : Cf) (set : List Int) : ACon Try.prog 4 [.p (.agg c.cells), .p (.sl 1 (ints set))] (.p (B true)) := by
  have hf := far_con c [set] (by simp)
  have hb := (mx_le [set] c.ms.length).1
  by_cases hfar : 100 < mx c.ms.length [set]
  · rw [decide_eq_true hfar] at hf
    obtain ⟨ep, n, kind, l⟩ := c
    simp only [lists, List.map_cons, List.map_nil, Cf.cells] at hf ⊢
    refine wBody Try.tab Try.mixed Try.func4 rfl rfl Try.ntmps4 (by simp) (by simp) fun Q hr hn => ?_
    repeat' first | (refine hK _ ?_; clear hK) | (clear hK; refine hK _ ?_; clear hK) | (clear hK; clear hK; refine hK _ ?_; clear hK) | (clear hK; clear hK; clear hK; refine hK _ ?_; clear hK) | (clear hK; clear hK; clear hK; clear hK; refine hK _ ?_; clear hK) | (refine wSeq fun K hK => ?_) | (refine wReg ?_; simp only [List.map_cons, List.map_nil, strip]) | (refine wDrw (by kernel_rfl) ?_; simp only [List.map_cons, List.map_nil, strip]) | (refine wOs fun K hK => ?_; simp) | (refine wQs fun K hK => ?_; simp) | (refine CallK_plain ?_; simp) | (refine CallQ_plain ?_; simp) | (refine wRet ?_; try simp) | (refine wCond ?_; simp) | (refine wBlock ?_) | (refine wExit ?_; try simp) | (refine wSkip ?_; try simp) | (refine wOn ?_; try simp only [thenA_n]) | (refine wQn ?_; try simp only [thenA_n]) | (refine CallE.pure (hf) rfl ?_) | (refine CallE.lent (hf) rfl ?_) | (refine CallF.pure (hf) rfl ?_) | (refine CallF.lent (hf) rfl ?_) | (refine CallE.own (hf) ?_) | (refine CallE.pure (awake05) rfl ?_) | (refine CallE.lent (awake05) rfl ?_) | (refine CallF.pure (awake05) rfl ?_) | (refine CallF.lent (awake05) rfl ?_) | (refine CallE.own (awake05) ?_)
    all_goals apply hr
    all_goals simp [Try.f4]
  rw [decide_eq_false hfar] at hf
  have hm : c.ms.length ≤ 1000000 := by omega
  have c1 := least_con c hm
  have c2 := least05_con c hm
  have c3 := blocks_con c set hm
  have c4 := blocks05_con c set hm
  generalize least c = x at c1 c2
  generalize blocks c set = y at c3 c4
  obtain ⟨ep, n, kind, l⟩ := c
  simp only [lists, List.map_cons, List.map_nil, Cf.cells] at hf c1 c2 c3 c4 ⊢
  refine wBody Try.tab Try.mixed Try.func4 rfl rfl Try.ntmps4 (by simp) (by simp) fun Q hr hn => ?_
  repeat' first | (refine hK _ ?_; clear hK) | (clear hK; refine hK _ ?_; clear hK) | (clear hK; clear hK; refine hK _ ?_; clear hK) | (clear hK; clear hK; clear hK; refine hK _ ?_; clear hK) | (clear hK; clear hK; clear hK; clear hK; refine hK _ ?_; clear hK) | (refine wSeq fun K hK => ?_) | (refine wReg ?_; simp only [List.map_cons, List.map_nil, strip]) | (refine wDrw (by kernel_rfl) ?_; simp only [List.map_cons, List.map_nil, strip]) | (refine wOs fun K hK => ?_; simp) | (refine wQs fun K hK => ?_; simp) | (refine CallK_plain ?_; simp) | (refine CallQ_plain ?_; simp) | (refine wRet ?_; try simp) | (refine wCond ?_; simp) | (refine wBlock ?_) | (refine wExit ?_; try simp) | (refine wSkip ?_; try simp) | (refine wOn ?_; try simp only [thenA_n]) | (refine wQn ?_; try simp only [thenA_n]) | (refine CallE.pure (hf) rfl ?_) | (refine CallE.lent (hf) rfl ?_) | (refine CallF.pure (hf) rfl ?_) | (refine CallF.lent (hf) rfl ?_) | (refine CallE.own (hf) ?_) | (refine CallE.pure (c1) rfl ?_) | (refine CallE.lent (c1) rfl ?_) | (refine CallF.pure (c1) rfl ?_) | (refine CallF.lent (c1) rfl ?_) | (refine CallE.own (c1) ?_) | (refine CallE.pure (c2) rfl ?_) | (refine CallE.lent (c2) rfl ?_) | (refine CallF.pure (c2) rfl ?_) | (refine CallF.lent (c2) rfl ?_) | (refine CallE.own (c2) ?_) | (refine CallE.pure (c3) rfl ?_) | (refine CallE.lent (c3) rfl ?_) | (refine CallF.pure (c3) rfl ?_) | (refine CallF.lent (c3) rfl ?_) | (refine CallE.own (c3) ?_) | (refine CallE.pure (c4) rfl ?_) | (refine CallE.lent (c4) rfl ?_) | (refine CallF.pure (c4) rfl ?_) | (refine CallF.lent (c4) rfl ?_) | (refine CallE.own (c4) ?_) | (refine CallE.pure (awake05) rfl ?_) | (refine CallE.lent (awake05) rfl ?_) | (refine CallF.pure (awake05) rfl ?_) | (refine CallF.lent (awake05) rfl ?_) | (refine CallE.own (awake05) ?_)
  all_goals apply hr
  all_goals simp [Try.f4]
end Go.Proofs.Ytehopfedgkmalaa
