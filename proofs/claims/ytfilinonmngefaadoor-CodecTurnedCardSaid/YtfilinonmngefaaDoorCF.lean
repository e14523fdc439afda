/- Lengths and texts read; texts laid. -/
import Derived.Test.YtfilinonmngefaaDoorCD
namespace Go.Proofs.YtfilinonmngefaaDoor
set_option linter.unusedSimpArgs false
set_option linter.unusedVariables false
open Go Go.Av
attribute [local simp] Tryd.T1 Tryd.T2 Tryd.T3 Tryd.T4 Tryd.T5 Tryd.T9 Tryd.T12 Tryd.T15 Tryd.T16 Tryd.T17 Tryd.T21 Tryd.T22 Tryd.T23 Tryd.T24 Tryd.T25 Tryd.T27 Tryd.T28 Tryd.T29 Tryd.T31 Tryd.T32 Tryd.T34 Tryd.T35 Tryd.T36 Tryd.T38 Tryd.T39 Tryd.T41 Tryd.T42 Tryd.T43 Tryd.T44 Tryd.T45 Tryd.T46 Tryd.T47 Tryd.T48 Tryd.T49 Tryd.T50 Tryd.T51 Tryd.T52 Tryd.T53 Tryd.T54 Tryd.T55 Tryd.T56 Tryd.T57 Tryd.T58 Tryd.T59 Tryd.T60 Tryd.T61 Tryd.T62 Tryd.T63 Tryd.T65 Tryd.T66 Tryd.T67 Tryd.T68 Tryd.T69 Tryd.T70 Tryd.T73 Tryd.T78 Tryd.T79
attribute [local irreducible] Go.Av.CallK Go.Av.CallE Go.Av.CallQ Go.Av.CallF Go.Av.CallR Go.Av.CallH Go.Av.Con

theorem rdU_le : ∀ (l : List UInt8) (i u : Nat), u < 128 ^ i → i ≤ 9 → i ≤ (rdU i u l).2.2 ∧ (rdU i u l).2.2 ≤ i + l.length ∧ (rdU i u l).2.1 < 18446744073709551616 ∧ ((rdU i u l).1 = 0 → i < (rdU i u l).2.2)
  | [], i, u, hu, hi => by simp [rdU]
  | c :: r, i, u, hu, hi => by
    have hc := c.toNat_lt
    rw [rdU]
    split
    · simp
    · rename_i o1
      have hx9 : i = 9 → c.toNat % 128 ≤ 1 := by omega
      have hst := step_lt64 (x := c.toNat % 128) hu (by omega) hi hx9
      split
      · rename_i o2
        have := rdU_le r (i + 1) _ (step_lt (x := c.toNat % 128) hu (by omega)) (by omega)
        simp only [List.length_cons]
        refine ⟨by omega, by omega, this.2.2.1, fun h => by have := this.2.2.2 h; omega⟩
      · split
        · simp
        · simp only [List.length_cons]
          exact ⟨by omega, by omega, hst.2, fun _ => by omega⟩
/-- A length, and the place behind it: or an error. -/
def lnR (L a tail : Nat) (r : Int × Nat × Nat) : Int × Nat × Nat :=
  if ¬ r.1 = 0 then (r.1, 0, a + r.2.2)
  else if unzz r.2.1 < 0 then (3, 0, a + r.2.2)
  else if 65536 < unzz r.2.1 then (5, 0, a + r.2.2)
  else if (L : Int) - ((a + r.2.2 : Nat) : Int) < unzz r.2.1 + tail then (2, 0, a + r.2.2)
  else (0, (unzz r.2.1).toNat, a + r.2.2)
def lnO (b : List UInt8) (r : Int × Nat × Nat) : Out :=
  if r.1 = 0 then .ret (.p (I r.2.1)) [] [.box 65 [.p (.sl 1 (by8 b)), .p (I r.2.2)]]
  else .pan (.iface 70 (.int .i64 r.1)) [.box 65 [.p (.sl 1 (by8 b)), .p (I r.2.2)]]
theorem lnO_err {b : List UInt8} {n q : Nat} {e : Int} (h : ¬ e = 0) : lnO b (e, n, q) = .pan (.iface 70 (.int .i64 e)) [.box 65 [.p (.sl 1 (by8 b)), .p (I q)]] := by unfold lnO; rw [if_neg h]
theorem lnO_ok {b : List UInt8} {n q : Nat} : lnO b (0, n, q) = .ret (.p (I n)) [] [.box 65 [.p (.sl 1 (by8 b)), .p (I q)]] := rfl

theorem length_con (b : List UInt8) (a tail : Nat) (ha : a ≤ b.length) (hb : b.length ≤ 1000000000) (ht : tail ≤ 1000) : Con Tryd.prog 41 [.ptr 1024 0, .p (I tail)] [.box 65 [.p (.sl 1 (by8 b)), .p (I a)]] (lnO b (lnR b.length a tail (rdU 0 0 (b.drop a)))) := by
  have hc := number_con b a ha hb
  obtain ⟨-, hk, hv, -⟩ := rdU_le (b.drop a) 0 0 (by decide) (by omega)
  rw [List.length_drop] at hk
  have e2 := give_con 2 (by decide)
  have e3 := give_con 3 (by decide)
  have e5 := give_con 5 (by decide)
  generalize rdU 0 0 (b.drop a) = r at hc hk hv ⊢
  obtain ⟨e, v, k⟩ := r
  have hok := unzz_ok hv
  obtain ⟨hok1, hok2⟩ := hok
  simp only at hk hv hok1 hok2
  unfold lnR
  simp only
  by_cases h0 : e = 0
  rotate_left
  · rw [if_pos h0, lnO_err h0]
    rw [rdO_err h0] at hc
    refine wBodyG Tryd.tab Tryd.mixed Tryd.func41 rfl rfl Tryd.ntmps41 (by simp) (by simp) fun Q hr hn hp => ?_
    repeat' first | (refine CallK_gen [1024] hc (by decide) (by decide) (by simp [blksOf, inN, pos, renB, ren0]) (by simp [argsG, argG, ren0, inN, pos, renCs, renC]) ?_; simp [GenK, lv, ouN, kpI, kpR, pos, ren, ren0, renB, renC, renCs]) | (refine hK _ ?_; clear hK) | (refine hK _ _ ?_; clear hK) | (clear hK; refine hK _ ?_; clear hK) | (clear hK; clear hK; refine hK _ ?_; clear hK) | (clear hK; clear hK; clear hK; refine hK _ ?_; clear hK) | (clear hK; clear hK; clear hK; clear hK; refine hK _ ?_; clear hK) | (refine wSeq fun K hK => ?_) | ((first | refine wReg ?_ | refine wDrwQ rfl (by kernel_rfl) ?_ | refine wDrwI ?_ | refine wDrw (by kernel_rfl) ?_); simp only [List.map_cons, List.map_nil, strip]) | ((first | refine wIs fun K hK => ?_ | refine wOs fun K hK => ?_ | refine wQs fun K hK => ?_ | refine CallK_plain ?_ | refine CallQ_plain ?_ | refine CallR_plain ?_ | refine wCond ?_); simp [lv, ouN, kpI, kpR, pos, ren, ren0, renB, renC, renCs]) | (refine wIn ?_; refine And.intro (by kernel_rfl) ?_; try simp only [thenA_n]) | (first | refine wBlock ?_ | refine wScope ?_) | ((first | refine wRet ?_ | refine wExit ?_ | refine wSkip ?_); try simp) | ((first | refine wLabel ?_ | refine wOn ?_ | refine wQn ?_); try simp only [thenA_n])
    all_goals try simp only [thenA_p, blockA_p]
    all_goals apply hp
    all_goals simp [AResP, outB, renB, gaN, lv, ouN, kpI, kpR, pos, ren, ren0, renC, renCs]
  subst h0
  rw [rdO_ok] at hc
  rw [if_neg (by simp)]
  obtain ⟨q, hq⟩ : ∃ q, q = a + k := ⟨_, rfl⟩
  rw [← hq] at hc ⊢
  generalize unzz v = n at hc hok1 hok2 ⊢
  have w1 : IntKind.i64.wrap ((b.length : Int) - (q : Int)) = (b.length : Int) - (q : Int) := wrap_id (by omega) (by omega)
  by_cases h1 : n < 0
  · rw [if_pos h1, lnO_err (by decide)]
    refine wBodyG Tryd.tab Tryd.mixed Tryd.func41 rfl rfl Tryd.ntmps41 (by simp) (by simp) fun Q hr hn hp => ?_
    repeat' first | (refine CallE.pan e3 ?_) | (refine CallK_gen [1024] hc (by decide) (by decide) (by simp [blksOf, inN, pos, renB, ren0]) (by simp [argsG, argG, ren0, inN, pos, renCs, renC]) ⟨[], by simp, by simp, ?_⟩; simp [lv, ouN, kpI, kpR, pos, ren, ren0, renB, renC, renCs]) | (refine hK _ ?_; clear hK) | (refine hK _ _ ?_; clear hK) | (clear hK; refine hK _ ?_; clear hK) | (clear hK; clear hK; refine hK _ ?_; clear hK) | (clear hK; clear hK; clear hK; refine hK _ ?_; clear hK) | (clear hK; clear hK; clear hK; clear hK; refine hK _ ?_; clear hK) | (refine wSeq fun K hK => ?_) | ((first | refine wReg ?_ | refine wDrwQ rfl (by kernel_rfl) ?_ | refine wDrwI ?_ | refine wDrw (by kernel_rfl) ?_); simp only [List.map_cons, List.map_nil, strip]) | ((first | refine wIs fun K hK => ?_ | refine wOs fun K hK => ?_ | refine wQs fun K hK => ?_ | refine CallK_plain ?_ | refine CallQ_plain ?_ | refine CallR_plain ?_ | refine wCond ?_); simp [h1, lv, ouN, kpI, kpR, pos, ren, ren0, renB, renC, renCs]) | (refine wIn ?_; refine And.intro (by kernel_rfl) ?_; try simp only [thenA_n]) | (first | refine wBlock ?_ | refine wScope ?_) | ((first | refine wRet ?_ | refine wExit ?_ | refine wSkip ?_); try simp) | ((first | refine wLabel ?_ | refine wOn ?_ | refine wQn ?_); try simp only [thenA_n])
    all_goals try simp only [thenA_p, blockA_p]
    all_goals apply hp
    all_goals simp [AResP, outB, renB, gaN, lv, ouN, kpI, kpR, pos, ren, ren0, renC, renCs]
  rw [if_neg h1]
  by_cases h2 : 65536 < n
  · rw [if_pos h2, lnO_err (by decide)]
    refine wBodyG Tryd.tab Tryd.mixed Tryd.func41 rfl rfl Tryd.ntmps41 (by simp) (by simp) fun Q hr hn hp => ?_
    repeat' first | (refine CallE.pan e5 ?_) | (refine CallK_gen [1024] hc (by decide) (by decide) (by simp [blksOf, inN, pos, renB, ren0]) (by simp [argsG, argG, ren0, inN, pos, renCs, renC]) ⟨[], by simp, by simp, ?_⟩; simp [lv, ouN, kpI, kpR, pos, ren, ren0, renB, renC, renCs]) | (refine hK _ ?_; clear hK) | (refine hK _ _ ?_; clear hK) | (clear hK; refine hK _ ?_; clear hK) | (clear hK; clear hK; refine hK _ ?_; clear hK) | (clear hK; clear hK; clear hK; refine hK _ ?_; clear hK) | (clear hK; clear hK; clear hK; clear hK; refine hK _ ?_; clear hK) | (refine wSeq fun K hK => ?_) | ((first | refine wReg ?_ | refine wDrwQ rfl (by kernel_rfl) ?_ | refine wDrwI ?_ | refine wDrw (by kernel_rfl) ?_); simp only [List.map_cons, List.map_nil, strip]) | ((first | refine wIs fun K hK => ?_ | refine wOs fun K hK => ?_ | refine wQs fun K hK => ?_ | refine CallK_plain ?_ | refine CallQ_plain ?_ | refine CallR_plain ?_ | refine wCond ?_); simp [h1, h2, lv, ouN, kpI, kpR, pos, ren, ren0, renB, renC, renCs]) | (refine wIn ?_; refine And.intro (by kernel_rfl) ?_; try simp only [thenA_n]) | (first | refine wBlock ?_ | refine wScope ?_) | ((first | refine wRet ?_ | refine wExit ?_ | refine wSkip ?_); try simp) | ((first | refine wLabel ?_ | refine wOn ?_ | refine wQn ?_); try simp only [thenA_n])
    all_goals try simp only [thenA_p, blockA_p]
    all_goals apply hp
    all_goals simp [AResP, outB, renB, gaN, lv, ouN, kpI, kpR, pos, ren, ren0, renC, renCs]
  rw [if_neg h2]
  have w2 : IntKind.i64.wrap (n + (tail : Int)) = n + (tail : Int) := wrap_id (by omega) (by omega)
  by_cases h3 : (b.length : Int) - (q : Int) < n + tail
  · rw [if_pos h3, lnO_err (by decide)]
    refine wBodyG Tryd.tab Tryd.mixed Tryd.func41 rfl rfl Tryd.ntmps41 (by simp) (by simp) fun Q hr hn hp => ?_
    repeat' first | (refine CallE.pan e2 ?_) | (refine CallK_gen [1024] hc (by decide) (by decide) (by simp [blksOf, inN, pos, renB, ren0]) (by simp [argsG, argG, ren0, inN, pos, renCs, renC]) ⟨[], by simp, by simp, ?_⟩; simp [lv, ouN, kpI, kpR, pos, ren, ren0, renB, renC, renCs]) | (refine hK _ ?_; clear hK) | (refine hK _ _ ?_; clear hK) | (clear hK; refine hK _ ?_; clear hK) | (clear hK; clear hK; refine hK _ ?_; clear hK) | (clear hK; clear hK; clear hK; refine hK _ ?_; clear hK) | (clear hK; clear hK; clear hK; clear hK; refine hK _ ?_; clear hK) | (refine wSeq fun K hK => ?_) | ((first | refine wReg ?_ | refine wDrwQ rfl (by kernel_rfl) ?_ | refine wDrwI ?_ | refine wDrw (by kernel_rfl) ?_); simp only [List.map_cons, List.map_nil, strip]) | ((first | refine wIs fun K hK => ?_ | refine wOs fun K hK => ?_ | refine wQs fun K hK => ?_ | refine CallK_plain ?_ | refine CallQ_plain ?_ | refine CallR_plain ?_ | refine wCond ?_); simp [h1, h2, h3, w1, w2, lv, ouN, kpI, kpR, pos, ren, ren0, renB, renC, renCs]) | (refine wIn ?_; refine And.intro (by kernel_rfl) ?_; try simp only [thenA_n]) | (first | refine wBlock ?_ | refine wScope ?_) | ((first | refine wRet ?_ | refine wExit ?_ | refine wSkip ?_); try simp) | ((first | refine wLabel ?_ | refine wOn ?_ | refine wQn ?_); try simp only [thenA_n])
    all_goals try simp only [thenA_p, blockA_p]
    all_goals apply hp
    all_goals simp [AResP, outB, renB, gaN, lv, ouN, kpI, kpR, pos, ren, ren0, renC, renCs]
  · rw [if_neg h3, lnO_ok]
    have hn : ((n.toNat : Nat) : Int) = n := by omega
    rw [hn]
    refine wBodyG Tryd.tab Tryd.mixed Tryd.func41 rfl rfl Tryd.ntmps41 (by simp) (by simp) fun Q hr hn hp => ?_
    repeat' first | (refine CallK_gen [1024] hc (by decide) (by decide) (by simp [blksOf, inN, pos, renB, ren0]) (by simp [argsG, argG, ren0, inN, pos, renCs, renC]) ⟨[], by simp, by simp, ?_⟩; simp [lv, ouN, kpI, kpR, pos, ren, ren0, renB, renC, renCs]) | (refine hK _ ?_; clear hK) | (refine hK _ _ ?_; clear hK) | (clear hK; refine hK _ ?_; clear hK) | (clear hK; clear hK; refine hK _ ?_; clear hK) | (clear hK; clear hK; clear hK; refine hK _ ?_; clear hK) | (clear hK; clear hK; clear hK; clear hK; refine hK _ ?_; clear hK) | (refine wSeq fun K hK => ?_) | ((first | refine wReg ?_ | refine wDrwQ rfl (by kernel_rfl) ?_ | refine wDrwI ?_ | refine wDrw (by kernel_rfl) ?_); simp only [List.map_cons, List.map_nil, strip]) | ((first | refine wIs fun K hK => ?_ | refine wOs fun K hK => ?_ | refine wQs fun K hK => ?_ | refine CallK_plain ?_ | refine CallQ_plain ?_ | refine CallR_plain ?_ | refine wCond ?_); simp [h1, h2, h3, w1, w2, lv, ouN, kpI, kpR, pos, ren, ren0, renB, renC, renCs]) | (refine wIn ?_; refine And.intro (by kernel_rfl) ?_; try simp only [thenA_n]) | (first | refine wBlock ?_ | refine wScope ?_) | ((first | refine wRet ?_ | refine wExit ?_ | refine wSkip ?_); try simp) | ((first | refine wLabel ?_ | refine wOn ?_ | refine wQn ?_); try simp only [thenA_n])
    all_goals apply hr
    all_goals refine ⟨[], by simp, by simp, ?_⟩
    all_goals simp [Tryd.f41, outR, outB, renB, gaN, lv, ouN, kpI, kpR, pos, ren, ren0, renC, renCs]
theorem lnR_ok {L a tail : Nat} {r : Int × Nat × Nat} {n q : Nat} (h : lnR L a tail r = (0, n, q)) : r.1 = 0 ∧ unzz r.2.1 = n ∧ n ≤ 65536 ∧ q = a + r.2.2 ∧ q + n + tail ≤ L := by
  unfold lnR at h
  split at h
  · rename_i o; simp only [Prod.mk.injEq] at h; exact absurd h.1 o
  · rename_i o
    have o : r.1 = 0 := by simpa using o
    split at h
    · simp at h
    · split at h
      · simp at h
      · split at h
        · simp at h
        · simp only [Prod.mk.injEq, true_and] at h
          obtain ⟨h1, h2⟩ := h
          exact ⟨o, by omega, by omega, h2.symm, by omega⟩
/-- A text, and the place behind it: or an error. -/
def txO (b : List UInt8) (r : Int × Nat × Nat) : Out :=
  if r.1 = 0 then .ret (.p (SB ((b.drop r.2.2).take r.2.1))) [] [.box 65 [.p (.sl 1 (by8 b)), .p (I ((r.2.2 + r.2.1 : Nat) : Int))]]
  else .pan (.iface 70 (.int .i64 r.1)) [.box 65 [.p (.sl 1 (by8 b)), .p (I r.2.2)]]
theorem text_con (b : List UInt8) (a : Nat) (ha : a ≤ b.length) (hb : b.length ≤ 1000000000) : Con Tryd.prog 33 [.ptr 1024 0] [.box 65 [.p (.sl 1 (by8 b)), .p (I a)]] (txO b (lnR b.length a 0 (rdU 0 0 (b.drop a)))) := by
  have hc := length_con b a 0 ha hb (by omega)
  have hok := fun n q => lnR_ok (L := b.length) (a := a) (tail := 0) (r := rdU 0 0 (b.drop a)) (n := n) (q := q)
  generalize lnR b.length a 0 (rdU 0 0 (b.drop a)) = r at hc hok ⊢
  obtain ⟨e, n, q⟩ := r
  unfold txO
  simp only
  by_cases h0 : e = 0
  rotate_left
  · rw [if_neg h0]
    rw [lnO_err h0] at hc
    simp at hc
    refine wBodyG Tryd.tab Tryd.mixed Tryd.func33 rfl rfl Tryd.ntmps33 (by simp) (by simp) fun Q hr hn hp => ?_
    repeat' first | (refine CallK_gen [1024] hc (by decide) (by decide) (by simp [blksOf, inN, pos, renB, ren0]) (by simp [argsG, argG, ren0, inN, pos, renCs, renC]) ?_; simp [GenK, lv, ouN, kpI, kpR, pos, ren, ren0, renB, renC, renCs]) | (refine hK _ ?_; clear hK) | (refine hK _ _ ?_; clear hK) | (clear hK; refine hK _ ?_; clear hK) | (clear hK; clear hK; refine hK _ ?_; clear hK) | (clear hK; clear hK; clear hK; refine hK _ ?_; clear hK) | (clear hK; clear hK; clear hK; clear hK; refine hK _ ?_; clear hK) | (refine wSeq fun K hK => ?_) | ((first | refine wReg ?_ | refine wDrwQ rfl (by kernel_rfl) ?_ | refine wDrwI ?_ | refine wDrw (by kernel_rfl) ?_); simp only [List.map_cons, List.map_nil, strip]) | ((first | refine wIs fun K hK => ?_ | refine wOs fun K hK => ?_ | refine wQs fun K hK => ?_ | refine CallK_plain ?_ | refine CallQ_plain ?_ | refine CallR_plain ?_ | refine wCond ?_); simp [lv, ouN, kpI, kpR, pos, ren, ren0, renB, renC, renCs]) | (refine wIn ?_; refine And.intro (by kernel_rfl) ?_; try simp only [thenA_n]) | (first | refine wBlock ?_ | refine wScope ?_) | ((first | refine wRet ?_ | refine wExit ?_ | refine wSkip ?_); try simp) | ((first | refine wLabel ?_ | refine wOn ?_ | refine wQn ?_); try simp only [thenA_n])
    all_goals try simp only [thenA_p, blockA_p]
    all_goals apply hp
    all_goals simp [AResP, outB, renB, gaN, lv, ouN, kpI, kpR, pos, ren, ren0, renC, renCs]
  subst h0
  rw [if_pos rfl]
  rw [lnO_ok] at hc
  simp at hc
  obtain ⟨-, -, hn, -, hq⟩ := hok n q rfl
  obtain ⟨z, hz⟩ : ∃ z, z = q + n := ⟨_, rfl⟩
  rw [← hz]
  have w1 : IntKind.i64.wrap ((q : Int) + (n : Int)) = (z : Int) := by rw [wrap_id (by omega) (by omega)]; omega
  have hzb : z ≤ b.length := by omega
  have hqz : q ≤ z := by omega
  have ht : (b.take z).drop q = (b.drop q).take n := by rw [hz, List.drop_take]; congr 1; omega
  have d1 := by8_take b z
  have d2 := by8_drop (b.take z) q
  rw [ht] at d2
  have u1 := unL_by8 ((b.drop q).take n)
  have u2 := strOf_by8 ((b.drop q).take n)
  generalize (b.drop q).take n = s at d2 u1 u2 ⊢
  refine wBodyG Tryd.tab Tryd.mixed Tryd.func33 rfl rfl Tryd.ntmps33 (by simp) (by simp) fun Q hr hn hp => ?_
  repeat' first | (refine CallK_gen [1024] hc (by decide) (by decide) (by simp [blksOf, inN, pos, renB, ren0]) (by simp [argsG, argG, ren0, inN, pos, renCs, renC]) ⟨[], by simp, by simp, ?_⟩; simp [lv, ouN, kpI, kpR, pos, ren, ren0, renB, renC, renCs]) | (refine hK _ ?_; clear hK) | (refine hK _ _ ?_; clear hK) | (clear hK; refine hK _ ?_; clear hK) | (clear hK; clear hK; refine hK _ ?_; clear hK) | (clear hK; clear hK; clear hK; refine hK _ ?_; clear hK) | (clear hK; clear hK; clear hK; clear hK; refine hK _ ?_; clear hK) | (refine wSeq fun K hK => ?_) | ((first | refine wReg ?_ | refine wDrwQ rfl (by kernel_rfl) ?_ | refine wDrwI ?_ | refine wDrw (by kernel_rfl) ?_); simp only [List.map_cons, List.map_nil, strip]) | ((first | refine wIs fun K hK => ?_ | refine wOs fun K hK => ?_ | refine wQs fun K hK => ?_ | refine CallK_plain ?_ | refine CallQ_plain ?_ | refine CallR_plain ?_ | refine wCond ?_); simp [w1, hzb, hqz, d1, d2, u1, u2, lv, ouN, kpI, kpR, pos, ren, ren0, renB, renC, renCs]) | (refine wIn ?_; refine And.intro (by kernel_rfl) ?_; try simp only [thenA_n]) | (first | refine wBlock ?_ | refine wScope ?_) | ((first | refine wRet ?_ | refine wExit ?_ | refine wSkip ?_); try simp) | ((first | refine wLabel ?_ | refine wOn ?_ | refine wQn ?_); try simp only [thenA_n])
  all_goals apply hr
  all_goals refine ⟨[], by simp, by simp, ?_⟩
  all_goals simp [Tryd.f33, outR, outB, renB, gaN, lv, ouN, kpI, kpR, pos, ren, ren0, renC, renCs, w1]
end Go.Proofs.YtfilinonmngefaaDoor
