import Derived.Test.YtnjnloonlcknkaaVoteB
namespace Go.Proofs.Ytnjnloonlcknkaa
set_option linter.unusedSimpArgs false
set_option linter.unusedVariables false
open Go Go.Av
attribute [local simp] Try.T

theorem zcmp_pos (a b c d : Int) : 0 < zcmp a b c d ↔ c < a ∨ (c = a ∧ d < b) := by
  unfold zcmp orL cmpInt
  simp only [orL]
  repeat' split
  all_goals omega
theorem better_iff (a b : Vt) : better a b = true ↔ b.e < a.e ∨ (b.e = a.e ∧ (b.le < a.le ∨ (b.le = a.le ∧ (b.ln < a.ln ∨ (b.ln = a.ln ∧ b.c < a.c))))) := by
  unfold better
  split
  · simp; omega
  · split
    · simp only [decide_eq_true_eq, zcmp_pos]; omega
    · simp only [decide_eq_true_eq]; omega
theorem better_ff (a b : Vt) : better a b = false ↔ ¬ (b.e < a.e ∨ (b.e = a.e ∧ (b.le < a.le ∨ (b.le = a.le ∧ (b.ln < a.ln ∨ (b.ln = a.ln ∧ b.c < a.c)))))) := by
  rw [← better_iff]; simp
theorem best3 (a b c : Vt) : (best [a, b, c] = a ∨ best [a, b, c] = b ∨ best [a, b, c] = c) ∧ better a (best [a, b, c]) = false ∧ better b (best [a, b, c]) = false ∧ better c (best [a, b, c]) = false := by
  simp only [best, bestGo]
  by_cases h1 : better b a = true
  · rw [if_pos h1]
    by_cases h2 : better c b = true
    · rw [if_pos h2]
      rw [better_iff] at h1 h2
      simp only [better_ff, or_true, true_and]; omega
    · rw [if_neg h2]
      rw [better_iff] at h1 h2
      simp only [better_ff, true_or, or_true, true_and]; omega
  · rw [if_neg h1]
    by_cases h2 : better c a = true
    · rw [if_pos h2]
      rw [better_iff] at h1 h2
      simp only [better_ff, or_true, true_and]; omega
    · rw [if_neg h2]
      rw [better_iff] at h1 h2
      simp only [better_ff, true_or, true_and]; omega

set_option maxHeartbeats 8000000 in
theorem rises_con (a b c : Vt) : ACon Try.prog 8 [.p (.agg a.cells), .p (.agg b.cells), .p (.agg c.cells)] (.p (B true)) := by
  have hab := better_con a b
  have hba := better_con b a
  have hbc := better_con b c
  have hac := better_con a c
  have hbest := best_con [a, b, c]
  obtain ⟨hm, hma, hmb, hmc⟩ := best3 a b c
  have ham := better_con a (best [a, b, c])
  have hbm := better_con b (best [a, b, c])
  have hcm := better_con c (best [a, b, c])
  rw [hma] at ham
  rw [hmb] at hbm
  rw [hmc] at hcm
  generalize best [a, b, c] = m at hbest hm ham hbm hcm
  clear hma hmb hmc
  have p1 : ¬ (better a b = true ∧ better b a = true) := by rw [better_iff, better_iff]; omega
  have p2 : (a.e = b.e ∧ (a.le = b.le ∧ a.ln = b.ln) ∧ a.c = b.c) ↔ (better a b = false ∧ better b a = false) := by rw [better_ff, better_ff]; omega
  have p3 : better a b = true → better b c = true → better a c = true := by rw [better_iff, better_iff, better_iff]; omega
  obtain ⟨a0, a1, a2, a3, a4, a5, a6⟩ := a
  obtain ⟨b0, b1, b2, b3, b4, b5, b6⟩ := b
  obtain ⟨c0, c1, c2, c3, c4, c5, c6⟩ := c
  obtain ⟨m0, m1, m2, m3, m4, m5, m6⟩ := m
  simp only [Vt.cells, List.map_cons, List.map_nil, List.length_cons, List.length_nil] at hab hba hbc hac hbest ham hbm hcm ⊢
  simp only [Vt.mk.injEq] at hm p2
  generalize better ⟨a0, a1, a2, a3, a4, a5, a6⟩ ⟨b0, b1, b2, b3, b4, b5, b6⟩ = x at hab p1 p2 p3
  generalize better ⟨b0, b1, b2, b3, b4, b5, b6⟩ ⟨a0, a1, a2, a3, a4, a5, a6⟩ = y at hba p1 p2
  generalize better ⟨b0, b1, b2, b3, b4, b5, b6⟩ ⟨c0, c1, c2, c3, c4, c5, c6⟩ = z at hbc p3
  generalize better ⟨a0, a1, a2, a3, a4, a5, a6⟩ ⟨c0, c1, c2, c3, c4, c5, c6⟩ = u at hac p3
  refine wBody Try.tab Try.mixed Try.func8 rfl rfl Try.ntmps8 (by simp) fun Q hr hn => ?_
  refine wSeq fun K0 hK0 => ?_
  repeat' first | (refine hK _ ?_; clear hK) | (refine wReg ?_; simp only [List.map_cons, List.map_nil, strip]) | (refine wDrw (by kernel_rfl) ?_; simp only [List.map_cons, List.map_nil, strip]) | (refine wOs fun K hK => ?_; simp) | (refine wQs fun K hK => ?_; simp) | (refine CallK_plain ?_; simp) | (refine wOn ?_; try simp only [thenA_n]) | (refine wQn ?_; try simp only [thenA_n])
  refine hK0 _ ?_
  clear hK0
  refine wSeq fun K1 hK1 => ?_
  repeat' first | (refine hK _ ?_; clear hK) | (refine wReg ?_; simp only [List.map_cons, List.map_nil, strip]) | (refine wDrw (by kernel_rfl) ?_; simp only [List.map_cons, List.map_nil, strip]) | (refine wOs fun K hK => ?_; simp) | (refine wQs fun K hK => ?_; simp) | (refine CallK_plain ?_; simp) | (refine wOn ?_; try simp only [thenA_n]) | (refine wQn ?_; try simp only [thenA_n]) | (refine ⟨_, hab, rfl, ?_⟩) | (refine CallE.pure (hab) rfl ?_) | (refine ⟨_, hba, rfl, ?_⟩) | (refine CallE.pure (hba) rfl ?_)
  refine hK1 _ ?_
  clear hK1
  refine wSeq fun K2 hK2 => ?_
  have key : ∀ st' : St, st'.s 3 = .ptr 3 0 → st'.s 4 = .ptr 4 0 → st'.s 5 = .ptr 5 0 → st'.s 7 = .p (B x) → st'.s 8 = .p (B y) → st'.s 9 = .p (B (!x && !y)) →
      st'.b 3 = some (.box 38 [.p (I a0), .p (I a1), .p (I a2), .p (I a3), .p (I a4), .p (I a5), .p (I a6)]) →
      st'.b 4 = some (.box 38 [.p (I b0), .p (I b1), .p (I b2), .p (I b3), .p (I b4), .p (I b5), .p (I b6)]) →
      st'.b 5 = some (.box 38 [.p (I c0), .p (I c1), .p (I c2), .p (I c3), .p (I c4), .p (I c5), .p (I c6)]) → K2 st' := by
    intro st' s3 s4 s5 s7 s8 s9 t3 t4 t5
    refine hK2 st' ?_
    clear hK2
    refine wSeq fun K3 hK3 => ?_
    have key2 : ∀ st' : St, st'.s 3 = .ptr 3 0 → st'.s 4 = .ptr 4 0 → st'.s 5 = .ptr 5 0 →
      st'.b 3 = some (.box 38 [.p (I a0), .p (I a1), .p (I a2), .p (I a3), .p (I a4), .p (I a5), .p (I a6)]) →
      st'.b 4 = some (.box 38 [.p (I b0), .p (I b1), .p (I b2), .p (I b3), .p (I b4), .p (I b5), .p (I b6)]) →
      st'.b 5 = some (.box 38 [.p (I c0), .p (I c1), .p (I c2), .p (I c3), .p (I c4), .p (I c5), .p (I c6)]) → K3 st' := by
      intro st' s3 s4 s5 t3 t4 t5
      refine hK3 st' ?_
      clear hK3 s7 s8 s9 hab hba hbc hac p1 p2 p3
      by_cases e1 : m0 = a0 ∧ m1 = a1 ∧ m2 = a2 ∧ m3 = a3 ∧ m4 = a4 ∧ m5 = a5 ∧ m6 = a6
      · obtain ⟨rfl, rfl, rfl, rfl, rfl, rfl, rfl⟩ := e1
        repeat' first | (refine hK _ ?_; clear hK) | (clear hK; refine hK _ ?_; clear hK) | (clear hK; clear hK; refine hK _ ?_; clear hK) | (clear hK; clear hK; clear hK; refine hK _ ?_; clear hK) | (clear hK; clear hK; clear hK; clear hK; refine hK _ ?_; clear hK) | (refine wSeq fun K hK => ?_) | (refine wReg ?_; simp only [List.map_cons, List.map_nil, strip]) | (refine wDrw (by kernel_rfl) ?_; simp only [List.map_cons, List.map_nil, strip]) | (refine wOs fun K hK => ?_; simp [s3, s4, s5, t3, t4, t5]) | (refine wQs fun K hK => ?_; simp [s3, s4, s5, t3, t4, t5]) | (refine CallK_plain ?_; simp [s3, s4, s5, t3, t4, t5]) | (refine wRet ?_; try simp) | (refine wCond ?_; simp [s3, s4, s5, t3, t4, t5]) | (refine wBlock ?_) | (refine wExit ?_; try simp) | (refine wSkip ?_; try simp) | (refine wOn ?_; try simp only [thenA_n]) | (refine wQn ?_; try simp only [thenA_n]) | (refine ⟨_, hbest, rfl, ?_⟩) | (refine CallE.pure (hbest) rfl ?_) | (refine ⟨_, ham, rfl, ?_⟩) | (refine CallE.pure (ham) rfl ?_) | (refine ⟨_, hbm, rfl, ?_⟩) | (refine CallE.pure (hbm) rfl ?_) | (refine ⟨_, hcm, rfl, ?_⟩) | (refine CallE.pure (hcm) rfl ?_) | (refine ⟨_, awake17_con, rfl, ?_⟩) | (refine CallE.pure (awake17_con) rfl ?_)
        apply hr
        simp [Try.f8]
      · have f1 : (m0 == a0 && (m1 == a1 && (m2 == a2 && (m3 == a3 && (m4 == a4 && (m5 == a5 && m6 == a6)))))) = false := by
          rw [Bool.eq_false_iff]; simpa using e1
        have g1 : (m0 = a0 ∧ m1 = a1 ∧ m2 = a2 ∧ m3 = a3 ∧ m4 = a4 ∧ m5 = a5 ∧ m6 = a6) ↔ False := by simpa using e1
        by_cases e2 : m0 = b0 ∧ m1 = b1 ∧ m2 = b2 ∧ m3 = b3 ∧ m4 = b4 ∧ m5 = b5 ∧ m6 = b6
        · obtain ⟨rfl, rfl, rfl, rfl, rfl, rfl, rfl⟩ := e2
          repeat' first | (refine hK _ ?_; clear hK) | (clear hK; refine hK _ ?_; clear hK) | (clear hK; clear hK; refine hK _ ?_; clear hK) | (clear hK; clear hK; clear hK; refine hK _ ?_; clear hK) | (clear hK; clear hK; clear hK; clear hK; refine hK _ ?_; clear hK) | (refine wSeq fun K hK => ?_) | (refine wReg ?_; simp only [List.map_cons, List.map_nil, strip]) | (refine wDrw (by kernel_rfl) ?_; simp only [List.map_cons, List.map_nil, strip]) | (refine wOs fun K hK => ?_; simp [s3, s4, s5, t3, t4, t5, g1, f1]) | (refine wQs fun K hK => ?_; simp [s3, s4, s5, t3, t4, t5, g1, f1]) | (refine CallK_plain ?_; simp [s3, s4, s5, t3, t4, t5, g1, f1]) | (refine wRet ?_; try simp) | (refine wCond ?_; simp [s3, s4, s5, t3, t4, t5, g1, f1]) | (refine wBlock ?_) | (refine wExit ?_; try simp) | (refine wSkip ?_; try simp) | (refine wOn ?_; try simp only [thenA_n]) | (refine wQn ?_; try simp only [thenA_n]) | (refine ⟨_, hbest, rfl, ?_⟩) | (refine CallE.pure (hbest) rfl ?_) | (refine ⟨_, ham, rfl, ?_⟩) | (refine CallE.pure (ham) rfl ?_) | (refine ⟨_, hbm, rfl, ?_⟩) | (refine CallE.pure (hbm) rfl ?_) | (refine ⟨_, hcm, rfl, ?_⟩) | (refine CallE.pure (hcm) rfl ?_) | (refine ⟨_, awake17_con, rfl, ?_⟩) | (refine CallE.pure (awake17_con) rfl ?_)
          apply hr
          simp [Try.f8]
        · have f2 : (m0 == b0 && (m1 == b1 && (m2 == b2 && (m3 == b3 && (m4 == b4 && (m5 == b5 && m6 == b6)))))) = false := by
            rw [Bool.eq_false_iff]; simpa using e2
          have g2 : (m0 = b0 ∧ m1 = b1 ∧ m2 = b2 ∧ m3 = b3 ∧ m4 = b4 ∧ m5 = b5 ∧ m6 = b6) ↔ False := by simpa using e2
          rw [g1, g2] at hm
          simp only [false_or] at hm
          obtain ⟨rfl, rfl, rfl, rfl, rfl, rfl, rfl⟩ := hm
          repeat' first | (refine hK _ ?_; clear hK) | (clear hK; refine hK _ ?_; clear hK) | (clear hK; clear hK; refine hK _ ?_; clear hK) | (clear hK; clear hK; clear hK; refine hK _ ?_; clear hK) | (clear hK; clear hK; clear hK; clear hK; refine hK _ ?_; clear hK) | (refine wSeq fun K hK => ?_) | (refine wReg ?_; simp only [List.map_cons, List.map_nil, strip]) | (refine wDrw (by kernel_rfl) ?_; simp only [List.map_cons, List.map_nil, strip]) | (refine wOs fun K hK => ?_; simp [s3, s4, s5, t3, t4, t5, g1, f1, g2, f2]) | (refine wQs fun K hK => ?_; simp [s3, s4, s5, t3, t4, t5, g1, f1, g2, f2]) | (refine CallK_plain ?_; simp [s3, s4, s5, t3, t4, t5, g1, f1, g2, f2]) | (refine wRet ?_; try simp) | (refine wCond ?_; simp [s3, s4, s5, t3, t4, t5, g1, f1, g2, f2]) | (refine wBlock ?_) | (refine wExit ?_; try simp) | (refine wSkip ?_; try simp) | (refine wOn ?_; try simp only [thenA_n]) | (refine wQn ?_; try simp only [thenA_n]) | (refine ⟨_, hbest, rfl, ?_⟩) | (refine CallE.pure (hbest) rfl ?_) | (refine ⟨_, ham, rfl, ?_⟩) | (refine CallE.pure (ham) rfl ?_) | (refine ⟨_, hbm, rfl, ?_⟩) | (refine CallE.pure (hbm) rfl ?_) | (refine ⟨_, hcm, rfl, ?_⟩) | (refine CallE.pure (hcm) rfl ?_) | (refine ⟨_, awake17_con, rfl, ?_⟩) | (refine CallE.pure (awake17_con) rfl ?_)
          apply hr
          simp [Try.f8]
    clear hK3 ham hbm hcm hm hbest
    cases x <;> cases y <;> cases z <;> cases u <;> simp at p1 p2 p3 s7 s8 s9
    all_goals (repeat' first | (refine hK _ ?_; clear hK) | (clear hK; refine hK _ ?_; clear hK) | (clear hK; clear hK; refine hK _ ?_; clear hK) | (clear hK; clear hK; clear hK; refine hK _ ?_; clear hK) | (clear hK; clear hK; clear hK; clear hK; refine hK _ ?_; clear hK) | (refine wSeq fun K hK => ?_) | (refine wReg ?_; simp only [List.map_cons, List.map_nil, strip]) | (refine wDrw (by kernel_rfl) ?_; simp only [List.map_cons, List.map_nil, strip]) | (refine wOs fun K hK => ?_; simp [s3, s4, s5, s7, s8, s9, t3, t4, t5]) | (refine wQs fun K hK => ?_; simp [s3, s4, s5, s7, s8, s9, t3, t4, t5]) | (refine CallK_plain ?_; simp [s3, s4, s5, s7, s8, s9, t3, t4, t5]) | (refine wRet ?_; try simp) | (refine wCond ?_; simp [s3, s4, s5, s7, s8, s9, t3, t4, t5]) | (refine wBlock ?_) | (refine wExit ?_; try simp) | (refine wSkip ?_; try simp) | (refine wOn ?_; try simp only [thenA_n]) | (refine wQn ?_; try simp only [thenA_n]) | (refine ⟨_, hbc, rfl, ?_⟩) | (refine CallE.pure (hbc) rfl ?_) | (refine ⟨_, hac, rfl, ?_⟩) | (refine CallE.pure (hac) rfl ?_))
    all_goals apply key2
    all_goals simp [s3, s4, s5, t3, t4, t5]
  clear hK2
  by_cases he : a2 = b2
  · subst he
    by_cases hl : a3 = b3 ∧ a4 = b4
    · obtain ⟨rfl, rfl⟩ := hl
      by_cases hc : a5 = b5
      · subst hc
        obtain ⟨rfl, rfl⟩ := p2.1 (by simp)
        repeat' first | (refine hK _ ?_; clear hK) | (refine wReg ?_; simp only [List.map_cons, List.map_nil, strip]) | (refine wDrw (by kernel_rfl) ?_; simp only [List.map_cons, List.map_nil, strip]) | (refine wOs fun K hK => ?_; simp) | (refine wQs fun K hK => ?_; simp) | (refine CallK_plain ?_; simp) | (refine wOn ?_; try simp only [thenA_n]) | (refine wQn ?_; try simp only [thenA_n])
        (apply key <;> simp)
      · repeat' first | (refine hK _ ?_; clear hK) | (refine wReg ?_; simp only [List.map_cons, List.map_nil, strip]) | (refine wDrw (by kernel_rfl) ?_; simp only [List.map_cons, List.map_nil, strip]) | (refine wOs fun K hK => ?_; simp [hc]) | (refine wQs fun K hK => ?_; simp [hc]) | (refine CallK_plain ?_; simp [hc]) | (refine wOn ?_; try simp only [thenA_n]) | (refine wQn ?_; try simp only [thenA_n]) | (intro _)
        have hp : (!x && !y) = false := by
          cases x <;> cases y <;> simp [hc] at p1 p2 ⊢
        all_goals first | exact hc | (apply key <;> simp [hp, hc])
    · have hp : (!x && !y) = false := by
        cases x <;> cases y <;> simp at p1 p2 ⊢
        exact hl p2.1
      repeat' first | (refine hK _ ?_; clear hK) | (refine wReg ?_; simp only [List.map_cons, List.map_nil, strip]) | (refine wDrw (by kernel_rfl) ?_; simp only [List.map_cons, List.map_nil, strip]) | (refine wOs fun K hK => ?_; simp [hl]) | (refine wQs fun K hK => ?_; simp [hl]) | (refine CallK_plain ?_; simp [hl]) | (refine wOn ?_; try simp only [thenA_n]) | (refine wQn ?_; try simp only [thenA_n]) | (intro _)
      apply key <;> simp [hp]
  · have hp : (!x && !y) = false := by
      cases x <;> cases y <;> simp at p1 p2 ⊢
      exact he p2.1
    repeat' first | (refine hK _ ?_; clear hK) | (refine wReg ?_; simp only [List.map_cons, List.map_nil, strip]) | (refine wDrw (by kernel_rfl) ?_; simp only [List.map_cons, List.map_nil, strip]) | (refine wOs fun K hK => ?_; simp [he]) | (refine wQs fun K hK => ?_; simp [he]) | (refine CallK_plain ?_; simp [he]) | (refine wOn ?_; try simp only [thenA_n]) | (refine wQn ?_; try simp only [thenA_n]) | (intro _)
    apply key <;> simp [hp]

end Go.Proofs.Ytnjnloonlcknkaa
