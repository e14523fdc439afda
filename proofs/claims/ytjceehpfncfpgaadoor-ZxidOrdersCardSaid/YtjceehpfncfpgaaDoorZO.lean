/- The law ZxidOrders, cut into three parts. -/
import Derived.Test.YtjceehpfncfpgaaDoorZM
namespace Go.Proofs.YtjceehpfncfpgaaDoor
set_option linter.unusedSimpArgs false
set_option linter.unusedVariables false
open Go Go.Av
attribute [local simp] Tryd.T1 Tryd.T2 Tryd.T3 Tryd.T4 Tryd.T5 Tryd.T9 Tryd.T12 Tryd.T21 Tryd.T23 Tryd.T24 Tryd.T25 Tryd.T27 Tryd.T28 Tryd.T29 Tryd.T30 Tryd.T31 Tryd.T33 Tryd.T34 Tryd.T35 Tryd.T36 Tryd.T37 Tryd.T38 Tryd.T39 Tryd.T40 Tryd.T41 Tryd.T42 Tryd.T44 Tryd.T45 Tryd.T47 Tryd.T49 Tryd.T50 Tryd.T51 Tryd.T52 Tryd.T53 Tryd.T54 Tryd.T55 Tryd.T56 Tryd.T57 Tryd.T59 Tryd.T60 Tryd.T61 Tryd.T62 Tryd.T63 Tryd.T64 Tryd.T66 Tryd.T68 Tryd.T69 Tryd.T70 Tryd.T71 Tryd.T72 Tryd.T73 Tryd.T75 Tryd.T76 Tryd.T77 Tryd.T78 Tryd.T79 Tryd.T80 Tryd.T81 Tryd.T83 Tryd.T84 Tryd.T85 Tryd.T86 Tryd.T87 Tryd.T88 Tryd.T89 Tryd.T90 Tryd.T91 Tryd.T92 Tryd.T93 Tryd.T94 Tryd.T95 Tryd.T96 Tryd.T98 Tryd.T99 Tryd.T101 Tryd.T102 Tryd.T104 Tryd.T105 Tryd.T106 Tryd.T108 Tryd.T109 Tryd.T112 Tryd.T113 Tryd.T114 Tryd.T115 Tryd.T116 Tryd.T122 Tryd.T125
attribute [local irreducible] Go.Av.CallK Go.Av.CallE Go.Av.CallQ Go.Av.CallF Go.Av.Con
def sfxZ : Code → Nat → Code
  | c, 0 => c
  | .seq _ y, n + 1 => sfxZ y n
  | c, _ => c
def sfz (fn : Func) (n : Nat) : Code := match fn.body with
  | some b => sfxZ b n
  | none => .skip
theorem zcmp_lt (a b c d : Int) : zcmp a b c d < 0 ↔ a < c ∨ (a = c ∧ b < d) := by
  rw [zcmp_spec]
  split
  · omega
  · split <;> omega
theorem zcmp_gt (a b c d : Int) : 0 < zcmp a b c d ↔ c < a ∨ (c = a ∧ d < b) := zcmp_pos a b c d
theorem zcmp_flip (a b c d : Int) : zcmp c d a b = - zcmp a b c d := by
  rw [zcmp_spec, zcmp_spec]
  split <;> split <;> (try split) <;> (try split) <;> omega
theorem zcmp_rng (a b c d : Int) : -1 ≤ zcmp a b c d ∧ zcmp a b c d ≤ 1 := by
  rw [zcmp_spec]
  split
  · omega
  · split <;> omega
def FZ (a b c : Zx) (st : St) : Prop := st.s 3 = .ptr 3 0 ∧ st.s 4 = .ptr 4 0 ∧ st.s 5 = .ptr 5 0 ∧
  st.b 3 = some (.box 23 [.p (I a.e), .p (I a.n)]) ∧ st.b 4 = some (.box 23 [.p (I b.e), .p (I b.n)]) ∧ st.b 5 = some (.box 23 [.p (I c.e), .p (I c.n)])
theorem zle_trans {a b c : Zx} (h1 : ¬ zcmp a.e a.n b.e b.n < 0) (h2 : ¬ zcmp b.e b.n c.e c.n < 0) : ¬ zcmp a.e a.n c.e c.n < 0 := by
  rw [zcmp_lt] at *; omega
theorem zself (a : Zx) : zcmp a.e a.n a.e a.n = 0 := by rw [zcmp_spec]; simp
theorem last3 (a b c : Zx) : (lastZ [a, b, c] = a ∨ lastZ [a, b, c] = b ∨ lastZ [a, b, c] = c) ∧ ¬ zcmp (lastZ [a, b, c]).e (lastZ [a, b, c]).n a.e a.n < 0 ∧ ¬ zcmp (lastZ [a, b, c]).e (lastZ [a, b, c]).n b.e b.n < 0 ∧ ¬ zcmp (lastZ [a, b, c]).e (lastZ [a, b, c]).n c.e c.n < 0 := by
  simp only [lastZ, List.foldl_cons, List.foldl_nil]
  have hz := fun x : Zx => zself x
  have tr := fun {x y z : Zx} => zle_trans (a := x) (b := y) (c := z)
  by_cases h1 : 0 < zcmp b.e b.n a.e a.n
  · simp only [if_pos h1]
    by_cases h2 : 0 < zcmp c.e c.n b.e b.n
    · simp only [if_pos h2]
      exact ⟨by simp, tr (y := b) (by omega) (by omega), by omega, by rw [hz]; omega⟩
    · simp only [if_neg h2]
      have := zcmp_flip b.e b.n c.e c.n
      exact ⟨by simp, by omega, by rw [hz]; omega, by omega⟩
  · simp only [if_neg h1]
    have f1 := zcmp_flip a.e a.n b.e b.n
    by_cases h2 : 0 < zcmp c.e c.n a.e a.n
    · simp only [if_pos h2]
      exact ⟨by simp, by omega, tr (y := a) (by omega) (by omega), by rw [hz]; omega⟩
    · simp only [if_neg h2]
      have f2 := zcmp_flip a.e a.n c.e c.n
      exact ⟨by simp, by rw [hz]; omega, by omega, by omega⟩
set_option maxHeartbeats 4000000 in
theorem zo7 {Q : AExit → St → Prop} {st : St} (a b c : Zx) (hr : ∀ st, st.s 6 = .p (B true) → Q .ret st) (h0 : FZ a b c st) : WC Tryd.prog Tryd.T Tryd.f6.ntmps (sfz Tryd.f6 5) Q st := by
  rw [Tryd.ntmps6]
  obtain ⟨g3, g4, g5, q3, q4, q5⟩ := h0
  obtain ⟨hm, u1, u2, u3⟩ := last3 a b c
  have c1 := last_con [a, b, c]
  simp only [zxs, List.map_cons, List.map_nil] at c1
  generalize lastZ [a, b, c] = m at c1 hm u1 u2 u3
  have c2 := cmp_con m.e m.n a.e a.n
  have c3 := cmp_con m.e m.n b.e b.n
  have c4 := cmp_con m.e m.n c.e c.n
  generalize zcmp m.e m.n a.e a.n = x at c2 u1
  generalize zcmp m.e m.n b.e b.n = y at c3 u2
  generalize zcmp m.e m.n c.e c.n = z at c4 u3
  show WC Tryd.prog Tryd.T _ (Code.seq _ _) Q st
  replace u1 : 0 ≤ x := by omega
  replace u2 : 0 ≤ y := by omega
  replace u3 : 0 ≤ z := by omega
  by_cases k1 : m.e = a.e ∧ m.n = a.n
  · obtain ⟨k1, k2⟩ := k1
    have k1 : (m.e = a.e) = True := eq_true k1
    have k2 : (m.n = a.n) = True := eq_true k2
    repeat' first | (refine hK _ ?_; clear hK) | (refine hK _ _ ?_; clear hK) | (clear hK; refine hK _ ?_; clear hK) | (clear hK; clear hK; refine hK _ ?_; clear hK) | (clear hK; clear hK; clear hK; refine hK _ ?_; clear hK) | (clear hK; clear hK; clear hK; clear hK; refine hK _ ?_; clear hK) | (refine wSeq fun K hK => ?_) | (refine wReg ?_; simp only [List.map_cons, List.map_nil, strip]) | (refine wDrwQ rfl (by kernel_rfl) ?_; simp only [List.map_cons, List.map_nil, strip]) | (refine wDrwI ?_; simp only [List.map_cons, List.map_nil, strip]) | (refine wDrw (by kernel_rfl) ?_; simp only [List.map_cons, List.map_nil, strip]) | (refine wIs fun K hK => ?_; simp [g3, g4, g5, q3, q4, q5, k1, k2, u1, u2, u3]) | (refine wIn ?_; refine And.intro (by kernel_rfl) ?_; try simp only [thenA_n]) | (refine wOs fun K hK => ?_; simp [g3, g4, g5, q3, q4, q5, k1, k2, u1, u2, u3]) | (refine wQs fun K hK => ?_; simp [g3, g4, g5, q3, q4, q5, k1, k2, u1, u2, u3]) | (refine CallK_plain ?_; simp [g3, g4, g5, q3, q4, q5, k1, k2, u1, u2, u3]) | (refine CallQ_plain ?_; simp [g3, g4, g5, q3, q4, q5, k1, k2, u1, u2, u3]) | (refine wRet ?_; try simp) | (refine wCond ?_; simp [g3, g4, g5, q3, q4, q5, k1, k2, u1, u2, u3]) | (refine wBlock ?_) | (refine wScope ?_) | (refine wExit ?_; try simp) | (refine wSkip ?_; try simp) | (refine wOn ?_; try simp only [thenA_n]) | (refine wQn ?_; try simp only [thenA_n]) | (refine CallE.pure (c1) rfl ?_) | (refine CallE.lent (c1) rfl ?_) | (refine CallF.pure (c1) rfl ?_) | (refine CallF.lent (c1) rfl ?_) | (refine CallE.own (c1) ?_) | (refine CallE.pure (c2) rfl ?_) | (refine CallE.lent (c2) rfl ?_) | (refine CallF.pure (c2) rfl ?_) | (refine CallF.lent (c2) rfl ?_) | (refine CallE.own (c2) ?_) | (refine CallE.pure (c3) rfl ?_) | (refine CallE.lent (c3) rfl ?_) | (refine CallF.pure (c3) rfl ?_) | (refine CallF.lent (c3) rfl ?_) | (refine CallE.own (c3) ?_) | (refine CallE.pure (c4) rfl ?_) | (refine CallE.lent (c4) rfl ?_) | (refine CallF.pure (c4) rfl ?_) | (refine CallF.lent (c4) rfl ?_) | (refine CallE.own (c4) ?_) | (refine CallE.pure (awake02) rfl ?_) | (refine CallE.lent (awake02) rfl ?_) | (refine CallF.pure (awake02) rfl ?_) | (refine CallF.lent (awake02) rfl ?_) | (refine CallE.own (awake02) ?_)
    refine hr _ (by simp)
  have hp1 : (m.e == a.e && m.n == a.n) = false := by simp; intro h; exact fun h' => k1 ⟨h, h'⟩
  by_cases k2 : m.e = b.e ∧ m.n = b.n
  · obtain ⟨k3, k4⟩ := k2
    have k3 : (m.e = b.e) = True := eq_true k3
    have k4 : (m.n = b.n) = True := eq_true k4
    repeat' first | (refine hK _ ?_; clear hK) | (refine hK _ _ ?_; clear hK) | (clear hK; refine hK _ ?_; clear hK) | (clear hK; clear hK; refine hK _ ?_; clear hK) | (clear hK; clear hK; clear hK; refine hK _ ?_; clear hK) | (clear hK; clear hK; clear hK; clear hK; refine hK _ ?_; clear hK) | (refine wSeq fun K hK => ?_) | (refine wReg ?_; simp only [List.map_cons, List.map_nil, strip]) | (refine wDrwQ rfl (by kernel_rfl) ?_; simp only [List.map_cons, List.map_nil, strip]) | (refine wDrwI ?_; simp only [List.map_cons, List.map_nil, strip]) | (refine wDrw (by kernel_rfl) ?_; simp only [List.map_cons, List.map_nil, strip]) | (refine wIs fun K hK => ?_; simp [g3, g4, g5, q3, q4, q5, hp1, k3, k4, u1, u2, u3]) | (refine wIn ?_; refine And.intro (by kernel_rfl) ?_; try simp only [thenA_n]) | (refine wOs fun K hK => ?_; simp [g3, g4, g5, q3, q4, q5, hp1, k3, k4, u1, u2, u3]) | (refine wQs fun K hK => ?_; simp [g3, g4, g5, q3, q4, q5, hp1, k3, k4, u1, u2, u3]) | (refine CallK_plain ?_; simp [g3, g4, g5, q3, q4, q5, hp1, k3, k4, u1, u2, u3]) | (refine CallQ_plain ?_; simp [g3, g4, g5, q3, q4, q5, hp1, k3, k4, u1, u2, u3]) | (refine wRet ?_; try simp) | (refine wCond ?_; simp [g3, g4, g5, q3, q4, q5, hp1, k3, k4, u1, u2, u3]) | (refine wBlock ?_) | (refine wScope ?_) | (refine wExit ?_; try simp) | (refine wSkip ?_; try simp) | (refine wOn ?_; try simp only [thenA_n]) | (refine wQn ?_; try simp only [thenA_n]) | (refine CallE.pure (c1) rfl ?_) | (refine CallE.lent (c1) rfl ?_) | (refine CallF.pure (c1) rfl ?_) | (refine CallF.lent (c1) rfl ?_) | (refine CallE.own (c1) ?_) | (refine CallE.pure (c2) rfl ?_) | (refine CallE.lent (c2) rfl ?_) | (refine CallF.pure (c2) rfl ?_) | (refine CallF.lent (c2) rfl ?_) | (refine CallE.own (c2) ?_) | (refine CallE.pure (c3) rfl ?_) | (refine CallE.lent (c3) rfl ?_) | (refine CallF.pure (c3) rfl ?_) | (refine CallF.lent (c3) rfl ?_) | (refine CallE.own (c3) ?_) | (refine CallE.pure (c4) rfl ?_) | (refine CallE.lent (c4) rfl ?_) | (refine CallF.pure (c4) rfl ?_) | (refine CallF.lent (c4) rfl ?_) | (refine CallE.own (c4) ?_) | (refine CallE.pure (awake02) rfl ?_) | (refine CallE.lent (awake02) rfl ?_) | (refine CallF.pure (awake02) rfl ?_) | (refine CallF.lent (awake02) rfl ?_) | (refine CallE.own (awake02) ?_) | (intro h h'; exact absurd ⟨h, h'⟩ k1)
    refine hr _ (by simp)
  have hp2 : (m.e == b.e && m.n == b.n) = false := by simp; intro h; exact fun h' => k2 ⟨h, h'⟩
  have k3 : m = c := by
    rcases hm with rfl | rfl | rfl
    · exact absurd ⟨rfl, rfl⟩ k1
    · exact absurd ⟨rfl, rfl⟩ k2
    · rfl
  subst k3
  repeat' first | (refine hK _ ?_; clear hK) | (refine hK _ _ ?_; clear hK) | (clear hK; refine hK _ ?_; clear hK) | (clear hK; clear hK; refine hK _ ?_; clear hK) | (clear hK; clear hK; clear hK; refine hK _ ?_; clear hK) | (clear hK; clear hK; clear hK; clear hK; refine hK _ ?_; clear hK) | (refine wSeq fun K hK => ?_) | (refine wReg ?_; simp only [List.map_cons, List.map_nil, strip]) | (refine wDrwQ rfl (by kernel_rfl) ?_; simp only [List.map_cons, List.map_nil, strip]) | (refine wDrwI ?_; simp only [List.map_cons, List.map_nil, strip]) | (refine wDrw (by kernel_rfl) ?_; simp only [List.map_cons, List.map_nil, strip]) | (refine wIs fun K hK => ?_; simp [g3, g4, g5, q3, q4, q5, hp1, hp2, u1, u2, u3]) | (refine wIn ?_; refine And.intro (by kernel_rfl) ?_; try simp only [thenA_n]) | (refine wOs fun K hK => ?_; simp [g3, g4, g5, q3, q4, q5, hp1, hp2, u1, u2, u3]) | (refine wQs fun K hK => ?_; simp [g3, g4, g5, q3, q4, q5, hp1, hp2, u1, u2, u3]) | (refine CallK_plain ?_; simp [g3, g4, g5, q3, q4, q5, hp1, hp2, u1, u2, u3]) | (refine CallQ_plain ?_; simp [g3, g4, g5, q3, q4, q5, hp1, hp2, u1, u2, u3]) | (refine wRet ?_; try simp) | (refine wCond ?_; simp [g3, g4, g5, q3, q4, q5, hp1, hp2, u1, u2, u3]) | (refine wBlock ?_) | (refine wScope ?_) | (refine wExit ?_; try simp) | (refine wSkip ?_; try simp) | (refine wOn ?_; try simp only [thenA_n]) | (refine wQn ?_; try simp only [thenA_n]) | (refine CallE.pure (c1) rfl ?_) | (refine CallE.lent (c1) rfl ?_) | (refine CallF.pure (c1) rfl ?_) | (refine CallF.lent (c1) rfl ?_) | (refine CallE.own (c1) ?_) | (refine CallE.pure (c2) rfl ?_) | (refine CallE.lent (c2) rfl ?_) | (refine CallF.pure (c2) rfl ?_) | (refine CallF.lent (c2) rfl ?_) | (refine CallE.own (c2) ?_) | (refine CallE.pure (c3) rfl ?_) | (refine CallE.lent (c3) rfl ?_) | (refine CallF.pure (c3) rfl ?_) | (refine CallF.lent (c3) rfl ?_) | (refine CallE.own (c3) ?_) | (refine CallE.pure (c4) rfl ?_) | (refine CallE.lent (c4) rfl ?_) | (refine CallF.pure (c4) rfl ?_) | (refine CallF.lent (c4) rfl ?_) | (refine CallE.own (c4) ?_) | (refine CallE.pure (awake02) rfl ?_) | (refine CallE.lent (awake02) rfl ?_) | (refine CallF.pure (awake02) rfl ?_) | (refine CallF.lent (awake02) rfl ?_) | (refine CallE.own (awake02) ?_)
  refine hr _ (by simp)
set_option maxHeartbeats 4000000 in
theorem zo4 {Q : AExit → St → Prop} {st : St} (a b c : Zx) (hr : ∀ st, st.s 6 = .p (B true) → Q .ret st) (h0 : FZ a b c st) : WC Tryd.prog Tryd.T Tryd.f6.ntmps (sfz Tryd.f6 3) Q st := by
  obtain ⟨g3, g4, g5, q3, q4, q5⟩ := h0
  have c1 := next_con a.e a.n
  have c3 := cmp_con a.e a.n b.e b.n
  have h7 := fun {Q} {st} h h' => zo7 (Q := Q) (st := st) a b c h h'
  rw [Tryd.ntmps6] at h7 ⊢
  show WC Tryd.prog Tryd.T _ (Code.seq _ _) Q st
  by_cases hE : nextE a.e a.n = 0
  · have hN : nextN a.e a.n = (a.e, a.n + 1) := by simp [nextN, hE]
    rw [hN, hE] at c1
    have c2 := cmp_con a.e a.n a.e (a.n + 1)
    have h2 : ¬ 0 ≤ zcmp a.e a.n a.e (a.n + 1) := by have := zcmp_lt a.e a.n a.e (a.n + 1); omega
    have c4 := cmp_con b.e b.n a.e (a.n + 1)
    have h4 : zcmp a.e a.n b.e b.n < 0 → ¬ zcmp b.e b.n a.e (a.n + 1) < 0 := by rw [zcmp_lt, zcmp_lt]; omega
    generalize zcmp a.e a.n a.e (a.n + 1) = u at c2 h2
    generalize zcmp b.e b.n a.e (a.n + 1) = w at c4 h4
    generalize a.n + 1 = n1 at c1 c2 c4
    generalize zcmp a.e a.n b.e b.n = x at c3 h4
    by_cases hx : x < 0
    · have h4 := h4 hx
      repeat' first | (refine h7 hr ?_) | (refine hK _ ?_; clear hK) | (refine hK _ _ ?_; clear hK) | (clear hK; refine hK _ ?_; clear hK) | (clear hK; clear hK; refine hK _ ?_; clear hK) | (clear hK; clear hK; clear hK; refine hK _ ?_; clear hK) | (clear hK; clear hK; clear hK; clear hK; refine hK _ ?_; clear hK) | (refine wSeq fun K hK => ?_) | (refine wReg ?_; simp only [List.map_cons, List.map_nil, strip]) | (refine wDrwQ rfl (by kernel_rfl) ?_; simp only [List.map_cons, List.map_nil, strip]) | (refine wDrwI ?_; simp only [List.map_cons, List.map_nil, strip]) | (refine wDrw (by kernel_rfl) ?_; simp only [List.map_cons, List.map_nil, strip]) | (refine wIs fun K hK => ?_; simp [g3, g4, g5, q3, q4, q5, h2, hx, h4]) | (refine wIn ?_; refine And.intro (by kernel_rfl) ?_; try simp only [thenA_n]) | (refine wOs fun K hK => ?_; simp [g3, g4, g5, q3, q4, q5, h2, hx, h4]) | (refine wQs fun K hK => ?_; simp [g3, g4, g5, q3, q4, q5, h2, hx, h4]) | (refine CallK_plain ?_; simp [g3, g4, g5, q3, q4, q5, h2, hx, h4]) | (refine CallQ_plain ?_; simp [g3, g4, g5, q3, q4, q5, h2, hx, h4]) | (refine wRet ?_; try simp) | (refine wCond ?_; simp [g3, g4, g5, q3, q4, q5, h2, hx, h4]) | (refine wBlock ?_) | (refine wScope ?_) | (refine wExit ?_; try simp) | (refine wSkip ?_; try simp) | (refine wOn ?_; try simp only [thenA_n]) | (refine wQn ?_; try simp only [thenA_n]) | (refine CallE.pure (c1) rfl ?_) | (refine CallE.lent (c1) rfl ?_) | (refine CallF.pure (c1) rfl ?_) | (refine CallF.lent (c1) rfl ?_) | (refine CallE.own (c1) ?_) | (refine CallE.pure (c2) rfl ?_) | (refine CallE.lent (c2) rfl ?_) | (refine CallF.pure (c2) rfl ?_) | (refine CallF.lent (c2) rfl ?_) | (refine CallE.own (c2) ?_) | (refine CallE.pure (c3) rfl ?_) | (refine CallE.lent (c3) rfl ?_) | (refine CallF.pure (c3) rfl ?_) | (refine CallF.lent (c3) rfl ?_) | (refine CallE.own (c3) ?_) | (refine CallE.pure (c4) rfl ?_) | (refine CallE.lent (c4) rfl ?_) | (refine CallF.pure (c4) rfl ?_) | (refine CallF.lent (c4) rfl ?_) | (refine CallE.own (c4) ?_)
      exact ⟨by simp [g3], by simp [g4], by simp [g5], by simp [q3], by simp [q4], by simp [q5]⟩
    · repeat' first | (refine h7 hr ?_) | (refine hK _ ?_; clear hK) | (refine hK _ _ ?_; clear hK) | (clear hK; refine hK _ ?_; clear hK) | (clear hK; clear hK; refine hK _ ?_; clear hK) | (clear hK; clear hK; clear hK; refine hK _ ?_; clear hK) | (clear hK; clear hK; clear hK; clear hK; refine hK _ ?_; clear hK) | (refine wSeq fun K hK => ?_) | (refine wReg ?_; simp only [List.map_cons, List.map_nil, strip]) | (refine wDrwQ rfl (by kernel_rfl) ?_; simp only [List.map_cons, List.map_nil, strip]) | (refine wDrwI ?_; simp only [List.map_cons, List.map_nil, strip]) | (refine wDrw (by kernel_rfl) ?_; simp only [List.map_cons, List.map_nil, strip]) | (refine wIs fun K hK => ?_; simp [g3, g4, g5, q3, q4, q5, h2, hx]) | (refine wIn ?_; refine And.intro (by kernel_rfl) ?_; try simp only [thenA_n]) | (refine wOs fun K hK => ?_; simp [g3, g4, g5, q3, q4, q5, h2, hx]) | (refine wQs fun K hK => ?_; simp [g3, g4, g5, q3, q4, q5, h2, hx]) | (refine CallK_plain ?_; simp [g3, g4, g5, q3, q4, q5, h2, hx]) | (refine CallQ_plain ?_; simp [g3, g4, g5, q3, q4, q5, h2, hx]) | (refine wRet ?_; try simp) | (refine wCond ?_; simp [g3, g4, g5, q3, q4, q5, h2, hx]) | (refine wBlock ?_) | (refine wScope ?_) | (refine wExit ?_; try simp) | (refine wSkip ?_; try simp) | (refine wOn ?_; try simp only [thenA_n]) | (refine wQn ?_; try simp only [thenA_n]) | (refine CallE.pure (c1) rfl ?_) | (refine CallE.lent (c1) rfl ?_) | (refine CallF.pure (c1) rfl ?_) | (refine CallF.lent (c1) rfl ?_) | (refine CallE.own (c1) ?_) | (refine CallE.pure (c2) rfl ?_) | (refine CallE.lent (c2) rfl ?_) | (refine CallF.pure (c2) rfl ?_) | (refine CallF.lent (c2) rfl ?_) | (refine CallE.own (c2) ?_) | (refine CallE.pure (c3) rfl ?_) | (refine CallE.lent (c3) rfl ?_) | (refine CallF.pure (c3) rfl ?_) | (refine CallF.lent (c3) rfl ?_) | (refine CallE.own (c3) ?_)
      exact ⟨by simp [g3], by simp [g4], by simp [g5], by simp [q3], by simp [q4], by simp [q5]⟩
  · generalize nextE a.e a.n = E at c1 hE
    generalize nextN a.e a.n = n1 at c1
    repeat' first | (refine h7 hr ?_) | (refine hK _ ?_; clear hK) | (refine hK _ _ ?_; clear hK) | (clear hK; refine hK _ ?_; clear hK) | (clear hK; clear hK; refine hK _ ?_; clear hK) | (clear hK; clear hK; clear hK; refine hK _ ?_; clear hK) | (clear hK; clear hK; clear hK; clear hK; refine hK _ ?_; clear hK) | (refine wSeq fun K hK => ?_) | (refine wReg ?_; simp only [List.map_cons, List.map_nil, strip]) | (refine wDrwQ rfl (by kernel_rfl) ?_; simp only [List.map_cons, List.map_nil, strip]) | (refine wDrwI ?_; simp only [List.map_cons, List.map_nil, strip]) | (refine wDrw (by kernel_rfl) ?_; simp only [List.map_cons, List.map_nil, strip]) | (refine wIs fun K hK => ?_; simp [g3, g4, g5, q3, q4, q5, hE]) | (refine wIn ?_; refine And.intro (by kernel_rfl) ?_; try simp only [thenA_n]) | (refine wOs fun K hK => ?_; simp [g3, g4, g5, q3, q4, q5, hE]) | (refine wQs fun K hK => ?_; simp [g3, g4, g5, q3, q4, q5, hE]) | (refine CallK_plain ?_; simp [g3, g4, g5, q3, q4, q5, hE]) | (refine CallQ_plain ?_; simp [g3, g4, g5, q3, q4, q5, hE]) | (refine wRet ?_; try simp) | (refine wCond ?_; simp [g3, g4, g5, q3, q4, q5, hE]) | (refine wBlock ?_) | (refine wScope ?_) | (refine wExit ?_; try simp) | (refine wSkip ?_; try simp) | (refine wOn ?_; try simp only [thenA_n]) | (refine wQn ?_; try simp only [thenA_n]) | (refine CallE.pure (c1) rfl ?_) | (refine CallE.lent (c1) rfl ?_) | (refine CallF.pure (c1) rfl ?_) | (refine CallF.lent (c1) rfl ?_) | (refine CallE.own (c1) ?_)
    exact ⟨by simp [g3], by simp [g4], by simp [g5], by simp [q3], by simp [q4], by simp [q5]⟩
set_option maxHeartbeats 8000000 in
theorem zxidOrders_con (a b c : Zx) : ACon Tryd.prog 6 [.p (.agg [I a.e, I a.n]), .p (.agg [I b.e, I b.n]), .p (.agg [I c.e, I c.n])] (.p (B true)) := by
  have c1 := cmp_con a.e a.n b.e b.n
  have c2 := cmp_con b.e b.n c.e c.n
  have c3 := cmp_con a.e a.n c.e c.n
  have c4 := cmp_con b.e b.n a.e a.n
  have h4 := fun {Q} {st} h h' => zo4 (Q := Q) (st := st) a b c h h'
  rw [Tryd.ntmps6] at h4
  have hf := zcmp_flip a.e a.n b.e b.n
  rw [hf] at c4
  have r1 := zcmp_rng a.e a.n b.e b.n
  have r2 := zcmp_rng b.e b.n c.e c.n
  have r3 := zcmp_rng a.e a.n c.e c.n
  have l1 := zcmp_lt a.e a.n b.e b.n
  have l2 := zcmp_lt b.e b.n c.e c.n
  have l3 := zcmp_lt a.e a.n c.e c.n
  have p1 := zcmp_gt a.e a.n b.e b.n
  have p2 := zcmp_gt b.e b.n c.e c.n
  have p3 := zcmp_gt a.e a.n c.e c.n
  generalize zcmp a.e a.n b.e b.n = x at c1 c4 r1 l1 p1
  generalize zcmp b.e b.n c.e c.n = y at c2 r2 l2 p2
  generalize zcmp a.e a.n c.e c.n = z at c3 r3 l3 p3
  have hw : IntKind.i64.wrap x = x := wrap_id (by omega) (by omega)
  have fin : ∀ {Q : AExit → St → Prop}, (∀ st, (∃ l, resL Tryd.T st (gaN []) Tryd.f6.results.toList Tryd.f6.resultTypes.toList = some l ∧ .p (B true) = tupV l) → Q .ret st) → ∀ st, st.s 6 = .p (B true) → Q .ret st := fun hr st h => hr st (by simp [Tryd.f6, h])
  have hw0 : IntKind.i64.wrap 0 = 0 := rfl
  by_cases x0 : x = 0
  · have e1 : a.e = b.e ∧ a.n = b.n := by omega
    have k1 : (a.e = b.e) = True := eq_true e1.1
    have k2 : (a.n = b.n) = True := eq_true e1.2
    subst x0
    have hyz1 : y ≤ 0 → ¬ 0 < z := by omega
    have hyz2 : 0 ≤ y → ¬ z < 0 := by omega
    by_cases y1 : y ≤ 0
    · have z1 := hyz1 y1
      by_cases y2 : 0 ≤ y
      · have z2 := hyz2 y2
        refine wBody Tryd.tab Tryd.mixed Tryd.func6 rfl rfl Tryd.ntmps6 (by simp) (by simp) fun Q hr hn => ?_
        repeat' first | (refine h4 (fin hr) ?_) | (refine hK _ ?_; clear hK) | (refine hK _ _ ?_; clear hK) | (clear hK; refine hK _ ?_; clear hK) | (clear hK; clear hK; refine hK _ ?_; clear hK) | (clear hK; clear hK; clear hK; refine hK _ ?_; clear hK) | (clear hK; clear hK; clear hK; clear hK; refine hK _ ?_; clear hK) | (refine wSeq fun K hK => ?_) | (refine wReg ?_; simp only [List.map_cons, List.map_nil, strip]) | (refine wDrwQ rfl (by kernel_rfl) ?_; simp only [List.map_cons, List.map_nil, strip]) | (refine wDrwI ?_; simp only [List.map_cons, List.map_nil, strip]) | (refine wDrw (by kernel_rfl) ?_; simp only [List.map_cons, List.map_nil, strip]) | (refine wIs fun K hK => ?_; simp [hw0, k1, k2, y1, y2, z1, z2]) | (refine wIn ?_; refine And.intro (by kernel_rfl) ?_; try simp only [thenA_n]) | (refine wOs fun K hK => ?_; simp [hw0, k1, k2, y1, y2, z1, z2]) | (refine wQs fun K hK => ?_; simp [hw0, k1, k2, y1, y2, z1, z2]) | (refine CallK_plain ?_; simp [hw0, k1, k2, y1, y2, z1, z2]) | (refine CallQ_plain ?_; simp [hw0, k1, k2, y1, y2, z1, z2]) | (refine wRet ?_; try simp) | (refine wCond ?_; simp [hw0, k1, k2, y1, y2, z1, z2]) | (refine wBlock ?_) | (refine wScope ?_) | (refine wExit ?_; try simp) | (refine wSkip ?_; try simp) | (refine wOn ?_; try simp only [thenA_n]) | (refine wQn ?_; try simp only [thenA_n]) | (refine CallE.pure (c1) rfl ?_) | (refine CallE.lent (c1) rfl ?_) | (refine CallF.pure (c1) rfl ?_) | (refine CallF.lent (c1) rfl ?_) | (refine CallE.own (c1) ?_) | (refine CallE.pure (c2) rfl ?_) | (refine CallE.lent (c2) rfl ?_) | (refine CallF.pure (c2) rfl ?_) | (refine CallF.lent (c2) rfl ?_) | (refine CallE.own (c2) ?_) | (refine CallE.pure (c3) rfl ?_) | (refine CallE.lent (c3) rfl ?_) | (refine CallF.pure (c3) rfl ?_) | (refine CallF.lent (c3) rfl ?_) | (refine CallE.own (c3) ?_) | (refine CallE.pure (c4) rfl ?_) | (refine CallE.lent (c4) rfl ?_) | (refine CallF.pure (c4) rfl ?_) | (refine CallF.lent (c4) rfl ?_) | (refine CallE.own (c4) ?_)
        exact ⟨by simp, by simp, by simp, by simp, by simp, by simp⟩
      · refine wBody Tryd.tab Tryd.mixed Tryd.func6 rfl rfl Tryd.ntmps6 (by simp) (by simp) fun Q hr hn => ?_
        repeat' first | (refine h4 (fin hr) ?_) | (refine hK _ ?_; clear hK) | (refine hK _ _ ?_; clear hK) | (clear hK; refine hK _ ?_; clear hK) | (clear hK; clear hK; refine hK _ ?_; clear hK) | (clear hK; clear hK; clear hK; refine hK _ ?_; clear hK) | (clear hK; clear hK; clear hK; clear hK; refine hK _ ?_; clear hK) | (refine wSeq fun K hK => ?_) | (refine wReg ?_; simp only [List.map_cons, List.map_nil, strip]) | (refine wDrwQ rfl (by kernel_rfl) ?_; simp only [List.map_cons, List.map_nil, strip]) | (refine wDrwI ?_; simp only [List.map_cons, List.map_nil, strip]) | (refine wDrw (by kernel_rfl) ?_; simp only [List.map_cons, List.map_nil, strip]) | (refine wIs fun K hK => ?_; simp [hw0, k1, k2, y1, y2, z1]) | (refine wIn ?_; refine And.intro (by kernel_rfl) ?_; try simp only [thenA_n]) | (refine wOs fun K hK => ?_; simp [hw0, k1, k2, y1, y2, z1]) | (refine wQs fun K hK => ?_; simp [hw0, k1, k2, y1, y2, z1]) | (refine CallK_plain ?_; simp [hw0, k1, k2, y1, y2, z1]) | (refine CallQ_plain ?_; simp [hw0, k1, k2, y1, y2, z1]) | (refine wRet ?_; try simp) | (refine wCond ?_; simp [hw0, k1, k2, y1, y2, z1]) | (refine wBlock ?_) | (refine wScope ?_) | (refine wExit ?_; try simp) | (refine wSkip ?_; try simp) | (refine wOn ?_; try simp only [thenA_n]) | (refine wQn ?_; try simp only [thenA_n]) | (refine CallE.pure (c1) rfl ?_) | (refine CallE.lent (c1) rfl ?_) | (refine CallF.pure (c1) rfl ?_) | (refine CallF.lent (c1) rfl ?_) | (refine CallE.own (c1) ?_) | (refine CallE.pure (c2) rfl ?_) | (refine CallE.lent (c2) rfl ?_) | (refine CallF.pure (c2) rfl ?_) | (refine CallF.lent (c2) rfl ?_) | (refine CallE.own (c2) ?_) | (refine CallE.pure (c3) rfl ?_) | (refine CallE.lent (c3) rfl ?_) | (refine CallF.pure (c3) rfl ?_) | (refine CallF.lent (c3) rfl ?_) | (refine CallE.own (c3) ?_) | (refine CallE.pure (c4) rfl ?_) | (refine CallE.lent (c4) rfl ?_) | (refine CallF.pure (c4) rfl ?_) | (refine CallF.lent (c4) rfl ?_) | (refine CallE.own (c4) ?_)
        exact ⟨by simp, by simp, by simp, by simp, by simp, by simp⟩
    · have y2 : 0 ≤ y := by omega
      have z2 := hyz2 y2
      refine wBody Tryd.tab Tryd.mixed Tryd.func6 rfl rfl Tryd.ntmps6 (by simp) (by simp) fun Q hr hn => ?_
      repeat' first | (refine h4 (fin hr) ?_) | (refine hK _ ?_; clear hK) | (refine hK _ _ ?_; clear hK) | (clear hK; refine hK _ ?_; clear hK) | (clear hK; clear hK; refine hK _ ?_; clear hK) | (clear hK; clear hK; clear hK; refine hK _ ?_; clear hK) | (clear hK; clear hK; clear hK; clear hK; refine hK _ ?_; clear hK) | (refine wSeq fun K hK => ?_) | (refine wReg ?_; simp only [List.map_cons, List.map_nil, strip]) | (refine wDrwQ rfl (by kernel_rfl) ?_; simp only [List.map_cons, List.map_nil, strip]) | (refine wDrwI ?_; simp only [List.map_cons, List.map_nil, strip]) | (refine wDrw (by kernel_rfl) ?_; simp only [List.map_cons, List.map_nil, strip]) | (refine wIs fun K hK => ?_; simp [hw0, k1, k2, y1, y2, z2]) | (refine wIn ?_; refine And.intro (by kernel_rfl) ?_; try simp only [thenA_n]) | (refine wOs fun K hK => ?_; simp [hw0, k1, k2, y1, y2, z2]) | (refine wQs fun K hK => ?_; simp [hw0, k1, k2, y1, y2, z2]) | (refine CallK_plain ?_; simp [hw0, k1, k2, y1, y2, z2]) | (refine CallQ_plain ?_; simp [hw0, k1, k2, y1, y2, z2]) | (refine wRet ?_; try simp) | (refine wCond ?_; simp [hw0, k1, k2, y1, y2, z2]) | (refine wBlock ?_) | (refine wScope ?_) | (refine wExit ?_; try simp) | (refine wSkip ?_; try simp) | (refine wOn ?_; try simp only [thenA_n]) | (refine wQn ?_; try simp only [thenA_n]) | (refine CallE.pure (c1) rfl ?_) | (refine CallE.lent (c1) rfl ?_) | (refine CallF.pure (c1) rfl ?_) | (refine CallF.lent (c1) rfl ?_) | (refine CallE.own (c1) ?_) | (refine CallE.pure (c2) rfl ?_) | (refine CallE.lent (c2) rfl ?_) | (refine CallF.pure (c2) rfl ?_) | (refine CallF.lent (c2) rfl ?_) | (refine CallE.own (c2) ?_) | (refine CallE.pure (c3) rfl ?_) | (refine CallE.lent (c3) rfl ?_) | (refine CallF.pure (c3) rfl ?_) | (refine CallF.lent (c3) rfl ?_) | (refine CallE.own (c3) ?_) | (refine CallE.pure (c4) rfl ?_) | (refine CallE.lent (c4) rfl ?_) | (refine CallF.pure (c4) rfl ?_) | (refine CallF.lent (c4) rfl ?_) | (refine CallE.own (c4) ?_)
      exact ⟨by simp, by simp, by simp, by simp, by simp, by simp⟩
  have e1 : ¬ (a.e = b.e ∧ a.n = b.n) := by omega
  have hp : (a.e == b.e && a.n == b.n) = false := by simp; intro h; exact fun h' => e1 ⟨h, h'⟩
  by_cases x1 : x ≤ 0
  · have x2 : ¬ 0 ≤ x := by omega
    by_cases y1 : y ≤ 0
    · have z1 : ¬ 0 < z := by omega
      refine wBody Tryd.tab Tryd.mixed Tryd.func6 rfl rfl Tryd.ntmps6 (by simp) (by simp) fun Q hr hn => ?_
      repeat' first | (refine h4 (fin hr) ?_) | (refine hK _ ?_; clear hK) | (refine hK _ _ ?_; clear hK) | (clear hK; refine hK _ ?_; clear hK) | (clear hK; clear hK; refine hK _ ?_; clear hK) | (clear hK; clear hK; clear hK; refine hK _ ?_; clear hK) | (clear hK; clear hK; clear hK; clear hK; refine hK _ ?_; clear hK) | (refine wSeq fun K hK => ?_) | (refine wReg ?_; simp only [List.map_cons, List.map_nil, strip]) | (refine wDrwQ rfl (by kernel_rfl) ?_; simp only [List.map_cons, List.map_nil, strip]) | (refine wDrwI ?_; simp only [List.map_cons, List.map_nil, strip]) | (refine wDrw (by kernel_rfl) ?_; simp only [List.map_cons, List.map_nil, strip]) | (refine wIs fun K hK => ?_; simp [hw, x0, hp, x1, x2, y1, z1]) | (refine wIn ?_; refine And.intro (by kernel_rfl) ?_; try simp only [thenA_n]) | (refine wOs fun K hK => ?_; simp [hw, x0, hp, x1, x2, y1, z1]) | (refine wQs fun K hK => ?_; simp [hw, x0, hp, x1, x2, y1, z1]) | (refine CallK_plain ?_; simp [hw, x0, hp, x1, x2, y1, z1]) | (refine CallQ_plain ?_; simp [hw, x0, hp, x1, x2, y1, z1]) | (refine wRet ?_; try simp) | (refine wCond ?_; simp [hw, x0, hp, x1, x2, y1, z1]) | (refine wBlock ?_) | (refine wScope ?_) | (refine wExit ?_; try simp) | (refine wSkip ?_; try simp) | (refine wOn ?_; try simp only [thenA_n]) | (refine wQn ?_; try simp only [thenA_n]) | (refine CallE.pure (c1) rfl ?_) | (refine CallE.lent (c1) rfl ?_) | (refine CallF.pure (c1) rfl ?_) | (refine CallF.lent (c1) rfl ?_) | (refine CallE.own (c1) ?_) | (refine CallE.pure (c2) rfl ?_) | (refine CallE.lent (c2) rfl ?_) | (refine CallF.pure (c2) rfl ?_) | (refine CallF.lent (c2) rfl ?_) | (refine CallE.own (c2) ?_) | (refine CallE.pure (c3) rfl ?_) | (refine CallE.lent (c3) rfl ?_) | (refine CallF.pure (c3) rfl ?_) | (refine CallF.lent (c3) rfl ?_) | (refine CallE.own (c3) ?_) | (refine CallE.pure (c4) rfl ?_) | (refine CallE.lent (c4) rfl ?_) | (refine CallF.pure (c4) rfl ?_) | (refine CallF.lent (c4) rfl ?_) | (refine CallE.own (c4) ?_) | (intro h h'; exact absurd ⟨h, h'⟩ e1)
      exact ⟨by simp, by simp, by simp, by simp, by simp, by simp⟩
    · refine wBody Tryd.tab Tryd.mixed Tryd.func6 rfl rfl Tryd.ntmps6 (by simp) (by simp) fun Q hr hn => ?_
      repeat' first | (refine h4 (fin hr) ?_) | (refine hK _ ?_; clear hK) | (refine hK _ _ ?_; clear hK) | (clear hK; refine hK _ ?_; clear hK) | (clear hK; clear hK; refine hK _ ?_; clear hK) | (clear hK; clear hK; clear hK; refine hK _ ?_; clear hK) | (clear hK; clear hK; clear hK; clear hK; refine hK _ ?_; clear hK) | (refine wSeq fun K hK => ?_) | (refine wReg ?_; simp only [List.map_cons, List.map_nil, strip]) | (refine wDrwQ rfl (by kernel_rfl) ?_; simp only [List.map_cons, List.map_nil, strip]) | (refine wDrwI ?_; simp only [List.map_cons, List.map_nil, strip]) | (refine wDrw (by kernel_rfl) ?_; simp only [List.map_cons, List.map_nil, strip]) | (refine wIs fun K hK => ?_; simp [hw, x0, hp, x1, x2, y1]) | (refine wIn ?_; refine And.intro (by kernel_rfl) ?_; try simp only [thenA_n]) | (refine wOs fun K hK => ?_; simp [hw, x0, hp, x1, x2, y1]) | (refine wQs fun K hK => ?_; simp [hw, x0, hp, x1, x2, y1]) | (refine CallK_plain ?_; simp [hw, x0, hp, x1, x2, y1]) | (refine CallQ_plain ?_; simp [hw, x0, hp, x1, x2, y1]) | (refine wRet ?_; try simp) | (refine wCond ?_; simp [hw, x0, hp, x1, x2, y1]) | (refine wBlock ?_) | (refine wScope ?_) | (refine wExit ?_; try simp) | (refine wSkip ?_; try simp) | (refine wOn ?_; try simp only [thenA_n]) | (refine wQn ?_; try simp only [thenA_n]) | (refine CallE.pure (c1) rfl ?_) | (refine CallE.lent (c1) rfl ?_) | (refine CallF.pure (c1) rfl ?_) | (refine CallF.lent (c1) rfl ?_) | (refine CallE.own (c1) ?_) | (refine CallE.pure (c2) rfl ?_) | (refine CallE.lent (c2) rfl ?_) | (refine CallF.pure (c2) rfl ?_) | (refine CallF.lent (c2) rfl ?_) | (refine CallE.own (c2) ?_) | (refine CallE.pure (c3) rfl ?_) | (refine CallE.lent (c3) rfl ?_) | (refine CallF.pure (c3) rfl ?_) | (refine CallF.lent (c3) rfl ?_) | (refine CallE.own (c3) ?_) | (refine CallE.pure (c4) rfl ?_) | (refine CallE.lent (c4) rfl ?_) | (refine CallF.pure (c4) rfl ?_) | (refine CallF.lent (c4) rfl ?_) | (refine CallE.own (c4) ?_) | (intro h h'; exact absurd ⟨h, h'⟩ e1)
      exact ⟨by simp, by simp, by simp, by simp, by simp, by simp⟩
  · have x2 : 0 ≤ x := by omega
    by_cases y1 : 0 ≤ y
    · have z1 : ¬ z < 0 := by omega
      refine wBody Tryd.tab Tryd.mixed Tryd.func6 rfl rfl Tryd.ntmps6 (by simp) (by simp) fun Q hr hn => ?_
      repeat' first | (refine h4 (fin hr) ?_) | (refine hK _ ?_; clear hK) | (refine hK _ _ ?_; clear hK) | (clear hK; refine hK _ ?_; clear hK) | (clear hK; clear hK; refine hK _ ?_; clear hK) | (clear hK; clear hK; clear hK; refine hK _ ?_; clear hK) | (clear hK; clear hK; clear hK; clear hK; refine hK _ ?_; clear hK) | (refine wSeq fun K hK => ?_) | (refine wReg ?_; simp only [List.map_cons, List.map_nil, strip]) | (refine wDrwQ rfl (by kernel_rfl) ?_; simp only [List.map_cons, List.map_nil, strip]) | (refine wDrwI ?_; simp only [List.map_cons, List.map_nil, strip]) | (refine wDrw (by kernel_rfl) ?_; simp only [List.map_cons, List.map_nil, strip]) | (refine wIs fun K hK => ?_; simp [hw, x0, hp, x1, x2, y1, z1]) | (refine wIn ?_; refine And.intro (by kernel_rfl) ?_; try simp only [thenA_n]) | (refine wOs fun K hK => ?_; simp [hw, x0, hp, x1, x2, y1, z1]) | (refine wQs fun K hK => ?_; simp [hw, x0, hp, x1, x2, y1, z1]) | (refine CallK_plain ?_; simp [hw, x0, hp, x1, x2, y1, z1]) | (refine CallQ_plain ?_; simp [hw, x0, hp, x1, x2, y1, z1]) | (refine wRet ?_; try simp) | (refine wCond ?_; simp [hw, x0, hp, x1, x2, y1, z1]) | (refine wBlock ?_) | (refine wScope ?_) | (refine wExit ?_; try simp) | (refine wSkip ?_; try simp) | (refine wOn ?_; try simp only [thenA_n]) | (refine wQn ?_; try simp only [thenA_n]) | (refine CallE.pure (c1) rfl ?_) | (refine CallE.lent (c1) rfl ?_) | (refine CallF.pure (c1) rfl ?_) | (refine CallF.lent (c1) rfl ?_) | (refine CallE.own (c1) ?_) | (refine CallE.pure (c2) rfl ?_) | (refine CallE.lent (c2) rfl ?_) | (refine CallF.pure (c2) rfl ?_) | (refine CallF.lent (c2) rfl ?_) | (refine CallE.own (c2) ?_) | (refine CallE.pure (c3) rfl ?_) | (refine CallE.lent (c3) rfl ?_) | (refine CallF.pure (c3) rfl ?_) | (refine CallF.lent (c3) rfl ?_) | (refine CallE.own (c3) ?_) | (refine CallE.pure (c4) rfl ?_) | (refine CallE.lent (c4) rfl ?_) | (refine CallF.pure (c4) rfl ?_) | (refine CallF.lent (c4) rfl ?_) | (refine CallE.own (c4) ?_) | (intro h h'; exact absurd ⟨h, h'⟩ e1)
      exact ⟨by simp, by simp, by simp, by simp, by simp, by simp⟩
    · refine wBody Tryd.tab Tryd.mixed Tryd.func6 rfl rfl Tryd.ntmps6 (by simp) (by simp) fun Q hr hn => ?_
      repeat' first | (refine h4 (fin hr) ?_) | (refine hK _ ?_; clear hK) | (refine hK _ _ ?_; clear hK) | (clear hK; refine hK _ ?_; clear hK) | (clear hK; clear hK; refine hK _ ?_; clear hK) | (clear hK; clear hK; clear hK; refine hK _ ?_; clear hK) | (clear hK; clear hK; clear hK; clear hK; refine hK _ ?_; clear hK) | (refine wSeq fun K hK => ?_) | (refine wReg ?_; simp only [List.map_cons, List.map_nil, strip]) | (refine wDrwQ rfl (by kernel_rfl) ?_; simp only [List.map_cons, List.map_nil, strip]) | (refine wDrwI ?_; simp only [List.map_cons, List.map_nil, strip]) | (refine wDrw (by kernel_rfl) ?_; simp only [List.map_cons, List.map_nil, strip]) | (refine wIs fun K hK => ?_; simp [hw, x0, hp, x1, x2, y1]) | (refine wIn ?_; refine And.intro (by kernel_rfl) ?_; try simp only [thenA_n]) | (refine wOs fun K hK => ?_; simp [hw, x0, hp, x1, x2, y1]) | (refine wQs fun K hK => ?_; simp [hw, x0, hp, x1, x2, y1]) | (refine CallK_plain ?_; simp [hw, x0, hp, x1, x2, y1]) | (refine CallQ_plain ?_; simp [hw, x0, hp, x1, x2, y1]) | (refine wRet ?_; try simp) | (refine wCond ?_; simp [hw, x0, hp, x1, x2, y1]) | (refine wBlock ?_) | (refine wScope ?_) | (refine wExit ?_; try simp) | (refine wSkip ?_; try simp) | (refine wOn ?_; try simp only [thenA_n]) | (refine wQn ?_; try simp only [thenA_n]) | (refine CallE.pure (c1) rfl ?_) | (refine CallE.lent (c1) rfl ?_) | (refine CallF.pure (c1) rfl ?_) | (refine CallF.lent (c1) rfl ?_) | (refine CallE.own (c1) ?_) | (refine CallE.pure (c2) rfl ?_) | (refine CallE.lent (c2) rfl ?_) | (refine CallF.pure (c2) rfl ?_) | (refine CallF.lent (c2) rfl ?_) | (refine CallE.own (c2) ?_) | (refine CallE.pure (c3) rfl ?_) | (refine CallE.lent (c3) rfl ?_) | (refine CallF.pure (c3) rfl ?_) | (refine CallF.lent (c3) rfl ?_) | (refine CallE.own (c3) ?_) | (refine CallE.pure (c4) rfl ?_) | (refine CallE.lent (c4) rfl ?_) | (refine CallF.pure (c4) rfl ?_) | (refine CallF.lent (c4) rfl ?_) | (refine CallE.own (c4) ?_) | (intro h h'; exact absurd ⟨h, h'⟩ e1)
      exact ⟨by simp, by simp, by simp, by simp, by simp, by simp⟩
end Go.Proofs.YtjceehpfncfpgaaDoor
