/- Layer 2: a number written and read; the law ZxidBack. -/
import Derived.Test.YtjceehpfncfpgaaDoorZT
namespace Go.Proofs.YtjceehpfncfpgaaDoor
set_option linter.unusedSimpArgs false
set_option linter.unusedVariables false
open Go Go.Av Go.Lib
attribute [local simp] Tryd.T1 Tryd.T2 Tryd.T3 Tryd.T4 Tryd.T5 Tryd.T9 Tryd.T12 Tryd.T21 Tryd.T23 Tryd.T24 Tryd.T25 Tryd.T27 Tryd.T28 Tryd.T29 Tryd.T30 Tryd.T31 Tryd.T33 Tryd.T34 Tryd.T35 Tryd.T36 Tryd.T37 Tryd.T38 Tryd.T39 Tryd.T40 Tryd.T41 Tryd.T42 Tryd.T44 Tryd.T45 Tryd.T47 Tryd.T49 Tryd.T50 Tryd.T51 Tryd.T52 Tryd.T53 Tryd.T54 Tryd.T55 Tryd.T56 Tryd.T57 Tryd.T59 Tryd.T60 Tryd.T61 Tryd.T62 Tryd.T63 Tryd.T64 Tryd.T66 Tryd.T68 Tryd.T69 Tryd.T70 Tryd.T71 Tryd.T72 Tryd.T73 Tryd.T75 Tryd.T76 Tryd.T77 Tryd.T78 Tryd.T79 Tryd.T80 Tryd.T81 Tryd.T83 Tryd.T84 Tryd.T85 Tryd.T86 Tryd.T87 Tryd.T88 Tryd.T89 Tryd.T90 Tryd.T91 Tryd.T92 Tryd.T93 Tryd.T94 Tryd.T95 Tryd.T96 Tryd.T98 Tryd.T99 Tryd.T101 Tryd.T102 Tryd.T104 Tryd.T105 Tryd.T106 Tryd.T108 Tryd.T109 Tryd.T112 Tryd.T113 Tryd.T114 Tryd.T115 Tryd.T116 Tryd.T122 Tryd.T125
attribute [local irreducible] Go.Av.CallK Go.Av.CallE Go.Av.CallQ Go.Av.CallF Go.Av.Con

theorem num_itoa {n : Int} (h : rgt n = true) : num (itoa n) = (n, true) := by
  simp only [rgt, decide_eq_true_eq] at h
  have e : itoa n = decDigits n.toNat := by unfold itoa; rw [if_neg (by omega)]
  obtain ⟨a1, a2, a3, a4, a5⟩ := dec_spec n.toNat
  have h13 := a5 12 (by omega)
  rw [e]
  have hb : badN (decDigits n.toNat) = false := by
    simp only [badN, a1, Bool.not_true, Bool.or_false, decide_eq_false_iff_not]
    rintro (h1 | h1 | ⟨h1, h2⟩)
    · exact a3 h1
    · omega
    · cases hd : decDigits n.toNat with
      | nil => exact a3 hd
      | cons c t =>
        rw [hd] at h1 h2
        simp only [List.getElem?_cons_zero, Option.some.injEq] at h1
        have := a4 c t hd h1
        subst this
        exact h2 (by rw [h1])
  have hv : dv (decDigits n.toNat) = n := by rw [a2]; omega
  simp only [num, hb, Bool.false_eq_true, if_false, hv, Prod.mk.injEq, decide_eq_true_eq, true_and]
  exact h.2
/-- A number that is read, written again. -/
theorem dec_back : ∀ (k : Nat) (l : List UInt8), l.length = k → l ≠ [] → l.all dig = true → (∀ b r, l = b :: r → b = 48 → r = []) → 0 ≤ dv l ∧ decDigits (dv l).toNat = l := by
  intro k
  induction k with
  | zero => intro l hl hn; exact absurd (List.length_eq_zero_iff.1 hl) hn
  | succ k ih =>
    intro l hl hn ha hz
    rcases List.eq_nil_or_concat l with rfl | ⟨m, d, rfl⟩
    · exact absurd rfl hn
    · rw [List.concat_eq_append] at *
      rw [List.all_append, Bool.and_eq_true] at ha
      have hd : dig d = true := by simpa using ha.2
      simp only [dig, decide_eq_true_eq] at hd
      have ed : ∀ j : Nat, (j : Int) = (d.toNat : Int) - 48 → UInt8.ofNat (48 + j) = d := fun j hj => by
        apply UInt8.toNat_inj.1
        rw [UInt8.toNat_ofNat']
        omega
      by_cases hm : m = []
      · subst hm
        simp only [List.nil_append]
        have e : dv [d] = (d.toNat : Int) - 48 := by simp [dv]
        rw [e]
        refine ⟨by omega, ?_⟩
        rw [decDigits, dif_pos (by omega)]
        rw [ed _ (by omega)]
      · have hzm : ∀ b r, m = b :: r → b = 48 → r = [] := fun b r e hb => by
          subst e
          have := hz b (r ++ [d]) rfl hb
          simp at this
        obtain ⟨h1, h2⟩ := ih m (by simp at hl; exact hl) hm ha.1 hzm
        rw [dv_app]
        have hpos : 1 ≤ dv m := by
          cases m with
          | nil => exact absurd rfl hm
          | cons b r =>
            rcases Int.lt_or_le 0 (dv (b :: r)) with h3 | h3
            · omega
            · exfalso
              have h4 : dv (b :: r) = 0 := by omega
              rw [h4] at h2
              have h5 : decDigits (0 : Int).toNat = [48] := by decide +kernel
              rw [h5] at h2
              simp only [List.cons.injEq] at h2
              have := hz b (r ++ [d]) rfl h2.1.symm
              simp at this
        refine ⟨by omega, ?_⟩
        rw [decDigits, dif_neg (by omega)]
        have e1 : (10 * dv m + ((d.toNat : Int) - 48)).toNat / 10 = (dv m).toNat := by omega
        have e2 : (((10 * dv m + ((d.toNat : Int) - 48)).toNat % 10 : Nat) : Int) = (d.toNat : Int) - 48 := by omega
        rw [e1, h2, ed _ e2]
theorem itoa_num {l : List UInt8} {v : Int} (h : num l = (v, true)) : rgt v = true ∧ itoa v = l := by
  unfold num at h
  split at h
  · simp at h
  rename_i hb
  simp only [Prod.mk.injEq, decide_eq_true_eq] at h
  obtain ⟨h1, h2⟩ := h
  simp only [badN, Bool.or_eq_true, decide_eq_true_eq, not_or, Bool.not_eq_true', Bool.not_eq_false] at hb
  obtain ⟨⟨b1, b2, b3⟩, b4⟩ := hb
  obtain ⟨c1, c2⟩ := dec_back _ l rfl b1 b4 (fun b r e hb => by
    subst e
    by_cases hr : r = []
    · exact hr
    · exact absurd ⟨by rw [hb]; rfl, by rw [hb]; simpa using hr⟩ b3)
  rw [h1] at c1 c2 h2
  refine ⟨by simp [rgt]; exact ⟨c1, h2⟩, ?_⟩
  unfold itoa
  rw [if_neg (by omega), c2]
theorem ix_app {a b : List UInt8} (h : a.all dig = true) : ix (a ++ 46 :: b) = a.length := by
  induction a with
  | nil => rfl
  | cons x a ih =>
    simp only [List.all_cons, Bool.and_eq_true] at h
    have hx : (x == 46) = false := by
      have := h.1
      simp only [dig, decide_eq_true_eq] at this
      rw [beq_eq_false_iff_ne]
      intro e; subst e
      simp at this
    have : ix (a ++ 46 :: b) = a.length := ih h.2
    unfold ix at this ⊢
    rw [List.cons_append, List.findIdx_cons, hx]
    simp [this]
theorem itoa_dig {n : Int} (h : rgt n = true) : (itoa n).all dig = true := by
  simp only [rgt, decide_eq_true_eq] at h
  have e : itoa n = decDigits n.toNat := by unfold itoa; rw [if_neg (by omega)]
  rw [e]; exact (dec_spec _).1
theorem prs_txt (z : Zx) : (txt z = [] ∧ prs (txt z) = (⟨0, 0⟩, 3)) ∨ (txt z ≠ [] ∧ prs (txt z) = (z, 0)) := by
  unfold txt
  by_cases h : rgt z.e = true ∧ rgt z.n = true
  · rw [if_pos h]
    right
    refine ⟨by simp, ?_⟩
    have hi := ix_app (b := itoa z.n) (itoa_dig h.1)
    unfold prs
    rw [hi, if_neg (by simp), List.take_left, num_itoa h.1]
    have e : (itoa z.e ++ 46 :: itoa z.n).drop ((itoa z.e).length + 1) = itoa z.n := by
      rw [← List.drop_drop, List.drop_left]; rfl
    rw [e, num_itoa h.2]
    simp
  · rw [if_neg h]
    exact .inl ⟨rfl, rfl⟩
theorem txt_prs {l : List UInt8} (h : (prs l).2 = 0) : txt (prs l).1 = l := by
  unfold prs at h ⊢
  split at h
  · simp at h
  rename_i hx
  rw [if_neg hx]
  split at h
  · rename_i hp
    rw [if_pos hp]
    have e1 := itoa_num (l := l.take (ix l)) (v := (num (l.take (ix l))).1) (by rw [← hp.1])
    have e2 := itoa_num (l := l.drop (ix l + 1)) (v := (num (l.drop (ix l + 1))).1) (by rw [← hp.2])
    unfold txt
    rw [if_pos ⟨e1.1, e2.1⟩, e1.2, e2.2]
    have hlt : ix l < l.length := by have := ix_le l; omega
    have := List.take_append_drop (ix l) l
    rw [List.drop_eq_getElem_cons hlt, ix_at hlt] at this
    exact this
  · simp at h
theorem str_open {p : PV} (hp : ShT Tryd.T 9 p) : ∃ l : List UInt8, l.length ≤ 9223372036854775807 ∧ p = SB l := by
  obtain ⟨s, rfl, hs⟩ := (hp.one (f := .str) rfl rfl rfl).strI
  refine ⟨s.data.toList, ?_, ?_⟩
  · have h1 : s.data.toList.length = s.size := Array.length_toList
    have h2 : maxLen = 9223372036854775807 := rfl
    omega
  · show _ = PV.v (.string ⟨s.data.toList.toArray⟩); rw [Array.toArray_toList]
set_option maxHeartbeats 2000000 in
theorem zxidBack_con (z : Zx) (l : List UInt8) (hl : l.length ≤ 9223372036854775807) : ACon Tryd.prog 8 [.p (.agg [I z.e, I z.n]), .p (SB l)] (.p (B true)) := by
  have c1 := text_con z
  have htl : (txt z).length ≤ 9223372036854775807 := by
    unfold txt
    split
    · rename_i h
      have := itoa_len h.1
      have := itoa_len h.2
      simp; omega
    · simp
  have c2 := parse_con (txt z) htl
  have c3 := parse_con l hl
  have c4 := text_con (prs l).1
  have h4 := fun h => txt_prs (l := l) h
  generalize prs l = p at c3 c4 h4
  obtain ⟨⟨pe, pn⟩, pc⟩ := p
  dsimp only at c3 c4 h4
  have hfin : pc ≠ 0 ∨ (pc = 0 ∧ txt ⟨pe, pn⟩ = l) := by
    by_cases h : pc = 0
    · exact .inr ⟨h, h4 h⟩
    · exact .inl h
  clear h4
  generalize txt ⟨pe, pn⟩ = q at c4 hfin
  rcases prs_txt z with ⟨t1, t2⟩ | ⟨t1, t2⟩
  · rw [t2] at c2
    rw [t1] at c1 c2
    rcases hfin with hp | ⟨hp, hq⟩
    · refine wBody Tryd.tab Tryd.mixed Tryd.func8 rfl rfl Tryd.ntmps8 (by simp) (by simp) fun Q hr hn => ?_
      repeat' first | (refine hK _ ?_; clear hK) | (refine hK _ _ ?_; clear hK) | (clear hK; refine hK _ ?_; clear hK) | (clear hK; clear hK; refine hK _ ?_; clear hK) | (clear hK; clear hK; clear hK; refine hK _ ?_; clear hK) | (clear hK; clear hK; clear hK; clear hK; refine hK _ ?_; clear hK) | (refine wSeq fun K hK => ?_) | (refine wReg ?_; simp only [List.map_cons, List.map_nil, strip]) | (refine wDrwQ rfl (by kernel_rfl) ?_; simp only [List.map_cons, List.map_nil, strip]) | (refine wDrwI ?_; simp only [List.map_cons, List.map_nil, strip]) | (refine wDrw (by kernel_rfl) ?_; simp only [List.map_cons, List.map_nil, strip]) | (refine wIs fun K hK => ?_; simp [hp]) | (refine wIn ?_; refine And.intro (by kernel_rfl) ?_; try simp only [thenA_n]) | (refine wOs fun K hK => ?_; simp [hp]) | (refine wQs fun K hK => ?_; simp [hp]) | (refine CallK_plain ?_; simp [hp]) | (refine CallQ_plain ?_; simp [hp]) | (refine wRet ?_; try simp) | (refine wCond ?_; simp [hp]) | (refine wBlock ?_) | (refine wScope ?_) | (refine wExit ?_; try simp) | (refine wSkip ?_; try simp) | (refine wOn ?_; try simp only [thenA_n]) | (refine wQn ?_; try simp only [thenA_n]) | (refine CallE.pure (c1) rfl ?_) | (refine CallE.lent (c1) rfl ?_) | (refine CallF.pure (c1) rfl ?_) | (refine CallF.lent (c1) rfl ?_) | (refine CallE.own (c1) ?_) | (refine CallE.pure (c2) rfl ?_) | (refine CallE.lent (c2) rfl ?_) | (refine CallF.pure (c2) rfl ?_) | (refine CallF.lent (c2) rfl ?_) | (refine CallE.own (c2) ?_) | (refine CallE.pure (c3) rfl ?_) | (refine CallE.lent (c3) rfl ?_) | (refine CallF.pure (c3) rfl ?_) | (refine CallF.lent (c3) rfl ?_) | (refine CallE.own (c3) ?_) | (refine CallE.pure (awake02) rfl ?_) | (refine CallE.lent (awake02) rfl ?_) | (refine CallF.pure (awake02) rfl ?_) | (refine CallF.lent (awake02) rfl ?_) | (refine CallE.own (awake02) ?_)
      all_goals apply hr
      all_goals simp [Tryd.f8]
    · subst hp hq
      refine wBody Tryd.tab Tryd.mixed Tryd.func8 rfl rfl Tryd.ntmps8 (by simp) (by simp) fun Q hr hn => ?_
      repeat' first | (refine hK _ ?_; clear hK) | (refine hK _ _ ?_; clear hK) | (clear hK; refine hK _ ?_; clear hK) | (clear hK; clear hK; refine hK _ ?_; clear hK) | (clear hK; clear hK; clear hK; refine hK _ ?_; clear hK) | (clear hK; clear hK; clear hK; clear hK; refine hK _ ?_; clear hK) | (refine wSeq fun K hK => ?_) | (refine wReg ?_; simp only [List.map_cons, List.map_nil, strip]) | (refine wDrwQ rfl (by kernel_rfl) ?_; simp only [List.map_cons, List.map_nil, strip]) | (refine wDrwI ?_; simp only [List.map_cons, List.map_nil, strip]) | (refine wDrw (by kernel_rfl) ?_; simp only [List.map_cons, List.map_nil, strip]) | (refine wIs fun K hK => ?_; simp) | (refine wIn ?_; refine And.intro (by kernel_rfl) ?_; try simp only [thenA_n]) | (refine wOs fun K hK => ?_; simp) | (refine wQs fun K hK => ?_; simp) | (refine CallK_plain ?_; simp) | (refine CallQ_plain ?_; simp) | (refine wRet ?_; try simp) | (refine wCond ?_; simp) | (refine wBlock ?_) | (refine wScope ?_) | (refine wExit ?_; try simp) | (refine wSkip ?_; try simp) | (refine wOn ?_; try simp only [thenA_n]) | (refine wQn ?_; try simp only [thenA_n]) | (refine CallE.pure (c1) rfl ?_) | (refine CallE.lent (c1) rfl ?_) | (refine CallF.pure (c1) rfl ?_) | (refine CallF.lent (c1) rfl ?_) | (refine CallE.own (c1) ?_) | (refine CallE.pure (c2) rfl ?_) | (refine CallE.lent (c2) rfl ?_) | (refine CallF.pure (c2) rfl ?_) | (refine CallF.lent (c2) rfl ?_) | (refine CallE.own (c2) ?_) | (refine CallE.pure (c3) rfl ?_) | (refine CallE.lent (c3) rfl ?_) | (refine CallF.pure (c3) rfl ?_) | (refine CallF.lent (c3) rfl ?_) | (refine CallE.own (c3) ?_) | (refine CallE.pure (c4) rfl ?_) | (refine CallE.lent (c4) rfl ?_) | (refine CallF.pure (c4) rfl ?_) | (refine CallF.lent (c4) rfl ?_) | (refine CallE.own (c4) ?_) | (refine CallE.pure (awake02) rfl ?_) | (refine CallE.lent (awake02) rfl ?_) | (refine CallF.pure (awake02) rfl ?_) | (refine CallF.lent (awake02) rfl ?_) | (refine CallE.own (awake02) ?_)
      all_goals apply hr
      all_goals simp [Tryd.f8]
  · rw [t2] at c2
    generalize txt z = t at c1 c2 t1
    rcases hfin with hp | ⟨hp, hq⟩
    · refine wBody Tryd.tab Tryd.mixed Tryd.func8 rfl rfl Tryd.ntmps8 (by simp) (by simp) fun Q hr hn => ?_
      repeat' first | (refine hK _ ?_; clear hK) | (refine hK _ _ ?_; clear hK) | (clear hK; refine hK _ ?_; clear hK) | (clear hK; clear hK; refine hK _ ?_; clear hK) | (clear hK; clear hK; clear hK; refine hK _ ?_; clear hK) | (clear hK; clear hK; clear hK; clear hK; refine hK _ ?_; clear hK) | (refine wSeq fun K hK => ?_) | (refine wReg ?_; simp only [List.map_cons, List.map_nil, strip]) | (refine wDrwQ rfl (by kernel_rfl) ?_; simp only [List.map_cons, List.map_nil, strip]) | (refine wDrwI ?_; simp only [List.map_cons, List.map_nil, strip]) | (refine wDrw (by kernel_rfl) ?_; simp only [List.map_cons, List.map_nil, strip]) | (refine wIs fun K hK => ?_; simp [hp, t1]) | (refine wIn ?_; refine And.intro (by kernel_rfl) ?_; try simp only [thenA_n]) | (refine wOs fun K hK => ?_; simp [hp, t1]) | (refine wQs fun K hK => ?_; simp [hp, t1]) | (refine CallK_plain ?_; simp [hp, t1]) | (refine CallQ_plain ?_; simp [hp, t1]) | (refine wRet ?_; try simp) | (refine wCond ?_; simp [hp, t1]) | (refine wBlock ?_) | (refine wScope ?_) | (refine wExit ?_; try simp) | (refine wSkip ?_; try simp) | (refine wOn ?_; try simp only [thenA_n]) | (refine wQn ?_; try simp only [thenA_n]) | (refine CallE.pure (c1) rfl ?_) | (refine CallE.lent (c1) rfl ?_) | (refine CallF.pure (c1) rfl ?_) | (refine CallF.lent (c1) rfl ?_) | (refine CallE.own (c1) ?_) | (refine CallE.pure (c2) rfl ?_) | (refine CallE.lent (c2) rfl ?_) | (refine CallF.pure (c2) rfl ?_) | (refine CallF.lent (c2) rfl ?_) | (refine CallE.own (c2) ?_) | (refine CallE.pure (c3) rfl ?_) | (refine CallE.lent (c3) rfl ?_) | (refine CallF.pure (c3) rfl ?_) | (refine CallF.lent (c3) rfl ?_) | (refine CallE.own (c3) ?_) | (refine CallE.pure (awake02) rfl ?_) | (refine CallE.lent (awake02) rfl ?_) | (refine CallF.pure (awake02) rfl ?_) | (refine CallF.lent (awake02) rfl ?_) | (refine CallE.own (awake02) ?_)
      all_goals apply hr
      all_goals simp [Tryd.f8]
    · subst hp hq
      refine wBody Tryd.tab Tryd.mixed Tryd.func8 rfl rfl Tryd.ntmps8 (by simp) (by simp) fun Q hr hn => ?_
      repeat' first | (refine hK _ ?_; clear hK) | (refine hK _ _ ?_; clear hK) | (clear hK; refine hK _ ?_; clear hK) | (clear hK; clear hK; refine hK _ ?_; clear hK) | (clear hK; clear hK; clear hK; refine hK _ ?_; clear hK) | (clear hK; clear hK; clear hK; clear hK; refine hK _ ?_; clear hK) | (refine wSeq fun K hK => ?_) | (refine wReg ?_; simp only [List.map_cons, List.map_nil, strip]) | (refine wDrwQ rfl (by kernel_rfl) ?_; simp only [List.map_cons, List.map_nil, strip]) | (refine wDrwI ?_; simp only [List.map_cons, List.map_nil, strip]) | (refine wDrw (by kernel_rfl) ?_; simp only [List.map_cons, List.map_nil, strip]) | (refine wIs fun K hK => ?_; simp [t1]) | (refine wIn ?_; refine And.intro (by kernel_rfl) ?_; try simp only [thenA_n]) | (refine wOs fun K hK => ?_; simp [t1]) | (refine wQs fun K hK => ?_; simp [t1]) | (refine CallK_plain ?_; simp [t1]) | (refine CallQ_plain ?_; simp [t1]) | (refine wRet ?_; try simp) | (refine wCond ?_; simp [t1]) | (refine wBlock ?_) | (refine wScope ?_) | (refine wExit ?_; try simp) | (refine wSkip ?_; try simp) | (refine wOn ?_; try simp only [thenA_n]) | (refine wQn ?_; try simp only [thenA_n]) | (refine CallE.pure (c1) rfl ?_) | (refine CallE.lent (c1) rfl ?_) | (refine CallF.pure (c1) rfl ?_) | (refine CallF.lent (c1) rfl ?_) | (refine CallE.own (c1) ?_) | (refine CallE.pure (c2) rfl ?_) | (refine CallE.lent (c2) rfl ?_) | (refine CallF.pure (c2) rfl ?_) | (refine CallF.lent (c2) rfl ?_) | (refine CallE.own (c2) ?_) | (refine CallE.pure (c3) rfl ?_) | (refine CallE.lent (c3) rfl ?_) | (refine CallF.pure (c3) rfl ?_) | (refine CallF.lent (c3) rfl ?_) | (refine CallE.own (c3) ?_) | (refine CallE.pure (c4) rfl ?_) | (refine CallE.lent (c4) rfl ?_) | (refine CallF.pure (c4) rfl ?_) | (refine CallF.lent (c4) rfl ?_) | (refine CallE.own (c4) ?_) | (refine CallE.pure (awake02) rfl ?_) | (refine CallE.lent (awake02) rfl ?_) | (refine CallF.pure (awake02) rfl ?_) | (refine CallF.lent (awake02) rfl ?_) | (refine CallE.own (awake02) ?_)
      all_goals apply hr
      all_goals simp [Tryd.f8]
end Go.Proofs.YtjceehpfncfpgaaDoor
