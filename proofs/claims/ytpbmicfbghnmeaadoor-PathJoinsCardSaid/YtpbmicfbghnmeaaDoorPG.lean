/- Layer 3: a path is its parent with its name; the law PathBack. -/
import Derived.Test.YtpbmicfbghnmeaaDoorPD
import Derived.Test.YtpbmicfbghnmeaaDoorPF
namespace Go.Proofs.YtpbmicfbghnmeaaDoor
set_option linter.unusedSimpArgs false
set_option linter.unusedVariables false
open Go Go.Av
attribute [local simp] Tryd.T1 Tryd.T2 Tryd.T3 Tryd.T4 Tryd.T5 Tryd.T9 Tryd.T12 Tryd.T21 Tryd.T22 Tryd.T23 Tryd.T25 Tryd.T26 Tryd.T27 Tryd.T28 Tryd.T29 Tryd.T30 Tryd.T32 Tryd.T33 Tryd.T34 Tryd.T35 Tryd.T36 Tryd.T37 Tryd.T38 Tryd.T39 Tryd.T40 Tryd.T41 Tryd.T42 Tryd.T43 Tryd.T44 Tryd.T45 Tryd.T47 Tryd.T51 Tryd.T55 Tryd.T56 Tryd.T57 Tryd.T58 Tryd.T60 Tryd.T61 Tryd.T62 Tryd.T63 Tryd.T65 Tryd.T67 Tryd.T68 Tryd.T69 Tryd.T70 Tryd.T72 Tryd.T74 Tryd.T75 Tryd.T76 Tryd.T77 Tryd.T79 Tryd.T80 Tryd.T81 Tryd.T82 Tryd.T83 Tryd.T91
attribute [local irreducible] Go.Av.CallK Go.Av.CallE Go.Av.CallQ Go.Av.CallF Go.Av.Con

theorem g_nil (c : List UInt8) : g c [] = nm c := by cases c <;> rfl
theorem g_app {n : List UInt8} (hn : (47 : UInt8) ∉ n) : ∀ (a c : List UInt8), g c (a ++ 47 :: n) = (g c a && nm n)
  | [], c => by
    have h1 : g c (47 :: n) = (nm c && g [] n) := by rw [g, if_pos rfl]
    rw [List.nil_append, h1, g_no47 n [] hn, g_nil]; rfl
  | b :: a, c => by
    rw [List.cons_append, g]
    by_cases hb : b = 47
    · rw [if_pos hb, g_app hn a [], g, if_pos hb, Bool.and_assoc]
    · rw [if_neg hb, g_app hn a _, g, if_neg hb]
theorem split47 : ∀ l : List UInt8, (47 : UInt8) ∈ l → ∃ t n, l = t ++ 47 :: n ∧ (47 : UInt8) ∉ n
  | [], h => by simp at h
  | b :: r, h => by
    by_cases hr : (47 : UInt8) ∈ r
    · obtain ⟨t, n, e, hn⟩ := split47 r hr
      exact ⟨b :: t, n, by rw [e]; rfl, hn⟩
    · have hb : b = 47 := by
        rcases List.mem_cons.1 h with h | h
        · exact h.symm
        · exact absurd h hr
      exact ⟨[], r, by rw [hb]; rfl, hr⟩
theorem lx_top {t n : List UInt8} (hn : (47 : UInt8) ∉ n) : ∀ k, k ≤ n.length → lx (t ++ 47 :: n) (t.length + 1 + k) = t.length
  | 0, _ => by rw [Nat.add_zero, lx, if_pos (by rw [List.getElem?_append_right (by omega)]; simp)]
  | k + 1, h => by
    have ih := lx_top (t := t) hn k (by omega)
    have e : (t ++ 47 :: n)[t.length + 1 + k]? = n[k]? := by
      rw [List.getElem?_append_right (by omega), show t.length + 1 + k - t.length = k + 1 by omega]; rfl
    rw [← Nat.add_assoc, lx, e, if_neg, ih]
    intro h2
    exact hn (List.mem_of_getElem? h2)
theorem lx_all {t n : List UInt8} (hn : (47 : UInt8) ∉ n) : lx (t ++ 47 :: n) (t ++ 47 :: n).length = t.length := by
  have := lx_top (t := t) hn n.length (by omega)
  rw [show (t ++ 47 :: n).length = t.length + 1 + n.length by simp; omega]
  exact this
theorem nmd_of {p : List UInt8} (h : chk p = 0) (h1 : ¬ p = [47]) : nmd p = true := by
  unfold chk at h
  split at h
  · simp at h
  split at h
  · rename_i h2
    exact h2.resolve_left h1
  · simp at h
theorem chk_of {p : List UInt8} (h : nmd p = true) (hl : p.length ≤ 64) : chk p = 0 := by
  unfold chk
  rw [if_neg (by omega), if_pos (.inr h)]
theorem count0 {n : List UInt8} (h : (47 : UInt8) ∉ n) : Go.Lib.countByte n 47 = 0 := List.count_eq_zero.2 h
theorem jn_of {p n : List UInt8} (h : chk p = 0) (hn : nm n = true) (hl : (bel p ++ n).length ≤ 64) : jn p n = (bel p ++ n, 0) := by
  unfold jn
  rw [if_pos h, if_pos hn, if_neg (by omega)]
/-- What a path but the root is. -/
theorem child_facts {p : List UInt8} (h : chd p = true) : ∃ up, parV p = .tup [.p (SB up), .p (B true)] ∧ jn up (nam p) = (p, 0) ∧ dep up = dep p - 1 ∧ blw p up = true ∧ up.length ≤ 64 ∧ (nam p).length ≤ 64 := by
  have hc := h
  simp only [chd, decide_eq_true_eq] at h
  obtain ⟨h1, h0⟩ := h
  have hlen := chk_len h0
  have hnm := nmd_of h0 h1
  rcases chk_spec h0 with h2 | ⟨-, R, rfl, hR⟩
  · exact absurd h2 h1
  have hg : g [] R = true := hnm
  by_cases hm : (47 : UInt8) ∈ R
  · obtain ⟨a, n, rfl, hn⟩ := split47 R hm
    rw [g_app hn, Bool.and_eq_true] at hg
    have e : 47 :: (a ++ 47 :: n) = (47 :: a) ++ 47 :: n := rfl
    rw [e]
    replace hc : chd ((47 :: a) ++ 47 :: n) = true := hc
    replace h0 : chk ((47 :: a) ++ 47 :: n) = 0 := h0
    replace h1 : (47 :: a) ++ 47 :: n ≠ [47] := h1
    replace hlen : ((47 :: a) ++ 47 :: n).length ≤ 64 := hlen
    have hx := lx_all (t := 47 :: a) hn
    have ha : a ≠ [] := fun ha => by subst ha; simp [g, nm] at hg
    have hl2 : (47 :: a).length ≤ 64 := by simp at hlen ⊢; omega
    have hu : chk (47 :: a) = 0 := chk_of hg.1 hl2
    have hu1 : ¬ (47 :: a) = [47] := by simp [ha]
    have hb := bel_eq hu hu1
    have hnam : nam ((47 :: a) ++ 47 :: n) = n := by
      rw [nam, if_pos hc, hx, ← List.drop_drop, List.drop_left]; rfl
    refine ⟨47 :: a, ?_, ?_, ?_, ?_, hl2, ?_⟩
    · rw [parV, if_pos hc, hx, show max (47 :: a).length 1 = (47 :: a).length by simp, List.take_left]
    · have e2 : bel (47 :: a) ++ n = (47 :: a) ++ 47 :: n := by rw [hb, List.append_assoc]; rfl
      rw [hnam, jn_of hu hg.2 (by rw [e2]; exact hlen), e2]
    · rw [dep, if_pos hu, if_neg hu1, dep, if_pos h0, if_neg h1]
      have : Go.Lib.countByte ((47 :: a) ++ 47 :: n) 47 = Go.Lib.countByte (47 :: a) 47 + 1 := by
        have h3 := count0 hn
        unfold Go.Lib.countByte at h3 ⊢
        have h4 : List.count 47 (47 :: n) = 1 := by rw [List.count_cons, h3]; simp
        rw [List.count_append, h4]
      rw [this]; push_cast; omega
    · rw [blw, Bool.and_eq_true]
      refine ⟨?_, ?_⟩
      · rw [decide_eq_true_eq]
        refine ⟨h0, hu, fun h => ?_⟩
        have := congrArg List.length h
        simp at this
      · rw [hb, hpx, decide_eq_true_eq]
        refine ⟨by simp, ?_⟩
        rw [show (47 :: a) ++ 47 :: n = ((47 :: a) ++ [47]) ++ n by simp, List.take_left]
    · rw [hnam]; simp at hlen; omega
  · have e : 47 :: R = ([] : List UInt8) ++ 47 :: R := rfl
    have hx : lx (47 :: R) (47 :: R).length = 0 := lx_all (t := []) hm
    have hn : nm R = true := by rw [g_no47 R [] hm] at hg; exact hg
    have hnam : nam (47 :: R) = R := by rw [nam, if_pos hc, hx]; rfl
    have hb : bel [47] = [47] := rfl
    have hu : chk [47] = 0 := rfl
    refine ⟨[47], ?_, ?_, ?_, ?_, by simp, ?_⟩
    · rw [parV, if_pos hc, hx]; rfl
    · rw [hnam, jn_of hu hn (by rw [hb]; exact hlen), hb]; rfl
    · rw [dep, if_pos hu, if_pos rfl, dep, if_pos h0, if_neg h1]
      have : Go.Lib.countByte (47 :: R) 47 = 1 := by
        have h3 := count0 hm
        unfold Go.Lib.countByte at h3 ⊢
        rw [List.count_cons, h3]; simp
      rw [this]; rfl
    · rw [blw, Bool.and_eq_true]
      refine ⟨?_, ?_⟩
      · rw [decide_eq_true_eq]
        exact ⟨h0, hu, h1⟩
      · rw [hb, hpx, decide_eq_true_eq]
        exact ⟨by simp, rfl⟩
    · rw [hnam]; simp at hlen; omega
theorem jn_back {p n : List UInt8} (h : (jn p n).2 = 0) : chk (jn p n).1 = 0 ∧ parV (jn p n).1 = .tup [.p (SB p), .p (B true)] ∧ nam (jn p n).1 = n := by
  unfold jn at h ⊢
  split at h
  case isFalse h0 => exact absurd h h0
  rename_i h0
  rw [if_pos h0]
  split at h
  case isFalse => simp at h
  rename_i hn
  rw [if_pos hn]
  split at h
  case isTrue => simp at h
  rename_i hl
  rw [if_neg hl]
  have h47 : (47 : UInt8) ∉ n := fun hm => by rw [nm_47 hm] at hn; simp at hn
  by_cases h1 : p = [47]
  · subst h1
    have e : bel [47] ++ n = [] ++ 47 :: n := rfl
    rw [e] at hl ⊢
    have hc : chk ([] ++ 47 :: n) = 0 := chk_of (by show g [] n = true; rw [g_no47 n [] h47]; exact hn) (by omega)
    have hne : n ≠ [] := fun hn' => by subst hn'; simp [nm] at hn
    have hch : chd ([] ++ 47 :: n) = true := by rw [chd, decide_eq_true_eq]; exact ⟨by simp [hne], hc⟩
    have hx := lx_all (t := []) h47
    refine ⟨hc, ?_, ?_⟩
    · rw [parV, if_pos hch, hx]; rfl
    · rw [nam, if_pos hch, hx]; rfl
  · have hb := bel_eq h0 h1
    have e : bel p ++ n = p ++ 47 :: n := by rw [hb, List.append_assoc]; rfl
    rw [e] at hl ⊢
    have hnm := nmd_of h0 h1
    rcases chk_spec h0 with h2 | ⟨-, R, rfl, hR⟩
    · exact absurd h2 h1
    have hc : chk ((47 :: R) ++ 47 :: n) = 0 := chk_of (by show g [] (R ++ 47 :: n) = true; rw [g_app h47, hn, Bool.and_true]; exact hnm) (by omega)
    have hch : chd ((47 :: R) ++ 47 :: n) = true := by rw [chd, decide_eq_true_eq]; exact ⟨by simp, hc⟩
    have hx := lx_all (t := 47 :: R) h47
    refine ⟨hc, ?_, ?_⟩
    · rw [parV, if_pos hch, hx, show max (47 :: R).length 1 = (47 :: R).length by simp, List.take_left]
    · rw [nam, if_pos hch, hx, ← List.drop_drop, List.drop_left]; rfl
theorem jn_bad {p n : List UInt8} (h : ¬ (jn p n).2 = 0) : (jn p n).1 = [] := by
  unfold jn at h ⊢
  split at h
  · rename_i h0
    rw [if_pos h0]
    split at h
    · rename_i hn
      rw [if_pos hn]
      split at h
      · rename_i hl
        rw [if_pos hl]
      · simp at h
    · rename_i hn
      rw [if_neg hn]
  · rename_i h0
    rw [if_neg h0]
set_option maxHeartbeats 4000000 in
theorem pathBack_con (p n : List UInt8) (hp : p.length ≤ 9223372036854775807) (hn : n.length ≤ 9223372036854775807) : ACon Tryd.prog 5 [.p (SB p), .p (SB n)] (.p (B true)) := by
  have c := long_con [p, n] (by simp)
  simp only [List.map_cons, List.map_nil, List.any_cons, List.any_nil, Bool.or_false] at c
  by_cases hlg : (lng p || lng n) = true
  · rw [hlg] at c
    refine wBody Tryd.tab Tryd.mixed Tryd.func5 rfl rfl Tryd.ntmps5 (by simp) (by simp) fun Q hr hn => ?_
    repeat' first | (refine hK _ ?_; clear hK) | (refine hK _ _ ?_; clear hK) | (clear hK; refine hK _ ?_; clear hK) | (clear hK; clear hK; refine hK _ ?_; clear hK) | (clear hK; clear hK; clear hK; refine hK _ ?_; clear hK) | (clear hK; clear hK; clear hK; clear hK; refine hK _ ?_; clear hK) | (refine wSeq fun K hK => ?_) | (refine wReg ?_; simp only [List.map_cons, List.map_nil, strip]) | (refine wDrwQ rfl (by kernel_rfl) ?_; simp only [List.map_cons, List.map_nil, strip]) | (refine wDrwI ?_; simp only [List.map_cons, List.map_nil, strip]) | (refine wDrw (by kernel_rfl) ?_; simp only [List.map_cons, List.map_nil, strip]) | (refine wIs fun K hK => ?_; simp) | (refine wIn ?_; refine And.intro (by kernel_rfl) ?_; try simp only [thenA_n]) | (refine wOs fun K hK => ?_; simp) | (refine wQs fun K hK => ?_; simp) | (refine CallK_plain ?_; simp) | (refine CallQ_plain ?_; simp) | (refine wRet ?_; try simp) | (refine wCond ?_; simp) | (refine wBlock ?_) | (refine wScope ?_) | (refine wLabel ?_; try simp only [thenA_n]) | (refine wExit ?_; try simp) | (refine wSkip ?_; try simp) | (refine wOn ?_; try simp only [thenA_n]) | (refine wQn ?_; try simp only [thenA_n]) | (refine CallE.pure (c) rfl ?_) | (refine CallE.lent (c) rfl ?_) | (refine CallF.pure (c) rfl ?_) | (refine CallF.lent (c) rfl ?_) | (refine CallE.own (c) ?_) | (refine CallE.pure (awake03) rfl ?_) | (refine CallE.lent (awake03) rfl ?_) | (refine CallF.pure (awake03) rfl ?_) | (refine CallF.lent (awake03) rfl ?_) | (refine CallE.own (awake03) ?_)
    all_goals apply hr
    all_goals simp [Tryd.f5]
  rw [Bool.not_eq_true] at hlg
  rw [hlg] at c
  have hn3 : n.length ≤ 3000 := by
    simp only [lng, Bool.or_eq_false_iff, decide_eq_false_iff_not] at hlg
    omega
  have c1 := parent_con p hp
  have c2 := name_con p hp
  have c4 := depth_con p hp
  have j := join_con p n hp hn3
  have hjl : (jn p n).1.length ≤ 9223372036854775807 := by
    by_cases h : (jn p n).2 = 0
    · have := chk_len (jn_back h).1; omega
    · rw [jn_bad h]; simp
  have j1 := parent_con (jn p n).1 hjl
  have j2 := name_con (jn p n).1 hjl
  have j3 := check_con (jn p n).1 hjl
  have hj0 := fun h => jn_back (p := p) (n := n) h
  have hj1 := fun h => jn_bad (p := p) (n := n) h
  generalize jn p n = q at j j1 j2 j3 hj0 hj1
  obtain ⟨w, e⟩ := q
  dsimp only at j j1 j2 j3 hj0 hj1
  have hE : (e = 0 ∧ chk w = 0 ∧ parV w = .tup [.p (SB p), .p (B true)] ∧ nam w = n) ∨ (¬ e = 0 ∧ w = []) := by
    by_cases h : e = 0
    · exact .inl ⟨h, hj0 h⟩
    · exact .inr ⟨h, hj1 h⟩
  clear hj0 hj1
  have hC : (chd p = false ∧ parV p = .tup [.p (SB []), .p (B false)]) ∨ ∃ up, parV p = .tup [.p (SB up), .p (B true)] ∧ jn up (nam p) = (p, 0) ∧ dep up = dep p - 1 ∧ blw p up = true ∧ up.length ≤ 64 ∧ (nam p).length ≤ 64 ∧ 0 ≤ dep p ∧ dep p ≤ 9223372036854775807 := by
    cases h : chd p
    · exact .inl ⟨rfl, by rw [parV, h]; rfl⟩
    · obtain ⟨up, a1, a2, a3, a4, a5, a6⟩ := child_facts h
      refine .inr ⟨up, a1, a2, a3, a4, a5, a6, ?_, ?_⟩
      · simp only [chd, decide_eq_true_eq] at h
        rw [dep, if_pos h.2, if_neg h.1]; omega
      · simp only [chd, decide_eq_true_eq] at h
        rw [dep, if_pos h.2, if_neg h.1]
        have := count_le p
        omega
  rcases hC with ⟨-, hP⟩ | ⟨up, hP, u1, u2, u3, u4, u5, u6, u7⟩
  · rw [hP] at c1
    rcases hE with ⟨rfl, e1, e2, e3⟩ | ⟨e0, rfl⟩
    · rw [e1] at j3
      rw [e2] at j1
      rw [e3] at j2
      refine wBody Tryd.tab Tryd.mixed Tryd.func5 rfl rfl Tryd.ntmps5 (by simp) (by simp) fun Q hr hn => ?_
      repeat' first | (refine hK _ ?_; clear hK) | (refine hK _ _ ?_; clear hK) | (clear hK; refine hK _ ?_; clear hK) | (clear hK; clear hK; refine hK _ ?_; clear hK) | (clear hK; clear hK; clear hK; refine hK _ ?_; clear hK) | (clear hK; clear hK; clear hK; clear hK; refine hK _ ?_; clear hK) | (refine wSeq fun K hK => ?_) | (refine wReg ?_; simp only [List.map_cons, List.map_nil, strip]) | (refine wDrwQ rfl (by kernel_rfl) ?_; simp only [List.map_cons, List.map_nil, strip]) | (refine wDrwI ?_; simp only [List.map_cons, List.map_nil, strip]) | (refine wDrw (by kernel_rfl) ?_; simp only [List.map_cons, List.map_nil, strip]) | (refine wIs fun K hK => ?_; simp) | (refine wIn ?_; refine And.intro (by kernel_rfl) ?_; try simp only [thenA_n]) | (refine wOs fun K hK => ?_; simp) | (refine wQs fun K hK => ?_; simp) | (refine CallK_plain ?_; simp) | (refine CallQ_plain ?_; simp) | (refine wRet ?_; try simp) | (refine wCond ?_; simp) | (refine wBlock ?_) | (refine wScope ?_) | (refine wLabel ?_; try simp only [thenA_n]) | (refine wExit ?_; try simp) | (refine wSkip ?_; try simp) | (refine wOn ?_; try simp only [thenA_n]) | (refine wQn ?_; try simp only [thenA_n]) | (refine CallE.pure (c) rfl ?_) | (refine CallE.lent (c) rfl ?_) | (refine CallF.pure (c) rfl ?_) | (refine CallF.lent (c) rfl ?_) | (refine CallE.own (c) ?_) | (refine CallE.pure (c1) rfl ?_) | (refine CallE.lent (c1) rfl ?_) | (refine CallF.pure (c1) rfl ?_) | (refine CallF.lent (c1) rfl ?_) | (refine CallE.own (c1) ?_) | (refine CallE.pure (j) rfl ?_) | (refine CallE.lent (j) rfl ?_) | (refine CallF.pure (j) rfl ?_) | (refine CallF.lent (j) rfl ?_) | (refine CallE.own (j) ?_) | (refine CallE.pure (j1) rfl ?_) | (refine CallE.lent (j1) rfl ?_) | (refine CallF.pure (j1) rfl ?_) | (refine CallF.lent (j1) rfl ?_) | (refine CallE.own (j1) ?_) | (refine CallE.pure (j2) rfl ?_) | (refine CallE.lent (j2) rfl ?_) | (refine CallF.pure (j2) rfl ?_) | (refine CallF.lent (j2) rfl ?_) | (refine CallE.own (j2) ?_) | (refine CallE.pure (j3) rfl ?_) | (refine CallE.lent (j3) rfl ?_) | (refine CallF.pure (j3) rfl ?_) | (refine CallF.lent (j3) rfl ?_) | (refine CallE.own (j3) ?_) | (refine CallE.pure (awake03) rfl ?_) | (refine CallE.lent (awake03) rfl ?_) | (refine CallF.pure (awake03) rfl ?_) | (refine CallF.lent (awake03) rfl ?_) | (refine CallE.own (awake03) ?_)
      all_goals apply hr
      all_goals simp [Tryd.f5]
    · refine wBody Tryd.tab Tryd.mixed Tryd.func5 rfl rfl Tryd.ntmps5 (by simp) (by simp) fun Q hr hn => ?_
      repeat' first | (refine hK _ ?_; clear hK) | (refine hK _ _ ?_; clear hK) | (clear hK; refine hK _ ?_; clear hK) | (clear hK; clear hK; refine hK _ ?_; clear hK) | (clear hK; clear hK; clear hK; refine hK _ ?_; clear hK) | (clear hK; clear hK; clear hK; clear hK; refine hK _ ?_; clear hK) | (refine wSeq fun K hK => ?_) | (refine wReg ?_; simp only [List.map_cons, List.map_nil, strip]) | (refine wDrwQ rfl (by kernel_rfl) ?_; simp only [List.map_cons, List.map_nil, strip]) | (refine wDrwI ?_; simp only [List.map_cons, List.map_nil, strip]) | (refine wDrw (by kernel_rfl) ?_; simp only [List.map_cons, List.map_nil, strip]) | (refine wIs fun K hK => ?_; simp [e0]) | (refine wIn ?_; refine And.intro (by kernel_rfl) ?_; try simp only [thenA_n]) | (refine wOs fun K hK => ?_; simp [e0]) | (refine wQs fun K hK => ?_; simp [e0]) | (refine CallK_plain ?_; simp [e0]) | (refine CallQ_plain ?_; simp [e0]) | (refine wRet ?_; try simp) | (refine wCond ?_; simp [e0]) | (refine wBlock ?_) | (refine wScope ?_) | (refine wLabel ?_; try simp only [thenA_n]) | (refine wExit ?_; try simp) | (refine wSkip ?_; try simp) | (refine wOn ?_; try simp only [thenA_n]) | (refine wQn ?_; try simp only [thenA_n]) | (refine CallE.pure (c) rfl ?_) | (refine CallE.lent (c) rfl ?_) | (refine CallF.pure (c) rfl ?_) | (refine CallF.lent (c) rfl ?_) | (refine CallE.own (c) ?_) | (refine CallE.pure (c1) rfl ?_) | (refine CallE.lent (c1) rfl ?_) | (refine CallF.pure (c1) rfl ?_) | (refine CallF.lent (c1) rfl ?_) | (refine CallE.own (c1) ?_) | (refine CallE.pure (j) rfl ?_) | (refine CallE.lent (j) rfl ?_) | (refine CallF.pure (j) rfl ?_) | (refine CallF.lent (j) rfl ?_) | (refine CallE.own (j) ?_) | (refine CallE.pure (awake03) rfl ?_) | (refine CallE.lent (awake03) rfl ?_) | (refine CallF.pure (awake03) rfl ?_) | (refine CallF.lent (awake03) rfl ?_) | (refine CallE.own (awake03) ?_)
      all_goals apply hr
      all_goals simp [Tryd.f5]
  · rw [hP] at c1
    have d1 := join_con up (nam p) (by omega) (by omega)
    rw [u1] at d1
    have d2 := depth_con up (by omega)
    rw [u2] at d2
    have d3 := Below_con p up hp (by omega)
    rw [u3] at d3
    generalize nam p = m at c2 d1
    generalize dep p = D at c4 d2 u6 u7
    have hw : IntKind.i64.wrap (D - 1) = D - 1 := by rw [wrap_id] <;> omega
    rcases hE with ⟨rfl, e1, e2, e3⟩ | ⟨e0, rfl⟩
    · rw [e1] at j3
      rw [e2] at j1
      rw [e3] at j2
      refine wBody Tryd.tab Tryd.mixed Tryd.func5 rfl rfl Tryd.ntmps5 (by simp) (by simp) fun Q hr hn => ?_
      repeat' first | (refine hK _ ?_; clear hK) | (refine hK _ _ ?_; clear hK) | (clear hK; refine hK _ ?_; clear hK) | (clear hK; clear hK; refine hK _ ?_; clear hK) | (clear hK; clear hK; clear hK; refine hK _ ?_; clear hK) | (clear hK; clear hK; clear hK; clear hK; refine hK _ ?_; clear hK) | (refine wSeq fun K hK => ?_) | (refine wReg ?_; simp only [List.map_cons, List.map_nil, strip]) | (refine wDrwQ rfl (by kernel_rfl) ?_; simp only [List.map_cons, List.map_nil, strip]) | (refine wDrwI ?_; simp only [List.map_cons, List.map_nil, strip]) | (refine wDrw (by kernel_rfl) ?_; simp only [List.map_cons, List.map_nil, strip]) | (refine wIs fun K hK => ?_; simp [hw]) | (refine wIn ?_; refine And.intro (by kernel_rfl) ?_; try simp only [thenA_n]) | (refine wOs fun K hK => ?_; simp [hw]) | (refine wQs fun K hK => ?_; simp [hw]) | (refine CallK_plain ?_; simp [hw]) | (refine CallQ_plain ?_; simp [hw]) | (refine wRet ?_; try simp) | (refine wCond ?_; simp [hw]) | (refine wBlock ?_) | (refine wScope ?_) | (refine wLabel ?_; try simp only [thenA_n]) | (refine wExit ?_; try simp) | (refine wSkip ?_; try simp) | (refine wOn ?_; try simp only [thenA_n]) | (refine wQn ?_; try simp only [thenA_n]) | (refine CallE.pure (c) rfl ?_) | (refine CallE.lent (c) rfl ?_) | (refine CallF.pure (c) rfl ?_) | (refine CallF.lent (c) rfl ?_) | (refine CallE.own (c) ?_) | (refine CallE.pure (c1) rfl ?_) | (refine CallE.lent (c1) rfl ?_) | (refine CallF.pure (c1) rfl ?_) | (refine CallF.lent (c1) rfl ?_) | (refine CallE.own (c1) ?_) | (refine CallE.pure (c2) rfl ?_) | (refine CallE.lent (c2) rfl ?_) | (refine CallF.pure (c2) rfl ?_) | (refine CallF.lent (c2) rfl ?_) | (refine CallE.own (c2) ?_) | (refine CallE.pure (d1) rfl ?_) | (refine CallE.lent (d1) rfl ?_) | (refine CallF.pure (d1) rfl ?_) | (refine CallF.lent (d1) rfl ?_) | (refine CallE.own (d1) ?_) | (refine CallE.pure (d2) rfl ?_) | (refine CallE.lent (d2) rfl ?_) | (refine CallF.pure (d2) rfl ?_) | (refine CallF.lent (d2) rfl ?_) | (refine CallE.own (d2) ?_) | (refine CallE.pure (c4) rfl ?_) | (refine CallE.lent (c4) rfl ?_) | (refine CallF.pure (c4) rfl ?_) | (refine CallF.lent (c4) rfl ?_) | (refine CallE.own (c4) ?_) | (refine CallE.pure (d3) rfl ?_) | (refine CallE.lent (d3) rfl ?_) | (refine CallF.pure (d3) rfl ?_) | (refine CallF.lent (d3) rfl ?_) | (refine CallE.own (d3) ?_) | (refine CallE.pure (j) rfl ?_) | (refine CallE.lent (j) rfl ?_) | (refine CallF.pure (j) rfl ?_) | (refine CallF.lent (j) rfl ?_) | (refine CallE.own (j) ?_) | (refine CallE.pure (j1) rfl ?_) | (refine CallE.lent (j1) rfl ?_) | (refine CallF.pure (j1) rfl ?_) | (refine CallF.lent (j1) rfl ?_) | (refine CallE.own (j1) ?_) | (refine CallE.pure (j2) rfl ?_) | (refine CallE.lent (j2) rfl ?_) | (refine CallF.pure (j2) rfl ?_) | (refine CallF.lent (j2) rfl ?_) | (refine CallE.own (j2) ?_) | (refine CallE.pure (j3) rfl ?_) | (refine CallE.lent (j3) rfl ?_) | (refine CallF.pure (j3) rfl ?_) | (refine CallF.lent (j3) rfl ?_) | (refine CallE.own (j3) ?_) | (refine CallE.pure (awake03) rfl ?_) | (refine CallE.lent (awake03) rfl ?_) | (refine CallF.pure (awake03) rfl ?_) | (refine CallF.lent (awake03) rfl ?_) | (refine CallE.own (awake03) ?_)
      all_goals apply hr
      all_goals simp [Tryd.f5]
    · refine wBody Tryd.tab Tryd.mixed Tryd.func5 rfl rfl Tryd.ntmps5 (by simp) (by simp) fun Q hr hn => ?_
      repeat' first | (refine hK _ ?_; clear hK) | (refine hK _ _ ?_; clear hK) | (clear hK; refine hK _ ?_; clear hK) | (clear hK; clear hK; refine hK _ ?_; clear hK) | (clear hK; clear hK; clear hK; refine hK _ ?_; clear hK) | (clear hK; clear hK; clear hK; clear hK; refine hK _ ?_; clear hK) | (refine wSeq fun K hK => ?_) | (refine wReg ?_; simp only [List.map_cons, List.map_nil, strip]) | (refine wDrwQ rfl (by kernel_rfl) ?_; simp only [List.map_cons, List.map_nil, strip]) | (refine wDrwI ?_; simp only [List.map_cons, List.map_nil, strip]) | (refine wDrw (by kernel_rfl) ?_; simp only [List.map_cons, List.map_nil, strip]) | (refine wIs fun K hK => ?_; simp [hw, e0]) | (refine wIn ?_; refine And.intro (by kernel_rfl) ?_; try simp only [thenA_n]) | (refine wOs fun K hK => ?_; simp [hw, e0]) | (refine wQs fun K hK => ?_; simp [hw, e0]) | (refine CallK_plain ?_; simp [hw, e0]) | (refine CallQ_plain ?_; simp [hw, e0]) | (refine wRet ?_; try simp) | (refine wCond ?_; simp [hw, e0]) | (refine wBlock ?_) | (refine wScope ?_) | (refine wLabel ?_; try simp only [thenA_n]) | (refine wExit ?_; try simp) | (refine wSkip ?_; try simp) | (refine wOn ?_; try simp only [thenA_n]) | (refine wQn ?_; try simp only [thenA_n]) | (refine CallE.pure (c) rfl ?_) | (refine CallE.lent (c) rfl ?_) | (refine CallF.pure (c) rfl ?_) | (refine CallF.lent (c) rfl ?_) | (refine CallE.own (c) ?_) | (refine CallE.pure (c1) rfl ?_) | (refine CallE.lent (c1) rfl ?_) | (refine CallF.pure (c1) rfl ?_) | (refine CallF.lent (c1) rfl ?_) | (refine CallE.own (c1) ?_) | (refine CallE.pure (c2) rfl ?_) | (refine CallE.lent (c2) rfl ?_) | (refine CallF.pure (c2) rfl ?_) | (refine CallF.lent (c2) rfl ?_) | (refine CallE.own (c2) ?_) | (refine CallE.pure (d1) rfl ?_) | (refine CallE.lent (d1) rfl ?_) | (refine CallF.pure (d1) rfl ?_) | (refine CallF.lent (d1) rfl ?_) | (refine CallE.own (d1) ?_) | (refine CallE.pure (d2) rfl ?_) | (refine CallE.lent (d2) rfl ?_) | (refine CallF.pure (d2) rfl ?_) | (refine CallF.lent (d2) rfl ?_) | (refine CallE.own (d2) ?_) | (refine CallE.pure (c4) rfl ?_) | (refine CallE.lent (c4) rfl ?_) | (refine CallF.pure (c4) rfl ?_) | (refine CallF.lent (c4) rfl ?_) | (refine CallE.own (c4) ?_) | (refine CallE.pure (d3) rfl ?_) | (refine CallE.lent (d3) rfl ?_) | (refine CallF.pure (d3) rfl ?_) | (refine CallF.lent (d3) rfl ?_) | (refine CallE.own (d3) ?_) | (refine CallE.pure (j) rfl ?_) | (refine CallE.lent (j) rfl ?_) | (refine CallF.pure (j) rfl ?_) | (refine CallF.lent (j) rfl ?_) | (refine CallE.own (j) ?_) | (refine CallE.pure (awake03) rfl ?_) | (refine CallE.lent (awake03) rfl ?_) | (refine CallF.pure (awake03) rfl ?_) | (refine CallF.lent (awake03) rfl ?_) | (refine CallE.own (awake03) ?_)
      all_goals apply hr
      all_goals simp [Tryd.f5]
end Go.Proofs.YtpbmicfbghnmeaaDoor
