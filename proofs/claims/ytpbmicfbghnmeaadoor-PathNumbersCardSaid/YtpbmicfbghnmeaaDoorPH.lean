/- Layer 3: what is below what; the law PathBelow. -/
import Derived.Test.YtpbmicfbghnmeaaDoorPG
namespace Go.Proofs.YtpbmicfbghnmeaaDoor
set_option linter.unusedSimpArgs false
set_option linter.unusedVariables false
open Go Go.Av
attribute [local simp] Tryd.T1 Tryd.T2 Tryd.T3 Tryd.T4 Tryd.T5 Tryd.T9 Tryd.T12 Tryd.T21 Tryd.T22 Tryd.T23 Tryd.T25 Tryd.T26 Tryd.T27 Tryd.T28 Tryd.T29 Tryd.T30 Tryd.T32 Tryd.T33 Tryd.T34 Tryd.T35 Tryd.T36 Tryd.T37 Tryd.T38 Tryd.T39 Tryd.T40 Tryd.T41 Tryd.T42 Tryd.T43 Tryd.T44 Tryd.T45 Tryd.T47 Tryd.T51 Tryd.T55 Tryd.T56 Tryd.T57 Tryd.T58 Tryd.T60 Tryd.T61 Tryd.T62 Tryd.T63 Tryd.T65 Tryd.T67 Tryd.T68 Tryd.T69 Tryd.T70 Tryd.T72 Tryd.T74 Tryd.T75 Tryd.T76 Tryd.T77 Tryd.T79 Tryd.T80 Tryd.T81 Tryd.T82 Tryd.T83 Tryd.T91
attribute [local irreducible] Go.Av.CallK Go.Av.CallE Go.Av.CallQ Go.Av.CallF Go.Av.Con

/-- Of a path but the root: what stands ahead of its last stroke, and its parent. -/
theorem child_shape {p : List UInt8} (h : chd p = true) : ∃ t n up, p = t ++ 47 :: n ∧ (47 : UInt8) ∉ n ∧ parV p = .tup [.p (SB up), .p (B true)] ∧ chk up = 0 ∧ ((t = [] ∧ up = [47]) ∨ (up = t ∧ t ≠ [47] ∧ t ≠ [])) := by
  have hc := h
  simp only [chd, decide_eq_true_eq] at h
  obtain ⟨h1, h0⟩ := h
  have hlen := chk_len h0
  have hnm := nmd_of h0 h1
  rcases chk_spec h0 with h2 | ⟨-, R, rfl, hR⟩
  · exact absurd h2 h1
  have hg : g [] R = true := hnm
  by_cases hm : (47 : UInt8) ∈ R
  · obtain ⟨a, n, rfl, hn⟩ := split47 R hm
    rw [g_app hn, Bool.and_eq_true] at hg
    have e : 47 :: (a ++ 47 :: n) = (47 :: a) ++ 47 :: n := rfl
    have hx := lx_all (t := 47 :: a) hn
    have ha : a ≠ [] := fun ha => by subst ha; simp [g, nm] at hg
    have hl2 : (47 :: a).length ≤ 64 := by simp at hlen ⊢; omega
    have hu : chk (47 :: a) = 0 := chk_of hg.1 hl2
    have hu1 : ¬ (47 :: a) = [47] := by simp [ha]
    refine ⟨47 :: a, n, 47 :: a, e, hn, ?_, hu, .inr ⟨rfl, hu1, by simp⟩⟩
    rw [e] at hc ⊢
    rw [parV, if_pos hc, hx, show max (47 :: a).length 1 = (47 :: a).length by simp, List.take_left]
  · have e : 47 :: R = ([] : List UInt8) ++ 47 :: R := rfl
    have hx : lx (47 :: R) (47 :: R).length = 0 := lx_all (t := []) hm
    refine ⟨[], R, [47], e, hm, ?_, rfl, .inl ⟨rfl, rfl⟩⟩
    rw [parV, if_pos hc, hx]; rfl
theorem chk_nil : ¬ chk [] = 0 := by decide
theorem hpx_bel {p q : List UInt8} (h : chk q = 0) (h1 : ¬ q = [47]) : hpx p (bel q) = true ↔ ∃ r, p = q ++ 47 :: r := by
  rw [bel_eq h h1, hpx, decide_eq_true_eq]
  constructor
  · intro ⟨h2, h3⟩
    refine ⟨p.drop (q ++ [47]).length, ?_⟩
    have := List.take_append_drop (q ++ [47]).length p
    rw [h3] at this
    simpa using this.symm
  · rintro ⟨r, rfl⟩
    have e : q ++ 47 :: r = (q ++ [47]) ++ r := by simp
    rw [e]
    exact ⟨by simp, List.take_left⟩
theorem hpx_root {p : List UInt8} : hpx p (bel [47]) = true ↔ ∃ r, p = 47 :: r := by
  have hb : bel [47] = [47] := rfl
  rw [hb, hpx, decide_eq_true_eq]
  constructor
  · intro ⟨h2, h3⟩
    cases p with
    | nil => simp at h2
    | cons a r =>
      simp at h3
      exact ⟨r, by rw [h3]⟩
  · rintro ⟨r, rfl⟩
    exact ⟨by simp, rfl⟩
theorem blw_iff {p q : List UInt8} : blw p q = true ↔ chk p = 0 ∧ chk q = 0 ∧ p ≠ q ∧ hpx p (bel q) = true := by
  rw [blw, Bool.and_eq_true, decide_eq_true_eq]
  constructor
  · rintro ⟨⟨a, b, c⟩, d⟩; exact ⟨a, b, c, d⟩
  · rintro ⟨a, b, c, d⟩; exact ⟨⟨a, b, c⟩, d⟩
theorem chk_head {p : List UInt8} (h : chk p = 0) : ∃ r, p = 47 :: r := by
  rcases chk_spec h with rfl | ⟨-, R, rfl, -⟩
  · exact ⟨[], rfl⟩
  · exact ⟨R, rfl⟩
theorem SB_inj {a b : List UInt8} (h : SB a = SB b) : a = b := by
  simpa [SB] using h
theorem par_inj {p a b : List UInt8} (h : parV p = .tup [.p (SB a), .p (B true)]) (h' : parV p = .tup [.p (SB b), .p (B true)]) : a = b := by
  rw [h] at h'
  simpa using h'
/-- Below is met on the way up. -/
theorem blw_up {p q up : List UInt8} (h : chd p = true) (hu : parV p = .tup [.p (SB up), .p (B true)]) : blw p q = (decide (up = q) || blw up q) := by
  obtain ⟨t, n, up', hp, hn, hpu, hcu, hs⟩ := child_shape h
  obtain rfl := par_inj hu hpu
  simp only [chd, decide_eq_true_eq] at h
  rw [Bool.eq_iff_iff, Bool.or_eq_true, decide_eq_true_eq, blw_iff, blw_iff]
  by_cases hq : q = [47]
  · subst hq
    rw [hpx_root, hpx_root]
    constructor
    · intro _
      by_cases hu1 : up = [47]
      · exact .inl hu1
      · exact .inr ⟨hcu, rfl, hu1, chk_head hcu⟩
    · intro _
      exact ⟨h.2, rfl, h.1, chk_head h.2⟩
  by_cases hcq : chk q = 0
  · rw [hpx_bel hcq hq, hpx_bel hcq hq]
    have hqne : q ≠ [] := fun e => by rw [e] at hcq; exact chk_nil hcq
    constructor
    · rintro ⟨-, -, -, r, hr⟩
      rw [hp] at hr
      rcases hs with ⟨rfl, rfl⟩ | ⟨rfl, ht, ht'⟩
      · exfalso
        obtain ⟨c, rfl⟩ := chk_head hcq
        simp at hr
        exact hn (by rw [hr]; simp)
      · rcases List.append_eq_append_iff.1 hr with ⟨a, ha, hb⟩ | ⟨a, ha, hb⟩
        · cases a with
          | nil => left; simpa using ha.symm
          | cons x a =>
            exfalso
            simp only [List.cons_append, List.cons.injEq] at hb
            exact hn (by rw [hb.2]; simp)
        · cases a with
          | nil => left; simpa using ha
          | cons x a =>
            right
            simp only [List.cons_append, List.cons.injEq] at hb
            refine ⟨hcu, hcq, fun e => ?_, a, by rw [ha, ← hb.1]⟩
            rw [e] at ha
            have := congrArg List.length ha
            simp at this
    · intro hor
      have key : ∃ r, p = q ++ 47 :: r := by
        rcases hor with rfl | ⟨-, -, -, r, hr⟩
        · rcases hs with ⟨rfl, rfl⟩ | ⟨rfl, -, -⟩
          · exact absurd rfl hq
          · exact ⟨n, hp⟩
        · rcases hs with ⟨rfl, rfl⟩ | ⟨rfl, -, -⟩
          · obtain ⟨c, rfl⟩ := chk_head hcq
            simp at hr
          · exact ⟨r ++ 47 :: n, by rw [hp, hr]; simp⟩
      refine ⟨h.2, hcq, fun e => ?_, key⟩
      obtain ⟨r, hr⟩ := key
      rw [e] at hr
      have := congrArg List.length hr
      simp at this
  · constructor
    · exact fun h => absurd h.2.1 hcq
    · rintro (rfl | h)
      · exact absurd hcu hcq
      · exact absurd h.2.1 hcq
theorem blw_chd {p q : List UInt8} (h : blw p q = true) : chd p = true := by
  obtain ⟨h1, h2, h3, h4⟩ := blw_iff.1 h
  rw [chd, decide_eq_true_eq]
  refine ⟨fun e => ?_, h1⟩
  subst e
  have hq : ¬ q = [47] := fun e => h3 e.symm
  obtain ⟨r, hr⟩ := (hpx_bel h2 hq).1 h4
  obtain ⟨c, rfl⟩ := chk_head h2
  simp at hr
theorem up_of {p : List UInt8} (h : chd p = true) : ∃ up, parV p = .tup [.p (SB up), .p (B true)] ∧ chk up = 0 ∧ dep up = dep p - 1 ∧ (∀ q, blw p q = (decide (up = q) || blw up q)) := by
  obtain ⟨t, n, up, -, -, hpu, hcu, -⟩ := child_shape h
  obtain ⟨up', a1, -, a3, -⟩ := child_facts h
  obtain rfl := par_inj hpu a1
  exact ⟨up, hpu, hcu, a3, fun q => blw_up h hpu⟩
theorem dep0 {p : List UInt8} (h : chk p = 0) : 0 ≤ dep p := by
  rw [dep, if_pos h]; split <;> omega
theorem dep_le (p : List UInt8) : dep p ≤ 64 := by
  unfold dep
  split
  · rename_i h
    have := chk_len h
    have := count_le p
    split <;> omega
  · omega
theorem blw_dep : ∀ (N : Nat) {p q : List UInt8}, dep p ≤ N → blw p q = true → dep q < dep p
  | N, p, q, hN, h => by
    obtain ⟨up, a1, a2, a3, a4⟩ := up_of (blw_chd h)
    rw [a4, Bool.or_eq_true, decide_eq_true_eq] at h
    rcases h with rfl | h
    · omega
    · cases N with
      | zero => have := dep0 a2; omega
      | succ N =>
        have := blw_dep N (by omega) h
        omega
theorem blw_on : ∀ (N : Nat) {p q s : List UInt8}, dep p ≤ N → blw p q = true → blw q s = true → blw p s = true
  | N, p, q, s, hN, h, h' => by
    obtain ⟨up, a1, a2, a3, a4⟩ := up_of (blw_chd h)
    rw [a4, Bool.or_eq_true, decide_eq_true_eq] at h
    rw [a4, Bool.or_eq_true]
    right
    rcases h with rfl | h
    · exact h'
    · cases N with
      | zero => have := dep0 a2; omega
      | succ N => exact blw_on N (by omega) h h'
theorem blw_less {p q : List UInt8} (h : blw p q = true) : dep q < dep p := blw_dep 64 (dep_le p) h
theorem blw_tr {p q s : List UInt8} (h : blw p q = true) (h' : blw q s = true) : blw p s = true := blw_on 64 (dep_le p) h h'
theorem blw_not {p q : List UInt8} (h : blw p q = true) : blw q p = false := by
  cases h' : blw q p with
  | false => rfl
  | true => have := blw_less h; have := blw_less h'; omega
theorem dep_bnd (p : List UInt8) : -1 ≤ dep p ∧ dep p ≤ 64 := by
  refine ⟨?_, dep_le p⟩
  by_cases h : chk p = 0
  · have := dep0 h; omega
  · rw [dep, if_neg h]; omega
theorem par_cases (p : List UInt8) : (parV p = .tup [.p (SB []), .p (B false)] ∧ ∀ q, blw p q = false) ∨ ∃ up, parV p = .tup [.p (SB up), .p (B true)] ∧ up.length ≤ 64 ∧ 0 ≤ dep up ∧ dep up = dep p - 1 ∧ ∀ q, blw p q = (decide (up = q) || blw up q) := by
  cases h : chd p
  · refine .inl ⟨by rw [parV, h]; rfl, fun q => ?_⟩
    cases hb : blw p q with
    | false => rfl
    | true => have := blw_chd hb; rw [h] at this; simp at this
  · obtain ⟨up, a1, a2, a3, a4⟩ := up_of h
    exact .inr ⟨up, a1, chk_len a2, dep0 a2, a3, a4⟩
theorem belowL {Q : AExit → St → Prop} {st : St} (p q : List UInt8) (hp : p.length ≤ 9223372036854775807) (hend : ∀ st, st.s 0 = .p (SB p) ∧ st.s 1 = .p (SB q) ∧ st.s 7 = .p (B (blw p q)) → Q (.exit 0) st)
    (h0 : st.s 0 = .p (SB p) ∧ st.s 1 = .p (SB q) ∧ st.s 7 = .p (B false) ∧ st.s 8 = .p (SB p) ∧ st.s 49 = .p (I 0)) :
    WC Tryd.prog Tryd.T 74 (lp Tryd.f6 0) Q st := by
  obtain ⟨g0, g1, g7, g8, g49⟩ := h0
  refine wLoop (fun N st => ∃ (k : Nat) (up : List UInt8) (f : Bool), k + N = 70 ∧ up.length ≤ 9223372036854775807 ∧ (f || blw up q) = blw p q ∧ dep up + k ≤ 64 ∧ (1 ≤ k → 0 ≤ dep up) ∧ st.s 0 = .p (SB p) ∧ st.s 1 = .p (SB q) ∧ st.s 7 = .p (B f) ∧ st.s 8 = .p (SB up) ∧ st.s 49 = .p (I k)) 70 ⟨0, p, false, by simp, hp, by simp, by have := dep_bnd p; omega, by simp, g0, g1, g7, g8, g49⟩ fun K N st hL ⟨k, up, f, hk, hul, hf, hd, hd0, g0, g1, g7, g8, g49⟩ => ?_
  by_cases hlt : k < 70
  · have hw := wrapS k 70 hlt (by omega)
    have hlt' : (k : Int) < 70 := by omega
    have c := parent_con up hul
    rcases par_cases up with ⟨hP, hB⟩ | ⟨u2, hP, u3, u4, u5, u6⟩
    · rw [hP] at c
      rw [hB q, Bool.or_false] at hf
      repeat' first | (refine hK _ ?_; clear hK) | (refine hK _ _ ?_; clear hK) | (clear hK; refine hK _ ?_; clear hK) | (clear hK; clear hK; refine hK _ ?_; clear hK) | (clear hK; clear hK; clear hK; refine hK _ ?_; clear hK) | (clear hK; clear hK; clear hK; clear hK; refine hK _ ?_; clear hK) | (refine wSeq fun K hK => ?_) | (refine wReg ?_; simp only [List.map_cons, List.map_nil, strip]) | (refine wDrwQ rfl (by kernel_rfl) ?_; simp only [List.map_cons, List.map_nil, strip]) | (refine wDrwI ?_; simp only [List.map_cons, List.map_nil, strip]) | (refine wDrw (by kernel_rfl) ?_; simp only [List.map_cons, List.map_nil, strip]) | (refine wIs fun K hK => ?_; simp [g0, g1, g7, g8, g49, hlt, hlt', hw]) | (refine wIn ?_; refine And.intro (by kernel_rfl) ?_; try simp only [thenA_n]) | (refine wOs fun K hK => ?_; simp [g0, g1, g7, g8, g49, hlt, hlt', hw]) | (refine wQs fun K hK => ?_; simp [g0, g1, g7, g8, g49, hlt, hlt', hw]) | (refine CallK_plain ?_; simp [g0, g1, g7, g8, g49, hlt, hlt', hw]) | (refine CallQ_plain ?_; simp [g0, g1, g7, g8, g49, hlt, hlt', hw]) | (refine wRet ?_; try simp) | (refine wCond ?_; simp [g0, g1, g7, g8, g49, hlt, hlt', hw]) | (refine wBlock ?_) | (refine wScope ?_) | (refine wLabel ?_; try simp only [thenA_n]) | (refine wExit ?_; try simp) | (refine wSkip ?_; try simp) | (refine wOn ?_; try simp only [thenA_n]) | (refine wQn ?_; try simp only [thenA_n]) | (refine CallE.pure (c) rfl ?_) | (refine CallE.lent (c) rfl ?_) | (refine CallF.pure (c) rfl ?_) | (refine CallF.lent (c) rfl ?_) | (refine CallE.own (c) ?_)
      exact hend _ ⟨by simp [g0], by simp [g1], by simp [g7, hf]⟩
    · rw [hP] at c
      rw [u6 q] at hf
      by_cases hq : u2 = q
      · subst hq
        have hbT : blw p u2 = true := by rw [← hf]; simp
        cases f
        all_goals
          repeat' first | (refine hK _ ?_; clear hK) | (refine hK _ _ ?_; clear hK) | (clear hK; refine hK _ ?_; clear hK) | (clear hK; clear hK; refine hK _ ?_; clear hK) | (clear hK; clear hK; clear hK; refine hK _ ?_; clear hK) | (clear hK; clear hK; clear hK; clear hK; refine hK _ ?_; clear hK) | (refine wSeq fun K hK => ?_) | (refine wReg ?_; simp only [List.map_cons, List.map_nil, strip]) | (refine wDrwQ rfl (by kernel_rfl) ?_; simp only [List.map_cons, List.map_nil, strip]) | (refine wDrwI ?_; simp only [List.map_cons, List.map_nil, strip]) | (refine wDrw (by kernel_rfl) ?_; simp only [List.map_cons, List.map_nil, strip]) | (refine wIs fun K hK => ?_; simp [g0, g1, g7, g8, g49, hlt, hlt', hw]) | (refine wIn ?_; refine And.intro (by kernel_rfl) ?_; try simp only [thenA_n]) | (refine wOs fun K hK => ?_; simp [g0, g1, g7, g8, g49, hlt, hlt', hw]) | (refine wQs fun K hK => ?_; simp [g0, g1, g7, g8, g49, hlt, hlt', hw]) | (refine CallK_plain ?_; simp [g0, g1, g7, g8, g49, hlt, hlt', hw]) | (refine CallQ_plain ?_; simp [g0, g1, g7, g8, g49, hlt, hlt', hw]) | (refine wRet ?_; try simp) | (refine wCond ?_; simp [g0, g1, g7, g8, g49, hlt, hlt', hw]) | (refine wBlock ?_) | (refine wScope ?_) | (refine wLabel ?_; try simp only [thenA_n]) | (refine wExit ?_; try simp) | (refine wSkip ?_; try simp) | (refine wOn ?_; try simp only [thenA_n]) | (refine wQn ?_; try simp only [thenA_n]) | (refine CallE.pure (c) rfl ?_) | (refine CallE.lent (c) rfl ?_) | (refine CallF.pure (c) rfl ?_) | (refine CallF.lent (c) rfl ?_) | (refine CallE.own (c) ?_)
          refine hL _ (N - 1) (by omega) ⟨k + 1, u2, true, by omega, by omega, by rw [hbT]; simp, by omega, fun _ => u4, ?_⟩
          simp [g0, g1, g7, g8, g49, hw]
      · have hq' : decide (u2 = q) = false := by simpa using hq
        rw [hq', Bool.false_or] at hf
        cases f
        all_goals
          repeat' first | (refine hK _ ?_; clear hK) | (refine hK _ _ ?_; clear hK) | (clear hK; refine hK _ ?_; clear hK) | (clear hK; clear hK; refine hK _ ?_; clear hK) | (clear hK; clear hK; clear hK; refine hK _ ?_; clear hK) | (clear hK; clear hK; clear hK; clear hK; refine hK _ ?_; clear hK) | (refine wSeq fun K hK => ?_) | (refine wReg ?_; simp only [List.map_cons, List.map_nil, strip]) | (refine wDrwQ rfl (by kernel_rfl) ?_; simp only [List.map_cons, List.map_nil, strip]) | (refine wDrwI ?_; simp only [List.map_cons, List.map_nil, strip]) | (refine wDrw (by kernel_rfl) ?_; simp only [List.map_cons, List.map_nil, strip]) | (refine wIs fun K hK => ?_; simp [g0, g1, g7, g8, g49, hlt, hlt', hw, hq]) | (refine wIn ?_; refine And.intro (by kernel_rfl) ?_; try simp only [thenA_n]) | (refine wOs fun K hK => ?_; simp [g0, g1, g7, g8, g49, hlt, hlt', hw, hq]) | (refine wQs fun K hK => ?_; simp [g0, g1, g7, g8, g49, hlt, hlt', hw, hq]) | (refine CallK_plain ?_; simp [g0, g1, g7, g8, g49, hlt, hlt', hw, hq]) | (refine CallQ_plain ?_; simp [g0, g1, g7, g8, g49, hlt, hlt', hw, hq]) | (refine wRet ?_; try simp) | (refine wCond ?_; simp [g0, g1, g7, g8, g49, hlt, hlt', hw, hq]) | (refine wBlock ?_) | (refine wScope ?_) | (refine wLabel ?_; try simp only [thenA_n]) | (refine wExit ?_; try simp) | (refine wSkip ?_; try simp) | (refine wOn ?_; try simp only [thenA_n]) | (refine wQn ?_; try simp only [thenA_n]) | (refine CallE.pure (c) rfl ?_) | (refine CallE.lent (c) rfl ?_) | (refine CallF.pure (c) rfl ?_) | (refine CallF.lent (c) rfl ?_) | (refine CallE.own (c) ?_)
        · refine hL _ (N - 1) (by omega) ⟨k + 1, u2, false, by omega, by omega, hf, by omega, fun _ => u4, ?_⟩
          simp [g0, g1, g7, g8, g49, hw, hq]
        · refine hL _ (N - 1) (by omega) ⟨k + 1, u2, true, by omega, by omega, hf, by omega, fun _ => u4, ?_⟩
          simp [g0, g1, g7, g8, g49, hw]
  · exfalso
    have := hd0 (by omega)
    omega
set_option maxHeartbeats 2000000 in
theorem pathBelow_con (p q s : List UInt8) (hp : p.length ≤ 9223372036854775807) (hq : q.length ≤ 9223372036854775807) (hs : s.length ≤ 9223372036854775807) : ACon Tryd.prog 6 [.p (SB p), .p (SB q), .p (SB s)] (.p (B true)) := by
  have c := long_con [p, q, s] (by simp)
  simp only [List.map_cons, List.map_nil, List.any_cons, List.any_nil, Bool.or_false] at c
  cases hlg : (lng p || (lng q || lng s))
  · rw [hlg] at c
    have hlp := fun {Q} {st} h h' => belowL (Q := Q) (st := st) p q hp h h'
    have b1 := Below_con p q hp hq
    have b2 := Below_con q p hq hp
    have b3 := Below_con q s hq hs
    have b4 := Below_con p s hp hs
    have d1 := depth_con p hp
    have d2 := depth_con q hq
    cases h1 : blw p q
    · rw [h1] at b1 hlp
      refine wBody Tryd.tab Tryd.mixed Tryd.func6 rfl rfl Tryd.ntmps6 (by simp) (by simp) fun Q hr hn => ?_
      repeat' first | (refine hlp ?_ ⟨by simp, by simp, by simp, by simp, by simp⟩) | (refine hK _ ?_; clear hK) | (refine hK _ _ ?_; clear hK) | (clear hK; refine hK _ ?_; clear hK) | (clear hK; clear hK; refine hK _ ?_; clear hK) | (clear hK; clear hK; clear hK; refine hK _ ?_; clear hK) | (clear hK; clear hK; clear hK; clear hK; refine hK _ ?_; clear hK) | (refine wSeq fun K hK => ?_) | (refine wReg ?_; simp only [List.map_cons, List.map_nil, strip]) | (refine wDrwQ rfl (by kernel_rfl) ?_; simp only [List.map_cons, List.map_nil, strip]) | (refine wDrwI ?_; simp only [List.map_cons, List.map_nil, strip]) | (refine wDrw (by kernel_rfl) ?_; simp only [List.map_cons, List.map_nil, strip]) | (refine wIs fun K hK => ?_; simp) | (refine wIn ?_; refine And.intro (by kernel_rfl) ?_; try simp only [thenA_n]) | (refine wOs fun K hK => ?_; simp) | (refine wQs fun K hK => ?_; simp) | (refine CallK_plain ?_; simp) | (refine CallQ_plain ?_; simp) | (refine wRet ?_; try simp) | (refine wCond ?_; simp) | (refine wBlock ?_) | (refine wScope ?_) | (refine wLabel ?_; try simp only [thenA_n]) | (refine wExit ?_; try simp) | (refine wSkip ?_; try simp) | (refine wOn ?_; try simp only [thenA_n]) | (refine wQn ?_; try simp only [thenA_n]) | (refine CallE.pure (c) rfl ?_) | (refine CallE.lent (c) rfl ?_) | (refine CallF.pure (c) rfl ?_) | (refine CallF.lent (c) rfl ?_) | (refine CallE.own (c) ?_) | (refine CallE.pure (b1) rfl ?_) | (refine CallE.lent (b1) rfl ?_) | (refine CallF.pure (b1) rfl ?_) | (refine CallF.lent (b1) rfl ?_) | (refine CallE.own (b1) ?_)
      intro st ⟨g0, g1, g7⟩
      simp only [blockA_e, if_true, thenA_n]
      repeat' first | (refine hK _ ?_; clear hK) | (refine hK _ _ ?_; clear hK) | (clear hK; refine hK _ ?_; clear hK) | (clear hK; clear hK; refine hK _ ?_; clear hK) | (clear hK; clear hK; clear hK; refine hK _ ?_; clear hK) | (clear hK; clear hK; clear hK; clear hK; refine hK _ ?_; clear hK) | (refine wSeq fun K hK => ?_) | (refine wReg ?_; simp only [List.map_cons, List.map_nil, strip]) | (refine wDrwQ rfl (by kernel_rfl) ?_; simp only [List.map_cons, List.map_nil, strip]) | (refine wDrwI ?_; simp only [List.map_cons, List.map_nil, strip]) | (refine wDrw (by kernel_rfl) ?_; simp only [List.map_cons, List.map_nil, strip]) | (refine wIs fun K hK => ?_; simp [g0, g1, g7]) | (refine wIn ?_; refine And.intro (by kernel_rfl) ?_; try simp only [thenA_n]) | (refine wOs fun K hK => ?_; simp [g0, g1, g7]) | (refine wQs fun K hK => ?_; simp [g0, g1, g7]) | (refine CallK_plain ?_; simp [g0, g1, g7]) | (refine CallQ_plain ?_; simp [g0, g1, g7]) | (refine wRet ?_; try simp) | (refine wCond ?_; simp [g0, g1, g7]) | (refine wBlock ?_) | (refine wScope ?_) | (refine wLabel ?_; try simp only [thenA_n]) | (refine wExit ?_; try simp) | (refine wSkip ?_; try simp) | (refine wOn ?_; try simp only [thenA_n]) | (refine wQn ?_; try simp only [thenA_n]) | (refine CallE.pure (b1) rfl ?_) | (refine CallE.lent (b1) rfl ?_) | (refine CallF.pure (b1) rfl ?_) | (refine CallF.lent (b1) rfl ?_) | (refine CallE.own (b1) ?_) | (refine CallE.pure (awake03) rfl ?_) | (refine CallE.lent (awake03) rfl ?_) | (refine CallF.pure (awake03) rfl ?_) | (refine CallF.lent (awake03) rfl ?_) | (refine CallE.own (awake03) ?_)
      all_goals apply hr
      all_goals simp [Tryd.f6]
    · have hd := blw_less h1
      have hn := blw_not h1
      have ht : blw q s = true → blw p s = true := fun h => blw_tr h1 h
      have hd' : ¬ dep p ≤ dep q := by omega
      rw [h1] at b1 hlp
      rw [hn] at b2
      generalize dep p = dp at d1 hd'
      generalize dep q = dq at d2 hd'
      cases h3 : blw q s
      · rw [h3] at b3
        refine wBody Tryd.tab Tryd.mixed Tryd.func6 rfl rfl Tryd.ntmps6 (by simp) (by simp) fun Q hr hn => ?_
        repeat' first | (refine hlp ?_ ⟨by simp, by simp, by simp, by simp, by simp⟩) | (refine hK _ ?_; clear hK) | (refine hK _ _ ?_; clear hK) | (clear hK; refine hK _ ?_; clear hK) | (clear hK; clear hK; refine hK _ ?_; clear hK) | (clear hK; clear hK; clear hK; refine hK _ ?_; clear hK) | (clear hK; clear hK; clear hK; clear hK; refine hK _ ?_; clear hK) | (refine wSeq fun K hK => ?_) | (refine wReg ?_; simp only [List.map_cons, List.map_nil, strip]) | (refine wDrwQ rfl (by kernel_rfl) ?_; simp only [List.map_cons, List.map_nil, strip]) | (refine wDrwI ?_; simp only [List.map_cons, List.map_nil, strip]) | (refine wDrw (by kernel_rfl) ?_; simp only [List.map_cons, List.map_nil, strip]) | (refine wIs fun K hK => ?_; simp [hd']) | (refine wIn ?_; refine And.intro (by kernel_rfl) ?_; try simp only [thenA_n]) | (refine wOs fun K hK => ?_; simp [hd']) | (refine wQs fun K hK => ?_; simp [hd']) | (refine CallK_plain ?_; simp [hd']) | (refine CallQ_plain ?_; simp [hd']) | (refine wRet ?_; try simp) | (refine wCond ?_; simp [hd']) | (refine wBlock ?_) | (refine wScope ?_) | (refine wLabel ?_; try simp only [thenA_n]) | (refine wExit ?_; try simp) | (refine wSkip ?_; try simp) | (refine wOn ?_; try simp only [thenA_n]) | (refine wQn ?_; try simp only [thenA_n]) | (refine CallE.pure (c) rfl ?_) | (refine CallE.lent (c) rfl ?_) | (refine CallF.pure (c) rfl ?_) | (refine CallF.lent (c) rfl ?_) | (refine CallE.own (c) ?_) | (refine CallE.pure (b1) rfl ?_) | (refine CallE.lent (b1) rfl ?_) | (refine CallF.pure (b1) rfl ?_) | (refine CallF.lent (b1) rfl ?_) | (refine CallE.own (b1) ?_) | (refine CallE.pure (b2) rfl ?_) | (refine CallE.lent (b2) rfl ?_) | (refine CallF.pure (b2) rfl ?_) | (refine CallF.lent (b2) rfl ?_) | (refine CallE.own (b2) ?_) | (refine CallE.pure (b3) rfl ?_) | (refine CallE.lent (b3) rfl ?_) | (refine CallF.pure (b3) rfl ?_) | (refine CallF.lent (b3) rfl ?_) | (refine CallE.own (b3) ?_) | (refine CallE.pure (d1) rfl ?_) | (refine CallE.lent (d1) rfl ?_) | (refine CallF.pure (d1) rfl ?_) | (refine CallF.lent (d1) rfl ?_) | (refine CallE.own (d1) ?_) | (refine CallE.pure (d2) rfl ?_) | (refine CallE.lent (d2) rfl ?_) | (refine CallF.pure (d2) rfl ?_) | (refine CallF.lent (d2) rfl ?_) | (refine CallE.own (d2) ?_)
        intro st ⟨g0, g1, g7⟩
        simp only [blockA_e, if_true, thenA_n]
        repeat' first | (refine hK _ ?_; clear hK) | (refine hK _ _ ?_; clear hK) | (clear hK; refine hK _ ?_; clear hK) | (clear hK; clear hK; refine hK _ ?_; clear hK) | (clear hK; clear hK; clear hK; refine hK _ ?_; clear hK) | (clear hK; clear hK; clear hK; clear hK; refine hK _ ?_; clear hK) | (refine wSeq fun K hK => ?_) | (refine wReg ?_; simp only [List.map_cons, List.map_nil, strip]) | (refine wDrwQ rfl (by kernel_rfl) ?_; simp only [List.map_cons, List.map_nil, strip]) | (refine wDrwI ?_; simp only [List.map_cons, List.map_nil, strip]) | (refine wDrw (by kernel_rfl) ?_; simp only [List.map_cons, List.map_nil, strip]) | (refine wIs fun K hK => ?_; simp [g0, g1, g7]) | (refine wIn ?_; refine And.intro (by kernel_rfl) ?_; try simp only [thenA_n]) | (refine wOs fun K hK => ?_; simp [g0, g1, g7]) | (refine wQs fun K hK => ?_; simp [g0, g1, g7]) | (refine CallK_plain ?_; simp [g0, g1, g7]) | (refine CallQ_plain ?_; simp [g0, g1, g7]) | (refine wRet ?_; try simp) | (refine wCond ?_; simp [g0, g1, g7]) | (refine wBlock ?_) | (refine wScope ?_) | (refine wLabel ?_; try simp only [thenA_n]) | (refine wExit ?_; try simp) | (refine wSkip ?_; try simp) | (refine wOn ?_; try simp only [thenA_n]) | (refine wQn ?_; try simp only [thenA_n]) | (refine CallE.pure (b1) rfl ?_) | (refine CallE.lent (b1) rfl ?_) | (refine CallF.pure (b1) rfl ?_) | (refine CallF.lent (b1) rfl ?_) | (refine CallE.own (b1) ?_) | (refine CallE.pure (awake03) rfl ?_) | (refine CallE.lent (awake03) rfl ?_) | (refine CallF.pure (awake03) rfl ?_) | (refine CallF.lent (awake03) rfl ?_) | (refine CallE.own (awake03) ?_)
        all_goals apply hr
        all_goals simp [Tryd.f6]
      · rw [h3] at b3
        rw [ht h3] at b4
        refine wBody Tryd.tab Tryd.mixed Tryd.func6 rfl rfl Tryd.ntmps6 (by simp) (by simp) fun Q hr hn => ?_
        repeat' first | (refine hlp ?_ ⟨by simp, by simp, by simp, by simp, by simp⟩) | (refine hK _ ?_; clear hK) | (refine hK _ _ ?_; clear hK) | (clear hK; refine hK _ ?_; clear hK) | (clear hK; clear hK; refine hK _ ?_; clear hK) | (clear hK; clear hK; clear hK; refine hK _ ?_; clear hK) | (clear hK; clear hK; clear hK; clear hK; refine hK _ ?_; clear hK) | (refine wSeq fun K hK => ?_) | (refine wReg ?_; simp only [List.map_cons, List.map_nil, strip]) | (refine wDrwQ rfl (by kernel_rfl) ?_; simp only [List.map_cons, List.map_nil, strip]) | (refine wDrwI ?_; simp only [List.map_cons, List.map_nil, strip]) | (refine wDrw (by kernel_rfl) ?_; simp only [List.map_cons, List.map_nil, strip]) | (refine wIs fun K hK => ?_; simp [hd']) | (refine wIn ?_; refine And.intro (by kernel_rfl) ?_; try simp only [thenA_n]) | (refine wOs fun K hK => ?_; simp [hd']) | (refine wQs fun K hK => ?_; simp [hd']) | (refine CallK_plain ?_; simp [hd']) | (refine CallQ_plain ?_; simp [hd']) | (refine wRet ?_; try simp) | (refine wCond ?_; simp [hd']) | (refine wBlock ?_) | (refine wScope ?_) | (refine wLabel ?_; try simp only [thenA_n]) | (refine wExit ?_; try simp) | (refine wSkip ?_; try simp) | (refine wOn ?_; try simp only [thenA_n]) | (refine wQn ?_; try simp only [thenA_n]) | (refine CallE.pure (c) rfl ?_) | (refine CallE.lent (c) rfl ?_) | (refine CallF.pure (c) rfl ?_) | (refine CallF.lent (c) rfl ?_) | (refine CallE.own (c) ?_) | (refine CallE.pure (b1) rfl ?_) | (refine CallE.lent (b1) rfl ?_) | (refine CallF.pure (b1) rfl ?_) | (refine CallF.lent (b1) rfl ?_) | (refine CallE.own (b1) ?_) | (refine CallE.pure (b2) rfl ?_) | (refine CallE.lent (b2) rfl ?_) | (refine CallF.pure (b2) rfl ?_) | (refine CallF.lent (b2) rfl ?_) | (refine CallE.own (b2) ?_) | (refine CallE.pure (b3) rfl ?_) | (refine CallE.lent (b3) rfl ?_) | (refine CallF.pure (b3) rfl ?_) | (refine CallF.lent (b3) rfl ?_) | (refine CallE.own (b3) ?_) | (refine CallE.pure (b4) rfl ?_) | (refine CallE.lent (b4) rfl ?_) | (refine CallF.pure (b4) rfl ?_) | (refine CallF.lent (b4) rfl ?_) | (refine CallE.own (b4) ?_) | (refine CallE.pure (d1) rfl ?_) | (refine CallE.lent (d1) rfl ?_) | (refine CallF.pure (d1) rfl ?_) | (refine CallF.lent (d1) rfl ?_) | (refine CallE.own (d1) ?_) | (refine CallE.pure (d2) rfl ?_) | (refine CallE.lent (d2) rfl ?_) | (refine CallF.pure (d2) rfl ?_) | (refine CallF.lent (d2) rfl ?_) | (refine CallE.own (d2) ?_)
        intro st ⟨g0, g1, g7⟩
        simp only [blockA_e, if_true, thenA_n]
        repeat' first | (refine hK _ ?_; clear hK) | (refine hK _ _ ?_; clear hK) | (clear hK; refine hK _ ?_; clear hK) | (clear hK; clear hK; refine hK _ ?_; clear hK) | (clear hK; clear hK; clear hK; refine hK _ ?_; clear hK) | (clear hK; clear hK; clear hK; clear hK; refine hK _ ?_; clear hK) | (refine wSeq fun K hK => ?_) | (refine wReg ?_; simp only [List.map_cons, List.map_nil, strip]) | (refine wDrwQ rfl (by kernel_rfl) ?_; simp only [List.map_cons, List.map_nil, strip]) | (refine wDrwI ?_; simp only [List.map_cons, List.map_nil, strip]) | (refine wDrw (by kernel_rfl) ?_; simp only [List.map_cons, List.map_nil, strip]) | (refine wIs fun K hK => ?_; simp [g0, g1, g7]) | (refine wIn ?_; refine And.intro (by kernel_rfl) ?_; try simp only [thenA_n]) | (refine wOs fun K hK => ?_; simp [g0, g1, g7]) | (refine wQs fun K hK => ?_; simp [g0, g1, g7]) | (refine CallK_plain ?_; simp [g0, g1, g7]) | (refine CallQ_plain ?_; simp [g0, g1, g7]) | (refine wRet ?_; try simp) | (refine wCond ?_; simp [g0, g1, g7]) | (refine wBlock ?_) | (refine wScope ?_) | (refine wLabel ?_; try simp only [thenA_n]) | (refine wExit ?_; try simp) | (refine wSkip ?_; try simp) | (refine wOn ?_; try simp only [thenA_n]) | (refine wQn ?_; try simp only [thenA_n]) | (refine CallE.pure (b1) rfl ?_) | (refine CallE.lent (b1) rfl ?_) | (refine CallF.pure (b1) rfl ?_) | (refine CallF.lent (b1) rfl ?_) | (refine CallE.own (b1) ?_) | (refine CallE.pure (awake03) rfl ?_) | (refine CallE.lent (awake03) rfl ?_) | (refine CallF.pure (awake03) rfl ?_) | (refine CallF.lent (awake03) rfl ?_) | (refine CallE.own (awake03) ?_)
        all_goals apply hr
        all_goals simp [Tryd.f6]
  · rw [hlg] at c
    refine wBody Tryd.tab Tryd.mixed Tryd.func6 rfl rfl Tryd.ntmps6 (by simp) (by simp) fun Q hr hn => ?_
    repeat' first | (refine hK _ ?_; clear hK) | (refine hK _ _ ?_; clear hK) | (clear hK; refine hK _ ?_; clear hK) | (clear hK; clear hK; refine hK _ ?_; clear hK) | (clear hK; clear hK; clear hK; refine hK _ ?_; clear hK) | (clear hK; clear hK; clear hK; clear hK; refine hK _ ?_; clear hK) | (refine wSeq fun K hK => ?_) | (refine wReg ?_; simp only [List.map_cons, List.map_nil, strip]) | (refine wDrwQ rfl (by kernel_rfl) ?_; simp only [List.map_cons, List.map_nil, strip]) | (refine wDrwI ?_; simp only [List.map_cons, List.map_nil, strip]) | (refine wDrw (by kernel_rfl) ?_; simp only [List.map_cons, List.map_nil, strip]) | (refine wIs fun K hK => ?_; simp) | (refine wIn ?_; refine And.intro (by kernel_rfl) ?_; try simp only [thenA_n]) | (refine wOs fun K hK => ?_; simp) | (refine wQs fun K hK => ?_; simp) | (refine CallK_plain ?_; simp) | (refine CallQ_plain ?_; simp) | (refine wRet ?_; try simp) | (refine wCond ?_; simp) | (refine wBlock ?_) | (refine wScope ?_) | (refine wLabel ?_; try simp only [thenA_n]) | (refine wExit ?_; try simp) | (refine wSkip ?_; try simp) | (refine wOn ?_; try simp only [thenA_n]) | (refine wQn ?_; try simp only [thenA_n]) | (refine CallE.pure (c) rfl ?_) | (refine CallE.lent (c) rfl ?_) | (refine CallF.pure (c) rfl ?_) | (refine CallF.lent (c) rfl ?_) | (refine CallE.own (c) ?_) | (refine CallE.pure (awake03) rfl ?_) | (refine CallE.lent (awake03) rfl ?_) | (refine CallF.pure (awake03) rfl ?_) | (refine CallF.lent (awake03) rfl ?_) | (refine CallE.own (awake03) ?_)
    all_goals apply hr
    all_goals simp [Tryd.f6]
end Go.Proofs.YtpbmicfbghnmeaaDoor
