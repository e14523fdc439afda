/- Layer 3: what is below what; the law PathBelow. -/
import Derived.Test.YtpadfoaigbfekaaPG
namespace Go.Proofs.Ytpadfoaigbfekaa
set_option linter.unusedSimpArgs false
set_option linter.unusedVariables false
open Go Go.Av
attribute [local simp] Try.T1 Try.T2 Try.T3 Try.T4 Try.T5 Try.T9 Try.T12 Try.T21 Try.T22 Try.T24 Try.T25 Try.T26 Try.T27 Try.T28 Try.T29 Try.T30 Try.T31 Try.T33 Try.T34 Try.T35 Try.T36 Try.T37 Try.T38 Try.T39 Try.T41 Try.T42 Try.T43 Try.T44 Try.T46 Try.T47 Try.T49 Try.T51 Try.T52 Try.T53 Try.T54 Try.T56 Try.T57 Try.T58 Try.T59 Try.T60 Try.T62 Try.T64 Try.T65 Try.T66 Try.T67 Try.T68 Try.T69 Try.T70 Try.T71 Try.T72 Try.T73 Try.T75 Try.T76 Try.T77 Try.T78 Try.T79 Try.T80 Try.T82 Try.T83 Try.T84 Try.T85 Try.T87 Try.T88 Try.T89 Try.T90 Try.T91 Try.T92 Try.T93 Try.T94 Try.T95 Try.T96 Try.T97 Try.T98 Try.T99 Try.T100 Try.T102 Try.T103 Try.T104 Try.T105 Try.T106 Try.T107 Try.T109 Try.T110 Try.T111 Try.T112 Try.T113 Try.T114 Try.T115 Try.T116 Try.T117 Try.T123 Try.T126
attribute [local irreducible] Go.Av.CallK Go.Av.CallE Go.Av.CallQ Go.Av.CallF Go.Av.CallR Go.Av.CallH Go.Av.Con

/-- Of a path but the root: what stands ahead of its last stroke, and its parent. -/
theorem child_shape {p : List UInt8} (h : chd p = true) : ∃ t n up, p = t ++ 47 :: n ∧ (47 : UInt8) ∉ n ∧ parV p = .tup [.p (SB up), .p (B true)] ∧ chk up = 0 ∧ ((t = [] ∧ up = [47]) ∨ (up = t ∧ t ≠ [47] ∧ t ≠ [])) := by
  have hc := h
  simp only [chd, decide_eq_true_eq] at h
  obtain ⟨h1, h0⟩ := h
  have hlen := chk_len h0
  have hnm := nmd_of h0 h1
  rcases chk_spec h0 with h2 | ⟨-, R, rfl, hR⟩
  · exact absurd h2 h1
  have hg : g [] R = true := hnm
  by_cases hm : (47 : UInt8) ∈ R
  · obtain ⟨a, n, rfl, hn⟩ := split47 R hm
    rw [g_app hn, Bool.and_eq_true] at hg
    have e : 47 :: (a ++ 47 :: n) = (47 :: a) ++ 47 :: n := rfl
    have hx := lx_all (t := 47 :: a) hn
    have ha : a ≠ [] := fun ha => by subst ha; simp [g, nm] at hg
    have hl2 : (47 :: a).length ≤ 64 := by simp at hlen ⊢; omega
    have hu : chk (47 :: a) = 0 := chk_of hg.1 hl2
    have hu1 : ¬ (47 :: a) = [47] := by simp [ha]
    refine ⟨47 :: a, n, 47 :: a, e, hn, ?_, hu, .inr ⟨rfl, hu1, by simp⟩⟩
    rw [e] at hc ⊢
    rw [parV, if_pos hc, hx, show max (47 :: a).length 1 = (47 :: a).length by simp, List.take_left]
  · have e : 47 :: R = ([] : List UInt8) ++ 47 :: R := rfl
    have hx : lx (47 :: R) (47 :: R).length = 0 := lx_all (t := []) hm
    refine ⟨[], R, [47], e, hm, ?_, rfl, .inl ⟨rfl, rfl⟩⟩
    rw [parV, if_pos hc, hx]; rfl
theorem chk_nil : ¬ chk [] = 0 := by decide
theorem hpx_bel {p q : List UInt8} (h : chk q = 0) (h1 : ¬ q = [47]) : hpx p (bel q) = true ↔ ∃ r, p = q ++ 47 :: r := by
  rw [bel_eq h h1, hpx, decide_eq_true_eq]
  constructor
  · intro ⟨h2, h3⟩
    refine ⟨p.drop (q ++ [47]).length, ?_⟩
    have := List.take_append_drop (q ++ [47]).length p
    rw [h3] at this
    simpa using this.symm
  · rintro ⟨r, rfl⟩
    have e : q ++ 47 :: r = (q ++ [47]) ++ r := by simp
    rw [e]
    exact ⟨by simp, List.take_left⟩
theorem hpx_root {p : List UInt8} : hpx p (bel [47]) = true ↔ ∃ r, p = 47 :: r := by
  have hb : bel [47] = [47] := rfl
  rw [hb, hpx, decide_eq_true_eq]
  constructor
  · intro ⟨h2, h3⟩
    cases p with
    | nil => simp at h2
    | cons a r =>
      simp at h3
      exact ⟨r, by rw [h3]⟩
  · rintro ⟨r, rfl⟩
    exact ⟨by simp, rfl⟩
theorem blw_iff {p q : List UInt8} : blw p q = true ↔ chk p = 0 ∧ chk q = 0 ∧ p ≠ q ∧ hpx p (bel q) = true := by
  rw [blw, Bool.and_eq_true, decide_eq_true_eq]
  constructor
  · rintro ⟨⟨a, b, c⟩, d⟩; exact ⟨a, b, c, d⟩
  · rintro ⟨a, b, c, d⟩; exact ⟨⟨a, b, c⟩, d⟩
theorem chk_head {p : List UInt8} (h : chk p = 0) : ∃ r, p = 47 :: r := by
  rcases chk_spec h with rfl | ⟨-, R, rfl, -⟩
  · exact ⟨[], rfl⟩
  · exact ⟨R, rfl⟩
theorem SB_inj {a b : List UInt8} (h : SB a = SB b) : a = b := by
  simpa [SB] using h
theorem par_inj {p a b : List UInt8} (h : parV p = .tup [.p (SB a), .p (B true)]) (h' : parV p = .tup [.p (SB b), .p (B true)]) : a = b := by
  rw [h] at h'
  simpa using h'
/-- Below is met on the way up. -/
theorem blw_up {p q up : List UInt8} (h : chd p = true) (hu : parV p = .tup [.p (SB up), .p (B true)]) : blw p q = (decide (up = q) || blw up q) := by
  obtain ⟨t, n, up', hp, hn, hpu, hcu, hs⟩ := child_shape h
  obtain rfl := par_inj hu hpu
  simp only [chd, decide_eq_true_eq] at h
  rw [Bool.eq_iff_iff, Bool.or_eq_true, decide_eq_true_eq, blw_iff, blw_iff]
  by_cases hq : q = [47]
  · subst hq
    rw [hpx_root, hpx_root]
    constructor
    · intro _
      by_cases hu1 : up = [47]
      · exact .inl hu1
      · exact .inr ⟨hcu, rfl, hu1, chk_head hcu⟩
    · intro _
      exact ⟨h.2, rfl, h.1, chk_head h.2⟩
  by_cases hcq : chk q = 0
  · rw [hpx_bel hcq hq, hpx_bel hcq hq]
    have hqne : q ≠ [] := fun e => by rw [e] at hcq; exact chk_nil hcq
    constructor
    · rintro ⟨-, -, -, r, hr⟩
      rw [hp] at hr
      rcases hs with ⟨rfl, rfl⟩ | ⟨rfl, ht, ht'⟩
      · exfalso
        obtain ⟨c, rfl⟩ := chk_head hcq
        simp at hr
        exact hn (by rw [hr]; simp)
      · rcases List.append_eq_append_iff.1 hr with ⟨a, ha, hb⟩ | ⟨a, ha, hb⟩
        · cases a with
          | nil => left; simpa using ha.symm
          | cons x a =>
            exfalso
            simp only [List.cons_append, List.cons.injEq] at hb
            exact hn (by rw [hb.2]; simp)
        · cases a with
          | nil => left; simpa using ha
          | cons x a =>
            right
            simp only [List.cons_append, List.cons.injEq] at hb
            refine ⟨hcu, hcq, fun e => ?_, a, by rw [ha, ← hb.1]⟩
            rw [e] at ha
            have := congrArg List.length ha
            simp at this
    · intro hor
      have key : ∃ r, p = q ++ 47 :: r := by
        rcases hor with rfl | ⟨-, -, -, r, hr⟩
        · rcases hs with ⟨rfl, rfl⟩ | ⟨rfl, -, -⟩
          · exact absurd rfl hq
          · exact ⟨n, hp⟩
        · rcases hs with ⟨rfl, rfl⟩ | ⟨rfl, -, -⟩
          · obtain ⟨c, rfl⟩ := chk_head hcq
            simp at hr
          · exact ⟨r ++ 47 :: n, by rw [hp, hr]; simp⟩
      refine ⟨h.2, hcq, fun e => ?_, key⟩
      obtain ⟨r, hr⟩ := key
      rw [e] at hr
      have := congrArg List.length hr
      simp at this
  · constructor
    · exact fun h => absurd h.2.1 hcq
    · rintro (rfl | h)
      · exact absurd hcu hcq
      · exact absurd h.2.1 hcq
theorem blw_chd {p q : List UInt8} (h : blw p q = true) : chd p = true := by
  obtain ⟨h1, h2, h3, h4⟩ := blw_iff.1 h
  rw [chd, decide_eq_true_eq]
  refine ⟨fun e => ?_, h1⟩
  subst e
  have hq : ¬ q = [47] := fun e => h3 e.symm
  obtain ⟨r, hr⟩ := (hpx_bel h2 hq).1 h4
  obtain ⟨c, rfl⟩ := chk_head h2
  simp at hr
theorem up_of {p : List UInt8} (h : chd p = true) : ∃ up, parV p = .tup [.p (SB up), .p (B true)] ∧ chk up = 0 ∧ dep up = dep p - 1 ∧ (∀ q, blw p q = (decide (up = q) || blw up q)) := by
  obtain ⟨t, n, up, -, -, hpu, hcu, -⟩ := child_shape h
  obtain ⟨up', a1, -, a3, -⟩ := child_facts h
  obtain rfl := par_inj hpu a1
  exact ⟨up, hpu, hcu, a3, fun q => blw_up h hpu⟩
theorem dep0 {p : List UInt8} (h : chk p = 0) : 0 ≤ dep p := by
  rw [dep, if_pos h]; split <;> omega
theorem dep_le (p : List UInt8) : dep p ≤ 64 := by
  unfold dep
  split
  · rename_i h
    have := chk_len h
    have := count_le p
    split <;> omega
  · omega
theorem blw_dep : ∀ (N : Nat) {p q : List UInt8}, dep p ≤ N → blw p q = true → dep q < dep p
  | N, p, q, hN, h => by
    obtain ⟨up, a1, a2, a3, a4⟩ := up_of (blw_chd h)
    rw [a4, Bool.or_eq_true, decide_eq_true_eq] at h
    rcases h with rfl | h
    · omega
    · cases N with
      | zero => have := dep0 a2; omega
      | succ N =>
        have := blw_dep N (by omega) h
        omega
theorem blw_on : ∀ (N : Nat) {p q s : List UInt8}, dep p ≤ N → blw p q = true → blw q s = true → blw p s = true
  | N, p, q, s, hN, h, h' => by
    obtain ⟨up, a1, a2, a3, a4⟩ := up_of (blw_chd h)
    rw [a4, Bool.or_eq_true, decide_eq_true_eq] at h
    rw [a4, Bool.or_eq_true]
    right
    rcases h with rfl | h
    · exact h'
    · cases N with
      | zero => have := dep0 a2; omega
      | succ N => exact blw_on N (by omega) h h'
theorem blw_less {p q : List UInt8} (h : blw p q = true) : dep q < dep p := blw_dep 64 (dep_le p) h
theorem blw_tr {p q s : List UInt8} (h : blw p q = true) (h' : blw q s = true) : blw p s = true := blw_on 64 (dep_le p) h h'
theorem blw_not {p q : List UInt8} (h : blw p q = true) : blw q p = false := by
  cases h' : blw q p with
  | false => rfl
  | true => have := blw_less h; have := blw_less h'; omega
theorem dep_bnd (p : List UInt8) : -1 ≤ dep p ∧ dep p ≤ 64 := by
  refine ⟨?_, dep_le p⟩
  by_cases h : chk p = 0
  · have := dep0 h; omega
  · rw [dep, if_neg h]; omega
theorem par_cases (p : List UInt8) : (parV p = .tup [.p (SB []), .p (B false)] ∧ ∀ q, blw p q = false) ∨ ∃ up, parV p = .tup [.p (SB up), .p (B true)] ∧ up.length ≤ 64 ∧ 0 ≤ dep up ∧ dep up = dep p - 1 ∧ ∀ q, blw p q = (decide (up = q) || blw up q) := by
  cases h : chd p
  · refine .inl ⟨by rw [parV, h]; rfl, fun q => ?_⟩
    cases hb : blw p q with
    | false => rfl
    | true => have := blw_chd hb; rw [h] at this; simp at this
  · obtain ⟨up, a1, a2, a3, a4⟩ := up_of h
    exact .inr ⟨up, a1, chk_len a2, dep0 a2, a3, a4⟩
end Go.Proofs.Ytpadfoaigbfekaa
