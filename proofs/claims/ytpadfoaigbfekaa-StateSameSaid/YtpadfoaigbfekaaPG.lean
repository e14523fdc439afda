/- Layer 3: a path is its parent with its name; the law PathBack. -/
import Derived.Test.YtpadfoaigbfekaaPD
import Derived.Test.YtpadfoaigbfekaaPF
namespace Go.Proofs.Ytpadfoaigbfekaa
set_option linter.unusedSimpArgs false
set_option linter.unusedVariables false
open Go Go.Av
attribute [local simp] Try.T1 Try.T2 Try.T3 Try.T4 Try.T5 Try.T9 Try.T12 Try.T21 Try.T22 Try.T24 Try.T25 Try.T26 Try.T27 Try.T28 Try.T29 Try.T30 Try.T31 Try.T33 Try.T34 Try.T35 Try.T36 Try.T37 Try.T38 Try.T39 Try.T41 Try.T42 Try.T43 Try.T44 Try.T46 Try.T47 Try.T49 Try.T51 Try.T52 Try.T53 Try.T54 Try.T56 Try.T57 Try.T58 Try.T59 Try.T60 Try.T62 Try.T64 Try.T65 Try.T66 Try.T67 Try.T68 Try.T69 Try.T70 Try.T71 Try.T72 Try.T73 Try.T75 Try.T76 Try.T77 Try.T78 Try.T79 Try.T80 Try.T82 Try.T83 Try.T84 Try.T85 Try.T87 Try.T88 Try.T89 Try.T90 Try.T91 Try.T92 Try.T93 Try.T94 Try.T95 Try.T96 Try.T97 Try.T98 Try.T99 Try.T100 Try.T102 Try.T103 Try.T104 Try.T105 Try.T106 Try.T107 Try.T109 Try.T110 Try.T111 Try.T112 Try.T113 Try.T114 Try.T115 Try.T116 Try.T117 Try.T123 Try.T126
attribute [local irreducible] Go.Av.CallK Go.Av.CallE Go.Av.CallQ Go.Av.CallF Go.Av.CallR Go.Av.CallH Go.Av.Con

theorem g_nil (c : List UInt8) : g c [] = nm c := by cases c <;> rfl
theorem g_app {n : List UInt8} (hn : (47 : UInt8) ∉ n) : ∀ (a c : List UInt8), g c (a ++ 47 :: n) = (g c a && nm n)
  | [], c => by
    have h1 : g c (47 :: n) = (nm c && g [] n) := by rw [g, if_pos rfl]
    rw [List.nil_append, h1, g_no47 n [] hn, g_nil]; rfl
  | b :: a, c => by
    rw [List.cons_append, g]
    by_cases hb : b = 47
    · rw [if_pos hb, g_app hn a [], g, if_pos hb, Bool.and_assoc]
    · rw [if_neg hb, g_app hn a _, g, if_neg hb]
theorem split47 : ∀ l : List UInt8, (47 : UInt8) ∈ l → ∃ t n, l = t ++ 47 :: n ∧ (47 : UInt8) ∉ n
  | [], h => by simp at h
  | b :: r, h => by
    by_cases hr : (47 : UInt8) ∈ r
    · obtain ⟨t, n, e, hn⟩ := split47 r hr
      exact ⟨b :: t, n, by rw [e]; rfl, hn⟩
    · have hb : b = 47 := by
        rcases List.mem_cons.1 h with h | h
        · exact h.symm
        · exact absurd h hr
      exact ⟨[], r, by rw [hb]; rfl, hr⟩
theorem lx_top {t n : List UInt8} (hn : (47 : UInt8) ∉ n) : ∀ k, k ≤ n.length → lx (t ++ 47 :: n) (t.length + 1 + k) = t.length
  | 0, _ => by rw [Nat.add_zero, lx, if_pos (by rw [List.getElem?_append_right (by omega)]; simp)]
  | k + 1, h => by
    have ih := lx_top (t := t) hn k (by omega)
    have e : (t ++ 47 :: n)[t.length + 1 + k]? = n[k]? := by
      rw [List.getElem?_append_right (by omega), show t.length + 1 + k - t.length = k + 1 by omega]; rfl
    rw [← Nat.add_assoc, lx, e, if_neg, ih]
    intro h2
    exact hn (List.mem_of_getElem? h2)
theorem lx_all {t n : List UInt8} (hn : (47 : UInt8) ∉ n) : lx (t ++ 47 :: n) (t ++ 47 :: n).length = t.length := by
  have := lx_top (t := t) hn n.length (by omega)
  rw [show (t ++ 47 :: n).length = t.length + 1 + n.length by simp; omega]
  exact this
theorem nmd_of {p : List UInt8} (h : chk p = 0) (h1 : ¬ p = [47]) : nmd p = true := by
  unfold chk at h
  split at h
  · simp at h
  split at h
  · rename_i h2
    exact h2.resolve_left h1
  · simp at h
theorem chk_of {p : List UInt8} (h : nmd p = true) (hl : p.length ≤ 64) : chk p = 0 := by
  unfold chk
  rw [if_neg (by omega), if_pos (.inr h)]
theorem count0 {n : List UInt8} (h : (47 : UInt8) ∉ n) : Go.Lib.countByte n 47 = 0 := List.count_eq_zero.2 h
theorem jn_of {p n : List UInt8} (h : chk p = 0) (hn : nm n = true) (hl : (bel p ++ n).length ≤ 64) : jn p n = (bel p ++ n, 0) := by
  unfold jn
  rw [if_pos h, if_pos hn, if_neg (by omega)]
/-- What a path but the root is. -/
theorem child_facts {p : List UInt8} (h : chd p = true) : ∃ up, parV p = .tup [.p (SB up), .p (B true)] ∧ jn up (nam p) = (p, 0) ∧ dep up = dep p - 1 ∧ blw p up = true ∧ up.length ≤ 64 ∧ (nam p).length ≤ 64 := by
  have hc := h
  simp only [chd, decide_eq_true_eq] at h
  obtain ⟨h1, h0⟩ := h
  have hlen := chk_len h0
  have hnm := nmd_of h0 h1
  rcases chk_spec h0 with h2 | ⟨-, R, rfl, hR⟩
  · exact absurd h2 h1
  have hg : g [] R = true := hnm
  by_cases hm : (47 : UInt8) ∈ R
  · obtain ⟨a, n, rfl, hn⟩ := split47 R hm
    rw [g_app hn, Bool.and_eq_true] at hg
    have e : 47 :: (a ++ 47 :: n) = (47 :: a) ++ 47 :: n := rfl
    rw [e]
    replace hc : chd ((47 :: a) ++ 47 :: n) = true := hc
    replace h0 : chk ((47 :: a) ++ 47 :: n) = 0 := h0
    replace h1 : (47 :: a) ++ 47 :: n ≠ [47] := h1
    replace hlen : ((47 :: a) ++ 47 :: n).length ≤ 64 := hlen
    have hx := lx_all (t := 47 :: a) hn
    have ha : a ≠ [] := fun ha => by subst ha; simp [g, nm] at hg
    have hl2 : (47 :: a).length ≤ 64 := by simp at hlen ⊢; omega
    have hu : chk (47 :: a) = 0 := chk_of hg.1 hl2
    have hu1 : ¬ (47 :: a) = [47] := by simp [ha]
    have hb := bel_eq hu hu1
    have hnam : nam ((47 :: a) ++ 47 :: n) = n := by
      rw [nam, if_pos hc, hx, ← List.drop_drop, List.drop_left]; rfl
    refine ⟨47 :: a, ?_, ?_, ?_, ?_, hl2, ?_⟩
    · rw [parV, if_pos hc, hx, show max (47 :: a).length 1 = (47 :: a).length by simp, List.take_left]
    · have e2 : bel (47 :: a) ++ n = (47 :: a) ++ 47 :: n := by rw [hb, List.append_assoc]; rfl
      rw [hnam, jn_of hu hg.2 (by rw [e2]; exact hlen), e2]
    · rw [dep, if_pos hu, if_neg hu1, dep, if_pos h0, if_neg h1]
      have : Go.Lib.countByte ((47 :: a) ++ 47 :: n) 47 = Go.Lib.countByte (47 :: a) 47 + 1 := by
        have h3 := count0 hn
        unfold Go.Lib.countByte at h3 ⊢
        have h4 : List.count 47 (47 :: n) = 1 := by rw [List.count_cons, h3]; simp
        rw [List.count_append, h4]
      rw [this]; push_cast; omega
    · rw [blw, Bool.and_eq_true]
      refine ⟨?_, ?_⟩
      · rw [decide_eq_true_eq]
        refine ⟨h0, hu, fun h => ?_⟩
        have := congrArg List.length h
        simp at this
      · rw [hb, hpx, decide_eq_true_eq]
        refine ⟨by simp, ?_⟩
        rw [show (47 :: a) ++ 47 :: n = ((47 :: a) ++ [47]) ++ n by simp, List.take_left]
    · rw [hnam]; simp at hlen; omega
  · have e : 47 :: R = ([] : List UInt8) ++ 47 :: R := rfl
    have hx : lx (47 :: R) (47 :: R).length = 0 := lx_all (t := []) hm
    have hn : nm R = true := by rw [g_no47 R [] hm] at hg; exact hg
    have hnam : nam (47 :: R) = R := by rw [nam, if_pos hc, hx]; rfl
    have hb : bel [47] = [47] := rfl
    have hu : chk [47] = 0 := rfl
    refine ⟨[47], ?_, ?_, ?_, ?_, by simp, ?_⟩
    · rw [parV, if_pos hc, hx]; rfl
    · rw [hnam, jn_of hu hn (by rw [hb]; exact hlen), hb]; rfl
    · rw [dep, if_pos hu, if_pos rfl, dep, if_pos h0, if_neg h1]
      have : Go.Lib.countByte (47 :: R) 47 = 1 := by
        have h3 := count0 hm
        unfold Go.Lib.countByte at h3 ⊢
        rw [List.count_cons, h3]; simp
      rw [this]; rfl
    · rw [blw, Bool.and_eq_true]
      refine ⟨?_, ?_⟩
      · rw [decide_eq_true_eq]
        exact ⟨h0, hu, h1⟩
      · rw [hb, hpx, decide_eq_true_eq]
        exact ⟨by simp, rfl⟩
    · rw [hnam]; simp at hlen; omega
theorem jn_back {p n : List UInt8} (h : (jn p n).2 = 0) : chk (jn p n).1 = 0 ∧ parV (jn p n).1 = .tup [.p (SB p), .p (B true)] ∧ nam (jn p n).1 = n := by
  unfold jn at h ⊢
  split at h
  case isFalse h0 => exact absurd h h0
  rename_i h0
  rw [if_pos h0]
  split at h
  case isFalse => simp at h
  rename_i hn
  rw [if_pos hn]
  split at h
  case isTrue => simp at h
  rename_i hl
  rw [if_neg hl]
  have h47 : (47 : UInt8) ∉ n := fun hm => by rw [nm_47 hm] at hn; simp at hn
  by_cases h1 : p = [47]
  · subst h1
    have e : bel [47] ++ n = [] ++ 47 :: n := rfl
    rw [e] at hl ⊢
    have hc : chk ([] ++ 47 :: n) = 0 := chk_of (by show g [] n = true; rw [g_no47 n [] h47]; exact hn) (by omega)
    have hne : n ≠ [] := fun hn' => by subst hn'; simp [nm] at hn
    have hch : chd ([] ++ 47 :: n) = true := by rw [chd, decide_eq_true_eq]; exact ⟨by simp [hne], hc⟩
    have hx := lx_all (t := []) h47
    refine ⟨hc, ?_, ?_⟩
    · rw [parV, if_pos hch, hx]; rfl
    · rw [nam, if_pos hch, hx]; rfl
  · have hb := bel_eq h0 h1
    have e : bel p ++ n = p ++ 47 :: n := by rw [hb, List.append_assoc]; rfl
    rw [e] at hl ⊢
    have hnm := nmd_of h0 h1
    rcases chk_spec h0 with h2 | ⟨-, R, rfl, hR⟩
    · exact absurd h2 h1
    have hc : chk ((47 :: R) ++ 47 :: n) = 0 := chk_of (by show g [] (R ++ 47 :: n) = true; rw [g_app h47, hn, Bool.and_true]; exact hnm) (by omega)
    have hch : chd ((47 :: R) ++ 47 :: n) = true := by rw [chd, decide_eq_true_eq]; exact ⟨by simp, hc⟩
    have hx := lx_all (t := 47 :: R) h47
    refine ⟨hc, ?_, ?_⟩
    · rw [parV, if_pos hch, hx, show max (47 :: R).length 1 = (47 :: R).length by simp, List.take_left]
    · rw [nam, if_pos hch, hx, ← List.drop_drop, List.drop_left]; rfl
theorem jn_bad {p n : List UInt8} (h : ¬ (jn p n).2 = 0) : (jn p n).1 = [] := by
  unfold jn at h ⊢
  split at h
  · rename_i h0
    rw [if_pos h0]
    split at h
    · rename_i hn
      rw [if_pos hn]
      split at h
      · rename_i hl
        rw [if_pos hl]
      · simp at h
    · rename_i hn
      rw [if_neg hn]
  · rename_i h0
    rw [if_neg h0]
end Go.Proofs.Ytpadfoaigbfekaa
