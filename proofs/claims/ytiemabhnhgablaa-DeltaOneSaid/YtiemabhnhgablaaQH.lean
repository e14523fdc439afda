/- The laws QuorumIs and QuorumMeets. -/
import Derived.Test.YtiemabhnhgablaaQG
namespace Go.Proofs.Ytiemabhnhgablaa
set_option linter.unusedSimpArgs false
set_option linter.unusedVariables false
open Go Go.Av
attribute [local simp] Try.T1 Try.T2 Try.T3 Try.T4 Try.T5 Try.T9 Try.T12 Try.T15 Try.T16 Try.T17 Try.T21 Try.T23 Try.T24 Try.T26 Try.T27 Try.T28 Try.T30 Try.T31 Try.T32 Try.T33 Try.T35 Try.T36 Try.T37 Try.T38 Try.T39 Try.T41 Try.T43 Try.T44 Try.T45 Try.T46 Try.T47 Try.T48 Try.T49 Try.T50 Try.T51 Try.T52 Try.T53 Try.T54 Try.T55 Try.T56 Try.T57 Try.T58 Try.T59 Try.T60 Try.T61 Try.T62 Try.T65 Try.T68 Try.T69 Try.T72 Try.T73
attribute [local irreducible] Go.Av.CallK Go.Av.CallE Go.Av.CallQ Go.Av.CallF Go.Av.CallR Go.Av.CallH Go.Av.Con

/-! ### Two quorums meet -/
theorem tot_le (f : Mb → Int) (p q : Mb → Bool) : ∀ l : List Mb, (∀ m ∈ l, 0 ≤ f m) → (∀ m ∈ l, m.r = 1 → p m = true → q m = true) → tot f p l ≤ tot f q l
  | [], _, _ => by simp [tot]
  | m :: l, h, hpq => by
    have h1 := tot_le f p q l (fun x hx => h x (List.mem_cons_of_mem _ hx)) (fun x hx => hpq x (List.mem_cons_of_mem _ hx))
    have h2 := h m (by simp)
    have h3 := hpq m (by simp)
    simp only [tot]
    by_cases a : m.r = 1 ∧ p m = true
    · rw [if_pos a, if_pos ⟨a.1, h3 a.1 a.2⟩]; omega
    · rw [if_neg a]; split <;> omega
theorem tot_apart (f : Mb → Int) (p q u : Mb → Bool) : ∀ l : List Mb, (∀ m ∈ l, 0 ≤ f m) → (∀ m ∈ l, m.r = 1 → p m = true → q m = true → False) → (∀ m ∈ l, p m = true → u m = true) → (∀ m ∈ l, q m = true → u m = true) → tot f p l + tot f q l ≤ tot f u l
  | [], _, _, _, _ => by simp [tot]
  | m :: l, h, hpq, hp, hq => by
    have h1 := tot_apart f p q u l (fun x hx => h x (List.mem_cons_of_mem _ hx)) (fun x hx => hpq x (List.mem_cons_of_mem _ hx)) (fun x hx => hp x (List.mem_cons_of_mem _ hx)) (fun x hx => hq x (List.mem_cons_of_mem _ hx))
    have h2 := h m (by simp)
    have h3 := hpq m (by simp)
    have h4 := hp m (by simp)
    have h5 := hq m (by simp)
    simp only [tot]
    by_cases a : m.r = 1
    · cases hpm : p m <;> cases hqm : q m <;> simp only [a, hpm, hqm, true_and, Bool.false_eq_true, if_false, if_true] at h3 h4 h5 ⊢
      · split <;> omega
      · rw [if_pos (h5 trivial)]; omega
      · rw [if_pos (h4 trivial)]; omega
      · exact (h3 trivial trivial trivial).elim
    · simp only [a, false_and, if_false]; omega
theorem num_apart (p q u : Nat → Bool) : ∀ k, (∀ g, g < k → p g = true → q g = true → False) → (∀ g, p g = true → u g = true) → (∀ g, q g = true → u g = true) → num p k + num q k ≤ num u k
  | 0, _, _, _ => by simp [num]
  | k + 1, hpq, hp, hq => by
    have h1 := num_apart p q u k (fun g hg => hpq g (by omega)) hp hq
    have h3 := hpq k (by omega)
    have h4 := hp k
    have h5 := hq k
    simp only [num]
    cases hpm : p k <;> cases hqm : q k <;> simp only [hpm, hqm, Bool.false_eq_true, if_false, if_true] at h3 h4 h5 ⊢
    · split <;> omega
    · rw [if_pos (h5 trivial)]; omega
    · rw [if_pos (h4 trivial)]; omega
    · exact (h3 trivial trivial).elim
theorem won_has (set : List Int) (l : List Mb) (ho : okL l) (g : Nat) (h : wonG set l g = true) : hasG l g = true := by
  have h1 := tot_le Mb.w (inG (inS set) g) (inG yes g) l (fun m hm => (okL_w ho m hm).1) (fun m _ _ hp => by simp [inG, yes] at hp ⊢; exact hp.1)
  have h2 := tot_bound Mb.w (inG (inS set) g) l (okL_w ho)
  simp only [wonG, hasG, decide_eq_true_eq] at h ⊢
  omega
theorem quorums_meet {c : Cf} {a b : List Int} (ha : isQ c a = true) (hb : isQ c b = true) : ∃ m ∈ c.ms, m.r = 1 ∧ m.i ∈ a ∧ m.i ∈ b := by
  by_cases hc : check c = 0
  rotate_left
  · unfold isQ at ha; rw [if_neg hc] at ha; simp at ha
  obtain ⟨-, hf, -⟩ := check_ok hc
  have ho := fine_ok _ _ hf
  unfold isQ at ha hb
  rw [if_pos hc] at ha hb
  unfold enough at ha hb
  refine Classical.byContradiction fun hno => ?_
  have hd : ∀ m ∈ c.ms, m.r = 1 → inS a m = true → inS b m = true → False := fun m hm h1 h2 h3 => hno ⟨m, hm, h1, by simpa [inS] using h2, by simpa [inS] using h3⟩
  by_cases k1 : c.kind = 1
  · rw [if_pos k1, decide_eq_true_eq] at ha hb
    have := tot_apart one (inS a) (inS b) yes c.ms (fun m _ => by simp [one]) hd (fun _ _ _ => rfl) (fun _ _ _ => rfl)
    omega
  rw [if_neg k1] at ha hb
  by_cases k2 : c.kind = 2
  · rw [if_pos k2, decide_eq_true_eq] at ha hb
    have := tot_apart Mb.w (inS a) (inS b) yes c.ms (fun m hm => (okL_w ho m hm).1) hd (fun _ _ _ => rfl) (fun _ _ _ => rfl)
    omega
  rw [if_neg k2, decide_eq_true_eq] at ha hb
  have := num_apart (wonG a c.ms) (wonG b c.ms) (hasG c.ms) 8 (fun g _ h1 h2 => by
    simp only [wonG, decide_eq_true_eq] at h1 h2
    have := tot_apart Mb.w (inG (inS a) g) (inG (inS b) g) (inG yes g) c.ms (fun m hm => (okL_w ho m hm).1) (fun m hm e1 e2 e3 => by
      simp only [inG, Bool.and_eq_true] at e2 e3
      exact hd m hm e1 e2.2 e3.2) (fun m _ e => by simp [inG, yes] at e ⊢; exact e.1) (fun m _ e => by simp [inG, yes] at e ⊢; exact e.1)
    omega) (won_has a c.ms ho) (won_has b c.ms ho)
  omega

end Go.Proofs.Ytiemabhnhgablaa
