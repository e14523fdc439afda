/- DeltaOne: across a change of one, each quorum ahead meets each behind. -/
import Derived.Test.YtiemabhnhgablaaDG
namespace Go.Proofs.Ytiemabhnhgablaa
set_option linter.unusedSimpArgs false
set_option linter.unusedVariables false
open Go Go.Av

theorem tot_app (f : Mb → Int) (p : Mb → Bool) : ∀ a b : List Mb, tot f p (a ++ b) = tot f p a + tot f p b
  | [], b => by simp [tot]
  | m :: a, b => by simp only [List.cons_append, tot, tot_app f p a b]; omega
theorem tot_perm (f : Mb → Int) (p : Mb → Bool) {a b : List Mb} (h : a.Perm b) : tot f p a = tot f p b := by
  induction h with
  | nil => rfl
  | cons x _ ih => simp only [tot, ih]
  | swap x y l => simp only [tot]; omega
  | trans _ _ h1 h2 => exact h1.trans h2
theorem tot_split (f : Mb → Int) (p q : Mb → Bool) : ∀ l : List Mb, tot f p l = tot f p (l.filter q) + tot f p (l.filter fun m => !q m)
  | [] => by simp [tot]
  | m :: l => by
    have := tot_split f p q l
    cases hq : q m
    · simp only [List.filter, hq, Bool.not_false, tot]; omega
    · simp only [List.filter, hq, Bool.not_true, tot]; omega
theorem same_len {l : List Mb} (h : SOrd l) (q : Int) (hq : ∀ m ∈ l, m.i = q) : l.length ≤ 1 := by
  match l, h, hq with
  | [], _, _ => simp
  | [m], _, _ => simp
  | m :: m' :: l, h, hq =>
    unfold SOrd at h
    rw [List.pairwise_cons] at h
    have h1 := h.1 m' (by simp)
    have h2 := hq m (by simp)
    have h3 := hq m' (by simp)
    omega
theorem tot_small (p : Mb → Bool) {l : List Mb} (h : l.length ≤ 1) : 0 ≤ tot one p l ∧ tot one p l ≤ tot one yes l ∧ tot one yes l ≤ 1 ∧ (0 < tot one p l → ∃ m ∈ l, m.r = 1 ∧ p m = true) := by
  match l, h with
  | [], _ => simp [tot]
  | [m], _ =>
    simp only [tot, one, yes]
    by_cases h1 : m.r = 1
    · cases h2 : p m
      · simp [h1]
      · simp [h1, h2]
    · simp [h1]
theorem one_meets {c x : Cf} {d : Dl} {s0 s1 : List Int} (hc : check c = 0) (hx : check x = 0) (hms : x.ms = (chg c d).ms) (h1 : c.kind = 1) (h2 : x.kind = 1) (h3 : isQ c s0 = true) (h4 : isQ x s1 = true) (hd : d.put.length + d.drop.length ≤ 1) :
    ∃ m n : Mb, m.i = n.i ∧ m.i ∈ s0 ∧ m.i ∈ s1 ∧ fm m.i c.ms = (m, true) ∧ fm m.i x.ms = (n, true) ∧ m.r = 1 ∧ n.r = 1 := by
  refine Classical.byContradiction fun hno => ?_
  unfold isQ at h3 h4
  rw [if_pos hc] at h3
  rw [if_pos hx] at h4
  unfold enough at h3 h4
  rw [if_pos h1, decide_eq_true_eq] at h3
  rw [if_pos h2, decide_eq_true_eq] at h4
  have hcm : ∀ m, m ∈ x.ms ↔ m ∈ keepM c d ∨ m ∈ d.put := fun m => by rw [hms]; simp only [chg]; rw [(srtM_spec _).2.2, List.mem_append]
  have hxt : ∀ p, tot one p x.ms = tot one p (keepM c d) + tot one p d.put := fun p => by
    rw [hms]; simp only [chg]; rw [tot_perm one p (srtM_perm _), tot_app]
  have hct : ∀ p, tot one p c.ms = tot one p (keepM c d) + tot one p (c.ms.filter fun m => !(!(decide (m.i ∈ d.drop)) && !(hasI d.put m.i))) := fun p => tot_split one p _ c.ms
  rw [hxt, hxt] at h4
  rw [hct, hct] at h3
  have hfm : ∀ m n : Mb, m ∈ c.ms → n ∈ x.ms → m.i = n.i → m.r = 1 → n.r = 1 → m.i ∈ s0 → m.i ∈ s1 → False := fun m n hm hn he hr hr' hs0 hs1 => by
    refine hno ⟨m, n, he, hs0, hs1, (fm_iff hc m).2 hm, ?_, hr, hr'⟩
    rw [he]; exact (fm_iff hx n).2 hn
  have hR := tot_apart one (inS s0) (inS s1) yes (keepM c d) (fun m _ => by simp [one]) (fun m hm hr e1 e2 => by
    have hmc : m ∈ c.ms := by simp only [keepM, List.mem_filter] at hm; exact hm.1
    exact hfm m m hmc ((hcm m).2 (.inl hm)) rfl hr hr (by simpa [inS] using e1) (by simpa [inS] using e2)) (fun _ _ _ => rfl) (fun _ _ _ => rfl)
  obtain ⟨O, hO⟩ : ∃ O, O = c.ms.filter fun m => !(!(decide (m.i ∈ d.drop)) && !(hasI d.put m.i)) := ⟨_, rfl⟩
  have hOo : SOrd O := by rw [hO]; exact (check_SOrd hc).filter _
  have hOc : ∀ m ∈ O, m ∈ c.ms ∧ (m.i ∈ d.drop ∨ hasI d.put m.i = true) := fun m hm => by
    rw [hO, List.mem_filter] at hm
    refine ⟨hm.1, ?_⟩
    have := hm.2
    by_cases o1 : m.i ∈ d.drop
    · exact .inl o1
    · right
      cases o2 : hasI d.put m.i
      · simp [o1, o2] at this
      · rfl
  rw [← hO] at h3
  match hp : d.put, hq : d.drop with
  | [], [] =>
    rw [hp, hq] at hOc
    have : O = [] := by
      match O, hOc with
      | [], _ => rfl
      | m :: O, h => have := (h m (by simp)).2; simp [hasI] at this
    rw [this] at h3
    rw [hp] at h4
    simp only [tot] at h3 h4
    omega
  | [], q :: r =>
    rw [hp, hq] at hd
    have hr : r = [] := by cases r with
      | nil => rfl
      | cons _ _ => (simp at hd <;> omega)
    subst hr
    rw [hp, hq] at hOc
    have hl := same_len hOo q fun m hm => by have := (hOc m hm).2; simpa [hasI] using this
    obtain ⟨o1, o2, o3, -⟩ := tot_small (inS s0) hl
    rw [hp] at h4
    simp only [tot] at h4
    omega
  | p :: r, dr =>
    rw [hp, hq] at hd
    have hr : r = [] := by cases r with
      | nil => rfl
      | cons _ _ => (simp at hd <;> omega)
    have hdr : dr = [] := by cases dr with
      | nil => rfl
      | cons _ _ => (simp at hd <;> omega)
    subst hr hdr
    rw [hp, hq] at hOc
    have hOp : ∀ m ∈ O, m.i = p.i := fun m hm => by
      have := (hOc m hm).2
      simp [hasI] at this
      exact this.symm
    have hl := same_len hOo p.i hOp
    obtain ⟨o1, o2, o3, o4⟩ := tot_small (inS s0) hl
    rw [hp] at h4
    obtain ⟨q1, q2, q3, q4⟩ := tot_small (l := [p]) (inS s1) (by simp)
    have e1 : 0 < tot one (inS s0) O := by omega
    have e2 : 0 < tot one (inS s1) [p] := by omega
    obtain ⟨m, hm, hmr, hms0⟩ := o4 e1
    obtain ⟨p', hp', hpr, hps⟩ := q4 e2
    rw [List.mem_singleton.1 hp'] at hpr hps
    have he := hOp m hm
    refine hfm m p (hOc m hm).1 ((hcm p).2 (.inr (by rw [hp]; simp))) he hmr hpr (by simpa [inS] using hms0) ?_
    rw [he]; simpa [inS] using hps
end Go.Proofs.Ytiemabhnhgablaa
