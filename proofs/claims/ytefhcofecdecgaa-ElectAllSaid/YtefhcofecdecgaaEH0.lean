/- Many servers that look at once: what holds of all. -/
import Derived.Test.YtefhcofecdecgaaEG
import Derived.Test.YtefhcofecdecgaaQI
namespace Go.Proofs.Ytefhcofecdecgaa
set_option linter.unusedSimpArgs false
set_option linter.unusedVariables false
open Go Go.Av

theorem fine_pw : ∀ (l : List Mb) (p : Int), fine p l = true → l.Pairwise fun a b => a.i < b.i
  | [], _, _ => .nil
  | x :: l, p, h => by
    simp only [fine, Bool.and_eq_true, decide_eq_true_eq] at h
    exact List.pairwise_cons.2 ⟨fine_lt l _ h.2, fine_pw l _ h.2⟩
theorem ids_pw {l : List Mb} {p : Int} (h : fine p l = true) (r : Int) : (ids l r).Pairwise (· < ·) := by
  unfold ids
  rw [List.pairwise_map]
  exact (fine_pw l p h).filter _
theorem pw_inj {l : List Int} (h : l.Pairwise (· < ·)) {i k : Nat} (hi : i < l.length) (hk : k < l.length) (e : l[i] = l[k]) : i = k := by
  rw [List.pairwise_iff_getElem] at h
  rcases Nat.lt_trichotomy i k with g | g | g
  · have := h i k hi hk g; omega
  · exact g
  · have := h k i hk hi g; omega
def GoodK (V : List Int) (k b : Nat) (all : List Sk) : Prop :=
  all.length = k ∧ ∀ i (h : i < all.length) (h' : i < V.length), all[i].id = V[i] ∧ all[i].own.c ∈ V ∧ all[i].now.c ∈ V ∧ all[i].hd.length ≤ b
theorem good_snoc {V : List Int} {k : Nat} {all : List Sk} (h : GoodK V k 1 all) (hk : k < V.length) (v : Vt) (hv : v.f = V[k]) : GoodK V (k + 1) 1 (all ++ [seek0 v]) := by
  refine ⟨by simp [h.1], fun i hi hv' => ?_⟩
  by_cases g : i < all.length
  · rw [List.getElem_append_left g]; exact h.2 i g hv'
  · have e : i = all.length := by simp at hi; omega
    subst e
    rw [List.getElem_concat_length rfl]
    have : V[all.length] = v.f := by rw [hv]; congr 1; exact h.1
    refine ⟨?_, ?_, ?_, by simp [seek0]⟩
    · exact this.symm
    · show v.f ∈ V; rw [← this]; exact List.getElem_mem _
    · show v.f ∈ V; rw [← this]; exact List.getElem_mem _
theorem hear_keeps {V : List Int} {s : Sk} (x : Vt) (h1 : s.own.c ∈ V) (h2 : s.now.c ∈ V) : (hear s V V x).1.id = s.id ∧ (hear s V V x).1.own.c ∈ V ∧ (hear s V V x).1.now.c ∈ V := by
  unfold hear
  split
  · exact ⟨rfl, h1, h2⟩
  split
  · exact ⟨rfl, h1, h2⟩
  split
  · exact ⟨rfl, h1, h2⟩
  split
  · exact ⟨rfl, h1, h2⟩
  by_cases hlt : s.rd < x.r
  · simp only [if_pos hlt]
    split
    · rename_i hc
      split
      · exact ⟨rfl, h1, hc⟩
      · exact ⟨rfl, h1, h1⟩
    · exact ⟨rfl, h1, h1⟩
  · simp only [if_neg hlt]
    split
    · rename_i hc
      split
      · exact ⟨rfl, h1, hc⟩
      · exact ⟨rfl, h1, h2⟩
    · exact ⟨rfl, h1, h2⟩
theorem good_set {V : List Int} {b : Nat} {all : List Sk} (h : GoodK V V.length b all) {i : Nat} (hi : i < all.length) (x : Vt) : GoodK V V.length (b + 2) (all.set i (hear all[i] V V x).1) := by
  refine ⟨by simp [h.1], fun j hj hv => ?_⟩
  have hj' : j < all.length := by simpa using hj
  rw [List.getElem_set]
  split
  · rename_i e; subst e
    obtain ⟨a, b', c, d⟩ := h.2 i hi hv
    obtain ⟨p, q, r⟩ := hear_keeps (V := V) (s := all[i]) x b' c
    have := hear_hd all[i] V V x
    exact ⟨p.trans a, q, r, by omega⟩
  · obtain ⟨a, b', c, d⟩ := h.2 j hj' hv
    exact ⟨a, b', c, by omega⟩
theorem backers_mem {all : List Sk} {n x : Int} (h : x ∈ backers all n) : ∃ s ∈ all, s.now.c = n ∧ s.id = x := by
  unfold backers at h
  obtain ⟨s, hs, rfl⟩ := List.mem_map.1 h
  obtain ⟨h1, h2⟩ := List.mem_filter.1 hs
  exact ⟨s, h1, by simpa using h2, rfl⟩
theorem one_elected {c : Cf} {V : List Int} {b : Nat} {all : List Sk} (hV : V.Pairwise (· < ·)) (h : GoodK V V.length b all) {p q : Int} (hp : isQ c (backers all p) = true) (hq : isQ c (backers all q) = true) : p = q := by
  obtain ⟨m, -, -, h1, h2⟩ := quorums_meet hp hq
  obtain ⟨s, hs, hs1, hs2⟩ := backers_mem h1
  obtain ⟨t, ht, ht1, ht2⟩ := backers_mem h2
  obtain ⟨i, hi, rfl⟩ := List.getElem_of_mem hs
  obtain ⟨k, hk, rfl⟩ := List.getElem_of_mem ht
  have e1 := (h.2 i hi (by have := h.1; omega)).1
  have e2 := (h.2 k hk (by have := h.1; omega)).1
  have : i = k := pw_inj hV (by have := h.1; omega) (by have := h.1; omega) (by rw [← e1, ← e2, hs2, ht2])
  subst this
  rw [← hs1, ht1]
theorem stands {c : Cf} (hc : check c = 0) {x : Int} (hx : x ∈ ids c.ms 1) : ∃ m : Mb, m.r = 1 ∧ fm x c.ms = (m, true) := by
  obtain ⟨-, hf, -⟩ := check_ok hc
  obtain ⟨m, hm, hr, rfl⟩ := ids_mem hx
  exact ⟨m, hr, fm_of c.ms _ hf m hm⟩
theorem some_vote {c : Cf} (hc : check c = 0) : 0 < (ids c.ms 1).length := by
  cases h : ids c.ms 1 with
  | nil => have := whole_true hc; rw [h, nobody] at this; simp at this
  | cons => simp
end Go.Proofs.Ytefhcofecdecgaa
