/- What a change comes to: facts. -/
import Derived.Test.YtiemabhnhgablaaDF
import Derived.Test.YtiemabhnhgablaaCS4
import Derived.Test.YtiemabhnhgablaaQI
namespace Go.Proofs.Ytiemabhnhgablaa
set_option linter.unusedSimpArgs false
set_option linter.unusedVariables false
open Go Go.Av

/-! ### Lists in order -/
def SOrd (l : List Mb) : Prop := l.Pairwise (fun a b => a.i < b.i)
theorem SOrd.eq : ∀ (a b : List Mb), SOrd a → SOrd b → (∀ z, z ∈ a ↔ z ∈ b) → a = b
  | [], [], _, _, _ => rfl
  | [], y :: b, _, _, h => by have := (h y).2 (by simp); simp at this
  | x :: a, [], _, _, h => by have := (h x).1 (by simp); simp at this
  | x :: a, y :: b, ha, hb, h => by
    unfold SOrd at ha hb
    rw [List.pairwise_cons] at ha hb
    have hxy : x = y := by
      rcases List.mem_cons.1 ((h x).1 (by simp)) with h1 | h1
      · exact h1
      · rcases List.mem_cons.1 ((h y).2 (by simp)) with h2 | h2
        · exact h2.symm
        · have := ha.1 y h2; have := hb.1 x h1; omega
    subst hxy
    rw [SOrd.eq a b ha.2 hb.2 fun z => ⟨fun hz => ?_, fun hz => ?_⟩]
    · rcases List.mem_cons.1 ((h z).1 (List.mem_cons_of_mem _ hz)) with h1 | h1
      · subst h1; have := ha.1 z hz; omega
      · exact h1
    · rcases List.mem_cons.1 ((h z).2 (List.mem_cons_of_mem _ hz)) with h1 | h1
      · subst h1; have := hb.1 z hz; omega
      · exact h1
theorem fine_SOrd : ∀ (l : List Mb) (p : Int), fine p l = true → SOrd l
  | [], _, _ => by simp [SOrd]
  | x :: l, p, h => by
    simp only [fine, Bool.and_eq_true, decide_eq_true_eq] at h
    unfold SOrd
    rw [List.pairwise_cons]
    exact ⟨fun m hm => fine_lt l _ h.2 m hm, fine_SOrd l _ h.2⟩
theorem SOrd.inj {l : List Mb} (h : SOrd l) {x y : Mb} (hx : x ∈ l) (hy : y ∈ l) (he : x.i = y.i) : x = y := by
  unfold SOrd at h
  induction l with
  | nil => simp at hx
  | cons z l ih =>
    rw [List.pairwise_cons] at h
    rcases List.mem_cons.1 hx with hx | hx
    · rcases List.mem_cons.1 hy with hy | hy
      · rw [hx, hy]
      · have := h.1 y hy; rw [← hx] at this; omega
    · rcases List.mem_cons.1 hy with hy | hy
      · have := h.1 x hx; rw [← hy] at this; omega
      · exact ih h.2 hx hy
theorem insM_perm (x : Mb) : ∀ T, (insM x T).Perm (x :: T)
  | [] => .refl _
  | y :: T => by
    unfold insM
    split
    · exact .refl _
    · exact ((insM_perm x T).cons y).trans (.swap x y T)
theorem srtM_perm (l : List Mb) : (srtM l).Perm l := by
  have : ∀ (m T : List Mb), (m.foldl (fun T x => insM x T) T).Perm (T ++ m) := by
    intro m
    induction m with
    | nil => intro T; simp
    | cons x m ih =>
      intro T
      simp only [List.foldl_cons]
      refine (ih (insM x T)).trans ?_
      refine ((insM_perm x T).append_right m).trans ?_
      simp only [List.cons_append]
      exact List.perm_middle.symm
  simpa [srtM] using this l []
theorem srtM_sord {l : List Mb} (h : (l.map Mb.i).Nodup) : SOrd (srtM l) := by
  have h1 := (srtM_spec l).2.1
  have h2 : ((srtM l).map Mb.i).Nodup := ((srtM_perm l).map Mb.i).nodup_iff.2 h
  unfold SOrd
  unfold Ord at h1
  rw [List.Nodup, List.pairwise_map] at h2
  exact (h1.and h2).imp fun ⟨h3, h4⟩ => by omega
theorem SOrd.nodup {l : List Mb} (h : SOrd l) : (l.map Mb.i).Nodup := by
  rw [List.Nodup, List.pairwise_map]
  exact h.imp fun h => by omega
theorem SOrd.srt {l : List Mb} (h : SOrd l) : srtM l = l := SOrd.eq _ _ (srtM_sord h.nodup) h fun z => (srtM_spec l).2.2 z
theorem SOrd.filter {l : List Mb} (h : SOrd l) (p : Mb → Bool) : SOrd (l.filter p) := List.Pairwise.filter p h
theorem fine_len : ∀ (l : List Mb) (p : Int), fine p l = true → p ≤ 15 → (l.length : Int) ≤ 15 - p
  | [], p, _, _ => by simp; omega
  | x :: l, p, h, hp => by
    simp only [fine, Bool.and_eq_true, decide_eq_true_eq] at h
    have hx := h.1.1.1
    have := fine_len l x.i h.2 hx.2
    have h2 := h.1.2
    simp only [List.length_cons]
    omega
theorem check_len {c : Cf} (h : check c = 0) : c.ms.length ≤ 16 := by
  have := fine_len c.ms (-1) (check_ok h).2.1 (by omega)
  omega
theorem check_SOrd {c : Cf} (h : check c = 0) : SOrd c.ms := fine_SOrd _ _ (check_ok h).2.1
theorem hasI_iff (l : List Mb) (id : Int) : hasI l id = true ↔ ∃ x ∈ l, x.i = id := by simp [hasI]
theorem fm_iff {c : Cf} (h : check c = 0) (x : Mb) : fm x.i c.ms = (x, true) ↔ x ∈ c.ms := by
  constructor
  · intro hf
    have := (fm_mem x.i c.ms (by rw [hf])).1
    rw [hf] at this; exact this
  · exact fun hx => fm_of c.ms _ (check_ok h).2.1 x hx

/-! ### The change between two configs, done -/
theorem keep_mem {a b : Cf} (ha : check a = 0) (hb : check b = 0) (z : Mb) : z ∈ keepM a (diff a b) ↔ z ∈ a.ms ∧ z ∈ b.ms := by
  unfold keepM diff
  simp only [List.mem_filter, Bool.and_eq_true, Bool.not_eq_true', decide_eq_false_iff_not, Bool.not_eq_eq_eq_not, Bool.not_true]
  constructor
  · rintro ⟨h1, h2, h3⟩
    refine ⟨h1, ?_⟩
    have h4 : hasI b.ms z.i = true := by
      refine Classical.byContradiction fun hn => h2 ?_
      simp only [ddrop, List.mem_map, List.mem_filter]
      exact ⟨z, ⟨h1, by simp only [Bool.not_eq_true] at hn; simp [hn]⟩, rfl⟩
    obtain ⟨x, hx, hxi⟩ := (hasI_iff _ _).1 h4
    have h5 : ¬ newM a.ms x = true := fun hn => by
      have : hasI (dput a.ms b.ms) z.i = true := (hasI_iff _ _).2 ⟨x, by simp only [dput, List.mem_filter]; exact ⟨hx, hn⟩, hxi⟩
      rw [this] at h3; simp at h3
    simp only [newM, decide_eq_true_eq, Decidable.not_not] at h5
    have h6 := (fm_iff ha x).1 h5
    have := (check_SOrd ha).inj h6 h1 hxi
    rw [← this]; exact hx
  · rintro ⟨h1, h2⟩
    refine ⟨h1, ?_, ?_⟩
    · simp only [ddrop, List.mem_map, List.mem_filter]
      rintro ⟨x, ⟨-, h3⟩, h4⟩
      have : hasI b.ms x.i = true := (hasI_iff _ _).2 ⟨z, h2, h4.symm⟩
      rw [this] at h3; simp at h3
    · refine Bool.eq_false_iff.2 fun hh => ?_
      obtain ⟨x, hx, hxi⟩ := (hasI_iff _ _).1 hh
      simp only [dput, List.mem_filter] at hx
      have := (check_SOrd hb).inj hx.1 h2 hxi
      subst this
      have h3 := hx.2
      simp only [newM, decide_eq_true_eq] at h3
      exact h3 ((fm_iff ha x).2 h1)
theorem put_mem {a b : Cf} (ha : check a = 0) (z : Mb) : z ∈ (diff a b).put ↔ z ∈ b.ms ∧ z ∉ a.ms := by
  simp only [diff, dput, List.mem_filter, newM, decide_eq_true_eq, fm_iff ha]
theorem all_nodup {a b : Cf} (ha : check a = 0) (hb : check b = 0) : ((keepM a (diff a b) ++ (diff a b).put).map Mb.i).Nodup := by
  rw [List.map_append, List.nodup_append]
  refine ⟨((check_SOrd ha).filter _).nodup, ((check_SOrd hb).filter _).nodup, fun x hx y hy hxy => ?_⟩
  obtain ⟨p, hp, rfl⟩ := List.mem_map.1 hx
  obtain ⟨q, hq, rfl⟩ := List.mem_map.1 hy
  have h1 := (keep_mem ha hb p).1 hp
  have h2 := (put_mem ha q).1 hq
  have := (check_SOrd hb).inj h1.2 h2.1 hxy
  subst this
  exact h2.2 h1.1
theorem chg_ms {a b : Cf} (ha : check a = 0) (hb : check b = 0) : srtM (keepM a (diff a b) ++ (diff a b).put) = b.ms := by
  refine SOrd.eq _ _ (srtM_sord (all_nodup ha hb)) (check_SOrd hb) fun z => ?_
  rw [(srtM_spec _).2.2, List.mem_append, keep_mem ha hb, put_mem ha]
  constructor
  · rintro (h | h)
    · exact h.2
    · exact h.1
  · intro h
    by_cases h1 : z ∈ a.ms
    · exact .inl ⟨h1, h⟩
    · exact .inr ⟨h, h1⟩
theorem all_len {a b : Cf} (ha : check a = 0) (hb : check b = 0) : (keepM a (diff a b) ++ (diff a b).put).length ≤ 20 := by
  have := srtM_len (keepM a (diff a b) ++ (diff a b).put)
  rw [chg_ms ha hb] at this
  have := check_len hb
  omega
theorem fits_diff {a b : Cf} (ha : check a = 0) (hb : check b = 0) : fitsE a (diff a b) = 0 := by
  unfold fitsE
  have hr := (check_ok hb).1.1
  rw [if_neg]
  · have : ∀ l : List Int, (∀ id ∈ l, id ∈ (diff a b).drop) → dropE a (pids (diff a b).put) l = 0 := by
      intro l
      induction l with
      | nil => intro _; rfl
      | cons id l ih =>
        intro h
        have hid := h id (by simp)
        simp only [diff, ddrop, List.mem_map, List.mem_filter] at hid
        obtain ⟨m, ⟨hm, hmb⟩, rfl⟩ := hid
        unfold dropE
        rw [if_neg, if_pos, ih fun id hid => h id (List.mem_cons_of_mem _ hid)]
        · rw [(fm_iff ha m).2 hm]
        · intro hp
          obtain ⟨x, hx, hxi⟩ := List.mem_map.1 hp
          have := (put_mem ha x).1 hx
          have : hasI b.ms m.i = true := (hasI_iff _ _).2 ⟨x, this.1, hxi⟩
          rw [this] at hmb; simp at hmb
    exact this _ fun _ h => h
  · have h1 : twL (pids (diff a b).put) = false := decide_eq_false (fun h => h ((check_SOrd hb).filter _).nodup)
    have h2 : twL (diff a b).drop = false := decide_eq_false (fun h => h ((check_SOrd ha).filter _).nodup)
    simp only [wrongD, h1, h2, Bool.false_or, Bool.or_eq_true, decide_eq_true_eq]
    simp only [diff]
    split <;> omega
theorem chg_all {a b : Cf} (ha : check a = 0) (hb : check b = 0) : { chg a (diff a b) with ep := b.ep, n := b.n } = b := by
  have hr := (check_ok hb).1.1
  have h1 := chg_ms ha hb
  have h2 : (chg a (diff a b)).kind = b.kind := by
    simp only [chg, diff]
    by_cases h : a.kind = b.kind
    · simp [h]
    · simp only [if_neg h]; rw [if_neg (by omega)]
  rw [Cf.ext4]
  exact ⟨rfl, rfl, h2, h1⟩
theorem app_diff {a b : Cf} (ha : check a = 0) (hb : check b = 0) : appE a (diff a b) b.ep b.n = 0 ∧ appC a (diff a b) b.ep b.n = b := by
  have h1 : appE a (diff a b) b.ep b.n = 0 := by
    unfold appE
    rw [if_pos ha, if_pos (fits_diff ha hb), chg_all ha hb]; exact hb
  refine ⟨h1, ?_⟩
  unfold appC
  rw [if_pos h1, chg_all ha hb]
end Go.Proofs.Ytiemabhnhgablaa
