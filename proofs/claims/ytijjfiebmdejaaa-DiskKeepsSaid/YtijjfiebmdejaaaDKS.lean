/- Disks: files in the order of their names. -/
import Derived.Test.YtijjfiebmdejaaaDKC
namespace Go.Proofs.Ytijjfiebmdejaaa
set_option linter.unusedSimpArgs false
set_option linter.unusedVariables false
open Go Go.Av
theorem lt_irr : ∀ (x : List UInt8), ¬ x < x
  | [], h => by simp at h
  | a :: x, h => by
    rw [List.cons_lt_cons_iff] at h
    rcases h with h | ⟨-, h⟩
    · exact UInt8.lt_irrefl a h
    · exact lt_irr x h
theorem lt_tr : ∀ {x y z : List UInt8}, x < y → y < z → x < z
  | _, [], _, h, _ => by simp at h
  | _, _ :: _, [], _, h => by simp at h
  | [], b :: y, c :: z, _, _ => by simp
  | a :: x, b :: y, c :: z, h, h' => by
    rw [List.cons_lt_cons_iff] at h h' ⊢
    rcases h with h | ⟨rfl, h⟩
    · rcases h' with h' | ⟨rfl, h'⟩
      · exact .inl (UInt8.lt_trans h h')
      · exact .inl h
    · rcases h' with h' | ⟨rfl, h'⟩
      · exact .inl h'
      · exact .inr ⟨rfl, lt_tr h h'⟩
theorem lt_tot : ∀ (x y : List UInt8), x < y ∨ x = y ∨ y < x
  | [], [] => .inr (.inl rfl)
  | [], b :: y => .inl (by simp)
  | a :: x, [] => .inr (.inr (by simp))
  | a :: x, b :: y => by
    simp only [List.cons_lt_cons_iff]
    rcases lt_tot x y with h | h | h
    all_goals
      by_cases h1 : a < b
      · exact .inl (.inl h1)
      by_cases h2 : b < a
      · exact .inr (.inr (.inl h2))
      have h3 : a = b := UInt8.le_antisymm (UInt8.not_lt.1 h2) (UInt8.not_lt.1 h1)
      subst h3
    · exact .inl (.inr ⟨rfl, h⟩)
    · exact .inr (.inl (by rw [h]))
    · exact .inr (.inr (.inr ⟨rfl, h⟩))
theorem less_eq : ∀ (x y : List UInt8), Op.bytesLess x y = decide (x < y)
  | [], [] => by simp [Op.bytesLess]
  | [], y :: ys => by simp [Op.bytesLess]
  | x :: xs, [] => by simp [Op.bytesLess]
  | x :: xs, y :: ys => by
    rw [Op.bytesLess, less_eq xs ys]
    simp only [List.cons_lt_cons_iff]
    by_cases h1 : x < y <;> by_cases h2 : x = y <;> by_cases h3 : xs < ys <;> simp [h1, h2, h3]
abbrev Srt (l : List Fl) : Prop := l.Pairwise fun a b => a.n < b.n
theorem fiF_lo {l : List Fl} {nm : List UInt8} {k : Nat} (h : k < fiF l nm) (hk : k < l.length) : l[k].n < nm := by
  have := List.not_of_lt_findIdx (p := fun f : Fl => !Op.bytesLess f.n nm) h
  simp only [Bool.not_eq_true', Bool.not_eq_false, less_eq, decide_eq_true_eq] at this
  simpa [less_eq] using this
theorem fiF_hi {l : List Fl} {nm : List UInt8} (h : fiF l nm < l.length) : ¬ l[fiF l nm].n < nm := by
  have h2 : (!Op.bytesLess l[fiF l nm].n nm) = true := List.findIdx_getElem (p := fun f : Fl => !Op.bytesLess f.n nm) (w := h)
  rw [less_eq] at h2
  simpa using h2
theorem fiF_take {l : List Fl} {nm : List UInt8} {f : Fl} (h : f ∈ l.take (fiF l nm)) : f.n < nm := by
  obtain ⟨j, hj, rfl⟩ := List.getElem_of_mem h
  rw [List.length_take] at hj
  rw [List.getElem_take]
  exact fiF_lo (by omega) (by omega)
theorem Srt.drop {l : List Fl} (h : Srt l) {k : Nat} (hk : k < l.length) {f : Fl} (hf : f ∈ l.drop (k + 1)) : l[k].n < f.n := by
  have h2 : Srt (l.drop k) := List.Pairwise.sublist (List.drop_sublist _ _) h
  rw [List.drop_eq_getElem_cons hk] at h2
  exact (List.pairwise_cons.1 h2).1 f hf
/-- Behind its place all names are greater, but that of the file itself. -/
theorem fiF_drop {l : List Fl} (hs : Srt l) {nm : List UInt8} (hi : isF l nm = false) {f : Fl} (hf : f ∈ l.drop (fiF l nm)) : nm < f.n := by
  have hlt : fiF l nm < l.length := by
    by_cases h : fiF l nm < l.length
    · exact h
    · rw [List.drop_of_length_le (by omega)] at hf; simp at hf
  have h1 := fiF_hi hlt
  have h2 : ¬ l[fiF l nm].n = nm := by
    unfold isF at hi
    rw [List.getElem?_eq_getElem hlt] at hi
    simpa using hi
  have h3 : nm < l[fiF l nm].n := by
    rcases lt_tot l[fiF l nm].n nm with h | h | h
    · exact absurd h h1
    · exact absurd h h2
    · exact h
  rw [List.drop_eq_getElem_cons hlt] at hf
  rcases List.mem_cons.1 hf with rfl | hf
  · exact h3
  · exact lt_tr h3 (hs.drop hlt hf)
/-- Who has the name is the file found. -/
theorem isF_of {l : List Fl} (hs : Srt l) {f : Fl} (hf : f ∈ l) : isF l f.n = true ∧ gF l f.n = f := by
  cases hi : isF l f.n with
  | false =>
    rw [← List.take_append_drop (fiF l f.n) l] at hf
    rcases List.mem_append.1 hf with h | h
    · exact absurd (fiF_take h) (lt_irr _)
    · exact absurd (fiF_drop hs hi h) (lt_irr _)
  | true =>
    have hlt := isF_lt hi
    have hg := isF_eq hi
    refine ⟨rfl, ?_⟩
    rw [← List.take_append_drop (fiF l f.n) l, List.drop_eq_getElem_cons hlt] at hf
    rcases List.mem_append.1 hf with h | h
    · exact absurd (fiF_take h) (lt_irr _)
    · rcases List.mem_cons.1 h with h | h
      · exact (hg.1.symm.trans h.symm)
      · have := hs.drop hlt h
        rw [hg.1, hg.2] at this
        exact absurd this (lt_irr _)
theorem gF_mem {l : List Fl} {nm : List UInt8} (hi : isF l nm = true) : gF l nm ∈ l := by
  rw [← (isF_eq hi).1]; exact List.getElem_mem _
theorem isF_iff {l : List Fl} (hs : Srt l) (nm : List UInt8) : isF l nm = true ↔ ∃ f ∈ l, f.n = nm := by
  constructor
  · intro hi; exact ⟨_, gF_mem hi, (isF_eq hi).2⟩
  · rintro ⟨f, hf, rfl⟩; exact (isF_of hs hf).1
/-! ### One set, put in, taken out -/
theorem set_eq {l : List Fl} {nm : List UInt8} (hi : isF l nm = true) (g : Fl) : l.set (fiF l nm) g = l.take (fiF l nm) ++ g :: l.drop (fiF l nm + 1) := by
  rw [List.set_eq_take_append_cons_drop, if_pos (isF_lt hi)]
theorem mem_set {l : List Fl} (hs : Srt l) {nm : List UInt8} (hi : isF l nm = true) (g f : Fl) : f ∈ l.set (fiF l nm) g ↔ f = g ∨ (f ∈ l ∧ f.n ≠ nm) := by
  have hlt := isF_lt hi
  have hg := isF_eq hi
  rw [set_eq hi, List.mem_append, List.mem_cons]
  constructor
  · rintro (h | h | h)
    · exact .inr ⟨List.mem_of_mem_take h, fun e => absurd (fiF_take h) (by rw [e]; exact lt_irr _)⟩
    · exact .inl h
    · refine .inr ⟨List.mem_of_mem_drop h, fun e => ?_⟩
      have := hs.drop hlt h
      rw [hg.1, hg.2, e] at this
      exact lt_irr _ this
  · rintro (h | ⟨h, hn⟩)
    · exact .inr (.inl h)
    · rw [← List.take_append_drop (fiF l nm) l, List.drop_eq_getElem_cons hlt] at h
      rcases List.mem_append.1 h with h | h
      · exact .inl h
      · rcases List.mem_cons.1 h with h | h
        · rw [hg.1] at h; rw [h, hg.2] at hn; exact absurd rfl hn
        · exact .inr (.inr h)
theorem set_srt {l : List Fl} (hs : Srt l) {nm : List UInt8} (hi : isF l nm = true) {g : Fl} (hg : g.n = nm) : Srt (l.set (fiF l nm) g) := by
  have e : (l.set (fiF l nm) g).map Fl.n = l.map Fl.n := by
    have hlt := isF_lt hi
    have h1 : l[fiF l nm].n = nm := by rw [(isF_eq hi).1]; exact (isF_eq hi).2
    have h2 : (l.map Fl.n)[fiF l nm]'(by rw [List.length_map]; exact hlt) = nm := by rw [List.getElem_map]; exact h1
    rw [List.map_set, hg]
    apply List.ext_getElem (by simp)
    intro j a b
    rw [List.getElem_set]
    split
    · rename_i e; subst e; exact h2.symm
    · rfl
  have h1 : (l.map Fl.n).Pairwise (· < ·) := List.pairwise_map.2 hs
  rw [← e] at h1
  exact List.pairwise_map.1 h1
theorem mem_woF {l : List Fl} (hs : Srt l) (nm : List UInt8) (f : Fl) : f ∈ woF l nm ↔ f ∈ l ∧ f.n ≠ nm := by
  unfold woF
  cases hi : isF l nm with
  | false =>
    rw [if_neg (by decide)]
    exact ⟨fun h => ⟨h, fun e => by subst e; rw [(isF_of hs h).1] at hi; simp at hi⟩, fun h => h.1⟩
  | true =>
    rw [if_pos rfl]
    have hlt := isF_lt hi
    have hg := isF_eq hi
    rw [List.mem_append]
    constructor
    · rintro (h | h)
      · exact ⟨List.mem_of_mem_take h, fun e => absurd (fiF_take h) (by rw [e]; exact lt_irr _)⟩
      · refine ⟨List.mem_of_mem_drop h, fun e => ?_⟩
        have := hs.drop hlt h
        rw [hg.1, hg.2, e] at this
        exact lt_irr _ this
    · rintro ⟨h, hn⟩
      rw [← List.take_append_drop (fiF l nm) l, List.drop_eq_getElem_cons hlt] at h
      rcases List.mem_append.1 h with h | h
      · exact .inl h
      · rcases List.mem_cons.1 h with h | h
        · rw [hg.1] at h; rw [h, hg.2] at hn; exact absurd rfl hn
        · exact .inr h
theorem woF_srt {l : List Fl} (hs : Srt l) (nm : List UInt8) : Srt (woF l nm) := by
  unfold woF
  split
  · have h1 : Srt (l.take (fiF l nm) ++ l.drop (fiF l nm)) := by rw [List.take_append_drop]; exact hs
    refine List.Pairwise.sublist (List.Sublist.append_left ?_ _) h1
    rw [← List.drop_drop]
    exact List.drop_sublist _ _
  · exact hs
theorem mem_insF {l : List Fl} (f g : Fl) : g ∈ insF l f ↔ g = f ∨ g ∈ l := by
  unfold insF
  rw [List.mem_append, List.mem_cons]
  have e : g ∈ l ↔ g ∈ l.take (fiF l f.n) ∨ g ∈ l.drop (fiF l f.n) := by rw [← List.mem_append, List.take_append_drop]
  rw [e]
  constructor
  · rintro (h | h | h)
    · exact .inr (.inl h)
    · exact .inl h
    · exact .inr (.inr h)
  · rintro (h | h | h)
    · exact .inr (.inl h)
    · exact .inl h
    · exact .inr (.inr h)
theorem insF_srt {l : List Fl} (hs : Srt l) {f : Fl} (hi : isF l f.n = false) : Srt (insF l f) := by
  unfold insF
  have h1 : Srt (l.take (fiF l f.n) ++ l.drop (fiF l f.n)) := by rw [List.take_append_drop]; exact hs
  have h2 := List.pairwise_append.1 h1
  refine List.pairwise_append.2 ⟨h2.1, List.pairwise_cons.2 ⟨fun g hg => fiF_drop hs hi hg, h2.2.1⟩, fun a ha b hb => ?_⟩
  rcases List.mem_cons.1 hb with rfl | hb
  · exact fiF_take ha
  · exact h2.2.2 a ha b hb
theorem woF_not {l : List Fl} (hs : Srt l) (nm : List UInt8) : isF (woF l nm) nm = false := by
  cases h : isF (woF l nm) nm with
  | false => rfl
  | true =>
    obtain ⟨f, hf, hn⟩ := (isF_iff (woF_srt hs nm) nm).1 h
    exact absurd hn ((mem_woF hs nm f).1 hf).2
theorem putF_eq (l : List Fl) (nm b : List UInt8) (hi : isF l nm = false) : putF l nm b = insF l ⟨nm, b, 0⟩ := by
  unfold putF insF; rw [if_neg (by rw [hi]; decide)]
theorem putF_srt {l : List Fl} (hs : Srt l) (nm b : List UInt8) : Srt (putF l nm b) := by
  cases hi : isF l nm with
  | false => rw [putF_eq _ _ _ hi]; exact insF_srt hs hi
  | true =>
    unfold putF; rw [if_pos hi]
    exact set_srt hs hi (isF_eq hi).2
theorem mem_putF {l : List Fl} (hs : Srt l) {nm b : List UInt8} {f : Fl} (hn : f.n ≠ nm) : f ∈ putF l nm b ↔ f ∈ l := by
  cases hi : isF l nm with
  | false =>
    rw [putF_eq _ _ _ hi, mem_insF]
    exact ⟨fun h => h.elim (fun e => absurd (by rw [e]) hn) id, .inr⟩
  | true =>
    unfold putF; rw [if_pos hi, mem_set hs hi]
    refine ⟨fun h => h.elim (fun e => ?_) fun h => h.1, fun h => .inr ⟨h, hn⟩⟩
    rw [e] at hn
    exact absurd (isF_eq hi).2 hn
theorem renL_srt {l : List Fl} (hs : Srt l) (nm to : List UInt8) : Srt (renL l nm to) := by
  unfold renL
  have h1 := woF_srt (woF_srt hs nm) to
  exact insF_srt h1 (woF_not (woF_srt hs nm) to)
theorem mem_renL {l : List Fl} (hs : Srt l) {nm to : List UInt8} {f : Fl} (hn : f.n ≠ nm) (ht : f.n ≠ to) : f ∈ renL l nm to ↔ f ∈ l := by
  unfold renL
  rw [mem_insF, mem_woF (woF_srt hs nm), mem_woF hs]
  refine ⟨fun h => h.elim (fun e => absurd (by rw [e]) ht) fun h => h.1.1, fun h => .inr ⟨⟨h, hn⟩, ht⟩⟩
theorem crL_names (l : List Fl) (ks : List Int) : (crL l ks).map Fl.n = l.map Fl.n := by
  apply List.ext_getElem (by simp)
  intro j h1 h2
  have hj : j < l.length := by simpa using h2
  rw [List.getElem_map, List.getElem_map, crL_get hj]
  rfl
theorem crL_srt {l : List Fl} (hs : Srt l) (ks : List Int) : Srt (crL l ks) := by
  have h1 : (l.map Fl.n).Pairwise (· < ·) := List.pairwise_map.2 hs
  rw [← crL_names l ks] at h1
  exact List.pairwise_map.1 h1
theorem chg_srt {d : Dk} (hs : Srt d.fs) (nm : List UInt8) {g : Fl → Fl} (hg : ∀ f, (g f).n = f.n) (e : Fl → Int) : Srt (chg d nm g e).1.fs := by
  rcases chg_cases d nm g e with ⟨h, -⟩ | ⟨h, -⟩ | ⟨h, -⟩ | ⟨h, -⟩ | ⟨h, -, hi, -⟩ <;> rw [h]
  · exact hs
  · exact hs
  · exact hs
  · exact hs
  · exact set_srt hs hi (by rw [hg, (isF_eq hi).2])
theorem cutF_n (f : Fl) (n : Int) : (cutF f n).n = f.n := by unfold cutF; split <;> rfl
theorem ply_srt {d : Dk} (hs : Srt d.fs) (o : Op13) : Srt (ply d o).1.fs := by
  unfold ply
  split
  · unfold app
    split
    · exact hs
    · split
      · split
        · exact hs
        · exact putF_srt hs _ _
      · exact hs
  split
  · exact chg_srt hs _ (g := synF) (fun f => rfl) _
  split
  · exact chg_srt hs _ (fun f => cutF_n f _) _
  split
  · unfold rmv
    split
    · split
      · exact hs
      · exact woF_srt hs _
    · exact hs
  split
  · unfold ren13
    split
    · exact hs
    · split
      · split
        · split
          · exact hs
          · exact renL_srt hs _ _
        · exact hs
      · exact hs
  split
  · unfold armD; split
    · exact hs
    · exact hs
  split
  · exact crL_srt hs _
  · exact hs
theorem chg_mem {d : Dk} (hs : Srt d.fs) {nm : List UInt8} {g : Fl → Fl} (hg : ∀ f, (g f).n = f.n) (e : Fl → Int) {f : Fl} (hn : f.n ≠ nm) : f ∈ (chg d nm g e).1.fs ↔ f ∈ d.fs := by
  rcases chg_cases d nm g e with ⟨h, -⟩ | ⟨h, -⟩ | ⟨h, -⟩ | ⟨h, -⟩ | ⟨h, -, hi, -⟩ <;> rw [h]
  · rfl
  · simp only [mem_set hs hi]
    refine ⟨fun h => h.elim (fun e => ?_) fun h => h.1, fun h => .inr ⟨h, hn⟩⟩
    rw [e, hg, (isF_eq hi).2] at hn
    exact absurd rfl hn
/-- What an operation leaves as it was. -/
theorem ply_mem {d : Dk} (hs : Srt d.fs) {o : Op13} (h0 : 0 ≤ o.k) (h5 : o.k ≤ 5) {f : Fl} (ha : f.n ≠ o.a) (hb : o.k = 4 → f.n ≠ o.b) : f ∈ (ply d o).1.fs ↔ f ∈ d.fs := by
  unfold ply
  split
  · unfold app
    split
    · rfl
    · split
      · split
        · rfl
        · exact mem_putF hs ha
      · rfl
  split
  · exact chg_mem hs (g := synF) (fun f => rfl) _ ha
  split
  · exact chg_mem hs (fun f => cutF_n f _) _ ha
  split
  · unfold rmv
    split
    · split
      · rfl
      · simp only [mem_woF hs]; exact ⟨fun h => h.1, fun h => ⟨h, ha⟩⟩
    · rfl
  split
  · rename_i h4
    unfold ren13
    split
    · rfl
    · split
      · split
        · split
          · rfl
          · exact mem_renL hs ha (hb h4)
        · rfl
      · rfl
  split
  · unfold armD; split
    · rfl
    · rfl
  split
  · omega
  · omega
theorem plys_srt (n : Int) (l : List Op13) : Srt (plys (newD n) l).fs := by
  unfold plys
  have key : ∀ (l : List Op13) (d : Dk), Srt d.fs → Srt (l.foldl (fun d o => (ply d o).1) d).fs := by
    intro l
    induction l with
    | nil => intro d h; exact h
    | cons o l ih => intro d h; exact ih _ (ply_srt h o)
  exact key l _ List.Pairwise.nil
end Go.Proofs.Ytijjfiebmdejaaa
