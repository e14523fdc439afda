/- Votes of unlike voters, laid in any order: what is laid is one list. -/
import Derived.Test.YtefhcofecdecgaaVM
namespace Go.Proofs.Ytefhcofecdecgaa
set_option linter.unusedSimpArgs false
set_option linter.unusedVariables false
open Go Go.Av
attribute [local simp] Try.T1 Try.T2 Try.T3 Try.T4 Try.T5 Try.T9 Try.T12 Try.T21 Try.T23 Try.T24 Try.T26 Try.T27 Try.T29 Try.T30 Try.T31 Try.T32 Try.T33 Try.T34 Try.T35 Try.T37 Try.T38 Try.T39 Try.T40 Try.T41 Try.T42 Try.T43 Try.T44 Try.T45 Try.T46 Try.T47 Try.T48 Try.T49 Try.T51 Try.T52 Try.T53 Try.T55 Try.T57 Try.T58 Try.T59 Try.T60 Try.T61 Try.T62 Try.T63 Try.T64 Try.T65 Try.T66 Try.T67 Try.T69 Try.T71 Try.T72 Try.T73 Try.T74 Try.T75 Try.T76 Try.T77 Try.T78 Try.T79 Try.T80 Try.T82 Try.T83 Try.T84 Try.T85 Try.T86 Try.T87 Try.T88 Try.T89 Try.T91 Try.T92 Try.T94 Try.T95 Try.T96 Try.T97 Try.T98 Try.T99 Try.T100 Try.T101 Try.T102 Try.T103 Try.T104 Try.T105 Try.T106 Try.T107 Try.T109 Try.T110 Try.T111 Try.T112 Try.T113 Try.T114 Try.T115 Try.T116 Try.T118 Try.T119 Try.T121 Try.T122 Try.T124 Try.T125 Try.T127 Try.T128 Try.T130 Try.T132 Try.T133 Try.T135 Try.T136 Try.T137 Try.T139 Try.T141 Try.T142 Try.T143 Try.T145 Try.T147 Try.T149 Try.T150 Try.T152 Try.T154 Try.T155 Try.T156 Try.T157 Try.T158 Try.T159 Try.T160 Try.T161 Try.T162 Try.T163 Try.T164 Try.T165 Try.T166 Try.T167 Try.T168 Try.T170 Try.T172 Try.T173 Try.T174 Try.T175 Try.T176 Try.T177 Try.T178 Try.T179 Try.T180 Try.T181 Try.T182 Try.T183 Try.T184 Try.T185 Try.T186 Try.T187 Try.T188 Try.T190 Try.T191 Try.T192 Try.T193 Try.T194 Try.T195 Try.T196 Try.T198 Try.T199 Try.T200 Try.T202 Try.T203 Try.T204 Try.T205 Try.T206 Try.T207 Try.T208 Try.T209 Try.T210 Try.T211 Try.T212 Try.T218 Try.T219 Try.T222
attribute [local irreducible] Go.Av.CallK Go.Av.CallE Go.Av.CallQ Go.Av.CallF Go.Av.Con

theorem tw_mem {p : Vt → Bool} : ∀ {l : List Vt} {x : Vt}, x ∈ l.takeWhile p → p x = true
  | [], x, h => by simp at h
  | a :: l, x, h => by
    by_cases ha : p a = true
    · rw [List.takeWhile_cons_of_pos ha] at h
      rcases List.mem_cons.1 h with rfl | h
      · exact ha
      · exact tw_mem h
    · rw [List.takeWhile_cons_of_neg ha] at h; simp at h
def SS (l : List Vt) : Prop := l.Pairwise fun a b => a.f < b.f
theorem mem_lay (l : List Vt) (v x : Vt) : x ∈ lay l v ↔ x = v ∨ (x ∈ l ∧ x.f ≠ v.f) := by
  unfold lay
  rw [List.mem_append, List.mem_cons, List.mem_filter]
  have h1 : ∀ x, x ∈ l.takeWhile (fun x => decide (x.f < v.f)) → x ∈ l ∧ x.f < v.f := fun x hx => by
    have hm := tw_mem hx
    exact ⟨(List.takeWhile_sublist _).subset hx, by simpa using hm⟩
  have h2 : ∀ x, x ∈ l → x ∈ l.takeWhile (fun x => decide (x.f < v.f)) ∨ x ∈ l.dropWhile (fun x => decide (x.f < v.f)) := fun x hx => by
    rw [← List.mem_append, List.takeWhile_append_dropWhile]; exact hx
  constructor
  · rintro (h | rfl | ⟨h, hf⟩)
    · have := h1 x h; exact .inr ⟨this.1, by omega⟩
    · exact .inl rfl
    · exact .inr ⟨(List.dropWhile_sublist _).subset h, by simpa using hf⟩
  · rintro (rfl | ⟨h, hf⟩)
    · exact .inr (.inl rfl)
    · rcases h2 x h with h3 | h3
      · exact .inl h3
      · exact .inr (.inr ⟨h3, by simpa using hf⟩)
theorem lay_ss {l : List Vt} (v : Vt) (h : SS l) : SS (lay l v) := by
  induction l with
  | nil => simp [lay, SS]
  | cons a l ih =>
    obtain ⟨ha, hl⟩ := List.pairwise_cons.1 h
    by_cases hav : a.f < v.f
    · have e : lay (a :: l) v = a :: lay l v := by unfold lay; rw [List.takeWhile_cons_of_pos (by simpa using hav), List.dropWhile_cons_of_pos (by simpa using hav)]; simp
      rw [e]
      refine List.pairwise_cons.2 ⟨fun x hx => ?_, ih hl⟩
      rcases (mem_lay _ _ _).1 hx with rfl | ⟨hx, -⟩
      · exact hav
      · exact ha x hx
    · have e : lay (a :: l) v = v :: (a :: l).filter (fun x => decide (x.f ≠ v.f)) := by unfold lay; rw [List.takeWhile_cons_of_neg (by simpa using hav), List.dropWhile_cons_of_neg (by simpa using hav)]; simp
      rw [e]
      refine List.pairwise_cons.2 ⟨fun x hx => ?_, h.sublist List.filter_sublist⟩
      obtain ⟨hx, hf⟩ := List.mem_filter.1 hx
      have hf' : x.f ≠ v.f := by simpa using hf
      rcases List.mem_cons.1 hx with rfl | hx
      · omega
      · have := ha x hx; omega
theorem lay_len {l : List Vt} {v : Vt} (h : ∀ x ∈ l, x.f ≠ v.f) : (lay l v).length = l.length + 1 := by
  unfold lay
  have h1 : (l.dropWhile (fun x => decide (x.f < v.f))).filter (fun x => decide (x.f ≠ v.f)) = l.dropWhile (fun x => decide (x.f < v.f)) := List.filter_eq_self.2 fun x hx => by simpa using h x ((List.dropWhile_sublist _).subset hx)
  rw [h1, List.length_append, List.length_cons]
  have := congrArg List.length (List.takeWhile_append_dropWhile (p := fun x : Vt => decide (x.f < v.f)) (l := l))
  rw [List.length_append] at this
  omega
theorem lay_le (l : List Vt) (v : Vt) : (lay l v).length ≤ l.length + 1 := by
  unfold lay
  have h1 := List.length_filter_le (fun x : Vt => decide (x.f ≠ v.f)) (l.dropWhile (fun x => decide (x.f < v.f)))
  rw [List.length_append, List.length_cons]
  have := congrArg List.length (List.takeWhile_append_dropWhile (p := fun x : Vt => decide (x.f < v.f)) (l := l))
  rw [List.length_append] at this
  omega
theorem ss_ext : ∀ {a b : List Vt}, SS a → SS b → (∀ x, x ∈ a ↔ x ∈ b) → a = b
  | [], [], _, _, _ => rfl
  | [], y :: b, _, _, h => by have := (h y).2 (by simp); simp at this
  | x :: a, [], _, _, h => by have := (h x).1 (by simp); simp at this
  | x :: a, y :: b, ha, hb, h => by
    obtain ⟨hx, ha'⟩ := List.pairwise_cons.1 ha
    obtain ⟨hy, hb'⟩ := List.pairwise_cons.1 hb
    have hxy : x = y := by
      rcases List.mem_cons.1 ((h x).1 (by simp)) with h1 | h1
      · exact h1
      · rcases List.mem_cons.1 ((h y).2 (by simp)) with h2 | h2
        · exact h2.symm
        · have := hx y h2; have := hy x h1; omega
    subst hxy
    rw [ss_ext ha' hb' fun z => ?_]
    constructor
    · intro hz
      rcases List.mem_cons.1 ((h z).1 (by simp [hz])) with rfl | h1
      · have := hx z hz; omega
      · exact h1
    · intro hz
      rcases List.mem_cons.1 ((h z).2 (by simp [hz])) with rfl | h1
      · have := hy z hz; omega
      · exact h1
def lays (l : List Vt) : List Vt := l.foldl lay []
theorem lays_snoc (l : List Vt) (v : Vt) : lays (l ++ [v]) = lay (lays l) v := by simp [lays]
theorem snoc_ind {P : List Vt → Prop} (h0 : P []) (h1 : ∀ l v, P l → P (l ++ [v])) (l : List Vt) : P l := by
  have : ∀ n (l : List Vt), l.length = n → P l := fun n => by
    induction n with
    | zero => intro l hl; rw [List.length_eq_zero_iff.1 hl]; exact h0
    | succ n ih =>
      intro l hl
      rcases List.eq_nil_or_concat l with rfl | ⟨l', v, rfl⟩
      · simp at hl
      · rw [List.concat_eq_append] at hl ⊢; exact h1 _ _ (ih l' (by simp at hl; omega))
  exact this _ l rfl
theorem lays_ss (l : List Vt) : SS (lays l) := snoc_ind (P := fun l => SS (lays l)) (by simp [lays, SS]) (fun l v h => by rw [lays_snoc]; exact lay_ss v h) l
theorem lays_le (l : List Vt) : (lays l).length ≤ l.length := snoc_ind (P := fun l => (lays l).length ≤ l.length) (by simp [lays]) (fun l v h => by rw [lays_snoc]; have := lay_le (lays l) v; simp; omega) l
def Dif (l : List Vt) : Prop := l.Pairwise fun a b => a.f ≠ b.f
theorem lays_mem {l : List Vt} : Dif l → (∀ x, x ∈ lays l ↔ x ∈ l) ∧ (lays l).length = l.length := by
  refine snoc_ind (P := fun l => Dif l → (∀ x, x ∈ lays l ↔ x ∈ l) ∧ (lays l).length = l.length) (fun _ => by simp [lays]) (fun l v ih h => ?_) l
  obtain ⟨h1, -, h2⟩ := List.pairwise_append.1 h
  obtain ⟨i1, i2⟩ := ih h1
  have hne : ∀ x ∈ lays l, x.f ≠ v.f := fun x hx => h2 x ((i1 x).1 hx) v (by simp)
  rw [lays_snoc]
  refine ⟨fun x => ?_, by rw [lay_len hne, i2]; simp⟩
  rw [mem_lay, i1, List.mem_append, List.mem_singleton]
  constructor
  · rintro (rfl | ⟨h, -⟩)
    · exact .inr rfl
    · exact .inl h
  · rintro (h | rfl)
    · exact .inr ⟨h, hne x ((i1 x).2 h)⟩
    · exact .inl rfl
theorem lay_again {l : List Vt} {v : Vt} (hs : SS l) (hv : v ∈ l) : lay l v = l := by
  refine ss_ext (lay_ss v hs) hs fun x => ?_
  rw [mem_lay]
  constructor
  · rintro (rfl | ⟨h, -⟩)
    · exact hv
    · exact h
  · intro hx
    by_cases hf : x.f = v.f
    · left
      have : ∀ {l : List Vt}, SS l → ∀ x ∈ l, ∀ y ∈ l, x.f = y.f → x = y := fun {l} => by
        induction l with
        | nil => intro _ x hx; simp at hx
        | cons a l ih =>
          intro hs x hx y hy hxy
          obtain ⟨ha, hl⟩ := List.pairwise_cons.1 hs
          rcases List.mem_cons.1 hx with hx' | hx'
          · rcases List.mem_cons.1 hy with hy' | hy'
            · rw [hx', hy']
            · have := ha y hy'; rw [hx'] at hxy; omega
          · rcases List.mem_cons.1 hy with hy' | hy'
            · have := ha x hx'; rw [hy'] at hxy; omega
            · exact ih hl x hx' y hy' hxy
      exact this hs x hx v hv hf
    · exact .inr ⟨hx, hf⟩
/-- The place that comes k-th in the other order. -/
def oth (L n k : Nat) : Nat := (2 * L - 1 - k - n) % L
theorem oth_lt {L n k : Nat} (h : 0 < L) : oth L n k < L := Nat.mod_lt _ h
theorem oth_inj {L n : Nat} (hn : n < L) {i k : Nat} (hi : i < L) (hk : k < L) (h : oth L n i = oth L n k) : i = k := by
  unfold oth at h
  have e : ∀ j, j < L → (2 * L - 1 - j - n) % L = if j + n < L then L - 1 - j - n else 2 * L - 1 - j - n := fun j hj => by
    by_cases hh : j + n < L
    · rw [if_pos hh, show 2 * L - 1 - j - n = L + (L - 1 - j - n) by omega, Nat.add_mod_left, Nat.mod_eq_of_lt (by omega)]
    · rw [if_neg hh, Nat.mod_eq_of_lt (by omega)]
  rw [e i hi, e k hk] at h
  split at h <;> split at h <;> omega
theorem oth_sur {L n : Nat} (hn : n < L) {i : Nat} (hi : i < L) : ∃ k, k < L ∧ oth L n k = i := by
  unfold oth
  by_cases h : i + n < L
  · refine ⟨L - 1 - i - n, by omega, ?_⟩
    rw [show 2 * L - 1 - (L - 1 - i - n) - n = L + i by omega, Nat.add_mod_left, Nat.mod_eq_of_lt hi]
  · refine ⟨2 * L - 1 - i - n, by omega, ?_⟩
    rw [show 2 * L - 1 - (2 * L - 1 - i - n) - n = i by omega, Nat.mod_eq_of_lt hi]
def othL (l : List Vt) (n : Nat) : List Vt := (List.range l.length).map fun k => l.getD (oth l.length n k) ⟨0, 0, 0, 0, 0, 0, 0⟩
theorem othL_len (l : List Vt) (n : Nat) : (othL l n).length = l.length := by simp [othL]
theorem othL_get (l : List Vt) (n k : Nat) (hk : k < l.length) : (othL l n)[k]'(by rw [othL_len]; exact hk) = l[oth l.length n k]'(oth_lt (by omega)) := by
  simp [othL, List.getD_eq_getElem?_getD, List.getElem?_eq_getElem (oth_lt (show 0 < l.length by omega))]
theorem othL_mem {l : List Vt} {n : Nat} (hn : n < l.length) (x : Vt) : x ∈ othL l n ↔ x ∈ l := by
  constructor
  · intro hx
    obtain ⟨k, hk, rfl⟩ := List.getElem_of_mem hx
    rw [othL_get l n k (by rw [othL_len] at hk; exact hk)]
    exact List.getElem_mem _
  · intro hx
    obtain ⟨i, hi, rfl⟩ := List.getElem_of_mem hx
    obtain ⟨k, hk, hki⟩ := oth_sur hn hi
    have e : l[i] = (othL l n)[k]'(by rw [othL_len]; exact hk) := by
      rw [othL_get l n k hk]; simp only [hki]
    rw [e]; exact List.getElem_mem _
theorem dif_get {l : List Vt} (h : Dif l) {i k : Nat} (hi : i < l.length) (hk : k < l.length) (hne : i ≠ k) : l[i].f ≠ l[k].f := by
  rcases Nat.lt_or_gt_of_ne hne with h1 | h1
  · exact List.pairwise_iff_getElem.1 h i k hi hk h1
  · exact (List.pairwise_iff_getElem.1 h k i hk hi h1).symm
theorem othL_dif {l : List Vt} {n : Nat} (hn : n < l.length) (h : Dif l) : Dif (othL l n) := by
  refine List.pairwise_iff_getElem.2 fun i k hi hk hik => ?_
  rw [othL_len] at hi hk
  rw [othL_get l n i hi, othL_get l n k hk]
  exact dif_get h _ _ fun h0 => by have := oth_inj hn hi hk h0; omega
theorem turns {l : List Vt} {n : Nat} (hn : n < l.length) (h : Dif l) : lays (othL l n) = lays l := by
  obtain ⟨h1, -⟩ := lays_mem h
  obtain ⟨h2, -⟩ := lays_mem (othL_dif hn h)
  exact ss_ext (lays_ss _) (lays_ss _) fun x => by rw [h1, h2, othL_mem hn]
end Go.Proofs.Ytefhcofecdecgaa
