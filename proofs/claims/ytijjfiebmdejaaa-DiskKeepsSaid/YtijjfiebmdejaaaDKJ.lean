/- Disks: a file that is only appended to. -/
import Derived.Test.YtijjfiebmdejaaaDKG
import Derived.Test.YtijjfiebmdejaaaDKH
import Derived.Test.YtijjfiebmdejaaaDKS
namespace Go.Proofs.Ytijjfiebmdejaaa
set_option linter.unusedSimpArgs false
set_option linter.unusedVariables false
open Go Go.Av
def mine13 : List UInt8 := [109, 105, 110, 101]
theorem chg_up {d : Dk} (hd : d.dn = false) (hf : d.fuse = 0) (nm : List UInt8) (g : Fl → Fl) (e : Fl → Int) : (chg d nm g e).1.dn = false ∧ (chg d nm g e).1.fuse = 0 := by
  rcases chg_cases d nm g e with ⟨h, -⟩ | ⟨h, -⟩ | ⟨h, -⟩ | ⟨h, -, h2⟩ | ⟨h, -⟩ <;> rw [h]
  · exact ⟨hd, hf⟩
  · exact ⟨hd, hf⟩
  · exact ⟨hd, hf⟩
  · omega
  · exact ⟨hd, by show burnF d.fuse = 0; rw [hf]; rfl⟩
theorem ply_up {d : Dk} (hd : d.dn = false) (hf : d.fuse = 0) {o : Op13} (h0 : 0 ≤ o.k) (h4 : o.k ≤ 4) : (ply d o).1.dn = false ∧ (ply d o).1.fuse = 0 := by
  unfold ply
  split
  · unfold app
    split
    · exact ⟨hd, hf⟩
    · split
      · split
        · exact ⟨hd, hf⟩
        · exact ⟨by show burnN d.fuse d.dn = false; rw [hd, hf]; rfl, by show burnF d.fuse = 0; rw [hf]; rfl⟩
      · exact ⟨hd, hf⟩
  split
  · exact chg_up hd hf _ _ _
  split
  · exact chg_up hd hf _ _ _
  split
  · unfold rmv
    split
    · split
      · omega
      · exact ⟨hd, by show burnF d.fuse = 0; rw [hf]; rfl⟩
    · exact ⟨hd, hf⟩
  split
  · unfold ren13
    split
    · exact ⟨hd, hf⟩
    · split
      · split
        · split
          · omega
          · exact ⟨hd, by show burnF d.fuse = 0; rw [hf]; rfl⟩
        · exact ⟨hd, hf⟩
      · exact ⟨hd, hf⟩
  split
  · omega
  split
  · omega
  · omega
structure Mine (d : Dk) (a : List UInt8) (s : Nat) : Prop where
  srt : Srt d.fs
  dn : d.dn = false
  fz : d.fuse = 0
  le : s ≤ a.length
  fil : (⟨mine13, a, s⟩ ∈ d.fs) ∨ (isF d.fs mine13 = false ∧ a = [])
theorem Mine.new (n : Int) : Mine (newD n) [] 0 := ⟨List.Pairwise.nil, rfl, rfl, Nat.le_refl _, .inr ⟨rfl, rfl⟩⟩
theorem isF_no {l : List Fl} (hs : Srt l) {nm : List UInt8} (h : ∀ f ∈ l, f.n ≠ nm) : isF l nm = false := by
  cases hi : isF l nm with
  | false => rfl
  | true =>
    obtain ⟨f, hf, hn⟩ := (isF_iff hs nm).1 hi
    exact absurd hn (h f hf)
theorem no_isF {l : List Fl} (hs : Srt l) {nm : List UInt8} (h : isF l nm = false) {f : Fl} (hf : f ∈ l) : f.n ≠ nm := fun e => by
  have := (isF_iff hs nm).2 ⟨f, hf, e⟩
  rw [h] at this; simp at this
/-- Whatever is done to others. -/
theorem Mine.others {d : Dk} {a : List UInt8} {s : Nat} (h : Mine d a s) {o : Op13} (h0 : 0 ≤ o.k) (h4 : o.k ≤ 4) (ha : o.a ≠ mine13) (hb : o.k = 4 → o.b ≠ mine13) : Mine (ply d o).1 a s := by
  have hu := ply_up h.dn h.fz h0 h4
  have hs := ply_srt h.srt o
  have hm : ∀ f : Fl, f.n = mine13 → (f ∈ (ply d o).1.fs ↔ f ∈ d.fs) := fun f hf => ply_mem h.srt h0 (by omega) (by rw [hf]; exact fun e => ha e.symm) fun h4 => by rw [hf]; exact fun e => hb h4 e.symm
  refine ⟨hs, hu.1, hu.2, h.le, ?_⟩
  rcases h.fil with h1 | ⟨h1, h2⟩
  · exact .inl ((hm _ rfl).2 h1)
  · exact .inr ⟨isF_no hs fun f hf e => no_isF h.srt h1 ((hm f e).1 hf) e, h2⟩
/-- What is refused. -/
theorem Mine.refused {d : Dk} {a : List UInt8} {s : Nat} (h : Mine d a s) {o : Op13} (h0 : 0 ≤ o.k) (h4 : o.k ≤ 4) (he : (ply d o).2 ≠ 0) : Mine (ply d o).1 a s := by
  have hu := ply_up h.dn h.fz h0 h4
  have hr := ply_ref d o
  have h9 : (ply d o).2 ≠ 9 := fun e => by have := hr.2 e; rw [hu.1] at this; simp at this
  rw [hr.1 he (.inl h9)]; exact h
/-- What is appended. -/
theorem Mine.append {d : Dk} {a : List UInt8} {s : Nat} (h : Mine d a s) {o : Op13} (hk : o.k = 0) (ha : o.a = mine13) (he : (ply d o).2 = 0) : Mine (ply d o).1 (a ++ o.p) s := by
  have hu := ply_up h.dn h.fz (o := o) (by omega) (by omega)
  have hs := ply_srt h.srt o
  have e : (ply d o).1.fs = putF d.fs mine13 o.p := by
    unfold ply at he ⊢
    rw [if_pos hk] at he ⊢
    unfold app at he ⊢
    rw [ha] at he ⊢
    rw [if_neg (by rw [h.dn]; decide)] at he ⊢
    split at he
    · rename_i h1
      rw [if_pos h1]
      split at he
      · simp at he
      · rename_i h2; rw [if_neg h2]
    · simp at he
  refine ⟨hs, hu.1, hu.2, by rw [List.length_append]; have := h.le; omega, .inl ?_⟩
  rw [e]
  rcases h.fil with h1 | ⟨h1, h2⟩
  · have h3 := isF_of h.srt h1
    simp only at h3
    unfold putF
    rw [if_pos h3.1, mem_set h.srt h3.1]
    exact .inl (by rw [h3.2])
  · have := h.le
    rw [putF_eq _ _ _ h1, mem_insF]
    refine .inl ?_
    rw [h2] at this ⊢
    simp at this
    rw [this]; rfl
/-- What is made sure. -/
theorem Mine.sync {d : Dk} {a : List UInt8} {s : Nat} (h : Mine d a s) {o : Op13} (hk : o.k = 1) (ha : o.a = mine13) (he : (ply d o).2 = 0) : Mine (ply d o).1 a a.length := by
  have hu := ply_up h.dn h.fz (o := o) (by omega) (by omega)
  have hs := ply_srt h.srt o
  have e : ply d o = chg d mine13 synF (fun _ => 0) := by
    unfold ply; rw [if_neg (by omega), if_pos hk, ha]
  refine ⟨hs, hu.1, hu.2, Nat.le_refl _, ?_⟩
  rw [e] at he ⊢
  rcases chg_cases d mine13 synF (fun _ => 0) with ⟨h1, -⟩ | ⟨h1, -⟩ | ⟨h1, -, -, h2⟩ | ⟨h1, -⟩ | ⟨h1, -, hi, -⟩ <;> rw [h1] at he ⊢
  · simp at he
  · simp at he
  · simp at h2
  · simp at he
  · rcases h.fil with h3 | ⟨h3, h4⟩
    · have h5 := isF_of h.srt h3
      simp only at h5
      refine .inl ?_
      simp only [mem_set h.srt hi]
      exact .inl (by rw [h5.2]; rfl)
    · rw [h3] at hi; simp at hi
/-- What is read behind a crash. -/
theorem Mine.read {d : Dk} {a : List UInt8} {s : Nat} (h : Mine d a s) (ks : List Int) :
    (∃ m : Nat, s ≤ m ∧ m ≤ a.length ∧ readB (staD (crsh d ks)) mine13 = a.take m ∧ readE (staD (crsh d ks)) mine13 = 0) ∨ (a = [] ∧ readB (staD (crsh d ks)) mine13 = [] ∧ readE (staD (crsh d ks)) mine13 = 6) := by
  have hs := crL_srt h.srt ks
  have e1 : (staD (crsh d ks)).fs = crL d.fs ks := rfl
  have e2 : (staD (crsh d ks)).dn = false := rfl
  rcases h.fil with h1 | ⟨h1, h2⟩
  · left
    obtain ⟨j, hj, hf⟩ := List.getElem_of_mem h1
    have h3 : crF ⟨mine13, a, s⟩ (ks.getD j 0) ∈ crL d.fs ks := by
      rw [← hf, ← crL_get (ks := ks) hj]; exact List.getElem_mem _
    have h4 := isF_of hs h3
    have h5 : (crF ⟨mine13, a, (s : Int)⟩ (ks.getD j 0)).n = mine13 := rfl
    rw [h5] at h4
    have h6 := crS_le ⟨mine13, a, s⟩ (ks.getD j 0)
    have h7 : (s : Int) ≤ crS ⟨mine13, a, s⟩ (ks.getD j 0) := by
      have := h.le
      unfold crS at h6 ⊢
      simp only at h6 ⊢
      split <;> omega
    simp only at h6
    refine ⟨(crS ⟨mine13, a, s⟩ (ks.getD j 0)).toNat, by omega, by omega, ?_, ?_⟩
    · unfold readB
      rw [if_neg (by rw [e2]; decide), e1, if_pos h4.1, h4.2]; rfl
    · unfold readE
      rw [if_neg (by rw [e2]; decide), e1, if_pos h4.1]
  · right
    have h3 : isF (crL d.fs ks) mine13 = false := isF_no hs fun f hf e => by
      obtain ⟨j, hj, rfl⟩ := List.getElem_of_mem hf
      have hj' : j < d.fs.length := by simpa using hj
      rw [crL_get hj'] at e
      exact no_isF h.srt h1 (List.getElem_mem hj') e
    refine ⟨h2, ?_, ?_⟩
    · unfold readB; rw [if_neg (by rw [e2]; decide), e1, if_neg (by rw [h3]; decide)]
    · unfold readE; rw [if_neg (by rw [e2]; decide), e1, if_neg (by rw [h3]; decide)]
theorem staD_okP {d : Dk} (h : OkP d) : OkP (staD d) := { n := h.n, d := h.d, fu := h.fu, u := h.u }
end Go.Proofs.Ytijjfiebmdejaaa
