/- Disks: what an operation comes to: bytes, files, the fuse. -/
import Derived.Test.YtijjfiebmdejaaaDKB
namespace Go.Proofs.Ytijjfiebmdejaaa
set_option linter.unusedSimpArgs false
set_option linter.unusedVariables false
open Go Go.Av
theorem usedL_set {l : List Fl} {i : Nat} (h : i < l.length) (f : Fl) : usedL (l.set i f) + l[i].d.length = usedL l + f.d.length := by
  have e : l.set i f = l.take i ++ f :: l.drop (i + 1) := by rw [List.set_eq_take_append_cons_drop, if_pos h]
  have e2 := usedL_app (l.take i) (l.drop i)
  rw [List.take_append_drop, List.drop_eq_getElem_cons h, usedL_cons] at e2
  rw [e, usedL_app, usedL_cons]
  omega
theorem usedL_mem {l : List Fl} {f : Fl} (h : f ∈ l) : f.d.length ≤ usedL l := by
  induction l with
  | nil => simp at h
  | cons g l ih =>
    rw [usedL_cons]
    rcases List.mem_cons.1 h with rfl | h
    · omega
    · have := ih h; omega
theorem usedL_putF (l : List Fl) (nm b : List UInt8) : usedL (putF l nm b) = usedL l + b.length := by
  unfold putF
  cases hi : isF l nm with
  | true =>
    rw [if_pos rfl]
    have hlt := isF_lt hi
    have hg := (isF_eq hi).1
    have h := usedL_set hlt ⟨(gF l nm).n, (gF l nm).d ++ b, (gF l nm).s⟩
    rw [hg] at h
    simp only [List.length_append] at h
    omega
  | false =>
    rw [if_neg (by decide), usedL_app, usedL_cons]
    have := usedL_app (l.take (fiF l nm)) (l.drop (fiF l nm))
    rw [List.take_append_drop] at this
    simp only
    omega
theorem putF_len (l : List Fl) (nm b : List UInt8) : (putF l nm b).length ≤ l.length + 1 := by
  unfold putF
  have := fiF_le l nm
  split
  · simp
  · simp; omega
theorem usedL_woF (l : List Fl) (nm : List UInt8) : usedL (woF l nm) ≤ usedL l ∧ (isF l nm = true → usedL (woF l nm) + (gF l nm).d.length = usedL l) := by
  unfold woF
  cases hi : isF l nm with
  | true =>
    rw [if_pos rfl, usedL_app]
    have hlt := isF_lt hi
    have hg := (isF_eq hi).1
    have e2 := usedL_app (l.take (fiF l nm)) (l.drop (fiF l nm))
    rw [List.take_append_drop, List.drop_eq_getElem_cons hlt, usedL_cons, hg] at e2
    exact ⟨by omega, fun _ => by omega⟩
  | false => exact ⟨by simp, fun h => by simp at h⟩
theorem usedL_insF (l : List Fl) (f : Fl) : usedL (insF l f) = usedL l + f.d.length := by
  unfold insF
  rw [usedL_app, usedL_cons]
  have := usedL_app (l.take (fiF l f.n)) (l.drop (fiF l f.n))
  rw [List.take_append_drop] at this
  omega
theorem insF_len (l : List Fl) (f : Fl) : (insF l f).length = l.length + 1 := by
  unfold insF
  have := fiF_le l f.n
  simp; omega
theorem usedL_renL {l : List Fl} {nm to : List UInt8} (h : isF l nm = true) : usedL (renL l nm to) ≤ usedL l ∧ (renL l nm to).length ≤ l.length + 1 := by
  unfold renL
  have h1 := (usedL_woF l nm).2 h
  have h2 := (usedL_woF (woF l nm) to).1
  have h3 := woF_len l nm
  have h4 := woF_len (woF l nm) to
  rw [usedL_insF, insF_len]
  exact ⟨by simp only; omega, by omega⟩
theorem usedL_le : ∀ (l m : List Fl) (hn : l.length = m.length), (∀ j (hj : j < l.length), (l[j]).d.length ≤ (m[j]'(by omega)).d.length) → usedL l ≤ usedL m
  | [], m, _, _ => by simp [usedL]
  | f :: l, [], h, _ => by simp at h
  | f :: l, g :: m, hn, h => by
    rw [usedL_cons, usedL_cons]
    have h0 := h 0 (by simp)
    have ih := usedL_le l m (by simpa using hn) fun j hj => by
      have := h (j + 1) (by simpa using hj)
      simpa using this
    simp at h0
    omega
theorem usedL_crL (l : List Fl) (ks : List Int) : usedL (crL l ks) ≤ usedL l := by
  refine usedL_le _ _ (crL_len l ks) fun j hj => ?_
  rw [crL_get (by simpa using hj)]
  simp [crF]
  omega
theorem chg_cases (d : Dk) (nm : List UInt8) (g : Fl → Fl) (e : Fl → Int) :
    (chg d nm g e = (d, 9) ∧ d.dn = true) ∨ (chg d nm g e = (d, 6) ∧ d.dn = false ∧ isF d.fs nm = false) ∨ (chg d nm g e = (d, e (gF d.fs nm)) ∧ d.dn = false ∧ isF d.fs nm = true ∧ e (gF d.fs nm) ≠ 0) ∨ (chg d nm g e = (brn d, 9) ∧ d.dn = false ∧ d.fuse = 1) ∨
    (chg d nm g e = (⟨d.fs.set (fiF d.fs nm) (g (gF d.fs nm)), d.cap, burnF d.fuse, d.dn⟩, 0) ∧ d.dn = false ∧ isF d.fs nm = true ∧ e (gF d.fs nm) = 0 ∧ d.fuse ≠ 1) := by
  unfold chg
  cases hd : d.dn with
  | true => exact .inl ⟨by simp, rfl⟩
  | false =>
    cases hi : isF d.fs nm with
    | false => exact .inr (.inl ⟨by simp, rfl, rfl⟩)
    | true =>
      by_cases he : e (gF d.fs nm) = 0
      · by_cases hf : d.fuse = 1
        · exact .inr (.inr (.inr (.inl ⟨by simp [he, hf], rfl, hf⟩)))
        · exact .inr (.inr (.inr (.inr ⟨by simp [he, hf], rfl, rfl, he, hf⟩)))
      · exact .inr (.inr (.inl ⟨by simp [he], rfl, rfl, he⟩))
/-- What an operation may come to. -/
structure Come (d d' : Dk) (m : Nat) : Prop where
  cap : d'.cap = d.cap
  n : d'.fs.length ≤ d.fs.length + 1
  u : usedL d'.fs ≤ usedL d.fs ∨ (usedL d'.fs = usedL d.fs + m ∧ (usedL d.fs : Int) + m ≤ d.cap)
  f : d'.fuse ≤ 9223372036854775807
theorem burnF_le {f : Int} (h : f ≤ 9223372036854775807) : burnF f ≤ 9223372036854775807 := by unfold burnF; split <;> omega
theorem Come.same {d : Dk} {m : Nat} (h : d.fuse ≤ 9223372036854775807) : Come d d m := ⟨rfl, by omega, .inl (Nat.le_refl _), h⟩
theorem Come.brn {d : Dk} {m : Nat} (h : d.fuse ≤ 9223372036854775807) : Come d (brn d) m := ⟨rfl, Nat.le_succ _, .inl (Nat.le_refl _), burnF_le h⟩
theorem chg_come (d : Dk) (nm : List UInt8) (g : Fl → Fl) (e : Fl → Int) (m : Nat) (hf : d.fuse ≤ 9223372036854775807) (hg : ∀ f, e f = 0 → (g f).d.length ≤ f.d.length) : Come d (chg d nm g e).1 m := by
  rcases chg_cases d nm g e with ⟨h, -⟩ | ⟨h, -⟩ | ⟨h, -⟩ | ⟨h, -⟩ | ⟨h, -, hi, he, -⟩ <;> rw [h]
  · exact .same hf
  · exact .same hf
  · exact .same hf
  · exact .brn hf
  · refine ⟨rfl, by simp, .inl ?_, burnF_le hf⟩
    have hlt := isF_lt hi
    have h2 := usedL_set hlt (g (gF d.fs nm))
    have h3 := hg _ he
    rw [(isF_eq hi).1] at h2
    simp only
    omega
theorem ply_come (d : Dk) (o : Op13) (hf : d.fuse ≤ 9223372036854775807) (hn : o.n ≤ 9223372036854775807) : Come d (ply d o).1 o.p.length := by
  unfold ply
  split
  · unfold app
    split
    · exact .same hf
    · split
      · split
        · exact .same hf
        · rename_i h
          refine ⟨rfl, putF_len _ _ _, .inr ⟨usedL_putF _ _ _, by omega⟩, burnF_le hf⟩
      · exact .same hf
  split
  · exact chg_come d _ _ _ _ hf fun f _ => by simp [synF]
  split
  · exact chg_come d _ _ _ _ hf fun f h => by
      have : cutE f o.n = 0 := h
      unfold cutE at this
      simp only [cutF]
      split
      · omega
      · simp; omega
  split
  · unfold rmv
    split
    · split
      · exact .brn hf
      · exact ⟨rfl, by have := woF_len d.fs o.a; simp only; omega, .inl (usedL_woF d.fs o.a).1, burnF_le hf⟩
    · exact .same hf
  split
  · unfold ren13
    split
    · exact .same hf
    · split
      · split
        · rename_i hi
          split
          · exact .brn hf
          · have := usedL_renL (to := o.b) hi
            exact ⟨rfl, this.2, .inl this.1, burnF_le hf⟩
        · exact .same hf
      · exact .same hf
  split
  · unfold armD
    split
    · exact .same hf
    · exact ⟨rfl, Nat.le_succ _, .inl (Nat.le_refl _), by simp only; omega⟩
  split
  · unfold crsh
    exact ⟨rfl, by simp, .inl (usedL_crL _ _), by simp⟩
  · exact ⟨rfl, Nat.le_succ _, .inl (Nat.le_refl _), hf⟩
/-- All of some operations. -/
def plys (d : Dk) (l : List Op13) : Dk := l.foldl (fun d o => (ply d o).1) d
theorem plys_snoc (d : Dk) {l : List Op13} {k : Nat} (h : k < l.length) : plys d (l.take (k + 1)) = (ply (plys d (l.take k)) l[k]).1 := by
  rw [List.take_succ_eq_append_getElem h, plys, List.foldl_append]; rfl
/-- The bounds behind so many operations. -/
structure Inv13 (d : Dk) (n m : Nat) : Prop where
  n : d.fs.length ≤ n
  u : usedL d.fs ≤ m
  f : d.fuse ≤ 9223372036854775807
theorem Inv13.okP {d : Dk} {n m : Nat} (h : Inv13 d n m) (hn : n ≤ 100000) (hm : m ≤ 10000000) : OkP d :=
  { n := by have := h.n; omega, d := fun f hf => by have := usedL_mem hf; have := h.u; omega, fu := h.f, u := by have := h.u; omega }
theorem Inv13.ply {d : Dk} {n m : Nat} (h : Inv13 d n m) (o : Op13) (ho : o.n ≤ 9223372036854775807) : Inv13 (ply d o).1 (n + 1) (m + o.p.length) := by
  have c := ply_come d o h.f ho
  refine ⟨by have := c.n; have := h.n; omega, ?_, c.f⟩
  have := h.u
  rcases c.u with h | ⟨h, -⟩ <;> omega
theorem Inv13.new (n : Int) : Inv13 (newD n) 0 0 := ⟨by simp [newD], by simp [newD, usedL], by simp [newD]⟩
end Go.Proofs.Ytijjfiebmdejaaa
