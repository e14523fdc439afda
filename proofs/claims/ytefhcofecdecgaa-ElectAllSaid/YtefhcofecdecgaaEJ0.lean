/- If all hear all: the rounds, on lists alone. -/
import Derived.Test.YtefhcofecdecgaaEH0
import Derived.Test.YtefhcofecdecgaaEBx
namespace Go.Proofs.Ytefhcofecdecgaa
set_option linter.unusedSimpArgs false
set_option linter.unusedVariables false
open Go Go.Av

def sme (a b : Vt) : Prop := a.e = b.e ∧ a.le = b.le ∧ a.ln = b.ln ∧ a.c = b.c
theorem sme_of {a b : Vt} (h1 : better a b = false) (h2 : better b a = false) : sme a b := by
  have h1 : ¬ better a b = true := by simp [h1]
  have h2 : ¬ better b a = true := by simp [h2]
  rw [better_iff] at h1 h2
  unfold sme; omega
theorem better_sme {a b a' b' : Vt} (h1 : sme a a') (h2 : sme b b') : better a b = better a' b' := by
  rw [Bool.eq_iff_iff, better_iff, better_iff]
  unfold sme at h1 h2; omega
theorem sme.trans {a b c : Vt} (h : sme a b) (k : sme b c) : sme a c := by unfold sme at *; omega
theorem sme.symm {a b : Vt} (h : sme a b) : sme b a := by unfold sme at *; omega
theorem sme.refl (a : Vt) : sme a a := ⟨rfl, rfl, rfl, rfl⟩
/-- What the election of many is over: who they are, their own votes, the greatest round, the best. -/
structure Run (V : List Int) (os : List Vt) (R : Int) (B : Vt) (p b : Nat) : Prop where
  len : os.length = V.length
  pw : V.Pairwise (· < ·)
  of : ∀ (i : Nat) (h : i < os.length) (h' : i < V.length), os[i].f = V[i] ∧ os[i].c = V[i] ∧ os[i].m = 1
  le : ∀ (i : Nat) (h : i < os.length), os[i].r ≤ R
  top : ∃ h : p < os.length, os[p].r = R
  best : ∀ (i : Nat) (h : i < os.length), better os[i] B = false
  is : ∃ h : b < os.length, sme os[b] B
structure Ok (V : List Int) (os : List Vt) (R : Int) (B : Vt) (p b i : Nat) (s : Sk) : Prop where
  id : ∀ h : i < V.length, s.id = V[i]
  own : ∀ h : i < os.length, s.own = ⟨os[i].f, s.rd, os[i].e, os[i].le, os[i].ln, os[i].c, 1⟩
  f : s.now.f = s.id
  r : s.now.r = s.rd
  m : s.now.m = 1
  le : s.rd ≤ R
  some : ∃ j, ∃ h : j < os.length, sme s.now os[j]
  top : i = p → s.rd = R
  best : i = b → sme s.now B
section
variable {V : List Int} {os : List Vt} {R : Int} {B : Vt} {p b : Nat}
theorem Ok.mem (hr : Run V os R B p b) {i : Nat} {s : Sk} (h : Ok V os R B p b i s) : s.now.c ∈ V := by
  obtain ⟨j, hj, hs⟩ := h.some
  have hj' : j < V.length := by rw [← hr.len]; exact hj
  rw [hs.2.2.2, (hr.of j hj hj').2.1]
  exact List.getElem_mem _
theorem Ok.nb (hr : Run V os R B p b) {i : Nat} {s : Sk} (h : Ok V os R B p b i s) : better s.now B = false := by
  obtain ⟨j, hj, hs⟩ := h.some
  rw [better_sme hs (sme.refl B)]; exact hr.best j hj
/-- What a server comes to that hears another one. -/
theorem hear_ok (hr : Run V os R B p b) {i k : Nat} {s t : Sk} (hi : i < V.length) (hk : k < V.length) (hik : i ≠ k) (h : Ok V os R B p b i s) (h' : Ok V os R B p b k t) :
    Ok V os R B p b i (hear s V V t.now).1 ∧ s.rd ≤ (hear s V V t.now).1.rd ∧ t.rd ≤ (hear s V V t.now).1.rd ∧
    (s.rd = R → t.rd = R → (sme s.now B ∨ sme t.now B) → sme (hear s V V t.now).1.now B) ∧
    (s.rd = R → t.rd = R → sme s.now B → sme t.now B → (hear s V V t.now).1.now = s.now ∧ (hear s V V t.now).1.hd = lay (lay s.hd s.now) t.now) := by
  have hne : ¬ t.now.f = s.id := by
    rw [h'.f, h'.id hk, h.id hi]
    exact fun e => hik (pw_inj hr.pw hi hk e.symm)
  have hin : t.now.f ∈ V := by rw [h'.f, h'.id hk]; exact List.getElem_mem _
  have hc := h'.mem hr
  have hB := h'.nb hr
  have hS := h.nb hr
  have hi' : i < os.length := by rw [hr.len]; exact hi
  have how := h.own hi'
  have hof := hr.of i hi' hi
  obtain ⟨hid, hown, hf, hr', hm, hle, hsm, htp, hbs⟩ := h
  obtain ⟨hid2, hown2, hf2, hr2, hm2, hle2, hsm2, htp2, hbs2⟩ := h'
  have hb0 := hr.best i hi'
  have hbb : i = b → sme os[i] B := fun e => by subst e; exact hr.is.2
  unfold hear
  rw [if_neg (by simp [hm2]), if_neg hne, if_neg (by simpa using hin)]
  by_cases h1 : t.now.r < s.rd
  · rw [if_pos h1]
    refine ⟨⟨hid, hown, hf, hr', hm, hle, hsm, htp, hbs⟩, Int.le_refl _, by dsimp only; omega, fun a b _ => by omega, fun a b _ _ => by omega⟩
  rw [if_neg h1]
  by_cases h2 : s.rd < t.now.r
  · simp only [if_pos h2, if_pos hc]
    have hjn : sme (joined s t.now.r).now os[i] := by rw [joined, how]; exact ⟨rfl, rfl, rfl, rfl⟩
    by_cases h3 : better t.now (joined s t.now.r).now = true
    · simp only [if_pos h3]
      refine ⟨⟨hid, ?_, rfl, rfl, rfl, ?_, ?_, ?_, ?_⟩, ?_, ?_, ?_, ?_⟩
      · intro hh; simp [laid, bettered, joined, how]
      · show t.now.r ≤ R; omega
      · obtain ⟨j, hj, hs⟩ := hsm2; exact ⟨j, hj, hs⟩
      · intro e; have := htp e; show t.now.r = R; omega
      · intro e
        exfalso
        have := better_sme (sme.refl t.now) (hjn.trans (hbb e))
        rw [this, hB] at h3; simp at h3
      · show s.rd ≤ t.now.r; omega
      · show t.rd ≤ t.now.r; omega
      · intro a b; omega
      · intro a b; omega
    · simp only [if_neg h3]
      refine ⟨⟨hid, ?_, ?_, rfl, ?_, ?_, ?_, ?_, ?_⟩, ?_, ?_, ?_, ?_⟩
      · intro hh; simp [laid, joined, how]
      · show s.own.f = s.id; rw [how, hid hi]; exact hof.1
      · show s.own.m = 1; rw [how]
      · show t.now.r ≤ R; omega
      · exact ⟨i, hi', hjn⟩
      · intro e; have := htp e; show t.now.r = R; omega
      · intro e; exact hjn.trans (hbb e)
      · show s.rd ≤ t.now.r; omega
      · show t.rd ≤ t.now.r; omega
      · intro a b; omega
      · intro a b; omega
  · have h4 : t.now.r = s.rd := by omega
    simp only [if_neg h2, if_pos hc]
    by_cases h3 : better t.now s.now = true
    · simp only [if_pos h3]
      refine ⟨⟨hid, ?_, rfl, rfl, rfl, hle, ?_, htp, ?_⟩, ?_, ?_, ?_, ?_⟩
      · intro hh; simp [laid, bettered, how]
      · obtain ⟨j, hj, hs⟩ := hsm2; exact ⟨j, hj, hs⟩
      · intro e
        exfalso
        rw [better_sme (sme.refl t.now) (hbs e), hB] at h3; simp at h3
      · exact Int.le_refl _
      · show t.rd ≤ s.rd; omega
      · intro _ _ o
        rcases o with o | o
        · rw [better_sme (sme.refl t.now) o, hB] at h3; simp at h3
        · exact o
      · intro _ _ o _
        rw [better_sme (sme.refl t.now) o, hB] at h3; simp at h3
    · simp only [if_neg h3]
      refine ⟨⟨hid, hown, hf, hr', hm, hle, hsm, htp, hbs⟩, Int.le_refl _, ?_, ?_, ?_⟩
      · show t.rd ≤ s.rd; omega
      · intro _ _ o
        rcases o with o | o
        · exact o
        · refine sme_of hS ?_
          show better B s.now = false
          rw [← better_sme o (sme.refl s.now)]; simpa using h3
      · intro _ _ _ _
        exact ⟨rfl, by simp [laid]⟩
def zsk : Sk := ⟨0, 0, ⟨0, 0, 0, 0, 0, 0, 0⟩, ⟨0, 0, 0, 0, 0, 0, 0⟩, []⟩
/-- A server's turn: it hears the first m of all but itself. -/
def tn (V : List Int) (all : List Sk) (i : Nat) : Nat → Sk
  | 0 => all.getD i zsk
  | m + 1 => if i = m then tn V all i m else (hear (tn V all i m) V V (all.getD m zsk).now).1
def ps (V : List Int) (all : List Sk) : Nat → List Sk
  | 0 => all
  | m + 1 => (ps V all m).set m (tn V (ps V all m) m V.length)
def rn (V : List Int) (all : List Sk) : Nat → List Sk
  | 0 => all
  | t + 1 => ps V (rn V all t) V.length
theorem ps_len (V : List Int) (all : List Sk) (m : Nat) : (ps V all m).length = all.length := by
  induction m with
  | zero => rfl
  | succ m ih => simp [ps, ih]
theorem rn_len (V : List Int) (all : List Sk) (t : Nat) : (rn V all t).length = all.length := by
  induction t with
  | zero => rfl
  | succ t ih => simp [rn, ps_len, ih]
/-- One pass: what each comes to holds of it behind the pass, if what holds of all is kept. -/
theorem pass_ind {V : List Int} {P : Nat → Sk → Prop} {Q : Nat → Sk → Prop} {all : List Sk} (hl : all.length = V.length)
    (hP : ∀ i, i < V.length → P i (all.getD i zsk))
    (h : ∀ (l : List Sk) i, i < V.length → l.length = V.length → (∀ i, i < V.length → P i (l.getD i zsk)) → P i (tn V l i V.length) ∧ Q i (tn V l i V.length)) :
    ∀ m, m ≤ V.length → (∀ i, i < V.length → P i ((ps V all m).getD i zsk)) ∧ ∀ i, i < m → Q i ((ps V all m).getD i zsk) := by
  intro m
  induction m with
  | zero => exact fun _ => ⟨hP, fun i hi => absurd hi (Nat.not_lt_zero _)⟩
  | succ m ih =>
    intro hm
    obtain ⟨h1, h2⟩ := ih (by omega)
    have hlen : (ps V all m).length = V.length := by rw [ps_len, hl]
    obtain ⟨h3, h4⟩ := h _ m (by omega) hlen h1
    have key : ∀ i, ((ps V all m).set m (tn V (ps V all m) m V.length)).getD i zsk = if i = m then tn V (ps V all m) m V.length else (ps V all m).getD i zsk := fun i => by
      simp only [List.getD_eq_getElem?_getD, List.getElem?_set]
      by_cases e : m = i
      · subst e; simp [hlen, show m < V.length by omega]
      · rw [if_neg e, if_neg (fun h => e h.symm)]
    refine ⟨fun i hi => ?_, fun i hi => ?_⟩
    · simp only [ps]; rw [key]
      split
      · rename_i e; subst e; exact h3
      · exact h1 i hi
    · simp only [ps]; rw [key]
      split
      · rename_i e; subst e; exact h4
      · exact h2 i (by omega)
def has (V : List Int) (B : Vt) (R : Int) (s : Sk) (j : Nat) : Prop := ∃ y ∈ s.hd, (∀ h : j < V.length, y.f = V[j]) ∧ y.r = R ∧ sme y B
theorem has_lay {V : List Int} (hV : V.Pairwise (· < ·)) {B : Vt} {R : Int} {s s' : Sk} {v : Vt} {k : Nat} (hk : k < V.length) (hv : v.f = V[k]) (hr : v.r = R) (hs : sme v B) (hd : s'.hd = lay s.hd v) :
    has V B R s' k ∧ ∀ j, j < V.length → has V B R s j → has V B R s' j := by
  have h0 : has V B R s' k := ⟨v, by rw [hd, mem_lay]; exact .inl rfl, fun _ => hv, hr, hs⟩
  refine ⟨h0, fun j hj ⟨y, hy, h1, h2, h3⟩ => ?_⟩
  by_cases e : j = k
  · subst e; exact h0
  · have hne : y.f ≠ v.f := by
      rw [h1 hj, hv]
      exact fun h => e (pw_inj hV hj hk h)
    exact ⟨y, by rw [hd, mem_lay]; exact .inr ⟨hy, hne⟩, h1, h2, h3⟩
theorem all_hear (hr : Run V os R B p b) (hn : 1 < V.length) {all : List Sk} (hl : all.length = V.length) (h : ∀ i, i < V.length → Ok V os R B p b i (all.getD i zsk)) (t : Nat) :
    ∀ i, i < V.length → Ok V os R B p b i ((rn V all t).getD i zsk) ∧ (1 ≤ t → ((rn V all t).getD i zsk).rd = R) ∧ (2 ≤ t → sme ((rn V all t).getD i zsk).now B) ∧ (3 ≤ t → ∀ j, j < V.length → has V B R ((rn V all t).getD i zsk) j) := by
  have hp : p < V.length := by rw [← hr.len]; exact hr.top.1
  have hb : b < V.length := by rw [← hr.len]; exact hr.is.1
  induction t with
  | zero => exact fun i hi => ⟨h i hi, fun h => absurd h (by omega), fun h => absurd h (by omega), fun h => absurd h (by omega)⟩
  | succ t ih =>
    have hlen : (rn V all t).length = V.length := by rw [rn_len, hl]
    have base : ∀ (l : List Sk) i, i < V.length → (∀ i, i < V.length → Ok V os R B p b i (l.getD i zsk)) → ∀ m, m ≤ V.length → Ok V os R B p b i (tn V l i m) ∧ (l.getD i zsk).rd ≤ (tn V l i m).rd ∧ ∀ k, k < m → (l.getD k zsk).rd ≤ (tn V l i m).rd := by
      intro l i hi hP m
      induction m with
      | zero => exact fun _ => ⟨hP i hi, Int.le_refl _, fun k hk => absurd hk (Nat.not_lt_zero _)⟩
      | succ m ihm =>
        intro hm
        obtain ⟨a1, a2, a3⟩ := ihm (by omega)
        simp only [tn]
        by_cases e : i = m
        · subst e
          rw [if_pos rfl]
          refine ⟨a1, a2, fun k hk => ?_⟩
          by_cases e : k = i
          · subst e; exact a2
          · exact a3 k (by omega)
        · rw [if_neg e]
          obtain ⟨c1, c2, c3, -⟩ := hear_ok hr hi (by omega : m < V.length) e a1 (hP m (by omega))
          refine ⟨c1, by omega, fun k hk => ?_⟩
          by_cases e : k = m
          · subst e; exact c3
          · have := a3 k (by omega); omega
    have s1 : ∀ i, i < V.length → Ok V os R B p b i ((rn V all (t + 1)).getD i zsk) ∧ ((rn V all (t + 1)).getD i zsk).rd = R := by
      have := pass_ind (P := Ok V os R B p b) (Q := fun i s => s.rd = R) hlen (fun i hi => (ih i hi).1) (fun l i hi hll hP => by
        obtain ⟨a1, a2, a3⟩ := base l i hi hP V.length (Nat.le_refl _)
        have := a3 p hp
        have e := (hP p hp).top rfl
        have := a1.le
        exact ⟨a1, by omega⟩) V.length (Nat.le_refl _)
      exact fun i hi => ⟨this.1 i hi, this.2 i hi⟩
    have base2 : ∀ (l : List Sk) i, i < V.length → (∀ i, i < V.length → Ok V os R B p b i (l.getD i zsk) ∧ (l.getD i zsk).rd = R) → ∀ m, m ≤ V.length → Ok V os R B p b i (tn V l i m) ∧ (tn V l i m).rd = R ∧ (sme (l.getD i zsk).now B → sme (tn V l i m).now B) ∧ ∀ k, k < m → sme (l.getD k zsk).now B → sme (tn V l i m).now B := by
      intro l i hi hP m
      induction m with
      | zero => exact fun _ => ⟨(hP i hi).1, (hP i hi).2, id, fun k hk => absurd hk (Nat.not_lt_zero _)⟩
      | succ m ihm =>
        intro hm
        obtain ⟨a1, a2, a3, a4⟩ := ihm (by omega)
        simp only [tn]
        by_cases e : i = m
        · subst e
          rw [if_pos rfl]
          refine ⟨a1, a2, a3, fun k hk => ?_⟩
          by_cases e : k = i
          · subst e; exact a3
          · exact a4 k (by omega)
        · rw [if_neg e]
          obtain ⟨c1, c2, c3, c4, -⟩ := hear_ok hr hi (by omega : m < V.length) e a1 (hP m (by omega)).1
          have hle := c1.le
          refine ⟨c1, by omega, fun o => ?_, fun k hk o => ?_⟩
          · exact c4 a2 (hP m (by omega)).2 (.inl (a3 o))
          · by_cases e : k = m
            · subst e; exact c4 a2 (hP k (by omega)).2 (.inr o)
            · exact c4 a2 (hP m (by omega)).2 (.inl (a4 k (by omega) o))
    have s2 : 1 ≤ t → ∀ i, i < V.length → sme ((rn V all (t + 1)).getD i zsk).now B := by
      intro ht
      have := pass_ind (P := fun i s => Ok V os R B p b i s ∧ s.rd = R) (Q := fun i s => sme s.now B) hlen (fun i hi => ⟨(ih i hi).1, (ih i hi).2.1 ht⟩) (fun l i hi hll hP => by
        obtain ⟨a1, a2, a3, a4⟩ := base2 l i hi hP V.length (Nat.le_refl _)
        exact ⟨⟨a1, a2⟩, a4 b hb ((hP b hb).1.best rfl)⟩) V.length (Nat.le_refl _)
      exact this.2
    have base3 : ∀ (l : List Sk) i, i < V.length → (∀ i, i < V.length → Ok V os R B p b i (l.getD i zsk) ∧ (l.getD i zsk).rd = R ∧ sme (l.getD i zsk).now B) → ∀ m, m ≤ V.length → Ok V os R B p b i (tn V l i m) ∧ (tn V l i m).rd = R ∧ sme (tn V l i m).now B ∧ (∀ k, k < m → k ≠ i → has V B R (tn V l i m) k ∧ has V B R (tn V l i m) i) := by
      intro l i hi hP m
      induction m with
      | zero => exact fun _ => ⟨(hP i hi).1, (hP i hi).2.1, (hP i hi).2.2, fun k hk => absurd hk (Nat.not_lt_zero _)⟩
      | succ m ihm =>
        intro hm
        obtain ⟨a1, a2, a3, a4⟩ := ihm (by omega)
        simp only [tn]
        by_cases e : i = m
        · subst e
          rw [if_pos rfl]
          exact ⟨a1, a2, a3, fun k hk hne => a4 k (by omega) hne⟩
        · rw [if_neg e]
          have hm' : m < V.length := by omega
          obtain ⟨p1, p2, p3⟩ := hP m hm'
          obtain ⟨c1, c2, c3, c4, c5⟩ := hear_ok hr hi hm' e a1 p1
          obtain ⟨d1, d2⟩ := c5 a2 p2 a3 p3
          have hle := c1.le
          have e1 := has_lay hr.pw (B := B) (R := R) (s := tn V l i m) (s' := ⟨0, 0, ⟨0, 0, 0, 0, 0, 0, 0⟩, ⟨0, 0, 0, 0, 0, 0, 0⟩, lay (tn V l i m).hd (tn V l i m).now⟩) (v := (tn V l i m).now) hi (by rw [a1.f, a1.id hi]) (by rw [a1.r, a2]) a3 rfl
          have e2 := has_lay hr.pw (B := B) (R := R) (s := ⟨0, 0, ⟨0, 0, 0, 0, 0, 0, 0⟩, ⟨0, 0, 0, 0, 0, 0, 0⟩, lay (tn V l i m).hd (tn V l i m).now⟩) (s' := (hear (tn V l i m) V V (l.getD m zsk).now).1) (v := (l.getD m zsk).now) hm' (by rw [p1.f, p1.id hm']) (by rw [p1.r, p2]) p3 d2
          refine ⟨c1, by omega, c4 a2 p2 (.inl a3), fun k hk hne => ⟨?_, e2.2 i hi e1.1⟩⟩
          by_cases ek : k = m
          · subst ek; exact e2.1
          · exact e2.2 k (by omega) (e1.2 k (by omega) (a4 k (by omega) hne).1)
    have s3 : 2 ≤ t → ∀ i, i < V.length → ∀ j, j < V.length → has V B R ((rn V all (t + 1)).getD i zsk) j := by
      intro ht
      have := pass_ind (P := fun i s => Ok V os R B p b i s ∧ s.rd = R ∧ sme s.now B) (Q := fun i s => ∀ j, j < V.length → has V B R s j) hlen (fun i hi => ⟨(ih i hi).1, (ih i hi).2.1 (by omega), (ih i hi).2.2.1 (by omega)⟩) (fun l i hi hll hP => by
        obtain ⟨a1, a2, a3, a4⟩ := base3 l i hi hP V.length (Nat.le_refl _)
        refine ⟨⟨a1, a2, a3⟩, fun j hj => ?_⟩
        by_cases e : j = i
        · subst e
          by_cases e0 : j = 0
          · exact (a4 1 hn (by omega)).2
          · exact (a4 0 (by omega) (by omega)).2
        · exact (a4 j hj e).1) V.length (Nat.le_refl _)
      exact this.2
    exact fun i hi => ⟨(s1 i hi).1, fun _ => (s1 i hi).2, fun ht => s2 (by omega) i hi, fun ht => s3 (by omega) i hi⟩
end
end Go.Proofs.Ytefhcofecdecgaa
namespace Go.Proofs.Ytefhcofecdecgaa
set_option linter.unusedSimpArgs false
set_option linter.unusedVariables false
open Go Go.Av
theorem list_top : ∀ (l : List Vt), 0 < l.length → ∃ p, ∃ h : p < l.length, ∀ i (h' : i < l.length), l[i].r ≤ l[p].r
  | [], h => absurd h (by simp)
  | [a], _ => ⟨0, by simp, fun i h => by have : i = 0 := by simpa using h
                                         subst this; exact Int.le_refl _⟩
  | a :: b :: l, _ => by
    obtain ⟨p, hp, h⟩ := list_top (b :: l) (by simp)
    by_cases g : a.r ≤ ((b :: l)[p]).r
    · refine ⟨p + 1, by simpa using hp, fun i hi => ?_⟩
      cases i with
      | zero => simpa using g
      | succ i => simpa using h i (by simpa using hi)
    · refine ⟨0, by simp, fun i hi => ?_⟩
      cases i with
      | zero => exact Int.le_refl _
      | succ i => have := h i (by simpa using hi); simp at this ⊢; omega
def bst (a : Vt) (l : List Sk) : Vt := l.foldl (fun a s => if better s.own a = true then s.own else a) a
theorem bst_snoc (a : Vt) (l : List Sk) (k : Nat) (h : k < l.length) : bst a (l.take (k + 1)) = if better l[k].own (bst a (l.take k)) = true then l[k].own else bst a (l.take k) := by
  rw [List.take_succ_eq_append_getElem h, bst, List.foldl_append]; rfl
theorem better_lt {a b c : Vt} (h1 : better a b = false) (h2 : better c b = true) : better a c = false := by
  cases hb : better a c with
  | false => rfl
  | true =>
    have h1 : ¬ better a b = true := by simp [h1]
    rw [better_iff] at *; omega
theorem bst_spec (a : Vt) (l : List Sk) : ∀ k, k ≤ l.length → better a (bst a (l.take k)) = false ∧ (∀ i (h : i < l.length), i < k → better l[i].own (bst a (l.take k)) = false) ∧ (bst a (l.take k) = a ∨ ∃ i, ∃ h : i < l.length, bst a (l.take k) = l[i].own) := by
  intro k
  induction k with
  | zero => exact fun _ => ⟨better_self ⟨rfl, rfl, rfl, rfl⟩, fun i _ h => absurd h (Nat.not_lt_zero _), .inl rfl⟩
  | succ k ih =>
    intro hk
    obtain ⟨h1, h2, h3⟩ := ih (by omega)
    rw [bst_snoc _ _ _ (by omega)]
    by_cases g : better l[k].own (bst a (l.take k)) = true
    · rw [if_pos g]
      refine ⟨better_lt h1 g, fun i hi hik => ?_, .inr ⟨k, by omega, rfl⟩⟩
      by_cases e : i = k
      · subst e; exact better_self ⟨rfl, rfl, rfl, rfl⟩
      · exact better_lt (h2 i hi (by omega)) g
    · rw [if_neg g]
      refine ⟨h1, fun i hi hik => ?_, h3⟩
      by_cases e : i = k
      · subst e; simpa using g
      · exact h2 i hi (by omega)
/-- What all come to. -/
theorem all_elect {c : Cf} (hc : check c = 0) {vs : List Vt} (hl : vs.length = (ids c.ms 1).length) (hf : ∀ i (h : i < vs.length) (h' : i < (ids c.ms 1).length), vs[i].f = (ids c.ms 1)[i]) :
    ∀ i, i < (ids c.ms 1).length → let s := (rn (ids c.ms 1) (vs.map seek0) ((ids c.ms 1).length + 1)).getD i zsk
      allQ [c] (backs s.hd s.now) = true ∧ s.now.c = (bst ((vs.map seek0).getD 0 zsk).own (vs.map seek0)).c ∧ s.rd = ((rn (ids c.ms 1) (vs.map seek0) ((ids c.ms 1).length + 1)).getD 0 zsk).rd := by
  intro i hi
  dsimp only
  have hpw := ids_pw (check_ok hc).2.1 1
  have hq : ∀ s : List Int, (∀ j (h : j < (ids c.ms 1).length), (ids c.ms 1)[j] ∈ s) → allQ [c] s = true := fun s hs => by
    simp only [allQ, List.all_cons, List.all_nil, Bool.and_true, List.length_cons, List.length_nil, decide_true, Nat.zero_add, Nat.lt_one_iff]
    have : isQ c s = true := isQ_mono (fun m hm hr hi => by
      obtain ⟨j, hj, e⟩ := List.getElem_of_mem hi
      rw [← e]; exact hs j hj) (whole_true hc)
    simp [this]
  generalize ids c.ms 1 = V at *
  obtain ⟨p, hp, htop⟩ := list_top vs (by omega)
  have hg : ∀ j (h : j < vs.length), (vs.map seek0).getD j zsk = seek0 vs[j] := fun j h => by simp [List.getD_eq_getElem?_getD, h]
  have h0 : 0 < vs.length := by omega
  obtain ⟨b1, b2, b3⟩ := bst_spec ((vs.map seek0).getD 0 zsk).own (vs.map seek0) vs.length (by simp)
  rw [List.take_of_length_le (by simp)] at b1 b2 b3
  have hB : ∃ b, ∃ h : b < vs.length, bst ((vs.map seek0).getD 0 zsk).own (vs.map seek0) = (seek0 vs[b]).own := by
    rcases b3 with b3 | ⟨b, hb, b3⟩
    · exact ⟨0, h0, by rw [b3, hg 0 h0]⟩
    · exact ⟨b, by simpa using hb, by rw [b3, List.getElem_map]⟩
  obtain ⟨b, hb, hB⟩ := hB
  generalize bst ((vs.map seek0).getD 0 zsk).own (vs.map seek0) = B at *
  have hrun : Run V (vs.map fun v => (seek0 v).own) vs[p].r B p b := by
    refine ⟨by simp [hl], hpw, fun j h h' => ?_, fun j h => ?_, ⟨by simpa using hp, by simp [seek0]⟩, fun j h => ?_, ⟨by simpa using hb, by rw [hB]; simp [sme]⟩⟩
    · have h1 : j < vs.length := by simpa using h
      simp [seek0, hf j h1 h']
    · have h1 : j < vs.length := by simpa using h
      simpa [seek0] using htop j h1
    · have h1 : j < vs.length := by simpa using h
      have := b2 j (by simpa using h1) h1
      simpa using this
  have hstart : ∀ j, j < V.length → Ok V (vs.map fun v => (seek0 v).own) vs[p].r B p b j ((vs.map seek0).getD j zsk) := by
    intro j hj
    have h1 : j < vs.length := by omega
    rw [hg j h1]
    refine ⟨fun h => by simp [seek0, hf j h1 h], fun h => by simp [seek0], rfl, rfl, rfl, htop j h1, ⟨j, by simpa using h1, by simp [seek0, sme]⟩, fun e => by subst e; rfl, fun e => by subst e; rw [hB]; exact ⟨rfl, rfl, rfl, rfl⟩⟩
  by_cases hn : 1 < V.length
  · have hall := all_hear hrun hn (by simp [hl]) hstart (V.length + 1)
    obtain ⟨a1, a2, a3, a4⟩ := hall i hi
    obtain ⟨c1, c2, -⟩ := hall 0 (by omega)
    replace a2 := a2 (by omega)
    replace a3 := a3 (by omega)
    replace a4 := a4 (by omega)
    refine ⟨hq _ fun j hj => ?_, a3.2.2.2, by rw [a2, c2 (by omega)]⟩
    obtain ⟨y, hy, e1, e2, e3⟩ := a4 j hj
    unfold backs kept
    refine List.mem_map.2 ⟨y, List.mem_filter.2 ⟨hy, ?_⟩, e1 hj⟩
    have e4 := a1.r
    obtain ⟨f1, f2, f3, f4⟩ := e3.trans a3.symm
    simp only [cause, decide_eq_true_eq]
    exact ⟨by rw [e2, e4, a2], f1, f2, f3, f4⟩
  · have hi0 : i = 0 := by omega
    have hn1 : V.length = 1 := by omega
    subst hi0
    have hrn : ∀ t, rn V (vs.map seek0) t = vs.map seek0 := by
      intro t
      induction t with
      | zero => rfl
      | succ t ih =>
        simp only [rn, ih, hn1, ps, tn, if_true]
        apply List.ext_getElem?
        intro j
        rw [List.getElem?_set]
        split
        · rename_i e; subst e
          rw [hg 0 h0]; simp [h0]
        · rfl
    rw [hrn, hg 0 h0]
    refine ⟨hq _ fun j hj => ?_, ?_, rfl⟩
    · have : j = 0 := by omega
      subst this
      have := hf 0 h0 hi
      simp [backs, kept, seek0, cause, this]
    · have e0 : b = 0 := by omega
      subst e0; rw [hB]; rfl
end Go.Proofs.Ytefhcofecdecgaa
namespace Go.Proofs.Ytefhcofecdecgaa
set_option linter.unusedSimpArgs false
set_option linter.unusedVariables false
open Go Go.Av
theorem tn_hd (V : List Int) (all : List Sk) (i m : Nat) : (tn V all i m).hd.length ≤ (all.getD i zsk).hd.length + 2 * m := by
  induction m with
  | zero => exact Nat.le_refl _
  | succ m ih =>
    simp only [tn]
    split
    · omega
    · have := hear_hd (tn V all i m) V V (all.getD m zsk).now
      omega
theorem ps_ge (V : List Int) (all : List Sk) : ∀ m i, m ≤ i → (ps V all m).getD i zsk = all.getD i zsk
  | 0, i, _ => rfl
  | m + 1, i, h => by
    simp only [ps, List.getD_eq_getElem?_getD, List.getElem?_set]
    rw [if_neg (by omega), ← List.getD_eq_getElem?_getD, ps_ge V all m i (by omega), List.getD_eq_getElem?_getD]
theorem ps_hd (V : List Int) (all : List Sk) : ∀ m i, ((ps V all m).getD i zsk).hd.length ≤ (all.getD i zsk).hd.length + 2 * V.length
  | 0, i => by simp only [ps]; omega
  | m + 1, i => by
    have ih := ps_hd V all m i
    simp only [ps, List.getD_eq_getElem?_getD, List.getElem?_set]
    by_cases e : m = i
    · subst e
      rw [if_pos rfl]
      split
      · have h1 := tn_hd V (ps V all m) m V.length
        rw [ps_ge V all m m (Nat.le_refl _)] at h1
        simpa [List.getD_eq_getElem?_getD] using h1
      · simp [zsk]
    · rw [if_neg e]
      simpa [List.getD_eq_getElem?_getD] using ih
theorem rn_hd (V : List Int) (all : List Sk) (b : Nat) (hb : ∀ i, (all.getD i zsk).hd.length ≤ b) : ∀ t i, ((rn V all t).getD i zsk).hd.length ≤ b + 2 * V.length * t
  | 0, i => by simpa [rn] using hb i
  | t + 1, i => by
    have h1 := rn_hd V all b hb t i
    have h2 := ps_hd V (rn V all t) V.length i
    simp only [rn]
    rw [Nat.mul_add, Nat.mul_one]; omega
theorem start_hd (vs : List Vt) (i : Nat) : ((vs.map seek0).getD i zsk).hd.length ≤ 1 := by
  rw [List.getD_eq_getElem?_getD, List.getElem?_map]
  cases vs[i]? <;> simp [zsk, seek0]
theorem turn_hd {V : List Int} (hV : V.length ≤ 16) (vs : List Vt) {t i k : Nat} (ht : t ≤ V.length) (hk : k ≤ V.length) : (tn V (ps V (rn V (vs.map seek0) t) i) i k).hd.length ≤ 10000 := by
  have h1 := tn_hd V (ps V (rn V (vs.map seek0) t) i) i k
  have h2 := ps_hd V (rn V (vs.map seek0) t) i i
  have h3 := rn_hd V (vs.map seek0) 1 (start_hd vs) t i
  have h4 : 2 * V.length * t ≤ 2 * 16 * 16 := Nat.mul_le_mul (by omega) (by omega)
  omega
theorem end_hd {V : List Int} (hV : V.length ≤ 16) (vs : List Vt) {t i : Nat} (ht : t ≤ V.length + 1) : ((rn V (vs.map seek0) t).getD i zsk).hd.length ≤ 10000 := by
  have h3 := rn_hd V (vs.map seek0) 1 (start_hd vs) t i
  have h4 : 2 * V.length * t ≤ 2 * 16 * 17 := Nat.mul_le_mul (by omega) (by omega)
  omega
theorem getD_at {l : List Sk} {i : Nat} (h : i < l.length) : l.getD i zsk = l[i] := by simp [List.getD_eq_getElem?_getD, h]
/-- One hearing, in the list. -/
theorem tn_step {V : List Int} {all : List Sk} {i k : Nat} (hi : i < all.length) (hk : k < all.length) :
    ∃ L, L = all.set i (tn V all i k) ∧ L.length = all.length ∧ (∀ h : i < L.length, L[i] = tn V all i k) ∧ (i ≠ k → (∀ h : k < L.length, L[k] = all[k]) ∧ L.set i (hear (tn V all i k) V V all[k].now).1 = all.set i (tn V all i (k + 1))) ∧ (i = k → L = all.set i (tn V all i (k + 1))) := by
  refine ⟨_, rfl, by simp, fun h => by simp, fun h => ⟨fun h' => by simp [List.getElem_set, h], ?_⟩, fun h => ?_⟩
  · rw [List.set_set]
    simp only [tn, if_neg h, getD_at hk]
  · simp only [tn, if_pos h]
theorem tn_zero {V : List Int} {all : List Sk} {i : Nat} (hi : i < all.length) : all.set i (tn V all i 0) = all := by
  simp only [tn, getD_at hi, List.set_getElem_self]
end Go.Proofs.Ytefhcofecdecgaa
namespace Go.Proofs.Ytefhcofecdecgaa
set_option linter.unusedSimpArgs false
set_option linter.unusedVariables false
open Go Go.Av
attribute [local simp] Try.T1 Try.T2 Try.T3 Try.T4 Try.T5 Try.T9 Try.T12 Try.T21 Try.T23 Try.T24 Try.T26 Try.T27 Try.T29 Try.T30 Try.T31 Try.T32 Try.T33 Try.T34 Try.T35 Try.T37 Try.T38 Try.T39 Try.T40 Try.T41 Try.T42 Try.T43 Try.T44 Try.T45 Try.T46 Try.T47 Try.T48 Try.T49 Try.T51 Try.T52 Try.T53 Try.T55 Try.T57 Try.T58 Try.T59 Try.T60 Try.T61 Try.T62 Try.T63 Try.T64 Try.T65 Try.T66 Try.T67 Try.T69 Try.T71 Try.T72 Try.T73 Try.T74 Try.T75 Try.T76 Try.T77 Try.T78 Try.T79 Try.T80 Try.T82 Try.T83 Try.T84 Try.T85 Try.T86 Try.T87 Try.T88 Try.T89 Try.T91 Try.T92 Try.T94 Try.T95 Try.T96 Try.T97 Try.T98 Try.T99 Try.T100 Try.T101 Try.T102 Try.T103 Try.T104 Try.T105 Try.T106 Try.T107 Try.T109 Try.T110 Try.T111 Try.T112 Try.T113 Try.T114 Try.T115 Try.T116 Try.T118 Try.T119 Try.T121 Try.T122 Try.T124 Try.T125 Try.T127 Try.T128 Try.T130 Try.T132 Try.T133 Try.T135 Try.T136 Try.T137 Try.T139 Try.T141 Try.T142 Try.T143 Try.T145 Try.T147 Try.T149 Try.T150 Try.T152 Try.T154 Try.T155 Try.T156 Try.T157 Try.T158 Try.T159 Try.T160 Try.T161 Try.T162 Try.T163 Try.T164 Try.T165 Try.T166 Try.T167 Try.T168 Try.T170 Try.T172 Try.T173 Try.T174 Try.T175 Try.T176 Try.T177 Try.T178 Try.T179 Try.T180 Try.T181 Try.T182 Try.T183 Try.T184 Try.T185 Try.T186 Try.T187 Try.T188 Try.T190 Try.T191 Try.T192 Try.T193 Try.T194 Try.T195 Try.T196 Try.T198 Try.T199 Try.T200 Try.T202 Try.T203 Try.T204 Try.T205 Try.T206 Try.T207 Try.T208 Try.T209 Try.T210 Try.T211 Try.T212 Try.T218 Try.T219 Try.T222
attribute [local irreducible] Go.Av.CallK Go.Av.CallE Go.Av.CallQ Go.Av.CallF Go.Av.Con
/-! ### The loops of the law, each by itself -/
def loopsOf : Code → List Code
  | .seq x y => loopsOf x ++ loopsOf y
  | .cond _ x y => loopsOf x ++ loopsOf y
  | .block _ x => loopsOf x
  | .scope x => loopsOf x
  | .loop x => .loop x :: loopsOf x
  | _ => []
def lp (fn : Func) (n : Nat) : Code := match fn.body with
  | some b => (loopsOf b).getD n .skip
  | none => .skip
theorem sksA_set (l : List Sk) (i : Nat) (s : Sk) : (sks l).set i [I s.id, I s.rd, I s.own.f, I s.own.r, I s.own.e, I s.own.le, I s.own.ln, I s.own.c, I s.own.m, I s.now.f, I s.now.r, I s.now.e, I s.now.le, I s.now.ln, I s.now.c, I s.now.m, .sl 7 (vts s.hd)] = sks (l.set i s) := by simp [sks, Sk.cells, List.map_set]
def F3 (V : List Int) (t : Nat) (ep cn ck : Int) (ms : List Mb) (B : Vt) (L : List Sk) (st : St) : Prop :=
  st.s 2 = .ptr 2 0 ∧ st.s 5 = .p (.sl 1 (ints V)) ∧ st.s 6 = .row 6 ∧ st.s 10 = .ptr 10 0 ∧
  st.b 2 = some (.box 26 [.p (I ep), .p (I cn), .p (I ck), .p (.sl 4 (mbs ms))]) ∧
  st.b 6 = some (.row 51 17 (sks L)) ∧
  st.b 10 = some (.box 37 [.p (I B.f), .p (I B.r), .p (I B.e), .p (I B.le), .p (I B.ln), .p (I B.c), .p (I B.m)]) ∧
  st.s 83 = .p (I ((V.length : Int) + 1)) ∧ st.s 84 = .p (I t)
def F4 (V : List Int) (t i : Nat) (ep cn ck : Int) (ms : List Mb) (B : Vt) (L : List Sk) (st : St) : Prop :=
  st.s 2 = .ptr 2 0 ∧ st.s 5 = .p (.sl 1 (ints V)) ∧ st.s 6 = .row 6 ∧ st.s 10 = .ptr 10 0 ∧
  st.b 2 = some (.box 26 [.p (I ep), .p (I cn), .p (I ck), .p (.sl 4 (mbs ms))]) ∧
  st.b 6 = some (.row 51 17 (sks L)) ∧
  st.b 10 = some (.box 37 [.p (I B.f), .p (I B.r), .p (I B.e), .p (I B.le), .p (I B.ln), .p (I B.c), .p (I B.m)]) ∧
  st.s 83 = .p (I ((V.length : Int) + 1)) ∧ st.s 84 = .p (I t) ∧ st.s 87 = .p (I V.length) ∧ st.s 88 = .p (I i)
set_option maxHeartbeats 16000000 in
theorem turnL {Q : AExit → St → Prop} {st : St} (V : List Int) (A2 : List Sk) (t i : Nat) (ep cn ck : Int) (ms : List Mb) (B : Vt) (hV16 : V.length ≤ 16) (hil : i < V.length) (hpl : A2.length = V.length)
    (hth : ∀ k, k ≤ V.length → (tn V A2 i k).hd.length ≤ 10000) (hQ : ∀ st, F4 V t i ep cn ck ms B (A2.set i (tn V A2 i V.length)) st → Q (.exit 8) st)
    (h0 : F4 V t i ep cn ck ms B A2 st ∧ st.s 13 = .p (I i) ∧ st.s 92 = .p (I V.length) ∧ st.s 93 = .p (I 0)) :
    WC Try.prog Try.T 152 (lp Try.f10 4) Q st := by
  have htz := tn_zero (V := V) (all := A2) (i := i) (by omega)
  have hst := fun k h2 => tn_step (V := V) (all := A2) (i := i) (k := k) (by omega) h2
  obtain ⟨⟨g2, g5, g6, g10, q2, q6, q10, g83, g84, g87, g88⟩, g13, g92, g93⟩ := h0
  refine wLoop (fun N st => ∃ k, k + N = V.length ∧ F4 V t i ep cn ck ms B (A2.set i (tn V A2 i k)) st ∧ st.s 13 = .p (I i) ∧ st.s 92 = .p (I V.length) ∧ st.s 93 = .p (I k)) V.length ⟨0, by simp, by simp only [F4, htz]; exact ⟨⟨g2, g5, g6, g10, q2, q6, q10, g83, g84, g87, g88⟩, g13, g92, g93⟩⟩ fun K3 O st hL3 ⟨k, hk, hF, g13, g92, g93⟩ => ?_
  clear g2 g5 g6 g10 q2 q6 q10 g83 g84 g87 g88
  by_cases hkl : k < V.length
  · obtain ⟨g2, g5, g6, g10, q2, q6, q10, g83, g84, g87, g88⟩ := hF
    have hwk := wrapS k _ hkl (by omega)
    obtain ⟨L, hLe, hLl, hLi, hLn, hLs⟩ := hst k (by omega)
    have hth := hth k (by omega)
    rw [← hLe] at q6
    generalize tn V A2 i k = s at *
    by_cases hik : i = k
    · have hik' : (i : Int) = (k : Int) := by omega
      have e := hLs hik
      repeat' first | (refine hK _ ?_; clear hK) | (refine hK _ _ ?_; clear hK) | (clear hK; refine hK _ ?_; clear hK) | (clear hK; clear hK; refine hK _ ?_; clear hK) | (clear hK; clear hK; clear hK; refine hK _ ?_; clear hK) | (clear hK; clear hK; clear hK; clear hK; refine hK _ ?_; clear hK) | (refine wSeq fun K hK => ?_) | (refine wReg ?_; simp only [List.map_cons, List.map_nil, strip]) | (refine wDrwQ rfl (by kernel_rfl) ?_; simp only [List.map_cons, List.map_nil, strip]) | (refine wDrwI ?_; simp only [List.map_cons, List.map_nil, strip]) | (refine wDrw (by kernel_rfl) ?_; simp only [List.map_cons, List.map_nil, strip]) | (refine wIs fun K hK => ?_; simp [g2, g5, g6, g10, q2, q6, q10, g83, g84, g87, g88, g13, g92, g93, hkl, hwk, hik']) | (refine wIn ?_; refine And.intro (by kernel_rfl) ?_; try simp only [thenA_n]) | (refine wOs fun K hK => ?_; simp [g2, g5, g6, g10, q2, q6, q10, g83, g84, g87, g88, g13, g92, g93, hkl, hwk, hik']) | (refine wQs fun K hK => ?_; simp [g2, g5, g6, g10, q2, q6, q10, g83, g84, g87, g88, g13, g92, g93, hkl, hwk, hik']) | (refine CallK_plain ?_; simp [g2, g5, g6, g10, q2, q6, q10, g83, g84, g87, g88, g13, g92, g93, hkl, hwk, hik']) | (refine CallQ_plain ?_; simp [g2, g5, g6, g10, q2, q6, q10, g83, g84, g87, g88, g13, g92, g93, hkl, hwk, hik']) | (refine wRet ?_; try simp) | (refine wCond ?_; simp [g2, g5, g6, g10, q2, q6, q10, g83, g84, g87, g88, g13, g92, g93, hkl, hwk, hik']) | (refine wBlock ?_) | (refine wScope ?_) | (refine wExit ?_; try simp) | (refine wSkip ?_; try simp) | (refine wOn ?_; try simp only [thenA_n]) | (refine wQn ?_; try simp only [thenA_n])
      refine hL3 _ (O - 1) (by omega) ⟨k + 1, by omega, ?_⟩
      simp [F4, g2, g5, g6, g10, q2, q6, q10, g83, g84, g87, g88, g13, g92, g93, hwk, e]
    · have hik' : ¬ (i : Int) = (k : Int) := by omega
      obtain ⟨hLk, e⟩ := hLn hik
      have hiL : i < L.length := by omega
      have hkL : k < L.length := by omega
      have hgi := hLi hiL
      have hgk := hLk hkL
      have hkA : k < A2.length := by omega
      have c1 := hear_con s V V (A2[k]'hkA).now (by omega)
      generalize A2[k]'hkA = tk at hgk c1 e
      have hset := sksA_set L i (hear s V V tk.now).1
      rw [e] at hset
      generalize (hear s V V tk.now).1 = s' at c1 hset
      generalize (hear s V V tk.now).2 = mm at c1
      simp only [Sk.cells, Vt.cells] at c1
      clear hth hLi hLn hLs hst htz hQ
      repeat' first | (refine hK _ ?_; clear hK) | (refine hK _ _ ?_; clear hK) | (clear hK; refine hK _ ?_; clear hK) | (clear hK; clear hK; refine hK _ ?_; clear hK) | (clear hK; clear hK; clear hK; refine hK _ ?_; clear hK) | (clear hK; clear hK; clear hK; clear hK; refine hK _ ?_; clear hK) | (refine wSeq fun K hK => ?_) | (refine wReg ?_; simp only [List.map_cons, List.map_nil, strip]) | (refine wDrwQ rfl (by kernel_rfl) ?_; simp only [List.map_cons, List.map_nil, strip]) | (refine wDrwI ?_; simp only [List.map_cons, List.map_nil, strip]) | (refine wDrw (by kernel_rfl) ?_; simp only [List.map_cons, List.map_nil, strip]) | (refine wIs fun K hK => ?_; simp [g2, g5, g6, g10, q2, q6, q10, g83, g84, g87, g88, g13, g92, g93, hkl, hwk, hik', hiL, hkL, hgi, hgk, hset]) | (refine wIn ?_; refine And.intro (by kernel_rfl) ?_; try simp only [thenA_n]) | (refine wOs fun K hK => ?_; simp [g2, g5, g6, g10, q2, q6, q10, g83, g84, g87, g88, g13, g92, g93, hkl, hwk, hik', hiL, hkL, hgi, hgk, hset]) | (refine wQs fun K hK => ?_; simp [g2, g5, g6, g10, q2, q6, q10, g83, g84, g87, g88, g13, g92, g93, hkl, hwk, hik', hiL, hkL, hgi, hgk, hset]) | (refine CallK_plain ?_; simp [g2, g5, g6, g10, q2, q6, q10, g83, g84, g87, g88, g13, g92, g93, hkl, hwk, hik', hiL, hkL, hgi, hgk, hset]) | (refine CallQ_plain ?_; simp [g2, g5, g6, g10, q2, q6, q10, g83, g84, g87, g88, g13, g92, g93, hkl, hwk, hik', hiL, hkL, hgi, hgk, hset]) | (refine wRet ?_; try simp) | (refine wCond ?_; simp [g2, g5, g6, g10, q2, q6, q10, g83, g84, g87, g88, g13, g92, g93, hkl, hwk, hik', hiL, hkL, hgi, hgk, hset]) | (refine wBlock ?_) | (refine wScope ?_) | (refine wExit ?_; try simp) | (refine wSkip ?_; try simp) | (refine wOn ?_; try simp only [thenA_n]) | (refine wQn ?_; try simp only [thenA_n]) | (refine CallE.pure (c1) rfl ?_) | (refine CallE.lent (c1) rfl ?_) | (refine CallF.pure (c1) rfl ?_) | (refine CallF.lent (c1) rfl ?_) | (refine CallE.own (c1) ?_)
      refine hL3 _ (O - 1) (by omega) ⟨k + 1, by omega, ?_⟩
      simp [F4, g2, g5, g6, g10, q2, q6, q10, g83, g84, g87, g88, g13, g92, g93, hwk, hset]
  · obtain rfl : k = V.length := by omega
    have hF' := hQ _ hF
    obtain ⟨g2, g5, g6, g10, q2, q6, q10, g83, g84, g87, g88⟩ := hF
    repeat' first | (refine hK _ ?_; clear hK) | (refine hK _ _ ?_; clear hK) | (clear hK; refine hK _ ?_; clear hK) | (clear hK; clear hK; refine hK _ ?_; clear hK) | (clear hK; clear hK; clear hK; refine hK _ ?_; clear hK) | (clear hK; clear hK; clear hK; clear hK; refine hK _ ?_; clear hK) | (refine wSeq fun K hK => ?_) | (refine wReg ?_; simp only [List.map_cons, List.map_nil, strip]) | (refine wDrwQ rfl (by kernel_rfl) ?_; simp only [List.map_cons, List.map_nil, strip]) | (refine wDrwI ?_; simp only [List.map_cons, List.map_nil, strip]) | (refine wDrw (by kernel_rfl) ?_; simp only [List.map_cons, List.map_nil, strip]) | (refine wIs fun K hK => ?_; simp [g92, g93, hkl]) | (refine wIn ?_; refine And.intro (by kernel_rfl) ?_; try simp only [thenA_n]) | (refine wOs fun K hK => ?_; simp [g92, g93, hkl]) | (refine wQs fun K hK => ?_; simp [g92, g93, hkl]) | (refine CallK_plain ?_; simp [g92, g93, hkl]) | (refine CallQ_plain ?_; simp [g92, g93, hkl]) | (refine wRet ?_; try simp) | (refine wCond ?_; simp [g92, g93, hkl]) | (refine wBlock ?_) | (refine wScope ?_) | (refine wExit ?_; try simp) | (refine wSkip ?_; try simp) | (refine wOn ?_; try simp only [thenA_n]) | (refine wQn ?_; try simp only [thenA_n])
    refine hQ _ ?_
    simp [F4, g2, g5, g6, g10, q2, q6, q10, g83, g84, g87, g88]
set_option maxHeartbeats 16000000 in
theorem passL {Q : AExit → St → Prop} {st : St} (V : List Int) (A1 : List Sk) (t : Nat) (ep cn ck : Int) (ms : List Mb) (B : Vt) (hV16 : V.length ≤ 16) (hrl : A1.length = V.length)
    (hth : ∀ i k, k ≤ V.length → (tn V (ps V A1 i) i k).hd.length ≤ 10000) (hQ : ∀ st, F3 V t ep cn ck ms B (ps V A1 V.length) st → Q (.exit 6) st)
    (h0 : F3 V t ep cn ck ms B A1 st ∧ st.s 87 = .p (I V.length) ∧ st.s 88 = .p (I 0)) :
    WC Try.prog Try.T 152 (lp Try.f10 3) Q st := by
  obtain ⟨⟨g2, g5, g6, g10, q2, q6, q10, g83, g84⟩, g87, g88⟩ := h0
  refine wLoop (fun N st => ∃ i, i + N = V.length ∧ F4 V t i ep cn ck ms B (ps V A1 i) st) V.length ⟨0, by simp, ⟨g2, g5, g6, g10, q2, q6, q10, g83, g84, g87, g88⟩⟩ fun K2 M st hL2 ⟨i, hi, hF⟩ => ?_
  clear g2 g5 g6 g10 q2 q6 q10 g83 g84 g87 g88
  have hpl := ps_len V A1 i
  rw [hrl] at hpl
  obtain ⟨g2, g5, g6, g10, q2, q6, q10, g83, g84, g87, g88⟩ := hF
  by_cases hil : i < V.length
  · have hwi := wrapS i _ hil (by omega)
    have hps : ps V A1 (i + 1) = (ps V A1 i).set i (tn V (ps V A1 i) i V.length) := rfl
    have hth := fun k h2 => hth i k h2
    generalize ps V A1 i = A2 at q6 hpl hps hth
    repeat' first | (refine hK _ ?_; clear hK) | (refine hK _ _ ?_; clear hK) | (clear hK; refine hK _ ?_; clear hK) | (clear hK; clear hK; refine hK _ ?_; clear hK) | (clear hK; clear hK; clear hK; refine hK _ ?_; clear hK) | (clear hK; clear hK; clear hK; clear hK; refine hK _ ?_; clear hK) | (refine wSeq fun K hK => ?_) | (refine wReg ?_; simp only [List.map_cons, List.map_nil, strip]) | (refine wDrwQ rfl (by kernel_rfl) ?_; simp only [List.map_cons, List.map_nil, strip]) | (refine wDrwI ?_; simp only [List.map_cons, List.map_nil, strip]) | (refine wDrw (by kernel_rfl) ?_; simp only [List.map_cons, List.map_nil, strip]) | (refine wIs fun K hK => ?_; simp [g2, g5, g6, g10, q2, q6, q10, g83, g84, g87, g88, hil, hwi, hpl]) | (refine wIn ?_; refine And.intro (by kernel_rfl) ?_; try simp only [thenA_n]) | (refine wOs fun K hK => ?_; simp [g2, g5, g6, g10, q2, q6, q10, g83, g84, g87, g88, hil, hwi, hpl]) | (refine wQs fun K hK => ?_; simp [g2, g5, g6, g10, q2, q6, q10, g83, g84, g87, g88, hil, hwi, hpl]) | (refine CallK_plain ?_; simp [g2, g5, g6, g10, q2, q6, q10, g83, g84, g87, g88, hil, hwi, hpl]) | (refine CallQ_plain ?_; simp [g2, g5, g6, g10, q2, q6, q10, g83, g84, g87, g88, hil, hwi, hpl]) | (refine wRet ?_; try simp) | (refine wCond ?_; simp [g2, g5, g6, g10, q2, q6, q10, g83, g84, g87, g88, hil, hwi, hpl]) | (refine wBlock ?_) | (refine wScope ?_) | (refine wExit ?_; try simp) | (refine wSkip ?_; try simp) | (refine wOn ?_; try simp only [thenA_n]) | (refine wQn ?_; try simp only [thenA_n])
    refine turnL V A2 t i ep cn ck ms B hV16 hil hpl hth (fun st' hF => ?_) ⟨⟨by simp [g2], by simp [g5], by simp [g6], by simp [g10], by simp [q2], by simp [q6], by simp [q10], by simp [g83], by simp [g84], by simp [g87], by simp [g88]⟩, by simp [g88], by simp [g6, q6, hpl], by simp⟩
    rw [← hps] at hF
    obtain ⟨g2, g5, g6, g10, q2, q6, q10, g83, g84, g87, g88⟩ := hF
    simp only [blockA_e, if_true, thenA_n]
    repeat' first | (refine hK _ ?_; clear hK) | (refine hK _ _ ?_; clear hK) | (clear hK; refine hK _ ?_; clear hK) | (clear hK; clear hK; refine hK _ ?_; clear hK) | (clear hK; clear hK; clear hK; refine hK _ ?_; clear hK) | (clear hK; clear hK; clear hK; clear hK; refine hK _ ?_; clear hK) | (refine wSeq fun K hK => ?_) | (refine wReg ?_; simp only [List.map_cons, List.map_nil, strip]) | (refine wDrwQ rfl (by kernel_rfl) ?_; simp only [List.map_cons, List.map_nil, strip]) | (refine wDrwI ?_; simp only [List.map_cons, List.map_nil, strip]) | (refine wDrw (by kernel_rfl) ?_; simp only [List.map_cons, List.map_nil, strip]) | (refine wIs fun K hK => ?_; simp [g2, g5, g6, g10, q2, q6, q10, g83, g84, g87, g88, hwi]) | (refine wIn ?_; refine And.intro (by kernel_rfl) ?_; try simp only [thenA_n]) | (refine wOs fun K hK => ?_; simp [g2, g5, g6, g10, q2, q6, q10, g83, g84, g87, g88, hwi]) | (refine wQs fun K hK => ?_; simp [g2, g5, g6, g10, q2, q6, q10, g83, g84, g87, g88, hwi]) | (refine CallK_plain ?_; simp [g2, g5, g6, g10, q2, q6, q10, g83, g84, g87, g88, hwi]) | (refine CallQ_plain ?_; simp [g2, g5, g6, g10, q2, q6, q10, g83, g84, g87, g88, hwi]) | (refine wRet ?_; try simp) | (refine wCond ?_; simp [g2, g5, g6, g10, q2, q6, q10, g83, g84, g87, g88, hwi]) | (refine wBlock ?_) | (refine wScope ?_) | (refine wExit ?_; try simp) | (refine wSkip ?_; try simp) | (refine wOn ?_; try simp only [thenA_n]) | (refine wQn ?_; try simp only [thenA_n])
    refine hL2 _ (M - 1) (by omega) ⟨i + 1, by omega, ?_⟩
    simp [F4, g2, g5, g6, g10, q2, q6, q10, g83, g84, g87, g88, hwi]
  · obtain rfl : i = V.length := by omega
    repeat' first | (refine hK _ ?_; clear hK) | (refine hK _ _ ?_; clear hK) | (clear hK; refine hK _ ?_; clear hK) | (clear hK; clear hK; refine hK _ ?_; clear hK) | (clear hK; clear hK; clear hK; refine hK _ ?_; clear hK) | (clear hK; clear hK; clear hK; clear hK; refine hK _ ?_; clear hK) | (refine wSeq fun K hK => ?_) | (refine wReg ?_; simp only [List.map_cons, List.map_nil, strip]) | (refine wDrwQ rfl (by kernel_rfl) ?_; simp only [List.map_cons, List.map_nil, strip]) | (refine wDrwI ?_; simp only [List.map_cons, List.map_nil, strip]) | (refine wDrw (by kernel_rfl) ?_; simp only [List.map_cons, List.map_nil, strip]) | (refine wIs fun K hK => ?_; simp [g87, g88, hil]) | (refine wIn ?_; refine And.intro (by kernel_rfl) ?_; try simp only [thenA_n]) | (refine wOs fun K hK => ?_; simp [g87, g88, hil]) | (refine wQs fun K hK => ?_; simp [g87, g88, hil]) | (refine CallK_plain ?_; simp [g87, g88, hil]) | (refine CallQ_plain ?_; simp [g87, g88, hil]) | (refine wRet ?_; try simp) | (refine wCond ?_; simp [g87, g88, hil]) | (refine wBlock ?_) | (refine wScope ?_) | (refine wExit ?_; try simp) | (refine wSkip ?_; try simp) | (refine wOn ?_; try simp only [thenA_n]) | (refine wQn ?_; try simp only [thenA_n])
    refine hQ _ ?_
    simp [F3, g2, g5, g6, g10, q2, q6, q10, g83, g84]
end Go.Proofs.Ytefhcofecdecgaa
