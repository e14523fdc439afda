/- The election of one server: what hearing keeps, and what it never does. -/
import Derived.Test.YtefhcofecdecgaaEB0
namespace Go.Proofs.Ytefhcofecdecgaa
set_option linter.unusedSimpArgs false
set_option linter.unusedVariables false
open Go Go.Av

theorem better_iff (a b : Vt) : better a b = true ↔ b.e < a.e ∨ (a.e = b.e ∧ (b.le < a.le ∨ (b.le = a.le ∧ (b.ln < a.ln ∨ (b.ln = a.ln ∧ b.c < a.c))))) := by
  unfold better
  by_cases h1 : a.e = b.e
  · by_cases h2 : a.le = b.le ∧ a.ln = b.ln
    · simp [h1, h2]
    · simp [h1, h2, zcmp_pos]; omega
  · simp [h1]
theorem better_flip {a b : Vt} (h : better a b = true) : better b a = false := by
  cases hb : better b a with
  | false => rfl
  | true => rw [better_iff] at h hb; omega
theorem better_self {a b : Vt} (h : a.e = b.e ∧ a.le = b.le ∧ a.ln = b.ln ∧ a.c = b.c) : better a b = false := by
  cases hb : better a b with
  | false => rfl
  | true => rw [better_iff] at hb; omega
def seek0 (v : Vt) : Sk := ⟨v.f, v.r, ⟨v.f, v.r, v.e, v.le, v.ln, v.f, 1⟩, ⟨v.f, v.r, v.e, v.le, v.ln, v.f, 1⟩, [⟨v.f, v.r, v.e, v.le, v.ln, v.f, 1⟩]⟩
def play (vs : List Int) (s : Sk) (l : List Vt) : Sk := l.foldl (fun s x => (hear s vs vs x).1) s
theorem play_snoc (vs : List Int) (s : Sk) (l : List Vt) (k : Nat) (h : k < l.length) : play vs s (l.take (k + 1)) = (hear (play vs s (l.take k)) vs vs l[k]).1 := by
  rw [List.take_succ_eq_append_getElem h, play, List.foldl_append]; rfl
theorem laid_hd (s : Sk) (v : Vt) (b : Bool) : (laid s v b).hd.length ≤ s.hd.length + 2 := by
  have h1 := lay_le s.hd s.now
  have h2 := lay_le (lay s.hd s.now) v
  unfold laid; cases b <;> simp <;> omega
theorem hear_hd (s : Sk) (vs st : List Int) (v : Vt) : (hear s vs st v).1.hd.length ≤ s.hd.length + 2 := by
  have h1 := fun b => laid_hd s v b
  have h2 := fun b => laid_hd (bettered s v) v b
  have h3 := fun b => laid_hd (joined s v.r) v b
  have h4 := fun b => laid_hd (bettered (joined s v.r) v) v b
  have e2 : (bettered s v).hd = s.hd := rfl
  have e3 : (joined s v.r).hd = [] := rfl
  have e4 : (bettered (joined s v.r) v).hd = [] := rfl
  rw [e2] at h2; rw [e3] at h3; rw [e4] at h4
  simp only [List.length_nil] at h3 h4
  unfold hear
  repeat' split
  all_goals first | (simp; done) | exact h1 _ | exact h2 _ | exact Nat.le_trans (h3 _) (by omega) | exact Nat.le_trans (h4 _) (by omega) | skip
  all_goals (dsimp only; split)
  all_goals first | exact h1 _ | exact h2 _ | exact Nat.le_trans (h3 _) (by omega) | exact Nat.le_trans (h4 _) (by omega)
theorem play_hd (vs : List Int) (v : Vt) (l : List Vt) (k : Nat) : (play vs (seek0 v) (l.take k)).hd.length ≤ 1 + 2 * k := by
  induction k with
  | zero => simp [play, seek0]
  | succ k ih =>
    by_cases h : k < l.length
    · rw [play_snoc _ _ _ _ h]
      have := hear_hd (play vs (seek0 v) (l.take k)) vs vs l[k]
      omega
    · rw [List.take_of_length_le (by omega)] at ih ⊢; omega
def Inv (v : Vt) (l : List Vt) (s : Sk) : Prop :=
  s.id = v.f ∧ s.own = ⟨v.f, s.rd, v.e, v.le, v.ln, v.f, 1⟩ ∧ s.now.f = v.f ∧ s.now.r = s.rd ∧ s.now.m = 1 ∧
  ((s.now.e = v.e ∧ (s.now.le = v.le ∧ s.now.ln = v.ln) ∧ s.now.c = v.f) ∨ ∃ y ∈ l, y.r = s.rd ∧ y.e = s.now.e ∧ (y.le = s.now.le ∧ y.ln = s.now.ln) ∧ y.c = s.now.c)
theorem inv_more {v : Vt} {l : List Vt} {s : Sk} {x : Vt} (h : Inv v l s) : Inv v (l ++ [x]) s := by
  obtain ⟨a, b, c, d, e, f⟩ := h
  refine ⟨a, b, c, d, e, f.imp_right fun ⟨y, hy, h⟩ => ⟨y, by simp [hy], h⟩⟩
theorem inv_joined {v : Vt} {l : List Vt} {s : Sk} (r : Int) (h : Inv v l s) : Inv v l (joined s r) := by
  obtain ⟨a, b, c, d, e, f⟩ := h
  refine ⟨a, ?_, ?_, rfl, ?_, .inl ⟨?_, ⟨?_, ?_⟩, ?_⟩⟩ <;> simp [joined, b]
theorem inv_bettered {v : Vt} {l : List Vt} {s : Sk} {x : Vt} (hr : x.r = s.rd) (h : Inv v l s) : Inv v (l ++ [x]) (bettered s x) := by
  obtain ⟨a, b, c, d, e, f⟩ := h
  exact ⟨a, b, a, rfl, rfl, .inr ⟨x, by simp, hr, rfl, ⟨rfl, rfl⟩, rfl⟩⟩
theorem inv_laid {v : Vt} {l : List Vt} {s : Sk} (x : Vt) (b : Bool) (h : Inv v l s) : Inv v l (laid s x b) := h
theorem inv_hear {v : Vt} {l : List Vt} {s : Sk} (vs st : List Int) (x : Vt) (h : Inv v l s) :
    Inv v (l ++ [x]) (hear s vs st x).1 ∧ s.rd ≤ (hear s vs st x).1.rd ∧ ((hear s vs st x).1.rd = s.rd → better s.now (hear s vs st x).1.now = false) := by
  have hself : better s.now s.now = false := better_self ⟨rfl, rfl, rfl, rfl⟩
  unfold hear
  split
  · exact ⟨inv_more h, Int.le_refl _, fun _ => hself⟩
  split
  · exact ⟨inv_more h, Int.le_refl _, fun _ => hself⟩
  split
  · exact ⟨inv_more h, Int.le_refl _, fun _ => hself⟩
  split
  · exact ⟨inv_more h, Int.le_refl _, fun _ => hself⟩
  rename_i hge
  by_cases hlt : s.rd < x.r
  · simp only [if_pos hlt]
    have hj := inv_joined x.r h
    split
    · split
      · exact ⟨inv_laid _ _ (inv_bettered rfl hj), Int.le_of_lt hlt, fun e => absurd e (Int.ne_of_gt hlt)⟩
      · exact ⟨inv_laid _ _ (inv_more hj), Int.le_of_lt hlt, fun e => absurd e (Int.ne_of_gt hlt)⟩
    · exact ⟨inv_laid _ _ (inv_more hj), Int.le_of_lt hlt, fun e => absurd e (Int.ne_of_gt hlt)⟩
  · simp only [if_neg hlt]
    have hr : x.r = s.rd := by omega
    split
    · split
      · rename_i hb
        exact ⟨inv_laid _ _ (inv_bettered hr h), Int.le_refl _, fun _ => better_flip hb⟩
      · exact ⟨inv_laid _ _ (inv_more h), Int.le_refl _, fun _ => hself⟩
    · exact ⟨inv_laid _ _ (inv_more h), Int.le_refl _, fun _ => hself⟩
theorem inv_play (vs : List Int) (v : Vt) (l : List Vt) (k : Nat) : k ≤ l.length → Inv v (l.take k) (play vs (seek0 v) (l.take k)) := by
  induction k with
  | zero => intro _; exact ⟨rfl, rfl, rfl, rfl, rfl, .inl ⟨rfl, ⟨rfl, rfl⟩, rfl⟩⟩
  | succ k ih =>
    intro h
    have := (inv_hear vs vs l[k] (ih (by omega))).1
    rw [← play_snoc _ _ _ _ (by omega), ← List.take_succ_eq_append_getElem (by omega)] at this
    exact this
end Go.Proofs.Ytefhcofecdecgaa
