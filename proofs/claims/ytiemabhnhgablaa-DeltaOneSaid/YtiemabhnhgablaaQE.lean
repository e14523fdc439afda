/- By groups. -/
import Derived.Test.YtiemabhnhgablaaQD
namespace Go.Proofs.Ytiemabhnhgablaa
set_option linter.unusedSimpArgs false
set_option linter.unusedVariables false
open Go Go.Av
attribute [local simp] Try.T1 Try.T2 Try.T3 Try.T4 Try.T5 Try.T9 Try.T12 Try.T15 Try.T16 Try.T17 Try.T21 Try.T23 Try.T24 Try.T26 Try.T27 Try.T28 Try.T30 Try.T31 Try.T32 Try.T33 Try.T35 Try.T36 Try.T37 Try.T38 Try.T39 Try.T41 Try.T43 Try.T44 Try.T45 Try.T46 Try.T47 Try.T48 Try.T49 Try.T50 Try.T51 Try.T52 Try.T53 Try.T54 Try.T55 Try.T56 Try.T57 Try.T58 Try.T59 Try.T60 Try.T61 Try.T62 Try.T65 Try.T68 Try.T69 Try.T72 Try.T73
attribute [local irreducible] Go.Av.CallK Go.Av.CallE Go.Av.CallQ Go.Av.CallF Go.Av.CallR Go.Av.CallH Go.Av.Con

def bx (z : List Int) : List V := z.map fun n => .p (I n)
@[simp] theorem bx_len (z : List Int) : (bx z).length = z.length := by simp [bx]
@[simp] theorem bx_get (z : List Int) (k : Nat) (h : k < (bx z).length) : (bx z)[k] = .p (I (z[k]'(by simpa using h))) := by simp [bx]
@[simp] theorem bx_scr (z : List Int) (n : Nat) : (bx z).map (scr0 n) = bx z := by
  unfold bx; rw [List.map_map]; rfl
@[simp] theorem bx_sub (z : List Int) (n : Nat) (q : PV) : (bx z).map (sub0 n q) = bx z := by
  unfold bx; rw [List.map_map]; rfl
def ixs (z : List Int) : List PV := z.map fun n => I n
@[simp] theorem ixs_len (z : List Int) : (ixs z).length = z.length := by simp [ixs]
@[simp] theorem ixs_get (z : List Int) (k : Nat) (h : k < (ixs z).length) : (ixs z)[k] = I (z[k]'(by simpa using h)) := by simp [ixs]
@[simp] theorem toPs_bx : ∀ z : List Int, toPs (bx z) = some (ixs z)
  | [] => rfl
  | a :: z => by
    show (match toP (.p (I a)), toPs (bx z) with | some p, some r => some (p :: r) | _, _ => none) = _
    rw [toPs_bx z]; rfl
theorem bx_take (z : List Int) (n : Nat) (h : z.length ≤ n) : (bx z).take n = bx z := List.take_of_length_le (by simpa using h)
theorem bx_put (z : List Int) (k : Nat) (x : Int) (h : k < z.length) : (bx z).take k ++ .p (I x) :: (bx z).drop (k + 1) = bx (z.set k x) := by
  unfold bx
  rw [← List.map_take, ← List.map_drop, ← List.map_cons (f := fun n => V.p (I n)), ← List.map_append, List.set_eq_take_append_cons_drop, if_pos h]
def inG (p : Mb → Bool) (g : Nat) (m : Mb) : Bool := decide (m.g = g) && p m
def gs (p : Mb → Bool) (l : List Mb) : List Int := (List.range 8).map fun g => tot Mb.w (inG p g) l
@[simp] theorem gs_len (p : Mb → Bool) (l : List Mb) : (gs p l).length = 8 := by simp [gs]
@[simp] theorem gs_get (p : Mb → Bool) (l : List Mb) (g : Nat) (h : g < (gs p l).length) : (gs p l)[g] = tot Mb.w (inG p g) l := by simp [gs]
theorem tot_append (f : Mb → Int) (p : Mb → Bool) : ∀ a b : List Mb, tot f p (a ++ b) = tot f p a + tot f p b
  | [], b => by simp [tot]
  | m :: a, b => by simp only [List.cons_append, tot, tot_append f p a b, Int.add_assoc]
theorem tot_snoc (f : Mb → Int) (p : Mb → Bool) (l : List Mb) (k : Nat) (h : k < l.length) : tot f p (l.take (k + 1)) = tot f p (l.take k) + (if l[k].r = 1 ∧ p l[k] = true then f l[k] else 0) := by
  rw [take_snoc _ k h, tot_append]; simp [tot]
theorem tot_bound (f : Mb → Int) (p : Mb → Bool) : ∀ l : List Mb, (∀ m ∈ l, 0 ≤ f m ∧ f m ≤ 100) → 0 ≤ tot f p l ∧ tot f p l ≤ 100 * l.length
  | [], _ => by simp [tot]
  | m :: l, h => by
    have h1 := tot_bound f p l fun x hx => h x (List.mem_cons_of_mem _ hx)
    have h2 := h m (by simp)
    simp only [tot, List.length_cons]
    split <;> omega
theorem okL_w {l : List Mb} (h : okL l) : ∀ m ∈ l, 0 ≤ m.w ∧ m.w ≤ 100 := fun m hm => (h m hm).2.2.1
theorem okL_take {l : List Mb} (h : okL l) (k : Nat) : okL (l.take k) := fun m hm => h m (List.mem_of_mem_take hm)
theorem gs_snoc (p : Mb → Bool) (l : List Mb) (k : Nat) (h : k < l.length) (ho : okM l[k]) (hr : l[k].r = 1) (hp : p l[k] = true) :
    (gs p (l.take k)).set l[k].g.toNat (tot Mb.w (inG p l[k].g.toNat) (l.take k) + l[k].w) = gs p (l.take (k + 1)) := by
  have hg := ho.2.2.2
  apply List.ext_getElem (by simp)
  intro g h1 h2
  rw [List.getElem_set]
  simp only [gs_get, tot_snoc _ _ l k h, hr, inG, hp, Bool.and_true, decide_eq_true_eq, true_and]
  by_cases e : l[k].g.toNat = g
  · rw [if_pos e, if_pos (by omega)]; subst e; rfl
  · rw [if_neg e, if_neg (by omega), Int.add_zero]
theorem gs_skip (p : Mb → Bool) (l : List Mb) (k : Nat) (h : k < l.length) (hp : ¬ (l[k].r = 1 ∧ p l[k] = true)) : gs p (l.take (k + 1)) = gs p (l.take k) := by
  apply List.ext_getElem (by simp)
  intro g h1 h2
  simp only [gs_get, tot_snoc _ _ l k h, inG, Bool.and_eq_true, decide_eq_true_eq]
  rw [if_neg (fun x => hp ⟨x.1, x.2.2⟩), Int.add_zero]
def num (q : Nat → Bool) : Nat → Int
  | 0 => 0
  | k + 1 => num q k + (if q k = true then 1 else 0)
theorem num_bound (q : Nat → Bool) : ∀ k, 0 ≤ num q k ∧ num q k ≤ k
  | 0 => by simp [num]
  | k + 1 => by have := num_bound q k; simp only [num]; split <;> omega
def hasG (l : List Mb) (g : Nat) : Bool := decide (0 < tot Mb.w (inG yes g) l)
def wonG (set : List Int) (l : List Mb) (g : Nat) : Bool := decide (tot Mb.w (inG yes g) l < 2 * tot Mb.w (inG (inS set) g) l)

end Go.Proofs.Ytiemabhnhgablaa
