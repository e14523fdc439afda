/- Texts that the proof needs: AvDeep. -/
import Derived.Test.YtechjohebkcjiaaP20LinkOrder
import Derived.SizedLaws
import Derived.Deep.CondSized
/- Rows whose input is bounded at every level: what is known of the lengths of slices (in bytes) and strings. -/
namespace Go.Av
open Go Go.WideShapes Go.ChangeShapes Go.RowKit
/-- Each slice within holds at most N bytes (K c: how many an element of c cells has at least), each string, too. -/
inductive SzI (K : Nat → Nat) (N : Nat) : PV → Prop
  | v (x : Value) (h : ∀ s, x = .string s → s.size ≤ N) : SzI K N (.v x)
  | sl (c : Nat) (l : List (List PV)) (hl : l.length * K c ≤ N) (h : ∀ (i : Nat) (e : List PV) (j : Nat) (p : PV), l[i]? = some e → e[j]? = some p → SzI K N p) : SzI K N (.sl c l)
  | agg (l : List PV) (h : ∀ (j : Nat) (p : PV), l[j]? = some p → SzI K N p) : SzI K N (.agg l)
theorem SzI.len {K : Nat → Nat} {N c : Nat} {l : List (List PV)} (h : SzI K N (.sl c l)) : l.length * K c ≤ N := by cases h; assumption
theorem SzI.str {K : Nat → Nat} {N : Nat} {s : ByteArray} (h : SzI K N (.v (.string s))) : s.size ≤ N := by cases h with | v _ h => exact h s rfl
theorem SzI.at {K : Nat → Nat} {N c : Nat} {l : List (List PV)} (h : SzI K N (.sl c l)) {e : List PV} (he : e ∈ l) {p : PV} (hp : p ∈ e) : SzI K N p := by
  obtain ⟨i, hi⟩ := List.mem_iff_getElem?.1 he
  obtain ⟨j, hj⟩ := List.mem_iff_getElem?.1 hp
  cases h with | sl _ _ _ h => exact h i e j p hi hj
theorem SzI.part {K : Nat → Nat} {N : Nat} {l : List PV} (h : SzI K N (.agg l)) {p : PV} (hp : p ∈ l) : SzI K N p := by
  obtain ⟨j, hj⟩ := List.mem_iff_getElem?.1 hp
  cases h with | agg _ h => exact h j p hj
theorem SzI.plain {K : Nat → Nat} {N : Nat} (x : Value) (h : ∀ s, x ≠ .string s) : SzI K N (.v x) := .v x fun s e => absurd e (h s)
/-- A bound on what is read, handed down to the parts. -/
structure BddD {H : Type} (P : Program) (T : TypeId → Option Ty) (Bd : TypeId → DataW H → Prop) (K : Nat → Nat) (N : Nat) : Prop where
  st : ∀ (t : TypeId) (fs : Array Field) (parts : List (DataW H)) (i : Nat) (f : Field) (d : DataW H), P.underlying t = some (.struct fs) → Bd t (.agg parts) → fs[i]? = some f → parts[i]? = some d → Bd f.type d
  ar : ∀ (t : TypeId) (k : Nat) (e : TypeId) (parts : List (DataW H)) (i : Nat) (d : DataW H), P.underlying t = some (.array k e) → Bd t (.agg parts) → parts[i]? = some d → Bd e d
  sl : ∀ (t e : TypeId) (elems spare : List (DataW H)), P.underlying t = some (.slice e) → (∃ yt, T t = some yt ∧ yt.kd = .slice e) → ∀ y, T e = some y → 0 < y.size → Bd t (.slice elems spare) → elems.length * K y.size ≤ N
  sle : ∀ (t e : TypeId) (elems spare : List (DataW H)) (i : Nat) (d : DataW H), P.underlying t = some (.slice e) → Bd t (.slice elems spare) → elems[i]? = some d → Bd e d
  str : ∀ (t : TypeId) (b : List UInt8), Bd t (.lit (.string b)) → b.length ≤ N
def OpenD (w : World) (K : Nat → Nat) (N : Nat) (E : List Lf) (cs : List Value) : Prop :=
  ∃ ps : List PV, ShL E ps ∧ ∀ (j : Nat) (p : PV), ps[j]? = some p → (p.one = true ∧ SzI K N p) ∧ ∃ u, cs[j]? = some u ∧ RP w (fun _ => False) p u
theorem OpenD.one {w : World} {K : Nat → Nat} {N : Nat} {f : Lf} {p : PV} {u : Value} (h : Sh f p) (ho : p.one = true) (hz : SzI K N p) (hr : RP w (fun _ => False) p u) : OpenD w K N [f] [u] :=
  ⟨[p], ⟨rfl, fun j f' p' h1 h2 => by
    cases j with
    | zero => simp at h1 h2; subst h1 h2; exact h
    | succ j => simp at h1⟩, fun j p' h1 => by
    cases j with
    | zero => simp at h1; subst h1; exact ⟨⟨ho, hz⟩, u, rfl, hr⟩
    | succ j => simp at h1⟩
section
variable {H : Type} {enc : TypeId × Value → H} {P : Program} {T : TypeId → Option Ty} {w : World} {K : Nat → Nat} {N : Nat} {Bd : TypeId → DataW H → Prop}
end
section
variable {H : Type} {enc : TypeId × Value → H} {P : Program} {T : TypeId → Option Ty} {w : World} {K : Nat → Nat} {N : Nat} {Bd : TypeId → DataW H → Prop}
end
end Go.Av
