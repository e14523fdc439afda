/- Texts that the proof needs: AvNil. -/
import Derived.Test.YtjekjpgccnhobaaDoorP14ConfigBack
/- A nil slice that is known to be nil: it may be read as an empty one. -/
namespace Go.Av
open Go
inductive WkC : PV → PV → Prop
  | same (p : PV) : WkC p p
  | nil (c : Nat) : WkC (.v (.slice none 0 0)) (.sl c [])
def wkL : List PV → List PV → Prop
  | [],[]=>True
  | p :: l,q :: r=>WkC p q ∧ wkL l r
  | _,_=>False
inductive Wk : V → V → Prop
  | same (v : V) : Wk v v
  | nil (c : Nat) : Wk (.p (.v (.slice none 0 0))) (.p (.sl c []))
  | agg (l r : List PV) (h : wkL l r) : Wk (.p (.agg l)) (.p (.agg r))
theorem wkL_get : ∀ {l r : List PV}, wkL l r → l.length = r.length ∧ ∀ (j : Nat) (q : PV), r[j]? = some q → ∃ p, l[j]? = some p ∧ WkC p q
  | [],[],_=>by simp
  | [],_ :: _,h=>h.elim
  | _ :: _,[],h=>h.elim
  | p :: l, q :: r, h => by
    obtain ⟨h1,h2⟩:=wkL_get h.2
    refine ⟨by simp [h1],fun j x hj=>?_⟩
    cases j with
    | zero=>simp at hj;subst hj;exact ⟨p,rfl,h.1⟩
    | succ j=>simpa using h2 j x (by simpa using hj)
theorem RP.wkC {w : World} {G : Nat → Prop} {p q : PV} {x : Value} (hw : WkC p q) (h : RP w G p x) : RP w G q x := by
  cases hw with
  | same=>exact h
  | nil c=>cases h;exact .nil c
theorem WkC.one {p q : PV} (h : WkC p q) (hp : p.one = true) : q.one = true := by
  cases h with
  | same=>exact hp
  | nil c=>rfl
theorem RV0.wk {w : World} {G : Nat → Prop} {m : Nm} {v v' : V} {x : Value} (hw : Wk v v') (h : RV0 w G m v x) : RV0 w G m v' x := by
  cases hw with
  | same=>exact h
  | nil c=>exact RP.wkC (.nil c) h
  | agg l r hl =>
    obtain ⟨h1,h2⟩:=wkL_get hl
    have h' : RP w G (.agg l) x:=h
    cases h' with
    | agg _ cs u hs hone hcell hr =>
      refine RP.agg r cs u (by rw [hs,h1]) (fun j q hj=>?_) (fun j q hj=>?_) (fun j q hj=>?_)
      · obtain ⟨p,hp,hw⟩:=h2 j q hj;exact hw.one (hone j p hp)
      · obtain ⟨p,hp,hw⟩:=h2 j q hj;exact hcell j p hp
      · obtain ⟨p,hp,hw⟩:=h2 j q hj;exact RP.wkC hw (hr j p hp)
end Go.Av
