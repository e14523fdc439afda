/- By heads and by weight. -/
import Derived.Test.YtiemabhnhgablaaQC
namespace Go.Proofs.Ytiemabhnhgablaa
set_option linter.unusedSimpArgs false
set_option linter.unusedVariables false
open Go Go.Av
attribute [local simp] Try.T1 Try.T2 Try.T3 Try.T4 Try.T5 Try.T9 Try.T12 Try.T15 Try.T16 Try.T17 Try.T21 Try.T23 Try.T24 Try.T26 Try.T27 Try.T28 Try.T30 Try.T31 Try.T32 Try.T33 Try.T35 Try.T36 Try.T37 Try.T38 Try.T39 Try.T41 Try.T43 Try.T44 Try.T45 Try.T46 Try.T47 Try.T48 Try.T49 Try.T50 Try.T51 Try.T52 Try.T53 Try.T54 Try.T55 Try.T56 Try.T57 Try.T58 Try.T59 Try.T60 Try.T61 Try.T62 Try.T65 Try.T68 Try.T69 Try.T72 Try.T73
attribute [local irreducible] Go.Av.CallK Go.Av.CallE Go.Av.CallQ Go.Av.CallF Go.Av.CallR Go.Av.CallH Go.Av.Con

def tot (f : Mb → Int) (p : Mb → Bool) : List Mb → Int
  | [] => 0
  | m :: l => (if m.r = 1 ∧ p m = true then f m else 0) + tot f p l
def inS (set : List Int) (m : Mb) : Bool := decide (m.i ∈ set)
def yes (_ : Mb) : Bool := true
def one (_ : Mb) : Int := 1
def okL (l : List Mb) : Prop := ∀ m ∈ l, okM m
theorem fine_ok : ∀ (l : List Mb) (p : Int), fine p l = true → okL l
  | [], _, _ => fun m hm => by simp at hm
  | m :: l, p, h => fun x hx => by
    simp only [fine, Bool.and_eq_true, decide_eq_true_eq] at h
    rcases List.mem_cons.1 hx with rfl | hx
    · exact h.1.1
    · exact fine_ok l _ h.2 x hx
theorem okL_get {l : List Mb} (h : okL l) (k : Nat) (hk : k < l.length) : okM l[k] := h _ (List.getElem_mem hk)

end Go.Proofs.Ytiemabhnhgablaa
