/-
  No cell of these rows narrows 'for every input' (looked for: loops, veiled, ifaces, maps, wideKeys, modest, calm, conditions, laid).
  DERIVED. THE GIVEN ROWS OF THIS SEAT. 4 by the template 'for every input the law returns true; each argument reads behind the call as it read before'; 0 by the template 'total and deterministic' (their statements: YteicecbjahhjmaaTotals.lean).
  GIVEN WITH THE SEED: the statements are not yours to turn. If you find one false, say at which input.
  Laid BY PROGRAM, IN A SANDBOX (cutbox-rows.mjs): the forced cells as the released guide's own fill.sh prints them over the translation ffcb1df34ffa9c3c… (all of the seat's roots in one cut). By AI agents, Wed Nov 11 2026. No macro, syntax, notation, axiom, sorry.
-/
import Derived.Test.YteicecbjahhjmaaChecked
import GoSem.Claim
import GoSem.ClaimJoined
import GoSem.ClaimMapViews
import Derived.JoinedTies
import Derived.KernelRfl
namespace Go.Proofs.Yteicecbjahhjmaa
/- THE CELL 'sum', in the pinned program and in every row, IS THE sha256 OF THE DUMP (.gsa) THAT YteicecbjahhjmaaProg.lean LOADS. Nothing in Lean hashes anything: it is a label: what it is worth is what the hold of that sum in a sandbox is worth. -/
noncomputable def Try.pinned : Pinned := { name := "yteicecbjahhjmaa", sum := "ffcb1df34ffa9c3c929c905416b5925c5abc86b09b5f48483adcc36010607889", checked := Try.checked }
namespace Rows
def none {H : Type} : Left H := { results := [], args := [] }

/-- 'witanlaw22.LearnPromise': WHATEVER THE INPUT: true; the input reads as it did. -/
def learnPromiseSpec : ChangeSpec := { name := "learnPromise", fn := fun _ => fun
  | [d1, d2] => { results := [.lit (.bool true)], args := [d1, d2] }
  | _ => none }
def learnPromiseRow : OpenClaim := { program := "yteicecbjahhjmaa", sum := "ffcb1df34ffa9c3c929c905416b5925c5abc86b09b5f48483adcc36010607889", func := "witan/witanlaw22.LearnPromise", spec := "learnPromise", inPlace := ["slices.overlaps[witan/api.Learner]"], unfollowed := true, recurses := true, apart := false }
def LearnPromiseSaid : Prop := learnPromiseRow.holds Try.pinned (OpenSpec.ofChange learnPromiseSpec)

/-- ITS FALSE NEIGHBOUR: 'it returns false'. Refute it at one input. -/
def learnPromiseWrong : ChangeSpec := { name := "learnPromise", fn := fun _ => fun
  | [d1, d2] => { results := [.lit (.bool false)], args := [d1, d2] }
  | _ => none }
def LearnPromiseWrongFalsely : Prop := learnPromiseRow.holds Try.pinned (OpenSpec.ofChange learnPromiseWrong)

/-- 'witanlaw22.LearnAcks': WHATEVER THE INPUT: true; the input reads as it did. -/
def learnAcksSpec : ChangeSpec := { name := "learnAcks", fn := fun _ => fun
  | [d1, d2] => { results := [.lit (.bool true)], args := [d1, d2] }
  | _ => none }
def learnAcksRow : OpenClaim := { program := "yteicecbjahhjmaa", sum := "ffcb1df34ffa9c3c929c905416b5925c5abc86b09b5f48483adcc36010607889", func := "witan/witanlaw22.LearnAcks", spec := "learnAcks", inPlace := ["slices.overlaps[witan/api.Learner]"], unfollowed := true, recurses := true, apart := false }
def LearnAcksSaid : Prop := learnAcksRow.holds Try.pinned (OpenSpec.ofChange learnAcksSpec)

/-- ITS FALSE NEIGHBOUR: 'it returns false'. Refute it at one input. -/
def learnAcksWrong : ChangeSpec := { name := "learnAcks", fn := fun _ => fun
  | [d1, d2] => { results := [.lit (.bool false)], args := [d1, d2] }
  | _ => none }
def LearnAcksWrongFalsely : Prop := learnAcksRow.holds Try.pinned (OpenSpec.ofChange learnAcksWrong)

/-- 'witanlaw22.LearnGrows': WHATEVER THE INPUT: true; the input reads as it did. -/
def learnGrowsSpec : ChangeSpec := { name := "learnGrows", fn := fun _ => fun
  | [d1, d2] => { results := [.lit (.bool true)], args := [d1, d2] }
  | _ => none }
def learnGrowsRow : OpenClaim := { program := "yteicecbjahhjmaa", sum := "ffcb1df34ffa9c3c929c905416b5925c5abc86b09b5f48483adcc36010607889", func := "witan/witanlaw22.LearnGrows", spec := "learnGrows", inPlace := ["slices.overlaps[witan/api.Learner]"], unfollowed := true, recurses := true, apart := false }
def LearnGrowsSaid : Prop := learnGrowsRow.holds Try.pinned (OpenSpec.ofChange learnGrowsSpec)

/-- ITS FALSE NEIGHBOUR: 'it returns false'. Refute it at one input. -/
def learnGrowsWrong : ChangeSpec := { name := "learnGrows", fn := fun _ => fun
  | [d1, d2] => { results := [.lit (.bool false)], args := [d1, d2] }
  | _ => none }
def LearnGrowsWrongFalsely : Prop := learnGrowsRow.holds Try.pinned (OpenSpec.ofChange learnGrowsWrong)

/-- 'witanlaw22.LearnDeaf': WHATEVER THE INPUT: true; the input reads as it did. -/
def learnDeafSpec : ChangeSpec := { name := "learnDeaf", fn := fun _ => fun
  | [d1, d2, d3] => { results := [.lit (.bool true)], args := [d1, d2, d3] }
  | _ => none }
def learnDeafRow : OpenClaim := { program := "yteicecbjahhjmaa", sum := "ffcb1df34ffa9c3c929c905416b5925c5abc86b09b5f48483adcc36010607889", func := "witan/witanlaw22.LearnDeaf", spec := "learnDeaf", inPlace := ["slices.overlaps[witan/api.Learner]"], unfollowed := true, recurses := true, apart := false }
def LearnDeafSaid : Prop := learnDeafRow.holds Try.pinned (OpenSpec.ofChange learnDeafSpec)

/-- ITS FALSE NEIGHBOUR: 'it returns false'. Refute it at one input. -/
def learnDeafWrong : ChangeSpec := { name := "learnDeaf", fn := fun _ => fun
  | [d1, d2, d3] => { results := [.lit (.bool false)], args := [d1, d2, d3] }
  | _ => none }
def LearnDeafWrongFalsely : Prop := learnDeafRow.holds Try.pinned (OpenSpec.ofChange learnDeafWrong)

/- THE SECOND FORM. 'bulk': how many values and letters a reading holds, each counted each time it is reached (what is shared counts as often as it is met; a slice's spare places count too). A statement '..UptoSaid' is the law's where the arguments, and the package variables that the reading takes, are together of bulk at most 1048576: NARROWER than '..Said'. Prove '..Said' where nothing that the law and all that it calls make is longer than what came in: it says more and counts as full. Else prove '..UptoSaid'. A law counts once. -/
mutual
def uptoBulk {H : Type} : DataW H → Nat
  | .lit (.string bytes) => bytes.length + 1
  | .lit _ => 1
  | .nil => 1
  | .ptr d => uptoBulk d + 1
  | .slice elems spare => uptoBulkAll elems + uptoBulkAll spare + 1
  | .agg parts => uptoBulkAll parts + 1
  | .iface _ d => uptoBulk d + 1
  | .map entries => uptoBulkEntries entries + 1
  | .held _ => 1
def uptoBulkAll {H : Type} : List (DataW H) → Nat
  | [] => 0
  | d :: r => uptoBulk d + uptoBulkAll r
def uptoBulkEntries {H : Type} : List (Lit × DataW H) → Nat
  | [] => 0
  | x :: r => uptoBulkEntry x + uptoBulkEntries r
def uptoBulkEntry {H : Type} : Lit × DataW H → Nat
  | (.string bytes, d) => bytes.length + uptoBulk d + 1
  | (_, d) => uptoBulk d + 1
 end
def uptoSmall : (H : Type) → List (DataW H) → Bool := fun _ ds => decide (uptoBulkAll ds ≤ 1048576)
def OpenSpec.upto (s : _root_.Go.ChangeSpec) : _root_.Go.OpenSpec := { _root_.Go.OpenSpec.ofChange s with cond := some uptoSmall }

/-- 'witanlaw22.LearnPromise', WHERE WHAT IT READS IS OF BULK AT MOST 1048576: true; the input reads as it did. -/
def learnPromiseUptoRow : OpenClaim := { program := "yteicecbjahhjmaa", sum := "ffcb1df34ffa9c3c929c905416b5925c5abc86b09b5f48483adcc36010607889", func := "witan/witanlaw22.LearnPromise", spec := "learnPromise", inPlace := ["slices.overlaps[witan/api.Learner]"], unfollowed := true, recurses := true, apart := false, narrowed := true }
def LearnPromiseUptoSaid : Prop := learnPromiseUptoRow.holds Try.pinned (OpenSpec.upto learnPromiseSpec)

/-- 'witanlaw22.LearnAcks', WHERE WHAT IT READS IS OF BULK AT MOST 1048576: true; the input reads as it did. -/
def learnAcksUptoRow : OpenClaim := { program := "yteicecbjahhjmaa", sum := "ffcb1df34ffa9c3c929c905416b5925c5abc86b09b5f48483adcc36010607889", func := "witan/witanlaw22.LearnAcks", spec := "learnAcks", inPlace := ["slices.overlaps[witan/api.Learner]"], unfollowed := true, recurses := true, apart := false, narrowed := true }
def LearnAcksUptoSaid : Prop := learnAcksUptoRow.holds Try.pinned (OpenSpec.upto learnAcksSpec)

/-- 'witanlaw22.LearnGrows', WHERE WHAT IT READS IS OF BULK AT MOST 1048576: true; the input reads as it did. -/
def learnGrowsUptoRow : OpenClaim := { program := "yteicecbjahhjmaa", sum := "ffcb1df34ffa9c3c929c905416b5925c5abc86b09b5f48483adcc36010607889", func := "witan/witanlaw22.LearnGrows", spec := "learnGrows", inPlace := ["slices.overlaps[witan/api.Learner]"], unfollowed := true, recurses := true, apart := false, narrowed := true }
def LearnGrowsUptoSaid : Prop := learnGrowsUptoRow.holds Try.pinned (OpenSpec.upto learnGrowsSpec)

/-- 'witanlaw22.LearnDeaf', WHERE WHAT IT READS IS OF BULK AT MOST 1048576: true; the input reads as it did. -/
def learnDeafUptoRow : OpenClaim := { program := "yteicecbjahhjmaa", sum := "ffcb1df34ffa9c3c929c905416b5925c5abc86b09b5f48483adcc36010607889", func := "witan/witanlaw22.LearnDeaf", spec := "learnDeaf", inPlace := ["slices.overlaps[witan/api.Learner]"], unfollowed := true, recurses := true, apart := false, narrowed := true }
def LearnDeafUptoSaid : Prop := learnDeafUptoRow.holds Try.pinned (OpenSpec.upto learnDeafSpec)

end Rows
end Go.Proofs.Yteicecbjahhjmaa
