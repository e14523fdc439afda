/-
  No cell of these rows narrows 'for every input' (looked for: loops, veiled, ifaces, maps, wideKeys, modest, calm, conditions, laid).
  DERIVED. THE GIVEN ROWS OF THIS SEAT. 5 by the template 'for every input the law returns true; each argument reads behind the call as it read before'; 0 by the template 'total and deterministic' (their statements: YtnfcbkageifmfaaTotals.lean).
  GIVEN WITH THE SEED: the statements are not yours to turn. If you find one false, say at which input.
  Laid BY PROGRAM, IN A SANDBOX (cutbox-rows.mjs): the forced cells as the released guide's own fill.sh prints them over the translation dfba3d3f98966143… (all of the seat's roots in one cut). By AI agents, Wed Nov 11 2026. No macro, syntax, notation, axiom, sorry.
-/
import Derived.Test.YtnfcbkageifmfaaChecked
import GoSem.Claim
import GoSem.ClaimJoined
import GoSem.ClaimMapViews
import Derived.JoinedTies
import Derived.KernelRfl
namespace Go.Proofs.Ytnfcbkageifmfaa
/- THE CELL 'sum', in the pinned program and in every row, IS THE sha256 OF THE DUMP (.gsa) THAT YtnfcbkageifmfaaProg.lean LOADS. Nothing in Lean hashes anything: it is a label: what it is worth is what the hold of that sum in a sandbox is worth. -/
noncomputable def Try.pinned : Pinned := { name := "ytnfcbkageifmfaa", sum := "dfba3d3f989661438415de0bb82d4851388c028f298922ca65af6976a45b591c", checked := Try.checked }
namespace Rows
def none {H : Type} : Left H := { results := [], args := [] }

/-- 'witanlaw19.AckLearners': WHATEVER THE INPUT: true; the input reads as it did. -/
def ackLearnersSpec : ChangeSpec := { name := "ackLearners", fn := fun _ => fun
  | [d1, d2, d3] => { results := [.lit (.bool true)], args := [d1, d2, d3] }
  | _ => none }
def ackLearnersRow : OpenClaim := { program := "ytnfcbkageifmfaa", sum := "dfba3d3f989661438415de0bb82d4851388c028f298922ca65af6976a45b591c", func := "witan/witanlaw19.AckLearners", spec := "ackLearners", inPlace := ["slices.overlaps[witan/api.Learner]"], unfollowed := true, recurses := true, apart := false }
def AckLearnersSaid : Prop := ackLearnersRow.holds Try.pinned (OpenSpec.ofChange ackLearnersSpec)

/-- ITS FALSE NEIGHBOUR: 'it returns false'. Refute it at one input. -/
def ackLearnersWrong : ChangeSpec := { name := "ackLearners", fn := fun _ => fun
  | [d1, d2, d3] => { results := [.lit (.bool false)], args := [d1, d2, d3] }
  | _ => none }
def AckLearnersWrongFalsely : Prop := ackLearnersRow.holds Try.pinned (OpenSpec.ofChange ackLearnersWrong)

/-- 'witanlaw19.AckCommits': WHATEVER THE INPUT: true; the input reads as it did. -/
def ackCommitsSpec : ChangeSpec := { name := "ackCommits", fn := fun _ => fun
  | [d1, d2, d3] => { results := [.lit (.bool true)], args := [d1, d2, d3] }
  | _ => none }
def ackCommitsRow : OpenClaim := { program := "ytnfcbkageifmfaa", sum := "dfba3d3f989661438415de0bb82d4851388c028f298922ca65af6976a45b591c", func := "witan/witanlaw19.AckCommits", spec := "ackCommits", inPlace := ["slices.overlaps[witan/api.Learner]"], unfollowed := true, recurses := true, apart := false }
def AckCommitsSaid : Prop := ackCommitsRow.holds Try.pinned (OpenSpec.ofChange ackCommitsSpec)

/-- ITS FALSE NEIGHBOUR: 'it returns false'. Refute it at one input. -/
def ackCommitsWrong : ChangeSpec := { name := "ackCommits", fn := fun _ => fun
  | [d1, d2, d3] => { results := [.lit (.bool false)], args := [d1, d2, d3] }
  | _ => none }
def AckCommitsWrongFalsely : Prop := ackCommitsRow.holds Try.pinned (OpenSpec.ofChange ackCommitsWrong)

/-- 'witanlaw19.AckSafe': WHATEVER THE INPUT: true; the input reads as it did. -/
def ackSafeSpec : ChangeSpec := { name := "ackSafe", fn := fun _ => fun
  | [d1, d2, d3] => { results := [.lit (.bool true)], args := [d1, d2, d3] }
  | _ => none }
def ackSafeRow : OpenClaim := { program := "ytnfcbkageifmfaa", sum := "dfba3d3f989661438415de0bb82d4851388c028f298922ca65af6976a45b591c", func := "witan/witanlaw19.AckSafe", spec := "ackSafe", inPlace := ["slices.overlaps[witan/api.Learner]"], unfollowed := true, recurses := true, apart := false }
def AckSafeSaid : Prop := ackSafeRow.holds Try.pinned (OpenSpec.ofChange ackSafeSpec)

/-- ITS FALSE NEIGHBOUR: 'it returns false'. Refute it at one input. -/
def ackSafeWrong : ChangeSpec := { name := "ackSafe", fn := fun _ => fun
  | [d1, d2, d3] => { results := [.lit (.bool false)], args := [d1, d2, d3] }
  | _ => none }
def AckSafeWrongFalsely : Prop := ackSafeRow.holds Try.pinned (OpenSpec.ofChange ackSafeWrong)

/-- 'witanlaw19.AckMore': WHATEVER THE INPUT: true; the input reads as it did. -/
def ackMoreSpec : ChangeSpec := { name := "ackMore", fn := fun _ => fun
  | [d1, d2, d3] => { results := [.lit (.bool true)], args := [d1, d2, d3] }
  | _ => none }
def ackMoreRow : OpenClaim := { program := "ytnfcbkageifmfaa", sum := "dfba3d3f989661438415de0bb82d4851388c028f298922ca65af6976a45b591c", func := "witan/witanlaw19.AckMore", spec := "ackMore", inPlace := ["slices.overlaps[witan/api.Learner]"], unfollowed := true, recurses := true, apart := false }
def AckMoreSaid : Prop := ackMoreRow.holds Try.pinned (OpenSpec.ofChange ackMoreSpec)

/-- ITS FALSE NEIGHBOUR: 'it returns false'. Refute it at one input. -/
def ackMoreWrong : ChangeSpec := { name := "ackMore", fn := fun _ => fun
  | [d1, d2, d3] => { results := [.lit (.bool false)], args := [d1, d2, d3] }
  | _ => none }
def AckMoreWrongFalsely : Prop := ackMoreRow.holds Try.pinned (OpenSpec.ofChange ackMoreWrong)

/-- 'witanlaw19.AckParts': WHATEVER THE INPUT: true; the input reads as it did. -/
def ackPartsSpec : ChangeSpec := { name := "ackParts", fn := fun _ => fun
  | [d1, d2, d3] => { results := [.lit (.bool true)], args := [d1, d2, d3] }
  | _ => none }
def ackPartsRow : OpenClaim := { program := "ytnfcbkageifmfaa", sum := "dfba3d3f989661438415de0bb82d4851388c028f298922ca65af6976a45b591c", func := "witan/witanlaw19.AckParts", spec := "ackParts", inPlace := ["slices.overlaps[witan/api.Learner]"], unfollowed := true, recurses := true, apart := false }
def AckPartsSaid : Prop := ackPartsRow.holds Try.pinned (OpenSpec.ofChange ackPartsSpec)

/-- ITS FALSE NEIGHBOUR: 'it returns false'. Refute it at one input. -/
def ackPartsWrong : ChangeSpec := { name := "ackParts", fn := fun _ => fun
  | [d1, d2, d3] => { results := [.lit (.bool false)], args := [d1, d2, d3] }
  | _ => none }
def AckPartsWrongFalsely : Prop := ackPartsRow.holds Try.pinned (OpenSpec.ofChange ackPartsWrong)

/- THE SECOND FORM. 'bulk': how many values and letters a reading holds, each counted each time it is reached (what is shared counts as often as it is met; a slice's spare places count too). A statement '..UptoSaid' is the law's where the arguments, and the package variables that the reading takes, are together of bulk at most 1048576: NARROWER than '..Said'. Prove '..Said' where nothing that the law and all that it calls make is longer than what came in: it says more and counts as full. Else prove '..UptoSaid'. A law counts once. -/
mutual
def uptoBulk {H : Type} : DataW H → Nat
  | .lit (.string bytes) => bytes.length + 1
  | .lit _ => 1
  | .nil => 1
  | .ptr d => uptoBulk d + 1
  | .slice elems spare => uptoBulkAll elems + uptoBulkAll spare + 1
  | .agg parts => uptoBulkAll parts + 1
  | .iface _ d => uptoBulk d + 1
  | .map entries => uptoBulkEntries entries + 1
  | .held _ => 1
def uptoBulkAll {H : Type} : List (DataW H) → Nat
  | [] => 0
  | d :: r => uptoBulk d + uptoBulkAll r
def uptoBulkEntries {H : Type} : List (Lit × DataW H) → Nat
  | [] => 0
  | x :: r => uptoBulkEntry x + uptoBulkEntries r
def uptoBulkEntry {H : Type} : Lit × DataW H → Nat
  | (.string bytes, d) => bytes.length + uptoBulk d + 1
  | (_, d) => uptoBulk d + 1
 end
def uptoSmall : (H : Type) → List (DataW H) → Bool := fun _ ds => decide (uptoBulkAll ds ≤ 1048576)
def OpenSpec.upto (s : _root_.Go.ChangeSpec) : _root_.Go.OpenSpec := { _root_.Go.OpenSpec.ofChange s with cond := some uptoSmall }

/-- 'witanlaw19.AckLearners', WHERE WHAT IT READS IS OF BULK AT MOST 1048576: true; the input reads as it did. -/
def ackLearnersUptoRow : OpenClaim := { program := "ytnfcbkageifmfaa", sum := "dfba3d3f989661438415de0bb82d4851388c028f298922ca65af6976a45b591c", func := "witan/witanlaw19.AckLearners", spec := "ackLearners", inPlace := ["slices.overlaps[witan/api.Learner]"], unfollowed := true, recurses := true, apart := false, narrowed := true }
def AckLearnersUptoSaid : Prop := ackLearnersUptoRow.holds Try.pinned (OpenSpec.upto ackLearnersSpec)

/-- 'witanlaw19.AckCommits', WHERE WHAT IT READS IS OF BULK AT MOST 1048576: true; the input reads as it did. -/
def ackCommitsUptoRow : OpenClaim := { program := "ytnfcbkageifmfaa", sum := "dfba3d3f989661438415de0bb82d4851388c028f298922ca65af6976a45b591c", func := "witan/witanlaw19.AckCommits", spec := "ackCommits", inPlace := ["slices.overlaps[witan/api.Learner]"], unfollowed := true, recurses := true, apart := false, narrowed := true }
def AckCommitsUptoSaid : Prop := ackCommitsUptoRow.holds Try.pinned (OpenSpec.upto ackCommitsSpec)

/-- 'witanlaw19.AckSafe', WHERE WHAT IT READS IS OF BULK AT MOST 1048576: true; the input reads as it did. -/
def ackSafeUptoRow : OpenClaim := { program := "ytnfcbkageifmfaa", sum := "dfba3d3f989661438415de0bb82d4851388c028f298922ca65af6976a45b591c", func := "witan/witanlaw19.AckSafe", spec := "ackSafe", inPlace := ["slices.overlaps[witan/api.Learner]"], unfollowed := true, recurses := true, apart := false, narrowed := true }
def AckSafeUptoSaid : Prop := ackSafeUptoRow.holds Try.pinned (OpenSpec.upto ackSafeSpec)

/-- 'witanlaw19.AckMore', WHERE WHAT IT READS IS OF BULK AT MOST 1048576: true; the input reads as it did. -/
def ackMoreUptoRow : OpenClaim := { program := "ytnfcbkageifmfaa", sum := "dfba3d3f989661438415de0bb82d4851388c028f298922ca65af6976a45b591c", func := "witan/witanlaw19.AckMore", spec := "ackMore", inPlace := ["slices.overlaps[witan/api.Learner]"], unfollowed := true, recurses := true, apart := false, narrowed := true }
def AckMoreUptoSaid : Prop := ackMoreUptoRow.holds Try.pinned (OpenSpec.upto ackMoreSpec)

/-- 'witanlaw19.AckParts', WHERE WHAT IT READS IS OF BULK AT MOST 1048576: true; the input reads as it did. -/
def ackPartsUptoRow : OpenClaim := { program := "ytnfcbkageifmfaa", sum := "dfba3d3f989661438415de0bb82d4851388c028f298922ca65af6976a45b591c", func := "witan/witanlaw19.AckParts", spec := "ackParts", inPlace := ["slices.overlaps[witan/api.Learner]"], unfollowed := true, recurses := true, apart := false, narrowed := true }
def AckPartsUptoSaid : Prop := ackPartsUptoRow.holds Try.pinned (OpenSpec.upto ackPartsSpec)

end Rows
end Go.Proofs.Ytnfcbkageifmfaa
