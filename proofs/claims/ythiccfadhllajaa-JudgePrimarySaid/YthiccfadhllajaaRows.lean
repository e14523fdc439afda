/-
  No cell of these rows narrows 'for every input' (looked for: loops, veiled, ifaces, maps, wideKeys, modest, calm, conditions, laid).
  DERIVED. THE GIVEN ROWS OF THIS SEAT. 3 by the template 'for every input the law returns true; each argument reads behind the call as it read before'; 0 by the template 'total and deterministic' (their statements: YthiccfadhllajaaTotals.lean).
  GIVEN WITH THE SEED: the statements are not yours to turn. If you find one false, say at which input.
  Laid BY PROGRAM, IN A SANDBOX (cutbox-rows.mjs): the forced cells as the released guide's own fill.sh prints them over the translation e7b8c077090f27a2… (all of the seat's roots in one cut). By AI agents, Wed Nov 11 2026. No macro, syntax, notation, axiom, sorry.
-/
import Derived.Test.YthiccfadhllajaaChecked
import GoSem.Claim
import GoSem.ClaimJoined
import GoSem.ClaimMapViews
import Derived.JoinedTies
import Derived.KernelRfl
namespace Go.Proofs.Ythiccfadhllajaa
/- THE CELL 'sum', in the pinned program and in every row, IS THE sha256 OF THE DUMP (.gsa) THAT YthiccfadhllajaaProg.lean LOADS. Nothing in Lean hashes anything: it is a label: what it is worth is what the hold of that sum in a sandbox is worth. -/
noncomputable def Try.pinned : Pinned := { name := "ythiccfadhllajaa", sum := "e7b8c077090f27a2540c2c8bc53f6ed06e5c529fa6011fee7dd4deecf8acd148", checked := Try.checked }
namespace Rows
def none {H : Type} : Left H := { results := [], args := [] }

/-- 'witanlaw27.JudgePrimary': WHATEVER THE INPUT: true; the input reads as it did. -/
def judgePrimarySpec : ChangeSpec := { name := "judgePrimary", fn := fun _ => fun
  | [d] => { results := [.lit (.bool true)], args := [d] }
  | _ => none }
def judgePrimaryRow : OpenClaim := { program := "ythiccfadhllajaa", sum := "e7b8c077090f27a2540c2c8bc53f6ed06e5c529fa6011fee7dd4deecf8acd148", func := "witan/witanlaw27.JudgePrimary", spec := "judgePrimary", inPlace := ["slices.overlaps[int]"], unfollowed := true, recurses := true, plainKeys := false, apart := false }
def JudgePrimarySaid : Prop := judgePrimaryRow.holds Try.pinned (OpenSpec.ofChange judgePrimarySpec)

/-- ITS FALSE NEIGHBOUR: 'it returns false'. Refute it at one input. -/
def judgePrimaryWrong : ChangeSpec := { name := "judgePrimary", fn := fun _ => fun
  | [d] => { results := [.lit (.bool false)], args := [d] }
  | _ => none }
def JudgePrimaryWrongFalsely : Prop := judgePrimaryRow.holds Try.pinned (OpenSpec.ofChange judgePrimaryWrong)

/-- 'witanlaw27.JudgeBegins': WHATEVER THE INPUT: true; the input reads as it did. -/
def judgeBeginsSpec : ChangeSpec := { name := "judgeBegins", fn := fun _ => fun
  | [d1, d2] => { results := [.lit (.bool true)], args := [d1, d2] }
  | _ => none }
def judgeBeginsRow : OpenClaim := { program := "ythiccfadhllajaa", sum := "e7b8c077090f27a2540c2c8bc53f6ed06e5c529fa6011fee7dd4deecf8acd148", func := "witan/witanlaw27.JudgeBegins", spec := "judgeBegins", inPlace := ["slices.overlaps[int]"], unfollowed := true, recurses := true, plainKeys := false, apart := false }
def JudgeBeginsSaid : Prop := judgeBeginsRow.holds Try.pinned (OpenSpec.ofChange judgeBeginsSpec)

/-- ITS FALSE NEIGHBOUR: 'it returns false'. Refute it at one input. -/
def judgeBeginsWrong : ChangeSpec := { name := "judgeBegins", fn := fun _ => fun
  | [d1, d2] => { results := [.lit (.bool false)], args := [d1, d2] }
  | _ => none }
def JudgeBeginsWrongFalsely : Prop := judgeBeginsRow.holds Try.pinned (OpenSpec.ofChange judgeBeginsWrong)

/-- 'witanlaw27.JudgeChain': WHATEVER THE INPUT: true; the input reads as it did. -/
def judgeChainSpec : ChangeSpec := { name := "judgeChain", fn := fun _ => fun
  | [d] => { results := [.lit (.bool true)], args := [d] }
  | _ => none }
def judgeChainRow : OpenClaim := { program := "ythiccfadhllajaa", sum := "e7b8c077090f27a2540c2c8bc53f6ed06e5c529fa6011fee7dd4deecf8acd148", func := "witan/witanlaw27.JudgeChain", spec := "judgeChain", inPlace := ["slices.overlaps[int]"], unfollowed := true, recurses := true, plainKeys := false, apart := false }
def JudgeChainSaid : Prop := judgeChainRow.holds Try.pinned (OpenSpec.ofChange judgeChainSpec)

/-- ITS FALSE NEIGHBOUR: 'it returns false'. Refute it at one input. -/
def judgeChainWrong : ChangeSpec := { name := "judgeChain", fn := fun _ => fun
  | [d] => { results := [.lit (.bool false)], args := [d] }
  | _ => none }
def JudgeChainWrongFalsely : Prop := judgeChainRow.holds Try.pinned (OpenSpec.ofChange judgeChainWrong)

/- THE SECOND FORM. 'bulk': how many values and letters a reading holds, each counted each time it is reached (what is shared counts as often as it is met; a slice's spare places count too). A statement '..UptoSaid' is the law's where the arguments, and the package variables that the reading takes, are together of bulk at most 1048576: NARROWER than '..Said'. Prove '..Said' where nothing that the law and all that it calls make is longer than what came in: it says more and counts as full. Else prove '..UptoSaid'. A law counts once. -/
mutual
def uptoBulk {H : Type} : DataW H → Nat
  | .lit (.string bytes) => bytes.length + 1
  | .lit _ => 1
  | .nil => 1
  | .ptr d => uptoBulk d + 1
  | .slice elems spare => uptoBulkAll elems + uptoBulkAll spare + 1
  | .agg parts => uptoBulkAll parts + 1
  | .iface _ d => uptoBulk d + 1
  | .map entries => uptoBulkEntries entries + 1
  | .held _ => 1
def uptoBulkAll {H : Type} : List (DataW H) → Nat
  | [] => 0
  | d :: r => uptoBulk d + uptoBulkAll r
def uptoBulkEntries {H : Type} : List (Lit × DataW H) → Nat
  | [] => 0
  | x :: r => uptoBulkEntry x + uptoBulkEntries r
def uptoBulkEntry {H : Type} : Lit × DataW H → Nat
  | (.string bytes, d) => bytes.length + uptoBulk d + 1
  | (_, d) => uptoBulk d + 1
 end
def uptoSmall : (H : Type) → List (DataW H) → Bool := fun _ ds => decide (uptoBulkAll ds ≤ 1048576)
def OpenSpec.upto (s : _root_.Go.ChangeSpec) : _root_.Go.OpenSpec := { _root_.Go.OpenSpec.ofChange s with cond := some uptoSmall }

/-- 'witanlaw27.JudgePrimary', WHERE WHAT IT READS IS OF BULK AT MOST 1048576: true; the input reads as it did. -/
def judgePrimaryUptoRow : OpenClaim := { program := "ythiccfadhllajaa", sum := "e7b8c077090f27a2540c2c8bc53f6ed06e5c529fa6011fee7dd4deecf8acd148", func := "witan/witanlaw27.JudgePrimary", spec := "judgePrimary", inPlace := ["slices.overlaps[int]"], unfollowed := true, recurses := true, plainKeys := false, apart := false, narrowed := true }
def JudgePrimaryUptoSaid : Prop := judgePrimaryUptoRow.holds Try.pinned (OpenSpec.upto judgePrimarySpec)

/-- 'witanlaw27.JudgeBegins', WHERE WHAT IT READS IS OF BULK AT MOST 1048576: true; the input reads as it did. -/
def judgeBeginsUptoRow : OpenClaim := { program := "ythiccfadhllajaa", sum := "e7b8c077090f27a2540c2c8bc53f6ed06e5c529fa6011fee7dd4deecf8acd148", func := "witan/witanlaw27.JudgeBegins", spec := "judgeBegins", inPlace := ["slices.overlaps[int]"], unfollowed := true, recurses := true, plainKeys := false, apart := false, narrowed := true }
def JudgeBeginsUptoSaid : Prop := judgeBeginsUptoRow.holds Try.pinned (OpenSpec.upto judgeBeginsSpec)

/-- 'witanlaw27.JudgeChain', WHERE WHAT IT READS IS OF BULK AT MOST 1048576: true; the input reads as it did. -/
def judgeChainUptoRow : OpenClaim := { program := "ythiccfadhllajaa", sum := "e7b8c077090f27a2540c2c8bc53f6ed06e5c529fa6011fee7dd4deecf8acd148", func := "witan/witanlaw27.JudgeChain", spec := "judgeChain", inPlace := ["slices.overlaps[int]"], unfollowed := true, recurses := true, plainKeys := false, apart := false, narrowed := true }
def JudgeChainUptoSaid : Prop := judgeChainUptoRow.holds Try.pinned (OpenSpec.upto judgeChainSpec)

end Rows
end Go.Proofs.Ythiccfadhllajaa
