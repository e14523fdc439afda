/-
  No cell of these rows narrows 'for every input' (looked for: loops, veiled, ifaces, maps, wideKeys, modest, calm, conditions, laid).
  DERIVED. THE GIVEN ROWS OF THIS SEAT. 9 by the template 'for every input the law returns true; each argument reads behind the call as it read before'; 0 by the template 'total and deterministic' (their statements: YtehopfedgkmalaaTotals.lean).
  GIVEN WITH THE SEED: the statements are not yours to turn. If you find one false, say at which input.
  Laid BY PROGRAM, IN A SANDBOX (cutbox-rows.mjs): the forced cells as the released guide's own fill.sh prints them over the translation f5ad1533cfab8111… (all of the seat's roots in one cut). By AI agents, Wed Nov 11 2026. No macro, syntax, notation, axiom, sorry.
-/
import Derived.Test.YtehopfedgkmalaaChecked
import GoSem.Claim
import GoSem.ClaimJoined
import GoSem.ClaimMapViews
import Derived.JoinedTies
import Derived.KernelRfl
namespace Go.Proofs.Ytehopfedgkmalaa
/- THE CELL 'sum', in the pinned program and in every row, IS THE sha256 OF THE DUMP (.gsa) THAT YtehopfedgkmalaaProg.lean LOADS. Nothing in Lean hashes anything: it is a label: what it is worth is what the hold of that sum in a sandbox is worth. -/
noncomputable def Try.pinned : Pinned := { name := "ytehopfedgkmalaa", sum := "f5ad1533cfab811134bba349ba8a7977d0a675e014efbf2dd54e697277ab2f16", checked := Try.checked }
namespace Rows
def none {H : Type} : Left H := { results := [], args := [] }

/-- 'witanlaw05.QuorumIs': WHATEVER THE INPUT: true; the input reads as it did. -/
def quorumIsSpec : ChangeSpec := { name := "quorumIs", fn := fun _ => fun
  | [d1, d2] => { results := [.lit (.bool true)], args := [d1, d2] }
  | _ => none }
def quorumIsRow : OpenClaim := { program := "ytehopfedgkmalaa", sum := "f5ad1533cfab811134bba349ba8a7977d0a675e014efbf2dd54e697277ab2f16", func := "witan/witanlaw05.QuorumIs", spec := "quorumIs", unfollowed := true, recurses := true, apart := false }
def QuorumIsSaid : Prop := quorumIsRow.holds Try.pinned (OpenSpec.ofChange quorumIsSpec)

/-- ITS FALSE NEIGHBOUR: 'it returns false'. Refute it at one input. -/
def quorumIsWrong : ChangeSpec := { name := "quorumIs", fn := fun _ => fun
  | [d1, d2] => { results := [.lit (.bool false)], args := [d1, d2] }
  | _ => none }
def QuorumIsWrongFalsely : Prop := quorumIsRow.holds Try.pinned (OpenSpec.ofChange quorumIsWrong)

/-- 'witanlaw05.QuorumLeast': WHATEVER THE INPUT: true; the input reads as it did. -/
def quorumLeastSpec : ChangeSpec := { name := "quorumLeast", fn := fun _ => fun
  | [d1, d2] => { results := [.lit (.bool true)], args := [d1, d2] }
  | _ => none }
def quorumLeastRow : OpenClaim := { program := "ytehopfedgkmalaa", sum := "f5ad1533cfab811134bba349ba8a7977d0a675e014efbf2dd54e697277ab2f16", func := "witan/witanlaw05.QuorumLeast", spec := "quorumLeast", unfollowed := true, recurses := true, apart := false }
def QuorumLeastSaid : Prop := quorumLeastRow.holds Try.pinned (OpenSpec.ofChange quorumLeastSpec)

/-- ITS FALSE NEIGHBOUR: 'it returns false'. Refute it at one input. -/
def quorumLeastWrong : ChangeSpec := { name := "quorumLeast", fn := fun _ => fun
  | [d1, d2] => { results := [.lit (.bool false)], args := [d1, d2] }
  | _ => none }
def QuorumLeastWrongFalsely : Prop := quorumLeastRow.holds Try.pinned (OpenSpec.ofChange quorumLeastWrong)

/-- 'witanlaw05.QuorumMeets': WHATEVER THE INPUT: true; the input reads as it did. -/
def quorumMeetsSpec : ChangeSpec := { name := "quorumMeets", fn := fun _ => fun
  | [d1, d2, d3] => { results := [.lit (.bool true)], args := [d1, d2, d3] }
  | _ => none }
def quorumMeetsRow : OpenClaim := { program := "ytehopfedgkmalaa", sum := "f5ad1533cfab811134bba349ba8a7977d0a675e014efbf2dd54e697277ab2f16", func := "witan/witanlaw05.QuorumMeets", spec := "quorumMeets", unfollowed := true, recurses := true, apart := false }
def QuorumMeetsSaid : Prop := quorumMeetsRow.holds Try.pinned (OpenSpec.ofChange quorumMeetsSpec)

/-- ITS FALSE NEIGHBOUR: 'it returns false'. Refute it at one input. -/
def quorumMeetsWrong : ChangeSpec := { name := "quorumMeets", fn := fun _ => fun
  | [d1, d2, d3] => { results := [.lit (.bool false)], args := [d1, d2, d3] }
  | _ => none }
def QuorumMeetsWrongFalsely : Prop := quorumMeetsRow.holds Try.pinned (OpenSpec.ofChange quorumMeetsWrong)

/-- 'witanlaw05.QuorumGrows': WHATEVER THE INPUT: true; the input reads as it did. -/
def quorumGrowsSpec : ChangeSpec := { name := "quorumGrows", fn := fun _ => fun
  | [d1, d2, d3] => { results := [.lit (.bool true)], args := [d1, d2, d3] }
  | _ => none }
def quorumGrowsRow : OpenClaim := { program := "ytehopfedgkmalaa", sum := "f5ad1533cfab811134bba349ba8a7977d0a675e014efbf2dd54e697277ab2f16", func := "witan/witanlaw05.QuorumGrows", spec := "quorumGrows", unfollowed := true, recurses := true, apart := false }
def QuorumGrowsSaid : Prop := quorumGrowsRow.holds Try.pinned (OpenSpec.ofChange quorumGrowsSpec)

/-- ITS FALSE NEIGHBOUR: 'it returns false'. Refute it at one input. -/
def quorumGrowsWrong : ChangeSpec := { name := "quorumGrows", fn := fun _ => fun
  | [d1, d2, d3] => { results := [.lit (.bool false)], args := [d1, d2, d3] }
  | _ => none }
def QuorumGrowsWrongFalsely : Prop := quorumGrowsRow.holds Try.pinned (OpenSpec.ofChange quorumGrowsWrong)

/-- 'witanlaw05.QuorumBlocks': WHATEVER THE INPUT: true; the input reads as it did. -/
def quorumBlocksSpec : ChangeSpec := { name := "quorumBlocks", fn := fun _ => fun
  | [d1, d2, d3] => { results := [.lit (.bool true)], args := [d1, d2, d3] }
  | _ => none }
def quorumBlocksRow : OpenClaim := { program := "ytehopfedgkmalaa", sum := "f5ad1533cfab811134bba349ba8a7977d0a675e014efbf2dd54e697277ab2f16", func := "witan/witanlaw05.QuorumBlocks", spec := "quorumBlocks", unfollowed := true, recurses := true, apart := false }
def QuorumBlocksSaid : Prop := quorumBlocksRow.holds Try.pinned (OpenSpec.ofChange quorumBlocksSpec)

/-- ITS FALSE NEIGHBOUR: 'it returns false'. Refute it at one input. -/
def quorumBlocksWrong : ChangeSpec := { name := "quorumBlocks", fn := fun _ => fun
  | [d1, d2, d3] => { results := [.lit (.bool false)], args := [d1, d2, d3] }
  | _ => none }
def QuorumBlocksWrongFalsely : Prop := quorumBlocksRow.holds Try.pinned (OpenSpec.ofChange quorumBlocksWrong)

/-- 'witanlaw17.VoteLays': WHATEVER THE INPUT: true; the input reads as it did. -/
def voteLaysSpec : ChangeSpec := { name := "voteLays", fn := fun _ => fun
  | [d1, d2] => { results := [.lit (.bool true)], args := [d1, d2] }
  | _ => none }
def voteLaysRow : OpenClaim := { program := "ytehopfedgkmalaa", sum := "f5ad1533cfab811134bba349ba8a7977d0a675e014efbf2dd54e697277ab2f16", func := "witan/witanlaw17.VoteLays", spec := "voteLays", inPlace := ["slices.overlaps[witan/api.Vote]"], unfollowed := true, recurses := true, apart := false }
def VoteLaysSaid : Prop := voteLaysRow.holds Try.pinned (OpenSpec.ofChange voteLaysSpec)

/-- ITS FALSE NEIGHBOUR: 'it returns false'. Refute it at one input. -/
def voteLaysWrong : ChangeSpec := { name := "voteLays", fn := fun _ => fun
  | [d1, d2] => { results := [.lit (.bool false)], args := [d1, d2] }
  | _ => none }
def VoteLaysWrongFalsely : Prop := voteLaysRow.holds Try.pinned (OpenSpec.ofChange voteLaysWrong)

/-- 'witanlaw17.VoteWins': WHATEVER THE INPUT: true; the input reads as it did. -/
def voteWinsSpec : ChangeSpec := { name := "voteWins", fn := fun _ => fun
  | [d1, d2, d3] => { results := [.lit (.bool true)], args := [d1, d2, d3] }
  | _ => none }
def voteWinsRow : OpenClaim := { program := "ytehopfedgkmalaa", sum := "f5ad1533cfab811134bba349ba8a7977d0a675e014efbf2dd54e697277ab2f16", func := "witan/witanlaw17.VoteWins", spec := "voteWins", unfollowed := true, recurses := true, apart := false }
def VoteWinsSaid : Prop := voteWinsRow.holds Try.pinned (OpenSpec.ofChange voteWinsSpec)

/-- ITS FALSE NEIGHBOUR: 'it returns false'. Refute it at one input. -/
def voteWinsWrong : ChangeSpec := { name := "voteWins", fn := fun _ => fun
  | [d1, d2, d3] => { results := [.lit (.bool false)], args := [d1, d2, d3] }
  | _ => none }
def VoteWinsWrongFalsely : Prop := voteWinsRow.holds Try.pinned (OpenSpec.ofChange voteWinsWrong)

/-- 'witanlaw17.VoteOne': WHATEVER THE INPUT: true; the input reads as it did. -/
def voteOneSpec : ChangeSpec := { name := "voteOne", fn := fun _ => fun
  | [d1, d2, d3] => { results := [.lit (.bool true)], args := [d1, d2, d3] }
  | _ => none }
def voteOneRow : OpenClaim := { program := "ytehopfedgkmalaa", sum := "f5ad1533cfab811134bba349ba8a7977d0a675e014efbf2dd54e697277ab2f16", func := "witan/witanlaw17.VoteOne", spec := "voteOne", inPlace := ["slices.overlaps[witan/api.Vote]"], unfollowed := true, recurses := true, apart := false }
def VoteOneSaid : Prop := voteOneRow.holds Try.pinned (OpenSpec.ofChange voteOneSpec)

/-- ITS FALSE NEIGHBOUR: 'it returns false'. Refute it at one input. -/
def voteOneWrong : ChangeSpec := { name := "voteOne", fn := fun _ => fun
  | [d1, d2, d3] => { results := [.lit (.bool false)], args := [d1, d2, d3] }
  | _ => none }
def VoteOneWrongFalsely : Prop := voteOneRow.holds Try.pinned (OpenSpec.ofChange voteOneWrong)

/-- 'witanlaw17.VoteTurns': WHATEVER THE INPUT: true; the input reads as it did. -/
def voteTurnsSpec : ChangeSpec := { name := "voteTurns", fn := fun _ => fun
  | [d1, d2] => { results := [.lit (.bool true)], args := [d1, d2] }
  | _ => none }
def voteTurnsRow : OpenClaim := { program := "ytehopfedgkmalaa", sum := "f5ad1533cfab811134bba349ba8a7977d0a675e014efbf2dd54e697277ab2f16", func := "witan/witanlaw17.VoteTurns", spec := "voteTurns", inPlace := ["slices.overlaps[witan/api.Vote]"], unfollowed := true, recurses := true, apart := false }
def VoteTurnsSaid : Prop := voteTurnsRow.holds Try.pinned (OpenSpec.ofChange voteTurnsSpec)

/-- ITS FALSE NEIGHBOUR: 'it returns false'. Refute it at one input. -/
def voteTurnsWrong : ChangeSpec := { name := "voteTurns", fn := fun _ => fun
  | [d1, d2] => { results := [.lit (.bool false)], args := [d1, d2] }
  | _ => none }
def VoteTurnsWrongFalsely : Prop := voteTurnsRow.holds Try.pinned (OpenSpec.ofChange voteTurnsWrong)

/- THE SECOND FORM. 'bulk': how many values and letters a reading holds, each counted each time it is reached (what is shared counts as often as it is met; a slice's spare places count too). A statement '..UptoSaid' is the law's where the arguments, and the package variables that the reading takes, are together of bulk at most 1048576: NARROWER than '..Said'. Prove '..Said' where nothing that the law and all that it calls make is longer than what came in: it says more and counts as full. Else prove '..UptoSaid'. A law counts once. -/
mutual
def uptoBulk {H : Type} : DataW H → Nat
  | .lit (.string bytes) => bytes.length + 1
  | .lit _ => 1
  | .nil => 1
  | .ptr d => uptoBulk d + 1
  | .slice elems spare => uptoBulkAll elems + uptoBulkAll spare + 1
  | .agg parts => uptoBulkAll parts + 1
  | .iface _ d => uptoBulk d + 1
  | .map entries => uptoBulkEntries entries + 1
  | .held _ => 1
def uptoBulkAll {H : Type} : List (DataW H) → Nat
  | [] => 0
  | d :: r => uptoBulk d + uptoBulkAll r
def uptoBulkEntries {H : Type} : List (Lit × DataW H) → Nat
  | [] => 0
  | x :: r => uptoBulkEntry x + uptoBulkEntries r
def uptoBulkEntry {H : Type} : Lit × DataW H → Nat
  | (.string bytes, d) => bytes.length + uptoBulk d + 1
  | (_, d) => uptoBulk d + 1
 end
def uptoSmall : (H : Type) → List (DataW H) → Bool := fun _ ds => decide (uptoBulkAll ds ≤ 1048576)
def OpenSpec.upto (s : _root_.Go.ChangeSpec) : _root_.Go.OpenSpec := { _root_.Go.OpenSpec.ofChange s with cond := some uptoSmall }

/-- 'witanlaw05.QuorumIs', WHERE WHAT IT READS IS OF BULK AT MOST 1048576: true; the input reads as it did. -/
def quorumIsUptoRow : OpenClaim := { program := "ytehopfedgkmalaa", sum := "f5ad1533cfab811134bba349ba8a7977d0a675e014efbf2dd54e697277ab2f16", func := "witan/witanlaw05.QuorumIs", spec := "quorumIs", unfollowed := true, recurses := true, apart := false, narrowed := true }
def QuorumIsUptoSaid : Prop := quorumIsUptoRow.holds Try.pinned (OpenSpec.upto quorumIsSpec)

/-- 'witanlaw05.QuorumLeast', WHERE WHAT IT READS IS OF BULK AT MOST 1048576: true; the input reads as it did. -/
def quorumLeastUptoRow : OpenClaim := { program := "ytehopfedgkmalaa", sum := "f5ad1533cfab811134bba349ba8a7977d0a675e014efbf2dd54e697277ab2f16", func := "witan/witanlaw05.QuorumLeast", spec := "quorumLeast", unfollowed := true, recurses := true, apart := false, narrowed := true }
def QuorumLeastUptoSaid : Prop := quorumLeastUptoRow.holds Try.pinned (OpenSpec.upto quorumLeastSpec)

/-- 'witanlaw05.QuorumMeets', WHERE WHAT IT READS IS OF BULK AT MOST 1048576: true; the input reads as it did. -/
def quorumMeetsUptoRow : OpenClaim := { program := "ytehopfedgkmalaa", sum := "f5ad1533cfab811134bba349ba8a7977d0a675e014efbf2dd54e697277ab2f16", func := "witan/witanlaw05.QuorumMeets", spec := "quorumMeets", unfollowed := true, recurses := true, apart := false, narrowed := true }
def QuorumMeetsUptoSaid : Prop := quorumMeetsUptoRow.holds Try.pinned (OpenSpec.upto quorumMeetsSpec)

/-- 'witanlaw05.QuorumGrows', WHERE WHAT IT READS IS OF BULK AT MOST 1048576: true; the input reads as it did. -/
def quorumGrowsUptoRow : OpenClaim := { program := "ytehopfedgkmalaa", sum := "f5ad1533cfab811134bba349ba8a7977d0a675e014efbf2dd54e697277ab2f16", func := "witan/witanlaw05.QuorumGrows", spec := "quorumGrows", unfollowed := true, recurses := true, apart := false, narrowed := true }
def QuorumGrowsUptoSaid : Prop := quorumGrowsUptoRow.holds Try.pinned (OpenSpec.upto quorumGrowsSpec)

/-- 'witanlaw05.QuorumBlocks', WHERE WHAT IT READS IS OF BULK AT MOST 1048576: true; the input reads as it did. -/
def quorumBlocksUptoRow : OpenClaim := { program := "ytehopfedgkmalaa", sum := "f5ad1533cfab811134bba349ba8a7977d0a675e014efbf2dd54e697277ab2f16", func := "witan/witanlaw05.QuorumBlocks", spec := "quorumBlocks", unfollowed := true, recurses := true, apart := false, narrowed := true }
def QuorumBlocksUptoSaid : Prop := quorumBlocksUptoRow.holds Try.pinned (OpenSpec.upto quorumBlocksSpec)

/-- 'witanlaw17.VoteLays', WHERE WHAT IT READS IS OF BULK AT MOST 1048576: true; the input reads as it did. -/
def voteLaysUptoRow : OpenClaim := { program := "ytehopfedgkmalaa", sum := "f5ad1533cfab811134bba349ba8a7977d0a675e014efbf2dd54e697277ab2f16", func := "witan/witanlaw17.VoteLays", spec := "voteLays", inPlace := ["slices.overlaps[witan/api.Vote]"], unfollowed := true, recurses := true, apart := false, narrowed := true }
def VoteLaysUptoSaid : Prop := voteLaysUptoRow.holds Try.pinned (OpenSpec.upto voteLaysSpec)

/-- 'witanlaw17.VoteWins', WHERE WHAT IT READS IS OF BULK AT MOST 1048576: true; the input reads as it did. -/
def voteWinsUptoRow : OpenClaim := { program := "ytehopfedgkmalaa", sum := "f5ad1533cfab811134bba349ba8a7977d0a675e014efbf2dd54e697277ab2f16", func := "witan/witanlaw17.VoteWins", spec := "voteWins", unfollowed := true, recurses := true, apart := false, narrowed := true }
def VoteWinsUptoSaid : Prop := voteWinsUptoRow.holds Try.pinned (OpenSpec.upto voteWinsSpec)

/-- 'witanlaw17.VoteOne', WHERE WHAT IT READS IS OF BULK AT MOST 1048576: true; the input reads as it did. -/
def voteOneUptoRow : OpenClaim := { program := "ytehopfedgkmalaa", sum := "f5ad1533cfab811134bba349ba8a7977d0a675e014efbf2dd54e697277ab2f16", func := "witan/witanlaw17.VoteOne", spec := "voteOne", inPlace := ["slices.overlaps[witan/api.Vote]"], unfollowed := true, recurses := true, apart := false, narrowed := true }
def VoteOneUptoSaid : Prop := voteOneUptoRow.holds Try.pinned (OpenSpec.upto voteOneSpec)

/-- 'witanlaw17.VoteTurns', WHERE WHAT IT READS IS OF BULK AT MOST 1048576: true; the input reads as it did. -/
def voteTurnsUptoRow : OpenClaim := { program := "ytehopfedgkmalaa", sum := "f5ad1533cfab811134bba349ba8a7977d0a675e014efbf2dd54e697277ab2f16", func := "witan/witanlaw17.VoteTurns", spec := "voteTurns", inPlace := ["slices.overlaps[witan/api.Vote]"], unfollowed := true, recurses := true, apart := false, narrowed := true }
def VoteTurnsUptoSaid : Prop := voteTurnsUptoRow.holds Try.pinned (OpenSpec.upto voteTurnsSpec)

end Rows
end Go.Proofs.Ytehopfedgkmalaa
