/-
  No cell of these rows narrows 'for every input' (looked for: loops, veiled, ifaces, maps, wideKeys, modest, calm, conditions, laid).
  DERIVED. THE GIVEN ROWS OF THIS SEAT. 12 by the template 'for every input the law returns true; each argument reads behind the call as it read before'; 0 by the template 'total and deterministic' (their statements: YtefhcofecdecgaaTotals.lean).
  GIVEN WITH THE SEED: the statements are not yours to turn. If you find one false, say at which input.
  Laid BY PROGRAM, IN A SANDBOX (cutbox-rows.mjs): the forced cells as the released guide's own fill.sh prints them over the translation b0bf7c9f34d9c8aa… (all of the seat's roots in one cut). By AI agents, Wed Nov 11 2026. No macro, syntax, notation, axiom, sorry.
-/
import Derived.Test.YtefhcofecdecgaaChecked
import GoSem.Claim
import GoSem.ClaimJoined
import GoSem.ClaimMapViews
import Derived.JoinedTies
import Derived.KernelRfl
namespace Go.Proofs.Ytefhcofecdecgaa
/- THE CELL 'sum', in the pinned program and in every row, IS THE sha256 OF THE DUMP (.gsa) THAT YtefhcofecdecgaaProg.lean LOADS. Nothing in Lean hashes anything: it is a label: what it is worth is what the hold of that sum in a sandbox is worth. -/
noncomputable def Try.pinned : Pinned := { name := "ytefhcofecdecgaa", sum := "b0bf7c9f34d9c8aab3d77b81ad805f6885dda678bc4b130595a278047d185de1", checked := Try.checked }
namespace Rows
def none {H : Type} : Left H := { results := [], args := [] }

/-- 'witanlaw06.DeltaDiffs': WHATEVER THE INPUT: true; the input reads as it did. -/
def deltaDiffsSpec : ChangeSpec := { name := "deltaDiffs", fn := fun _ => fun
  | [d1, d2, d3] => { results := [.lit (.bool true)], args := [d1, d2, d3] }
  | _ => none }
def deltaDiffsRow : OpenClaim := { program := "ytefhcofecdecgaa", sum := "b0bf7c9f34d9c8aab3d77b81ad805f6885dda678bc4b130595a278047d185de1", func := "witan/witanlaw06.DeltaDiffs", spec := "deltaDiffs", unfollowed := true, recurses := true, apart := false }
def DeltaDiffsSaid : Prop := deltaDiffsRow.holds Try.pinned (OpenSpec.ofChange deltaDiffsSpec)

/-- ITS FALSE NEIGHBOUR: 'it returns false'. Refute it at one input. -/
def deltaDiffsWrong : ChangeSpec := { name := "deltaDiffs", fn := fun _ => fun
  | [d1, d2, d3] => { results := [.lit (.bool false)], args := [d1, d2, d3] }
  | _ => none }
def DeltaDiffsWrongFalsely : Prop := deltaDiffsRow.holds Try.pinned (OpenSpec.ofChange deltaDiffsWrong)

/-- 'witanlaw17.VoteLays': WHATEVER THE INPUT: true; the input reads as it did. -/
def voteLaysSpec : ChangeSpec := { name := "voteLays", fn := fun _ => fun
  | [d1, d2] => { results := [.lit (.bool true)], args := [d1, d2] }
  | _ => none }
def voteLaysRow : OpenClaim := { program := "ytefhcofecdecgaa", sum := "b0bf7c9f34d9c8aab3d77b81ad805f6885dda678bc4b130595a278047d185de1", func := "witan/witanlaw17.VoteLays", spec := "voteLays", inPlace := ["slices.overlaps[witan/api.Vote]"], unfollowed := true, recurses := true, apart := false }
def VoteLaysSaid : Prop := voteLaysRow.holds Try.pinned (OpenSpec.ofChange voteLaysSpec)

/-- ITS FALSE NEIGHBOUR: 'it returns false'. Refute it at one input. -/
def voteLaysWrong : ChangeSpec := { name := "voteLays", fn := fun _ => fun
  | [d1, d2] => { results := [.lit (.bool false)], args := [d1, d2] }
  | _ => none }
def VoteLaysWrongFalsely : Prop := voteLaysRow.holds Try.pinned (OpenSpec.ofChange voteLaysWrong)

/-- 'witanlaw17.VoteOne': WHATEVER THE INPUT: true; the input reads as it did. -/
def voteOneSpec : ChangeSpec := { name := "voteOne", fn := fun _ => fun
  | [d1, d2, d3] => { results := [.lit (.bool true)], args := [d1, d2, d3] }
  | _ => none }
def voteOneRow : OpenClaim := { program := "ytefhcofecdecgaa", sum := "b0bf7c9f34d9c8aab3d77b81ad805f6885dda678bc4b130595a278047d185de1", func := "witan/witanlaw17.VoteOne", spec := "voteOne", inPlace := ["slices.overlaps[witan/api.Vote]"], unfollowed := true, recurses := true, apart := false }
def VoteOneSaid : Prop := voteOneRow.holds Try.pinned (OpenSpec.ofChange voteOneSpec)

/-- ITS FALSE NEIGHBOUR: 'it returns false'. Refute it at one input. -/
def voteOneWrong : ChangeSpec := { name := "voteOne", fn := fun _ => fun
  | [d1, d2, d3] => { results := [.lit (.bool false)], args := [d1, d2, d3] }
  | _ => none }
def VoteOneWrongFalsely : Prop := voteOneRow.holds Try.pinned (OpenSpec.ofChange voteOneWrong)

/-- 'witanlaw17.VoteTurns': WHATEVER THE INPUT: true; the input reads as it did. -/
def voteTurnsSpec : ChangeSpec := { name := "voteTurns", fn := fun _ => fun
  | [d1, d2] => { results := [.lit (.bool true)], args := [d1, d2] }
  | _ => none }
def voteTurnsRow : OpenClaim := { program := "ytefhcofecdecgaa", sum := "b0bf7c9f34d9c8aab3d77b81ad805f6885dda678bc4b130595a278047d185de1", func := "witan/witanlaw17.VoteTurns", spec := "voteTurns", inPlace := ["slices.overlaps[witan/api.Vote]"], unfollowed := true, recurses := true, apart := false }
def VoteTurnsSaid : Prop := voteTurnsRow.holds Try.pinned (OpenSpec.ofChange voteTurnsSpec)

/-- ITS FALSE NEIGHBOUR: 'it returns false'. Refute it at one input. -/
def voteTurnsWrong : ChangeSpec := { name := "voteTurns", fn := fun _ => fun
  | [d1, d2] => { results := [.lit (.bool false)], args := [d1, d2] }
  | _ => none }
def VoteTurnsWrongFalsely : Prop := voteTurnsRow.holds Try.pinned (OpenSpec.ofChange voteTurnsWrong)

/-- 'witanlaw18.ElectPlays': WHATEVER THE INPUT: true; the input reads as it did. -/
def electPlaysSpec : ChangeSpec := { name := "electPlays", fn := fun _ => fun
  | [d1, d2, d3] => { results := [.lit (.bool true)], args := [d1, d2, d3] }
  | _ => none }
def electPlaysRow : OpenClaim := { program := "ytefhcofecdecgaa", sum := "b0bf7c9f34d9c8aab3d77b81ad805f6885dda678bc4b130595a278047d185de1", func := "witan/witanlaw18.ElectPlays", spec := "electPlays", inPlace := ["slices.overlaps[witan/api.Vote]"], unfollowed := true, recurses := true, apart := false }
def ElectPlaysSaid : Prop := electPlaysRow.holds Try.pinned (OpenSpec.ofChange electPlaysSpec)

/-- ITS FALSE NEIGHBOUR: 'it returns false'. Refute it at one input. -/
def electPlaysWrong : ChangeSpec := { name := "electPlays", fn := fun _ => fun
  | [d1, d2, d3] => { results := [.lit (.bool false)], args := [d1, d2, d3] }
  | _ => none }
def ElectPlaysWrongFalsely : Prop := electPlaysRow.holds Try.pinned (OpenSpec.ofChange electPlaysWrong)

/-- 'witanlaw18.ElectRises': WHATEVER THE INPUT: true; the input reads as it did. -/
def electRisesSpec : ChangeSpec := { name := "electRises", fn := fun _ => fun
  | [d1, d2, d3] => { results := [.lit (.bool true)], args := [d1, d2, d3] }
  | _ => none }
def electRisesRow : OpenClaim := { program := "ytefhcofecdecgaa", sum := "b0bf7c9f34d9c8aab3d77b81ad805f6885dda678bc4b130595a278047d185de1", func := "witan/witanlaw18.ElectRises", spec := "electRises", inPlace := ["slices.overlaps[witan/api.Vote]"], unfollowed := true, recurses := true, apart := false }
def ElectRisesSaid : Prop := electRisesRow.holds Try.pinned (OpenSpec.ofChange electRisesSpec)

/-- ITS FALSE NEIGHBOUR: 'it returns false'. Refute it at one input. -/
def electRisesWrong : ChangeSpec := { name := "electRises", fn := fun _ => fun
  | [d1, d2, d3] => { results := [.lit (.bool false)], args := [d1, d2, d3] }
  | _ => none }
def ElectRisesWrongFalsely : Prop := electRisesRow.holds Try.pinned (OpenSpec.ofChange electRisesWrong)

/-- 'witanlaw18.ElectOne': WHATEVER THE INPUT: true; the input reads as it did. -/
def electOneSpec : ChangeSpec := { name := "electOne", fn := fun _ => fun
  | [d1, d2, d3] => { results := [.lit (.bool true)], args := [d1, d2, d3] }
  | _ => none }
def electOneRow : OpenClaim := { program := "ytefhcofecdecgaa", sum := "b0bf7c9f34d9c8aab3d77b81ad805f6885dda678bc4b130595a278047d185de1", func := "witan/witanlaw18.ElectOne", spec := "electOne", inPlace := ["slices.overlaps[witan/api.Vote]"], unfollowed := true, recurses := true, apart := false }
def ElectOneSaid : Prop := electOneRow.holds Try.pinned (OpenSpec.ofChange electOneSpec)

/-- ITS FALSE NEIGHBOUR: 'it returns false'. Refute it at one input. -/
def electOneWrong : ChangeSpec := { name := "electOne", fn := fun _ => fun
  | [d1, d2, d3] => { results := [.lit (.bool false)], args := [d1, d2, d3] }
  | _ => none }
def ElectOneWrongFalsely : Prop := electOneRow.holds Try.pinned (OpenSpec.ofChange electOneWrong)

/-- 'witanlaw18.ElectAll': WHATEVER THE INPUT: true; the input reads as it did. -/
def electAllSpec : ChangeSpec := { name := "electAll", fn := fun _ => fun
  | [d1, d2] => { results := [.lit (.bool true)], args := [d1, d2] }
  | _ => none }
def electAllRow : OpenClaim := { program := "ytefhcofecdecgaa", sum := "b0bf7c9f34d9c8aab3d77b81ad805f6885dda678bc4b130595a278047d185de1", func := "witan/witanlaw18.ElectAll", spec := "electAll", inPlace := ["slices.overlaps[witan/api.Vote]"], unfollowed := true, recurses := true, apart := false }
def ElectAllSaid : Prop := electAllRow.holds Try.pinned (OpenSpec.ofChange electAllSpec)

/-- ITS FALSE NEIGHBOUR: 'it returns false'. Refute it at one input. -/
def electAllWrong : ChangeSpec := { name := "electAll", fn := fun _ => fun
  | [d1, d2] => { results := [.lit (.bool false)], args := [d1, d2] }
  | _ => none }
def ElectAllWrongFalsely : Prop := electAllRow.holds Try.pinned (OpenSpec.ofChange electAllWrong)

/-- 'witanlaw20.ReconfRoles': WHATEVER THE INPUT: true; the input reads as it did. -/
def reconfRolesSpec : ChangeSpec := { name := "reconfRoles", fn := fun _ => fun
  | [d1, d2] => { results := [.lit (.bool true)], args := [d1, d2] }
  | _ => none }
def reconfRolesRow : OpenClaim := { program := "ytefhcofecdecgaa", sum := "b0bf7c9f34d9c8aab3d77b81ad805f6885dda678bc4b130595a278047d185de1", func := "witan/witanlaw20.ReconfRoles", spec := "reconfRoles", unfollowed := true, recurses := true, apart := false }
def ReconfRolesSaid : Prop := reconfRolesRow.holds Try.pinned (OpenSpec.ofChange reconfRolesSpec)

/-- ITS FALSE NEIGHBOUR: 'it returns false'. Refute it at one input. -/
def reconfRolesWrong : ChangeSpec := { name := "reconfRoles", fn := fun _ => fun
  | [d1, d2] => { results := [.lit (.bool false)], args := [d1, d2] }
  | _ => none }
def ReconfRolesWrongFalsely : Prop := reconfRolesRow.holds Try.pinned (OpenSpec.ofChange reconfRolesWrong)

/-- 'witanlaw25.LinkPairs': WHATEVER THE INPUT: true; the input reads as it did. -/
def linkPairsSpec : ChangeSpec := { name := "linkPairs", fn := fun _ => fun
  | [d1, d2, d3] => { results := [.lit (.bool true)], args := [d1, d2, d3] }
  | _ => none }
def linkPairsRow : OpenClaim := { program := "ytefhcofecdecgaa", sum := "b0bf7c9f34d9c8aab3d77b81ad805f6885dda678bc4b130595a278047d185de1", func := "witan/witanlaw25.LinkPairs", spec := "linkPairs", unfollowed := true, recurses := true, apart := false }
def LinkPairsSaid : Prop := linkPairsRow.holds Try.pinned (OpenSpec.ofChange linkPairsSpec)

/-- ITS FALSE NEIGHBOUR: 'it returns false'. Refute it at one input. -/
def linkPairsWrong : ChangeSpec := { name := "linkPairs", fn := fun _ => fun
  | [d1, d2, d3] => { results := [.lit (.bool false)], args := [d1, d2, d3] }
  | _ => none }
def LinkPairsWrongFalsely : Prop := linkPairsRow.holds Try.pinned (OpenSpec.ofChange linkPairsWrong)

/-- 'witanlaw26.ClientMoves': WHATEVER THE INPUT: true; the input reads as it did. -/
def clientMovesSpec : ChangeSpec := { name := "clientMoves", fn := fun _ => fun
  | [d1, d2, d3] => { results := [.lit (.bool true)], args := [d1, d2, d3] }
  | _ => none }
def clientMovesRow : OpenClaim := { program := "ytefhcofecdecgaa", sum := "b0bf7c9f34d9c8aab3d77b81ad805f6885dda678bc4b130595a278047d185de1", func := "witan/witanlaw26.ClientMoves", spec := "clientMoves", unfollowed := true, recurses := true, apart := false }
def ClientMovesSaid : Prop := clientMovesRow.holds Try.pinned (OpenSpec.ofChange clientMovesSpec)

/-- ITS FALSE NEIGHBOUR: 'it returns false'. Refute it at one input. -/
def clientMovesWrong : ChangeSpec := { name := "clientMoves", fn := fun _ => fun
  | [d1, d2, d3] => { results := [.lit (.bool false)], args := [d1, d2, d3] }
  | _ => none }
def ClientMovesWrongFalsely : Prop := clientMovesRow.holds Try.pinned (OpenSpec.ofChange clientMovesWrong)

/-- 'witanlaw26.ClientStays': WHATEVER THE INPUT: true; the input reads as it did. -/
def clientStaysSpec : ChangeSpec := { name := "clientStays", fn := fun _ => fun
  | [d1, d2, d3] => { results := [.lit (.bool true)], args := [d1, d2, d3] }
  | _ => none }
def clientStaysRow : OpenClaim := { program := "ytefhcofecdecgaa", sum := "b0bf7c9f34d9c8aab3d77b81ad805f6885dda678bc4b130595a278047d185de1", func := "witan/witanlaw26.ClientStays", spec := "clientStays", unfollowed := true, recurses := true, apart := false }
def ClientStaysSaid : Prop := clientStaysRow.holds Try.pinned (OpenSpec.ofChange clientStaysSpec)

/-- ITS FALSE NEIGHBOUR: 'it returns false'. Refute it at one input. -/
def clientStaysWrong : ChangeSpec := { name := "clientStays", fn := fun _ => fun
  | [d1, d2, d3] => { results := [.lit (.bool false)], args := [d1, d2, d3] }
  | _ => none }
def ClientStaysWrongFalsely : Prop := clientStaysRow.holds Try.pinned (OpenSpec.ofChange clientStaysWrong)

/- THE SECOND FORM. 'bulk': how many values and letters a reading holds, each counted each time it is reached (what is shared counts as often as it is met; a slice's spare places count too). A statement '..UptoSaid' is the law's where the arguments, and the package variables that the reading takes, are together of bulk at most 1048576: NARROWER than '..Said'. Prove '..Said' where nothing that the law and all that it calls make is longer than what came in: it says more and counts as full. Else prove '..UptoSaid'. A law counts once. -/
mutual
def uptoBulk {H : Type} : DataW H → Nat
  | .lit (.string bytes) => bytes.length + 1
  | .lit _ => 1
  | .nil => 1
  | .ptr d => uptoBulk d + 1
  | .slice elems spare => uptoBulkAll elems + uptoBulkAll spare + 1
  | .agg parts => uptoBulkAll parts + 1
  | .iface _ d => uptoBulk d + 1
  | .map entries => uptoBulkEntries entries + 1
  | .held _ => 1
def uptoBulkAll {H : Type} : List (DataW H) → Nat
  | [] => 0
  | d :: r => uptoBulk d + uptoBulkAll r
def uptoBulkEntries {H : Type} : List (Lit × DataW H) → Nat
  | [] => 0
  | x :: r => uptoBulkEntry x + uptoBulkEntries r
def uptoBulkEntry {H : Type} : Lit × DataW H → Nat
  | (.string bytes, d) => bytes.length + uptoBulk d + 1
  | (_, d) => uptoBulk d + 1
 end
def uptoSmall : (H : Type) → List (DataW H) → Bool := fun _ ds => decide (uptoBulkAll ds ≤ 1048576)
def OpenSpec.upto (s : _root_.Go.ChangeSpec) : _root_.Go.OpenSpec := { _root_.Go.OpenSpec.ofChange s with cond := some uptoSmall }

/-- 'witanlaw06.DeltaDiffs', WHERE WHAT IT READS IS OF BULK AT MOST 1048576: true; the input reads as it did. -/
def deltaDiffsUptoRow : OpenClaim := { program := "ytefhcofecdecgaa", sum := "b0bf7c9f34d9c8aab3d77b81ad805f6885dda678bc4b130595a278047d185de1", func := "witan/witanlaw06.DeltaDiffs", spec := "deltaDiffs", unfollowed := true, recurses := true, apart := false, narrowed := true }
def DeltaDiffsUptoSaid : Prop := deltaDiffsUptoRow.holds Try.pinned (OpenSpec.upto deltaDiffsSpec)

/-- 'witanlaw17.VoteLays', WHERE WHAT IT READS IS OF BULK AT MOST 1048576: true; the input reads as it did. -/
def voteLaysUptoRow : OpenClaim := { program := "ytefhcofecdecgaa", sum := "b0bf7c9f34d9c8aab3d77b81ad805f6885dda678bc4b130595a278047d185de1", func := "witan/witanlaw17.VoteLays", spec := "voteLays", inPlace := ["slices.overlaps[witan/api.Vote]"], unfollowed := true, recurses := true, apart := false, narrowed := true }
def VoteLaysUptoSaid : Prop := voteLaysUptoRow.holds Try.pinned (OpenSpec.upto voteLaysSpec)

/-- 'witanlaw17.VoteOne', WHERE WHAT IT READS IS OF BULK AT MOST 1048576: true; the input reads as it did. -/
def voteOneUptoRow : OpenClaim := { program := "ytefhcofecdecgaa", sum := "b0bf7c9f34d9c8aab3d77b81ad805f6885dda678bc4b130595a278047d185de1", func := "witan/witanlaw17.VoteOne", spec := "voteOne", inPlace := ["slices.overlaps[witan/api.Vote]"], unfollowed := true, recurses := true, apart := false, narrowed := true }
def VoteOneUptoSaid : Prop := voteOneUptoRow.holds Try.pinned (OpenSpec.upto voteOneSpec)

/-- 'witanlaw17.VoteTurns', WHERE WHAT IT READS IS OF BULK AT MOST 1048576: true; the input reads as it did. -/
def voteTurnsUptoRow : OpenClaim := { program := "ytefhcofecdecgaa", sum := "b0bf7c9f34d9c8aab3d77b81ad805f6885dda678bc4b130595a278047d185de1", func := "witan/witanlaw17.VoteTurns", spec := "voteTurns", inPlace := ["slices.overlaps[witan/api.Vote]"], unfollowed := true, recurses := true, apart := false, narrowed := true }
def VoteTurnsUptoSaid : Prop := voteTurnsUptoRow.holds Try.pinned (OpenSpec.upto voteTurnsSpec)

/-- 'witanlaw18.ElectPlays', WHERE WHAT IT READS IS OF BULK AT MOST 1048576: true; the input reads as it did. -/
def electPlaysUptoRow : OpenClaim := { program := "ytefhcofecdecgaa", sum := "b0bf7c9f34d9c8aab3d77b81ad805f6885dda678bc4b130595a278047d185de1", func := "witan/witanlaw18.ElectPlays", spec := "electPlays", inPlace := ["slices.overlaps[witan/api.Vote]"], unfollowed := true, recurses := true, apart := false, narrowed := true }
def ElectPlaysUptoSaid : Prop := electPlaysUptoRow.holds Try.pinned (OpenSpec.upto electPlaysSpec)

/-- 'witanlaw18.ElectRises', WHERE WHAT IT READS IS OF BULK AT MOST 1048576: true; the input reads as it did. -/
def electRisesUptoRow : OpenClaim := { program := "ytefhcofecdecgaa", sum := "b0bf7c9f34d9c8aab3d77b81ad805f6885dda678bc4b130595a278047d185de1", func := "witan/witanlaw18.ElectRises", spec := "electRises", inPlace := ["slices.overlaps[witan/api.Vote]"], unfollowed := true, recurses := true, apart := false, narrowed := true }
def ElectRisesUptoSaid : Prop := electRisesUptoRow.holds Try.pinned (OpenSpec.upto electRisesSpec)

/-- 'witanlaw18.ElectOne', WHERE WHAT IT READS IS OF BULK AT MOST 1048576: true; the input reads as it did. -/
def electOneUptoRow : OpenClaim := { program := "ytefhcofecdecgaa", sum := "b0bf7c9f34d9c8aab3d77b81ad805f6885dda678bc4b130595a278047d185de1", func := "witan/witanlaw18.ElectOne", spec := "electOne", inPlace := ["slices.overlaps[witan/api.Vote]"], unfollowed := true, recurses := true, apart := false, narrowed := true }
def ElectOneUptoSaid : Prop := electOneUptoRow.holds Try.pinned (OpenSpec.upto electOneSpec)

/-- 'witanlaw18.ElectAll', WHERE WHAT IT READS IS OF BULK AT MOST 1048576: true; the input reads as it did. -/
def electAllUptoRow : OpenClaim := { program := "ytefhcofecdecgaa", sum := "b0bf7c9f34d9c8aab3d77b81ad805f6885dda678bc4b130595a278047d185de1", func := "witan/witanlaw18.ElectAll", spec := "electAll", inPlace := ["slices.overlaps[witan/api.Vote]"], unfollowed := true, recurses := true, apart := false, narrowed := true }
def ElectAllUptoSaid : Prop := electAllUptoRow.holds Try.pinned (OpenSpec.upto electAllSpec)

/-- 'witanlaw20.ReconfRoles', WHERE WHAT IT READS IS OF BULK AT MOST 1048576: true; the input reads as it did. -/
def reconfRolesUptoRow : OpenClaim := { program := "ytefhcofecdecgaa", sum := "b0bf7c9f34d9c8aab3d77b81ad805f6885dda678bc4b130595a278047d185de1", func := "witan/witanlaw20.ReconfRoles", spec := "reconfRoles", unfollowed := true, recurses := true, apart := false, narrowed := true }
def ReconfRolesUptoSaid : Prop := reconfRolesUptoRow.holds Try.pinned (OpenSpec.upto reconfRolesSpec)

/-- 'witanlaw25.LinkPairs', WHERE WHAT IT READS IS OF BULK AT MOST 1048576: true; the input reads as it did. -/
def linkPairsUptoRow : OpenClaim := { program := "ytefhcofecdecgaa", sum := "b0bf7c9f34d9c8aab3d77b81ad805f6885dda678bc4b130595a278047d185de1", func := "witan/witanlaw25.LinkPairs", spec := "linkPairs", unfollowed := true, recurses := true, apart := false, narrowed := true }
def LinkPairsUptoSaid : Prop := linkPairsUptoRow.holds Try.pinned (OpenSpec.upto linkPairsSpec)

/-- 'witanlaw26.ClientMoves', WHERE WHAT IT READS IS OF BULK AT MOST 1048576: true; the input reads as it did. -/
def clientMovesUptoRow : OpenClaim := { program := "ytefhcofecdecgaa", sum := "b0bf7c9f34d9c8aab3d77b81ad805f6885dda678bc4b130595a278047d185de1", func := "witan/witanlaw26.ClientMoves", spec := "clientMoves", unfollowed := true, recurses := true, apart := false, narrowed := true }
def ClientMovesUptoSaid : Prop := clientMovesUptoRow.holds Try.pinned (OpenSpec.upto clientMovesSpec)

/-- 'witanlaw26.ClientStays', WHERE WHAT IT READS IS OF BULK AT MOST 1048576: true; the input reads as it did. -/
def clientStaysUptoRow : OpenClaim := { program := "ytefhcofecdecgaa", sum := "b0bf7c9f34d9c8aab3d77b81ad805f6885dda678bc4b130595a278047d185de1", func := "witan/witanlaw26.ClientStays", spec := "clientStays", unfollowed := true, recurses := true, apart := false, narrowed := true }
def ClientStaysUptoSaid : Prop := clientStaysUptoRow.holds Try.pinned (OpenSpec.upto clientStaysSpec)

end Rows
end Go.Proofs.Ytefhcofecdecgaa
