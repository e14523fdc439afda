/-
  No cell of these rows narrows 'for every input' (looked for: loops, veiled, ifaces, maps, wideKeys, modest, calm, conditions, laid).
  DERIVED. THE GIVEN ROWS OF THIS SEAT. 6 by the template 'for every input the law returns true; each argument reads behind the call as it read before'; 0 by the template 'total and deterministic' (their statements: YtljeijinfhboaaaTotals.lean).
  GIVEN WITH THE SEED: the statements are not yours to turn. If you find one false, say at which input.
  Laid BY PROGRAM, IN A SANDBOX (cutbox-rows.mjs): the forced cells as the released guide's own fill.sh prints them over the translation bf480af7aa76292c… (all of the seat's roots in one cut). By AI agents, Wed Nov 11 2026. No macro, syntax, notation, axiom, sorry.
-/
import Derived.Test.YtljeijinfhboaaaChecked
import GoSem.Claim
import GoSem.ClaimJoined
import GoSem.ClaimMapViews
import Derived.JoinedTies
import Derived.KernelRfl
namespace Go.Proofs.Ytljeijinfhboaaa
/- THE CELL 'sum', in the pinned program and in every row, IS THE sha256 OF THE DUMP (.gsa) THAT YtljeijinfhboaaaProg.lean LOADS. Nothing in Lean hashes anything: it is a label: what it is worth is what the hold of that sum in a sandbox is worth. -/
noncomputable def Try.pinned : Pinned := { name := "ytljeijinfhboaaa", sum := "bf480af7aa76292cb1957210643755fd539c3f3c986fc3bb92c298caca868c96", checked := Try.checked }
namespace Rows
def none {H : Type} : Left H := { results := [], args := [] }

/-- 'witanlaw06.DeltaDiffs': WHATEVER THE INPUT: true; the input reads as it did. -/
def deltaDiffsSpec : ChangeSpec := { name := "deltaDiffs", fn := fun _ => fun
  | [d1, d2, d3] => { results := [.lit (.bool true)], args := [d1, d2, d3] }
  | _ => none }
def deltaDiffsRow : OpenClaim := { program := "ytljeijinfhboaaa", sum := "bf480af7aa76292cb1957210643755fd539c3f3c986fc3bb92c298caca868c96", func := "witan/witanlaw06.DeltaDiffs", spec := "deltaDiffs", unfollowed := true, recurses := true, apart := false }
def DeltaDiffsSaid : Prop := deltaDiffsRow.holds Try.pinned (OpenSpec.ofChange deltaDiffsSpec)

/-- ITS FALSE NEIGHBOUR: 'it returns false'. Refute it at one input. -/
def deltaDiffsWrong : ChangeSpec := { name := "deltaDiffs", fn := fun _ => fun
  | [d1, d2, d3] => { results := [.lit (.bool false)], args := [d1, d2, d3] }
  | _ => none }
def DeltaDiffsWrongFalsely : Prop := deltaDiffsRow.holds Try.pinned (OpenSpec.ofChange deltaDiffsWrong)

/-- 'witanlaw06.DeltaOne': WHATEVER THE INPUT: true; the input reads as it did. -/
def deltaOneSpec : ChangeSpec := { name := "deltaOne", fn := fun _ => fun
  | [d1, d2, d3] => { results := [.lit (.bool true)], args := [d1, d2, d3] }
  | _ => none }
def deltaOneRow : OpenClaim := { program := "ytljeijinfhboaaa", sum := "bf480af7aa76292cb1957210643755fd539c3f3c986fc3bb92c298caca868c96", func := "witan/witanlaw06.DeltaOne", spec := "deltaOne", unfollowed := true, recurses := true, apart := false }
def DeltaOneSaid : Prop := deltaOneRow.holds Try.pinned (OpenSpec.ofChange deltaOneSpec)

/-- ITS FALSE NEIGHBOUR: 'it returns false'. Refute it at one input. -/
def deltaOneWrong : ChangeSpec := { name := "deltaOne", fn := fun _ => fun
  | [d1, d2, d3] => { results := [.lit (.bool false)], args := [d1, d2, d3] }
  | _ => none }
def DeltaOneWrongFalsely : Prop := deltaOneRow.holds Try.pinned (OpenSpec.ofChange deltaOneWrong)

/-- 'witanlaw20.ReconfRoles': WHATEVER THE INPUT: true; the input reads as it did. -/
def reconfRolesSpec : ChangeSpec := { name := "reconfRoles", fn := fun _ => fun
  | [d1, d2] => { results := [.lit (.bool true)], args := [d1, d2] }
  | _ => none }
def reconfRolesRow : OpenClaim := { program := "ytljeijinfhboaaa", sum := "bf480af7aa76292cb1957210643755fd539c3f3c986fc3bb92c298caca868c96", func := "witan/witanlaw20.ReconfRoles", spec := "reconfRoles", unfollowed := true, recurses := true, apart := false }
def ReconfRolesSaid : Prop := reconfRolesRow.holds Try.pinned (OpenSpec.ofChange reconfRolesSpec)

/-- ITS FALSE NEIGHBOUR: 'it returns false'. Refute it at one input. -/
def reconfRolesWrong : ChangeSpec := { name := "reconfRoles", fn := fun _ => fun
  | [d1, d2] => { results := [.lit (.bool false)], args := [d1, d2] }
  | _ => none }
def ReconfRolesWrongFalsely : Prop := reconfRolesRow.holds Try.pinned (OpenSpec.ofChange reconfRolesWrong)

/-- 'witanlaw26.ClientMoves': WHATEVER THE INPUT: true; the input reads as it did. -/
def clientMovesSpec : ChangeSpec := { name := "clientMoves", fn := fun _ => fun
  | [d1, d2, d3] => { results := [.lit (.bool true)], args := [d1, d2, d3] }
  | _ => none }
def clientMovesRow : OpenClaim := { program := "ytljeijinfhboaaa", sum := "bf480af7aa76292cb1957210643755fd539c3f3c986fc3bb92c298caca868c96", func := "witan/witanlaw26.ClientMoves", spec := "clientMoves", unfollowed := true, recurses := true, apart := false }
def ClientMovesSaid : Prop := clientMovesRow.holds Try.pinned (OpenSpec.ofChange clientMovesSpec)

/-- ITS FALSE NEIGHBOUR: 'it returns false'. Refute it at one input. -/
def clientMovesWrong : ChangeSpec := { name := "clientMoves", fn := fun _ => fun
  | [d1, d2, d3] => { results := [.lit (.bool false)], args := [d1, d2, d3] }
  | _ => none }
def ClientMovesWrongFalsely : Prop := clientMovesRow.holds Try.pinned (OpenSpec.ofChange clientMovesWrong)

/-- 'witanlaw26.ClientEven': WHATEVER THE INPUT: true; the input reads as it did. -/
def clientEvenSpec : ChangeSpec := { name := "clientEven", fn := fun _ => fun
  | [d1, d2] => { results := [.lit (.bool true)], args := [d1, d2] }
  | _ => none }
def clientEvenRow : OpenClaim := { program := "ytljeijinfhboaaa", sum := "bf480af7aa76292cb1957210643755fd539c3f3c986fc3bb92c298caca868c96", func := "witan/witanlaw26.ClientEven", spec := "clientEven", unfollowed := true, recurses := true, apart := false }
def ClientEvenSaid : Prop := clientEvenRow.holds Try.pinned (OpenSpec.ofChange clientEvenSpec)

/-- ITS FALSE NEIGHBOUR: 'it returns false'. Refute it at one input. -/
def clientEvenWrong : ChangeSpec := { name := "clientEven", fn := fun _ => fun
  | [d1, d2] => { results := [.lit (.bool false)], args := [d1, d2] }
  | _ => none }
def ClientEvenWrongFalsely : Prop := clientEvenRow.holds Try.pinned (OpenSpec.ofChange clientEvenWrong)

/-- 'witanlaw26.ClientStays': WHATEVER THE INPUT: true; the input reads as it did. -/
def clientStaysSpec : ChangeSpec := { name := "clientStays", fn := fun _ => fun
  | [d1, d2, d3] => { results := [.lit (.bool true)], args := [d1, d2, d3] }
  | _ => none }
def clientStaysRow : OpenClaim := { program := "ytljeijinfhboaaa", sum := "bf480af7aa76292cb1957210643755fd539c3f3c986fc3bb92c298caca868c96", func := "witan/witanlaw26.ClientStays", spec := "clientStays", unfollowed := true, recurses := true, apart := false }
def ClientStaysSaid : Prop := clientStaysRow.holds Try.pinned (OpenSpec.ofChange clientStaysSpec)

/-- ITS FALSE NEIGHBOUR: 'it returns false'. Refute it at one input. -/
def clientStaysWrong : ChangeSpec := { name := "clientStays", fn := fun _ => fun
  | [d1, d2, d3] => { results := [.lit (.bool false)], args := [d1, d2, d3] }
  | _ => none }
def ClientStaysWrongFalsely : Prop := clientStaysRow.holds Try.pinned (OpenSpec.ofChange clientStaysWrong)

/- THE SECOND FORM. 'bulk': how many values and letters a reading holds, each counted each time it is reached (what is shared counts as often as it is met; a slice's spare places count too). A statement '..UptoSaid' is the law's where the arguments, and the package variables that the reading takes, are together of bulk at most 1048576: NARROWER than '..Said'. Prove '..Said' where nothing that the law and all that it calls make is longer than what came in: it says more and counts as full. Else prove '..UptoSaid'. A law counts once. -/
mutual
def uptoBulk {H : Type} : DataW H → Nat
  | .lit (.string bytes) => bytes.length + 1
  | .lit _ => 1
  | .nil => 1
  | .ptr d => uptoBulk d + 1
  | .slice elems spare => uptoBulkAll elems + uptoBulkAll spare + 1
  | .agg parts => uptoBulkAll parts + 1
  | .iface _ d => uptoBulk d + 1
  | .map entries => uptoBulkEntries entries + 1
  | .held _ => 1
def uptoBulkAll {H : Type} : List (DataW H) → Nat
  | [] => 0
  | d :: r => uptoBulk d + uptoBulkAll r
def uptoBulkEntries {H : Type} : List (Lit × DataW H) → Nat
  | [] => 0
  | x :: r => uptoBulkEntry x + uptoBulkEntries r
def uptoBulkEntry {H : Type} : Lit × DataW H → Nat
  | (.string bytes, d) => bytes.length + uptoBulk d + 1
  | (_, d) => uptoBulk d + 1
 end
def uptoSmall : (H : Type) → List (DataW H) → Bool := fun _ ds => decide (uptoBulkAll ds ≤ 1048576)
def OpenSpec.upto (s : _root_.Go.ChangeSpec) : _root_.Go.OpenSpec := { _root_.Go.OpenSpec.ofChange s with cond := some uptoSmall }

/-- 'witanlaw06.DeltaDiffs', WHERE WHAT IT READS IS OF BULK AT MOST 1048576: true; the input reads as it did. -/
def deltaDiffsUptoRow : OpenClaim := { program := "ytljeijinfhboaaa", sum := "bf480af7aa76292cb1957210643755fd539c3f3c986fc3bb92c298caca868c96", func := "witan/witanlaw06.DeltaDiffs", spec := "deltaDiffs", unfollowed := true, recurses := true, apart := false, narrowed := true }
def DeltaDiffsUptoSaid : Prop := deltaDiffsUptoRow.holds Try.pinned (OpenSpec.upto deltaDiffsSpec)

/-- 'witanlaw06.DeltaOne', WHERE WHAT IT READS IS OF BULK AT MOST 1048576: true; the input reads as it did. -/
def deltaOneUptoRow : OpenClaim := { program := "ytljeijinfhboaaa", sum := "bf480af7aa76292cb1957210643755fd539c3f3c986fc3bb92c298caca868c96", func := "witan/witanlaw06.DeltaOne", spec := "deltaOne", unfollowed := true, recurses := true, apart := false, narrowed := true }
def DeltaOneUptoSaid : Prop := deltaOneUptoRow.holds Try.pinned (OpenSpec.upto deltaOneSpec)

/-- 'witanlaw20.ReconfRoles', WHERE WHAT IT READS IS OF BULK AT MOST 1048576: true; the input reads as it did. -/
def reconfRolesUptoRow : OpenClaim := { program := "ytljeijinfhboaaa", sum := "bf480af7aa76292cb1957210643755fd539c3f3c986fc3bb92c298caca868c96", func := "witan/witanlaw20.ReconfRoles", spec := "reconfRoles", unfollowed := true, recurses := true, apart := false, narrowed := true }
def ReconfRolesUptoSaid : Prop := reconfRolesUptoRow.holds Try.pinned (OpenSpec.upto reconfRolesSpec)

/-- 'witanlaw26.ClientMoves', WHERE WHAT IT READS IS OF BULK AT MOST 1048576: true; the input reads as it did. -/
def clientMovesUptoRow : OpenClaim := { program := "ytljeijinfhboaaa", sum := "bf480af7aa76292cb1957210643755fd539c3f3c986fc3bb92c298caca868c96", func := "witan/witanlaw26.ClientMoves", spec := "clientMoves", unfollowed := true, recurses := true, apart := false, narrowed := true }
def ClientMovesUptoSaid : Prop := clientMovesUptoRow.holds Try.pinned (OpenSpec.upto clientMovesSpec)

/-- 'witanlaw26.ClientEven', WHERE WHAT IT READS IS OF BULK AT MOST 1048576: true; the input reads as it did. -/
def clientEvenUptoRow : OpenClaim := { program := "ytljeijinfhboaaa", sum := "bf480af7aa76292cb1957210643755fd539c3f3c986fc3bb92c298caca868c96", func := "witan/witanlaw26.ClientEven", spec := "clientEven", unfollowed := true, recurses := true, apart := false, narrowed := true }
def ClientEvenUptoSaid : Prop := clientEvenUptoRow.holds Try.pinned (OpenSpec.upto clientEvenSpec)

/-- 'witanlaw26.ClientStays', WHERE WHAT IT READS IS OF BULK AT MOST 1048576: true; the input reads as it did. -/
def clientStaysUptoRow : OpenClaim := { program := "ytljeijinfhboaaa", sum := "bf480af7aa76292cb1957210643755fd539c3f3c986fc3bb92c298caca868c96", func := "witan/witanlaw26.ClientStays", spec := "clientStays", unfollowed := true, recurses := true, apart := false, narrowed := true }
def ClientStaysUptoSaid : Prop := clientStaysUptoRow.holds Try.pinned (OpenSpec.upto clientStaysSpec)

end Rows
end Go.Proofs.Ytljeijinfhboaaa
