/-
  No cell of these rows narrows 'for every input' (looked for: loops, veiled, ifaces, maps, wideKeys, modest, calm, conditions, laid).
  DERIVED. THE GIVEN ROWS OF THIS SEAT. 10 by the template 'for every input the law returns true; each argument reads behind the call as it read before'; 0 by the template 'total and deterministic' (their statements: YtpadfoaigbfekaaTotals.lean).
  GIVEN WITH THE SEED: the statements are not yours to turn. If you find one false, say at which input.
  Laid BY PROGRAM, IN A SANDBOX (cutbox-rows.mjs): the forced cells as the released guide's own fill.sh prints them over the translation b789fe154d2702b4… (all of the seat's roots in one cut). By AI agents, Wed Nov 11 2026. No macro, syntax, notation, axiom, sorry.
-/
import Derived.Test.YtpadfoaigbfekaaChecked
import GoSem.Claim
import GoSem.ClaimJoined
import GoSem.ClaimMapViews
import Derived.JoinedTies
import Derived.KernelRfl
namespace Go.Proofs.Ytpadfoaigbfekaa
/- THE CELL 'sum', in the pinned program and in every row, IS THE sha256 OF THE DUMP (.gsa) THAT YtpadfoaigbfekaaProg.lean LOADS. Nothing in Lean hashes anything: it is a label: what it is worth is what the hold of that sum in a sandbox is worth. -/
noncomputable def Try.pinned : Pinned := { name := "ytpadfoaigbfekaa", sum := "b789fe154d2702b49c4879b05f9f620897ef728405a93722b7380fb52b7dcc2b", checked := Try.checked }
namespace Rows
def none {H : Type} : Left H := { results := [], args := [] }

/-- 'witanlaw07.ZnodePuts': WHATEVER THE INPUT: true; the input reads as it did. -/
def znodePutsSpec : ChangeSpec := { name := "znodePuts", fn := fun _ => fun
  | [d1, d2, d3] => { results := [.lit (.bool true)], args := [d1, d2, d3] }
  | _ => none }
def znodePutsRow : OpenClaim := { program := "ytpadfoaigbfekaa", sum := "b789fe154d2702b49c4879b05f9f620897ef728405a93722b7380fb52b7dcc2b", func := "witan/witanlaw07.ZnodePuts", spec := "znodePuts", unfollowed := true, recurses := true, apart := false }
def ZnodePutsSaid : Prop := znodePutsRow.holds Try.pinned (OpenSpec.ofChange znodePutsSpec)

/-- ITS FALSE NEIGHBOUR: 'it returns false'. Refute it at one input. -/
def znodePutsWrong : ChangeSpec := { name := "znodePuts", fn := fun _ => fun
  | [d1, d2, d3] => { results := [.lit (.bool false)], args := [d1, d2, d3] }
  | _ => none }
def ZnodePutsWrongFalsely : Prop := znodePutsRow.holds Try.pinned (OpenSpec.ofChange znodePutsWrong)

/-- 'witanlaw07.ZnodeAsks': WHATEVER THE INPUT: true; the input reads as it did. -/
def znodeAsksSpec : ChangeSpec := { name := "znodeAsks", fn := fun _ => fun
  | [d1, d2, d3] => { results := [.lit (.bool true)], args := [d1, d2, d3] }
  | _ => none }
def znodeAsksRow : OpenClaim := { program := "ytpadfoaigbfekaa", sum := "b789fe154d2702b49c4879b05f9f620897ef728405a93722b7380fb52b7dcc2b", func := "witan/witanlaw07.ZnodeAsks", spec := "znodeAsks", unfollowed := true, recurses := true, apart := false }
def ZnodeAsksSaid : Prop := znodeAsksRow.holds Try.pinned (OpenSpec.ofChange znodeAsksSpec)

/-- ITS FALSE NEIGHBOUR: 'it returns false'. Refute it at one input. -/
def znodeAsksWrong : ChangeSpec := { name := "znodeAsks", fn := fun _ => fun
  | [d1, d2, d3] => { results := [.lit (.bool false)], args := [d1, d2, d3] }
  | _ => none }
def ZnodeAsksWrongFalsely : Prop := znodeAsksRow.holds Try.pinned (OpenSpec.ofChange znodeAsksWrong)

/-- 'witanlaw07.ZnodeStays': WHATEVER THE INPUT: true; the input reads as it did. -/
def znodeStaysSpec : ChangeSpec := { name := "znodeStays", fn := fun _ => fun
  | [d1, d2, d3] => { results := [.lit (.bool true)], args := [d1, d2, d3] }
  | _ => none }
def znodeStaysRow : OpenClaim := { program := "ytpadfoaigbfekaa", sum := "b789fe154d2702b49c4879b05f9f620897ef728405a93722b7380fb52b7dcc2b", func := "witan/witanlaw07.ZnodeStays", spec := "znodeStays", apart := false }
def ZnodeStaysSaid : Prop := znodeStaysRow.holds Try.pinned (OpenSpec.ofChange znodeStaysSpec)

/-- ITS FALSE NEIGHBOUR: 'it returns false'. Refute it at one input. -/
def znodeStaysWrong : ChangeSpec := { name := "znodeStays", fn := fun _ => fun
  | [d1, d2, d3] => { results := [.lit (.bool false)], args := [d1, d2, d3] }
  | _ => none }
def ZnodeStaysWrongFalsely : Prop := znodeStaysRow.holds Try.pinned (OpenSpec.ofChange znodeStaysWrong)

/-- 'witanlaw07.ZnodeTree': WHATEVER THE INPUT: true; the input reads as it did. -/
def znodeTreeSpec : ChangeSpec := { name := "znodeTree", fn := fun _ => fun
  | [d1, d2, d3] => { results := [.lit (.bool true)], args := [d1, d2, d3] }
  | _ => none }
def znodeTreeRow : OpenClaim := { program := "ytpadfoaigbfekaa", sum := "b789fe154d2702b49c4879b05f9f620897ef728405a93722b7380fb52b7dcc2b", func := "witan/witanlaw07.ZnodeTree", spec := "znodeTree", apart := false }
def ZnodeTreeSaid : Prop := znodeTreeRow.holds Try.pinned (OpenSpec.ofChange znodeTreeSpec)

/-- ITS FALSE NEIGHBOUR: 'it returns false'. Refute it at one input. -/
def znodeTreeWrong : ChangeSpec := { name := "znodeTree", fn := fun _ => fun
  | [d1, d2, d3] => { results := [.lit (.bool false)], args := [d1, d2, d3] }
  | _ => none }
def ZnodeTreeWrongFalsely : Prop := znodeTreeRow.holds Try.pinned (OpenSpec.ofChange znodeTreeWrong)

/-- 'witanlaw07.ZnodeOrder': WHATEVER THE INPUT: true; the input reads as it did. -/
def znodeOrderSpec : ChangeSpec := { name := "znodeOrder", fn := fun _ => fun
  | [d1, d2] => { results := [.lit (.bool true)], args := [d1, d2] }
  | _ => none }
def znodeOrderRow : OpenClaim := { program := "ytpadfoaigbfekaa", sum := "b789fe154d2702b49c4879b05f9f620897ef728405a93722b7380fb52b7dcc2b", func := "witan/witanlaw07.ZnodeOrder", spec := "znodeOrder", apart := false }
def ZnodeOrderSaid : Prop := znodeOrderRow.holds Try.pinned (OpenSpec.ofChange znodeOrderSpec)

/-- ITS FALSE NEIGHBOUR: 'it returns false'. Refute it at one input. -/
def znodeOrderWrong : ChangeSpec := { name := "znodeOrder", fn := fun _ => fun
  | [d1, d2] => { results := [.lit (.bool false)], args := [d1, d2] }
  | _ => none }
def ZnodeOrderWrongFalsely : Prop := znodeOrderRow.holds Try.pinned (OpenSpec.ofChange znodeOrderWrong)

/-- 'witanlaw08.StateApplies': WHATEVER THE INPUT: true; the input reads as it did. -/
def stateAppliesSpec : ChangeSpec := { name := "stateApplies", fn := fun _ => fun
  | [d1, d2] => { results := [.lit (.bool true)], args := [d1, d2] }
  | _ => none }
def stateAppliesRow : OpenClaim := { program := "ytpadfoaigbfekaa", sum := "b789fe154d2702b49c4879b05f9f620897ef728405a93722b7380fb52b7dcc2b", func := "witan/witanlaw08.StateApplies", spec := "stateApplies", inPlace := ["slices.overlaps[int]"], unfollowed := true, recurses := true, apart := false }
def StateAppliesSaid : Prop := stateAppliesRow.holds Try.pinned (OpenSpec.ofChange stateAppliesSpec)

/-- ITS FALSE NEIGHBOUR: 'it returns false'. Refute it at one input. -/
def stateAppliesWrong : ChangeSpec := { name := "stateApplies", fn := fun _ => fun
  | [d1, d2] => { results := [.lit (.bool false)], args := [d1, d2] }
  | _ => none }
def StateAppliesWrongFalsely : Prop := stateAppliesRow.holds Try.pinned (OpenSpec.ofChange stateAppliesWrong)

/-- 'witanlaw08.StateAsks': WHATEVER THE INPUT: true; the input reads as it did. -/
def stateAsksSpec : ChangeSpec := { name := "stateAsks", fn := fun _ => fun
  | [d1, d2] => { results := [.lit (.bool true)], args := [d1, d2] }
  | _ => none }
def stateAsksRow : OpenClaim := { program := "ytpadfoaigbfekaa", sum := "b789fe154d2702b49c4879b05f9f620897ef728405a93722b7380fb52b7dcc2b", func := "witan/witanlaw08.StateAsks", spec := "stateAsks", inPlace := ["slices.overlaps[int]"], unfollowed := true, recurses := true, apart := false }
def StateAsksSaid : Prop := stateAsksRow.holds Try.pinned (OpenSpec.ofChange stateAsksSpec)

/-- ITS FALSE NEIGHBOUR: 'it returns false'. Refute it at one input. -/
def stateAsksWrong : ChangeSpec := { name := "stateAsks", fn := fun _ => fun
  | [d1, d2] => { results := [.lit (.bool false)], args := [d1, d2] }
  | _ => none }
def StateAsksWrongFalsely : Prop := stateAsksRow.holds Try.pinned (OpenSpec.ofChange stateAsksWrong)

/-- 'witanlaw08.StateSame': WHATEVER THE INPUT: true; the input reads as it did. -/
def stateSameSpec : ChangeSpec := { name := "stateSame", fn := fun _ => fun
  | [d1, d2, d3] => { results := [.lit (.bool true)], args := [d1, d2, d3] }
  | _ => none }
def stateSameRow : OpenClaim := { program := "ytpadfoaigbfekaa", sum := "b789fe154d2702b49c4879b05f9f620897ef728405a93722b7380fb52b7dcc2b", func := "witan/witanlaw08.StateSame", spec := "stateSame", inPlace := ["slices.overlaps[int]"], unfollowed := true, recurses := true, apart := false }
def StateSameSaid : Prop := stateSameRow.holds Try.pinned (OpenSpec.ofChange stateSameSpec)

/-- ITS FALSE NEIGHBOUR: 'it returns false'. Refute it at one input. -/
def stateSameWrong : ChangeSpec := { name := "stateSame", fn := fun _ => fun
  | [d1, d2, d3] => { results := [.lit (.bool false)], args := [d1, d2, d3] }
  | _ => none }
def StateSameWrongFalsely : Prop := stateSameRow.holds Try.pinned (OpenSpec.ofChange stateSameWrong)

/-- 'witanlaw08.StateFuzzy': WHATEVER THE INPUT: true; the input reads as it did. -/
def stateFuzzySpec : ChangeSpec := { name := "stateFuzzy", fn := fun _ => fun
  | [d1, d2, d3] => { results := [.lit (.bool true)], args := [d1, d2, d3] }
  | _ => none }
def stateFuzzyRow : OpenClaim := { program := "ytpadfoaigbfekaa", sum := "b789fe154d2702b49c4879b05f9f620897ef728405a93722b7380fb52b7dcc2b", func := "witan/witanlaw08.StateFuzzy", spec := "stateFuzzy", inPlace := ["slices.overlaps[int]"], unfollowed := true, recurses := true, apart := false }
def StateFuzzySaid : Prop := stateFuzzyRow.holds Try.pinned (OpenSpec.ofChange stateFuzzySpec)

/-- ITS FALSE NEIGHBOUR: 'it returns false'. Refute it at one input. -/
def stateFuzzyWrong : ChangeSpec := { name := "stateFuzzy", fn := fun _ => fun
  | [d1, d2, d3] => { results := [.lit (.bool false)], args := [d1, d2, d3] }
  | _ => none }
def StateFuzzyWrongFalsely : Prop := stateFuzzyRow.holds Try.pinned (OpenSpec.ofChange stateFuzzyWrong)

/-- 'witanlaw08.StateTwice': WHATEVER THE INPUT: true; the input reads as it did. -/
def stateTwiceSpec : ChangeSpec := { name := "stateTwice", fn := fun _ => fun
  | [d1, d2, d3] => { results := [.lit (.bool true)], args := [d1, d2, d3] }
  | _ => none }
def stateTwiceRow : OpenClaim := { program := "ytpadfoaigbfekaa", sum := "b789fe154d2702b49c4879b05f9f620897ef728405a93722b7380fb52b7dcc2b", func := "witan/witanlaw08.StateTwice", spec := "stateTwice", inPlace := ["slices.overlaps[int]"], unfollowed := true, recurses := true, apart := false }
def StateTwiceSaid : Prop := stateTwiceRow.holds Try.pinned (OpenSpec.ofChange stateTwiceSpec)

/-- ITS FALSE NEIGHBOUR: 'it returns false'. Refute it at one input. -/
def stateTwiceWrong : ChangeSpec := { name := "stateTwice", fn := fun _ => fun
  | [d1, d2, d3] => { results := [.lit (.bool false)], args := [d1, d2, d3] }
  | _ => none }
def StateTwiceWrongFalsely : Prop := stateTwiceRow.holds Try.pinned (OpenSpec.ofChange stateTwiceWrong)

/- THE SECOND FORM. 'bulk': how many values and letters a reading holds, each counted each time it is reached (what is shared counts as often as it is met; a slice's spare places count too). A statement '..UptoSaid' is the law's where the arguments, and the package variables that the reading takes, are together of bulk at most 1048576: NARROWER than '..Said'. Prove '..Said' where nothing that the law and all that it calls make is longer than what came in: it says more and counts as full. Else prove '..UptoSaid'. A law counts once. -/
mutual
def uptoBulk {H : Type} : DataW H → Nat
  | .lit (.string bytes) => bytes.length + 1
  | .lit _ => 1
  | .nil => 1
  | .ptr d => uptoBulk d + 1
  | .slice elems spare => uptoBulkAll elems + uptoBulkAll spare + 1
  | .agg parts => uptoBulkAll parts + 1
  | .iface _ d => uptoBulk d + 1
  | .map entries => uptoBulkEntries entries + 1
  | .held _ => 1
def uptoBulkAll {H : Type} : List (DataW H) → Nat
  | [] => 0
  | d :: r => uptoBulk d + uptoBulkAll r
def uptoBulkEntries {H : Type} : List (Lit × DataW H) → Nat
  | [] => 0
  | x :: r => uptoBulkEntry x + uptoBulkEntries r
def uptoBulkEntry {H : Type} : Lit × DataW H → Nat
  | (.string bytes, d) => bytes.length + uptoBulk d + 1
  | (_, d) => uptoBulk d + 1
 end
def uptoSmall : (H : Type) → List (DataW H) → Bool := fun _ ds => decide (uptoBulkAll ds ≤ 1048576)
def OpenSpec.upto (s : _root_.Go.ChangeSpec) : _root_.Go.OpenSpec := { _root_.Go.OpenSpec.ofChange s with cond := some uptoSmall }

/-- 'witanlaw07.ZnodePuts', WHERE WHAT IT READS IS OF BULK AT MOST 1048576: true; the input reads as it did. -/
def znodePutsUptoRow : OpenClaim := { program := "ytpadfoaigbfekaa", sum := "b789fe154d2702b49c4879b05f9f620897ef728405a93722b7380fb52b7dcc2b", func := "witan/witanlaw07.ZnodePuts", spec := "znodePuts", unfollowed := true, recurses := true, apart := false, narrowed := true }
def ZnodePutsUptoSaid : Prop := znodePutsUptoRow.holds Try.pinned (OpenSpec.upto znodePutsSpec)

/-- 'witanlaw07.ZnodeAsks', WHERE WHAT IT READS IS OF BULK AT MOST 1048576: true; the input reads as it did. -/
def znodeAsksUptoRow : OpenClaim := { program := "ytpadfoaigbfekaa", sum := "b789fe154d2702b49c4879b05f9f620897ef728405a93722b7380fb52b7dcc2b", func := "witan/witanlaw07.ZnodeAsks", spec := "znodeAsks", unfollowed := true, recurses := true, apart := false, narrowed := true }
def ZnodeAsksUptoSaid : Prop := znodeAsksUptoRow.holds Try.pinned (OpenSpec.upto znodeAsksSpec)

/-- 'witanlaw07.ZnodeStays', WHERE WHAT IT READS IS OF BULK AT MOST 1048576: true; the input reads as it did. -/
def znodeStaysUptoRow : OpenClaim := { program := "ytpadfoaigbfekaa", sum := "b789fe154d2702b49c4879b05f9f620897ef728405a93722b7380fb52b7dcc2b", func := "witan/witanlaw07.ZnodeStays", spec := "znodeStays", apart := false, narrowed := true }
def ZnodeStaysUptoSaid : Prop := znodeStaysUptoRow.holds Try.pinned (OpenSpec.upto znodeStaysSpec)

/-- 'witanlaw07.ZnodeTree', WHERE WHAT IT READS IS OF BULK AT MOST 1048576: true; the input reads as it did. -/
def znodeTreeUptoRow : OpenClaim := { program := "ytpadfoaigbfekaa", sum := "b789fe154d2702b49c4879b05f9f620897ef728405a93722b7380fb52b7dcc2b", func := "witan/witanlaw07.ZnodeTree", spec := "znodeTree", apart := false, narrowed := true }
def ZnodeTreeUptoSaid : Prop := znodeTreeUptoRow.holds Try.pinned (OpenSpec.upto znodeTreeSpec)

/-- 'witanlaw07.ZnodeOrder', WHERE WHAT IT READS IS OF BULK AT MOST 1048576: true; the input reads as it did. -/
def znodeOrderUptoRow : OpenClaim := { program := "ytpadfoaigbfekaa", sum := "b789fe154d2702b49c4879b05f9f620897ef728405a93722b7380fb52b7dcc2b", func := "witan/witanlaw07.ZnodeOrder", spec := "znodeOrder", apart := false, narrowed := true }
def ZnodeOrderUptoSaid : Prop := znodeOrderUptoRow.holds Try.pinned (OpenSpec.upto znodeOrderSpec)

/-- 'witanlaw08.StateApplies', WHERE WHAT IT READS IS OF BULK AT MOST 1048576: true; the input reads as it did. -/
def stateAppliesUptoRow : OpenClaim := { program := "ytpadfoaigbfekaa", sum := "b789fe154d2702b49c4879b05f9f620897ef728405a93722b7380fb52b7dcc2b", func := "witan/witanlaw08.StateApplies", spec := "stateApplies", inPlace := ["slices.overlaps[int]"], unfollowed := true, recurses := true, apart := false, narrowed := true }
def StateAppliesUptoSaid : Prop := stateAppliesUptoRow.holds Try.pinned (OpenSpec.upto stateAppliesSpec)

/-- 'witanlaw08.StateAsks', WHERE WHAT IT READS IS OF BULK AT MOST 1048576: true; the input reads as it did. -/
def stateAsksUptoRow : OpenClaim := { program := "ytpadfoaigbfekaa", sum := "b789fe154d2702b49c4879b05f9f620897ef728405a93722b7380fb52b7dcc2b", func := "witan/witanlaw08.StateAsks", spec := "stateAsks", inPlace := ["slices.overlaps[int]"], unfollowed := true, recurses := true, apart := false, narrowed := true }
def StateAsksUptoSaid : Prop := stateAsksUptoRow.holds Try.pinned (OpenSpec.upto stateAsksSpec)

/-- 'witanlaw08.StateSame', WHERE WHAT IT READS IS OF BULK AT MOST 1048576: true; the input reads as it did. -/
def stateSameUptoRow : OpenClaim := { program := "ytpadfoaigbfekaa", sum := "b789fe154d2702b49c4879b05f9f620897ef728405a93722b7380fb52b7dcc2b", func := "witan/witanlaw08.StateSame", spec := "stateSame", inPlace := ["slices.overlaps[int]"], unfollowed := true, recurses := true, apart := false, narrowed := true }
def StateSameUptoSaid : Prop := stateSameUptoRow.holds Try.pinned (OpenSpec.upto stateSameSpec)

/-- 'witanlaw08.StateFuzzy', WHERE WHAT IT READS IS OF BULK AT MOST 1048576: true; the input reads as it did. -/
def stateFuzzyUptoRow : OpenClaim := { program := "ytpadfoaigbfekaa", sum := "b789fe154d2702b49c4879b05f9f620897ef728405a93722b7380fb52b7dcc2b", func := "witan/witanlaw08.StateFuzzy", spec := "stateFuzzy", inPlace := ["slices.overlaps[int]"], unfollowed := true, recurses := true, apart := false, narrowed := true }
def StateFuzzyUptoSaid : Prop := stateFuzzyUptoRow.holds Try.pinned (OpenSpec.upto stateFuzzySpec)

/-- 'witanlaw08.StateTwice', WHERE WHAT IT READS IS OF BULK AT MOST 1048576: true; the input reads as it did. -/
def stateTwiceUptoRow : OpenClaim := { program := "ytpadfoaigbfekaa", sum := "b789fe154d2702b49c4879b05f9f620897ef728405a93722b7380fb52b7dcc2b", func := "witan/witanlaw08.StateTwice", spec := "stateTwice", inPlace := ["slices.overlaps[int]"], unfollowed := true, recurses := true, apart := false, narrowed := true }
def StateTwiceUptoSaid : Prop := stateTwiceUptoRow.holds Try.pinned (OpenSpec.upto stateTwiceSpec)

end Rows
end Go.Proofs.Ytpadfoaigbfekaa
