/-
  No cell of these rows narrows 'for every input' (looked for: loops, veiled, ifaces, maps, wideKeys, modest, calm, conditions, laid).
  DERIVED. THE GIVEN ROWS OF THIS SEAT. 5 by the template 'for every input the law returns true; each argument reads behind the call as it read before'; 0 by the template 'total and deterministic' (their statements: YtleejpddecjhcaaTotals.lean).
  GIVEN WITH THE SEED: the statements are not yours to turn. If you find one false, say at which input.
  Laid BY PROGRAM, IN A SANDBOX (cutbox-rows.mjs): the forced cells as the released guide's own fill.sh prints them over the translation a8d68970b830f871… (all of the seat's roots in one cut). By AI agents, Wed Nov 11 2026. No macro, syntax, notation, axiom, sorry.
-/
import Derived.Test.YtleejpddecjhcaaChecked
import GoSem.Claim
import GoSem.ClaimJoined
import GoSem.ClaimMapViews
import Derived.JoinedTies
import Derived.KernelRfl
namespace Go.Proofs.Ytleejpddecjhcaa
/- THE CELL 'sum', in the pinned program and in every row, IS THE sha256 OF THE DUMP (.gsa) THAT YtleejpddecjhcaaProg.lean LOADS. Nothing in Lean hashes anything: it is a label: what it is worth is what the hold of that sum in a sandbox is worth. -/
noncomputable def Try.pinned : Pinned := { name := "ytleejpddecjhcaa", sum := "a8d68970b830f8710b93cc2d9631eed7c0ed8d86ea8899b044e9e4cea363ebcc", checked := Try.checked }
namespace Rows
def none {H : Type} : Left H := { results := [], args := [] }

/-- 'witanlaw12.RecordPuts': WHATEVER THE INPUT: true; the input reads as it did. -/
def recordPutsSpec : ChangeSpec := { name := "recordPuts", fn := fun _ => fun
  | [d1, d2, d3] => { results := [.lit (.bool true)], args := [d1, d2, d3] }
  | _ => none }
def recordPutsRow : OpenClaim := { program := "ytleejpddecjhcaa", sum := "a8d68970b830f8710b93cc2d9631eed7c0ed8d86ea8899b044e9e4cea363ebcc", func := "witan/witanlaw12.RecordPuts", spec := "recordPuts", unfollowed := true, recurses := true, apart := false }
def RecordPutsSaid : Prop := recordPutsRow.holds Try.pinned (OpenSpec.ofChange recordPutsSpec)

/-- ITS FALSE NEIGHBOUR: 'it returns false'. Refute it at one input. -/
def recordPutsWrong : ChangeSpec := { name := "recordPuts", fn := fun _ => fun
  | [d1, d2, d3] => { results := [.lit (.bool false)], args := [d1, d2, d3] }
  | _ => none }
def RecordPutsWrongFalsely : Prop := recordPutsRow.holds Try.pinned (OpenSpec.ofChange recordPutsWrong)

/-- 'witanlaw12.RecordMsgs': WHATEVER THE INPUT: true; the input reads as it did. -/
def recordMsgsSpec : ChangeSpec := { name := "recordMsgs", fn := fun _ => fun
  | [d1, d2] => { results := [.lit (.bool true)], args := [d1, d2] }
  | _ => none }
def recordMsgsRow : OpenClaim := { program := "ytleejpddecjhcaa", sum := "a8d68970b830f8710b93cc2d9631eed7c0ed8d86ea8899b044e9e4cea363ebcc", func := "witan/witanlaw12.RecordMsgs", spec := "recordMsgs", unfollowed := true, recurses := true, apart := false }
def RecordMsgsSaid : Prop := recordMsgsRow.holds Try.pinned (OpenSpec.ofChange recordMsgsSpec)

/-- ITS FALSE NEIGHBOUR: 'it returns false'. Refute it at one input. -/
def recordMsgsWrong : ChangeSpec := { name := "recordMsgs", fn := fun _ => fun
  | [d1, d2] => { results := [.lit (.bool false)], args := [d1, d2] }
  | _ => none }
def RecordMsgsWrongFalsely : Prop := recordMsgsRow.holds Try.pinned (OpenSpec.ofChange recordMsgsWrong)

/-- 'witanlaw12.RecordReads': WHATEVER THE INPUT: true; the input reads as it did. -/
def recordReadsSpec : ChangeSpec := { name := "recordReads", fn := fun _ => fun
  | [d1, d2] => { results := [.lit (.bool true)], args := [d1, d2] }
  | _ => none }
def recordReadsRow : OpenClaim := { program := "ytleejpddecjhcaa", sum := "a8d68970b830f8710b93cc2d9631eed7c0ed8d86ea8899b044e9e4cea363ebcc", func := "witan/witanlaw12.RecordReads", spec := "recordReads", unfollowed := true, recurses := true, apart := false }
def RecordReadsSaid : Prop := recordReadsRow.holds Try.pinned (OpenSpec.ofChange recordReadsSpec)

/-- ITS FALSE NEIGHBOUR: 'it returns false'. Refute it at one input. -/
def recordReadsWrong : ChangeSpec := { name := "recordReads", fn := fun _ => fun
  | [d1, d2] => { results := [.lit (.bool false)], args := [d1, d2] }
  | _ => none }
def RecordReadsWrongFalsely : Prop := recordReadsRow.holds Try.pinned (OpenSpec.ofChange recordReadsWrong)

/-- 'witanlaw12.RecordHears': WHATEVER THE INPUT: true; the input reads as it did. -/
def recordHearsSpec : ChangeSpec := { name := "recordHears", fn := fun _ => fun
  | [d1, d2] => { results := [.lit (.bool true)], args := [d1, d2] }
  | _ => none }
def recordHearsRow : OpenClaim := { program := "ytleejpddecjhcaa", sum := "a8d68970b830f8710b93cc2d9631eed7c0ed8d86ea8899b044e9e4cea363ebcc", func := "witan/witanlaw12.RecordHears", spec := "recordHears", unfollowed := true, recurses := true, apart := false }
def RecordHearsSaid : Prop := recordHearsRow.holds Try.pinned (OpenSpec.ofChange recordHearsSpec)

/-- ITS FALSE NEIGHBOUR: 'it returns false'. Refute it at one input. -/
def recordHearsWrong : ChangeSpec := { name := "recordHears", fn := fun _ => fun
  | [d1, d2] => { results := [.lit (.bool false)], args := [d1, d2] }
  | _ => none }
def RecordHearsWrongFalsely : Prop := recordHearsRow.holds Try.pinned (OpenSpec.ofChange recordHearsWrong)

/-- 'witanlaw12.RecordOne': WHATEVER THE INPUT: true; the input reads as it did. -/
def recordOneSpec : ChangeSpec := { name := "recordOne", fn := fun _ => fun
  | [d1, d2] => { results := [.lit (.bool true)], args := [d1, d2] }
  | _ => none }
def recordOneRow : OpenClaim := { program := "ytleejpddecjhcaa", sum := "a8d68970b830f8710b93cc2d9631eed7c0ed8d86ea8899b044e9e4cea363ebcc", func := "witan/witanlaw12.RecordOne", spec := "recordOne", unfollowed := true, recurses := true, apart := false }
def RecordOneSaid : Prop := recordOneRow.holds Try.pinned (OpenSpec.ofChange recordOneSpec)

/-- ITS FALSE NEIGHBOUR: 'it returns false'. Refute it at one input. -/
def recordOneWrong : ChangeSpec := { name := "recordOne", fn := fun _ => fun
  | [d1, d2] => { results := [.lit (.bool false)], args := [d1, d2] }
  | _ => none }
def RecordOneWrongFalsely : Prop := recordOneRow.holds Try.pinned (OpenSpec.ofChange recordOneWrong)

/- THE SECOND FORM. 'bulk': how many values and letters a reading holds, each counted each time it is reached (what is shared counts as often as it is met; a slice's spare places count too). A statement '..UptoSaid' is the law's where the arguments, and the package variables that the reading takes, are together of bulk at most 1048576: NARROWER than '..Said'. Prove '..Said' where nothing that the law and all that it calls make is longer than what came in: it says more and counts as full. Else prove '..UptoSaid'. A law counts once. -/
mutual
def uptoBulk {H : Type} : DataW H → Nat
  | .lit (.string bytes) => bytes.length + 1
  | .lit _ => 1
  | .nil => 1
  | .ptr d => uptoBulk d + 1
  | .slice elems spare => uptoBulkAll elems + uptoBulkAll spare + 1
  | .agg parts => uptoBulkAll parts + 1
  | .iface _ d => uptoBulk d + 1
  | .map entries => uptoBulkEntries entries + 1
  | .held _ => 1
def uptoBulkAll {H : Type} : List (DataW H) → Nat
  | [] => 0
  | d :: r => uptoBulk d + uptoBulkAll r
def uptoBulkEntries {H : Type} : List (Lit × DataW H) → Nat
  | [] => 0
  | x :: r => uptoBulkEntry x + uptoBulkEntries r
def uptoBulkEntry {H : Type} : Lit × DataW H → Nat
  | (.string bytes, d) => bytes.length + uptoBulk d + 1
  | (_, d) => uptoBulk d + 1
 end
def uptoSmall : (H : Type) → List (DataW H) → Bool := fun _ ds => decide (uptoBulkAll ds ≤ 1048576)
def OpenSpec.upto (s : _root_.Go.ChangeSpec) : _root_.Go.OpenSpec := { _root_.Go.OpenSpec.ofChange s with cond := some uptoSmall }

/-- 'witanlaw12.RecordPuts', WHERE WHAT IT READS IS OF BULK AT MOST 1048576: true; the input reads as it did. -/
def recordPutsUptoRow : OpenClaim := { program := "ytleejpddecjhcaa", sum := "a8d68970b830f8710b93cc2d9631eed7c0ed8d86ea8899b044e9e4cea363ebcc", func := "witan/witanlaw12.RecordPuts", spec := "recordPuts", unfollowed := true, recurses := true, apart := false, narrowed := true }
def RecordPutsUptoSaid : Prop := recordPutsUptoRow.holds Try.pinned (OpenSpec.upto recordPutsSpec)

/-- 'witanlaw12.RecordMsgs', WHERE WHAT IT READS IS OF BULK AT MOST 1048576: true; the input reads as it did. -/
def recordMsgsUptoRow : OpenClaim := { program := "ytleejpddecjhcaa", sum := "a8d68970b830f8710b93cc2d9631eed7c0ed8d86ea8899b044e9e4cea363ebcc", func := "witan/witanlaw12.RecordMsgs", spec := "recordMsgs", unfollowed := true, recurses := true, apart := false, narrowed := true }
def RecordMsgsUptoSaid : Prop := recordMsgsUptoRow.holds Try.pinned (OpenSpec.upto recordMsgsSpec)

/-- 'witanlaw12.RecordReads', WHERE WHAT IT READS IS OF BULK AT MOST 1048576: true; the input reads as it did. -/
def recordReadsUptoRow : OpenClaim := { program := "ytleejpddecjhcaa", sum := "a8d68970b830f8710b93cc2d9631eed7c0ed8d86ea8899b044e9e4cea363ebcc", func := "witan/witanlaw12.RecordReads", spec := "recordReads", unfollowed := true, recurses := true, apart := false, narrowed := true }
def RecordReadsUptoSaid : Prop := recordReadsUptoRow.holds Try.pinned (OpenSpec.upto recordReadsSpec)

/-- 'witanlaw12.RecordHears', WHERE WHAT IT READS IS OF BULK AT MOST 1048576: true; the input reads as it did. -/
def recordHearsUptoRow : OpenClaim := { program := "ytleejpddecjhcaa", sum := "a8d68970b830f8710b93cc2d9631eed7c0ed8d86ea8899b044e9e4cea363ebcc", func := "witan/witanlaw12.RecordHears", spec := "recordHears", unfollowed := true, recurses := true, apart := false, narrowed := true }
def RecordHearsUptoSaid : Prop := recordHearsUptoRow.holds Try.pinned (OpenSpec.upto recordHearsSpec)

/-- 'witanlaw12.RecordOne', WHERE WHAT IT READS IS OF BULK AT MOST 1048576: true; the input reads as it did. -/
def recordOneUptoRow : OpenClaim := { program := "ytleejpddecjhcaa", sum := "a8d68970b830f8710b93cc2d9631eed7c0ed8d86ea8899b044e9e4cea363ebcc", func := "witan/witanlaw12.RecordOne", spec := "recordOne", unfollowed := true, recurses := true, apart := false, narrowed := true }
def RecordOneUptoSaid : Prop := recordOneUptoRow.holds Try.pinned (OpenSpec.upto recordOneSpec)

end Rows
end Go.Proofs.Ytleejpddecjhcaa
