/-
  No cell of these rows narrows 'for every input' (looked for: loops, veiled, ifaces, maps, wideKeys, modest, calm, conditions, laid).
  DERIVED. THE GIVEN ROWS OF THIS SEAT. 6 by the template 'for every input the law returns true; each argument reads behind the call as it read before'; 0 by the template 'total and deterministic' (their statements: YtnjnloonlcknkaaTotals.lean).
  GIVEN WITH THE SEED: the statements are not yours to turn. If you find one false, say at which input.
  Laid BY PROGRAM, IN A SANDBOX (cutbox-rows.mjs): the forced cells as the released guide's own fill.sh prints them over the translation 51be75758dc43722… (all of the seat's roots in one cut). By AI agents, Wed Nov 11 2026. No macro, syntax, notation, axiom, sorry.
-/
import Derived.Test.YtnjnloonlcknkaaChecked
import GoSem.Claim
import GoSem.ClaimJoined
import GoSem.ClaimMapViews
import Derived.JoinedTies
import Derived.KernelRfl
namespace Go.Proofs.Ytnjnloonlcknkaa
/- THE CELL 'sum', in the pinned program and in every row, IS THE sha256 OF THE DUMP (.gsa) THAT YtnjnloonlcknkaaProg.lean LOADS. Nothing in Lean hashes anything: it is a label: what it is worth is what the hold of that sum in a sandbox is worth. -/
noncomputable def Try.pinned : Pinned := { name := "ytnjnloonlcknkaa", sum := "51be75758dc4372267f6a7a84c516c56badac5555c73da9a09726a0581b4ce92", checked := Try.checked }
namespace Rows
def none {H : Type} : Left H := { results := [], args := [] }

/-- 'witanlaw11.SessionTables': WHATEVER THE INPUT: true; the input reads as it did. -/
def sessionTablesSpec : ChangeSpec := { name := "sessionTables", fn := fun _ => fun
  | [d1, d2, d3] => { results := [.lit (.bool true)], args := [d1, d2, d3] }
  | _ => none }
def sessionTablesRow : OpenClaim := { program := "ytnjnloonlcknkaa", sum := "51be75758dc4372267f6a7a84c516c56badac5555c73da9a09726a0581b4ce92", func := "witan/witanlaw11.SessionTables", spec := "sessionTables", apart := false }
def SessionTablesSaid : Prop := sessionTablesRow.holds Try.pinned (OpenSpec.ofChange sessionTablesSpec)

/-- ITS FALSE NEIGHBOUR: 'it returns false'. Refute it at one input. -/
def sessionTablesWrong : ChangeSpec := { name := "sessionTables", fn := fun _ => fun
  | [d1, d2, d3] => { results := [.lit (.bool false)], args := [d1, d2, d3] }
  | _ => none }
def SessionTablesWrongFalsely : Prop := sessionTablesRow.holds Try.pinned (OpenSpec.ofChange sessionTablesWrong)

/-- 'witanlaw11.SessionLives': WHATEVER THE INPUT: true; the input reads as it did. -/
def sessionLivesSpec : ChangeSpec := { name := "sessionLives", fn := fun _ => fun
  | [d1, d2, d3] => { results := [.lit (.bool true)], args := [d1, d2, d3] }
  | _ => none }
def sessionLivesRow : OpenClaim := { program := "ytnjnloonlcknkaa", sum := "51be75758dc4372267f6a7a84c516c56badac5555c73da9a09726a0581b4ce92", func := "witan/witanlaw11.SessionLives", spec := "sessionLives", apart := false }
def SessionLivesSaid : Prop := sessionLivesRow.holds Try.pinned (OpenSpec.ofChange sessionLivesSpec)

/-- ITS FALSE NEIGHBOUR: 'it returns false'. Refute it at one input. -/
def sessionLivesWrong : ChangeSpec := { name := "sessionLives", fn := fun _ => fun
  | [d1, d2, d3] => { results := [.lit (.bool false)], args := [d1, d2, d3] }
  | _ => none }
def SessionLivesWrongFalsely : Prop := sessionLivesRow.holds Try.pinned (OpenSpec.ofChange sessionLivesWrong)

/-- 'witanlaw11.SessionKeeps': WHATEVER THE INPUT: true; the input reads as it did. -/
def sessionKeepsSpec : ChangeSpec := { name := "sessionKeeps", fn := fun _ => fun
  | [d1, d2, d3] => { results := [.lit (.bool true)], args := [d1, d2, d3] }
  | _ => none }
def sessionKeepsRow : OpenClaim := { program := "ytnjnloonlcknkaa", sum := "51be75758dc4372267f6a7a84c516c56badac5555c73da9a09726a0581b4ce92", func := "witan/witanlaw11.SessionKeeps", spec := "sessionKeeps", apart := false }
def SessionKeepsSaid : Prop := sessionKeepsRow.holds Try.pinned (OpenSpec.ofChange sessionKeepsSpec)

/-- ITS FALSE NEIGHBOUR: 'it returns false'. Refute it at one input. -/
def sessionKeepsWrong : ChangeSpec := { name := "sessionKeeps", fn := fun _ => fun
  | [d1, d2, d3] => { results := [.lit (.bool false)], args := [d1, d2, d3] }
  | _ => none }
def SessionKeepsWrongFalsely : Prop := sessionKeepsRow.holds Try.pinned (OpenSpec.ofChange sessionKeepsWrong)

/-- 'witanlaw11.SessionApart': WHATEVER THE INPUT: true; the input reads as it did. -/
def sessionApartSpec : ChangeSpec := { name := "sessionApart", fn := fun _ => fun
  | [d1, d2, d3] => { results := [.lit (.bool true)], args := [d1, d2, d3] }
  | _ => none }
def sessionApartRow : OpenClaim := { program := "ytnjnloonlcknkaa", sum := "51be75758dc4372267f6a7a84c516c56badac5555c73da9a09726a0581b4ce92", func := "witan/witanlaw11.SessionApart", spec := "sessionApart", apart := false }
def SessionApartSaid : Prop := sessionApartRow.holds Try.pinned (OpenSpec.ofChange sessionApartSpec)

/-- ITS FALSE NEIGHBOUR: 'it returns false'. Refute it at one input. -/
def sessionApartWrong : ChangeSpec := { name := "sessionApart", fn := fun _ => fun
  | [d1, d2, d3] => { results := [.lit (.bool false)], args := [d1, d2, d3] }
  | _ => none }
def SessionApartWrongFalsely : Prop := sessionApartRow.holds Try.pinned (OpenSpec.ofChange sessionApartWrong)

/-- 'witanlaw17.VoteOrders': WHATEVER THE INPUT: true; the input reads as it did. -/
def voteOrdersSpec : ChangeSpec := { name := "voteOrders", fn := fun _ => fun
  | [d1, d2, d3] => { results := [.lit (.bool true)], args := [d1, d2, d3] }
  | _ => none }
def voteOrdersRow : OpenClaim := { program := "ytnjnloonlcknkaa", sum := "51be75758dc4372267f6a7a84c516c56badac5555c73da9a09726a0581b4ce92", func := "witan/witanlaw17.VoteOrders", spec := "voteOrders", apart := false }
def VoteOrdersSaid : Prop := voteOrdersRow.holds Try.pinned (OpenSpec.ofChange voteOrdersSpec)

/-- ITS FALSE NEIGHBOUR: 'it returns false'. Refute it at one input. -/
def voteOrdersWrong : ChangeSpec := { name := "voteOrders", fn := fun _ => fun
  | [d1, d2, d3] => { results := [.lit (.bool false)], args := [d1, d2, d3] }
  | _ => none }
def VoteOrdersWrongFalsely : Prop := voteOrdersRow.holds Try.pinned (OpenSpec.ofChange voteOrdersWrong)

/-- 'witanlaw17.VoteRises': WHATEVER THE INPUT: true; the input reads as it did. -/
def voteRisesSpec : ChangeSpec := { name := "voteRises", fn := fun _ => fun
  | [d1, d2, d3] => { results := [.lit (.bool true)], args := [d1, d2, d3] }
  | _ => none }
def voteRisesRow : OpenClaim := { program := "ytnjnloonlcknkaa", sum := "51be75758dc4372267f6a7a84c516c56badac5555c73da9a09726a0581b4ce92", func := "witan/witanlaw17.VoteRises", spec := "voteRises", apart := false }
def VoteRisesSaid : Prop := voteRisesRow.holds Try.pinned (OpenSpec.ofChange voteRisesSpec)

/-- ITS FALSE NEIGHBOUR: 'it returns false'. Refute it at one input. -/
def voteRisesWrong : ChangeSpec := { name := "voteRises", fn := fun _ => fun
  | [d1, d2, d3] => { results := [.lit (.bool false)], args := [d1, d2, d3] }
  | _ => none }
def VoteRisesWrongFalsely : Prop := voteRisesRow.holds Try.pinned (OpenSpec.ofChange voteRisesWrong)

/- THE SECOND FORM. 'bulk': how many values and letters a reading holds, each counted each time it is reached (what is shared counts as often as it is met; a slice's spare places count too). A statement '..UptoSaid' is the law's where the arguments, and the package variables that the reading takes, are together of bulk at most 1048576: NARROWER than '..Said'. Prove '..Said' where nothing that the law and all that it calls make is longer than what came in: it says more and counts as full. Else prove '..UptoSaid'. A law counts once. -/
mutual
def uptoBulk {H : Type} : DataW H → Nat
  | .lit (.string bytes) => bytes.length + 1
  | .lit _ => 1
  | .nil => 1
  | .ptr d => uptoBulk d + 1
  | .slice elems spare => uptoBulkAll elems + uptoBulkAll spare + 1
  | .agg parts => uptoBulkAll parts + 1
  | .iface _ d => uptoBulk d + 1
  | .map entries => uptoBulkEntries entries + 1
  | .held _ => 1
def uptoBulkAll {H : Type} : List (DataW H) → Nat
  | [] => 0
  | d :: r => uptoBulk d + uptoBulkAll r
def uptoBulkEntries {H : Type} : List (Lit × DataW H) → Nat
  | [] => 0
  | x :: r => uptoBulkEntry x + uptoBulkEntries r
def uptoBulkEntry {H : Type} : Lit × DataW H → Nat
  | (.string bytes, d) => bytes.length + uptoBulk d + 1
  | (_, d) => uptoBulk d + 1
 end
def uptoSmall : (H : Type) → List (DataW H) → Bool := fun _ ds => decide (uptoBulkAll ds ≤ 1048576)
def OpenSpec.upto (s : _root_.Go.ChangeSpec) : _root_.Go.OpenSpec := { _root_.Go.OpenSpec.ofChange s with cond := some uptoSmall }

/-- 'witanlaw11.SessionTables', WHERE WHAT IT READS IS OF BULK AT MOST 1048576: true; the input reads as it did. -/
def sessionTablesUptoRow : OpenClaim := { program := "ytnjnloonlcknkaa", sum := "51be75758dc4372267f6a7a84c516c56badac5555c73da9a09726a0581b4ce92", func := "witan/witanlaw11.SessionTables", spec := "sessionTables", apart := false, narrowed := true }
def SessionTablesUptoSaid : Prop := sessionTablesUptoRow.holds Try.pinned (OpenSpec.upto sessionTablesSpec)

/-- 'witanlaw11.SessionLives', WHERE WHAT IT READS IS OF BULK AT MOST 1048576: true; the input reads as it did. -/
def sessionLivesUptoRow : OpenClaim := { program := "ytnjnloonlcknkaa", sum := "51be75758dc4372267f6a7a84c516c56badac5555c73da9a09726a0581b4ce92", func := "witan/witanlaw11.SessionLives", spec := "sessionLives", apart := false, narrowed := true }
def SessionLivesUptoSaid : Prop := sessionLivesUptoRow.holds Try.pinned (OpenSpec.upto sessionLivesSpec)

/-- 'witanlaw11.SessionKeeps', WHERE WHAT IT READS IS OF BULK AT MOST 1048576: true; the input reads as it did. -/
def sessionKeepsUptoRow : OpenClaim := { program := "ytnjnloonlcknkaa", sum := "51be75758dc4372267f6a7a84c516c56badac5555c73da9a09726a0581b4ce92", func := "witan/witanlaw11.SessionKeeps", spec := "sessionKeeps", apart := false, narrowed := true }
def SessionKeepsUptoSaid : Prop := sessionKeepsUptoRow.holds Try.pinned (OpenSpec.upto sessionKeepsSpec)

/-- 'witanlaw11.SessionApart', WHERE WHAT IT READS IS OF BULK AT MOST 1048576: true; the input reads as it did. -/
def sessionApartUptoRow : OpenClaim := { program := "ytnjnloonlcknkaa", sum := "51be75758dc4372267f6a7a84c516c56badac5555c73da9a09726a0581b4ce92", func := "witan/witanlaw11.SessionApart", spec := "sessionApart", apart := false, narrowed := true }
def SessionApartUptoSaid : Prop := sessionApartUptoRow.holds Try.pinned (OpenSpec.upto sessionApartSpec)

/-- 'witanlaw17.VoteOrders', WHERE WHAT IT READS IS OF BULK AT MOST 1048576: true; the input reads as it did. -/
def voteOrdersUptoRow : OpenClaim := { program := "ytnjnloonlcknkaa", sum := "51be75758dc4372267f6a7a84c516c56badac5555c73da9a09726a0581b4ce92", func := "witan/witanlaw17.VoteOrders", spec := "voteOrders", apart := false, narrowed := true }
def VoteOrdersUptoSaid : Prop := voteOrdersUptoRow.holds Try.pinned (OpenSpec.upto voteOrdersSpec)

/-- 'witanlaw17.VoteRises', WHERE WHAT IT READS IS OF BULK AT MOST 1048576: true; the input reads as it did. -/
def voteRisesUptoRow : OpenClaim := { program := "ytnjnloonlcknkaa", sum := "51be75758dc4372267f6a7a84c516c56badac5555c73da9a09726a0581b4ce92", func := "witan/witanlaw17.VoteRises", spec := "voteRises", apart := false, narrowed := true }
def VoteRisesUptoSaid : Prop := voteRisesUptoRow.holds Try.pinned (OpenSpec.upto voteRisesSpec)

end Rows
end Go.Proofs.Ytnjnloonlcknkaa
