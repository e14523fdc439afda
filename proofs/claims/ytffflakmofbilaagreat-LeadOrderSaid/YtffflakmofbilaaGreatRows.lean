/-
  No cell of these rows narrows 'for every input' (looked for: loops, veiled, ifaces, maps, wideKeys, modest, calm, conditions, laid).
  DERIVED. THE GIVEN ROWS OF THIS SEAT. 4 by the template 'for every input the law returns true; each argument reads behind the call as it read before'; 0 by the template 'total and deterministic' (their statements: YtffflakmofbilaaGreatTotals.lean).
  GIVEN WITH THE SEED: the statements are not yours to turn. If you find one false, say at which input.
  Laid BY PROGRAM, IN A SANDBOX (cutbox-rows.mjs): the forced cells as the released guide's own fill.sh prints them over the translation 9dc37aec42698ddc… (all of the seat's roots in one cut). By AI agents, Wed Nov 11 2026. No macro, syntax, notation, axiom, sorry.
-/
import Derived.Test.YtffflakmofbilaaGreatChecked
import GoSem.Claim
import GoSem.ClaimJoined
import GoSem.ClaimMapViews
import Derived.JoinedTies
import Derived.KernelRfl
namespace Go.Proofs.YtffflakmofbilaaGreat
/- THE CELL 'sum', in the pinned program and in every row, IS THE sha256 OF THE DUMP (.gsa) THAT YtffflakmofbilaaGreatProg.lean LOADS. Nothing in Lean hashes anything: it is a label: what it is worth is what the hold of that sum in a sandbox is worth. -/
noncomputable def Tryz.pinned : Pinned := { name := "ytffflakmofbilaagreat", sum := "9dc37aec42698ddc814411702ea781e384cb9eb4df9f9b46e0b579bd43bb2476", checked := Tryz.checked }
namespace Rows
def none {H : Type} : Left H := { results := [], args := [] }

/-- 'witanlaw21.LeadEpoch': WHATEVER THE INPUT: true; the input reads as it did. -/
def leadEpochSpec : ChangeSpec := { name := "leadEpoch", fn := fun _ => fun
  | [d1, d2] => { results := [.lit (.bool true)], args := [d1, d2] }
  | _ => none }
def leadEpochRow : OpenClaim := { program := "ytffflakmofbilaagreat", sum := "9dc37aec42698ddc814411702ea781e384cb9eb4df9f9b46e0b579bd43bb2476", func := "witan/witanlaw21.LeadEpoch", spec := "leadEpoch", inPlace := ["slices.overlaps[witan/api.Learner]"], unfollowed := true, recurses := true, apart := false }
def LeadEpochSaid : Prop := leadEpochRow.holds Tryz.pinned (OpenSpec.ofChange leadEpochSpec)

/-- ITS FALSE NEIGHBOUR: 'it returns false'. Refute it at one input. -/
def leadEpochWrong : ChangeSpec := { name := "leadEpoch", fn := fun _ => fun
  | [d1, d2] => { results := [.lit (.bool false)], args := [d1, d2] }
  | _ => none }
def LeadEpochWrongFalsely : Prop := leadEpochRow.holds Tryz.pinned (OpenSpec.ofChange leadEpochWrong)

/-- 'witanlaw21.LeadDone': WHATEVER THE INPUT: true; the input reads as it did. -/
def leadDoneSpec : ChangeSpec := { name := "leadDone", fn := fun _ => fun
  | [d1, d2] => { results := [.lit (.bool true)], args := [d1, d2] }
  | _ => none }
def leadDoneRow : OpenClaim := { program := "ytffflakmofbilaagreat", sum := "9dc37aec42698ddc814411702ea781e384cb9eb4df9f9b46e0b579bd43bb2476", func := "witan/witanlaw21.LeadDone", spec := "leadDone", inPlace := ["slices.overlaps[witan/api.Learner]"], unfollowed := true, recurses := true, apart := false }
def LeadDoneSaid : Prop := leadDoneRow.holds Tryz.pinned (OpenSpec.ofChange leadDoneSpec)

/-- ITS FALSE NEIGHBOUR: 'it returns false'. Refute it at one input. -/
def leadDoneWrong : ChangeSpec := { name := "leadDone", fn := fun _ => fun
  | [d1, d2] => { results := [.lit (.bool false)], args := [d1, d2] }
  | _ => none }
def LeadDoneWrongFalsely : Prop := leadDoneRow.holds Tryz.pinned (OpenSpec.ofChange leadDoneWrong)

/-- 'witanlaw21.LeadOrder': WHATEVER THE INPUT: true; the input reads as it did. -/
def leadOrderSpec : ChangeSpec := { name := "leadOrder", fn := fun _ => fun
  | [d1, d2] => { results := [.lit (.bool true)], args := [d1, d2] }
  | _ => none }
def leadOrderRow : OpenClaim := { program := "ytffflakmofbilaagreat", sum := "9dc37aec42698ddc814411702ea781e384cb9eb4df9f9b46e0b579bd43bb2476", func := "witan/witanlaw21.LeadOrder", spec := "leadOrder", inPlace := ["slices.overlaps[witan/api.Learner]"], unfollowed := true, recurses := true, apart := false }
def LeadOrderSaid : Prop := leadOrderRow.holds Tryz.pinned (OpenSpec.ofChange leadOrderSpec)

/-- ITS FALSE NEIGHBOUR: 'it returns false'. Refute it at one input. -/
def leadOrderWrong : ChangeSpec := { name := "leadOrder", fn := fun _ => fun
  | [d1, d2] => { results := [.lit (.bool false)], args := [d1, d2] }
  | _ => none }
def LeadOrderWrongFalsely : Prop := leadOrderRow.holds Tryz.pinned (OpenSpec.ofChange leadOrderWrong)

/-- 'witanlaw21.LeadQuiet': WHATEVER THE INPUT: true; the input reads as it did. -/
def leadQuietSpec : ChangeSpec := { name := "leadQuiet", fn := fun _ => fun
  | [d1, d2, d3] => { results := [.lit (.bool true)], args := [d1, d2, d3] }
  | _ => none }
def leadQuietRow : OpenClaim := { program := "ytffflakmofbilaagreat", sum := "9dc37aec42698ddc814411702ea781e384cb9eb4df9f9b46e0b579bd43bb2476", func := "witan/witanlaw21.LeadQuiet", spec := "leadQuiet", inPlace := ["slices.overlaps[witan/api.Learner]"], unfollowed := true, recurses := true, apart := false }
def LeadQuietSaid : Prop := leadQuietRow.holds Tryz.pinned (OpenSpec.ofChange leadQuietSpec)

/-- ITS FALSE NEIGHBOUR: 'it returns false'. Refute it at one input. -/
def leadQuietWrong : ChangeSpec := { name := "leadQuiet", fn := fun _ => fun
  | [d1, d2, d3] => { results := [.lit (.bool false)], args := [d1, d2, d3] }
  | _ => none }
def LeadQuietWrongFalsely : Prop := leadQuietRow.holds Tryz.pinned (OpenSpec.ofChange leadQuietWrong)

/- THE SECOND FORM. 'bulk': how many values and letters a reading holds, each counted each time it is reached (what is shared counts as often as it is met; a slice's spare places count too). A statement '..UptoSaid' is the law's where the arguments, and the package variables that the reading takes, are together of bulk at most 1048576: NARROWER than '..Said'. Prove '..Said' where nothing that the law and all that it calls make is longer than what came in: it says more and counts as full. Else prove '..UptoSaid'. A law counts once. -/
mutual
def uptoBulk {H : Type} : DataW H → Nat
  | .lit (.string bytes) => bytes.length + 1
  | .lit _ => 1
  | .nil => 1
  | .ptr d => uptoBulk d + 1
  | .slice elems spare => uptoBulkAll elems + uptoBulkAll spare + 1
  | .agg parts => uptoBulkAll parts + 1
  | .iface _ d => uptoBulk d + 1
  | .map entries => uptoBulkEntries entries + 1
  | .held _ => 1
def uptoBulkAll {H : Type} : List (DataW H) → Nat
  | [] => 0
  | d :: r => uptoBulk d + uptoBulkAll r
def uptoBulkEntries {H : Type} : List (Lit × DataW H) → Nat
  | [] => 0
  | x :: r => uptoBulkEntry x + uptoBulkEntries r
def uptoBulkEntry {H : Type} : Lit × DataW H → Nat
  | (.string bytes, d) => bytes.length + uptoBulk d + 1
  | (_, d) => uptoBulk d + 1
 end
def uptoSmall : (H : Type) → List (DataW H) → Bool := fun _ ds => decide (uptoBulkAll ds ≤ 1048576)
def OpenSpec.upto (s : _root_.Go.ChangeSpec) : _root_.Go.OpenSpec := { _root_.Go.OpenSpec.ofChange s with cond := some uptoSmall }

/-- 'witanlaw21.LeadEpoch', WHERE WHAT IT READS IS OF BULK AT MOST 1048576: true; the input reads as it did. -/
def leadEpochUptoRow : OpenClaim := { program := "ytffflakmofbilaagreat", sum := "9dc37aec42698ddc814411702ea781e384cb9eb4df9f9b46e0b579bd43bb2476", func := "witan/witanlaw21.LeadEpoch", spec := "leadEpoch", inPlace := ["slices.overlaps[witan/api.Learner]"], unfollowed := true, recurses := true, apart := false, narrowed := true }
def LeadEpochUptoSaid : Prop := leadEpochUptoRow.holds Tryz.pinned (OpenSpec.upto leadEpochSpec)

/-- 'witanlaw21.LeadDone', WHERE WHAT IT READS IS OF BULK AT MOST 1048576: true; the input reads as it did. -/
def leadDoneUptoRow : OpenClaim := { program := "ytffflakmofbilaagreat", sum := "9dc37aec42698ddc814411702ea781e384cb9eb4df9f9b46e0b579bd43bb2476", func := "witan/witanlaw21.LeadDone", spec := "leadDone", inPlace := ["slices.overlaps[witan/api.Learner]"], unfollowed := true, recurses := true, apart := false, narrowed := true }
def LeadDoneUptoSaid : Prop := leadDoneUptoRow.holds Tryz.pinned (OpenSpec.upto leadDoneSpec)

/-- 'witanlaw21.LeadOrder', WHERE WHAT IT READS IS OF BULK AT MOST 1048576: true; the input reads as it did. -/
def leadOrderUptoRow : OpenClaim := { program := "ytffflakmofbilaagreat", sum := "9dc37aec42698ddc814411702ea781e384cb9eb4df9f9b46e0b579bd43bb2476", func := "witan/witanlaw21.LeadOrder", spec := "leadOrder", inPlace := ["slices.overlaps[witan/api.Learner]"], unfollowed := true, recurses := true, apart := false, narrowed := true }
def LeadOrderUptoSaid : Prop := leadOrderUptoRow.holds Tryz.pinned (OpenSpec.upto leadOrderSpec)

/-- 'witanlaw21.LeadQuiet', WHERE WHAT IT READS IS OF BULK AT MOST 1048576: true; the input reads as it did. -/
def leadQuietUptoRow : OpenClaim := { program := "ytffflakmofbilaagreat", sum := "9dc37aec42698ddc814411702ea781e384cb9eb4df9f9b46e0b579bd43bb2476", func := "witan/witanlaw21.LeadQuiet", spec := "leadQuiet", inPlace := ["slices.overlaps[witan/api.Learner]"], unfollowed := true, recurses := true, apart := false, narrowed := true }
def LeadQuietUptoSaid : Prop := leadQuietUptoRow.holds Tryz.pinned (OpenSpec.upto leadQuietSpec)

end Rows
end Go.Proofs.YtffflakmofbilaaGreat
