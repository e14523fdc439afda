/-
  NARROWER THAN 'FOR EVERY INPUT', by the rows' own cells (each row's printed sentence says how): CodecInts: laid · CodecTexts: laid · CodecFrames: laid · CodecBack: laid · CodecOne: laid · CodecTorn: laid · CodecTurned: laid.
  DERIVED. THE GIVEN ROWS OF THIS SEAT. 7 by the template 'for every input the law returns true; each argument reads behind the call as it read before'; 0 by the template 'total and deterministic' (their statements: YtfilinonmngefaaDoorTotals.lean).
  GIVEN WITH THE SEED: the statements are not yours to turn. If you find one false, say at which input.
  Laid BY PROGRAM, IN A SANDBOX (cutbox-rows.mjs): the forced cells as the released guide's own fill.sh prints them over the translation 1f2df004156070a1… (all of the seat's roots in one cut). By AI agents, Wed Nov 11 2026. No macro, syntax, notation, axiom, sorry.
-/
import Derived.Test.YtfilinonmngefaaDoorChecked
import GoSem.Claim
import GoSem.ClaimJoined
import GoSem.ClaimMapViews
import Derived.JoinedTies
import Derived.KernelRfl
namespace Go.Proofs.YtfilinonmngefaaDoor
/- THE CELL 'sum', in the pinned program and in every row, IS THE sha256 OF THE DUMP (.gsa) THAT YtfilinonmngefaaDoorProg.lean LOADS. Nothing in Lean hashes anything: it is a label: what it is worth is what the hold of that sum in a sandbox is worth. -/
noncomputable def Tryd.pinned : Pinned := { name := "ytfilinonmngefaadoor", sum := "1f2df004156070a1e92cc849ba35a98733a4c3530dfde94aa242a9552f21d659", checked := Tryd.checked }
namespace Rows
def none {H : Type} : Left H := { results := [], args := [] }

/- WHAT THE LISTED PACKAGE-LEVEL VARIABLES READ AS WHEN THE CALL BEGINS. Each datum BY PROGRAM (the guide's laid-datum.mjs) off the statement by which the dump's own 'gosem.cut.vars' lays the variable. In a bare row this is a premise. The card (YtfilinonmngefaaDoorCards.lean) ties it to the program's text. -/
def laid_witan_codec_steps {H : Type} : DataW H := .agg [.lit (.int .u32 0), .lit (.int .u32 274646895), .lit (.int .u32 549293790), .lit (.int .u32 820201905), .lit (.int .u32 1098587580), .lit (.int .u32 1361435347), .lit (.int .u32 1640403810), .lit (.int .u32 1905808397), .lit (.int .u32 2197175160), .lit (.int .u32 2460548119), .lit (.int .u32 2722870694), .lit (.int .u32 2987750089), .lit (.int .u32 3280807620), .lit (.int .u32 3553878443), .lit (.int .u32 3811616794), .lit (.int .u32 4084100981)]

/-- 'witanlaw01.CodecInts': WHATEVER THE INPUT: true; the input reads as it did. -/
def codecIntsSpec : ChangeSpec := { name := "codecInts", fn := fun _ => fun
  | [d1, d2, d3] => { results := [.lit (.bool true)], args := [d1, d2, d3] }
  | _ => none }
def codecIntsRow : OpenClaim := { program := "ytfilinonmngefaadoor", sum := "1f2df004156070a1e92cc849ba35a98733a4c3530dfde94aa242a9552f21d659", func := "witan/witanlaw01.CodecInts", spec := "codecInts", unfollowed := true, recurses := true, named := ["witan/codec.steps"], apart := false, laid := [("witan/codec.steps", laid_witan_codec_steps)] }
def CodecIntsSaid : Prop := codecIntsRow.holds Tryd.pinned (OpenSpec.ofChange codecIntsSpec)

/-- ITS FALSE NEIGHBOUR: 'it returns false'. Refute it at one input. -/
def codecIntsWrong : ChangeSpec := { name := "codecInts", fn := fun _ => fun
  | [d1, d2, d3] => { results := [.lit (.bool false)], args := [d1, d2, d3] }
  | _ => none }
def CodecIntsWrongFalsely : Prop := codecIntsRow.holds Tryd.pinned (OpenSpec.ofChange codecIntsWrong)

/-- 'witanlaw01.CodecTexts': WHATEVER THE INPUT: true; the input reads as it did. -/
def codecTextsSpec : ChangeSpec := { name := "codecTexts", fn := fun _ => fun
  | [d1, d2, d3] => { results := [.lit (.bool true)], args := [d1, d2, d3] }
  | _ => none }
def codecTextsRow : OpenClaim := { program := "ytfilinonmngefaadoor", sum := "1f2df004156070a1e92cc849ba35a98733a4c3530dfde94aa242a9552f21d659", func := "witan/witanlaw01.CodecTexts", spec := "codecTexts", unfollowed := true, recurses := true, named := ["witan/codec.steps"], apart := false, laid := [("witan/codec.steps", laid_witan_codec_steps)] }
def CodecTextsSaid : Prop := codecTextsRow.holds Tryd.pinned (OpenSpec.ofChange codecTextsSpec)

/-- ITS FALSE NEIGHBOUR: 'it returns false'. Refute it at one input. -/
def codecTextsWrong : ChangeSpec := { name := "codecTexts", fn := fun _ => fun
  | [d1, d2, d3] => { results := [.lit (.bool false)], args := [d1, d2, d3] }
  | _ => none }
def CodecTextsWrongFalsely : Prop := codecTextsRow.holds Tryd.pinned (OpenSpec.ofChange codecTextsWrong)

/-- 'witanlaw01.CodecFrames': WHATEVER THE INPUT: true; the input reads as it did. -/
def codecFramesSpec : ChangeSpec := { name := "codecFrames", fn := fun _ => fun
  | [d1, d2, d3] => { results := [.lit (.bool true)], args := [d1, d2, d3] }
  | _ => none }
def codecFramesRow : OpenClaim := { program := "ytfilinonmngefaadoor", sum := "1f2df004156070a1e92cc849ba35a98733a4c3530dfde94aa242a9552f21d659", func := "witan/witanlaw01.CodecFrames", spec := "codecFrames", unfollowed := true, recurses := true, named := ["witan/codec.steps"], apart := false, laid := [("witan/codec.steps", laid_witan_codec_steps)] }
def CodecFramesSaid : Prop := codecFramesRow.holds Tryd.pinned (OpenSpec.ofChange codecFramesSpec)

/-- ITS FALSE NEIGHBOUR: 'it returns false'. Refute it at one input. -/
def codecFramesWrong : ChangeSpec := { name := "codecFrames", fn := fun _ => fun
  | [d1, d2, d3] => { results := [.lit (.bool false)], args := [d1, d2, d3] }
  | _ => none }
def CodecFramesWrongFalsely : Prop := codecFramesRow.holds Tryd.pinned (OpenSpec.ofChange codecFramesWrong)

/-- 'witanlaw01.CodecBack': WHATEVER THE INPUT: true; the input reads as it did. -/
def codecBackSpec : ChangeSpec := { name := "codecBack", fn := fun _ => fun
  | [d1, d2, d3] => { results := [.lit (.bool true)], args := [d1, d2, d3] }
  | _ => none }
def codecBackRow : OpenClaim := { program := "ytfilinonmngefaadoor", sum := "1f2df004156070a1e92cc849ba35a98733a4c3530dfde94aa242a9552f21d659", func := "witan/witanlaw01.CodecBack", spec := "codecBack", unfollowed := true, recurses := true, named := ["witan/codec.steps"], apart := false, laid := [("witan/codec.steps", laid_witan_codec_steps)] }
def CodecBackSaid : Prop := codecBackRow.holds Tryd.pinned (OpenSpec.ofChange codecBackSpec)

/-- ITS FALSE NEIGHBOUR: 'it returns false'. Refute it at one input. -/
def codecBackWrong : ChangeSpec := { name := "codecBack", fn := fun _ => fun
  | [d1, d2, d3] => { results := [.lit (.bool false)], args := [d1, d2, d3] }
  | _ => none }
def CodecBackWrongFalsely : Prop := codecBackRow.holds Tryd.pinned (OpenSpec.ofChange codecBackWrong)

/-- 'witanlaw01.CodecOne': WHATEVER THE INPUT: true; the input reads as it did. -/
def codecOneSpec : ChangeSpec := { name := "codecOne", fn := fun _ => fun
  | [d1, d2] => { results := [.lit (.bool true)], args := [d1, d2] }
  | _ => none }
def codecOneRow : OpenClaim := { program := "ytfilinonmngefaadoor", sum := "1f2df004156070a1e92cc849ba35a98733a4c3530dfde94aa242a9552f21d659", func := "witan/witanlaw01.CodecOne", spec := "codecOne", unfollowed := true, recurses := true, named := ["witan/codec.steps"], apart := false, laid := [("witan/codec.steps", laid_witan_codec_steps)] }
def CodecOneSaid : Prop := codecOneRow.holds Tryd.pinned (OpenSpec.ofChange codecOneSpec)

/-- ITS FALSE NEIGHBOUR: 'it returns false'. Refute it at one input. -/
def codecOneWrong : ChangeSpec := { name := "codecOne", fn := fun _ => fun
  | [d1, d2] => { results := [.lit (.bool false)], args := [d1, d2] }
  | _ => none }
def CodecOneWrongFalsely : Prop := codecOneRow.holds Tryd.pinned (OpenSpec.ofChange codecOneWrong)

/-- 'witanlaw01.CodecTorn': WHATEVER THE INPUT: true; the input reads as it did. -/
def codecTornSpec : ChangeSpec := { name := "codecTorn", fn := fun _ => fun
  | [d1, d2] => { results := [.lit (.bool true)], args := [d1, d2] }
  | _ => none }
def codecTornRow : OpenClaim := { program := "ytfilinonmngefaadoor", sum := "1f2df004156070a1e92cc849ba35a98733a4c3530dfde94aa242a9552f21d659", func := "witan/witanlaw01.CodecTorn", spec := "codecTorn", unfollowed := true, recurses := true, named := ["witan/codec.steps"], apart := false, laid := [("witan/codec.steps", laid_witan_codec_steps)] }
def CodecTornSaid : Prop := codecTornRow.holds Tryd.pinned (OpenSpec.ofChange codecTornSpec)

/-- ITS FALSE NEIGHBOUR: 'it returns false'. Refute it at one input. -/
def codecTornWrong : ChangeSpec := { name := "codecTorn", fn := fun _ => fun
  | [d1, d2] => { results := [.lit (.bool false)], args := [d1, d2] }
  | _ => none }
def CodecTornWrongFalsely : Prop := codecTornRow.holds Tryd.pinned (OpenSpec.ofChange codecTornWrong)

/-- 'witanlaw01.CodecTurned': WHATEVER THE INPUT: true; the input reads as it did. -/
def codecTurnedSpec : ChangeSpec := { name := "codecTurned", fn := fun _ => fun
  | [d1, d2, d3] => { results := [.lit (.bool true)], args := [d1, d2, d3] }
  | _ => none }
def codecTurnedRow : OpenClaim := { program := "ytfilinonmngefaadoor", sum := "1f2df004156070a1e92cc849ba35a98733a4c3530dfde94aa242a9552f21d659", func := "witan/witanlaw01.CodecTurned", spec := "codecTurned", unfollowed := true, recurses := true, named := ["witan/codec.steps"], apart := false, laid := [("witan/codec.steps", laid_witan_codec_steps)] }
def CodecTurnedSaid : Prop := codecTurnedRow.holds Tryd.pinned (OpenSpec.ofChange codecTurnedSpec)

/-- ITS FALSE NEIGHBOUR: 'it returns false'. Refute it at one input. -/
def codecTurnedWrong : ChangeSpec := { name := "codecTurned", fn := fun _ => fun
  | [d1, d2, d3] => { results := [.lit (.bool false)], args := [d1, d2, d3] }
  | _ => none }
def CodecTurnedWrongFalsely : Prop := codecTurnedRow.holds Tryd.pinned (OpenSpec.ofChange codecTurnedWrong)

/- THE SECOND FORM. 'bulk': how many values and letters a reading holds, each counted each time it is reached (what is shared counts as often as it is met; a slice's spare places count too). A statement '..UptoSaid' is the law's where the arguments, and the package variables that the reading takes, are together of bulk at most 1048576: NARROWER than '..Said'. Prove '..Said' where nothing that the law and all that it calls make is longer than what came in: it says more and counts as full. Else prove '..UptoSaid'. A law counts once. -/
mutual
def uptoBulk {H : Type} : DataW H → Nat
  | .lit (.string bytes) => bytes.length + 1
  | .lit _ => 1
  | .nil => 1
  | .ptr d => uptoBulk d + 1
  | .slice elems spare => uptoBulkAll elems + uptoBulkAll spare + 1
  | .agg parts => uptoBulkAll parts + 1
  | .iface _ d => uptoBulk d + 1
  | .map entries => uptoBulkEntries entries + 1
  | .held _ => 1
def uptoBulkAll {H : Type} : List (DataW H) → Nat
  | [] => 0
  | d :: r => uptoBulk d + uptoBulkAll r
def uptoBulkEntries {H : Type} : List (Lit × DataW H) → Nat
  | [] => 0
  | x :: r => uptoBulkEntry x + uptoBulkEntries r
def uptoBulkEntry {H : Type} : Lit × DataW H → Nat
  | (.string bytes, d) => bytes.length + uptoBulk d + 1
  | (_, d) => uptoBulk d + 1
 end
def uptoSmall : (H : Type) → List (DataW H) → Bool := fun _ ds => decide (uptoBulkAll ds ≤ 1048576)
def OpenSpec.upto (s : _root_.Go.ChangeSpec) : _root_.Go.OpenSpec := { _root_.Go.OpenSpec.ofChange s with cond := some uptoSmall }

/-- 'witanlaw01.CodecInts', WHERE WHAT IT READS IS OF BULK AT MOST 1048576: true; the input reads as it did. -/
def codecIntsUptoRow : OpenClaim := { program := "ytfilinonmngefaadoor", sum := "1f2df004156070a1e92cc849ba35a98733a4c3530dfde94aa242a9552f21d659", func := "witan/witanlaw01.CodecInts", spec := "codecInts", unfollowed := true, recurses := true, named := ["witan/codec.steps"], apart := false, laid := [("witan/codec.steps", laid_witan_codec_steps)], narrowed := true }
def CodecIntsUptoSaid : Prop := codecIntsUptoRow.holds Tryd.pinned (OpenSpec.upto codecIntsSpec)

/-- 'witanlaw01.CodecTexts', WHERE WHAT IT READS IS OF BULK AT MOST 1048576: true; the input reads as it did. -/
def codecTextsUptoRow : OpenClaim := { program := "ytfilinonmngefaadoor", sum := "1f2df004156070a1e92cc849ba35a98733a4c3530dfde94aa242a9552f21d659", func := "witan/witanlaw01.CodecTexts", spec := "codecTexts", unfollowed := true, recurses := true, named := ["witan/codec.steps"], apart := false, laid := [("witan/codec.steps", laid_witan_codec_steps)], narrowed := true }
def CodecTextsUptoSaid : Prop := codecTextsUptoRow.holds Tryd.pinned (OpenSpec.upto codecTextsSpec)

/-- 'witanlaw01.CodecFrames', WHERE WHAT IT READS IS OF BULK AT MOST 1048576: true; the input reads as it did. -/
def codecFramesUptoRow : OpenClaim := { program := "ytfilinonmngefaadoor", sum := "1f2df004156070a1e92cc849ba35a98733a4c3530dfde94aa242a9552f21d659", func := "witan/witanlaw01.CodecFrames", spec := "codecFrames", unfollowed := true, recurses := true, named := ["witan/codec.steps"], apart := false, laid := [("witan/codec.steps", laid_witan_codec_steps)], narrowed := true }
def CodecFramesUptoSaid : Prop := codecFramesUptoRow.holds Tryd.pinned (OpenSpec.upto codecFramesSpec)

/-- 'witanlaw01.CodecBack', WHERE WHAT IT READS IS OF BULK AT MOST 1048576: true; the input reads as it did. -/
def codecBackUptoRow : OpenClaim := { program := "ytfilinonmngefaadoor", sum := "1f2df004156070a1e92cc849ba35a98733a4c3530dfde94aa242a9552f21d659", func := "witan/witanlaw01.CodecBack", spec := "codecBack", unfollowed := true, recurses := true, named := ["witan/codec.steps"], apart := false, laid := [("witan/codec.steps", laid_witan_codec_steps)], narrowed := true }
def CodecBackUptoSaid : Prop := codecBackUptoRow.holds Tryd.pinned (OpenSpec.upto codecBackSpec)

/-- 'witanlaw01.CodecOne', WHERE WHAT IT READS IS OF BULK AT MOST 1048576: true; the input reads as it did. -/
def codecOneUptoRow : OpenClaim := { program := "ytfilinonmngefaadoor", sum := "1f2df004156070a1e92cc849ba35a98733a4c3530dfde94aa242a9552f21d659", func := "witan/witanlaw01.CodecOne", spec := "codecOne", unfollowed := true, recurses := true, named := ["witan/codec.steps"], apart := false, laid := [("witan/codec.steps", laid_witan_codec_steps)], narrowed := true }
def CodecOneUptoSaid : Prop := codecOneUptoRow.holds Tryd.pinned (OpenSpec.upto codecOneSpec)

/-- 'witanlaw01.CodecTorn', WHERE WHAT IT READS IS OF BULK AT MOST 1048576: true; the input reads as it did. -/
def codecTornUptoRow : OpenClaim := { program := "ytfilinonmngefaadoor", sum := "1f2df004156070a1e92cc849ba35a98733a4c3530dfde94aa242a9552f21d659", func := "witan/witanlaw01.CodecTorn", spec := "codecTorn", unfollowed := true, recurses := true, named := ["witan/codec.steps"], apart := false, laid := [("witan/codec.steps", laid_witan_codec_steps)], narrowed := true }
def CodecTornUptoSaid : Prop := codecTornUptoRow.holds Tryd.pinned (OpenSpec.upto codecTornSpec)

/-- 'witanlaw01.CodecTurned', WHERE WHAT IT READS IS OF BULK AT MOST 1048576: true; the input reads as it did. -/
def codecTurnedUptoRow : OpenClaim := { program := "ytfilinonmngefaadoor", sum := "1f2df004156070a1e92cc849ba35a98733a4c3530dfde94aa242a9552f21d659", func := "witan/witanlaw01.CodecTurned", spec := "codecTurned", unfollowed := true, recurses := true, named := ["witan/codec.steps"], apart := false, laid := [("witan/codec.steps", laid_witan_codec_steps)], narrowed := true }
def CodecTurnedUptoSaid : Prop := codecTurnedUptoRow.holds Tryd.pinned (OpenSpec.upto codecTurnedSpec)

end Rows
end Go.Proofs.YtfilinonmngefaaDoor
