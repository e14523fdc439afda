/-
  DERIVED. GIVEN WITH THE SEED: THE CARDS: each row of YtpihbhacmokekaaGreatDoorRows.lean that lists a variable, with what it lists TIED to the program's text (the seventh form; the later family's looks); each row that meets fmt, with fmt's text TOLD by the authors' own Lean function (tested against real Go, not proved from fmt's source: count such statements apart). THE CARD IS WHAT COUNTS. Prove the row's statement (the work); the ties are given (YtpihbhacmokekaaGreatDoorTie.lean); close each card by the builder's one call (the guide's Derived/Test/ToyasCard.lean, 'card_holds'). Laid BY PROGRAM, IN A SANDBOX (cutbox-door.mjs). By AI agents, Wed Nov 11 2026. No macro, syntax, notation, axiom, sorry.
-/
import Derived.Test.YtpihbhacmokekaaGreatDoorRows
import GoSem.ClaimSeven
namespace Go.Proofs.YtpihbhacmokekaaGreatDoor
namespace Rows

/-- THE TIED CARD OF 'witanlaw20.ReconfAsks'. -/
def reconfAsksCard : Claim7 := { stood := { row := reconfAsksRow, standIns := [], harness := (true, "485bffdb661b5b47685213d811aaddcaffb13015fbb77314950889e6295b35e4"), looks := false }, kinds := [], alts := [], laidByText := true, laidKinds := [.data, .data, .data], laidTests := true, laidLooks := .later }
def ReconfAsksCardSaid : Prop := Claim7.holds Tryz.pinned (.plain (OpenSpec.ofChange reconfAsksSpec)) reconfAsksCard

/-- THE TIED CARD OF 'witanlaw20.ReconfTakes'. -/
def reconfTakesCard : Claim7 := { stood := { row := reconfTakesRow, standIns := [], harness := (true, "485bffdb661b5b47685213d811aaddcaffb13015fbb77314950889e6295b35e4"), looks := false }, kinds := [], alts := [], laidByText := true, laidKinds := [.data, .data, .data], laidTests := true, laidLooks := .later }
def ReconfTakesCardSaid : Prop := Claim7.holds Tryz.pinned (.plain (OpenSpec.ofChange reconfTakesSpec)) reconfTakesCard

/-- THE SECOND FORM's CARD OF 'witanlaw20.ReconfAsks'. -/
def reconfAsksUptoCard : Claim7 := { stood := { row := reconfAsksUptoRow, standIns := [], harness := (true, "485bffdb661b5b47685213d811aaddcaffb13015fbb77314950889e6295b35e4"), looks := false }, kinds := [], alts := [], laidByText := true, laidKinds := [.data, .data, .data], laidTests := true, laidLooks := .later }
def ReconfAsksUptoCardSaid : Prop := Claim7.holds Tryz.pinned (.plain (OpenSpec.upto reconfAsksSpec)) reconfAsksUptoCard

/-- THE SECOND FORM's CARD OF 'witanlaw20.ReconfTakes'. -/
def reconfTakesUptoCard : Claim7 := { stood := { row := reconfTakesUptoRow, standIns := [], harness := (true, "485bffdb661b5b47685213d811aaddcaffb13015fbb77314950889e6295b35e4"), looks := false }, kinds := [], alts := [], laidByText := true, laidKinds := [.data, .data, .data], laidTests := true, laidLooks := .later }
def ReconfTakesUptoCardSaid : Prop := Claim7.holds Tryz.pinned (.plain (OpenSpec.upto reconfTakesSpec)) reconfTakesUptoCard
end Rows
end Go.Proofs.YtpihbhacmokekaaGreatDoor
