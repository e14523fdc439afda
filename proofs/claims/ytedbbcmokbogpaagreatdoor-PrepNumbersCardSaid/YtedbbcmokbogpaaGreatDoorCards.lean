/-
  DERIVED. GIVEN WITH THE SEED: THE CARDS: each row of YtedbbcmokbogpaaGreatDoorRows.lean that lists a variable, with what it lists TIED to the program's text (the seventh form; the later family's looks); each row that meets fmt, with fmt's text TOLD by the authors' own Lean function (tested against real Go, not proved from fmt's source: count such statements apart). THE CARD IS WHAT COUNTS. Prove the row's statement (the work); the ties are given (YtedbbcmokbogpaaGreatDoorTie.lean); close each card by the builder's one call (the guide's Derived/Test/ToyasCard.lean, 'card_holds'). Laid BY PROGRAM, IN A SANDBOX (cutbox-door.mjs). By AI agents, Wed Nov 11 2026. No macro, syntax, notation, axiom, sorry.
-/
import Derived.Test.YtedbbcmokbogpaaGreatDoorRows
import GoSem.ClaimSeven
namespace Go.Proofs.YtedbbcmokbogpaaGreatDoor
namespace Rows

/-- THE TIED CARD OF 'witanlaw09.PrepRight'. -/
def prepRightCard : Claim7 := { stood := { row := prepRightRow, standIns := [], harness := (true, "7767245ea9ff8cf206d5c162d3f52e7fe5d042cbfa94cb7597a1b601835a14f0"), looks := false }, kinds := [], alts := [], laidByText := true, laidKinds := [.data, .data, .data], laidTests := true, laidLooks := .later }
def PrepRightCardSaid : Prop := Claim7.holds Tryz.pinned (.plain (OpenSpec.ofChange prepRightSpec)) prepRightCard

/-- THE TIED CARD OF 'witanlaw09.PrepKeeps'. -/
def prepKeepsCard : Claim7 := { stood := { row := prepKeepsRow, standIns := [], harness := (true, "7767245ea9ff8cf206d5c162d3f52e7fe5d042cbfa94cb7597a1b601835a14f0"), looks := false }, kinds := [], alts := [], laidByText := true, laidKinds := [.data, .data, .data], laidTests := true, laidLooks := .later }
def PrepKeepsCardSaid : Prop := Claim7.holds Tryz.pinned (.plain (OpenSpec.ofChange prepKeepsSpec)) prepKeepsCard

/-- THE TIED CARD OF 'witanlaw09.PrepAtOnce'. -/
def prepAtOnceCard : Claim7 := { stood := { row := prepAtOnceRow, standIns := [], harness := (true, "7767245ea9ff8cf206d5c162d3f52e7fe5d042cbfa94cb7597a1b601835a14f0"), looks := false }, kinds := [], alts := [], laidByText := true, laidKinds := [.data, .data, .data], laidTests := true, laidLooks := .later }
def PrepAtOnceCardSaid : Prop := Claim7.holds Tryz.pinned (.plain (OpenSpec.ofChange prepAtOnceSpec)) prepAtOnceCard

/-- THE TIED CARD OF 'witanlaw09.PrepNumbers'. -/
def prepNumbersCard : Claim7 := { stood := { row := prepNumbersRow, standIns := [], harness := (true, "7767245ea9ff8cf206d5c162d3f52e7fe5d042cbfa94cb7597a1b601835a14f0"), looks := false }, kinds := [], alts := [], laidByText := true, laidKinds := [.data, .data, .data], laidTests := true, laidLooks := .later }
def PrepNumbersCardSaid : Prop := Claim7.holds Tryz.pinned (.plain (OpenSpec.ofChange prepNumbersSpec)) prepNumbersCard

/-- THE TIED CARD OF 'witanlaw09.PrepCloses'. -/
def prepClosesCard : Claim7 := { stood := { row := prepClosesRow, standIns := [], harness := (true, "7767245ea9ff8cf206d5c162d3f52e7fe5d042cbfa94cb7597a1b601835a14f0"), looks := false }, kinds := [], alts := [], laidByText := true, laidKinds := [.data, .data, .data], laidTests := true, laidLooks := .later }
def PrepClosesCardSaid : Prop := Claim7.holds Tryz.pinned (.plain (OpenSpec.ofChange prepClosesSpec)) prepClosesCard

/-- THE SECOND FORM's CARD OF 'witanlaw09.PrepRight'. -/
def prepRightUptoCard : Claim7 := { stood := { row := prepRightUptoRow, standIns := [], harness := (true, "7767245ea9ff8cf206d5c162d3f52e7fe5d042cbfa94cb7597a1b601835a14f0"), looks := false }, kinds := [], alts := [], laidByText := true, laidKinds := [.data, .data, .data], laidTests := true, laidLooks := .later }
def PrepRightUptoCardSaid : Prop := Claim7.holds Tryz.pinned (.plain (OpenSpec.upto prepRightSpec)) prepRightUptoCard

/-- THE SECOND FORM's CARD OF 'witanlaw09.PrepKeeps'. -/
def prepKeepsUptoCard : Claim7 := { stood := { row := prepKeepsUptoRow, standIns := [], harness := (true, "7767245ea9ff8cf206d5c162d3f52e7fe5d042cbfa94cb7597a1b601835a14f0"), looks := false }, kinds := [], alts := [], laidByText := true, laidKinds := [.data, .data, .data], laidTests := true, laidLooks := .later }
def PrepKeepsUptoCardSaid : Prop := Claim7.holds Tryz.pinned (.plain (OpenSpec.upto prepKeepsSpec)) prepKeepsUptoCard

/-- THE SECOND FORM's CARD OF 'witanlaw09.PrepAtOnce'. -/
def prepAtOnceUptoCard : Claim7 := { stood := { row := prepAtOnceUptoRow, standIns := [], harness := (true, "7767245ea9ff8cf206d5c162d3f52e7fe5d042cbfa94cb7597a1b601835a14f0"), looks := false }, kinds := [], alts := [], laidByText := true, laidKinds := [.data, .data, .data], laidTests := true, laidLooks := .later }
def PrepAtOnceUptoCardSaid : Prop := Claim7.holds Tryz.pinned (.plain (OpenSpec.upto prepAtOnceSpec)) prepAtOnceUptoCard

/-- THE SECOND FORM's CARD OF 'witanlaw09.PrepNumbers'. -/
def prepNumbersUptoCard : Claim7 := { stood := { row := prepNumbersUptoRow, standIns := [], harness := (true, "7767245ea9ff8cf206d5c162d3f52e7fe5d042cbfa94cb7597a1b601835a14f0"), looks := false }, kinds := [], alts := [], laidByText := true, laidKinds := [.data, .data, .data], laidTests := true, laidLooks := .later }
def PrepNumbersUptoCardSaid : Prop := Claim7.holds Tryz.pinned (.plain (OpenSpec.upto prepNumbersSpec)) prepNumbersUptoCard

/-- THE SECOND FORM's CARD OF 'witanlaw09.PrepCloses'. -/
def prepClosesUptoCard : Claim7 := { stood := { row := prepClosesUptoRow, standIns := [], harness := (true, "7767245ea9ff8cf206d5c162d3f52e7fe5d042cbfa94cb7597a1b601835a14f0"), looks := false }, kinds := [], alts := [], laidByText := true, laidKinds := [.data, .data, .data], laidTests := true, laidLooks := .later }
def PrepClosesUptoCardSaid : Prop := Claim7.holds Tryz.pinned (.plain (OpenSpec.upto prepClosesSpec)) prepClosesUptoCard
end Rows
end Go.Proofs.YtedbbcmokbogpaaGreatDoor
