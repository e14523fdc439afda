/-
  DERIVED. GIVEN WITH THE SEED: THE CARDS: each row of YtjceehpfncfpgaaDoorRows.lean that lists a variable, with what it lists TIED to the program's text (the seventh form; the later family's looks); each row that meets fmt, with fmt's text TOLD by the authors' own Lean function (tested against real Go, not proved from fmt's source: count such statements apart). THE CARD IS WHAT COUNTS. Prove the row's statement (the work); the ties are given (YtjceehpfncfpgaaDoorTie.lean); close each card by the builder's one call (the guide's Derived/Test/ToyasCard.lean, 'card_holds'). Laid BY PROGRAM, IN A SANDBOX (cutbox-door.mjs). By AI agents, Wed Nov 11 2026. No macro, syntax, notation, axiom, sorry.
-/
import Derived.Test.YtjceehpfncfpgaaDoorRows
import GoSem.ClaimSeven
namespace Go.Proofs.YtjceehpfncfpgaaDoor
namespace Rows

/-- THE TIED CARD OF 'witanlaw02.ZxidPlaces'. -/
def zxidPlacesCard : Claim7 := { stood := { row := zxidPlacesRow, standIns := [], harness := (true, "a8d5138e721efc3f2334432b9fa7ed3657db5b5797878a57bd6c92e9bb27d787"), looks := false }, kinds := [], alts := [], laidByText := true, laidKinds := [.data, .data, .data], laidTests := true, laidLooks := .later }
def ZxidPlacesCardSaid : Prop := Claim7.holds Tryd.pinned (.plain (OpenSpec.ofChange zxidPlacesSpec)) zxidPlacesCard

/-- THE TIED CARD OF 'witanlaw02.ZxidFresh'. -/
def zxidFreshCard : Claim7 := { stood := { row := zxidFreshRow, standIns := [], harness := (true, "a8d5138e721efc3f2334432b9fa7ed3657db5b5797878a57bd6c92e9bb27d787"), looks := false }, kinds := [], alts := [], laidByText := true, laidKinds := [.data, .data, .data], laidTests := true, laidLooks := .later }
def ZxidFreshCardSaid : Prop := Claim7.holds Tryd.pinned (.plain (OpenSpec.ofChange zxidFreshSpec)) zxidFreshCard

/-- THE TIED CARD OF 'witanlaw02.ZxidTexts'. -/
def zxidTextsCard : Claim7 := { stood := { row := zxidTextsRow, standIns := [], harness := (true, "a8d5138e721efc3f2334432b9fa7ed3657db5b5797878a57bd6c92e9bb27d787"), looks := false }, kinds := [], alts := [], laidByText := true, laidKinds := [.data, .data, .data], laidTests := true, laidLooks := .later }
def ZxidTextsCardSaid : Prop := Claim7.holds Tryd.pinned (.plain (OpenSpec.ofChange zxidTextsSpec)) zxidTextsCard

/-- THE TIED CARD OF 'witanlaw02.ZxidOrders'. -/
def zxidOrdersCard : Claim7 := { stood := { row := zxidOrdersRow, standIns := [], harness := (true, "a8d5138e721efc3f2334432b9fa7ed3657db5b5797878a57bd6c92e9bb27d787"), looks := false }, kinds := [], alts := [], laidByText := true, laidKinds := [.data, .data, .data], laidTests := true, laidLooks := .later }
def ZxidOrdersCardSaid : Prop := Claim7.holds Tryd.pinned (.plain (OpenSpec.ofChange zxidOrdersSpec)) zxidOrdersCard

/-- THE TIED CARD OF 'witanlaw02.ZxidApart'. -/
def zxidApartCard : Claim7 := { stood := { row := zxidApartRow, standIns := [], harness := (true, "a8d5138e721efc3f2334432b9fa7ed3657db5b5797878a57bd6c92e9bb27d787"), looks := false }, kinds := [], alts := [], laidByText := true, laidKinds := [.data, .data, .data], laidTests := true, laidLooks := .later }
def ZxidApartCardSaid : Prop := Claim7.holds Tryd.pinned (.plain (OpenSpec.ofChange zxidApartSpec)) zxidApartCard

/-- THE TIED CARD OF 'witanlaw02.ZxidBack'. -/
def zxidBackCard : Claim7 := { stood := { row := zxidBackRow, standIns := [], harness := (true, "a8d5138e721efc3f2334432b9fa7ed3657db5b5797878a57bd6c92e9bb27d787"), looks := false }, kinds := [], alts := [], laidByText := true, laidKinds := [.data, .data, .data], laidTests := true, laidLooks := .later }
def ZxidBackCardSaid : Prop := Claim7.holds Tryd.pinned (.plain (OpenSpec.ofChange zxidBackSpec)) zxidBackCard

/-- THE TIED CARD OF 'witanlaw04.ConfigChecks'. -/
def configChecksCard : Claim7 := { stood := { row := configChecksRow, standIns := [], harness := (true, "a8d5138e721efc3f2334432b9fa7ed3657db5b5797878a57bd6c92e9bb27d787"), looks := false }, kinds := [], alts := [], laidByText := true, laidKinds := [.data, .data, .data, .data, .pinned], laidTests := true, laidLooks := .later }
def ConfigChecksCardSaid : Prop := Claim7.holds Tryd.pinned (.plain (OpenSpec.ofChange configChecksSpec)) configChecksCard

/-- THE TIED CARD OF 'witanlaw04.ConfigSorts'. -/
def configSortsCard : Claim7 := { stood := { row := configSortsRow, standIns := [], harness := (true, "a8d5138e721efc3f2334432b9fa7ed3657db5b5797878a57bd6c92e9bb27d787"), looks := false }, kinds := [], alts := [], laidByText := true, laidKinds := [.data, .data, .data, .data, .pinned], laidTests := true, laidLooks := .later }
def ConfigSortsCardSaid : Prop := Claim7.holds Tryd.pinned (.plain (OpenSpec.ofChange configSortsSpec)) configSortsCard

/-- THE TIED CARD OF 'witanlaw04.ConfigBack'. -/
def configBackCard : Claim7 := { stood := { row := configBackRow, standIns := [], harness := (true, "a8d5138e721efc3f2334432b9fa7ed3657db5b5797878a57bd6c92e9bb27d787"), looks := false }, kinds := [], alts := [], laidByText := true, laidKinds := [.data, .data, .data, .data, .pinned], laidTests := true, laidLooks := .later }
def ConfigBackCardSaid : Prop := Claim7.holds Tryd.pinned (.plain (OpenSpec.ofChange configBackSpec)) configBackCard

/-- THE TIED CARD OF 'witanlaw04.ConfigParts'. -/
def configPartsCard : Claim7 := { stood := { row := configPartsRow, standIns := [], harness := (true, "a8d5138e721efc3f2334432b9fa7ed3657db5b5797878a57bd6c92e9bb27d787"), looks := false }, kinds := [], alts := [], laidByText := true, laidKinds := [.data, .data, .data, .data, .pinned], laidTests := true, laidLooks := .later }
def ConfigPartsCardSaid : Prop := Claim7.holds Tryd.pinned (.plain (OpenSpec.ofChange configPartsSpec)) configPartsCard

/-- THE SECOND FORM's CARD OF 'witanlaw02.ZxidPlaces'. -/
def zxidPlacesUptoCard : Claim7 := { stood := { row := zxidPlacesUptoRow, standIns := [], harness := (true, "a8d5138e721efc3f2334432b9fa7ed3657db5b5797878a57bd6c92e9bb27d787"), looks := false }, kinds := [], alts := [], laidByText := true, laidKinds := [.data, .data, .data], laidTests := true, laidLooks := .later }
def ZxidPlacesUptoCardSaid : Prop := Claim7.holds Tryd.pinned (.plain (OpenSpec.upto zxidPlacesSpec)) zxidPlacesUptoCard

/-- THE SECOND FORM's CARD OF 'witanlaw02.ZxidFresh'. -/
def zxidFreshUptoCard : Claim7 := { stood := { row := zxidFreshUptoRow, standIns := [], harness := (true, "a8d5138e721efc3f2334432b9fa7ed3657db5b5797878a57bd6c92e9bb27d787"), looks := false }, kinds := [], alts := [], laidByText := true, laidKinds := [.data, .data, .data], laidTests := true, laidLooks := .later }
def ZxidFreshUptoCardSaid : Prop := Claim7.holds Tryd.pinned (.plain (OpenSpec.upto zxidFreshSpec)) zxidFreshUptoCard

/-- THE SECOND FORM's CARD OF 'witanlaw02.ZxidTexts'. -/
def zxidTextsUptoCard : Claim7 := { stood := { row := zxidTextsUptoRow, standIns := [], harness := (true, "a8d5138e721efc3f2334432b9fa7ed3657db5b5797878a57bd6c92e9bb27d787"), looks := false }, kinds := [], alts := [], laidByText := true, laidKinds := [.data, .data, .data], laidTests := true, laidLooks := .later }
def ZxidTextsUptoCardSaid : Prop := Claim7.holds Tryd.pinned (.plain (OpenSpec.upto zxidTextsSpec)) zxidTextsUptoCard

/-- THE SECOND FORM's CARD OF 'witanlaw02.ZxidOrders'. -/
def zxidOrdersUptoCard : Claim7 := { stood := { row := zxidOrdersUptoRow, standIns := [], harness := (true, "a8d5138e721efc3f2334432b9fa7ed3657db5b5797878a57bd6c92e9bb27d787"), looks := false }, kinds := [], alts := [], laidByText := true, laidKinds := [.data, .data, .data], laidTests := true, laidLooks := .later }
def ZxidOrdersUptoCardSaid : Prop := Claim7.holds Tryd.pinned (.plain (OpenSpec.upto zxidOrdersSpec)) zxidOrdersUptoCard

/-- THE SECOND FORM's CARD OF 'witanlaw02.ZxidApart'. -/
def zxidApartUptoCard : Claim7 := { stood := { row := zxidApartUptoRow, standIns := [], harness := (true, "a8d5138e721efc3f2334432b9fa7ed3657db5b5797878a57bd6c92e9bb27d787"), looks := false }, kinds := [], alts := [], laidByText := true, laidKinds := [.data, .data, .data], laidTests := true, laidLooks := .later }
def ZxidApartUptoCardSaid : Prop := Claim7.holds Tryd.pinned (.plain (OpenSpec.upto zxidApartSpec)) zxidApartUptoCard

/-- THE SECOND FORM's CARD OF 'witanlaw02.ZxidBack'. -/
def zxidBackUptoCard : Claim7 := { stood := { row := zxidBackUptoRow, standIns := [], harness := (true, "a8d5138e721efc3f2334432b9fa7ed3657db5b5797878a57bd6c92e9bb27d787"), looks := false }, kinds := [], alts := [], laidByText := true, laidKinds := [.data, .data, .data], laidTests := true, laidLooks := .later }
def ZxidBackUptoCardSaid : Prop := Claim7.holds Tryd.pinned (.plain (OpenSpec.upto zxidBackSpec)) zxidBackUptoCard

/-- THE SECOND FORM's CARD OF 'witanlaw04.ConfigChecks'. -/
def configChecksUptoCard : Claim7 := { stood := { row := configChecksUptoRow, standIns := [], harness := (true, "a8d5138e721efc3f2334432b9fa7ed3657db5b5797878a57bd6c92e9bb27d787"), looks := false }, kinds := [], alts := [], laidByText := true, laidKinds := [.data, .data, .data, .data, .pinned], laidTests := true, laidLooks := .later }
def ConfigChecksUptoCardSaid : Prop := Claim7.holds Tryd.pinned (.plain (OpenSpec.upto configChecksSpec)) configChecksUptoCard

/-- THE SECOND FORM's CARD OF 'witanlaw04.ConfigSorts'. -/
def configSortsUptoCard : Claim7 := { stood := { row := configSortsUptoRow, standIns := [], harness := (true, "a8d5138e721efc3f2334432b9fa7ed3657db5b5797878a57bd6c92e9bb27d787"), looks := false }, kinds := [], alts := [], laidByText := true, laidKinds := [.data, .data, .data, .data, .pinned], laidTests := true, laidLooks := .later }
def ConfigSortsUptoCardSaid : Prop := Claim7.holds Tryd.pinned (.plain (OpenSpec.upto configSortsSpec)) configSortsUptoCard

/-- THE SECOND FORM's CARD OF 'witanlaw04.ConfigBack'. -/
def configBackUptoCard : Claim7 := { stood := { row := configBackUptoRow, standIns := [], harness := (true, "a8d5138e721efc3f2334432b9fa7ed3657db5b5797878a57bd6c92e9bb27d787"), looks := false }, kinds := [], alts := [], laidByText := true, laidKinds := [.data, .data, .data, .data, .pinned], laidTests := true, laidLooks := .later }
def ConfigBackUptoCardSaid : Prop := Claim7.holds Tryd.pinned (.plain (OpenSpec.upto configBackSpec)) configBackUptoCard

/-- THE SECOND FORM's CARD OF 'witanlaw04.ConfigParts'. -/
def configPartsUptoCard : Claim7 := { stood := { row := configPartsUptoRow, standIns := [], harness := (true, "a8d5138e721efc3f2334432b9fa7ed3657db5b5797878a57bd6c92e9bb27d787"), looks := false }, kinds := [], alts := [], laidByText := true, laidKinds := [.data, .data, .data, .data, .pinned], laidTests := true, laidLooks := .later }
def ConfigPartsUptoCardSaid : Prop := Claim7.holds Tryd.pinned (.plain (OpenSpec.upto configPartsSpec)) configPartsUptoCard
end Rows
end Go.Proofs.YtjceehpfncfpgaaDoor
