/-
  DERIVED. GIVEN WITH THE SEED: THE CARDS: each row of YtjekjpgccnhobaaDoorRows.lean that lists a variable, with what it lists TIED to the program's text (the seventh form; the later family's looks); each row that meets fmt, with fmt's text TOLD by the authors' own Lean function (tested against real Go, not proved from fmt's source: count such statements apart). THE CARD IS WHAT COUNTS. Prove the row's statement (the work); the ties are given (YtjekjpgccnhobaaDoorTie.lean); close each card by the builder's one call (the guide's Derived/Test/ToyasCard.lean, 'card_holds'). Laid BY PROGRAM, IN A SANDBOX (cutbox-door.mjs). By AI agents, Wed Nov 11 2026. No macro, syntax, notation, axiom, sorry.
-/
import Derived.Test.YtjekjpgccnhobaaDoorRows
import GoSem.ClaimSeven
namespace Go.Proofs.YtjekjpgccnhobaaDoor
namespace Rows

/-- THE TIED CARD OF 'witanlaw04.ConfigChecks'. -/
def configChecksCard : Claim7 := { stood := { row := configChecksRow, standIns := [], harness := (true, "d5b0d1b4fe3c7d06e86829966dfcfc49e1e3f6cdade622400af92c9b7b73d340"), looks := false }, kinds := [], alts := [], laidByText := true, laidKinds := [.data, .data, .data, .data, .pinned], laidTests := true, laidLooks := .later }
def ConfigChecksCardSaid : Prop := Claim7.holds Tryd.pinned (.plain (OpenSpec.ofChange configChecksSpec)) configChecksCard

/-- THE TIED CARD OF 'witanlaw04.ConfigSorts'. -/
def configSortsCard : Claim7 := { stood := { row := configSortsRow, standIns := [], harness := (true, "d5b0d1b4fe3c7d06e86829966dfcfc49e1e3f6cdade622400af92c9b7b73d340"), looks := false }, kinds := [], alts := [], laidByText := true, laidKinds := [.data, .data, .data, .data, .pinned], laidTests := true, laidLooks := .later }
def ConfigSortsCardSaid : Prop := Claim7.holds Tryd.pinned (.plain (OpenSpec.ofChange configSortsSpec)) configSortsCard

/-- THE TIED CARD OF 'witanlaw04.ConfigBack'. -/
def configBackCard : Claim7 := { stood := { row := configBackRow, standIns := [], harness := (true, "d5b0d1b4fe3c7d06e86829966dfcfc49e1e3f6cdade622400af92c9b7b73d340"), looks := false }, kinds := [], alts := [], laidByText := true, laidKinds := [.data, .data, .data, .data, .pinned], laidTests := true, laidLooks := .later }
def ConfigBackCardSaid : Prop := Claim7.holds Tryd.pinned (.plain (OpenSpec.ofChange configBackSpec)) configBackCard

/-- THE TIED CARD OF 'witanlaw04.ConfigParts'. -/
def configPartsCard : Claim7 := { stood := { row := configPartsRow, standIns := [], harness := (true, "d5b0d1b4fe3c7d06e86829966dfcfc49e1e3f6cdade622400af92c9b7b73d340"), looks := false }, kinds := [], alts := [], laidByText := true, laidKinds := [.data, .data, .data, .data, .pinned], laidTests := true, laidLooks := .later }
def ConfigPartsCardSaid : Prop := Claim7.holds Tryd.pinned (.plain (OpenSpec.ofChange configPartsSpec)) configPartsCard

/-- THE SECOND FORM's CARD OF 'witanlaw04.ConfigChecks'. -/
def configChecksUptoCard : Claim7 := { stood := { row := configChecksUptoRow, standIns := [], harness := (true, "d5b0d1b4fe3c7d06e86829966dfcfc49e1e3f6cdade622400af92c9b7b73d340"), looks := false }, kinds := [], alts := [], laidByText := true, laidKinds := [.data, .data, .data, .data, .pinned], laidTests := true, laidLooks := .later }
def ConfigChecksUptoCardSaid : Prop := Claim7.holds Tryd.pinned (.plain (OpenSpec.upto configChecksSpec)) configChecksUptoCard

/-- THE SECOND FORM's CARD OF 'witanlaw04.ConfigSorts'. -/
def configSortsUptoCard : Claim7 := { stood := { row := configSortsUptoRow, standIns := [], harness := (true, "d5b0d1b4fe3c7d06e86829966dfcfc49e1e3f6cdade622400af92c9b7b73d340"), looks := false }, kinds := [], alts := [], laidByText := true, laidKinds := [.data, .data, .data, .data, .pinned], laidTests := true, laidLooks := .later }
def ConfigSortsUptoCardSaid : Prop := Claim7.holds Tryd.pinned (.plain (OpenSpec.upto configSortsSpec)) configSortsUptoCard

/-- THE SECOND FORM's CARD OF 'witanlaw04.ConfigBack'. -/
def configBackUptoCard : Claim7 := { stood := { row := configBackUptoRow, standIns := [], harness := (true, "d5b0d1b4fe3c7d06e86829966dfcfc49e1e3f6cdade622400af92c9b7b73d340"), looks := false }, kinds := [], alts := [], laidByText := true, laidKinds := [.data, .data, .data, .data, .pinned], laidTests := true, laidLooks := .later }
def ConfigBackUptoCardSaid : Prop := Claim7.holds Tryd.pinned (.plain (OpenSpec.upto configBackSpec)) configBackUptoCard

/-- THE SECOND FORM's CARD OF 'witanlaw04.ConfigParts'. -/
def configPartsUptoCard : Claim7 := { stood := { row := configPartsUptoRow, standIns := [], harness := (true, "d5b0d1b4fe3c7d06e86829966dfcfc49e1e3f6cdade622400af92c9b7b73d340"), looks := false }, kinds := [], alts := [], laidByText := true, laidKinds := [.data, .data, .data, .data, .pinned], laidTests := true, laidLooks := .later }
def ConfigPartsUptoCardSaid : Prop := Claim7.holds Tryd.pinned (.plain (OpenSpec.upto configPartsSpec)) configPartsUptoCard
end Rows
end Go.Proofs.YtjekjpgccnhobaaDoor
