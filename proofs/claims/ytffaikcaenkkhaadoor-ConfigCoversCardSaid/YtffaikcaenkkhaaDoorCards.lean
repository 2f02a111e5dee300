/-
  DERIVED. GIVEN WITH THE SEED: THE CARDS: each row of YtffaikcaenkkhaaDoorRows.lean that lists a variable, with what it lists TIED to the program's text (the seventh form; the later family's looks); each row that meets fmt, with fmt's text TOLD by the authors' own Lean function (tested against real Go, not proved from fmt's source: count such statements apart). THE CARD IS WHAT COUNTS. Prove the row's statement (the work); the ties are given (YtffaikcaenkkhaaDoorTie.lean); close each card by the builder's one call (the guide's Derived/Test/ToyasCard.lean, 'card_holds'). Laid BY PROGRAM, IN A SANDBOX (cutbox-door.mjs). By AI agents, Wed Nov 11 2026. No macro, syntax, notation, axiom, sorry.
-/
import Derived.Test.YtffaikcaenkkhaaDoorRows
import GoSem.ClaimSeven
namespace Go.Proofs.YtffaikcaenkkhaaDoor
namespace Rows

/-- THE TIED CARD OF 'shunterlaw02.ConfigChecks'. -/
def configChecksCard : Claim7 := { stood := { row := configChecksRow, standIns := [], harness := (true, "1f6f1f8f860284e0591a7fe2d8bd932cfbdd727a3e60724e1188f917b1c5c143"), looks := true }, kinds := [], alts := [], laidByText := true, laidKinds := [.data, .data, .data], laidTests := true, laidLooks := .later }
def ConfigChecksCardSaid : Prop := Claim7.holds Tryd.pinned (.plain (OpenSpec.ofChange configChecksSpec)) configChecksCard

/-- THE TIED CARD OF 'shunterlaw02.ConfigSums'. -/
def configSumsCard : Claim7 := { stood := { row := configSumsRow, standIns := [], harness := (true, "1f6f1f8f860284e0591a7fe2d8bd932cfbdd727a3e60724e1188f917b1c5c143"), looks := true }, kinds := [], alts := [], laidByText := true, laidKinds := [.data, .data, .data], laidTests := true, laidLooks := .later }
def ConfigSumsCardSaid : Prop := Claim7.holds Tryd.pinned (.plain (OpenSpec.ofChange configSumsSpec)) configSumsCard

/-- THE TIED CARD OF 'shunterlaw02.ConfigPlaces'. -/
def configPlacesCard : Claim7 := { stood := { row := configPlacesRow, standIns := [], harness := (true, "1f6f1f8f860284e0591a7fe2d8bd932cfbdd727a3e60724e1188f917b1c5c143"), looks := true }, kinds := [], alts := [], laidByText := true, laidKinds := [.data, .data, .data], laidTests := true, laidLooks := .later }
def ConfigPlacesCardSaid : Prop := Claim7.holds Tryd.pinned (.plain (OpenSpec.ofChange configPlacesSpec)) configPlacesCard

/-- THE TIED CARD OF 'shunterlaw02.ConfigTexts'. -/
def configTextsCard : Claim7 := { stood := { row := configTextsRow, standIns := [], harness := (true, "1f6f1f8f860284e0591a7fe2d8bd932cfbdd727a3e60724e1188f917b1c5c143"), looks := true }, kinds := [], alts := [], laidByText := true, laidKinds := [.data, .data, .data, .data, .sentinel, .sentinel, .pinned], laidTests := true, laidLooks := .later }
def ConfigTextsCardSaid : Prop := Claim7.holds Tryd.pinned (.plain (OpenSpec.ofChange configTextsSpec)) configTextsCard

/-- THE TIED CARD OF 'shunterlaw02.ConfigCovers'. -/
def configCoversCard : Claim7 := { stood := { row := configCoversRow, standIns := [], harness := (true, "1f6f1f8f860284e0591a7fe2d8bd932cfbdd727a3e60724e1188f917b1c5c143"), looks := true }, kinds := [], alts := [], laidByText := true, laidKinds := [.data, .data, .data], laidTests := true, laidLooks := .later }
def ConfigCoversCardSaid : Prop := Claim7.holds Tryd.pinned (.plain (OpenSpec.ofChange configCoversSpec)) configCoversCard

/-- THE TIED CARD OF 'shunterlaw02.ConfigRoom'. -/
def configRoomCard : Claim7 := { stood := { row := configRoomRow, standIns := [], harness := (true, "1f6f1f8f860284e0591a7fe2d8bd932cfbdd727a3e60724e1188f917b1c5c143"), looks := true }, kinds := [], alts := [], laidByText := true, laidKinds := [.data, .data, .data], laidTests := true, laidLooks := .later }
def ConfigRoomCardSaid : Prop := Claim7.holds Tryd.pinned (.plain (OpenSpec.ofChange configRoomSpec)) configRoomCard

/-- THE TIED CARD OF 'shunterlaw02.ConfigGrows'. -/
def configGrowsCard : Claim7 := { stood := { row := configGrowsRow, standIns := [], harness := (true, "1f6f1f8f860284e0591a7fe2d8bd932cfbdd727a3e60724e1188f917b1c5c143"), looks := true }, kinds := [], alts := [], laidByText := true, laidKinds := [.data, .data, .data], laidTests := true, laidLooks := .later }
def ConfigGrowsCardSaid : Prop := Claim7.holds Tryd.pinned (.plain (OpenSpec.ofChange configGrowsSpec)) configGrowsCard

/-- THE TIED CARD OF 'shunterlaw02.ConfigKnown'. -/
def configKnownCard : Claim7 := { stood := { row := configKnownRow, standIns := [], harness := (true, "1f6f1f8f860284e0591a7fe2d8bd932cfbdd727a3e60724e1188f917b1c5c143"), looks := true }, kinds := [], alts := [], laidByText := true, laidKinds := [.data, .data, .data], laidTests := true, laidLooks := .later }
def ConfigKnownCardSaid : Prop := Claim7.holds Tryd.pinned (.plain (OpenSpec.ofChange configKnownSpec)) configKnownCard

/-- THE SECOND FORM's CARD OF 'shunterlaw02.ConfigChecks'. -/
def configChecksUptoCard : Claim7 := { stood := { row := configChecksUptoRow, standIns := [], harness := (true, "1f6f1f8f860284e0591a7fe2d8bd932cfbdd727a3e60724e1188f917b1c5c143"), looks := true }, kinds := [], alts := [], laidByText := true, laidKinds := [.data, .data, .data], laidTests := true, laidLooks := .later }
def ConfigChecksUptoCardSaid : Prop := Claim7.holds Tryd.pinned (.plain (OpenSpec.upto configChecksSpec)) configChecksUptoCard

/-- THE SECOND FORM's CARD OF 'shunterlaw02.ConfigSums'. -/
def configSumsUptoCard : Claim7 := { stood := { row := configSumsUptoRow, standIns := [], harness := (true, "1f6f1f8f860284e0591a7fe2d8bd932cfbdd727a3e60724e1188f917b1c5c143"), looks := true }, kinds := [], alts := [], laidByText := true, laidKinds := [.data, .data, .data], laidTests := true, laidLooks := .later }
def ConfigSumsUptoCardSaid : Prop := Claim7.holds Tryd.pinned (.plain (OpenSpec.upto configSumsSpec)) configSumsUptoCard

/-- THE SECOND FORM's CARD OF 'shunterlaw02.ConfigPlaces'. -/
def configPlacesUptoCard : Claim7 := { stood := { row := configPlacesUptoRow, standIns := [], harness := (true, "1f6f1f8f860284e0591a7fe2d8bd932cfbdd727a3e60724e1188f917b1c5c143"), looks := true }, kinds := [], alts := [], laidByText := true, laidKinds := [.data, .data, .data], laidTests := true, laidLooks := .later }
def ConfigPlacesUptoCardSaid : Prop := Claim7.holds Tryd.pinned (.plain (OpenSpec.upto configPlacesSpec)) configPlacesUptoCard

/-- THE SECOND FORM's CARD OF 'shunterlaw02.ConfigTexts'. -/
def configTextsUptoCard : Claim7 := { stood := { row := configTextsUptoRow, standIns := [], harness := (true, "1f6f1f8f860284e0591a7fe2d8bd932cfbdd727a3e60724e1188f917b1c5c143"), looks := true }, kinds := [], alts := [], laidByText := true, laidKinds := [.data, .data, .data, .data, .sentinel, .sentinel, .pinned], laidTests := true, laidLooks := .later }
def ConfigTextsUptoCardSaid : Prop := Claim7.holds Tryd.pinned (.plain (OpenSpec.upto configTextsSpec)) configTextsUptoCard

/-- THE SECOND FORM's CARD OF 'shunterlaw02.ConfigCovers'. -/
def configCoversUptoCard : Claim7 := { stood := { row := configCoversUptoRow, standIns := [], harness := (true, "1f6f1f8f860284e0591a7fe2d8bd932cfbdd727a3e60724e1188f917b1c5c143"), looks := true }, kinds := [], alts := [], laidByText := true, laidKinds := [.data, .data, .data], laidTests := true, laidLooks := .later }
def ConfigCoversUptoCardSaid : Prop := Claim7.holds Tryd.pinned (.plain (OpenSpec.upto configCoversSpec)) configCoversUptoCard

/-- THE SECOND FORM's CARD OF 'shunterlaw02.ConfigRoom'. -/
def configRoomUptoCard : Claim7 := { stood := { row := configRoomUptoRow, standIns := [], harness := (true, "1f6f1f8f860284e0591a7fe2d8bd932cfbdd727a3e60724e1188f917b1c5c143"), looks := true }, kinds := [], alts := [], laidByText := true, laidKinds := [.data, .data, .data], laidTests := true, laidLooks := .later }
def ConfigRoomUptoCardSaid : Prop := Claim7.holds Tryd.pinned (.plain (OpenSpec.upto configRoomSpec)) configRoomUptoCard

/-- THE SECOND FORM's CARD OF 'shunterlaw02.ConfigGrows'. -/
def configGrowsUptoCard : Claim7 := { stood := { row := configGrowsUptoRow, standIns := [], harness := (true, "1f6f1f8f860284e0591a7fe2d8bd932cfbdd727a3e60724e1188f917b1c5c143"), looks := true }, kinds := [], alts := [], laidByText := true, laidKinds := [.data, .data, .data], laidTests := true, laidLooks := .later }
def ConfigGrowsUptoCardSaid : Prop := Claim7.holds Tryd.pinned (.plain (OpenSpec.upto configGrowsSpec)) configGrowsUptoCard

/-- THE SECOND FORM's CARD OF 'shunterlaw02.ConfigKnown'. -/
def configKnownUptoCard : Claim7 := { stood := { row := configKnownUptoRow, standIns := [], harness := (true, "1f6f1f8f860284e0591a7fe2d8bd932cfbdd727a3e60724e1188f917b1c5c143"), looks := true }, kinds := [], alts := [], laidByText := true, laidKinds := [.data, .data, .data], laidTests := true, laidLooks := .later }
def ConfigKnownUptoCardSaid : Prop := Claim7.holds Tryd.pinned (.plain (OpenSpec.upto configKnownSpec)) configKnownUptoCard
end Rows
end Go.Proofs.YtffaikcaenkkhaaDoor
