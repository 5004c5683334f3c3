/-
  DERIVED. GIVEN WITH THE SEED: THE CARDS: each row of YtengchkiejpglaaDoorRows.lean that lists a variable, with what it lists TIED to the program's text (the seventh form; the later family's looks); each row that meets fmt, with fmt's text TOLD by the authors' own Lean function (tested against real Go, not proved from fmt's source: count such statements apart). THE CARD IS WHAT COUNTS. Prove the row's statement (the work); the ties are given (YtengchkiejpglaaDoorTie.lean); close each card by the builder's one call (the guide's Derived/Test/ToyasCard.lean, 'card_holds'). Laid BY PROGRAM, IN A SANDBOX (cutbox-door.mjs). By AI agents, Wed Nov 11 2026. No macro, syntax, notation, axiom, sorry.
-/
import Derived.Test.YtengchkiejpglaaDoorRows
import GoSem.ClaimSeven
namespace Go.Proofs.YtengchkiejpglaaDoor
namespace Rows

/-- THE TIED CARD OF 'fuseelaw07.CivilDays'. -/
def civilDaysCard : Claim7 := { stood := { row := civilDaysRow, standIns := [], harness := (true, "ed8bd17182d5012732081bad272af510cc5702971270b58c8c71a5b74d85bdd1"), looks := true }, kinds := [], alts := [], laidByText := true, laidKinds := [.data, .data, .data, .handle], laidTests := true, laidLooks := .later }
def CivilDaysCardSaid : Prop := Claim7.holds Tryd.pinned (.plain (OpenSpec.ofChange civilDaysSpec)) civilDaysCard

/-- THE TIED CARD OF 'fuseelaw07.CivilTexts'. -/
def civilTextsCard : Claim7 := { stood := { row := civilTextsRow, standIns := [], harness := (true, "ed8bd17182d5012732081bad272af510cc5702971270b58c8c71a5b74d85bdd1"), looks := true }, kinds := [], alts := [], laidByText := true, laidKinds := [.data, .data, .data, .handle], laidTests := true, laidLooks := .later }
def CivilTextsCardSaid : Prop := Claim7.holds Tryd.pinned (.plain (OpenSpec.ofChange civilTextsSpec)) civilTextsCard

/-- THE TIED CARD OF 'fuseelaw07.CivilBack'. -/
def civilBackCard : Claim7 := { stood := { row := civilBackRow, standIns := [], harness := (true, "ed8bd17182d5012732081bad272af510cc5702971270b58c8c71a5b74d85bdd1"), looks := true }, kinds := [], alts := [], laidByText := true, laidKinds := [.data, .data, .data, .handle], laidTests := true, laidLooks := .later }
def CivilBackCardSaid : Prop := Claim7.holds Tryd.pinned (.plain (OpenSpec.ofChange civilBackSpec)) civilBackCard

/-- THE TIED CARD OF 'fuseelaw08.DaytimeSeconds'. -/
def daytimeSecondsCard : Claim7 := { stood := { row := daytimeSecondsRow, standIns := [], harness := (true, "ed8bd17182d5012732081bad272af510cc5702971270b58c8c71a5b74d85bdd1"), looks := true }, kinds := [], alts := [], laidByText := true, laidKinds := [.data, .data, .data, .handle], laidTests := true, laidLooks := .later }
def DaytimeSecondsCardSaid : Prop := Claim7.holds Tryd.pinned (.plain (OpenSpec.ofChange daytimeSecondsSpec)) daytimeSecondsCard

/-- THE TIED CARD OF 'fuseelaw08.DaytimeStamps'. -/
def daytimeStampsCard : Claim7 := { stood := { row := daytimeStampsRow, standIns := [], harness := (true, "ed8bd17182d5012732081bad272af510cc5702971270b58c8c71a5b74d85bdd1"), looks := true }, kinds := [], alts := [], laidByText := true, laidKinds := [.data, .data, .data, .handle], laidTests := true, laidLooks := .later }
def DaytimeStampsCardSaid : Prop := Claim7.holds Tryd.pinned (.plain (OpenSpec.ofChange daytimeStampsSpec)) daytimeStampsCard

/-- THE TIED CARD OF 'fuseelaw08.DaytimeBack'. -/
def daytimeBackCard : Claim7 := { stood := { row := daytimeBackRow, standIns := [], harness := (true, "ed8bd17182d5012732081bad272af510cc5702971270b58c8c71a5b74d85bdd1"), looks := true }, kinds := [], alts := [], laidByText := true, laidKinds := [.data, .data, .data, .handle], laidTests := true, laidLooks := .later }
def DaytimeBackCardSaid : Prop := Claim7.holds Tryd.pinned (.plain (OpenSpec.ofChange daytimeBackSpec)) daytimeBackCard

/-- THE TIED CARD OF 'fuseelaw17.DriftGrows'. -/
def driftGrowsCard : Claim7 := { stood := { row := driftGrowsRow, standIns := [], harness := (true, "ed8bd17182d5012732081bad272af510cc5702971270b58c8c71a5b74d85bdd1"), looks := true }, kinds := [], alts := [], laidByText := true, laidKinds := [.handle], laidTests := true, laidLooks := .later }
def DriftGrowsCardSaid : Prop := Claim7.holds Tryd.pinned (.plain (OpenSpec.ofChange driftGrowsSpec)) driftGrowsCard

/-- THE TIED CARD OF 'fuseelaw17.DriftParts'. -/
def driftPartsCard : Claim7 := { stood := { row := driftPartsRow, standIns := [], harness := (true, "ed8bd17182d5012732081bad272af510cc5702971270b58c8c71a5b74d85bdd1"), looks := true }, kinds := [], alts := [], laidByText := true, laidKinds := [.handle], laidTests := true, laidLooks := .later }
def DriftPartsCardSaid : Prop := Claim7.holds Tryd.pinned (.plain (OpenSpec.ofChange driftPartsSpec)) driftPartsCard

/-- THE TIED CARD OF 'fuseelaw24.QuantTells'. -/
def quantTellsCard : Claim7 := { stood := { row := quantTellsRow, standIns := [], harness := (true, "ed8bd17182d5012732081bad272af510cc5702971270b58c8c71a5b74d85bdd1"), looks := true }, kinds := [], alts := [], laidByText := true, laidKinds := [.handle], laidTests := true, laidLooks := .later }
def QuantTellsCardSaid : Prop := Claim7.holds Tryd.pinned (.plain (OpenSpec.ofChange quantTellsSpec)) quantTellsCard

/-- THE TIED CARD OF 'fuseelaw24.QuantHolds'. -/
def quantHoldsCard : Claim7 := { stood := { row := quantHoldsRow, standIns := [], harness := (true, "ed8bd17182d5012732081bad272af510cc5702971270b58c8c71a5b74d85bdd1"), looks := true }, kinds := [], alts := [], laidByText := true, laidKinds := [.handle], laidTests := true, laidLooks := .later }
def QuantHoldsCardSaid : Prop := Claim7.holds Tryd.pinned (.plain (OpenSpec.ofChange quantHoldsSpec)) quantHoldsCard

/-- THE TIED CARD OF 'fuseelaw26.FloorTells'. -/
def floorTellsCard : Claim7 := { stood := { row := floorTellsRow, standIns := [], harness := (true, "ed8bd17182d5012732081bad272af510cc5702971270b58c8c71a5b74d85bdd1"), looks := true }, kinds := [], alts := [], laidByText := true, laidKinds := [.handle], laidTests := true, laidLooks := .later }
def FloorTellsCardSaid : Prop := Claim7.holds Tryd.pinned (.plain (OpenSpec.ofChange floorTellsSpec)) floorTellsCard

/-- THE TIED CARD OF 'fuseelaw26.FloorHolds'. -/
def floorHoldsCard : Claim7 := { stood := { row := floorHoldsRow, standIns := [], harness := (true, "ed8bd17182d5012732081bad272af510cc5702971270b58c8c71a5b74d85bdd1"), looks := true }, kinds := [], alts := [], laidByText := true, laidKinds := [.handle], laidTests := true, laidLooks := .later }
def FloorHoldsCardSaid : Prop := Claim7.holds Tryd.pinned (.plain (OpenSpec.ofChange floorHoldsSpec)) floorHoldsCard

/-- THE TIED CARD OF 'fuseelaw27.PauseTells'. -/
def pauseTellsCard : Claim7 := { stood := { row := pauseTellsRow, standIns := [], harness := (true, "ed8bd17182d5012732081bad272af510cc5702971270b58c8c71a5b74d85bdd1"), looks := true }, kinds := [], alts := [], laidByText := true, laidKinds := [.handle], laidTests := true, laidLooks := .later }
def PauseTellsCardSaid : Prop := Claim7.holds Tryd.pinned (.plain (OpenSpec.ofChange pauseTellsSpec)) pauseTellsCard

/-- THE TIED CARD OF 'fuseelaw27.PauseHolds'. -/
def pauseHoldsCard : Claim7 := { stood := { row := pauseHoldsRow, standIns := [], harness := (true, "ed8bd17182d5012732081bad272af510cc5702971270b58c8c71a5b74d85bdd1"), looks := true }, kinds := [], alts := [], laidByText := true, laidKinds := [.handle], laidTests := true, laidLooks := .later }
def PauseHoldsCardSaid : Prop := Claim7.holds Tryd.pinned (.plain (OpenSpec.ofChange pauseHoldsSpec)) pauseHoldsCard

/-- THE TIED CARD OF 'fuseelaw27.PauseLost'. -/
def pauseLostCard : Claim7 := { stood := { row := pauseLostRow, standIns := [], harness := (true, "ed8bd17182d5012732081bad272af510cc5702971270b58c8c71a5b74d85bdd1"), looks := true }, kinds := [], alts := [], laidByText := true, laidKinds := [.handle], laidTests := true, laidLooks := .later }
def PauseLostCardSaid : Prop := Claim7.holds Tryd.pinned (.plain (OpenSpec.ofChange pauseLostSpec)) pauseLostCard

/-- THE SECOND FORM's CARD OF 'fuseelaw07.CivilDays'. -/
def civilDaysUptoCard : Claim7 := { stood := { row := civilDaysUptoRow, standIns := [], harness := (true, "ed8bd17182d5012732081bad272af510cc5702971270b58c8c71a5b74d85bdd1"), looks := true }, kinds := [], alts := [], laidByText := true, laidKinds := [.data, .data, .data, .handle], laidTests := true, laidLooks := .later }
def CivilDaysUptoCardSaid : Prop := Claim7.holds Tryd.pinned (.plain (OpenSpec.upto civilDaysSpec)) civilDaysUptoCard

/-- THE SECOND FORM's CARD OF 'fuseelaw07.CivilTexts'. -/
def civilTextsUptoCard : Claim7 := { stood := { row := civilTextsUptoRow, standIns := [], harness := (true, "ed8bd17182d5012732081bad272af510cc5702971270b58c8c71a5b74d85bdd1"), looks := true }, kinds := [], alts := [], laidByText := true, laidKinds := [.data, .data, .data, .handle], laidTests := true, laidLooks := .later }
def CivilTextsUptoCardSaid : Prop := Claim7.holds Tryd.pinned (.plain (OpenSpec.upto civilTextsSpec)) civilTextsUptoCard

/-- THE SECOND FORM's CARD OF 'fuseelaw07.CivilBack'. -/
def civilBackUptoCard : Claim7 := { stood := { row := civilBackUptoRow, standIns := [], harness := (true, "ed8bd17182d5012732081bad272af510cc5702971270b58c8c71a5b74d85bdd1"), looks := true }, kinds := [], alts := [], laidByText := true, laidKinds := [.data, .data, .data, .handle], laidTests := true, laidLooks := .later }
def CivilBackUptoCardSaid : Prop := Claim7.holds Tryd.pinned (.plain (OpenSpec.upto civilBackSpec)) civilBackUptoCard

/-- THE SECOND FORM's CARD OF 'fuseelaw08.DaytimeSeconds'. -/
def daytimeSecondsUptoCard : Claim7 := { stood := { row := daytimeSecondsUptoRow, standIns := [], harness := (true, "ed8bd17182d5012732081bad272af510cc5702971270b58c8c71a5b74d85bdd1"), looks := true }, kinds := [], alts := [], laidByText := true, laidKinds := [.data, .data, .data, .handle], laidTests := true, laidLooks := .later }
def DaytimeSecondsUptoCardSaid : Prop := Claim7.holds Tryd.pinned (.plain (OpenSpec.upto daytimeSecondsSpec)) daytimeSecondsUptoCard

/-- THE SECOND FORM's CARD OF 'fuseelaw08.DaytimeStamps'. -/
def daytimeStampsUptoCard : Claim7 := { stood := { row := daytimeStampsUptoRow, standIns := [], harness := (true, "ed8bd17182d5012732081bad272af510cc5702971270b58c8c71a5b74d85bdd1"), looks := true }, kinds := [], alts := [], laidByText := true, laidKinds := [.data, .data, .data, .handle], laidTests := true, laidLooks := .later }
def DaytimeStampsUptoCardSaid : Prop := Claim7.holds Tryd.pinned (.plain (OpenSpec.upto daytimeStampsSpec)) daytimeStampsUptoCard

/-- THE SECOND FORM's CARD OF 'fuseelaw08.DaytimeBack'. -/
def daytimeBackUptoCard : Claim7 := { stood := { row := daytimeBackUptoRow, standIns := [], harness := (true, "ed8bd17182d5012732081bad272af510cc5702971270b58c8c71a5b74d85bdd1"), looks := true }, kinds := [], alts := [], laidByText := true, laidKinds := [.data, .data, .data, .handle], laidTests := true, laidLooks := .later }
def DaytimeBackUptoCardSaid : Prop := Claim7.holds Tryd.pinned (.plain (OpenSpec.upto daytimeBackSpec)) daytimeBackUptoCard

/-- THE SECOND FORM's CARD OF 'fuseelaw17.DriftGrows'. -/
def driftGrowsUptoCard : Claim7 := { stood := { row := driftGrowsUptoRow, standIns := [], harness := (true, "ed8bd17182d5012732081bad272af510cc5702971270b58c8c71a5b74d85bdd1"), looks := true }, kinds := [], alts := [], laidByText := true, laidKinds := [.handle], laidTests := true, laidLooks := .later }
def DriftGrowsUptoCardSaid : Prop := Claim7.holds Tryd.pinned (.plain (OpenSpec.upto driftGrowsSpec)) driftGrowsUptoCard

/-- THE SECOND FORM's CARD OF 'fuseelaw17.DriftParts'. -/
def driftPartsUptoCard : Claim7 := { stood := { row := driftPartsUptoRow, standIns := [], harness := (true, "ed8bd17182d5012732081bad272af510cc5702971270b58c8c71a5b74d85bdd1"), looks := true }, kinds := [], alts := [], laidByText := true, laidKinds := [.handle], laidTests := true, laidLooks := .later }
def DriftPartsUptoCardSaid : Prop := Claim7.holds Tryd.pinned (.plain (OpenSpec.upto driftPartsSpec)) driftPartsUptoCard

/-- THE SECOND FORM's CARD OF 'fuseelaw24.QuantTells'. -/
def quantTellsUptoCard : Claim7 := { stood := { row := quantTellsUptoRow, standIns := [], harness := (true, "ed8bd17182d5012732081bad272af510cc5702971270b58c8c71a5b74d85bdd1"), looks := true }, kinds := [], alts := [], laidByText := true, laidKinds := [.handle], laidTests := true, laidLooks := .later }
def QuantTellsUptoCardSaid : Prop := Claim7.holds Tryd.pinned (.plain (OpenSpec.upto quantTellsSpec)) quantTellsUptoCard

/-- THE SECOND FORM's CARD OF 'fuseelaw24.QuantHolds'. -/
def quantHoldsUptoCard : Claim7 := { stood := { row := quantHoldsUptoRow, standIns := [], harness := (true, "ed8bd17182d5012732081bad272af510cc5702971270b58c8c71a5b74d85bdd1"), looks := true }, kinds := [], alts := [], laidByText := true, laidKinds := [.handle], laidTests := true, laidLooks := .later }
def QuantHoldsUptoCardSaid : Prop := Claim7.holds Tryd.pinned (.plain (OpenSpec.upto quantHoldsSpec)) quantHoldsUptoCard

/-- THE SECOND FORM's CARD OF 'fuseelaw26.FloorTells'. -/
def floorTellsUptoCard : Claim7 := { stood := { row := floorTellsUptoRow, standIns := [], harness := (true, "ed8bd17182d5012732081bad272af510cc5702971270b58c8c71a5b74d85bdd1"), looks := true }, kinds := [], alts := [], laidByText := true, laidKinds := [.handle], laidTests := true, laidLooks := .later }
def FloorTellsUptoCardSaid : Prop := Claim7.holds Tryd.pinned (.plain (OpenSpec.upto floorTellsSpec)) floorTellsUptoCard

/-- THE SECOND FORM's CARD OF 'fuseelaw26.FloorHolds'. -/
def floorHoldsUptoCard : Claim7 := { stood := { row := floorHoldsUptoRow, standIns := [], harness := (true, "ed8bd17182d5012732081bad272af510cc5702971270b58c8c71a5b74d85bdd1"), looks := true }, kinds := [], alts := [], laidByText := true, laidKinds := [.handle], laidTests := true, laidLooks := .later }
def FloorHoldsUptoCardSaid : Prop := Claim7.holds Tryd.pinned (.plain (OpenSpec.upto floorHoldsSpec)) floorHoldsUptoCard

/-- THE SECOND FORM's CARD OF 'fuseelaw27.PauseTells'. -/
def pauseTellsUptoCard : Claim7 := { stood := { row := pauseTellsUptoRow, standIns := [], harness := (true, "ed8bd17182d5012732081bad272af510cc5702971270b58c8c71a5b74d85bdd1"), looks := true }, kinds := [], alts := [], laidByText := true, laidKinds := [.handle], laidTests := true, laidLooks := .later }
def PauseTellsUptoCardSaid : Prop := Claim7.holds Tryd.pinned (.plain (OpenSpec.upto pauseTellsSpec)) pauseTellsUptoCard

/-- THE SECOND FORM's CARD OF 'fuseelaw27.PauseHolds'. -/
def pauseHoldsUptoCard : Claim7 := { stood := { row := pauseHoldsUptoRow, standIns := [], harness := (true, "ed8bd17182d5012732081bad272af510cc5702971270b58c8c71a5b74d85bdd1"), looks := true }, kinds := [], alts := [], laidByText := true, laidKinds := [.handle], laidTests := true, laidLooks := .later }
def PauseHoldsUptoCardSaid : Prop := Claim7.holds Tryd.pinned (.plain (OpenSpec.upto pauseHoldsSpec)) pauseHoldsUptoCard

/-- THE SECOND FORM's CARD OF 'fuseelaw27.PauseLost'. -/
def pauseLostUptoCard : Claim7 := { stood := { row := pauseLostUptoRow, standIns := [], harness := (true, "ed8bd17182d5012732081bad272af510cc5702971270b58c8c71a5b74d85bdd1"), looks := true }, kinds := [], alts := [], laidByText := true, laidKinds := [.handle], laidTests := true, laidLooks := .later }
def PauseLostUptoCardSaid : Prop := Claim7.holds Tryd.pinned (.plain (OpenSpec.upto pauseLostSpec)) pauseLostUptoCard
end Rows
end Go.Proofs.YtengchkiejpglaaDoor
