/-
  DERIVED. GIVEN WITH THE SEED: THE CARDS: each row of YtffdglhdklmjoaaDoorRows.lean that lists a variable, with what it lists TIED to the program's text (the seventh form; the later family's looks); each row that meets fmt, with fmt's text TOLD by the authors' own Lean function (tested against real Go, not proved from fmt's source: count such statements apart). THE CARD IS WHAT COUNTS. Prove the row's statement (the work); the ties are given (YtffdglhdklmjoaaDoorTie.lean); close each card by the builder's one call (the guide's Derived/Test/ToyasCard.lean, 'card_holds'). Laid BY PROGRAM, IN A SANDBOX (cutbox-door.mjs). By AI agents, Wed Nov 11 2026. No macro, syntax, notation, axiom, sorry.
-/
import Derived.Test.YtffdglhdklmjoaaDoorRows
import GoSem.ClaimSeven
namespace Go.Proofs.YtffdglhdklmjoaaDoor
namespace Rows

/-- THE TIED CARD OF 'fuseelaw02.WideSums'. -/
def wideSumsCard : Claim7 := { stood := { row := wideSumsRow, standIns := [], harness := (true, "2e19f807ca0e4b94bfd2cff388ea269c59ff6cf0cd92e855401ec52064eda201"), looks := true }, kinds := [], alts := [], laidByText := true, laidKinds := [.handle], laidTests := true, laidLooks := .later }
def WideSumsCardSaid : Prop := Claim7.holds Tryd.pinned (.plain (OpenSpec.ofChange wideSumsSpec)) wideSumsCard

/-- THE TIED CARD OF 'fuseelaw02.WideParts'. -/
def widePartsCard : Claim7 := { stood := { row := widePartsRow, standIns := [], harness := (true, "2e19f807ca0e4b94bfd2cff388ea269c59ff6cf0cd92e855401ec52064eda201"), looks := true }, kinds := [], alts := [], laidByText := true, laidKinds := [.handle], laidTests := true, laidLooks := .later }
def WidePartsCardSaid : Prop := Claim7.holds Tryd.pinned (.plain (OpenSpec.ofChange widePartsSpec)) widePartsCard

/-- THE TIED CARD OF 'fuseelaw02.WideTimes'. -/
def wideTimesCard : Claim7 := { stood := { row := wideTimesRow, standIns := [], harness := (true, "2e19f807ca0e4b94bfd2cff388ea269c59ff6cf0cd92e855401ec52064eda201"), looks := true }, kinds := [], alts := [], laidByText := true, laidKinds := [.handle], laidTests := true, laidLooks := .later }
def WideTimesCardSaid : Prop := Claim7.holds Tryd.pinned (.plain (OpenSpec.ofChange wideTimesSpec)) wideTimesCard

/-- THE TIED CARD OF 'fuseelaw02.WideBack'. -/
def wideBackCard : Claim7 := { stood := { row := wideBackRow, standIns := [], harness := (true, "2e19f807ca0e4b94bfd2cff388ea269c59ff6cf0cd92e855401ec52064eda201"), looks := true }, kinds := [], alts := [], laidByText := true, laidKinds := [.handle], laidTests := true, laidLooks := .later }
def WideBackCardSaid : Prop := Claim7.holds Tryd.pinned (.plain (OpenSpec.ofChange wideBackSpec)) wideBackCard

/-- THE TIED CARD OF 'fuseelaw03.RatioFits'. -/
def ratioFitsCard : Claim7 := { stood := { row := ratioFitsRow, standIns := [], harness := (true, "2e19f807ca0e4b94bfd2cff388ea269c59ff6cf0cd92e855401ec52064eda201"), looks := true }, kinds := [], alts := [], laidByText := true, laidKinds := [.handle], laidTests := true, laidLooks := .later }
def RatioFitsCardSaid : Prop := Claim7.holds Tryd.pinned (.plain (OpenSpec.ofChange ratioFitsSpec)) ratioFitsCard

/-- THE TIED CARD OF 'fuseelaw03.RatioNear'. -/
def ratioNearCard : Claim7 := { stood := { row := ratioNearRow, standIns := [], harness := (true, "2e19f807ca0e4b94bfd2cff388ea269c59ff6cf0cd92e855401ec52064eda201"), looks := true }, kinds := [], alts := [], laidByText := true, laidKinds := [.handle], laidTests := true, laidLooks := .later }
def RatioNearCardSaid : Prop := Claim7.holds Tryd.pinned (.plain (OpenSpec.ofChange ratioNearSpec)) ratioNearCard

/-- THE TIED CARD OF 'fuseelaw03.RatioAdjusts'. -/
def ratioAdjustsCard : Claim7 := { stood := { row := ratioAdjustsRow, standIns := [], harness := (true, "2e19f807ca0e4b94bfd2cff388ea269c59ff6cf0cd92e855401ec52064eda201"), looks := true }, kinds := [], alts := [], laidByText := true, laidKinds := [.handle], laidTests := true, laidLooks := .later }
def RatioAdjustsCardSaid : Prop := Claim7.holds Tryd.pinned (.plain (OpenSpec.ofChange ratioAdjustsSpec)) ratioAdjustsCard

/-- THE TIED CARD OF 'fuseelaw04.CrcSums'. -/
def crcSumsCard : Claim7 := { stood := { row := crcSumsRow, standIns := [], harness := (true, "2e19f807ca0e4b94bfd2cff388ea269c59ff6cf0cd92e855401ec52064eda201"), looks := true }, kinds := [], alts := [], laidByText := true, laidKinds := [.handle], laidTests := true, laidLooks := .later }
def CrcSumsCardSaid : Prop := Claim7.holds Tryd.pinned (.plain (OpenSpec.ofChange crcSumsSpec)) crcSumsCard

/-- THE TIED CARD OF 'fuseelaw04.CrcFinds'. -/
def crcFindsCard : Claim7 := { stood := { row := crcFindsRow, standIns := [], harness := (true, "2e19f807ca0e4b94bfd2cff388ea269c59ff6cf0cd92e855401ec52064eda201"), looks := true }, kinds := [], alts := [], laidByText := true, laidKinds := [.handle], laidTests := true, laidLooks := .later }
def CrcFindsCardSaid : Prop := Claim7.holds Tryd.pinned (.plain (OpenSpec.ofChange crcFindsSpec)) crcFindsCard

/-- THE TIED CARD OF 'fuseelaw05.FieldsTake'. -/
def fieldsTakeCard : Claim7 := { stood := { row := fieldsTakeRow, standIns := [], harness := (true, "2e19f807ca0e4b94bfd2cff388ea269c59ff6cf0cd92e855401ec52064eda201"), looks := true }, kinds := [], alts := [], laidByText := true, laidKinds := [.handle], laidTests := true, laidLooks := .later }
def FieldsTakeCardSaid : Prop := Claim7.holds Tryd.pinned (.plain (OpenSpec.ofChange fieldsTakeSpec)) fieldsTakeCard

/-- THE TIED CARD OF 'fuseelaw05.FieldsPut'. -/
def fieldsPutCard : Claim7 := { stood := { row := fieldsPutRow, standIns := [], harness := (true, "2e19f807ca0e4b94bfd2cff388ea269c59ff6cf0cd92e855401ec52064eda201"), looks := true }, kinds := [], alts := [], laidByText := true, laidKinds := [.handle], laidTests := true, laidLooks := .later }
def FieldsPutCardSaid : Prop := Claim7.holds Tryd.pinned (.plain (OpenSpec.ofChange fieldsPutSpec)) fieldsPutCard

/-- THE TIED CARD OF 'fuseelaw05.FieldsBack'. -/
def fieldsBackCard : Claim7 := { stood := { row := fieldsBackRow, standIns := [], harness := (true, "2e19f807ca0e4b94bfd2cff388ea269c59ff6cf0cd92e855401ec52064eda201"), looks := true }, kinds := [], alts := [], laidByText := true, laidKinds := [.handle], laidTests := true, laidLooks := .later }
def FieldsBackCardSaid : Prop := Claim7.holds Tryd.pinned (.plain (OpenSpec.ofChange fieldsBackSpec)) fieldsBackCard

/-- THE TIED CARD OF 'fuseelaw14.SampleTells'. -/
def sampleTellsCard : Claim7 := { stood := { row := sampleTellsRow, standIns := [], harness := (true, "2e19f807ca0e4b94bfd2cff388ea269c59ff6cf0cd92e855401ec52064eda201"), looks := true }, kinds := [], alts := [], laidByText := true, laidKinds := [.handle], laidTests := true, laidLooks := .later }
def SampleTellsCardSaid : Prop := Claim7.holds Tryd.pinned (.plain (OpenSpec.ofChange sampleTellsSpec)) sampleTellsCard

/-- THE TIED CARD OF 'fuseelaw14.SampleHolds'. -/
def sampleHoldsCard : Claim7 := { stood := { row := sampleHoldsRow, standIns := [], harness := (true, "2e19f807ca0e4b94bfd2cff388ea269c59ff6cf0cd92e855401ec52064eda201"), looks := true }, kinds := [], alts := [], laidByText := true, laidKinds := [.handle], laidTests := true, laidLooks := .later }
def SampleHoldsCardSaid : Prop := Claim7.holds Tryd.pinned (.plain (OpenSpec.ofChange sampleHoldsSpec)) sampleHoldsCard

/-- THE TIED CARD OF 'fuseelaw17.DriftGrows'. -/
def driftGrowsCard : Claim7 := { stood := { row := driftGrowsRow, standIns := [], harness := (true, "2e19f807ca0e4b94bfd2cff388ea269c59ff6cf0cd92e855401ec52064eda201"), looks := true }, kinds := [], alts := [], laidByText := true, laidKinds := [.handle], laidTests := true, laidLooks := .later }
def DriftGrowsCardSaid : Prop := Claim7.holds Tryd.pinned (.plain (OpenSpec.ofChange driftGrowsSpec)) driftGrowsCard

/-- THE TIED CARD OF 'fuseelaw17.DriftParts'. -/
def driftPartsCard : Claim7 := { stood := { row := driftPartsRow, standIns := [], harness := (true, "2e19f807ca0e4b94bfd2cff388ea269c59ff6cf0cd92e855401ec52064eda201"), looks := true }, kinds := [], alts := [], laidByText := true, laidKinds := [.handle], laidTests := true, laidLooks := .later }
def DriftPartsCardSaid : Prop := Claim7.holds Tryd.pinned (.plain (OpenSpec.ofChange driftPartsSpec)) driftPartsCard

/-- THE SECOND FORM's CARD OF 'fuseelaw02.WideSums'. -/
def wideSumsUptoCard : Claim7 := { stood := { row := wideSumsUptoRow, standIns := [], harness := (true, "2e19f807ca0e4b94bfd2cff388ea269c59ff6cf0cd92e855401ec52064eda201"), looks := true }, kinds := [], alts := [], laidByText := true, laidKinds := [.handle], laidTests := true, laidLooks := .later }
def WideSumsUptoCardSaid : Prop := Claim7.holds Tryd.pinned (.plain (OpenSpec.upto wideSumsSpec)) wideSumsUptoCard

/-- THE SECOND FORM's CARD OF 'fuseelaw02.WideParts'. -/
def widePartsUptoCard : Claim7 := { stood := { row := widePartsUptoRow, standIns := [], harness := (true, "2e19f807ca0e4b94bfd2cff388ea269c59ff6cf0cd92e855401ec52064eda201"), looks := true }, kinds := [], alts := [], laidByText := true, laidKinds := [.handle], laidTests := true, laidLooks := .later }
def WidePartsUptoCardSaid : Prop := Claim7.holds Tryd.pinned (.plain (OpenSpec.upto widePartsSpec)) widePartsUptoCard

/-- THE SECOND FORM's CARD OF 'fuseelaw02.WideTimes'. -/
def wideTimesUptoCard : Claim7 := { stood := { row := wideTimesUptoRow, standIns := [], harness := (true, "2e19f807ca0e4b94bfd2cff388ea269c59ff6cf0cd92e855401ec52064eda201"), looks := true }, kinds := [], alts := [], laidByText := true, laidKinds := [.handle], laidTests := true, laidLooks := .later }
def WideTimesUptoCardSaid : Prop := Claim7.holds Tryd.pinned (.plain (OpenSpec.upto wideTimesSpec)) wideTimesUptoCard

/-- THE SECOND FORM's CARD OF 'fuseelaw02.WideBack'. -/
def wideBackUptoCard : Claim7 := { stood := { row := wideBackUptoRow, standIns := [], harness := (true, "2e19f807ca0e4b94bfd2cff388ea269c59ff6cf0cd92e855401ec52064eda201"), looks := true }, kinds := [], alts := [], laidByText := true, laidKinds := [.handle], laidTests := true, laidLooks := .later }
def WideBackUptoCardSaid : Prop := Claim7.holds Tryd.pinned (.plain (OpenSpec.upto wideBackSpec)) wideBackUptoCard

/-- THE SECOND FORM's CARD OF 'fuseelaw03.RatioFits'. -/
def ratioFitsUptoCard : Claim7 := { stood := { row := ratioFitsUptoRow, standIns := [], harness := (true, "2e19f807ca0e4b94bfd2cff388ea269c59ff6cf0cd92e855401ec52064eda201"), looks := true }, kinds := [], alts := [], laidByText := true, laidKinds := [.handle], laidTests := true, laidLooks := .later }
def RatioFitsUptoCardSaid : Prop := Claim7.holds Tryd.pinned (.plain (OpenSpec.upto ratioFitsSpec)) ratioFitsUptoCard

/-- THE SECOND FORM's CARD OF 'fuseelaw03.RatioNear'. -/
def ratioNearUptoCard : Claim7 := { stood := { row := ratioNearUptoRow, standIns := [], harness := (true, "2e19f807ca0e4b94bfd2cff388ea269c59ff6cf0cd92e855401ec52064eda201"), looks := true }, kinds := [], alts := [], laidByText := true, laidKinds := [.handle], laidTests := true, laidLooks := .later }
def RatioNearUptoCardSaid : Prop := Claim7.holds Tryd.pinned (.plain (OpenSpec.upto ratioNearSpec)) ratioNearUptoCard

/-- THE SECOND FORM's CARD OF 'fuseelaw03.RatioAdjusts'. -/
def ratioAdjustsUptoCard : Claim7 := { stood := { row := ratioAdjustsUptoRow, standIns := [], harness := (true, "2e19f807ca0e4b94bfd2cff388ea269c59ff6cf0cd92e855401ec52064eda201"), looks := true }, kinds := [], alts := [], laidByText := true, laidKinds := [.handle], laidTests := true, laidLooks := .later }
def RatioAdjustsUptoCardSaid : Prop := Claim7.holds Tryd.pinned (.plain (OpenSpec.upto ratioAdjustsSpec)) ratioAdjustsUptoCard

/-- THE SECOND FORM's CARD OF 'fuseelaw04.CrcSums'. -/
def crcSumsUptoCard : Claim7 := { stood := { row := crcSumsUptoRow, standIns := [], harness := (true, "2e19f807ca0e4b94bfd2cff388ea269c59ff6cf0cd92e855401ec52064eda201"), looks := true }, kinds := [], alts := [], laidByText := true, laidKinds := [.handle], laidTests := true, laidLooks := .later }
def CrcSumsUptoCardSaid : Prop := Claim7.holds Tryd.pinned (.plain (OpenSpec.upto crcSumsSpec)) crcSumsUptoCard

/-- THE SECOND FORM's CARD OF 'fuseelaw04.CrcFinds'. -/
def crcFindsUptoCard : Claim7 := { stood := { row := crcFindsUptoRow, standIns := [], harness := (true, "2e19f807ca0e4b94bfd2cff388ea269c59ff6cf0cd92e855401ec52064eda201"), looks := true }, kinds := [], alts := [], laidByText := true, laidKinds := [.handle], laidTests := true, laidLooks := .later }
def CrcFindsUptoCardSaid : Prop := Claim7.holds Tryd.pinned (.plain (OpenSpec.upto crcFindsSpec)) crcFindsUptoCard

/-- THE SECOND FORM's CARD OF 'fuseelaw05.FieldsTake'. -/
def fieldsTakeUptoCard : Claim7 := { stood := { row := fieldsTakeUptoRow, standIns := [], harness := (true, "2e19f807ca0e4b94bfd2cff388ea269c59ff6cf0cd92e855401ec52064eda201"), looks := true }, kinds := [], alts := [], laidByText := true, laidKinds := [.handle], laidTests := true, laidLooks := .later }
def FieldsTakeUptoCardSaid : Prop := Claim7.holds Tryd.pinned (.plain (OpenSpec.upto fieldsTakeSpec)) fieldsTakeUptoCard

/-- THE SECOND FORM's CARD OF 'fuseelaw05.FieldsPut'. -/
def fieldsPutUptoCard : Claim7 := { stood := { row := fieldsPutUptoRow, standIns := [], harness := (true, "2e19f807ca0e4b94bfd2cff388ea269c59ff6cf0cd92e855401ec52064eda201"), looks := true }, kinds := [], alts := [], laidByText := true, laidKinds := [.handle], laidTests := true, laidLooks := .later }
def FieldsPutUptoCardSaid : Prop := Claim7.holds Tryd.pinned (.plain (OpenSpec.upto fieldsPutSpec)) fieldsPutUptoCard

/-- THE SECOND FORM's CARD OF 'fuseelaw05.FieldsBack'. -/
def fieldsBackUptoCard : Claim7 := { stood := { row := fieldsBackUptoRow, standIns := [], harness := (true, "2e19f807ca0e4b94bfd2cff388ea269c59ff6cf0cd92e855401ec52064eda201"), looks := true }, kinds := [], alts := [], laidByText := true, laidKinds := [.handle], laidTests := true, laidLooks := .later }
def FieldsBackUptoCardSaid : Prop := Claim7.holds Tryd.pinned (.plain (OpenSpec.upto fieldsBackSpec)) fieldsBackUptoCard

/-- THE SECOND FORM's CARD OF 'fuseelaw14.SampleTells'. -/
def sampleTellsUptoCard : Claim7 := { stood := { row := sampleTellsUptoRow, standIns := [], harness := (true, "2e19f807ca0e4b94bfd2cff388ea269c59ff6cf0cd92e855401ec52064eda201"), looks := true }, kinds := [], alts := [], laidByText := true, laidKinds := [.handle], laidTests := true, laidLooks := .later }
def SampleTellsUptoCardSaid : Prop := Claim7.holds Tryd.pinned (.plain (OpenSpec.upto sampleTellsSpec)) sampleTellsUptoCard

/-- THE SECOND FORM's CARD OF 'fuseelaw14.SampleHolds'. -/
def sampleHoldsUptoCard : Claim7 := { stood := { row := sampleHoldsUptoRow, standIns := [], harness := (true, "2e19f807ca0e4b94bfd2cff388ea269c59ff6cf0cd92e855401ec52064eda201"), looks := true }, kinds := [], alts := [], laidByText := true, laidKinds := [.handle], laidTests := true, laidLooks := .later }
def SampleHoldsUptoCardSaid : Prop := Claim7.holds Tryd.pinned (.plain (OpenSpec.upto sampleHoldsSpec)) sampleHoldsUptoCard

/-- THE SECOND FORM's CARD OF 'fuseelaw17.DriftGrows'. -/
def driftGrowsUptoCard : Claim7 := { stood := { row := driftGrowsUptoRow, standIns := [], harness := (true, "2e19f807ca0e4b94bfd2cff388ea269c59ff6cf0cd92e855401ec52064eda201"), looks := true }, kinds := [], alts := [], laidByText := true, laidKinds := [.handle], laidTests := true, laidLooks := .later }
def DriftGrowsUptoCardSaid : Prop := Claim7.holds Tryd.pinned (.plain (OpenSpec.upto driftGrowsSpec)) driftGrowsUptoCard

/-- THE SECOND FORM's CARD OF 'fuseelaw17.DriftParts'. -/
def driftPartsUptoCard : Claim7 := { stood := { row := driftPartsUptoRow, standIns := [], harness := (true, "2e19f807ca0e4b94bfd2cff388ea269c59ff6cf0cd92e855401ec52064eda201"), looks := true }, kinds := [], alts := [], laidByText := true, laidKinds := [.handle], laidTests := true, laidLooks := .later }
def DriftPartsUptoCardSaid : Prop := Claim7.holds Tryd.pinned (.plain (OpenSpec.upto driftPartsSpec)) driftPartsUptoCard
end Rows
end Go.Proofs.YtffdglhdklmjoaaDoor
