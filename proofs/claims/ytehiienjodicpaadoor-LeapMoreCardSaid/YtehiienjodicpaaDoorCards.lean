/-
  DERIVED. GIVEN WITH THE SEED: THE CARDS: each row of YtehiienjodicpaaDoorRows.lean that lists a variable, with what it lists TIED to the program's text (the seventh form; the later family's looks); each row that meets fmt, with fmt's text TOLD by the authors' own Lean function (tested against real Go, not proved from fmt's source: count such statements apart). THE CARD IS WHAT COUNTS. Prove the row's statement (the work); the ties are given (YtehiienjodicpaaDoorTie.lean); close each card by the builder's one call (the guide's Derived/Test/ToyasCard.lean, 'card_holds'). Laid BY PROGRAM, IN A SANDBOX (cutbox-door.mjs). By AI agents, Wed Nov 11 2026. No macro, syntax, notation, axiom, sorry.
-/
import Derived.Test.YtehiienjodicpaaDoorRows
import GoSem.ClaimSeven
namespace Go.Proofs.YtehiienjodicpaaDoor
namespace Rows

/-- THE TIED CARD OF 'fuseelaw09.LeapDays'. -/
def leapDaysCard : Claim7 := { stood := { row := leapDaysRow, standIns := [], harness := (true, "280970faac918a111fd6ca43c124ddfc1fa688dbbe761f3129dc6908273d1397"), looks := true }, kinds := [], alts := [], laidByText := true, laidKinds := [.handle], laidTests := true, laidLooks := .later }
def LeapDaysCardSaid : Prop := Claim7.holds Tryd.pinned (.plain (OpenSpec.ofChange leapDaysSpec)) leapDaysCard

/-- THE TIED CARD OF 'fuseelaw09.LeapMoments'. -/
def leapMomentsCard : Claim7 := { stood := { row := leapMomentsRow, standIns := [], harness := (true, "280970faac918a111fd6ca43c124ddfc1fa688dbbe761f3129dc6908273d1397"), looks := true }, kinds := [], alts := [], laidByText := true, laidKinds := [.handle], laidTests := true, laidLooks := .later }
def LeapMomentsCardSaid : Prop := Claim7.holds Tryd.pinned (.plain (OpenSpec.ofChange leapMomentsSpec)) leapMomentsCard

/-- THE TIED CARD OF 'fuseelaw09.LeapForms'. -/
def leapFormsCard : Claim7 := { stood := { row := leapFormsRow, standIns := [], harness := (true, "280970faac918a111fd6ca43c124ddfc1fa688dbbe761f3129dc6908273d1397"), looks := true }, kinds := [], alts := [], laidByText := true, laidKinds := [.handle], laidTests := true, laidLooks := .later }
def LeapFormsCardSaid : Prop := Claim7.holds Tryd.pinned (.plain (OpenSpec.ofChange leapFormsSpec)) leapFormsCard

/-- THE TIED CARD OF 'fuseelaw09.LeapBack'. -/
def leapBackCard : Claim7 := { stood := { row := leapBackRow, standIns := [], harness := (true, "280970faac918a111fd6ca43c124ddfc1fa688dbbe761f3129dc6908273d1397"), looks := true }, kinds := [], alts := [], laidByText := true, laidKinds := [.handle], laidTests := true, laidLooks := .later }
def LeapBackCardSaid : Prop := Claim7.holds Tryd.pinned (.plain (OpenSpec.ofChange leapBackSpec)) leapBackCard

/-- THE TIED CARD OF 'fuseelaw09.LeapMore'. -/
def leapMoreCard : Claim7 := { stood := { row := leapMoreRow, standIns := [], harness := (true, "280970faac918a111fd6ca43c124ddfc1fa688dbbe761f3129dc6908273d1397"), looks := true }, kinds := [], alts := [], laidByText := true, laidKinds := [.handle], laidTests := true, laidLooks := .later }
def LeapMoreCardSaid : Prop := Claim7.holds Tryd.pinned (.plain (OpenSpec.ofChange leapMoreSpec)) leapMoreCard

/-- THE TIED CARD OF 'fuseelaw10.ZoneTells'. -/
def zoneTellsCard : Claim7 := { stood := { row := zoneTellsRow, standIns := [], harness := (true, "280970faac918a111fd6ca43c124ddfc1fa688dbbe761f3129dc6908273d1397"), looks := true }, kinds := [], alts := [], laidByText := true, laidKinds := [.handle], laidTests := true, laidLooks := .later }
def ZoneTellsCardSaid : Prop := Claim7.holds Tryd.pinned (.plain (OpenSpec.ofChange zoneTellsSpec)) zoneTellsCard

/-- THE TIED CARD OF 'fuseelaw10.ZoneForms'. -/
def zoneFormsCard : Claim7 := { stood := { row := zoneFormsRow, standIns := [], harness := (true, "280970faac918a111fd6ca43c124ddfc1fa688dbbe761f3129dc6908273d1397"), looks := true }, kinds := [], alts := [], laidByText := true, laidKinds := [.handle], laidTests := true, laidLooks := .later }
def ZoneFormsCardSaid : Prop := Claim7.holds Tryd.pinned (.plain (OpenSpec.ofChange zoneFormsSpec)) zoneFormsCard

/-- THE TIED CARD OF 'fuseelaw10.ZoneSpans'. -/
def zoneSpansCard : Claim7 := { stood := { row := zoneSpansRow, standIns := [], harness := (true, "280970faac918a111fd6ca43c124ddfc1fa688dbbe761f3129dc6908273d1397"), looks := true }, kinds := [], alts := [], laidByText := true, laidKinds := [.handle], laidTests := true, laidLooks := .later }
def ZoneSpansCardSaid : Prop := Claim7.holds Tryd.pinned (.plain (OpenSpec.ofChange zoneSpansSpec)) zoneSpansCard

/-- THE TIED CARD OF 'fuseelaw12.SmearSteps'. -/
def smearStepsCard : Claim7 := { stood := { row := smearStepsRow, standIns := [], harness := (true, "280970faac918a111fd6ca43c124ddfc1fa688dbbe761f3129dc6908273d1397"), looks := true }, kinds := [], alts := [], laidByText := true, laidKinds := [.handle], laidTests := true, laidLooks := .later }
def SmearStepsCardSaid : Prop := Claim7.holds Tryd.pinned (.plain (OpenSpec.ofChange smearStepsSpec)) smearStepsCard

/-- THE TIED CARD OF 'fuseelaw12.SmearTells'. -/
def smearTellsCard : Claim7 := { stood := { row := smearTellsRow, standIns := [], harness := (true, "280970faac918a111fd6ca43c124ddfc1fa688dbbe761f3129dc6908273d1397"), looks := true }, kinds := [], alts := [], laidByText := true, laidKinds := [.handle], laidTests := true, laidLooks := .later }
def SmearTellsCardSaid : Prop := Claim7.holds Tryd.pinned (.plain (OpenSpec.ofChange smearTellsSpec)) smearTellsCard

/-- THE TIED CARD OF 'fuseelaw12.SmearOnward'. -/
def smearOnwardCard : Claim7 := { stood := { row := smearOnwardRow, standIns := [], harness := (true, "280970faac918a111fd6ca43c124ddfc1fa688dbbe761f3129dc6908273d1397"), looks := true }, kinds := [], alts := [], laidByText := true, laidKinds := [.handle], laidTests := true, laidLooks := .later }
def SmearOnwardCardSaid : Prop := Claim7.holds Tryd.pinned (.plain (OpenSpec.ofChange smearOnwardSpec)) smearOnwardCard

/-- THE TIED CARD OF 'fuseelaw12.SmearOutside'. -/
def smearOutsideCard : Claim7 := { stood := { row := smearOutsideRow, standIns := [], harness := (true, "280970faac918a111fd6ca43c124ddfc1fa688dbbe761f3129dc6908273d1397"), looks := true }, kinds := [], alts := [], laidByText := true, laidKinds := [.handle], laidTests := true, laidLooks := .later }
def SmearOutsideCardSaid : Prop := Claim7.holds Tryd.pinned (.plain (OpenSpec.ofChange smearOutsideSpec)) smearOutsideCard

/-- THE SECOND FORM's CARD OF 'fuseelaw09.LeapDays'. -/
def leapDaysUptoCard : Claim7 := { stood := { row := leapDaysUptoRow, standIns := [], harness := (true, "280970faac918a111fd6ca43c124ddfc1fa688dbbe761f3129dc6908273d1397"), looks := true }, kinds := [], alts := [], laidByText := true, laidKinds := [.handle], laidTests := true, laidLooks := .later }
def LeapDaysUptoCardSaid : Prop := Claim7.holds Tryd.pinned (.plain (OpenSpec.upto leapDaysSpec)) leapDaysUptoCard

/-- THE SECOND FORM's CARD OF 'fuseelaw09.LeapMoments'. -/
def leapMomentsUptoCard : Claim7 := { stood := { row := leapMomentsUptoRow, standIns := [], harness := (true, "280970faac918a111fd6ca43c124ddfc1fa688dbbe761f3129dc6908273d1397"), looks := true }, kinds := [], alts := [], laidByText := true, laidKinds := [.handle], laidTests := true, laidLooks := .later }
def LeapMomentsUptoCardSaid : Prop := Claim7.holds Tryd.pinned (.plain (OpenSpec.upto leapMomentsSpec)) leapMomentsUptoCard

/-- THE SECOND FORM's CARD OF 'fuseelaw09.LeapForms'. -/
def leapFormsUptoCard : Claim7 := { stood := { row := leapFormsUptoRow, standIns := [], harness := (true, "280970faac918a111fd6ca43c124ddfc1fa688dbbe761f3129dc6908273d1397"), looks := true }, kinds := [], alts := [], laidByText := true, laidKinds := [.handle], laidTests := true, laidLooks := .later }
def LeapFormsUptoCardSaid : Prop := Claim7.holds Tryd.pinned (.plain (OpenSpec.upto leapFormsSpec)) leapFormsUptoCard

/-- THE SECOND FORM's CARD OF 'fuseelaw09.LeapBack'. -/
def leapBackUptoCard : Claim7 := { stood := { row := leapBackUptoRow, standIns := [], harness := (true, "280970faac918a111fd6ca43c124ddfc1fa688dbbe761f3129dc6908273d1397"), looks := true }, kinds := [], alts := [], laidByText := true, laidKinds := [.handle], laidTests := true, laidLooks := .later }
def LeapBackUptoCardSaid : Prop := Claim7.holds Tryd.pinned (.plain (OpenSpec.upto leapBackSpec)) leapBackUptoCard

/-- THE SECOND FORM's CARD OF 'fuseelaw09.LeapMore'. -/
def leapMoreUptoCard : Claim7 := { stood := { row := leapMoreUptoRow, standIns := [], harness := (true, "280970faac918a111fd6ca43c124ddfc1fa688dbbe761f3129dc6908273d1397"), looks := true }, kinds := [], alts := [], laidByText := true, laidKinds := [.handle], laidTests := true, laidLooks := .later }
def LeapMoreUptoCardSaid : Prop := Claim7.holds Tryd.pinned (.plain (OpenSpec.upto leapMoreSpec)) leapMoreUptoCard

/-- THE SECOND FORM's CARD OF 'fuseelaw10.ZoneTells'. -/
def zoneTellsUptoCard : Claim7 := { stood := { row := zoneTellsUptoRow, standIns := [], harness := (true, "280970faac918a111fd6ca43c124ddfc1fa688dbbe761f3129dc6908273d1397"), looks := true }, kinds := [], alts := [], laidByText := true, laidKinds := [.handle], laidTests := true, laidLooks := .later }
def ZoneTellsUptoCardSaid : Prop := Claim7.holds Tryd.pinned (.plain (OpenSpec.upto zoneTellsSpec)) zoneTellsUptoCard

/-- THE SECOND FORM's CARD OF 'fuseelaw10.ZoneForms'. -/
def zoneFormsUptoCard : Claim7 := { stood := { row := zoneFormsUptoRow, standIns := [], harness := (true, "280970faac918a111fd6ca43c124ddfc1fa688dbbe761f3129dc6908273d1397"), looks := true }, kinds := [], alts := [], laidByText := true, laidKinds := [.handle], laidTests := true, laidLooks := .later }
def ZoneFormsUptoCardSaid : Prop := Claim7.holds Tryd.pinned (.plain (OpenSpec.upto zoneFormsSpec)) zoneFormsUptoCard

/-- THE SECOND FORM's CARD OF 'fuseelaw10.ZoneSpans'. -/
def zoneSpansUptoCard : Claim7 := { stood := { row := zoneSpansUptoRow, standIns := [], harness := (true, "280970faac918a111fd6ca43c124ddfc1fa688dbbe761f3129dc6908273d1397"), looks := true }, kinds := [], alts := [], laidByText := true, laidKinds := [.handle], laidTests := true, laidLooks := .later }
def ZoneSpansUptoCardSaid : Prop := Claim7.holds Tryd.pinned (.plain (OpenSpec.upto zoneSpansSpec)) zoneSpansUptoCard

/-- THE SECOND FORM's CARD OF 'fuseelaw12.SmearSteps'. -/
def smearStepsUptoCard : Claim7 := { stood := { row := smearStepsUptoRow, standIns := [], harness := (true, "280970faac918a111fd6ca43c124ddfc1fa688dbbe761f3129dc6908273d1397"), looks := true }, kinds := [], alts := [], laidByText := true, laidKinds := [.handle], laidTests := true, laidLooks := .later }
def SmearStepsUptoCardSaid : Prop := Claim7.holds Tryd.pinned (.plain (OpenSpec.upto smearStepsSpec)) smearStepsUptoCard

/-- THE SECOND FORM's CARD OF 'fuseelaw12.SmearTells'. -/
def smearTellsUptoCard : Claim7 := { stood := { row := smearTellsUptoRow, standIns := [], harness := (true, "280970faac918a111fd6ca43c124ddfc1fa688dbbe761f3129dc6908273d1397"), looks := true }, kinds := [], alts := [], laidByText := true, laidKinds := [.handle], laidTests := true, laidLooks := .later }
def SmearTellsUptoCardSaid : Prop := Claim7.holds Tryd.pinned (.plain (OpenSpec.upto smearTellsSpec)) smearTellsUptoCard

/-- THE SECOND FORM's CARD OF 'fuseelaw12.SmearOnward'. -/
def smearOnwardUptoCard : Claim7 := { stood := { row := smearOnwardUptoRow, standIns := [], harness := (true, "280970faac918a111fd6ca43c124ddfc1fa688dbbe761f3129dc6908273d1397"), looks := true }, kinds := [], alts := [], laidByText := true, laidKinds := [.handle], laidTests := true, laidLooks := .later }
def SmearOnwardUptoCardSaid : Prop := Claim7.holds Tryd.pinned (.plain (OpenSpec.upto smearOnwardSpec)) smearOnwardUptoCard

/-- THE SECOND FORM's CARD OF 'fuseelaw12.SmearOutside'. -/
def smearOutsideUptoCard : Claim7 := { stood := { row := smearOutsideUptoRow, standIns := [], harness := (true, "280970faac918a111fd6ca43c124ddfc1fa688dbbe761f3129dc6908273d1397"), looks := true }, kinds := [], alts := [], laidByText := true, laidKinds := [.handle], laidTests := true, laidLooks := .later }
def SmearOutsideUptoCardSaid : Prop := Claim7.holds Tryd.pinned (.plain (OpenSpec.upto smearOutsideSpec)) smearOutsideUptoCard
end Rows
end Go.Proofs.YtehiienjodicpaaDoor
