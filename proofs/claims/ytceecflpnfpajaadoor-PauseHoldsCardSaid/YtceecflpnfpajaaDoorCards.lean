/-
  DERIVED. GIVEN WITH THE SEED: THE CARDS: each row of YtceecflpnfpajaaDoorRows.lean that lists a variable, with what it lists TIED to the program's text (the seventh form; the later family's looks); each row that meets fmt, with fmt's text TOLD by the authors' own Lean function (tested against real Go, not proved from fmt's source: count such statements apart). THE CARD IS WHAT COUNTS. Prove the row's statement (the work); the ties are given (YtceecflpnfpajaaDoorTie.lean); close each card by the builder's one call (the guide's Derived/Test/ToyasCard.lean, 'card_holds'). Laid BY PROGRAM, IN A SANDBOX (cutbox-door.mjs). By AI agents, Wed Nov 11 2026. No macro, syntax, notation, axiom, sorry.
-/
import Derived.Test.YtceecflpnfpajaaDoorRows
import GoSem.ClaimSeven
namespace Go.Proofs.YtceecflpnfpajaaDoor
namespace Rows

/-- THE TIED CARD OF 'fuseelaw02.WideSums'. -/
def wideSumsCard : Claim7 := { stood := { row := wideSumsRow, standIns := [], harness := (true, "21d097546869f43e1fabfc685e8a185650033b65879cee036fd21231ec6d81d9"), looks := true }, kinds := [], alts := [], laidByText := true, laidKinds := [.handle], laidTests := true, laidLooks := .later }
def WideSumsCardSaid : Prop := Claim7.holds Tryd.pinned (.plain (OpenSpec.ofChange wideSumsSpec)) wideSumsCard

/-- THE TIED CARD OF 'fuseelaw02.WideParts'. -/
def widePartsCard : Claim7 := { stood := { row := widePartsRow, standIns := [], harness := (true, "21d097546869f43e1fabfc685e8a185650033b65879cee036fd21231ec6d81d9"), looks := true }, kinds := [], alts := [], laidByText := true, laidKinds := [.handle], laidTests := true, laidLooks := .later }
def WidePartsCardSaid : Prop := Claim7.holds Tryd.pinned (.plain (OpenSpec.ofChange widePartsSpec)) widePartsCard

/-- THE TIED CARD OF 'fuseelaw12.SmearSteps'. -/
def smearStepsCard : Claim7 := { stood := { row := smearStepsRow, standIns := [], harness := (true, "21d097546869f43e1fabfc685e8a185650033b65879cee036fd21231ec6d81d9"), looks := true }, kinds := [], alts := [], laidByText := true, laidKinds := [.handle], laidTests := true, laidLooks := .later }
def SmearStepsCardSaid : Prop := Claim7.holds Tryd.pinned (.plain (OpenSpec.ofChange smearStepsSpec)) smearStepsCard

/-- THE TIED CARD OF 'fuseelaw12.SmearTells'. -/
def smearTellsCard : Claim7 := { stood := { row := smearTellsRow, standIns := [], harness := (true, "21d097546869f43e1fabfc685e8a185650033b65879cee036fd21231ec6d81d9"), looks := true }, kinds := [], alts := [], laidByText := true, laidKinds := [.handle], laidTests := true, laidLooks := .later }
def SmearTellsCardSaid : Prop := Claim7.holds Tryd.pinned (.plain (OpenSpec.ofChange smearTellsSpec)) smearTellsCard

/-- THE TIED CARD OF 'fuseelaw12.SmearOnward'. -/
def smearOnwardCard : Claim7 := { stood := { row := smearOnwardRow, standIns := [], harness := (true, "21d097546869f43e1fabfc685e8a185650033b65879cee036fd21231ec6d81d9"), looks := true }, kinds := [], alts := [], laidByText := true, laidKinds := [.handle], laidTests := true, laidLooks := .later }
def SmearOnwardCardSaid : Prop := Claim7.holds Tryd.pinned (.plain (OpenSpec.ofChange smearOnwardSpec)) smearOnwardCard

/-- THE TIED CARD OF 'fuseelaw12.SmearOutside'. -/
def smearOutsideCard : Claim7 := { stood := { row := smearOutsideRow, standIns := [], harness := (true, "21d097546869f43e1fabfc685e8a185650033b65879cee036fd21231ec6d81d9"), looks := true }, kinds := [], alts := [], laidByText := true, laidKinds := [.handle], laidTests := true, laidLooks := .later }
def SmearOutsideCardSaid : Prop := Claim7.holds Tryd.pinned (.plain (OpenSpec.ofChange smearOutsideSpec)) smearOutsideCard

/-- THE TIED CARD OF 'fuseelaw27.PauseHolds'. -/
def pauseHoldsCard : Claim7 := { stood := { row := pauseHoldsRow, standIns := [], harness := (true, "21d097546869f43e1fabfc685e8a185650033b65879cee036fd21231ec6d81d9"), looks := true }, kinds := [], alts := [], laidByText := true, laidKinds := [.handle], laidTests := true, laidLooks := .later }
def PauseHoldsCardSaid : Prop := Claim7.holds Tryd.pinned (.plain (OpenSpec.ofChange pauseHoldsSpec)) pauseHoldsCard

/-- THE SECOND FORM's CARD OF 'fuseelaw02.WideSums'. -/
def wideSumsUptoCard : Claim7 := { stood := { row := wideSumsUptoRow, standIns := [], harness := (true, "21d097546869f43e1fabfc685e8a185650033b65879cee036fd21231ec6d81d9"), looks := true }, kinds := [], alts := [], laidByText := true, laidKinds := [.handle], laidTests := true, laidLooks := .later }
def WideSumsUptoCardSaid : Prop := Claim7.holds Tryd.pinned (.plain (OpenSpec.upto wideSumsSpec)) wideSumsUptoCard

/-- THE SECOND FORM's CARD OF 'fuseelaw02.WideParts'. -/
def widePartsUptoCard : Claim7 := { stood := { row := widePartsUptoRow, standIns := [], harness := (true, "21d097546869f43e1fabfc685e8a185650033b65879cee036fd21231ec6d81d9"), looks := true }, kinds := [], alts := [], laidByText := true, laidKinds := [.handle], laidTests := true, laidLooks := .later }
def WidePartsUptoCardSaid : Prop := Claim7.holds Tryd.pinned (.plain (OpenSpec.upto widePartsSpec)) widePartsUptoCard

/-- THE SECOND FORM's CARD OF 'fuseelaw12.SmearSteps'. -/
def smearStepsUptoCard : Claim7 := { stood := { row := smearStepsUptoRow, standIns := [], harness := (true, "21d097546869f43e1fabfc685e8a185650033b65879cee036fd21231ec6d81d9"), looks := true }, kinds := [], alts := [], laidByText := true, laidKinds := [.handle], laidTests := true, laidLooks := .later }
def SmearStepsUptoCardSaid : Prop := Claim7.holds Tryd.pinned (.plain (OpenSpec.upto smearStepsSpec)) smearStepsUptoCard

/-- THE SECOND FORM's CARD OF 'fuseelaw12.SmearTells'. -/
def smearTellsUptoCard : Claim7 := { stood := { row := smearTellsUptoRow, standIns := [], harness := (true, "21d097546869f43e1fabfc685e8a185650033b65879cee036fd21231ec6d81d9"), looks := true }, kinds := [], alts := [], laidByText := true, laidKinds := [.handle], laidTests := true, laidLooks := .later }
def SmearTellsUptoCardSaid : Prop := Claim7.holds Tryd.pinned (.plain (OpenSpec.upto smearTellsSpec)) smearTellsUptoCard

/-- THE SECOND FORM's CARD OF 'fuseelaw12.SmearOnward'. -/
def smearOnwardUptoCard : Claim7 := { stood := { row := smearOnwardUptoRow, standIns := [], harness := (true, "21d097546869f43e1fabfc685e8a185650033b65879cee036fd21231ec6d81d9"), looks := true }, kinds := [], alts := [], laidByText := true, laidKinds := [.handle], laidTests := true, laidLooks := .later }
def SmearOnwardUptoCardSaid : Prop := Claim7.holds Tryd.pinned (.plain (OpenSpec.upto smearOnwardSpec)) smearOnwardUptoCard

/-- THE SECOND FORM's CARD OF 'fuseelaw12.SmearOutside'. -/
def smearOutsideUptoCard : Claim7 := { stood := { row := smearOutsideUptoRow, standIns := [], harness := (true, "21d097546869f43e1fabfc685e8a185650033b65879cee036fd21231ec6d81d9"), looks := true }, kinds := [], alts := [], laidByText := true, laidKinds := [.handle], laidTests := true, laidLooks := .later }
def SmearOutsideUptoCardSaid : Prop := Claim7.holds Tryd.pinned (.plain (OpenSpec.upto smearOutsideSpec)) smearOutsideUptoCard

/-- THE SECOND FORM's CARD OF 'fuseelaw27.PauseHolds'. -/
def pauseHoldsUptoCard : Claim7 := { stood := { row := pauseHoldsUptoRow, standIns := [], harness := (true, "21d097546869f43e1fabfc685e8a185650033b65879cee036fd21231ec6d81d9"), looks := true }, kinds := [], alts := [], laidByText := true, laidKinds := [.handle], laidTests := true, laidLooks := .later }
def PauseHoldsUptoCardSaid : Prop := Claim7.holds Tryd.pinned (.plain (OpenSpec.upto pauseHoldsSpec)) pauseHoldsUptoCard
end Rows
end Go.Proofs.YtceecflpnfpajaaDoor
