/-
  DERIVED. GIVEN WITH THE SEED: THE CARDS: each row of YtbjgopehomnpgaaDoorRows.lean that lists a variable, with what it lists TIED to the program's text (the seventh form; the later family's looks); each row that meets fmt, with fmt's text TOLD by the authors' own Lean function (tested against real Go, not proved from fmt's source: count such statements apart). THE CARD IS WHAT COUNTS. Prove the row's statement (the work); the ties are given (YtbjgopehomnpgaaDoorTie.lean); close each card by the builder's one call (the guide's Derived/Test/ToyasCard.lean, 'card_holds'). Laid BY PROGRAM, IN A SANDBOX (cutbox-door.mjs). By AI agents, Wed Nov 11 2026. No macro, syntax, notation, axiom, sorry.
-/
import Derived.Test.YtbjgopehomnpgaaDoorRows
import GoSem.ClaimSeven
namespace Go.Proofs.YtbjgopehomnpgaaDoor
namespace Rows

/-- THE TIED CARD OF 'fuseelaw02.WideSums'. -/
def wideSumsCard : Claim7 := { stood := { row := wideSumsRow, standIns := [], harness := (true, "6a567f0a3d7d6f64552e146883885727bdfed6d33ba8066e1accac2c55ca9168"), looks := true }, kinds := [], alts := [], laidByText := true, laidKinds := [.handle], laidTests := true, laidLooks := .later }
def WideSumsCardSaid : Prop := Claim7.holds Tryd.pinned (.plain (OpenSpec.ofChange wideSumsSpec)) wideSumsCard

/-- THE TIED CARD OF 'fuseelaw02.WideParts'. -/
def widePartsCard : Claim7 := { stood := { row := widePartsRow, standIns := [], harness := (true, "6a567f0a3d7d6f64552e146883885727bdfed6d33ba8066e1accac2c55ca9168"), looks := true }, kinds := [], alts := [], laidByText := true, laidKinds := [.handle], laidTests := true, laidLooks := .later }
def WidePartsCardSaid : Prop := Claim7.holds Tryd.pinned (.plain (OpenSpec.ofChange widePartsSpec)) widePartsCard

/-- THE TIED CARD OF 'fuseelaw06.BlobForms'. -/
def blobFormsCard : Claim7 := { stood := { row := blobFormsRow, standIns := [], harness := (true, "6a567f0a3d7d6f64552e146883885727bdfed6d33ba8066e1accac2c55ca9168"), looks := true }, kinds := [], alts := [], laidByText := true, laidKinds := [.handle], laidTests := true, laidLooks := .later }
def BlobFormsCardSaid : Prop := Claim7.holds Tryd.pinned (.plain (OpenSpec.ofChange blobFormsSpec)) blobFormsCard

/-- THE TIED CARD OF 'fuseelaw06.BlobBack'. -/
def blobBackCard : Claim7 := { stood := { row := blobBackRow, standIns := [], harness := (true, "6a567f0a3d7d6f64552e146883885727bdfed6d33ba8066e1accac2c55ca9168"), looks := true }, kinds := [], alts := [], laidByText := true, laidKinds := [.handle], laidTests := true, laidLooks := .later }
def BlobBackCardSaid : Prop := Claim7.holds Tryd.pinned (.plain (OpenSpec.ofChange blobBackSpec)) blobBackCard

/-- THE TIED CARD OF 'fuseelaw09.LeapForms'. -/
def leapFormsCard : Claim7 := { stood := { row := leapFormsRow, standIns := [], harness := (true, "6a567f0a3d7d6f64552e146883885727bdfed6d33ba8066e1accac2c55ca9168"), looks := true }, kinds := [], alts := [], laidByText := true, laidKinds := [.handle], laidTests := true, laidLooks := .later }
def LeapFormsCardSaid : Prop := Claim7.holds Tryd.pinned (.plain (OpenSpec.ofChange leapFormsSpec)) leapFormsCard

/-- THE TIED CARD OF 'fuseelaw10.ZoneForms'. -/
def zoneFormsCard : Claim7 := { stood := { row := zoneFormsRow, standIns := [], harness := (true, "6a567f0a3d7d6f64552e146883885727bdfed6d33ba8066e1accac2c55ca9168"), looks := true }, kinds := [], alts := [], laidByText := true, laidKinds := [.handle], laidTests := true, laidLooks := .later }
def ZoneFormsCardSaid : Prop := Claim7.holds Tryd.pinned (.plain (OpenSpec.ofChange zoneFormsSpec)) zoneFormsCard

/-- THE TIED CARD OF 'fuseelaw12.SmearSteps'. -/
def smearStepsCard : Claim7 := { stood := { row := smearStepsRow, standIns := [], harness := (true, "6a567f0a3d7d6f64552e146883885727bdfed6d33ba8066e1accac2c55ca9168"), looks := true }, kinds := [], alts := [], laidByText := true, laidKinds := [.handle], laidTests := true, laidLooks := .later }
def SmearStepsCardSaid : Prop := Claim7.holds Tryd.pinned (.plain (OpenSpec.ofChange smearStepsSpec)) smearStepsCard

/-- THE TIED CARD OF 'fuseelaw12.SmearTells'. -/
def smearTellsCard : Claim7 := { stood := { row := smearTellsRow, standIns := [], harness := (true, "6a567f0a3d7d6f64552e146883885727bdfed6d33ba8066e1accac2c55ca9168"), looks := true }, kinds := [], alts := [], laidByText := true, laidKinds := [.handle], laidTests := true, laidLooks := .later }
def SmearTellsCardSaid : Prop := Claim7.holds Tryd.pinned (.plain (OpenSpec.ofChange smearTellsSpec)) smearTellsCard

/-- THE TIED CARD OF 'fuseelaw12.SmearOnward'. -/
def smearOnwardCard : Claim7 := { stood := { row := smearOnwardRow, standIns := [], harness := (true, "6a567f0a3d7d6f64552e146883885727bdfed6d33ba8066e1accac2c55ca9168"), looks := true }, kinds := [], alts := [], laidByText := true, laidKinds := [.handle], laidTests := true, laidLooks := .later }
def SmearOnwardCardSaid : Prop := Claim7.holds Tryd.pinned (.plain (OpenSpec.ofChange smearOnwardSpec)) smearOnwardCard

/-- THE TIED CARD OF 'fuseelaw12.SmearOutside'. -/
def smearOutsideCard : Claim7 := { stood := { row := smearOutsideRow, standIns := [], harness := (true, "6a567f0a3d7d6f64552e146883885727bdfed6d33ba8066e1accac2c55ca9168"), looks := true }, kinds := [], alts := [], laidByText := true, laidKinds := [.handle], laidTests := true, laidLooks := .later }
def SmearOutsideCardSaid : Prop := Claim7.holds Tryd.pinned (.plain (OpenSpec.ofChange smearOutsideSpec)) smearOutsideCard

/-- THE TIED CARD OF 'fuseelaw25.FuzzTells'. -/
def fuzzTellsCard : Claim7 := { stood := { row := fuzzTellsRow, standIns := [], harness := (true, "6a567f0a3d7d6f64552e146883885727bdfed6d33ba8066e1accac2c55ca9168"), looks := true }, kinds := [], alts := [], laidByText := true, laidKinds := [.handle], laidTests := true, laidLooks := .later }
def FuzzTellsCardSaid : Prop := Claim7.holds Tryd.pinned (.plain (OpenSpec.ofChange fuzzTellsSpec)) fuzzTellsCard

/-- THE TIED CARD OF 'fuseelaw25.FuzzHolds'. -/
def fuzzHoldsCard : Claim7 := { stood := { row := fuzzHoldsRow, standIns := [], harness := (true, "6a567f0a3d7d6f64552e146883885727bdfed6d33ba8066e1accac2c55ca9168"), looks := true }, kinds := [], alts := [], laidByText := true, laidKinds := [.handle], laidTests := true, laidLooks := .later }
def FuzzHoldsCardSaid : Prop := Claim7.holds Tryd.pinned (.plain (OpenSpec.ofChange fuzzHoldsSpec)) fuzzHoldsCard

/-- THE TIED CARD OF 'fuseelaw28.PolicyForms'. -/
def policyFormsCard : Claim7 := { stood := { row := policyFormsRow, standIns := [], harness := (true, "6a567f0a3d7d6f64552e146883885727bdfed6d33ba8066e1accac2c55ca9168"), looks := true }, kinds := [], alts := [], laidByText := true, laidKinds := [.handle], laidTests := true, laidLooks := .later }
def PolicyFormsCardSaid : Prop := Claim7.holds Tryd.pinned (.plain (OpenSpec.ofChange policyFormsSpec)) policyFormsCard

/-- THE TIED CARD OF 'fuseelaw28.PolicyBack'. -/
def policyBackCard : Claim7 := { stood := { row := policyBackRow, standIns := [], harness := (true, "6a567f0a3d7d6f64552e146883885727bdfed6d33ba8066e1accac2c55ca9168"), looks := true }, kinds := [], alts := [], laidByText := true, laidKinds := [.handle], laidTests := true, laidLooks := .later }
def PolicyBackCardSaid : Prop := Claim7.holds Tryd.pinned (.plain (OpenSpec.ofChange policyBackSpec)) policyBackCard

/-- THE TIED CARD OF 'fuseelaw32.NetSteps'. -/
def netStepsCard : Claim7 := { stood := { row := netStepsRow, standIns := [], harness := (true, "6a567f0a3d7d6f64552e146883885727bdfed6d33ba8066e1accac2c55ca9168"), looks := true }, kinds := [], alts := [], laidByText := true, laidKinds := [.handle], laidTests := true, laidLooks := .later }
def NetStepsCardSaid : Prop := Claim7.holds Tryd.pinned (.plain (OpenSpec.ofChange netStepsSpec)) netStepsCard

/-- THE TIED CARD OF 'fuseelaw32.NetCounts'. -/
def netCountsCard : Claim7 := { stood := { row := netCountsRow, standIns := [], harness := (true, "6a567f0a3d7d6f64552e146883885727bdfed6d33ba8066e1accac2c55ca9168"), looks := true }, kinds := [], alts := [], laidByText := true, laidKinds := [.handle], laidTests := true, laidLooks := .later }
def NetCountsCardSaid : Prop := Claim7.holds Tryd.pinned (.plain (OpenSpec.ofChange netCountsSpec)) netCountsCard

/-- THE SECOND FORM's CARD OF 'fuseelaw02.WideSums'. -/
def wideSumsUptoCard : Claim7 := { stood := { row := wideSumsUptoRow, standIns := [], harness := (true, "6a567f0a3d7d6f64552e146883885727bdfed6d33ba8066e1accac2c55ca9168"), looks := true }, kinds := [], alts := [], laidByText := true, laidKinds := [.handle], laidTests := true, laidLooks := .later }
def WideSumsUptoCardSaid : Prop := Claim7.holds Tryd.pinned (.plain (OpenSpec.upto wideSumsSpec)) wideSumsUptoCard

/-- THE SECOND FORM's CARD OF 'fuseelaw02.WideParts'. -/
def widePartsUptoCard : Claim7 := { stood := { row := widePartsUptoRow, standIns := [], harness := (true, "6a567f0a3d7d6f64552e146883885727bdfed6d33ba8066e1accac2c55ca9168"), looks := true }, kinds := [], alts := [], laidByText := true, laidKinds := [.handle], laidTests := true, laidLooks := .later }
def WidePartsUptoCardSaid : Prop := Claim7.holds Tryd.pinned (.plain (OpenSpec.upto widePartsSpec)) widePartsUptoCard

/-- THE SECOND FORM's CARD OF 'fuseelaw06.BlobForms'. -/
def blobFormsUptoCard : Claim7 := { stood := { row := blobFormsUptoRow, standIns := [], harness := (true, "6a567f0a3d7d6f64552e146883885727bdfed6d33ba8066e1accac2c55ca9168"), looks := true }, kinds := [], alts := [], laidByText := true, laidKinds := [.handle], laidTests := true, laidLooks := .later }
def BlobFormsUptoCardSaid : Prop := Claim7.holds Tryd.pinned (.plain (OpenSpec.upto blobFormsSpec)) blobFormsUptoCard

/-- THE SECOND FORM's CARD OF 'fuseelaw06.BlobBack'. -/
def blobBackUptoCard : Claim7 := { stood := { row := blobBackUptoRow, standIns := [], harness := (true, "6a567f0a3d7d6f64552e146883885727bdfed6d33ba8066e1accac2c55ca9168"), looks := true }, kinds := [], alts := [], laidByText := true, laidKinds := [.handle], laidTests := true, laidLooks := .later }
def BlobBackUptoCardSaid : Prop := Claim7.holds Tryd.pinned (.plain (OpenSpec.upto blobBackSpec)) blobBackUptoCard

/-- THE SECOND FORM's CARD OF 'fuseelaw09.LeapForms'. -/
def leapFormsUptoCard : Claim7 := { stood := { row := leapFormsUptoRow, standIns := [], harness := (true, "6a567f0a3d7d6f64552e146883885727bdfed6d33ba8066e1accac2c55ca9168"), looks := true }, kinds := [], alts := [], laidByText := true, laidKinds := [.handle], laidTests := true, laidLooks := .later }
def LeapFormsUptoCardSaid : Prop := Claim7.holds Tryd.pinned (.plain (OpenSpec.upto leapFormsSpec)) leapFormsUptoCard

/-- THE SECOND FORM's CARD OF 'fuseelaw10.ZoneForms'. -/
def zoneFormsUptoCard : Claim7 := { stood := { row := zoneFormsUptoRow, standIns := [], harness := (true, "6a567f0a3d7d6f64552e146883885727bdfed6d33ba8066e1accac2c55ca9168"), looks := true }, kinds := [], alts := [], laidByText := true, laidKinds := [.handle], laidTests := true, laidLooks := .later }
def ZoneFormsUptoCardSaid : Prop := Claim7.holds Tryd.pinned (.plain (OpenSpec.upto zoneFormsSpec)) zoneFormsUptoCard

/-- THE SECOND FORM's CARD OF 'fuseelaw12.SmearSteps'. -/
def smearStepsUptoCard : Claim7 := { stood := { row := smearStepsUptoRow, standIns := [], harness := (true, "6a567f0a3d7d6f64552e146883885727bdfed6d33ba8066e1accac2c55ca9168"), looks := true }, kinds := [], alts := [], laidByText := true, laidKinds := [.handle], laidTests := true, laidLooks := .later }
def SmearStepsUptoCardSaid : Prop := Claim7.holds Tryd.pinned (.plain (OpenSpec.upto smearStepsSpec)) smearStepsUptoCard

/-- THE SECOND FORM's CARD OF 'fuseelaw12.SmearTells'. -/
def smearTellsUptoCard : Claim7 := { stood := { row := smearTellsUptoRow, standIns := [], harness := (true, "6a567f0a3d7d6f64552e146883885727bdfed6d33ba8066e1accac2c55ca9168"), looks := true }, kinds := [], alts := [], laidByText := true, laidKinds := [.handle], laidTests := true, laidLooks := .later }
def SmearTellsUptoCardSaid : Prop := Claim7.holds Tryd.pinned (.plain (OpenSpec.upto smearTellsSpec)) smearTellsUptoCard

/-- THE SECOND FORM's CARD OF 'fuseelaw12.SmearOnward'. -/
def smearOnwardUptoCard : Claim7 := { stood := { row := smearOnwardUptoRow, standIns := [], harness := (true, "6a567f0a3d7d6f64552e146883885727bdfed6d33ba8066e1accac2c55ca9168"), looks := true }, kinds := [], alts := [], laidByText := true, laidKinds := [.handle], laidTests := true, laidLooks := .later }
def SmearOnwardUptoCardSaid : Prop := Claim7.holds Tryd.pinned (.plain (OpenSpec.upto smearOnwardSpec)) smearOnwardUptoCard

/-- THE SECOND FORM's CARD OF 'fuseelaw12.SmearOutside'. -/
def smearOutsideUptoCard : Claim7 := { stood := { row := smearOutsideUptoRow, standIns := [], harness := (true, "6a567f0a3d7d6f64552e146883885727bdfed6d33ba8066e1accac2c55ca9168"), looks := true }, kinds := [], alts := [], laidByText := true, laidKinds := [.handle], laidTests := true, laidLooks := .later }
def SmearOutsideUptoCardSaid : Prop := Claim7.holds Tryd.pinned (.plain (OpenSpec.upto smearOutsideSpec)) smearOutsideUptoCard

/-- THE SECOND FORM's CARD OF 'fuseelaw25.FuzzTells'. -/
def fuzzTellsUptoCard : Claim7 := { stood := { row := fuzzTellsUptoRow, standIns := [], harness := (true, "6a567f0a3d7d6f64552e146883885727bdfed6d33ba8066e1accac2c55ca9168"), looks := true }, kinds := [], alts := [], laidByText := true, laidKinds := [.handle], laidTests := true, laidLooks := .later }
def FuzzTellsUptoCardSaid : Prop := Claim7.holds Tryd.pinned (.plain (OpenSpec.upto fuzzTellsSpec)) fuzzTellsUptoCard

/-- THE SECOND FORM's CARD OF 'fuseelaw25.FuzzHolds'. -/
def fuzzHoldsUptoCard : Claim7 := { stood := { row := fuzzHoldsUptoRow, standIns := [], harness := (true, "6a567f0a3d7d6f64552e146883885727bdfed6d33ba8066e1accac2c55ca9168"), looks := true }, kinds := [], alts := [], laidByText := true, laidKinds := [.handle], laidTests := true, laidLooks := .later }
def FuzzHoldsUptoCardSaid : Prop := Claim7.holds Tryd.pinned (.plain (OpenSpec.upto fuzzHoldsSpec)) fuzzHoldsUptoCard

/-- THE SECOND FORM's CARD OF 'fuseelaw28.PolicyForms'. -/
def policyFormsUptoCard : Claim7 := { stood := { row := policyFormsUptoRow, standIns := [], harness := (true, "6a567f0a3d7d6f64552e146883885727bdfed6d33ba8066e1accac2c55ca9168"), looks := true }, kinds := [], alts := [], laidByText := true, laidKinds := [.handle], laidTests := true, laidLooks := .later }
def PolicyFormsUptoCardSaid : Prop := Claim7.holds Tryd.pinned (.plain (OpenSpec.upto policyFormsSpec)) policyFormsUptoCard

/-- THE SECOND FORM's CARD OF 'fuseelaw28.PolicyBack'. -/
def policyBackUptoCard : Claim7 := { stood := { row := policyBackUptoRow, standIns := [], harness := (true, "6a567f0a3d7d6f64552e146883885727bdfed6d33ba8066e1accac2c55ca9168"), looks := true }, kinds := [], alts := [], laidByText := true, laidKinds := [.handle], laidTests := true, laidLooks := .later }
def PolicyBackUptoCardSaid : Prop := Claim7.holds Tryd.pinned (.plain (OpenSpec.upto policyBackSpec)) policyBackUptoCard

/-- THE SECOND FORM's CARD OF 'fuseelaw32.NetSteps'. -/
def netStepsUptoCard : Claim7 := { stood := { row := netStepsUptoRow, standIns := [], harness := (true, "6a567f0a3d7d6f64552e146883885727bdfed6d33ba8066e1accac2c55ca9168"), looks := true }, kinds := [], alts := [], laidByText := true, laidKinds := [.handle], laidTests := true, laidLooks := .later }
def NetStepsUptoCardSaid : Prop := Claim7.holds Tryd.pinned (.plain (OpenSpec.upto netStepsSpec)) netStepsUptoCard

/-- THE SECOND FORM's CARD OF 'fuseelaw32.NetCounts'. -/
def netCountsUptoCard : Claim7 := { stood := { row := netCountsUptoRow, standIns := [], harness := (true, "6a567f0a3d7d6f64552e146883885727bdfed6d33ba8066e1accac2c55ca9168"), looks := true }, kinds := [], alts := [], laidByText := true, laidKinds := [.handle], laidTests := true, laidLooks := .later }
def NetCountsUptoCardSaid : Prop := Claim7.holds Tryd.pinned (.plain (OpenSpec.upto netCountsSpec)) netCountsUptoCard
end Rows
end Go.Proofs.YtbjgopehomnpgaaDoor
