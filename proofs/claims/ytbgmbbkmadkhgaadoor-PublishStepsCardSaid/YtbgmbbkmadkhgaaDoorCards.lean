/-
  DERIVED. GIVEN WITH THE SEED: THE CARDS: each row of YtbgmbbkmadkhgaaDoorRows.lean that lists a variable, with what it lists TIED to the program's text (the seventh form; the later family's looks); each row that meets fmt, with fmt's text TOLD by the authors' own Lean function (tested against real Go, not proved from fmt's source: count such statements apart). THE CARD IS WHAT COUNTS. Prove the row's statement (the work); the ties are given (YtbgmbbkmadkhgaaDoorTie.lean); close each card by the builder's one call (the guide's Derived/Test/ToyasCard.lean, 'card_holds'). Laid BY PROGRAM, IN A SANDBOX (cutbox-door.mjs). By AI agents, Wed Nov 11 2026. No macro, syntax, notation, axiom, sorry.
-/
import Derived.Test.YtbgmbbkmadkhgaaDoorRows
import GoSem.ClaimSeven
namespace Go.Proofs.YtbgmbbkmadkhgaaDoor
namespace Rows

/-- THE TIED CARD OF 'fuseelaw02.WideSums'. -/
def wideSumsCard : Claim7 := { stood := { row := wideSumsRow, standIns := [], harness := (true, "86571032290116fadc98b01afd08d700115adb9a318302bc637bad3369589285"), looks := true }, kinds := [], alts := [], laidByText := true, laidKinds := [.handle], laidTests := true, laidLooks := .later }
def WideSumsCardSaid : Prop := Claim7.holds Tryd.pinned (.plain (OpenSpec.ofChange wideSumsSpec)) wideSumsCard

/-- THE TIED CARD OF 'fuseelaw02.WideParts'. -/
def widePartsCard : Claim7 := { stood := { row := widePartsRow, standIns := [], harness := (true, "86571032290116fadc98b01afd08d700115adb9a318302bc637bad3369589285"), looks := true }, kinds := [], alts := [], laidByText := true, laidKinds := [.handle], laidTests := true, laidLooks := .later }
def WidePartsCardSaid : Prop := Claim7.holds Tryd.pinned (.plain (OpenSpec.ofChange widePartsSpec)) widePartsCard

/-- THE TIED CARD OF 'fuseelaw06.BlobBack'. -/
def blobBackCard : Claim7 := { stood := { row := blobBackRow, standIns := [], harness := (true, "86571032290116fadc98b01afd08d700115adb9a318302bc637bad3369589285"), looks := true }, kinds := [], alts := [], laidByText := true, laidKinds := [.handle], laidTests := true, laidLooks := .later }
def BlobBackCardSaid : Prop := Claim7.holds Tryd.pinned (.plain (OpenSpec.ofChange blobBackSpec)) blobBackCard

/-- THE TIED CARD OF 'fuseelaw10.ZoneForms'. -/
def zoneFormsCard : Claim7 := { stood := { row := zoneFormsRow, standIns := [], harness := (true, "86571032290116fadc98b01afd08d700115adb9a318302bc637bad3369589285"), looks := true }, kinds := [], alts := [], laidByText := true, laidKinds := [.handle], laidTests := true, laidLooks := .later }
def ZoneFormsCardSaid : Prop := Claim7.holds Tryd.pinned (.plain (OpenSpec.ofChange zoneFormsSpec)) zoneFormsCard

/-- THE TIED CARD OF 'fuseelaw20.PublishSteps'. -/
def publishStepsCard : Claim7 := { stood := { row := publishStepsRow, standIns := [], harness := (true, "86571032290116fadc98b01afd08d700115adb9a318302bc637bad3369589285"), looks := true }, kinds := [], alts := [], laidByText := true, laidKinds := [.handle], laidTests := true, laidLooks := .later }
def PublishStepsCardSaid : Prop := Claim7.holds Tryd.pinned (.plain (OpenSpec.ofChange publishStepsSpec)) publishStepsCard

/-- THE TIED CARD OF 'fuseelaw22.AheadTells'. -/
def aheadTellsCard : Claim7 := { stood := { row := aheadTellsRow, standIns := [], harness := (true, "86571032290116fadc98b01afd08d700115adb9a318302bc637bad3369589285"), looks := true }, kinds := [], alts := [], laidByText := true, laidKinds := [.handle], laidTests := true, laidLooks := .later }
def AheadTellsCardSaid : Prop := Claim7.holds Tryd.pinned (.plain (OpenSpec.ofChange aheadTellsSpec)) aheadTellsCard

/-- THE TIED CARD OF 'fuseelaw25.FuzzTells'. -/
def fuzzTellsCard : Claim7 := { stood := { row := fuzzTellsRow, standIns := [], harness := (true, "86571032290116fadc98b01afd08d700115adb9a318302bc637bad3369589285"), looks := true }, kinds := [], alts := [], laidByText := true, laidKinds := [.handle], laidTests := true, laidLooks := .later }
def FuzzTellsCardSaid : Prop := Claim7.holds Tryd.pinned (.plain (OpenSpec.ofChange fuzzTellsSpec)) fuzzTellsCard

/-- THE TIED CARD OF 'fuseelaw25.FuzzHolds'. -/
def fuzzHoldsCard : Claim7 := { stood := { row := fuzzHoldsRow, standIns := [], harness := (true, "86571032290116fadc98b01afd08d700115adb9a318302bc637bad3369589285"), looks := true }, kinds := [], alts := [], laidByText := true, laidKinds := [.handle], laidTests := true, laidLooks := .later }
def FuzzHoldsCardSaid : Prop := Claim7.holds Tryd.pinned (.plain (OpenSpec.ofChange fuzzHoldsSpec)) fuzzHoldsCard

/-- THE TIED CARD OF 'fuseelaw28.PolicyForms'. -/
def policyFormsCard : Claim7 := { stood := { row := policyFormsRow, standIns := [], harness := (true, "86571032290116fadc98b01afd08d700115adb9a318302bc637bad3369589285"), looks := true }, kinds := [], alts := [], laidByText := true, laidKinds := [.handle], laidTests := true, laidLooks := .later }
def PolicyFormsCardSaid : Prop := Claim7.holds Tryd.pinned (.plain (OpenSpec.ofChange policyFormsSpec)) policyFormsCard

/-- THE TIED CARD OF 'fuseelaw28.PolicyBack'. -/
def policyBackCard : Claim7 := { stood := { row := policyBackRow, standIns := [], harness := (true, "86571032290116fadc98b01afd08d700115adb9a318302bc637bad3369589285"), looks := true }, kinds := [], alts := [], laidByText := true, laidKinds := [.handle], laidTests := true, laidLooks := .later }
def PolicyBackCardSaid : Prop := Claim7.holds Tryd.pinned (.plain (OpenSpec.ofChange policyBackSpec)) policyBackCard

/-- THE TIED CARD OF 'fuseelaw32.NetCounts'. -/
def netCountsCard : Claim7 := { stood := { row := netCountsRow, standIns := [], harness := (true, "86571032290116fadc98b01afd08d700115adb9a318302bc637bad3369589285"), looks := true }, kinds := [], alts := [], laidByText := true, laidKinds := [.handle], laidTests := true, laidLooks := .later }
def NetCountsCardSaid : Prop := Claim7.holds Tryd.pinned (.plain (OpenSpec.ofChange netCountsSpec)) netCountsCard

/-- THE TIED CARD OF 'fuseelaw41.NtpForms'. -/
def ntpFormsCard : Claim7 := { stood := { row := ntpFormsRow, standIns := [], harness := (true, "86571032290116fadc98b01afd08d700115adb9a318302bc637bad3369589285"), looks := true }, kinds := [], alts := [], laidByText := true, laidKinds := [.handle], laidTests := true, laidLooks := .later }
def NtpFormsCardSaid : Prop := Claim7.holds Tryd.pinned (.plain (OpenSpec.ofChange ntpFormsSpec)) ntpFormsCard

/-- THE TIED CARD OF 'fuseelaw41.NtpAsks'. -/
def ntpAsksCard : Claim7 := { stood := { row := ntpAsksRow, standIns := [], harness := (true, "86571032290116fadc98b01afd08d700115adb9a318302bc637bad3369589285"), looks := true }, kinds := [], alts := [], laidByText := true, laidKinds := [.handle], laidTests := true, laidLooks := .later }
def NtpAsksCardSaid : Prop := Claim7.holds Tryd.pinned (.plain (OpenSpec.ofChange ntpAsksSpec)) ntpAsksCard

/-- THE SECOND FORM's CARD OF 'fuseelaw02.WideSums'. -/
def wideSumsUptoCard : Claim7 := { stood := { row := wideSumsUptoRow, standIns := [], harness := (true, "86571032290116fadc98b01afd08d700115adb9a318302bc637bad3369589285"), looks := true }, kinds := [], alts := [], laidByText := true, laidKinds := [.handle], laidTests := true, laidLooks := .later }
def WideSumsUptoCardSaid : Prop := Claim7.holds Tryd.pinned (.plain (OpenSpec.upto wideSumsSpec)) wideSumsUptoCard

/-- THE SECOND FORM's CARD OF 'fuseelaw02.WideParts'. -/
def widePartsUptoCard : Claim7 := { stood := { row := widePartsUptoRow, standIns := [], harness := (true, "86571032290116fadc98b01afd08d700115adb9a318302bc637bad3369589285"), looks := true }, kinds := [], alts := [], laidByText := true, laidKinds := [.handle], laidTests := true, laidLooks := .later }
def WidePartsUptoCardSaid : Prop := Claim7.holds Tryd.pinned (.plain (OpenSpec.upto widePartsSpec)) widePartsUptoCard

/-- THE SECOND FORM's CARD OF 'fuseelaw06.BlobBack'. -/
def blobBackUptoCard : Claim7 := { stood := { row := blobBackUptoRow, standIns := [], harness := (true, "86571032290116fadc98b01afd08d700115adb9a318302bc637bad3369589285"), looks := true }, kinds := [], alts := [], laidByText := true, laidKinds := [.handle], laidTests := true, laidLooks := .later }
def BlobBackUptoCardSaid : Prop := Claim7.holds Tryd.pinned (.plain (OpenSpec.upto blobBackSpec)) blobBackUptoCard

/-- THE SECOND FORM's CARD OF 'fuseelaw10.ZoneForms'. -/
def zoneFormsUptoCard : Claim7 := { stood := { row := zoneFormsUptoRow, standIns := [], harness := (true, "86571032290116fadc98b01afd08d700115adb9a318302bc637bad3369589285"), looks := true }, kinds := [], alts := [], laidByText := true, laidKinds := [.handle], laidTests := true, laidLooks := .later }
def ZoneFormsUptoCardSaid : Prop := Claim7.holds Tryd.pinned (.plain (OpenSpec.upto zoneFormsSpec)) zoneFormsUptoCard

/-- THE SECOND FORM's CARD OF 'fuseelaw20.PublishSteps'. -/
def publishStepsUptoCard : Claim7 := { stood := { row := publishStepsUptoRow, standIns := [], harness := (true, "86571032290116fadc98b01afd08d700115adb9a318302bc637bad3369589285"), looks := true }, kinds := [], alts := [], laidByText := true, laidKinds := [.handle], laidTests := true, laidLooks := .later }
def PublishStepsUptoCardSaid : Prop := Claim7.holds Tryd.pinned (.plain (OpenSpec.upto publishStepsSpec)) publishStepsUptoCard

/-- THE SECOND FORM's CARD OF 'fuseelaw22.AheadTells'. -/
def aheadTellsUptoCard : Claim7 := { stood := { row := aheadTellsUptoRow, standIns := [], harness := (true, "86571032290116fadc98b01afd08d700115adb9a318302bc637bad3369589285"), looks := true }, kinds := [], alts := [], laidByText := true, laidKinds := [.handle], laidTests := true, laidLooks := .later }
def AheadTellsUptoCardSaid : Prop := Claim7.holds Tryd.pinned (.plain (OpenSpec.upto aheadTellsSpec)) aheadTellsUptoCard

/-- THE SECOND FORM's CARD OF 'fuseelaw25.FuzzTells'. -/
def fuzzTellsUptoCard : Claim7 := { stood := { row := fuzzTellsUptoRow, standIns := [], harness := (true, "86571032290116fadc98b01afd08d700115adb9a318302bc637bad3369589285"), looks := true }, kinds := [], alts := [], laidByText := true, laidKinds := [.handle], laidTests := true, laidLooks := .later }
def FuzzTellsUptoCardSaid : Prop := Claim7.holds Tryd.pinned (.plain (OpenSpec.upto fuzzTellsSpec)) fuzzTellsUptoCard

/-- THE SECOND FORM's CARD OF 'fuseelaw25.FuzzHolds'. -/
def fuzzHoldsUptoCard : Claim7 := { stood := { row := fuzzHoldsUptoRow, standIns := [], harness := (true, "86571032290116fadc98b01afd08d700115adb9a318302bc637bad3369589285"), looks := true }, kinds := [], alts := [], laidByText := true, laidKinds := [.handle], laidTests := true, laidLooks := .later }
def FuzzHoldsUptoCardSaid : Prop := Claim7.holds Tryd.pinned (.plain (OpenSpec.upto fuzzHoldsSpec)) fuzzHoldsUptoCard

/-- THE SECOND FORM's CARD OF 'fuseelaw28.PolicyForms'. -/
def policyFormsUptoCard : Claim7 := { stood := { row := policyFormsUptoRow, standIns := [], harness := (true, "86571032290116fadc98b01afd08d700115adb9a318302bc637bad3369589285"), looks := true }, kinds := [], alts := [], laidByText := true, laidKinds := [.handle], laidTests := true, laidLooks := .later }
def PolicyFormsUptoCardSaid : Prop := Claim7.holds Tryd.pinned (.plain (OpenSpec.upto policyFormsSpec)) policyFormsUptoCard

/-- THE SECOND FORM's CARD OF 'fuseelaw28.PolicyBack'. -/
def policyBackUptoCard : Claim7 := { stood := { row := policyBackUptoRow, standIns := [], harness := (true, "86571032290116fadc98b01afd08d700115adb9a318302bc637bad3369589285"), looks := true }, kinds := [], alts := [], laidByText := true, laidKinds := [.handle], laidTests := true, laidLooks := .later }
def PolicyBackUptoCardSaid : Prop := Claim7.holds Tryd.pinned (.plain (OpenSpec.upto policyBackSpec)) policyBackUptoCard

/-- THE SECOND FORM's CARD OF 'fuseelaw32.NetCounts'. -/
def netCountsUptoCard : Claim7 := { stood := { row := netCountsUptoRow, standIns := [], harness := (true, "86571032290116fadc98b01afd08d700115adb9a318302bc637bad3369589285"), looks := true }, kinds := [], alts := [], laidByText := true, laidKinds := [.handle], laidTests := true, laidLooks := .later }
def NetCountsUptoCardSaid : Prop := Claim7.holds Tryd.pinned (.plain (OpenSpec.upto netCountsSpec)) netCountsUptoCard

/-- THE SECOND FORM's CARD OF 'fuseelaw41.NtpForms'. -/
def ntpFormsUptoCard : Claim7 := { stood := { row := ntpFormsUptoRow, standIns := [], harness := (true, "86571032290116fadc98b01afd08d700115adb9a318302bc637bad3369589285"), looks := true }, kinds := [], alts := [], laidByText := true, laidKinds := [.handle], laidTests := true, laidLooks := .later }
def NtpFormsUptoCardSaid : Prop := Claim7.holds Tryd.pinned (.plain (OpenSpec.upto ntpFormsSpec)) ntpFormsUptoCard

/-- THE SECOND FORM's CARD OF 'fuseelaw41.NtpAsks'. -/
def ntpAsksUptoCard : Claim7 := { stood := { row := ntpAsksUptoRow, standIns := [], harness := (true, "86571032290116fadc98b01afd08d700115adb9a318302bc637bad3369589285"), looks := true }, kinds := [], alts := [], laidByText := true, laidKinds := [.handle], laidTests := true, laidLooks := .later }
def NtpAsksUptoCardSaid : Prop := Claim7.holds Tryd.pinned (.plain (OpenSpec.upto ntpAsksSpec)) ntpAsksUptoCard
end Rows
end Go.Proofs.YtbgmbbkmadkhgaaDoor
