/-
  DERIVED. GIVEN WITH THE SEED: THE CARDS: each row of YtflckmhlobpfiaaDoorRows.lean that lists a variable, with what it lists TIED to the program's text (the seventh form; the later family's looks); each row that meets fmt, with fmt's text TOLD by the authors' own Lean function (tested against real Go, not proved from fmt's source: count such statements apart). THE CARD IS WHAT COUNTS. Prove the row's statement (the work); the ties are given (YtflckmhlobpfiaaDoorTie.lean); close each card by the builder's one call (the guide's Derived/Test/ToyasCard.lean, 'card_holds'). Laid BY PROGRAM, IN A SANDBOX (cutbox-door.mjs). By AI agents, Wed Nov 11 2026. No macro, syntax, notation, axiom, sorry.
-/
import Derived.Test.YtflckmhlobpfiaaDoorRows
import GoSem.ClaimSeven
namespace Go.Proofs.YtflckmhlobpfiaaDoor
namespace Rows

/-- THE TIED CARD OF 'fuseelaw06.BlobForms'. -/
def blobFormsCard : Claim7 := { stood := { row := blobFormsRow, standIns := [], harness := (true, "398decbc2dbba83fe589390839cec2c9bf63f3dca85cfe0944f43a693ab03f4d"), looks := true }, kinds := [], alts := [], laidByText := true, laidKinds := [.handle], laidTests := true, laidLooks := .later }
def BlobFormsCardSaid : Prop := Claim7.holds Tryd.pinned (.plain (OpenSpec.ofChange blobFormsSpec)) blobFormsCard

/-- THE TIED CARD OF 'fuseelaw06.BlobBack'. -/
def blobBackCard : Claim7 := { stood := { row := blobBackRow, standIns := [], harness := (true, "398decbc2dbba83fe589390839cec2c9bf63f3dca85cfe0944f43a693ab03f4d"), looks := true }, kinds := [], alts := [], laidByText := true, laidKinds := [.handle], laidTests := true, laidLooks := .later }
def BlobBackCardSaid : Prop := Claim7.holds Tryd.pinned (.plain (OpenSpec.ofChange blobBackSpec)) blobBackCard

/-- THE TIED CARD OF 'fuseelaw09.LeapForms'. -/
def leapFormsCard : Claim7 := { stood := { row := leapFormsRow, standIns := [], harness := (true, "398decbc2dbba83fe589390839cec2c9bf63f3dca85cfe0944f43a693ab03f4d"), looks := true }, kinds := [], alts := [], laidByText := true, laidKinds := [.handle], laidTests := true, laidLooks := .later }
def LeapFormsCardSaid : Prop := Claim7.holds Tryd.pinned (.plain (OpenSpec.ofChange leapFormsSpec)) leapFormsCard

/-- THE TIED CARD OF 'fuseelaw10.ZoneForms'. -/
def zoneFormsCard : Claim7 := { stood := { row := zoneFormsRow, standIns := [], harness := (true, "398decbc2dbba83fe589390839cec2c9bf63f3dca85cfe0944f43a693ab03f4d"), looks := true }, kinds := [], alts := [], laidByText := true, laidKinds := [.handle], laidTests := true, laidLooks := .later }
def ZoneFormsCardSaid : Prop := Claim7.holds Tryd.pinned (.plain (OpenSpec.ofChange zoneFormsSpec)) zoneFormsCard

/-- THE TIED CARD OF 'fuseelaw11.LocalTells'. -/
def localTellsCard : Claim7 := { stood := { row := localTellsRow, standIns := [], harness := (true, "398decbc2dbba83fe589390839cec2c9bf63f3dca85cfe0944f43a693ab03f4d"), looks := true }, kinds := [], alts := [], laidByText := true, laidKinds := [.handle], laidTests := true, laidLooks := .later }
def LocalTellsCardSaid : Prop := Claim7.holds Tryd.pinned (.plain (OpenSpec.ofChange localTellsSpec)) localTellsCard

/-- THE TIED CARD OF 'fuseelaw11.LocalBack'. -/
def localBackCard : Claim7 := { stood := { row := localBackRow, standIns := [], harness := (true, "398decbc2dbba83fe589390839cec2c9bf63f3dca85cfe0944f43a693ab03f4d"), looks := true }, kinds := [], alts := [], laidByText := true, laidKinds := [.handle], laidTests := true, laidLooks := .later }
def LocalBackCardSaid : Prop := Claim7.holds Tryd.pinned (.plain (OpenSpec.ofChange localBackSpec)) localBackCard

/-- THE TIED CARD OF 'fuseelaw13.SpanVotes'. -/
def spanVotesCard : Claim7 := { stood := { row := spanVotesRow, standIns := [], harness := (true, "398decbc2dbba83fe589390839cec2c9bf63f3dca85cfe0944f43a693ab03f4d"), looks := true }, kinds := [], alts := [], laidByText := true, laidKinds := [.handle], laidTests := true, laidLooks := .later }
def SpanVotesCardSaid : Prop := Claim7.holds Tryd.pinned (.plain (OpenSpec.ofChange spanVotesSpec)) spanVotesCard

/-- THE TIED CARD OF 'fuseelaw13.SpanMost'. -/
def spanMostCard : Claim7 := { stood := { row := spanMostRow, standIns := [], harness := (true, "398decbc2dbba83fe589390839cec2c9bf63f3dca85cfe0944f43a693ab03f4d"), looks := true }, kinds := [], alts := [], laidByText := true, laidKinds := [.handle], laidTests := true, laidLooks := .later }
def SpanMostCardSaid : Prop := Claim7.holds Tryd.pinned (.plain (OpenSpec.ofChange spanMostSpec)) spanMostCard

/-- THE TIED CARD OF 'fuseelaw15.FilterTells'. -/
def filterTellsCard : Claim7 := { stood := { row := filterTellsRow, standIns := [], harness := (true, "398decbc2dbba83fe589390839cec2c9bf63f3dca85cfe0944f43a693ab03f4d"), looks := true }, kinds := [], alts := [], laidByText := true, laidKinds := [.handle], laidTests := true, laidLooks := .later }
def FilterTellsCardSaid : Prop := Claim7.holds Tryd.pinned (.plain (OpenSpec.ofChange filterTellsSpec)) filterTellsCard

/-- THE TIED CARD OF 'fuseelaw15.FilterRight'. -/
def filterRightCard : Claim7 := { stood := { row := filterRightRow, standIns := [], harness := (true, "398decbc2dbba83fe589390839cec2c9bf63f3dca85cfe0944f43a693ab03f4d"), looks := true }, kinds := [], alts := [], laidByText := true, laidKinds := [.handle], laidTests := true, laidLooks := .later }
def FilterRightCardSaid : Prop := Claim7.holds Tryd.pinned (.plain (OpenSpec.ofChange filterRightSpec)) filterRightCard

/-- THE TIED CARD OF 'fuseelaw15.FilterOld'. -/
def filterOldCard : Claim7 := { stood := { row := filterOldRow, standIns := [], harness := (true, "398decbc2dbba83fe589390839cec2c9bf63f3dca85cfe0944f43a693ab03f4d"), looks := true }, kinds := [], alts := [], laidByText := true, laidKinds := [.handle], laidTests := true, laidLooks := .later }
def FilterOldCardSaid : Prop := Claim7.holds Tryd.pinned (.plain (OpenSpec.ofChange filterOldSpec)) filterOldCard

/-- THE TIED CARD OF 'fuseelaw25.FuzzTells'. -/
def fuzzTellsCard : Claim7 := { stood := { row := fuzzTellsRow, standIns := [], harness := (true, "398decbc2dbba83fe589390839cec2c9bf63f3dca85cfe0944f43a693ab03f4d"), looks := true }, kinds := [], alts := [], laidByText := true, laidKinds := [.handle], laidTests := true, laidLooks := .later }
def FuzzTellsCardSaid : Prop := Claim7.holds Tryd.pinned (.plain (OpenSpec.ofChange fuzzTellsSpec)) fuzzTellsCard

/-- THE TIED CARD OF 'fuseelaw25.FuzzHolds'. -/
def fuzzHoldsCard : Claim7 := { stood := { row := fuzzHoldsRow, standIns := [], harness := (true, "398decbc2dbba83fe589390839cec2c9bf63f3dca85cfe0944f43a693ab03f4d"), looks := true }, kinds := [], alts := [], laidByText := true, laidKinds := [.handle], laidTests := true, laidLooks := .later }
def FuzzHoldsCardSaid : Prop := Claim7.holds Tryd.pinned (.plain (OpenSpec.ofChange fuzzHoldsSpec)) fuzzHoldsCard

/-- THE SECOND FORM's CARD OF 'fuseelaw06.BlobForms'. -/
def blobFormsUptoCard : Claim7 := { stood := { row := blobFormsUptoRow, standIns := [], harness := (true, "398decbc2dbba83fe589390839cec2c9bf63f3dca85cfe0944f43a693ab03f4d"), looks := true }, kinds := [], alts := [], laidByText := true, laidKinds := [.handle], laidTests := true, laidLooks := .later }
def BlobFormsUptoCardSaid : Prop := Claim7.holds Tryd.pinned (.plain (OpenSpec.upto blobFormsSpec)) blobFormsUptoCard

/-- THE SECOND FORM's CARD OF 'fuseelaw06.BlobBack'. -/
def blobBackUptoCard : Claim7 := { stood := { row := blobBackUptoRow, standIns := [], harness := (true, "398decbc2dbba83fe589390839cec2c9bf63f3dca85cfe0944f43a693ab03f4d"), looks := true }, kinds := [], alts := [], laidByText := true, laidKinds := [.handle], laidTests := true, laidLooks := .later }
def BlobBackUptoCardSaid : Prop := Claim7.holds Tryd.pinned (.plain (OpenSpec.upto blobBackSpec)) blobBackUptoCard

/-- THE SECOND FORM's CARD OF 'fuseelaw09.LeapForms'. -/
def leapFormsUptoCard : Claim7 := { stood := { row := leapFormsUptoRow, standIns := [], harness := (true, "398decbc2dbba83fe589390839cec2c9bf63f3dca85cfe0944f43a693ab03f4d"), looks := true }, kinds := [], alts := [], laidByText := true, laidKinds := [.handle], laidTests := true, laidLooks := .later }
def LeapFormsUptoCardSaid : Prop := Claim7.holds Tryd.pinned (.plain (OpenSpec.upto leapFormsSpec)) leapFormsUptoCard

/-- THE SECOND FORM's CARD OF 'fuseelaw10.ZoneForms'. -/
def zoneFormsUptoCard : Claim7 := { stood := { row := zoneFormsUptoRow, standIns := [], harness := (true, "398decbc2dbba83fe589390839cec2c9bf63f3dca85cfe0944f43a693ab03f4d"), looks := true }, kinds := [], alts := [], laidByText := true, laidKinds := [.handle], laidTests := true, laidLooks := .later }
def ZoneFormsUptoCardSaid : Prop := Claim7.holds Tryd.pinned (.plain (OpenSpec.upto zoneFormsSpec)) zoneFormsUptoCard

/-- THE SECOND FORM's CARD OF 'fuseelaw11.LocalTells'. -/
def localTellsUptoCard : Claim7 := { stood := { row := localTellsUptoRow, standIns := [], harness := (true, "398decbc2dbba83fe589390839cec2c9bf63f3dca85cfe0944f43a693ab03f4d"), looks := true }, kinds := [], alts := [], laidByText := true, laidKinds := [.handle], laidTests := true, laidLooks := .later }
def LocalTellsUptoCardSaid : Prop := Claim7.holds Tryd.pinned (.plain (OpenSpec.upto localTellsSpec)) localTellsUptoCard

/-- THE SECOND FORM's CARD OF 'fuseelaw11.LocalBack'. -/
def localBackUptoCard : Claim7 := { stood := { row := localBackUptoRow, standIns := [], harness := (true, "398decbc2dbba83fe589390839cec2c9bf63f3dca85cfe0944f43a693ab03f4d"), looks := true }, kinds := [], alts := [], laidByText := true, laidKinds := [.handle], laidTests := true, laidLooks := .later }
def LocalBackUptoCardSaid : Prop := Claim7.holds Tryd.pinned (.plain (OpenSpec.upto localBackSpec)) localBackUptoCard

/-- THE SECOND FORM's CARD OF 'fuseelaw13.SpanVotes'. -/
def spanVotesUptoCard : Claim7 := { stood := { row := spanVotesUptoRow, standIns := [], harness := (true, "398decbc2dbba83fe589390839cec2c9bf63f3dca85cfe0944f43a693ab03f4d"), looks := true }, kinds := [], alts := [], laidByText := true, laidKinds := [.handle], laidTests := true, laidLooks := .later }
def SpanVotesUptoCardSaid : Prop := Claim7.holds Tryd.pinned (.plain (OpenSpec.upto spanVotesSpec)) spanVotesUptoCard

/-- THE SECOND FORM's CARD OF 'fuseelaw13.SpanMost'. -/
def spanMostUptoCard : Claim7 := { stood := { row := spanMostUptoRow, standIns := [], harness := (true, "398decbc2dbba83fe589390839cec2c9bf63f3dca85cfe0944f43a693ab03f4d"), looks := true }, kinds := [], alts := [], laidByText := true, laidKinds := [.handle], laidTests := true, laidLooks := .later }
def SpanMostUptoCardSaid : Prop := Claim7.holds Tryd.pinned (.plain (OpenSpec.upto spanMostSpec)) spanMostUptoCard

/-- THE SECOND FORM's CARD OF 'fuseelaw15.FilterTells'. -/
def filterTellsUptoCard : Claim7 := { stood := { row := filterTellsUptoRow, standIns := [], harness := (true, "398decbc2dbba83fe589390839cec2c9bf63f3dca85cfe0944f43a693ab03f4d"), looks := true }, kinds := [], alts := [], laidByText := true, laidKinds := [.handle], laidTests := true, laidLooks := .later }
def FilterTellsUptoCardSaid : Prop := Claim7.holds Tryd.pinned (.plain (OpenSpec.upto filterTellsSpec)) filterTellsUptoCard

/-- THE SECOND FORM's CARD OF 'fuseelaw15.FilterRight'. -/
def filterRightUptoCard : Claim7 := { stood := { row := filterRightUptoRow, standIns := [], harness := (true, "398decbc2dbba83fe589390839cec2c9bf63f3dca85cfe0944f43a693ab03f4d"), looks := true }, kinds := [], alts := [], laidByText := true, laidKinds := [.handle], laidTests := true, laidLooks := .later }
def FilterRightUptoCardSaid : Prop := Claim7.holds Tryd.pinned (.plain (OpenSpec.upto filterRightSpec)) filterRightUptoCard

/-- THE SECOND FORM's CARD OF 'fuseelaw15.FilterOld'. -/
def filterOldUptoCard : Claim7 := { stood := { row := filterOldUptoRow, standIns := [], harness := (true, "398decbc2dbba83fe589390839cec2c9bf63f3dca85cfe0944f43a693ab03f4d"), looks := true }, kinds := [], alts := [], laidByText := true, laidKinds := [.handle], laidTests := true, laidLooks := .later }
def FilterOldUptoCardSaid : Prop := Claim7.holds Tryd.pinned (.plain (OpenSpec.upto filterOldSpec)) filterOldUptoCard

/-- THE SECOND FORM's CARD OF 'fuseelaw25.FuzzTells'. -/
def fuzzTellsUptoCard : Claim7 := { stood := { row := fuzzTellsUptoRow, standIns := [], harness := (true, "398decbc2dbba83fe589390839cec2c9bf63f3dca85cfe0944f43a693ab03f4d"), looks := true }, kinds := [], alts := [], laidByText := true, laidKinds := [.handle], laidTests := true, laidLooks := .later }
def FuzzTellsUptoCardSaid : Prop := Claim7.holds Tryd.pinned (.plain (OpenSpec.upto fuzzTellsSpec)) fuzzTellsUptoCard

/-- THE SECOND FORM's CARD OF 'fuseelaw25.FuzzHolds'. -/
def fuzzHoldsUptoCard : Claim7 := { stood := { row := fuzzHoldsUptoRow, standIns := [], harness := (true, "398decbc2dbba83fe589390839cec2c9bf63f3dca85cfe0944f43a693ab03f4d"), looks := true }, kinds := [], alts := [], laidByText := true, laidKinds := [.handle], laidTests := true, laidLooks := .later }
def FuzzHoldsUptoCardSaid : Prop := Claim7.holds Tryd.pinned (.plain (OpenSpec.upto fuzzHoldsSpec)) fuzzHoldsUptoCard
end Rows
end Go.Proofs.YtflckmhlobpfiaaDoor
