/-
  DERIVED. GIVEN WITH THE SEED: THE CARDS: each row of YtgkpbokipnfddaaDoorRows.lean that lists a variable, with what it lists TIED to the program's text (the seventh form; the later family's looks); each row that meets fmt, with fmt's text TOLD by the authors' own Lean function (tested against real Go, not proved from fmt's source: count such statements apart). THE CARD IS WHAT COUNTS. Prove the row's statement (the work); the ties are given (YtgkpbokipnfddaaDoorTie.lean); close each card by the builder's one call (the guide's Derived/Test/ToyasCard.lean, 'card_holds'). Laid BY PROGRAM, IN A SANDBOX (cutbox-door.mjs). By AI agents, Wed Nov 11 2026. No macro, syntax, notation, axiom, sorry.
-/
import Derived.Test.YtgkpbokipnfddaaDoorRows
import GoSem.ClaimSeven
namespace Go.Proofs.YtgkpbokipnfddaaDoor
namespace Rows

/-- THE TIED CARD OF 'fuseelaw13.SpanSteps'. -/
def spanStepsCard : Claim7 := { stood := { row := spanStepsRow, standIns := [], harness := (true, "2e5e98070f3a594a89f6417f067cd389599f61ca1b6f8b3fcfa9a08959381b48"), looks := true }, kinds := [], alts := [], laidByText := true, laidKinds := [.handle], laidTests := true, laidLooks := .later }
def SpanStepsCardSaid : Prop := Claim7.holds Tryd.pinned (.plain (OpenSpec.ofChange spanStepsSpec)) spanStepsCard

/-- THE TIED CARD OF 'fuseelaw13.SpanVotes'. -/
def spanVotesCard : Claim7 := { stood := { row := spanVotesRow, standIns := [], harness := (true, "2e5e98070f3a594a89f6417f067cd389599f61ca1b6f8b3fcfa9a08959381b48"), looks := true }, kinds := [], alts := [], laidByText := true, laidKinds := [.handle], laidTests := true, laidLooks := .later }
def SpanVotesCardSaid : Prop := Claim7.holds Tryd.pinned (.plain (OpenSpec.ofChange spanVotesSpec)) spanVotesCard

/-- THE TIED CARD OF 'fuseelaw13.SpanMost'. -/
def spanMostCard : Claim7 := { stood := { row := spanMostRow, standIns := [], harness := (true, "2e5e98070f3a594a89f6417f067cd389599f61ca1b6f8b3fcfa9a08959381b48"), looks := true }, kinds := [], alts := [], laidByText := true, laidKinds := [.handle], laidTests := true, laidLooks := .later }
def SpanMostCardSaid : Prop := Claim7.holds Tryd.pinned (.plain (OpenSpec.ofChange spanMostSpec)) spanMostCard

/-- THE TIED CARD OF 'fuseelaw13.SpanMeets'. -/
def spanMeetsCard : Claim7 := { stood := { row := spanMeetsRow, standIns := [], harness := (true, "2e5e98070f3a594a89f6417f067cd389599f61ca1b6f8b3fcfa9a08959381b48"), looks := true }, kinds := [], alts := [], laidByText := true, laidKinds := [.handle], laidTests := true, laidLooks := .later }
def SpanMeetsCardSaid : Prop := Claim7.holds Tryd.pinned (.plain (OpenSpec.ofChange spanMeetsSpec)) spanMeetsCard

/-- THE TIED CARD OF 'fuseelaw16.ServoSteps'. -/
def servoStepsCard : Claim7 := { stood := { row := servoStepsRow, standIns := [], harness := (true, "2e5e98070f3a594a89f6417f067cd389599f61ca1b6f8b3fcfa9a08959381b48"), looks := true }, kinds := [], alts := [], laidByText := true, laidKinds := [.handle], laidTests := true, laidLooks := .later }
def ServoStepsCardSaid : Prop := Claim7.holds Tryd.pinned (.plain (OpenSpec.ofChange servoStepsSpec)) servoStepsCard

/-- THE TIED CARD OF 'fuseelaw16.ServoHolds'. -/
def servoHoldsCard : Claim7 := { stood := { row := servoHoldsRow, standIns := [], harness := (true, "2e5e98070f3a594a89f6417f067cd389599f61ca1b6f8b3fcfa9a08959381b48"), looks := true }, kinds := [], alts := [], laidByText := true, laidKinds := [.handle], laidTests := true, laidLooks := .later }
def ServoHoldsCardSaid : Prop := Claim7.holds Tryd.pinned (.plain (OpenSpec.ofChange servoHoldsSpec)) servoHoldsCard

/-- THE TIED CARD OF 'fuseelaw16.ServoSlews'. -/
def servoSlewsCard : Claim7 := { stood := { row := servoSlewsRow, standIns := [], harness := (true, "2e5e98070f3a594a89f6417f067cd389599f61ca1b6f8b3fcfa9a08959381b48"), looks := true }, kinds := [], alts := [], laidByText := true, laidKinds := [.handle], laidTests := true, laidLooks := .later }
def ServoSlewsCardSaid : Prop := Claim7.holds Tryd.pinned (.plain (OpenSpec.ofChange servoSlewsSpec)) servoSlewsCard

/-- THE TIED CARD OF 'fuseelaw25.FuzzTells'. -/
def fuzzTellsCard : Claim7 := { stood := { row := fuzzTellsRow, standIns := [], harness := (true, "2e5e98070f3a594a89f6417f067cd389599f61ca1b6f8b3fcfa9a08959381b48"), looks := true }, kinds := [], alts := [], laidByText := true, laidKinds := [.handle], laidTests := true, laidLooks := .later }
def FuzzTellsCardSaid : Prop := Claim7.holds Tryd.pinned (.plain (OpenSpec.ofChange fuzzTellsSpec)) fuzzTellsCard

/-- THE TIED CARD OF 'fuseelaw25.FuzzHolds'. -/
def fuzzHoldsCard : Claim7 := { stood := { row := fuzzHoldsRow, standIns := [], harness := (true, "2e5e98070f3a594a89f6417f067cd389599f61ca1b6f8b3fcfa9a08959381b48"), looks := true }, kinds := [], alts := [], laidByText := true, laidKinds := [.handle], laidTests := true, laidLooks := .later }
def FuzzHoldsCardSaid : Prop := Claim7.holds Tryd.pinned (.plain (OpenSpec.ofChange fuzzHoldsSpec)) fuzzHoldsCard

/-- THE TIED CARD OF 'fuseelaw35.SlotTells'. -/
def slotTellsCard : Claim7 := { stood := { row := slotTellsRow, standIns := [], harness := (true, "2e5e98070f3a594a89f6417f067cd389599f61ca1b6f8b3fcfa9a08959381b48"), looks := true }, kinds := [], alts := [], laidByText := true, laidKinds := [.handle], laidTests := true, laidLooks := .later }
def SlotTellsCardSaid : Prop := Claim7.holds Tryd.pinned (.plain (OpenSpec.ofChange slotTellsSpec)) slotTellsCard

/-- THE TIED CARD OF 'fuseelaw35.SlotRound'. -/
def slotRoundCard : Claim7 := { stood := { row := slotRoundRow, standIns := [], harness := (true, "2e5e98070f3a594a89f6417f067cd389599f61ca1b6f8b3fcfa9a08959381b48"), looks := true }, kinds := [], alts := [], laidByText := true, laidKinds := [.handle], laidTests := true, laidLooks := .later }
def SlotRoundCardSaid : Prop := Claim7.holds Tryd.pinned (.plain (OpenSpec.ofChange slotRoundSpec)) slotRoundCard

/-- THE SECOND FORM's CARD OF 'fuseelaw13.SpanSteps'. -/
def spanStepsUptoCard : Claim7 := { stood := { row := spanStepsUptoRow, standIns := [], harness := (true, "2e5e98070f3a594a89f6417f067cd389599f61ca1b6f8b3fcfa9a08959381b48"), looks := true }, kinds := [], alts := [], laidByText := true, laidKinds := [.handle], laidTests := true, laidLooks := .later }
def SpanStepsUptoCardSaid : Prop := Claim7.holds Tryd.pinned (.plain (OpenSpec.upto spanStepsSpec)) spanStepsUptoCard

/-- THE SECOND FORM's CARD OF 'fuseelaw13.SpanVotes'. -/
def spanVotesUptoCard : Claim7 := { stood := { row := spanVotesUptoRow, standIns := [], harness := (true, "2e5e98070f3a594a89f6417f067cd389599f61ca1b6f8b3fcfa9a08959381b48"), looks := true }, kinds := [], alts := [], laidByText := true, laidKinds := [.handle], laidTests := true, laidLooks := .later }
def SpanVotesUptoCardSaid : Prop := Claim7.holds Tryd.pinned (.plain (OpenSpec.upto spanVotesSpec)) spanVotesUptoCard

/-- THE SECOND FORM's CARD OF 'fuseelaw13.SpanMost'. -/
def spanMostUptoCard : Claim7 := { stood := { row := spanMostUptoRow, standIns := [], harness := (true, "2e5e98070f3a594a89f6417f067cd389599f61ca1b6f8b3fcfa9a08959381b48"), looks := true }, kinds := [], alts := [], laidByText := true, laidKinds := [.handle], laidTests := true, laidLooks := .later }
def SpanMostUptoCardSaid : Prop := Claim7.holds Tryd.pinned (.plain (OpenSpec.upto spanMostSpec)) spanMostUptoCard

/-- THE SECOND FORM's CARD OF 'fuseelaw13.SpanMeets'. -/
def spanMeetsUptoCard : Claim7 := { stood := { row := spanMeetsUptoRow, standIns := [], harness := (true, "2e5e98070f3a594a89f6417f067cd389599f61ca1b6f8b3fcfa9a08959381b48"), looks := true }, kinds := [], alts := [], laidByText := true, laidKinds := [.handle], laidTests := true, laidLooks := .later }
def SpanMeetsUptoCardSaid : Prop := Claim7.holds Tryd.pinned (.plain (OpenSpec.upto spanMeetsSpec)) spanMeetsUptoCard

/-- THE SECOND FORM's CARD OF 'fuseelaw16.ServoSteps'. -/
def servoStepsUptoCard : Claim7 := { stood := { row := servoStepsUptoRow, standIns := [], harness := (true, "2e5e98070f3a594a89f6417f067cd389599f61ca1b6f8b3fcfa9a08959381b48"), looks := true }, kinds := [], alts := [], laidByText := true, laidKinds := [.handle], laidTests := true, laidLooks := .later }
def ServoStepsUptoCardSaid : Prop := Claim7.holds Tryd.pinned (.plain (OpenSpec.upto servoStepsSpec)) servoStepsUptoCard

/-- THE SECOND FORM's CARD OF 'fuseelaw16.ServoHolds'. -/
def servoHoldsUptoCard : Claim7 := { stood := { row := servoHoldsUptoRow, standIns := [], harness := (true, "2e5e98070f3a594a89f6417f067cd389599f61ca1b6f8b3fcfa9a08959381b48"), looks := true }, kinds := [], alts := [], laidByText := true, laidKinds := [.handle], laidTests := true, laidLooks := .later }
def ServoHoldsUptoCardSaid : Prop := Claim7.holds Tryd.pinned (.plain (OpenSpec.upto servoHoldsSpec)) servoHoldsUptoCard

/-- THE SECOND FORM's CARD OF 'fuseelaw16.ServoSlews'. -/
def servoSlewsUptoCard : Claim7 := { stood := { row := servoSlewsUptoRow, standIns := [], harness := (true, "2e5e98070f3a594a89f6417f067cd389599f61ca1b6f8b3fcfa9a08959381b48"), looks := true }, kinds := [], alts := [], laidByText := true, laidKinds := [.handle], laidTests := true, laidLooks := .later }
def ServoSlewsUptoCardSaid : Prop := Claim7.holds Tryd.pinned (.plain (OpenSpec.upto servoSlewsSpec)) servoSlewsUptoCard

/-- THE SECOND FORM's CARD OF 'fuseelaw25.FuzzTells'. -/
def fuzzTellsUptoCard : Claim7 := { stood := { row := fuzzTellsUptoRow, standIns := [], harness := (true, "2e5e98070f3a594a89f6417f067cd389599f61ca1b6f8b3fcfa9a08959381b48"), looks := true }, kinds := [], alts := [], laidByText := true, laidKinds := [.handle], laidTests := true, laidLooks := .later }
def FuzzTellsUptoCardSaid : Prop := Claim7.holds Tryd.pinned (.plain (OpenSpec.upto fuzzTellsSpec)) fuzzTellsUptoCard

/-- THE SECOND FORM's CARD OF 'fuseelaw25.FuzzHolds'. -/
def fuzzHoldsUptoCard : Claim7 := { stood := { row := fuzzHoldsUptoRow, standIns := [], harness := (true, "2e5e98070f3a594a89f6417f067cd389599f61ca1b6f8b3fcfa9a08959381b48"), looks := true }, kinds := [], alts := [], laidByText := true, laidKinds := [.handle], laidTests := true, laidLooks := .later }
def FuzzHoldsUptoCardSaid : Prop := Claim7.holds Tryd.pinned (.plain (OpenSpec.upto fuzzHoldsSpec)) fuzzHoldsUptoCard

/-- THE SECOND FORM's CARD OF 'fuseelaw35.SlotTells'. -/
def slotTellsUptoCard : Claim7 := { stood := { row := slotTellsUptoRow, standIns := [], harness := (true, "2e5e98070f3a594a89f6417f067cd389599f61ca1b6f8b3fcfa9a08959381b48"), looks := true }, kinds := [], alts := [], laidByText := true, laidKinds := [.handle], laidTests := true, laidLooks := .later }
def SlotTellsUptoCardSaid : Prop := Claim7.holds Tryd.pinned (.plain (OpenSpec.upto slotTellsSpec)) slotTellsUptoCard

/-- THE SECOND FORM's CARD OF 'fuseelaw35.SlotRound'. -/
def slotRoundUptoCard : Claim7 := { stood := { row := slotRoundUptoRow, standIns := [], harness := (true, "2e5e98070f3a594a89f6417f067cd389599f61ca1b6f8b3fcfa9a08959381b48"), looks := true }, kinds := [], alts := [], laidByText := true, laidKinds := [.handle], laidTests := true, laidLooks := .later }
def SlotRoundUptoCardSaid : Prop := Claim7.holds Tryd.pinned (.plain (OpenSpec.upto slotRoundSpec)) slotRoundUptoCard
end Rows
end Go.Proofs.YtgkpbokipnfddaaDoor
