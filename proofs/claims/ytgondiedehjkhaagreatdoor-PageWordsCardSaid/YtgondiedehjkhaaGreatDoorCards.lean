/-
  DERIVED. GIVEN WITH THE SEED: THE CARDS: each row of YtgondiedehjkhaaGreatDoorRows.lean that lists a variable, with what it lists TIED to the program's text (the seventh form; the later family's looks); each row that meets fmt, with fmt's text TOLD by the authors' own Lean function (tested against real Go, not proved from fmt's source: count such statements apart). THE CARD IS WHAT COUNTS. Prove the row's statement (the work); the ties are given (YtgondiedehjkhaaGreatDoorTie.lean); close each card by the builder's one call (the guide's Derived/Test/ToyasCard.lean, 'card_holds'). Laid BY PROGRAM, IN A SANDBOX (cutbox-door.mjs). By AI agents, Wed Nov 11 2026. No macro, syntax, notation, axiom, sorry.
-/
import Derived.Test.YtgondiedehjkhaaGreatDoorRows
import GoSem.ClaimSeven
namespace Go.Proofs.YtgondiedehjkhaaGreatDoor
namespace Rows

/-- THE TIED CARD OF 'fuseelaw19.PageWords'. -/
def pageWordsCard : Claim7 := { stood := { row := pageWordsRow, standIns := [], harness := (true, "7f4b88d5343e2568ef1d9c5d791d960651a9918d8e529034e11ac8c9e594fea7"), looks := true }, kinds := [], alts := [], laidByText := true, laidKinds := [.handle], laidTests := true, laidLooks := .later }
def PageWordsCardSaid : Prop := Claim7.holds Tryz.pinned (.plain (OpenSpec.ofChange pageWordsSpec)) pageWordsCard

/-- THE TIED CARD OF 'fuseelaw19.PageBack'. -/
def pageBackCard : Claim7 := { stood := { row := pageBackRow, standIns := [], harness := (true, "7f4b88d5343e2568ef1d9c5d791d960651a9918d8e529034e11ac8c9e594fea7"), looks := true }, kinds := [], alts := [], laidByText := true, laidKinds := [.handle], laidTests := true, laidLooks := .later }
def PageBackCardSaid : Prop := Claim7.holds Tryz.pinned (.plain (OpenSpec.ofChange pageBackSpec)) pageBackCard

/-- THE TIED CARD OF 'fuseelaw30.BoundTells'. -/
def boundTellsCard : Claim7 := { stood := { row := boundTellsRow, standIns := [], harness := (true, "7f4b88d5343e2568ef1d9c5d791d960651a9918d8e529034e11ac8c9e594fea7"), looks := true }, kinds := [], alts := [], laidByText := true, laidKinds := [.handle], laidTests := true, laidLooks := .later }
def BoundTellsCardSaid : Prop := Claim7.holds Tryz.pinned (.plain (OpenSpec.ofChange boundTellsSpec)) boundTellsCard

/-- THE SECOND FORM's CARD OF 'fuseelaw19.PageWords'. -/
def pageWordsUptoCard : Claim7 := { stood := { row := pageWordsUptoRow, standIns := [], harness := (true, "7f4b88d5343e2568ef1d9c5d791d960651a9918d8e529034e11ac8c9e594fea7"), looks := true }, kinds := [], alts := [], laidByText := true, laidKinds := [.handle], laidTests := true, laidLooks := .later }
def PageWordsUptoCardSaid : Prop := Claim7.holds Tryz.pinned (.plain (OpenSpec.upto pageWordsSpec)) pageWordsUptoCard

/-- THE SECOND FORM's CARD OF 'fuseelaw19.PageBack'. -/
def pageBackUptoCard : Claim7 := { stood := { row := pageBackUptoRow, standIns := [], harness := (true, "7f4b88d5343e2568ef1d9c5d791d960651a9918d8e529034e11ac8c9e594fea7"), looks := true }, kinds := [], alts := [], laidByText := true, laidKinds := [.handle], laidTests := true, laidLooks := .later }
def PageBackUptoCardSaid : Prop := Claim7.holds Tryz.pinned (.plain (OpenSpec.upto pageBackSpec)) pageBackUptoCard

/-- THE SECOND FORM's CARD OF 'fuseelaw30.BoundTells'. -/
def boundTellsUptoCard : Claim7 := { stood := { row := boundTellsUptoRow, standIns := [], harness := (true, "7f4b88d5343e2568ef1d9c5d791d960651a9918d8e529034e11ac8c9e594fea7"), looks := true }, kinds := [], alts := [], laidByText := true, laidKinds := [.handle], laidTests := true, laidLooks := .later }
def BoundTellsUptoCardSaid : Prop := Claim7.holds Tryz.pinned (.plain (OpenSpec.upto boundTellsSpec)) boundTellsUptoCard
end Rows
end Go.Proofs.YtgondiedehjkhaaGreatDoor
