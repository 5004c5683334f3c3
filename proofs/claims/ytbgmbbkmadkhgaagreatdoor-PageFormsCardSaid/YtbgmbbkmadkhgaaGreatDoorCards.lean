/-
  DERIVED. GIVEN WITH THE SEED: THE CARDS: each row of YtbgmbbkmadkhgaaGreatDoorRows.lean that lists a variable, with what it lists TIED to the program's text (the seventh form; the later family's looks); each row that meets fmt, with fmt's text TOLD by the authors' own Lean function (tested against real Go, not proved from fmt's source: count such statements apart). THE CARD IS WHAT COUNTS. Prove the row's statement (the work); the ties are given (YtbgmbbkmadkhgaaGreatDoorTie.lean); close each card by the builder's one call (the guide's Derived/Test/ToyasCard.lean, 'card_holds'). Laid BY PROGRAM, IN A SANDBOX (cutbox-door.mjs). By AI agents, Wed Nov 11 2026. No macro, syntax, notation, axiom, sorry.
-/
import Derived.Test.YtbgmbbkmadkhgaaGreatDoorRows
import GoSem.ClaimSeven
namespace Go.Proofs.YtbgmbbkmadkhgaaGreatDoor
namespace Rows

/-- THE TIED CARD OF 'fuseelaw19.PageForms'. -/
def pageFormsCard : Claim7 := { stood := { row := pageFormsRow, standIns := [], harness := (true, "e70ffe3c0d200794ca9cfd0c0ef1954f7557cd66ea4eaa23d6b29f7c145633fb"), looks := true }, kinds := [], alts := [], laidByText := true, laidKinds := [.handle], laidTests := true, laidLooks := .later }
def PageFormsCardSaid : Prop := Claim7.holds Tryz.pinned (.plain (OpenSpec.ofChange pageFormsSpec)) pageFormsCard

/-- THE SECOND FORM's CARD OF 'fuseelaw19.PageForms'. -/
def pageFormsUptoCard : Claim7 := { stood := { row := pageFormsUptoRow, standIns := [], harness := (true, "e70ffe3c0d200794ca9cfd0c0ef1954f7557cd66ea4eaa23d6b29f7c145633fb"), looks := true }, kinds := [], alts := [], laidByText := true, laidKinds := [.handle], laidTests := true, laidLooks := .later }
def PageFormsUptoCardSaid : Prop := Claim7.holds Tryz.pinned (.plain (OpenSpec.upto pageFormsSpec)) pageFormsUptoCard
end Rows
end Go.Proofs.YtbgmbbkmadkhgaaGreatDoor
