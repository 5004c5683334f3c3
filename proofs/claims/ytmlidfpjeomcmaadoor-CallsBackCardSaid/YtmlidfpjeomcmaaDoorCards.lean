/-
  DERIVED. GIVEN WITH THE SEED: THE CARDS: each row of YtmlidfpjeomcmaaDoorRows.lean that lists a variable, with what it lists TIED to the program's text (the seventh form; the later family's looks); each row that meets fmt, with fmt's text TOLD by the authors' own Lean function (tested against real Go, not proved from fmt's source: count such statements apart). THE CARD IS WHAT COUNTS. Prove the row's statement (the work); the ties are given (YtmlidfpjeomcmaaDoorTie.lean); close each card by the builder's one call (the guide's Derived/Test/ToyasCard.lean, 'card_holds'). Laid BY PROGRAM, IN A SANDBOX (cutbox-door.mjs). By AI agents, Wed Nov 11 2026. No macro, syntax, notation, axiom, sorry.
-/
import Derived.Test.YtmlidfpjeomcmaaDoorRows
import GoSem.ClaimSeven
namespace Go.Proofs.YtmlidfpjeomcmaaDoor
namespace Rows

/-- THE TIED CARD OF 'fuseelaw44.CallsForms'. -/
def callsFormsCard : Claim7 := { stood := { row := callsFormsRow, standIns := [], harness := (true, "cf57be4ee8bcad9dbb57409c8ea54d631ca4ba1565fb1c2ea979dc52c5d7c56e"), looks := true }, kinds := [], alts := [], laidByText := true, laidKinds := [.handle], laidTests := true, laidLooks := .later }
def CallsFormsCardSaid : Prop := Claim7.holds Tryd.pinned (.plain (OpenSpec.ofChange callsFormsSpec)) callsFormsCard

/-- THE TIED CARD OF 'fuseelaw44.CallsBack'. -/
def callsBackCard : Claim7 := { stood := { row := callsBackRow, standIns := [], harness := (true, "cf57be4ee8bcad9dbb57409c8ea54d631ca4ba1565fb1c2ea979dc52c5d7c56e"), looks := true }, kinds := [], alts := [], laidByText := true, laidKinds := [.handle], laidTests := true, laidLooks := .later }
def CallsBackCardSaid : Prop := Claim7.holds Tryd.pinned (.plain (OpenSpec.ofChange callsBackSpec)) callsBackCard

/-- THE SECOND FORM's CARD OF 'fuseelaw44.CallsForms'. -/
def callsFormsUptoCard : Claim7 := { stood := { row := callsFormsUptoRow, standIns := [], harness := (true, "cf57be4ee8bcad9dbb57409c8ea54d631ca4ba1565fb1c2ea979dc52c5d7c56e"), looks := true }, kinds := [], alts := [], laidByText := true, laidKinds := [.handle], laidTests := true, laidLooks := .later }
def CallsFormsUptoCardSaid : Prop := Claim7.holds Tryd.pinned (.plain (OpenSpec.upto callsFormsSpec)) callsFormsUptoCard

/-- THE SECOND FORM's CARD OF 'fuseelaw44.CallsBack'. -/
def callsBackUptoCard : Claim7 := { stood := { row := callsBackUptoRow, standIns := [], harness := (true, "cf57be4ee8bcad9dbb57409c8ea54d631ca4ba1565fb1c2ea979dc52c5d7c56e"), looks := true }, kinds := [], alts := [], laidByText := true, laidKinds := [.handle], laidTests := true, laidLooks := .later }
def CallsBackUptoCardSaid : Prop := Claim7.holds Tryd.pinned (.plain (OpenSpec.upto callsBackSpec)) callsBackUptoCard
end Rows
end Go.Proofs.YtmlidfpjeomcmaaDoor
