/-
  DERIVED. GIVEN WITH THE SEED: THE CARDS: each row of YtjcgmdgkdkfdpaaGreatDoorRows.lean that lists a variable, with what it lists TIED to the program's text (the seventh form; the later family's looks); each row that meets fmt, with fmt's text TOLD by the authors' own Lean function (tested against real Go, not proved from fmt's source: count such statements apart). THE CARD IS WHAT COUNTS. Prove the row's statement (the work); the ties are given (YtjcgmdgkdkfdpaaGreatDoorTie.lean); close each card by the builder's one call (the guide's Derived/Test/ToyasCard.lean, 'card_holds'). Laid BY PROGRAM, IN A SANDBOX (cutbox-door.mjs). By AI agents, Wed Nov 11 2026. No macro, syntax, notation, axiom, sorry.
-/
import Derived.Test.YtjcgmdgkdkfdpaaGreatDoorRows
import GoSem.ClaimSeven
namespace Go.Proofs.YtjcgmdgkdkfdpaaGreatDoor
namespace Rows

/-- THE TIED CARD OF 'fuseelaw18.HostTells'. -/
def hostTellsCard : Claim7 := { stood := { row := hostTellsRow, standIns := [], harness := (true, "452c127153ea2963d2c0d4dc18819dcdb3f42e3f231ab1aa03a151a68b652a37"), looks := true }, kinds := [], alts := [], laidByText := true, laidKinds := [.handle], laidTests := true, laidLooks := .later }
def HostTellsCardSaid : Prop := Claim7.holds Tryz.pinned (.plain (OpenSpec.ofChange hostTellsSpec)) hostTellsCard

/-- THE TIED CARD OF 'fuseelaw19.PageWords'. -/
def pageWordsCard : Claim7 := { stood := { row := pageWordsRow, standIns := [], harness := (true, "452c127153ea2963d2c0d4dc18819dcdb3f42e3f231ab1aa03a151a68b652a37"), looks := true }, kinds := [], alts := [], laidByText := true, laidKinds := [.handle], laidTests := true, laidLooks := .later }
def PageWordsCardSaid : Prop := Claim7.holds Tryz.pinned (.plain (OpenSpec.ofChange pageWordsSpec)) pageWordsCard

/-- THE TIED CARD OF 'fuseelaw19.PageBack'. -/
def pageBackCard : Claim7 := { stood := { row := pageBackRow, standIns := [], harness := (true, "452c127153ea2963d2c0d4dc18819dcdb3f42e3f231ab1aa03a151a68b652a37"), looks := true }, kinds := [], alts := [], laidByText := true, laidKinds := [.handle], laidTests := true, laidLooks := .later }
def PageBackCardSaid : Prop := Claim7.holds Tryz.pinned (.plain (OpenSpec.ofChange pageBackSpec)) pageBackCard

/-- THE SECOND FORM's CARD OF 'fuseelaw18.HostTells'. -/
def hostTellsUptoCard : Claim7 := { stood := { row := hostTellsUptoRow, standIns := [], harness := (true, "452c127153ea2963d2c0d4dc18819dcdb3f42e3f231ab1aa03a151a68b652a37"), looks := true }, kinds := [], alts := [], laidByText := true, laidKinds := [.handle], laidTests := true, laidLooks := .later }
def HostTellsUptoCardSaid : Prop := Claim7.holds Tryz.pinned (.plain (OpenSpec.upto hostTellsSpec)) hostTellsUptoCard

/-- THE SECOND FORM's CARD OF 'fuseelaw19.PageWords'. -/
def pageWordsUptoCard : Claim7 := { stood := { row := pageWordsUptoRow, standIns := [], harness := (true, "452c127153ea2963d2c0d4dc18819dcdb3f42e3f231ab1aa03a151a68b652a37"), looks := true }, kinds := [], alts := [], laidByText := true, laidKinds := [.handle], laidTests := true, laidLooks := .later }
def PageWordsUptoCardSaid : Prop := Claim7.holds Tryz.pinned (.plain (OpenSpec.upto pageWordsSpec)) pageWordsUptoCard

/-- THE SECOND FORM's CARD OF 'fuseelaw19.PageBack'. -/
def pageBackUptoCard : Claim7 := { stood := { row := pageBackUptoRow, standIns := [], harness := (true, "452c127153ea2963d2c0d4dc18819dcdb3f42e3f231ab1aa03a151a68b652a37"), looks := true }, kinds := [], alts := [], laidByText := true, laidKinds := [.handle], laidTests := true, laidLooks := .later }
def PageBackUptoCardSaid : Prop := Claim7.holds Tryz.pinned (.plain (OpenSpec.upto pageBackSpec)) pageBackUptoCard
end Rows
end Go.Proofs.YtjcgmdgkdkfdpaaGreatDoor
