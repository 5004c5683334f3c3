/-
  DERIVED. GIVEN WITH THE SEED: THE CARDS: each row of YtgondiedehjkhaaDoorRows.lean that lists a variable, with what it lists TIED to the program's text (the seventh form; the later family's looks); each row that meets fmt, with fmt's text TOLD by the authors' own Lean function (tested against real Go, not proved from fmt's source: count such statements apart). THE CARD IS WHAT COUNTS. Prove the row's statement (the work); the ties are given (YtgondiedehjkhaaDoorTie.lean); close each card by the builder's one call (the guide's Derived/Test/ToyasCard.lean, 'card_holds'). Laid BY PROGRAM, IN A SANDBOX (cutbox-door.mjs). By AI agents, Wed Nov 11 2026. No macro, syntax, notation, axiom, sorry.
-/
import Derived.Test.YtgondiedehjkhaaDoorRows
import GoSem.ClaimSeven
namespace Go.Proofs.YtgondiedehjkhaaDoor
namespace Rows

/-- THE TIED CARD OF 'fuseelaw02.WideSums'. -/
def wideSumsCard : Claim7 := { stood := { row := wideSumsRow, standIns := [], harness := (true, "b3ee8a4733fa4cd649c55b0b9e28fbb03f02af4deb939da1931a91176f6c664a"), looks := true }, kinds := [], alts := [], laidByText := true, laidKinds := [.handle], laidTests := true, laidLooks := .later }
def WideSumsCardSaid : Prop := Claim7.holds Tryd.pinned (.plain (OpenSpec.ofChange wideSumsSpec)) wideSumsCard

/-- THE TIED CARD OF 'fuseelaw06.BlobBack'. -/
def blobBackCard : Claim7 := { stood := { row := blobBackRow, standIns := [], harness := (true, "b3ee8a4733fa4cd649c55b0b9e28fbb03f02af4deb939da1931a91176f6c664a"), looks := true }, kinds := [], alts := [], laidByText := true, laidKinds := [.handle], laidTests := true, laidLooks := .later }
def BlobBackCardSaid : Prop := Claim7.holds Tryd.pinned (.plain (OpenSpec.ofChange blobBackSpec)) blobBackCard

/-- THE TIED CARD OF 'fuseelaw28.PolicyForms'. -/
def policyFormsCard : Claim7 := { stood := { row := policyFormsRow, standIns := [], harness := (true, "b3ee8a4733fa4cd649c55b0b9e28fbb03f02af4deb939da1931a91176f6c664a"), looks := true }, kinds := [], alts := [], laidByText := true, laidKinds := [.handle], laidTests := true, laidLooks := .later }
def PolicyFormsCardSaid : Prop := Claim7.holds Tryd.pinned (.plain (OpenSpec.ofChange policyFormsSpec)) policyFormsCard

/-- THE TIED CARD OF 'fuseelaw28.PolicyBack'. -/
def policyBackCard : Claim7 := { stood := { row := policyBackRow, standIns := [], harness := (true, "b3ee8a4733fa4cd649c55b0b9e28fbb03f02af4deb939da1931a91176f6c664a"), looks := true }, kinds := [], alts := [], laidByText := true, laidKinds := [.handle], laidTests := true, laidLooks := .later }
def PolicyBackCardSaid : Prop := Claim7.holds Tryd.pinned (.plain (OpenSpec.ofChange policyBackSpec)) policyBackCard

/-- THE TIED CARD OF 'fuseelaw32.NetCounts'. -/
def netCountsCard : Claim7 := { stood := { row := netCountsRow, standIns := [], harness := (true, "b3ee8a4733fa4cd649c55b0b9e28fbb03f02af4deb939da1931a91176f6c664a"), looks := true }, kinds := [], alts := [], laidByText := true, laidKinds := [.handle], laidTests := true, laidLooks := .later }
def NetCountsCardSaid : Prop := Claim7.holds Tryd.pinned (.plain (OpenSpec.ofChange netCountsSpec)) netCountsCard

/-- THE TIED CARD OF 'fuseelaw41.NtpForms'. -/
def ntpFormsCard : Claim7 := { stood := { row := ntpFormsRow, standIns := [], harness := (true, "b3ee8a4733fa4cd649c55b0b9e28fbb03f02af4deb939da1931a91176f6c664a"), looks := true }, kinds := [], alts := [], laidByText := true, laidKinds := [.handle], laidTests := true, laidLooks := .later }
def NtpFormsCardSaid : Prop := Claim7.holds Tryd.pinned (.plain (OpenSpec.ofChange ntpFormsSpec)) ntpFormsCard

/-- THE TIED CARD OF 'fuseelaw41.NtpAsks'. -/
def ntpAsksCard : Claim7 := { stood := { row := ntpAsksRow, standIns := [], harness := (true, "b3ee8a4733fa4cd649c55b0b9e28fbb03f02af4deb939da1931a91176f6c664a"), looks := true }, kinds := [], alts := [], laidByText := true, laidKinds := [.handle], laidTests := true, laidLooks := .later }
def NtpAsksCardSaid : Prop := Claim7.holds Tryd.pinned (.plain (OpenSpec.ofChange ntpAsksSpec)) ntpAsksCard

/-- THE SECOND FORM's CARD OF 'fuseelaw02.WideSums'. -/
def wideSumsUptoCard : Claim7 := { stood := { row := wideSumsUptoRow, standIns := [], harness := (true, "b3ee8a4733fa4cd649c55b0b9e28fbb03f02af4deb939da1931a91176f6c664a"), looks := true }, kinds := [], alts := [], laidByText := true, laidKinds := [.handle], laidTests := true, laidLooks := .later }
def WideSumsUptoCardSaid : Prop := Claim7.holds Tryd.pinned (.plain (OpenSpec.upto wideSumsSpec)) wideSumsUptoCard

/-- THE SECOND FORM's CARD OF 'fuseelaw06.BlobBack'. -/
def blobBackUptoCard : Claim7 := { stood := { row := blobBackUptoRow, standIns := [], harness := (true, "b3ee8a4733fa4cd649c55b0b9e28fbb03f02af4deb939da1931a91176f6c664a"), looks := true }, kinds := [], alts := [], laidByText := true, laidKinds := [.handle], laidTests := true, laidLooks := .later }
def BlobBackUptoCardSaid : Prop := Claim7.holds Tryd.pinned (.plain (OpenSpec.upto blobBackSpec)) blobBackUptoCard

/-- THE SECOND FORM's CARD OF 'fuseelaw28.PolicyForms'. -/
def policyFormsUptoCard : Claim7 := { stood := { row := policyFormsUptoRow, standIns := [], harness := (true, "b3ee8a4733fa4cd649c55b0b9e28fbb03f02af4deb939da1931a91176f6c664a"), looks := true }, kinds := [], alts := [], laidByText := true, laidKinds := [.handle], laidTests := true, laidLooks := .later }
def PolicyFormsUptoCardSaid : Prop := Claim7.holds Tryd.pinned (.plain (OpenSpec.upto policyFormsSpec)) policyFormsUptoCard

/-- THE SECOND FORM's CARD OF 'fuseelaw28.PolicyBack'. -/
def policyBackUptoCard : Claim7 := { stood := { row := policyBackUptoRow, standIns := [], harness := (true, "b3ee8a4733fa4cd649c55b0b9e28fbb03f02af4deb939da1931a91176f6c664a"), looks := true }, kinds := [], alts := [], laidByText := true, laidKinds := [.handle], laidTests := true, laidLooks := .later }
def PolicyBackUptoCardSaid : Prop := Claim7.holds Tryd.pinned (.plain (OpenSpec.upto policyBackSpec)) policyBackUptoCard

/-- THE SECOND FORM's CARD OF 'fuseelaw32.NetCounts'. -/
def netCountsUptoCard : Claim7 := { stood := { row := netCountsUptoRow, standIns := [], harness := (true, "b3ee8a4733fa4cd649c55b0b9e28fbb03f02af4deb939da1931a91176f6c664a"), looks := true }, kinds := [], alts := [], laidByText := true, laidKinds := [.handle], laidTests := true, laidLooks := .later }
def NetCountsUptoCardSaid : Prop := Claim7.holds Tryd.pinned (.plain (OpenSpec.upto netCountsSpec)) netCountsUptoCard

/-- THE SECOND FORM's CARD OF 'fuseelaw41.NtpForms'. -/
def ntpFormsUptoCard : Claim7 := { stood := { row := ntpFormsUptoRow, standIns := [], harness := (true, "b3ee8a4733fa4cd649c55b0b9e28fbb03f02af4deb939da1931a91176f6c664a"), looks := true }, kinds := [], alts := [], laidByText := true, laidKinds := [.handle], laidTests := true, laidLooks := .later }
def NtpFormsUptoCardSaid : Prop := Claim7.holds Tryd.pinned (.plain (OpenSpec.upto ntpFormsSpec)) ntpFormsUptoCard

/-- THE SECOND FORM's CARD OF 'fuseelaw41.NtpAsks'. -/
def ntpAsksUptoCard : Claim7 := { stood := { row := ntpAsksUptoRow, standIns := [], harness := (true, "b3ee8a4733fa4cd649c55b0b9e28fbb03f02af4deb939da1931a91176f6c664a"), looks := true }, kinds := [], alts := [], laidByText := true, laidKinds := [.handle], laidTests := true, laidLooks := .later }
def NtpAsksUptoCardSaid : Prop := Claim7.holds Tryd.pinned (.plain (OpenSpec.upto ntpAsksSpec)) ntpAsksUptoCard
end Rows
end Go.Proofs.YtgondiedehjkhaaDoor
