/-
 Numbers of digits: division of a number below 0.
-/
import Derived.Test.YtgondiedehjkhaaDoorW02osums
import Derived.Test.YtgondiedehjkhaaDoorBig2sums
import Derived.Deep.Cut
import Derived.Deep.CutRange
import Derived.Deep.RegionWith
import Derived.StillTailTactics
namespace Go.Proofs.YtgondiedehjkhaaDoor
open Go.RowKit Go.Extern.Stop Go.Stop Go.Extern
set_option linter.unusedVariables false
set_option linter.unusedSimpArgs false
theorem DRows.drew {w : World} {s : Bool} {X D : Int} {b : Bool} {q r : Int} {wr : World} (h : DRows w s X D b q r wr) : DRows w s X D b q r wr.drew := by
 obtain ⟨h0, h1, h2, h3, h4, h5, hB⟩ := h
 exact ⟨h0, h1, h2, h3, h4, h5, hB.drew⟩
end Go.Proofs.YtgondiedehjkhaaDoor
