/-
  Numbers of digits: division of a number below 0.
-/
import Derived.Test.YtjhjgfnodhbacaaDoorW02ohb
import Derived.Test.YtjhjgfnodhbacaaDoorW02jhb
import Derived.Test.YtjhjgfnodhbacaaDoorBigmhb
import Derived.Deep.Cut
import Derived.Deep.CutRange
import Derived.Deep.RegionWith
import Derived.StillTailTactics
namespace Go.Proofs.YtjhjgfnodhbacaaDoor
open Go.RowKit Go.Extern.Stop Go.Stop Go.Extern
set_option linter.unusedVariables false
set_option linter.unusedSimpArgs false
theorem DRows.drew {w : World} {s : Bool} {X D : Int} {b : Bool} {q r : Int} {wr : World} (h : DRows w s X D b q r wr) : DRows w s X D b q r wr.drew := by
  obtain ⟨h0, h1, h2, h3, h4, h5, hB⟩ := h
  exact ⟨h0, h1, h2, h3, h4, h5, hB.drew⟩
theorem DRows.x9 {w : World} {s : Bool} {X D : Int} {b : Bool} {q r : Int} {wr : World} (h : DRows w s X D b q r wr) : wr.cell? ⟨w.heap.size, 0, none⟩ = some (.bool s) := by
  have hR := h.1
  exact (cell_of_row _ _ 0 _ _ _ hR).trans rfl
end Go.Proofs.YtjhjgfnodhbacaaDoor
