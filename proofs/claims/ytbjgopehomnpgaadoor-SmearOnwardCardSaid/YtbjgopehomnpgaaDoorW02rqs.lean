/-
  Numbers of digits: division of a number below 0.
-/
import Derived.Test.YtbjgopehomnpgaaDoorW02oqs
import Derived.Test.YtbjgopehomnpgaaDoorW02jqs
import Derived.Test.YtbjgopehomnpgaaDoorBigmqs
import Derived.Deep.Cut
import Derived.Deep.CutRange
import Derived.Deep.RegionWith
import Derived.StillTailTactics
namespace Go.Proofs.YtbjgopehomnpgaaDoor
open Go.RowKit Go.Extern.Stop Go.Stop Go.Extern
set_option linter.unusedVariables false
set_option linter.unusedSimpArgs false
theorem DRows.drew {w : World} {s : Bool} {X D : Int} {b : Bool} {q r : Int} {wr : World} (h : DRows w s X D b q r wr) : DRows w s X D b q r wr.drew := by
  obtain ⟨h0, h1, h2, h3, h4, h5, hB⟩ := h
  exact ⟨h0, h1, h2, h3, h4, h5, hB.drew⟩
theorem DRows.q9 {w : World} {s : Bool} {X D : Int} {b : Bool} {q r : Int} {wr : World} (h : DRows w s X D b q r wr) : wr.cell? ⟨w.heap.size + 1 + 1 + 1 + 1, 0, none⟩ = some (.bool b) ∧ wr.frozen? ⟨w.heap.size + 1 + 1 + 1 + 1, 0, none⟩ = false := by
  have hR := h.2.2.2.2.1
  exact ⟨(cell_of_row _ _ 0 _ _ _ hR).trans rfl, row_free hR 0⟩
end Go.Proofs.YtbjgopehomnpgaaDoor
