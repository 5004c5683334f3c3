/-
 Numbers of digits: division, bit by bit.
-/
import Derived.Test.YtgondiedehjkhaaDoorBig2sums
import Derived.Deep.Cut
import Derived.Deep.CutRange
import Derived.Deep.RegionWith
import Derived.RegionTactic
namespace Go.Proofs.YtgondiedehjkhaaDoor
open Go.RowKit Go.Extern.Stop Go.Stop Go.Extern
set_option linter.unusedVariables false
set_option linter.unusedSimpArgs false
def DRows (w : World) (s : Bool) (X D : Int) (b : Bool) (q r : Int) (wr : World) : Prop :=
 wr.heap[w.heap.size]? = some (.cells (fB s (dg X)) 29 (0, 0)) ∧ wr.heap[w.heap.size + 1]? = some (.cells (fB false (dg D)) 29 (0, 0)) ∧ wr.heap[w.heap.size + 1 + 1]? = some (.cells Z9 29 (0, 0)) ∧ wr.heap[w.heap.size + 1 + 1 + 1]? = some (.cells Z9 29 (0, 0)) ∧ wr.heap[w.heap.size + 1 + 1 + 1 + 1]? = some (.cells (fB b (dg q)) 29 (0, 0)) ∧ wr.heap[w.heap.size + 1 + 1 + 1 + 1 + 1]? = some (.cells (fB false (dg r)) 29 (0, 0)) ∧ Below w.heap.size w wr
theorem DRows.step {w : World} {s : Bool} {X D : Int} {b : Bool} {q r : Int} {wr w' : World} (h : DRows w s X D b q r wr) (hb : Below wr.heap.size wr w') : DRows w s X D b q r w' := by
 obtain ⟨h0, h1, h2, h3, h4, h5, hB⟩ := h
 have z5 : w.heap.size + 1 + 1 + 1 + 1 + 1 < wr.heap.size := (Array.getElem?_eq_some_iff.1 h5).1
 exact ⟨(hb.block _ (by omega)).trans h0, (hb.block _ (by omega)).trans h1, (hb.block _ (by omega)).trans h2, (hb.block _ (by omega)).trans h3, (hb.block _ (by omega)).trans h4, (hb.block _ (by omega)).trans h5, hB.trans (hb.mono (by omega))⟩
theorem DRows.size {w : World} {s : Bool} {X D : Int} {b : Bool} {q r : Int} {wr : World} (h : DRows w s X D b q r wr) : w.heap.size + 1 + 1 + 1 + 1 + 1 < wr.heap.size := (Array.getElem?_eq_some_iff.1 h.2.2.2.2.2.1).1
theorem DRows.rc {w : World} {s : Bool} {X D : Int} {b : Bool} {q r : Int} {wr : World} (h : DRows w s X D b q r wr) : wr.cell? ⟨w.heap.size + 1 + 1 + 1 + 1 + 1, 1, none⟩ = some (.int .u64 (dg r 0)) ∧ wr.cell? ⟨w.heap.size + 1 + 1 + 1 + 1 + 1, 2, none⟩ = some (.int .u64 (dg r 1)) ∧ wr.cell? ⟨w.heap.size + 1 + 1 + 1 + 1 + 1, 3, none⟩ = some (.int .u64 (dg r 2)) ∧ wr.cell? ⟨w.heap.size + 1 + 1 + 1 + 1 + 1, 4, none⟩ = some (.int .u64 (dg r 3)) ∧ wr.cell? ⟨w.heap.size + 1 + 1 + 1 + 1 + 1, 5, none⟩ = some (.int .u64 (dg r 4)) ∧ wr.cell? ⟨w.heap.size + 1 + 1 + 1 + 1 + 1, 6, none⟩ = some (.int .u64 (dg r 5)) ∧ wr.cell? ⟨w.heap.size + 1 + 1 + 1 + 1 + 1, 7, none⟩ = some (.int .u64 (dg r 6)) ∧ wr.cell? ⟨w.heap.size + 1 + 1 + 1 + 1 + 1, 8, none⟩ = some (.int .u64 (dg r 7)) := by
 have hR := h.2.2.2.2.2.1
 exact ⟨(cell_of_row _ _ 1 _ _ _ hR).trans rfl, (cell_of_row _ _ 2 _ _ _ hR).trans rfl, (cell_of_row _ _ 3 _ _ _ hR).trans rfl, (cell_of_row _ _ 4 _ _ _ hR).trans rfl, (cell_of_row _ _ 5 _ _ _ hR).trans rfl, (cell_of_row _ _ 6 _ _ _ hR).trans rfl, (cell_of_row _ _ 7 _ _ _ hR).trans rfl, (cell_of_row _ _ 8 _ _ _ hR).trans rfl⟩
theorem DRows.rf {w : World} {s : Bool} {X D : Int} {b : Bool} {q r : Int} {wr : World} (h : DRows w s X D b q r wr) : wr.frozen? ⟨w.heap.size + 1 + 1 + 1 + 1 + 1, 1, none⟩ = false ∧ wr.frozen? ⟨w.heap.size + 1 + 1 + 1 + 1 + 1, 2, none⟩ = false ∧ wr.frozen? ⟨w.heap.size + 1 + 1 + 1 + 1 + 1, 3, none⟩ = false ∧ wr.frozen? ⟨w.heap.size + 1 + 1 + 1 + 1 + 1, 4, none⟩ = false ∧ wr.frozen? ⟨w.heap.size + 1 + 1 + 1 + 1 + 1, 5, none⟩ = false ∧ wr.frozen? ⟨w.heap.size + 1 + 1 + 1 + 1 + 1, 6, none⟩ = false ∧ wr.frozen? ⟨w.heap.size + 1 + 1 + 1 + 1 + 1, 7, none⟩ = false ∧ wr.frozen? ⟨w.heap.size + 1 + 1 + 1 + 1 + 1, 8, none⟩ = false := by
 have hR := h.2.2.2.2.2.1
 exact ⟨row_free hR 1, row_free hR 2, row_free hR 3, row_free hR 4, row_free hR 5, row_free hR 6, row_free hR 7, row_free hR 8⟩
end Go.Proofs.YtgondiedehjkhaaDoor
