/-
 Numbers of digits: division, bit by bit.
-/
import Derived.Test.YtjcgmdgkdkfdpaaDoorW02jqnh
import Derived.Test.YtjcgmdgkdkfdpaaDoorBigmqnh
import Derived.Deep.Cut
import Derived.Deep.CutRange
import Derived.Deep.RegionWith
import Derived.RegionTactic
namespace Go.Proofs.YtjcgmdgkdkfdpaaDoor
open Go.RowKit Go.Extern.Stop Go.Stop Go.Extern
set_option linter.unusedVariables false
set_option linter.unusedSimpArgs false
def DRows (w : World) (s : Bool) (X D : Int) (b : Bool) (q r : Int) (wr : World) : Prop :=
 wr.heap[w.heap.size]? = some (.cells (fB s (dg X)) 29 (0, 0)) ∧ wr.heap[w.heap.size + 1]? = some (.cells (fB false (dg D)) 29 (0, 0)) ∧ wr.heap[w.heap.size + 1 + 1]? = some (.cells Z9 29 (0, 0)) ∧ wr.heap[w.heap.size + 1 + 1 + 1]? = some (.cells Z9 29 (0, 0)) ∧ wr.heap[w.heap.size + 1 + 1 + 1 + 1]? = some (.cells (fB b (dg q)) 29 (0, 0)) ∧ wr.heap[w.heap.size + 1 + 1 + 1 + 1 + 1]? = some (.cells (fB false (dg r)) 29 (0, 0)) ∧ Below w.heap.size w wr
theorem DRows.step {w : World} {s : Bool} {X D : Int} {b : Bool} {q r : Int} {wr w' : World} (h : DRows w s X D b q r wr) (hb : Below wr.heap.size wr w') : DRows w s X D b q r w' := by
 obtain ⟨h0, h1, h2, h3, h4, h5, hB⟩ := h
 have z5 : w.heap.size + 1 + 1 + 1 + 1 + 1 < wr.heap.size := (Array.getElem?_eq_some_iff.1 h5).1
 exact ⟨(hb.block _ (by omega)).trans h0, (hb.block _ (by omega)).trans h1, (hb.block _ (by omega)).trans h2, (hb.block _ (by omega)).trans h3, (hb.block _ (by omega)).trans h4, (hb.block _ (by omega)).trans h5, hB.trans (hb.mono (by omega))⟩
theorem DRows.size {w : World} {s : Bool} {X D : Int} {b : Bool} {q r : Int} {wr : World} (h : DRows w s X D b q r wr) : w.heap.size + 1 + 1 + 1 + 1 + 1 < wr.heap.size := (Array.getElem?_eq_some_iff.1 h.2.2.2.2.2.1).1
end Go.Proofs.YtjcgmdgkdkfdpaaDoor
