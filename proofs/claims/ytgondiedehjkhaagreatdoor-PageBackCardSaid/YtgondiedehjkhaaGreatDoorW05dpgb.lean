/-
 Layer 5: a reader of fields takes bytes.
-/
import Derived.Test.YtgondiedehjkhaaGreatDoorW05cpgb
namespace Go.Proofs.YtgondiedehjkhaaGreatDoor
open Go.RowKit Go.Extern.Stop Go.Stop Go.Extern
set_option linter.unusedVariables false
set_option linter.unusedSimpArgs false
theorem row_free {w : World} {g : Nat} {cs : Array Value} {T : TypeId} (h : w.heap[g]? = some (.cells cs T (0, 0))) (i : Nat) : w.frozen? ⟨g, i, none⟩ = false := by
 simp [World.frozen?, h]
end Go.Proofs.YtgondiedehjkhaaGreatDoor
