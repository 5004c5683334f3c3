/-
 Layer 5: a reader of fields takes bytes.
-/
import Derived.Test.YtikfgnmljpjnbaaDoorW05cbbk
namespace Go.Proofs.YtikfgnmljpjnbaaDoor
open Go.RowKit Go.Extern.Stop Go.Stop Go.Extern
set_option linter.unusedVariables false
set_option linter.unusedSimpArgs false
theorem row_freed {w : World} {g : Nat} {cs : Array Value} {T : TypeId} (h : w.heap[g]? = some (.cells cs T (0, 0))) (i : Nat) : w.frozen? ⟨g, i, none⟩ = false := by
 simp [World.frozen?, h]
end Go.Proofs.YtikfgnmljpjnbaaDoor
