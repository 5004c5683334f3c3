/-
 A slice among a law's arguments, opened to what it holds.
-/
import Derived.Test.YtikfgnmljpjnbaaDoorSycpob
import Derived.Test.YtikfgnmljpjnbaaDoorSlppob
import Derived.SizedLaws
namespace Go.Proofs.YtikfgnmljpjnbaaDoor
open Go Go.ChangeShapes Go.WideShapes Go.RowKit Go.Deep Go.Proofs.YtikfgnmljpjnbaaDoor.Sy
set_option linter.unusedVariables false
section
variable {H : Type} {enc : TypeId × Value → H} {P : Program} {w : World} {base : Nat} {spare : Nat → Bool} {held : Bool}
def inK (v : Value) : Prop := ∀ k n, v = .int k n → (Lit.int k n).wf = true
end
end Go.Proofs.YtikfgnmljpjnbaaDoor
