/-
  math.Floor, at a number.
-/
import Derived.Test.YtjhjgfnodhbacaaDoorNumhc
import Derived.ProofKit
import Derived.WalkLawsBesides
import GoSem.Core.Float
import Derived.Laws.FloatArith
import Derived.Laws.ComplexArith
import GoSem.Extern.MathFloor
namespace Go.Proofs.YtjhjgfnodhbacaaDoor
open Go.RowKit Go.Extern.Stop Go.Stop Go.Extern
set_option linter.unusedVariables false
def flrV (b : Nat) : Nat := FloatKind.f64.encode ((FloatKind.f64.decode b).integral .down)
end Go.Proofs.YtjhjgfnodhbacaaDoor
