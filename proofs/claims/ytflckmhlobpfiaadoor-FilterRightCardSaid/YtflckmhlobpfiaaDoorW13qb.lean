import Derived.Test.YtflckmhlobpfiaaDoorW01qb
import Derived.Deep.RegionHeld3
import Derived.Deep.RegionWith
import Derived.RegionTactic
import Derived.WalkLawsBesides
/-
  Layer 13: spans, one by one, and by the reference.
-/
namespace Go.Proofs.YtflckmhlobpfiaaDoor
open Go.RowKit Go.Extern.Stop Go.Stop Go.Extern
set_option linter.unusedVariables false
set_option linter.unusedSimpArgs false
def mx (a c : Int) : Int := if a < c then c else a
end Go.Proofs.YtflckmhlobpfiaaDoor
