/-
 Plain arithmetic behind the walks: wrapped products, quotients.
-/
import Derived.IntWalk
import Derived.OpenShut
namespace Go.Proofs.YtikfgnmljpjnbaaDoor
open Go.RowKit
set_option linter.unusedVariables false

abbrev InR (n : Int) : Prop := -9223372036854775808 ≤ n ∧ n ≤ 9223372036854775807

end Go.Proofs.YtikfgnmljpjnbaaDoor
