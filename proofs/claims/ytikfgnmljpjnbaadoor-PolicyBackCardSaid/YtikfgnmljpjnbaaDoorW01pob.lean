/-
 Layer 1: walks of num and of its statements.
-/
import Derived.Test.YtikfgnmljpjnbaaDoorNumpob
import Derived.Test.YtikfgnmljpjnbaaDoorMathpob
import Derived.ProofKit
import Derived.OpenShut
import Derived.WalkLawsBesides
import Derived.Outline
import Derived.Lib.Hide
import Derived.Deep.QuietTactic
import Derived.BigQuiet
namespace Go.Proofs.YtikfgnmljpjnbaaDoor
open Go.RowKit Go.Extern.Stop Go.Stop Go.Extern
set_option linter.unusedVariables false
abbrev errV (n : Int) : Value := .iface 101 (.int .i64 n)
end Go.Proofs.YtikfgnmljpjnbaaDoor
