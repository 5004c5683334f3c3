/-
 Layer 1: walks of num and of its statements.
-/
import Derived.Test.YtgondiedehjkhaaDoorNumsums
import Derived.Test.YtgondiedehjkhaaDoorMathsums
import Derived.ProofKit
import Derived.OpenShut
import Derived.WalkLawsBesides
import Derived.Outline
import Derived.Lib.Hide
import Derived.Deep.QuietTactic
import Derived.BigQuiet
namespace Go.Proofs.YtgondiedehjkhaaDoor
open Go.RowKit Go.Extern.Stop Go.Stop Go.Extern
set_option linter.unusedVariables false
abbrev errV (n : Int) : Value := .iface 142 (.int .i64 n)
theorem retT2 {u0 u1 v0 v1 : Value} (h0 : u0 = v0) (h1 : u1 = v1) : Ending.returned (.tuple #[u0, u1]) = Ending.returned (.tuple #[v0, v1]) := by rw [h0, h1]
theorem intV {k : IntKind} {a b : Int} (h : a = b) : Value.int k a = Value.int k b := by rw [h]
end Go.Proofs.YtgondiedehjkhaaDoor
