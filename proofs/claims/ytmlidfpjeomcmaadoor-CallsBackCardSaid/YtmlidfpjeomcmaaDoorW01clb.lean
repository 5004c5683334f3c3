/-
 Layer 1: walks of num and of its statements.
-/
import Derived.Test.YtmlidfpjeomcmaaDoorNumclb
import Derived.IntWalk
import Derived.OpenShut
import Derived.ProofKit
import Derived.WalkLawsBesides
import Derived.Outline
import Derived.Lib.Hide
import Derived.Deep.QuietTactic
import Derived.BigQuiet
namespace Go.Proofs.YtmlidfpjeomcmaaDoor
open Go.RowKit Go.Extern.Stop Go.Stop Go.Extern
set_option linter.unusedVariables false
abbrev errV (n : Int) : Value := .iface 61 (.int .i64 n)
end Go.Proofs.YtmlidfpjeomcmaaDoor
