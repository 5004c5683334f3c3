/-
 Layer 5: bytes with numbers and texts behind.
-/
import Derived.Test.YtgondiedehjkhaaGreatDoorBytpgw
import Derived.Test.YtgondiedehjkhaaGreatDoorNumpgw
import Derived.Test.YtgondiedehjkhaaGreatDoorMathpgw
import Derived.ProofKit
import Derived.OpenShut
import Derived.WalkLawsBesides
import Derived.Outline
import Derived.Lib.Hide
import Derived.Deep.QuietTactic
import Derived.BigQuiet
import Derived.LoopTactic
import Derived.RangeFuncBox
import Derived.Lib.AppendStr
namespace Go.Proofs.YtgondiedehjkhaaGreatDoor
open Go.RowKit Go.Extern.Stop Go.Stop Go.Extern
set_option linter.unusedVariables false
set_option linter.unusedSimpArgs false
theorem Rd.one (w : World) (x : UInt8) (v : Value) (hv : v = bV x) : Rd (w.alloc (.cells #[v] 5)) (some ⟨w.heap.size, 0, none⟩) [x] := by
 subst hv
 refine ⟨(fun e => by cases e), fun i hi => ⟨_, rfl, ?_, ?_⟩⟩
 · rw [add_block]; simp
 · obtain rfl : i = 0 := by simpa using hi
   simp [Addr.add]
end Go.Proofs.YtgondiedehjkhaaGreatDoor
