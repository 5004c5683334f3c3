/-
 Layer 5: fields behind bytes.
-/
import Derived.Test.YtgondiedehjkhaaGreatDoorW05pgb
namespace Go.Proofs.YtgondiedehjkhaaGreatDoor
open Go.RowKit Go.Extern.Stop Go.Stop Go.Extern
set_option linter.unusedVariables false
set_option linter.unusedSimpArgs false
def u64of (x : Int) : Nat := (x % 18446744073709551616).toNat
theorem u64of_wrap (x : Int) : IntKind.u64.wrap x = (u64of x : Int) := by
 rw [show IntKind.u64.wrap x = x % 18446744073709551616 by simp [IntKind.wrap, IntKind.bits, IntKind.signed]]
 unfold u64of; omega
end Go.Proofs.YtgondiedehjkhaaGreatDoor
