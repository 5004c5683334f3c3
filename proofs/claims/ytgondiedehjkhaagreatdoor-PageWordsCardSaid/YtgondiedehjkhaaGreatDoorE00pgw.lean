/-
 Numbers and their wraps, sums and bounds: plain functions and what they are.
-/
import Derived.Test.YtgondiedehjkhaaGreatDoorMathpgw
import Derived.Test.YtgondiedehjkhaaGreatDoorNumpgw
import Derived.IntWalk
namespace Go.Proofs.YtgondiedehjkhaaGreatDoor
open Go.RowKit Go.Extern.Stop Go.Stop Go.Extern
set_option linter.unusedVariables false
set_option linter.unusedSimpArgs false
theorem wr_i64 (n : Int) : (IntKind.wrap .i64 n = n ∨ n < -9223372036854775808 ∨ 9223372036854775807 < n) ∧ -9223372036854775808 ≤ IntKind.wrap .i64 n ∧ IntKind.wrap .i64 n ≤ 9223372036854775807 := by
 rw [IntKind.wrap_i64]; omega
theorem wr_u64 (n : Int) : (IntKind.wrap .u64 n = n ∨ n < 0 ∨ 18446744073709551615 < n) ∧ 0 ≤ IntKind.wrap .u64 n ∧ IntKind.wrap .u64 n ≤ 18446744073709551615 := by
 rw [IntKind.wrap_u64]; omega
theorem wr_u32 (n : Int) : (IntKind.wrap .u32 n = n ∨ n < 0 ∨ 4294967295 < n) ∧ 0 ≤ IntKind.wrap .u32 n ∧ IntKind.wrap .u32 n ≤ 4294967295 := by
 rw [IntKind.wrap_u32]; omega
def svE (n : Int) : Int := if -9223372036854775808 ≤ n ∧ n ≤ 9223372036854775807 then n else 0
def erE (n : Int) : Int := if -9223372036854775808 ≤ n ∧ n ≤ 9223372036854775807 then 0 else 2
def soE (n : Int) : Int := if 9223372036854775807 < n then 1 else if n < -9223372036854775808 then -1 else 0
def satE (n : Int) : Int := if 9223372036854775807 < n then 9223372036854775807 else if n < -9223372036854775808 then -9223372036854775808 else n
def szE (a : Int) : Int := if a < 0 then satE (-a) else a
theorem svE_spec (n : Int) : (svE n = n ∧ erE n = 0 ∧ soE n = 0 ∧ -9223372036854775808 ≤ n ∧ n ≤ 9223372036854775807) ∨ (svE n = 0 ∧ erE n = 2 ∧ soE n = 1 ∧ 9223372036854775807 < n) ∨ (svE n = 0 ∧ erE n = 2 ∧ soE n = -1 ∧ n < -9223372036854775808) := by unfold svE erE soE; split <;> (try split) <;> (try split) <;> omega
theorem satE_spec (n : Int) : (satE n = 9223372036854775807 ∧ 9223372036854775807 < n) ∨ (satE n = -9223372036854775808 ∧ n < -9223372036854775808) ∨ (satE n = n ∧ -9223372036854775808 ≤ n ∧ n ≤ 9223372036854775807) := by unfold satE; split <;> (try split) <;> omega
theorem szE_spec (a : Int) (ha : InR a) : (szE a = -a ∧ a < 0 ∧ -9223372036854775808 < a) ∨ (szE a = 9223372036854775807 ∧ a = -9223372036854775808) ∨ (szE a = a ∧ 0 ≤ a) := by unfold szE satE; split <;> (try split) <;> (try split) <;> omega
end Go.Proofs.YtgondiedehjkhaaGreatDoor
