/-
 Numbers and their wraps, sums and bounds: plain functions and what they are.
-/
import Derived.Test.YtikfgnmljpjnbaaDoorMathpob
import Derived.Test.YtikfgnmljpjnbaaDoorNumpob
import Derived.IntWalk
namespace Go.Proofs.YtikfgnmljpjnbaaDoor
open Go.RowKit Go.Extern.Stop Go.Stop Go.Extern
set_option linter.unusedVariables false
set_option linter.unusedSimpArgs false
theorem wr_i64 (n : Int) : (IntKind.wrap .i64 n = n ∨ n < -9223372036854775808 ∨ 9223372036854775807 < n) ∧ -9223372036854775808 ≤ IntKind.wrap .i64 n ∧ IntKind.wrap .i64 n ≤ 9223372036854775807 := by
 rw [IntKind.wrap_i64]; omega
theorem wr_u64 (n : Int) : (IntKind.wrap .u64 n = n ∨ n < 0 ∨ 18446744073709551615 < n) ∧ 0 ≤ IntKind.wrap .u64 n ∧ IntKind.wrap .u64 n ≤ 18446744073709551615 := by
 rw [IntKind.wrap_u64]; omega
end Go.Proofs.YtikfgnmljpjnbaaDoor
