/-
  Numbers of digits: the product.
-/
import Derived.Test.YtjcgmdgkdkfdpaaDoorW02iqwp
import Derived.Test.YtjcgmdgkdkfdpaaDoorBigmqwp
namespace Go.Proofs.YtjcgmdgkdkfdpaaDoor
open Go.RowKit Go.Extern.Stop Go.Stop Go.Extern
set_option linter.unusedVariables false
set_option linter.unusedSimpArgs false
def fB (b : Bool) (f : Nat → Int) : Array Value := #[.bool b, .int .u64 (f 0), .int .u64 (f 1), .int .u64 (f 2), .int .u64 (f 3), .int .u64 (f 4), .int .u64 (f 5), .int .u64 (f 6), .int .u64 (f 7)]
theorem fB_get (b : Bool) (f : Nat → Int) (k : Nat) (hk : k < 8) : (fB b f)[k + 1]? = some (.int .u64 (f k)) := by
  obtain rfl | rfl | rfl | rfl | rfl | rfl | rfl | rfl : k = 0 ∨ k = 1 ∨ k = 2 ∨ k = 3 ∨ k = 4 ∨ k = 5 ∨ k = 6 ∨ k = 7 := by omega
  all_goals rfl
end Go.Proofs.YtjcgmdgkdkfdpaaDoor
