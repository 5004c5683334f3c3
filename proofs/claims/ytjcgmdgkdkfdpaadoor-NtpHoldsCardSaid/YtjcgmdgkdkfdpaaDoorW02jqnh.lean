/-
 Numbers of digits: the product.
-/
import Derived.Test.YtjcgmdgkdkfdpaaDoorW02iqnh
import Derived.Test.YtjcgmdgkdkfdpaaDoorBigmqnh
namespace Go.Proofs.YtjcgmdgkdkfdpaaDoor
open Go.RowKit Go.Extern.Stop Go.Stop Go.Extern
set_option linter.unusedVariables false
set_option linter.unusedSimpArgs false
def fB (b : Bool) (f : Nat → Int) : Array Value := #[.bool b, .int .u64 (f 0), .int .u64 (f 1), .int .u64 (f 2), .int .u64 (f 3), .int .u64 (f 4), .int .u64 (f 5), .int .u64 (f 6), .int .u64 (f 7)]
end Go.Proofs.YtjcgmdgkdkfdpaaDoor
