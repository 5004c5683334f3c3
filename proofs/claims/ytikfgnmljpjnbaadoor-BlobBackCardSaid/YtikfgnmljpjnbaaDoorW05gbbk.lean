/-
 Layer 5: the contracts, once more, in the forms that the statements meet.
-/
import Derived.Test.YtikfgnmljpjnbaaDoorW05fbbk
namespace Go.Proofs.YtikfgnmljpjnbaaDoor
open Go.RowKit Go.Extern.Stop Go.Stop Go.Extern
set_option linter.unusedVariables false
set_option linter.unusedSimpArgs false
theorem put2_n (A : Option Addr) (c n : Nat) (l m : List UInt8) (x : Int) (w : World) (hrd : Rd w A l) (hcz : A = none → c = 0) (hn : n = l.length) (hl : l.length ≤ 140737488355000) (hx0 : 0 ≤ x) (hx1 : x < 65536) (hm : l ++ leB x.toNat 2 = m) :
   Calls Tryd.prog 37 #[.slice A n c, .int .u16 x] w (OwnP w m) := by subst hn hm; exact put2_c A c l x w hrd hcz hl hx0 hx1
end Go.Proofs.YtikfgnmljpjnbaaDoor
