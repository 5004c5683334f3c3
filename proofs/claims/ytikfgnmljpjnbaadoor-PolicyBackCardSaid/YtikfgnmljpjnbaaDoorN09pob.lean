/-
 Layer 9's tables as lists: whether they may be, how many seconds were put in, where a day begins.
-/
import Derived.Test.YtikfgnmljpjnbaaDoorLsypob
namespace Go.Proofs.YtikfgnmljpjnbaaDoor
open Go Go.RowKit
set_option linter.unusedVariables false
def leastL (l : List Int) (j : Nat) : Int := if j = 0 then -50000 else l.getD (j - 1) 0 + 1
def okJ (l : List Int) (last : Int) (j : Nat) : Bool := decide (leastL l j ≤ l.getD j 0) && decide (l.getD j 0 < last)
def okL (l : List Int) (last : Int) (n : Nat) : Bool := (List.range n).all fun j => okJ l last j
end Go.Proofs.YtikfgnmljpjnbaaDoor
