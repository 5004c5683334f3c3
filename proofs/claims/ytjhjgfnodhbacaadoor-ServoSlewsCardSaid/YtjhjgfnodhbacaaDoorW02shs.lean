/-
  Numbers of digits: a product divided.
-/
import Derived.Test.YtjhjgfnodhbacaaDoorW02rhs
import Derived.Test.YtjhjgfnodhbacaaDoorW02jhs
import Derived.Test.YtjhjgfnodhbacaaDoorBigmhs
import Derived.Deep.RegionWith
import Derived.Deep.Cut
import Derived.Deep.CutRange
import Derived.Test.YtjhjgfnodhbacaaDoorW02ehs
namespace Go.Proofs.YtjhjgfnodhbacaaDoor
open Go.RowKit Go.Extern.Stop Go.Stop Go.Extern
set_option linter.unusedVariables false
set_option linter.unusedSimpArgs false
def mdE (a b c : Int) : Int := if c < 1 then 1 else if InR (a * b / c) then 0 else 2
def mdN (a b c : Int) : Int := if c < 1 then 0 else if InR (a * b / c) then a * b / c else 0
def msE (a m n : Int) : Int := if n < 0 ∨ 31 < n then 1 else mdE a m (2 ^ n.toNat)
def msN (a m n : Int) : Int := if n < 0 ∨ 31 < n then 0 else mdN a m (2 ^ n.toNat)
end Go.Proofs.YtjhjgfnodhbacaaDoor
