/-
 Numbers of digits: a product divided.
-/
import Derived.Test.YtjcgmdgkdkfdpaaDoorW02rqnh
import Derived.Test.YtjcgmdgkdkfdpaaDoorW02jqnh
import Derived.Test.YtjcgmdgkdkfdpaaDoorBigmqnh
import Derived.Deep.RegionWith
import Derived.Deep.Cut
import Derived.Deep.CutRange
import Derived.Test.YtjcgmdgkdkfdpaaDoorW02eqnh
namespace Go.Proofs.YtjcgmdgkdkfdpaaDoor
open Go.RowKit Go.Extern.Stop Go.Stop Go.Extern
set_option linter.unusedVariables false
set_option linter.unusedSimpArgs false
def mdE (a b c : Int) : Int := if c < 1 then 1 else if InR (a * b / c) then 0 else 2
def mdN (a b c : Int) : Int := if c < 1 then 0 else if InR (a * b / c) then a * b / c else 0
def errOf (n : Int) : Value := if n = 0 then .nilIface else errV n
theorem wmuldiv_any (a b c : Int) (w : World) (ha : InR a) (hb : InR b) (hc : InR c) : Calls Tryd.prog 98 #[.int .i64 a, .int .i64 b, .int .i64 c] w fun e w' => e = .returned (.tuple #[.int .i64 (mdN a b c), errOf (mdE a b c)]) ∧ Below w.heap.size w w' := by
 by_cases h : c < 1
 · have e1 : mdN a b c = 0 := by unfold mdN; rw [if_pos h]
   have e2 : mdE a b c = 1 := by unfold mdE; rw [if_pos h]
   rw [e1, e2]; exact wmuldiv_no a b c w ha hb h
 · by_cases hq : InR (a * b / c)
   · have e1 : mdN a b c = a * b / c := by unfold mdN; rw [if_neg h, if_pos hq]
     have e2 : mdE a b c = 0 := by unfold mdE; rw [if_neg h, if_pos hq]
     rw [e1, e2]
     exact wmuldiv a b c w ha hb (by omega) hc hq
   · have e1 : mdN a b c = 0 := by unfold mdN; rw [if_neg h, if_neg hq]
     have e2 : mdE a b c = 2 := by unfold mdE; rw [if_neg h, if_neg hq]
     rw [e1, e2]
     exact wmuldiv_big a b c w ha hb (by omega) hc hq
def msE (a m n : Int) : Int := if n < 0 ∨ 31 < n then 1 else mdE a m (2 ^ n.toNat)
def msN (a m n : Int) : Int := if n < 0 ∨ 31 < n then 0 else mdN a m (2 ^ n.toNat)
end Go.Proofs.YtjcgmdgkdkfdpaaDoor
