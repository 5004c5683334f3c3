/-
  Numbers of digits: a product divided.
-/
import Derived.Test.YtbjgopehomnpgaaDoorW02rqs
import Derived.Test.YtbjgopehomnpgaaDoorW02jqs
import Derived.Test.YtbjgopehomnpgaaDoorBigmqs
import Derived.Deep.RegionWith
import Derived.Deep.Cut
import Derived.Deep.CutRange
import Derived.Test.YtbjgopehomnpgaaDoorW02eqs
namespace Go.Proofs.YtbjgopehomnpgaaDoor
open Go.RowKit Go.Extern.Stop Go.Stop Go.Extern
set_option linter.unusedVariables false
set_option linter.unusedSimpArgs false
/-- what a product divided is: the number, and the error's number -/
def mdE (a b c : Int) : Int := if c < 1 then 1 else if InR (a * b / c) then 0 else 2
def mdN (a b c : Int) : Int := if c < 1 then 0 else if InR (a * b / c) then a * b / c else 0
/-- the error of a number: none of 0 -/
def errOf (n : Int) : Value := if n = 0 then .nilIface else errV n
theorem wmuldiv_any (a b c : Int) (w : World) (ha : InR a) (hb : InR b) (hc : InR c) : Calls Tryd.prog 119 #[.int .i64 a, .int .i64 b, .int .i64 c] w fun e w' => e = .returned (.tuple #[.int .i64 (mdN a b c), errOf (mdE a b c)]) ∧ Below w.heap.size w w' := by
  by_cases h : c < 1
  · have e1 : mdN a b c = 0 := by unfold mdN; rw [if_pos h]
    have e2 : mdE a b c = 1 := by unfold mdE; rw [if_pos h]
    rw [e1, e2]; exact wmuldiv_no a b c w ha hb h
  · by_cases hq : InR (a * b / c)
    · have e1 : mdN a b c = a * b / c := by unfold mdN; rw [if_neg h, if_pos hq]
      have e2 : mdE a b c = 0 := by unfold mdE; rw [if_neg h, if_pos hq]
      rw [e1, e2]
      exact wmuldiv a b c w ha hb (by omega) hc hq
    · have e1 : mdN a b c = 0 := by unfold mdN; rw [if_neg h, if_neg hq]
      have e2 : mdE a b c = 2 := by unfold mdE; rw [if_neg h, if_neg hq]
      rw [e1, e2]
      exact wmuldiv_big a b c w ha hb (by omega) hc hq
end Go.Proofs.YtbjgopehomnpgaaDoor
