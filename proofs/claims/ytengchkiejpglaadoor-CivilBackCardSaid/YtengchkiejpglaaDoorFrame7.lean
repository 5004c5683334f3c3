/-
  The premise of the rows that list the tables of the library's numbers, too: what it gives a walk; a world that meets it.
-/
import Derived.Test.YtengchkiejpglaaDoorFrame
import Derived.Test.YtengchkiejpglaaDoorW07d
namespace Go.Proofs.YtengchkiejpglaaDoor
open Go.ChangeShapes Go.WideShapes Go.RowKit
set_option linter.unusedVariables false
abbrev laid7 : List (String × DataW Unit) := [("math/bits.deBruijn32tab", Rows.laid_math_bits_deBruijn32tab), ("math/bits.deBruijn64tab", Rows.laid_math_bits_deBruijn64tab), ("internal/strconv.uint64pow10", Rows.laid_internal_strconv_uint64pow10), ("errors.errorType", Rows.laid_errors_errorType)]
theorem parts7 {W : World} (h : laidMetH Tryd.prog laid7 W) : laidMet Tryd.prog [("math/bits.deBruijn32tab", Rows.laid_math_bits_deBruijn32tab), ("math/bits.deBruijn64tab", Rows.laid_math_bits_deBruijn64tab), ("internal/strconv.uint64pow10", Rows.laid_internal_strconv_uint64pow10)] W ∧ handlesMet Tryd.prog [("errors.errorType", Rows.laid_errors_errorType)] W := h
theorem handle_of_laid7 {W : World} (h : laidMetH Tryd.prog laid7 W) : W.cell? ⟨0, 0, none⟩ = some asHandle :=
  handle_of_laid (show laidMet Tryd.prog [] W ∧ handlesMet Tryd.prog [("errors.errorType", Rows.laid_errors_errorType)] W from ⟨laidMet_nil _ _, (parts7 h).2⟩)
theorem laid_tail {P : Program} {x : String × DataW Unit} {rest : List (String × DataW Unit)} {W : World} (h : laidMet P (x :: rest) W) : laidMet P rest W := by
  obtain ⟨ps, ⟨g, t, cs, fuel, p, q, h1, h2, h3, h4, h5, rfl⟩, hn, hc⟩ := h
  exact ⟨q, h5, (List.nodup_append.1 hn).2.1, fun b off hp => hc b off (List.mem_append_right _ hp)⟩
theorem tab_of_laid7 {W : World} (h : laidMetH Tryd.prog laid7 W) : Tab W :=
  Lib.tabIs_of_head (g := 3) (t := 209) (e := 152) (n := 20) (by kernel_rfl) (by kernel_rfl) Tryd.underlying209 Tryd.underlying152 (by kernel_rfl) (by kernel_rfl) (rest := []) (laid_tail (laid_tail (parts7 h).1))
/-- a table's cells out of what it reads as -/
def cellsOfData : DataW Unit → Array Value
  | .agg l => (l.map fun x => match x with | .lit (.int k z) => Value.int k z | _ => Value.nilIface).toArray
  | _ => #[]
noncomputable def laidWorld7 (os : Os) : World :=
  let w0 := laidWorld os
  { w0 with heap := ((w0.heap.modify 4 fun
      | .cells _ t frozen => .cells (cellsOfData Rows.laid_math_bits_deBruijn32tab) t frozen
      | o => o).modify 5 fun
      | .cells _ t frozen => .cells (cellsOfData Rows.laid_math_bits_deBruijn64tab) t frozen
      | o => o).modify 3 fun
      | .cells _ t frozen => .cells (cellsOfData Rows.laid_internal_strconv_uint64pow10) t frozen
      | o => o }
theorem laidWorld7_met (os : Os) (args : Array Value) : laidMetH Tryd.prog laid7 ((laidWorld7 os).forCall (fun _ _ => 0) ⟨#[], args, []⟩).memory :=
  laidMetH_of_parts (laidMet_of_run' 8 (by kernel_rfl) (by kernel_rfl)) (by kernel_rfl)
end Go.Proofs.YtengchkiejpglaaDoor
