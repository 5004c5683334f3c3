/-
  Lists of integers among contents.
-/
import Derived.Test.YtbjgopehomnpgaaDoorSyoql
namespace Go.Proofs.YtbjgopehomnpgaaDoor
open Go.RowKit Go.Extern.Stop Go.Stop Go.Extern
set_option linter.unusedVariables false
set_option linter.unusedSimpArgs false
def intsOf (v : Value) : List Int := (Sy.rows v).map Go.RowKit.intOf
theorem ints_len (l : Value) : (intsOf l).length = (Sy.rows l).length := List.length_map _
theorem ints_at (l : Value) {i : Nat} (hi : i < (Sy.rows l).length) : (intsOf l)[i]? = some (Go.RowKit.intOf ((Sy.rows l).getD i Go.undef)) := by
  unfold intsOf
  rw [List.getElem?_map, List.getD_eq_getElem?_getD, List.getElem?_eq_getElem hi]
  rfl
theorem take_more {α : Type} {l : List α} {i : Nat} {a : α} (h : l[i]? = some a) : l.take (i + 1) = l.take i ++ [a] := by
  rw [List.take_add_one, h]; rfl
theorem toNat_succ {i : Int} (h : 0 ≤ i) : (i + 1).toNat = i.toNat + 1 := by omega
theorem getD_of {α : Type} {l : List α} {i : Nat} {a d : α} (h : l[i]? = some a) : l.getD i d = a := by rw [List.getD_eq_getElem?_getD, h]; rfl
end Go.Proofs.YtbjgopehomnpgaaDoor
