/-
  What a slice holds as a list, by index; a list's beginning, one more.
-/
import Derived.Test.YtflckmhlobpfiaaDoorSx
namespace Go.Proofs.YtflckmhlobpfiaaDoor
open Go Go.RowKit Go.Proofs.YtflckmhlobpfiaaDoor.Sx
set_option linter.unusedVariables false
def valsOf : Value → List Value
  | .tuple vs => vs.toList
  | _ => []
/-- the elements of a slice of one-cell elements: numbers, texts -/
def intsOf (v : Value) : List Int := (valsOf v).map intOf
def strsOf (v : Value) : List ByteArray := (valsOf v).map strOf
theorem vals_all (s : Slc) : valsOf s.all = s.cells := rfl
theorem cells_one (s : Slc) (h : s.esz = 1) : s.cells = (List.range s.len).map fun i => s.cont i 0 := by
  unfold Slc.cells
  rw [h]
  induction List.range s.len with
  | nil => rfl
  | cons a r ih => simp_all [List.range_succ]
theorem ints_all (s : Slc) (h : s.esz = 1) : intsOf s.all = (List.range s.len).map fun i => intOf (s.cont i 0) := by
  unfold intsOf
  rw [vals_all, cells_one s h, List.map_map]
  rfl
theorem strs_all (s : Slc) (h : s.esz = 1) : strsOf s.all = (List.range s.len).map fun i => strOf (s.cont i 0) := by
  unfold strsOf
  rw [vals_all, cells_one s h, List.map_map]
  rfl
theorem ints_len (s : Slc) (h : s.esz = 1) : (intsOf s.all).length = s.len := by rw [ints_all s h]; simp
theorem strs_len (s : Slc) (h : s.esz = 1) : (strsOf s.all).length = s.len := by rw [strs_all s h]; simp
theorem ints_at (s : Slc) (h : s.esz = 1) {i : Nat} (hi : i < s.len) : (intsOf s.all)[i]? = some (intOf (s.cont i 0)) := by rw [ints_all s h]; simp [hi]
theorem strs_at (s : Slc) (h : s.esz = 1) {i : Nat} (hi : i < s.len) : (strsOf s.all)[i]? = some (strOf (s.cont i 0)) := by rw [strs_all s h]; simp [hi]
theorem take_more {α : Type} {l : List α} {i : Nat} {a : α} (h : l[i]? = some a) : l.take (i + 1) = l.take i ++ [a] := by
  rw [List.take_add_one, h]
  rfl
theorem toNat_succ {i : Int} (h : 0 ≤ i) : (i + 1).toNat = i.toNat + 1 := by omega
theorem getD_of {α : Type} {l : List α} {i : Nat} {a d : α} (h : l[i]? = some a) : l.getD i d = a := by rw [List.getD_eq_getElem?_getD, h]; rfl
theorem take_full {α : Type} {l : List α} {i : Int} (h : ¬ i < (l.length : Int)) : l.take i.toNat = l := List.take_of_length_le (by omega)
theorem ints_tup (l : List Value) : intsOf (.tuple l.toArray) = l.map intOf := rfl
theorem strs_tup (l : List Value) : strsOf (.tuple l.toArray) = l.map strOf := rfl
end Go.Proofs.YtflckmhlobpfiaaDoor
