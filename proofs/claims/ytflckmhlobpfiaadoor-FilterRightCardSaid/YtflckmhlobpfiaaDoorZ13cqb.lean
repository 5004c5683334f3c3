import Derived.Test.YtflckmhlobpfiaaDoorSycqb
import Derived.Test.YtflckmhlobpfiaaDoorZ13bqb
/-
  Layer 13 by the second engine: the reference, its parts.
-/
namespace Go.Proofs.YtflckmhlobpfiaaDoor
open Go.RowKit Go.Extern.Stop Go.Stop Go.Extern Go.Proofs.YtflckmhlobpfiaaDoor.Sy
set_option linter.unusedVariables false
set_option linter.unusedSimpArgs false
/-- have the first k just the same of two numbers? -/
def smB (l : List Value) (a b : Int) : Nat → Bool
  | 0 => true
  | k + 1 => smB l a b k && decide ((Go.RowKit.intOf (l.getD (k * 2) Go.undef) ≤ a ∧ a ≤ Go.RowKit.intOf (l.getD (k * 2 + 1) Go.undef)) ↔ (Go.RowKit.intOf (l.getD (k * 2) Go.undef) ≤ b ∧ b ≤ Go.RowKit.intOf (l.getD (k * 2 + 1) Go.undef)))
def wcI : Nat → List Value → Int
  | i, l => wbI i l
def wcB : Nat → List Value → Bool
  | 1, [l, .int _ a, .int _ b, .int _ k] => smB (rows l) a b k.toNat
  | i, l => wbB i l
def wcV : Nat → List Value → Value
  | i, l => wbV i l
abbrev wcE (iv : List Int) (bv : List Bool) (vv : List Value) (sv : List ByteArray) : Env := { iv := iv, bv := bv, vv := vv, sv := sv, fi := wcI, fb := wcB, fv := wcV, et := 141 }
theorem wcup : Agree 11 1 0 (wbE [] [] [] []) (wcE [] [] [] []) := ⟨rfl, (by
    intro f hf
    funext l
    show wcI f l = wbI f l
    unfold wcI
    split <;> first | rfl | omega), (by
    intro f hf
    funext l
    show wcB f l = wbB f l
    unfold wcB
    split <;> first | rfl | omega), (by
    intro f hf
    funext l
    show wcV f l = wbV f l
    unfold wcV
    split <;> first | rfl | omega)⟩
end Go.Proofs.YtflckmhlobpfiaaDoor
