/-
 Layer 6 by the second engine: blobs.
-/
import Derived.Test.YtmlidfpjeomcmaaDoorSycclb
import Derived.Test.YtmlidfpjeomcmaaDoorZ6clb
import Derived.Test.YtmlidfpjeomcmaaDoorE00clb
import Derived.Test.YtmlidfpjeomcmaaDoorNumclb
namespace Go.Proofs.YtmlidfpjeomcmaaDoor
open Go.RowKit Go.Extern.Stop Go.Stop Go.Extern Go.Proofs.YtmlidfpjeomcmaaDoor.Sy
set_option linter.unusedVariables false
set_option linter.unusedSimpArgs false
def gB (l : List Value) (j : Nat) : Int := Go.RowKit.intOf (l.getD j Go.undef)
def sumI (l : List Value) : Int := (crcMore 0 (byL l) : Nat)
def tlk (l : List Value) (n : Nat) : Bool := (List.range n).all fun j => decide (gB l (l.length - 4 + j) = sumI (l.take (l.length - 4)) / 256 ^ j % 256)
theorem u8_toNat {n : Int} (h0 : 0 ≤ n) (h1 : n ≤ 255) : (UInt8.ofNat n.toNat).toNat = n.toNat := by simp; omega
theorem gB_drop (l : List Value) (k j : Nat) : gB l (k + j) = gB (l.drop k) j := by
 unfold gB
 rw [List.getD_eq_getElem?_getD, List.getD_eq_getElem?_getD, List.getElem?_drop]
def hdB (k : Int) (n : Int) : List Value := [.int .u8 116, .int .u8 109, .int .u8 k] ++ numB n 2
def slE (l : List Value) (k : Int) : Int := if k < 1 ∨ 6 < k then 1 else if 1024 < l.length then 5 else 0
def slV (l : List Value) (k : Int) : Value := if slE l k = 0 then sealV (hdB k l.length ++ l) else .tuple #[]
def kdP (l : List Value) : Prop := 5 ≤ l.length ∧ gB l 0 = 116 ∧ gB l 1 = 109 ∧ 1 ≤ gB l 2 ∧ gB l 2 ≤ 6 ∧ gB l 3 + 256 * gB l 4 ≤ 1024
instance (l : List Value) : Decidable (kdP l) := by unfold kdP; infer_instance
def kdE (l : List Value) : Int := if kdP l then 0 else 3
def kdK (l : List Value) : Int := if kdP l then gB l 2 else 0
def kdN (l : List Value) : Int := if kdP l then 9 + (gB l 3 + 256 * gB l 4) else 0
def blE (l : List Value) (k : Int) : Int := if k < 1 ∨ 6 < k then 1 else if kdE l ≠ 0 ∨ kdK l ≠ k ∨ kdN l ≠ l.length then 3 else opnE l
def blV (l : List Value) (k : Int) : Value := if blE l k = 0 then .tuple ((l.take (l.length - 4)).drop 5).toArray else .tuple #[]
noncomputable def zb6I : Nat → List Value → Int
 | 5, [l, .int _ k] => slE (rows l) k
 | 6, [l] => kdE (rows l)
 | 7, [l] => kdK (rows l)
 | 8, [l] => kdN (rows l)
 | 9, [l, .int _ k] => blE (rows l) k
 | i, l => z6I i l
noncomputable def zb6B : Nat → List Value → Bool
 | 2, [l, .int _ n] => tlk (rows l) n.toNat
 | i, l => z6B i l
noncomputable def zb6V : Nat → List Value → Value
 | 7, [l, .int _ k] => slV (rows l) k
 | 8, [l, .int _ k] => blV (rows l) k
 | i, l => z6V i l
noncomputable abbrev zb6E (iv : List Int) (bv : List Bool) (vv : List Value) (sv : List ByteArray) : Env := { iv := iv, bv := bv, vv := vv, sv := sv, fi := zb6I, fb := zb6B, fv := zb6V, et := 61 }
set_option maxHeartbeats 8000000 in
theorem zb6up : Agree 5 2 7 (z6E [] [] [] []) (zb6E [] [] [] []) := ⟨rfl, (by
   intro f hf
   funext l
   show zb6I f l = z6I f l
   unfold zb6I
   split <;> first | rfl | omega), (by
   intro f hf
   funext l
   show zb6B f l = z6B f l
   unfold zb6B
   split <;> first | rfl | omega), (by
   intro f hf
   funext l
   show zb6V f l = z6V f l
   unfold zb6V
   split <;> first | rfl | omega)⟩
end Go.Proofs.YtmlidfpjeomcmaaDoor
