/-
  Layer 20 by the second engine: steps.
-/
import Derived.Test.YtjhjgfnodhbacaaDoorSycrc
import Derived.Test.YtjhjgfnodhbacaaDoorZvrc
import Derived.Test.YtjhjgfnodhbacaaDoorE00rc
namespace Go.Proofs.YtjhjgfnodhbacaaDoor
open Go.RowKit Go.Extern.Stop Go.Stop Go.Extern Go.Proofs.YtjhjgfnodhbacaaDoor.Sy
set_option linter.unusedVariables false
set_option linter.unusedSimpArgs false
noncomputable def zxI : Nat → List Value → Int
  | i, l => zvI i l
noncomputable def zxB : Nat → List Value → Bool
  | i, l => zvB i l
noncomputable def zxV : Nat → List Value → Value
  | i, l => zvV i l
noncomputable abbrev zxE (iv : List Int) (bv : List Bool) (vv : List Value) (sv : List ByteArray) : Env := { iv := iv, bv := bv, vv := vv, sv := sv, fi := zxI, fb := zxB, fv := zxV, et := 229 }
set_option maxHeartbeats 8000000 in
theorem zxup : Agree 33 6 12 (zvE [] [] [] []) (zxE [] [] [] []) := ⟨rfl, (by
    intro f hf
    funext l
    show zxI f l = zvI f l
    unfold zxI
    split <;> first | rfl | omega), (by
    intro f hf
    funext l
    show zxB f l = zvB f l
    unfold zxB
    split <;> first | rfl | omega), (by
    intro f hf
    funext l
    show zxV f l = zvV f l
    unfold zxV
    split <;> first | rfl | omega)⟩
end Go.Proofs.YtjhjgfnodhbacaaDoor
