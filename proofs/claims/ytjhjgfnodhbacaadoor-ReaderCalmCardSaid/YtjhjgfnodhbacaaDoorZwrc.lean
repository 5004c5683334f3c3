/-
  Layer 20 by the second engine: wholes, the law.
-/
import Derived.Test.YtjhjgfnodhbacaaDoorSycrc
import Derived.Test.YtjhjgfnodhbacaaDoorZxrc
import Derived.Test.YtjhjgfnodhbacaaDoorE00rc
namespace Go.Proofs.YtjhjgfnodhbacaaDoor
open Go.RowKit Go.Extern.Stop Go.Stop Go.Extern Go.Proofs.YtjhjgfnodhbacaaDoor.Sy
set_option linter.unusedVariables false
set_option linter.unusedSimpArgs false
noncomputable def zwI : Nat → List Value → Int
  | i, l => zxI i l
noncomputable def zwB : Nat → List Value → Bool
  | i, l => zxB i l
noncomputable def zwV : Nat → List Value → Value
  | i, l => zxV i l
noncomputable abbrev zwE (iv : List Int) (bv : List Bool) (vv : List Value) (sv : List ByteArray) : Env := { iv := iv, bv := bv, vv := vv, sv := sv, fi := zwI, fb := zwB, fv := zwV, et := 229 }
set_option maxHeartbeats 8000000 in
theorem zwup : Agree 33 6 12 (zxE [] [] [] []) (zwE [] [] [] []) := ⟨rfl, (by
    intro f hf
    funext l
    show zwI f l = zxI f l
    unfold zwI
    split <;> first | rfl | omega), (by
    intro f hf
    funext l
    show zwB f l = zxB f l
    unfold zwB
    split <;> first | rfl | omega), (by
    intro f hf
    funext l
    show zwV f l = zxV f l
    unfold zwV
    split <;> first | rfl | omega)⟩
end Go.Proofs.YtjhjgfnodhbacaaDoor
