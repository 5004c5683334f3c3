/-
 Layer 22 by the second engine: when, the law.
-/
import Derived.Test.YtjcgmdgkdkfdpaaGreatDoorSycqht
import Derived.Test.YtjcgmdgkdkfdpaaGreatDoorYbqht
import Derived.Test.YtjcgmdgkdkfdpaaGreatDoorE00qht
namespace Go.Proofs.YtjcgmdgkdkfdpaaGreatDoor
open Go.RowKit Go.Extern.Stop Go.Stop Go.Extern Go.Proofs.YtjcgmdgkdkfdpaaGreatDoor.Sy
set_option linter.unusedVariables false
set_option linter.unusedSimpArgs false
noncomputable def ycI : Nat → List Value → Int
 | i, l => ybI i l
noncomputable def ycB : Nat → List Value → Bool
 | i, l => ybB i l
noncomputable def ycV : Nat → List Value → Value
 | i, l => ybV i l
noncomputable abbrev ycE (iv : List Int) (bv : List Bool) (vv : List Value) (sv : List ByteArray) : Env := { iv := iv, bv := bv, vv := vv, sv := sv, fi := ycI, fb := ycB, fv := ycV, et := 94 }
set_option maxHeartbeats 8000000 in
theorem ycup : Agree 26 3 0 (ybE [] [] [] []) (ycE [] [] [] []) := ⟨rfl, (by
   intro f hf
   funext l
   show ycI f l = ybI f l
   unfold ycI
   split <;> first | rfl | omega), (by
   intro f hf
   funext l
   show ycB f l = ybB f l
   unfold ycB
   split <;> first | rfl | omega), (by
   intro f hf
   funext l
   show ycV f l = ybV f l
   unfold ycV
   split <;> first | rfl | omega)⟩
end Go.Proofs.YtjcgmdgkdkfdpaaGreatDoor
