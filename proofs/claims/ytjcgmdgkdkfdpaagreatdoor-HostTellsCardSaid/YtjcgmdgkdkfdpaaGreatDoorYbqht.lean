/-
 Layer 22 by the second engine: pages and their times.
-/
import Derived.Test.YtjcgmdgkdkfdpaaGreatDoorSycqht
import Derived.Test.YtjcgmdgkdkfdpaaGreatDoorYaqht
import Derived.Test.YtjcgmdgkdkfdpaaGreatDoorE00qht
namespace Go.Proofs.YtjcgmdgkdkfdpaaGreatDoor
open Go.RowKit Go.Extern.Stop Go.Stop Go.Extern Go.Proofs.YtjcgmdgkdkfdpaaGreatDoor.Sy
set_option linter.unusedVariables false
set_option linter.unusedSimpArgs false
noncomputable def ybI : Nat → List Value → Int
 | i, l => yaI i l
noncomputable def ybB : Nat → List Value → Bool
 | i, l => yaB i l
noncomputable def ybV : Nat → List Value → Value
 | i, l => yaV i l
noncomputable abbrev ybE (iv : List Int) (bv : List Bool) (vv : List Value) (sv : List ByteArray) : Env := { iv := iv, bv := bv, vv := vv, sv := sv, fi := ybI, fb := ybB, fv := ybV, et := 94 }
set_option maxHeartbeats 8000000 in
theorem ybup : Agree 26 3 0 (yaE [] [] [] []) (ybE [] [] [] []) := ⟨rfl, (by
   intro f hf
   funext l
   show ybI f l = yaI f l
   unfold ybI
   split <;> first | rfl | omega), (by
   intro f hf
   funext l
   show ybB f l = yaB f l
   unfold ybB
   split <;> first | rfl | omega), (by
   intro f hf
   funext l
   show ybV f l = yaV f l
   unfold ybV
   split <;> first | rfl | omega)⟩
end Go.Proofs.YtjcgmdgkdkfdpaaGreatDoor
