/-
  Layer 18 by the second engine: hosts set.
-/
import Derived.Test.YtjhjgfnodhbacaaDoorSychc
import Derived.Test.YtjhjgfnodhbacaaDoorYihc
import Derived.Test.YtjhjgfnodhbacaaDoorE00hc
import Derived.Test.YtjhjgfnodhbacaaDoorNumhc
import Derived.ProofKit
import Derived.LaidEql
import Derived.Stop.Asserts
import Derived.RowKitTokens
import Derived.WalkLawsBesides
namespace Go.Proofs.YtjhjgfnodhbacaaDoor
open Go.RowKit Go.Extern.Stop Go.Stop Go.Extern Go.Proofs.YtjhjgfnodhbacaaDoor.Sy
set_option linter.unusedVariables false
set_option linter.unusedSimpArgs false
def gbF (b : Bool) (x : Int) : Int := if b then x else 0
theorem hoE_or (rm rs rr gp gi rl ro hb ht he sf ss : Int) : (hoP rm rs rr gp gi rl ro hb ht he sf ss ∧ hoE rm rs rr gp gi rl ro hb ht he sf ss = 0) ∨ (¬ hoP rm rs rr gp gi rl ro hb ht he sf ss ∧ hoE rm rs rr gp gi rl ro hb ht he sf ss = 1) := by
  by_cases h : hoP rm rs rr gp gi rl ro hb ht he sf ss
  · exact .inl ⟨h, hoE_y h⟩
  · exact .inr ⟨h, hoE_n h⟩
noncomputable def yjI : Nat → List Value → Int
  | 56, [.bool b, .int _ x] => gbF b x
  | i, l => yiI i l
noncomputable def yjB : Nat → List Value → Bool
  | i, l => yiB i l
noncomputable def yjV : Nat → List Value → Value
  | i, l => yiV i l
noncomputable abbrev yjE (iv : List Int) (bv : List Bool) (vv : List Value) (sv : List ByteArray) : Env := { iv := iv, bv := bv, vv := vv, sv := sv, fi := yjI, fb := yjB, fv := yjV, et := 229 }
set_option maxHeartbeats 8000000 in
theorem yjup : Agree 56 5 2 (yiE [] [] [] []) (yjE [] [] [] []) := ⟨rfl, (by
    intro f hf
    funext l
    show yjI f l = yiI f l
    unfold yjI
    split <;> first | rfl | omega), (by
    intro f hf
    funext l
    show yjB f l = yiB f l
    unfold yjB
    split <;> first | rfl | omega), (by
    intro f hf
    funext l
    show yjV f l = yiV f l
    unfold yjV
    split <;> first | rfl | omega)⟩
end Go.Proofs.YtjhjgfnodhbacaaDoor
