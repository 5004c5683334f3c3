/-
  Layer 12 by the second engine: the reference.
-/
import Derived.Test.YtbjgopehomnpgaaDoorSycqs
import Derived.Test.YtbjgopehomnpgaaDoorZ12qs
namespace Go.Proofs.YtbjgopehomnpgaaDoor
open Go.RowKit Go.Extern.Stop Go.Stop Go.Extern Go.Proofs.YtbjgopehomnpgaaDoor.Sy
set_option linter.unusedVariables false
set_option linter.unusedSimpArgs false
noncomputable def s12bI : Nat → List Value → Int
  | 40, [.int _ B, .int _ b, l, .int _ j] => wbJ B b (intsOf l) j.toNat
  | i, l => s12I i l
noncomputable def s12bB : Nat → List Value → Bool
  | i, l => s12B i l
noncomputable def s12bV : Nat → List Value → Value
  | i, l => s12V i l
noncomputable abbrev s12bE (iv : List Int) (bv : List Bool) (vv : List Value) (sv : List ByteArray) : Env := { iv := iv, bv := bv, vv := vv, sv := sv, fi := s12bI, fb := s12bB, fv := s12bV, et := 182 }
set_option maxHeartbeats 8000000 in
theorem s12bup : Agree 40 4 0 (s12E [] [] [] []) (s12bE [] [] [] []) := ⟨rfl, (by
    intro f hf
    funext l
    show s12bI f l = s12I f l
    unfold s12bI
    split <;> first | rfl | omega), (by
    intro f hf
    funext l
    show s12bB f l = s12B f l
    unfold s12bB
    split <;> first | rfl | omega), (by
    intro f hf
    funext l
    show s12bV f l = s12V f l
    unfold s12bV
    split <;> first | rfl | omega)⟩
end Go.Proofs.YtbjgopehomnpgaaDoor
