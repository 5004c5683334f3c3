/-
  Layer 12 by the second engine: symbols.
-/
import Derived.Test.YtbjgopehomnpgaaDoorSycqt
import Derived.Test.YtbjgopehomnpgaaDoorZ9kqt
import Derived.Test.YtbjgopehomnpgaaDoorN12cqt
import Derived.Test.YtbjgopehomnpgaaDoorW02sqt
namespace Go.Proofs.YtbjgopehomnpgaaDoor
open Go.RowKit Go.Extern.Stop Go.Stop Go.Extern Go.Proofs.YtbjgopehomnpgaaDoor.Sy
set_option linter.unusedVariables false
set_option linter.unusedSimpArgs false
noncomputable def s12aI : Nat → List Value → Int
  | 20, [.int _ k, .int _ B, .int _ A] => smI k B A
  | 21, [.int _ B, .int _ A] => slN B A
  | 22, [.int _ B, .int _ b, .int _ t, l, .int _ d] => winB B b t (intsOf l) d
  | 23, [.int _ B, .int _ A, .int _ b, .int _ t, l, .int _ d] => winN B A b t (intsOf l) d
  | 24, [.int _ k, .int _ B, .int _ A, .int _ b, .int _ t, l] => fitsI k B A b t (intsOf l)
  | 25, [.int _ B, .int _ A, .int _ b, l, .int _ n] => lastN B A b (intsOf l) n.toNat
  | 26, [.int _ k, .int _ B, .int _ A, .int _ g] => lagE k B A g
  | 27, [.int _ k, .int _ B, .int _ A, .int _ g] => lagV k B A g
  | 28, [.int _ a, .int _ b, .int _ c] => mdN a b c
  | 29, [.int _ a, .int _ b, .int _ c] => mdE a b c
  | i, l => y9I i l
noncomputable def s12aB : Nat → List Value → Bool
  | i, l => y9B i l
noncomputable def s12aV : Nat → List Value → Value
  | i, l => y9V i l
noncomputable abbrev s12aE (iv : List Int) (bv : List Bool) (vv : List Value) (sv : List ByteArray) : Env := { iv := iv, bv := bv, vv := vv, sv := sv, fi := s12aI, fb := s12aB, fv := s12aV, et := 182 }
set_option maxHeartbeats 8000000 in
theorem s12aup : Agree 20 2 0 (y9E [] [] [] []) (s12aE [] [] [] []) := ⟨rfl, (by
    intro f hf
    funext l
    show s12aI f l = y9I f l
    unfold s12aI
    split <;> first | rfl | omega), (by
    intro f hf
    funext l
    show s12aB f l = y9B f l
    unfold s12aB
    split <;> first | rfl | omega), (by
    intro f hf
    funext l
    show s12aV f l = y9V f l
    unfold s12aV
    split <;> first | rfl | omega)⟩
end Go.Proofs.YtbjgopehomnpgaaDoor
