/-
 Layer 10 behind the blobs: sure.
-/
import Derived.Test.YtikfgnmljpjnbaaDoorSycpob
import Derived.Test.YtikfgnmljpjnbaaDoorZzdpob
namespace Go.Proofs.YtikfgnmljpjnbaaDoor
open Go.RowKit Go.Extern.Stop Go.Stop Go.Extern Go.Proofs.YtikfgnmljpjnbaaDoor.Sy
set_option linter.unusedVariables false
set_option linter.unusedSimpArgs false
noncomputable def zzeI : Nat → List Value → Int
 | i, l => zzdI i l
noncomputable def zzeB : Nat → List Value → Bool
 | i, l => zzdB i l
noncomputable def zzeV : Nat → List Value → Value
 | i, l => zzdV i l
noncomputable abbrev zzeE (iv : List Int) (bv : List Bool) (vv : List Value) (sv : List ByteArray) : Env := { iv := iv, bv := bv, vv := vv, sv := sv, fi := zzeI, fb := zzeB, fv := zzeV, et := 101 }
set_option maxHeartbeats 8000000 in
theorem zzeup : Agree 19 14 14 (zzdE [] [] [] []) (zzeE [] [] [] []) := ⟨rfl, (by
   intro f hf
   funext l
   show zzeI f l = zzdI f l
   unfold zzeI
   split <;> first | rfl | omega), (by
   intro f hf
   funext l
   show zzeB f l = zzdB f l
   unfold zzeB
   split <;> first | rfl | omega), (by
   intro f hf
   funext l
   show zzeV f l = zzdV f l
   unfold zzeV
   split <;> first | rfl | omega)⟩
end Go.Proofs.YtikfgnmljpjnbaaDoor
