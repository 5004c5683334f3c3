/-
 Layer 17: the statement DriftParts.
-/
import Derived.Test.YtgondiedehjkhaaDoorW02esums
import Derived.Test.YtgondiedehjkhaaDoorW01sums
import Derived.Deep.RegionHeld3
namespace Go.Proofs.YtgondiedehjkhaaDoor
open Go.RowKit Go.Extern.Stop Go.Stop Go.Extern
set_option linter.unusedVariables false
set_option linter.unusedSimpArgs false
abbrev S3 (w : World) (b0 : Nat) (v00 v01 v02 : Value) (wx : World) : Prop := Held w wx ∧ B3 b0 v00 v01 v02 wx
theorem S3.step {w : World} {b0 : Nat} {v00 v01 v02 : Value} {wx w' : World} (h : S3 w b0 v00 v01 v02 wx) (hb : Below wx.heap.size wx w') : S3 w b0 v00 v01 v02 w' := ⟨(h.1).step hb, (h.2).step hb⟩
theorem S3.drew {w : World} {b0 : Nat} {v00 v01 v02 : Value} {wx : World} (h : S3 w b0 v00 v01 v02 wx) : S3 w b0 v00 v01 v02 wx.drew := h.step (Below.refl _ _).drew
theorem S3.held {w : World} {b0 : Nat} {v00 v01 v02 : Value} {wx : World} (h : S3 w b0 v00 v01 v02 wx) : Held w wx := h.1
end Go.Proofs.YtgondiedehjkhaaDoor
