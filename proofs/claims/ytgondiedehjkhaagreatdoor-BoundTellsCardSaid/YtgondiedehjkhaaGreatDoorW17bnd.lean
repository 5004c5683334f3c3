/-
 Layer 17: the statement DriftParts.
-/
import Derived.Test.YtgondiedehjkhaaGreatDoorW02ebnd
import Derived.Test.YtgondiedehjkhaaGreatDoorW01bnd
import Derived.Deep.RegionHeld3
namespace Go.Proofs.YtgondiedehjkhaaGreatDoor
open Go.RowKit Go.Extern.Stop Go.Stop Go.Extern
set_option linter.unusedVariables false
set_option linter.unusedSimpArgs false
def upK (n : Int) : Int := -((-n) / 1073741824)
theorem mul_rho {g rho : Int} (g0 : 0 ≤ g) (g1 : g ≤ 9223372036854775807) (r0 : 0 ≤ rho) (r1 : rho ≤ 2097152) : 0 ≤ g * rho ∧ g * rho ≤ 19342813113834066795298816 := by
 refine ⟨Int.mul_nonneg g0 r0, ?_⟩
 have h1 : g * rho ≤ 9223372036854775807 * rho := Int.mul_le_mul_of_nonneg_right g1 r0
 omega
abbrev S3 (w : World) (b0 : Nat) (v00 v01 v02 : Value) (wx : World) : Prop := Held w wx ∧ B3 b0 v00 v01 v02 wx
theorem S3.step {w : World} {b0 : Nat} {v00 v01 v02 : Value} {wx w' : World} (h : S3 w b0 v00 v01 v02 wx) (hb : Below wx.heap.size wx w') : S3 w b0 v00 v01 v02 w' := ⟨(h.1).step hb, (h.2).step hb⟩
theorem S3.drew {w : World} {b0 : Nat} {v00 v01 v02 : Value} {wx : World} (h : S3 w b0 v00 v01 v02 wx) : S3 w b0 v00 v01 v02 wx.drew := h.step (Below.refl _ _).drew
theorem S3.held {w : World} {b0 : Nat} {v00 v01 v02 : Value} {wx : World} (h : S3 w b0 v00 v01 v02 wx) : Held w wx := h.1
end Go.Proofs.YtgondiedehjkhaaGreatDoor
