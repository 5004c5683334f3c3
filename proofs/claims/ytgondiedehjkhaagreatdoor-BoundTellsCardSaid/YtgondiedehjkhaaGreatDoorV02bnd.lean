/-
 Layer 2: the statement WideBack.
-/
import Derived.Test.YtgondiedehjkhaaGreatDoorW02ebnd
import Derived.Deep.RegionHeld3
namespace Go.Proofs.YtgondiedehjkhaaGreatDoor
open Go.RowKit Go.Extern.Stop Go.Stop Go.Extern
set_option linter.unusedVariables false
set_option linter.unusedSimpArgs false
abbrev SW2 (w : World) (b0 : Nat) (v00 v01 : Value) (b1 : Nat) (v10 v11 : Value) (wx : World) : Prop := Held w wx ∧ R2 b0 v00 v01 wx ∧ R2 b1 v10 v11 wx
theorem SW2.step {w : World} {b0 : Nat} {v00 v01 : Value} {b1 : Nat} {v10 v11 : Value} {wx w' : World} (h : SW2 w b0 v00 v01 b1 v10 v11 wx) (hb : Below wx.heap.size wx w') : SW2 w b0 v00 v01 b1 v10 v11 w' := ⟨(h.1).step hb, (h.2.1).step hb, (h.2.2).step hb⟩
theorem SW2.drew {w : World} {b0 : Nat} {v00 v01 : Value} {b1 : Nat} {v10 v11 : Value} {wx : World} (h : SW2 w b0 v00 v01 b1 v10 v11 wx) : SW2 w b0 v00 v01 b1 v10 v11 wx.drew := h.step (Below.refl _ _).drew
end Go.Proofs.YtgondiedehjkhaaGreatDoor
