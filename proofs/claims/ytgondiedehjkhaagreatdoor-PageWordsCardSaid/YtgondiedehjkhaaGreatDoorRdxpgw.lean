/-
 Layer 5: a reader of fields, told by its cells.
-/
import Derived.Test.YtgondiedehjkhaaGreatDoorW05fpgw
namespace Go.Proofs.YtgondiedehjkhaaGreatDoor
open Go.RowKit Go.Extern.Stop Go.Stop Go.Extern
set_option linter.unusedVariables false
set_option linter.unusedSimpArgs false
open Go.Shelf
attribute [local go_sem] Oper.semAt_some
structure RdgA (w : World) (g : Nat) (l : List UInt8) (sh : Bool) (A : Option Addr) (c : Nat) : Prop where
 c0 : w.cell? ⟨g, 0, none⟩ = some (.slice A l.length c)
 c1 : w.cell? ⟨g, 1, none⟩ = some (.bool sh)
 f0 : w.frozen? ⟨g, 0, none⟩ = false
 f1 : w.frozen? ⟨g, 1, none⟩ = false
 lt : g < w.heap.size
 nil : A = none → c = 0
 len : l.length ≤ c
 rd : Rd w A l
 off : l ≠ [] → ∀ ad, A = some ad → ad.block ≠ g
def Rdg (w : World) (g : Nat) (l : List UInt8) (sh : Bool) : Prop := ∃ A c, RdgA w g l sh A c
theorem Rdg.lt {w : World} {g : Nat} {l : List UInt8} {sh : Bool} (h : Rdg w g l sh) : g < w.heap.size := by
 obtain ⟨A, c, h⟩ := h
 exact h.lt
end Go.Proofs.YtgondiedehjkhaaGreatDoor
