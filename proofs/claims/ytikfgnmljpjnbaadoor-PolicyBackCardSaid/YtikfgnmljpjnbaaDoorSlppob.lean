/-
 A cell of a slice, by its block and where it lies there.
-/
import Derived.Deep.Slices
import Derived.Deep.Fields
import Derived.ChangeSame
import Derived.OpenShut
namespace Go.Proofs.YtikfgnmljpjnbaaDoor
open Go Go.ChangeShapes Go.WideShapes Go.RowKit Go.Deep
set_option linter.unusedVariables false
theorem add_cell {w : World} {a : Addr} {m : Nat} {v : Value} (h : w.cell? (a.add m) = some v) : w.cell? ⟨a.block, a.off + m, none⟩ = some v := by
 by_cases h0 : m = 0
 · subst h0
   have ha : a.add 0 = a := rfl
   rw [ha] at h
   obtain ⟨b, o, sp⟩ := a
   cases sp with
   | none => exact h
   | some x =>
     exfalso
     unfold World.cell? at h
     simp at h
     split at h <;> simp at h
 · have ha : a.add m = ⟨a.block, a.off + m, none⟩ := by unfold Addr.add; rw [if_neg h0]
   rw [← ha]
   exact h
end Go.Proofs.YtikfgnmljpjnbaaDoor
