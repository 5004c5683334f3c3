/-
 A reader of fields among the second engine's contracts: a new one, and whether it is done.
-/
import Derived.Test.YtgondiedehjkhaaGreatDoorRdmpgw
namespace Go.Proofs.YtgondiedehjkhaaGreatDoor
open Go.RowKit Go.Extern.Stop Go.Stop Go.Extern
set_option linter.unusedVariables false
set_option linter.unusedSimpArgs false
theorem bV_byL : ∀ {l : List Value}, (∀ x, x ∈ l → ∃ n : Int, x = .int .u8 n ∧ 0 ≤ n ∧ n ≤ 255) → (byL l).map bV = l
 | [], _ => rfl
 | x :: r, h => by
   obtain ⟨n, rfl, h0, h1⟩ := h x (List.mem_cons_self ..)
   have ih := bV_byL (l := r) fun y hy => h y (List.mem_cons_of_mem _ hy)
   show bV (UInt8.ofNat n.toNat) :: (byL r).map bV = _
   rw [ih, bV_of h0 h1]
def dnE (l : List UInt8) (sh : Bool) : Int := if sh = true ∨ 0 < l.length then 3 else 0
end Go.Proofs.YtgondiedehjkhaaGreatDoor
