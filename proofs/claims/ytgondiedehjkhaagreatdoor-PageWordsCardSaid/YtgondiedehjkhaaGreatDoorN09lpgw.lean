/-
 Layer 9's blobs: the mathematics.
-/
import Derived.Test.YtgondiedehjkhaaGreatDoorZ6bpgw
import Derived.Test.YtgondiedehjkhaaGreatDoorN09pgw
import Derived.Test.YtgondiedehjkhaaGreatDoorE00pgw
import Derived.Test.YtgondiedehjkhaaGreatDoorSyopgw
namespace Go.Proofs.YtgondiedehjkhaaGreatDoor
open Go.RowKit Go.Extern.Stop Go.Stop Go.Extern Go.Proofs.YtgondiedehjkhaaGreatDoor.Sy
set_option linter.unusedVariables false
set_option linter.unusedSimpArgs false
theorem numB_add : ∀ (n : Nat) (v k : Int), numB (v + k * 256 ^ n) n = numB v n
 | 0, _, _ => rfl
 | n + 1, v, k => by
   have e : v + k * 256 ^ (n + 1) = v + (k * 256 ^ n) * 256 := by rw [Int.pow_succ, Int.mul_assoc]
   have h1 : (v + k * 256 ^ (n + 1)) % 256 = v % 256 := by rw [e]; omega
   have h2 : (v + k * 256 ^ (n + 1)) / 256 = v / 256 + k * 256 ^ n := by rw [e]; omega
   simp only [numB, h1, h2, numB_add n]
theorem numB_u64 {v : Int} (h0 : -9223372036854775808 ≤ v) (h1 : v ≤ 9223372036854775807) : numB (IntKind.wrap .u64 v) 8 = numB v 8 := by
 have hw : IntKind.wrap .u64 v = v % 18446744073709551616 := rfl
 by_cases h : 0 ≤ v
 · rw [hw, show v % 18446744073709551616 = v by omega]
 · have := numB_add 8 v 1
   rw [show (1 : Int) * 256 ^ 8 = 18446744073709551616 by decide] at this
   rw [hw, show v % 18446744073709551616 = v + 18446744073709551616 by omega, this]
def rest (X : List UInt8) : Nat → List UInt8 × Bool
 | 0 => (getL (getL (getL X 8) 8) 1, getS (getL (getL X 8) 8) (getS (getL X 8) (getS X false 8) 8) 1)
 | j + 1 => (getL (rest X j).1 8, getS (rest X j).1 (rest X j).2 8)
theorem n8 (v : Int) : (byL (numB v 8)).length = 8 := by rw [byL_len, numB_len]
end Go.Proofs.YtgondiedehjkhaaGreatDoor
