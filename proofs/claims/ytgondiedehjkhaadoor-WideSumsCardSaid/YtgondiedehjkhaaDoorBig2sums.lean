/-
 Digits of 32 bits: as a wide number, and a quotient of a number below 0.
-/
import Derived.Test.YtgondiedehjkhaaDoorW02jsums
import Derived.Test.YtgondiedehjkhaaDoorMulmsums
namespace Go.Proofs.YtgondiedehjkhaaDoor
theorem to_small (x : Int) (h0 : 0 ≤ x) (h1 : x < 170141183460469231731687303715884105728) :
   dg x 3 < 2147483648 ∧ dg x 3 * 4294967296 + dg x 2 = x / 18446744073709551616 ∧ dg x 1 * 4294967296 + dg x 0 = x % 18446744073709551616 ∧ ∀ k, 4 ≤ k → dg x k = 0 := by
 obtain ⟨d0, d1, d2, d3, d4⟩ := wide_digits x h0 h1
 rw [d0, d1, d2, d3]
 exact ⟨by omega, by omega, by omega, d4⟩
theorem to_large (x : Int) (h0 : 170141183460469231731687303715884105728 ≤ x) (h1 : x < B8) (h4 : ∀ j, 4 ≤ j → j < 8 → dg x j = 0) : 2147483648 ≤ dg x 3 := by
 have e8 := up_top x (by omega) h1
 have e7 := up_eq x 7
 have e6 := up_eq x 6
 have e5 := up_eq x 5
 have e4 := up_eq x 4
 have e3 := up_eq x 3
 rw [e8, h4 7 (by omega) (by omega)] at e7
 rw [e7, h4 6 (by omega) (by omega)] at e6
 rw [e6, h4 5 (by omega) (by omega)] at e5
 rw [e5, h4 4 (by omega) (by omega)] at e4
 rw [e4] at e3
 have h3 : (2147483648 : Int) ≤ x / BS ^ 3 := by
   rw [Int.le_ediv_iff_mul_le (BS_pos 3), show (BS ^ 3 : Int) = 79228162514264337593543950336 by decide]
   omega
 omega
end Go.Proofs.YtgondiedehjkhaaDoor
