/-
 Digits of 32 bits: as a wide number, and a quotient of a number below 0.
-/
import Derived.Test.YtgondiedehjkhaaDoorW02jforms
import Derived.Test.YtgondiedehjkhaaDoorDivmforms
namespace Go.Proofs.YtgondiedehjkhaaDoor
theorem to_small (x : Int) (h0 : 0 ≤ x) (h1 : x < 170141183460469231731687303715884105728) :
   dg x 3 < 2147483648 ∧ dg x 3 * 4294967296 + dg x 2 = x / 18446744073709551616 ∧ dg x 1 * 4294967296 + dg x 0 = x % 18446744073709551616 ∧ ∀ k, 4 ≤ k → dg x k = 0 := by
 obtain ⟨d0, d1, d2, d3, d4⟩ := wide_digits x h0 h1
 rw [d0, d1, d2, d3]
 exact ⟨by omega, by omega, by omega, d4⟩
theorem to_large (x : Int) (h0 : 170141183460469231731687303715884105728 ≤ x) (h1 : x < B8) (h4 : ∀ j, 4 ≤ j → j < 8 → dg x j = 0) : 2147483648 ≤ dg x 3 := by
 have e8 := up_top x (by omega) h1
 have e7 := up_eq x 7
 have e6 := up_eq x 6
 have e5 := up_eq x 5
 have e4 := up_eq x 4
 have e3 := up_eq x 3
 rw [e8, h4 7 (by omega) (by omega)] at e7
 rw [e7, h4 6 (by omega) (by omega)] at e6
 rw [e6, h4 5 (by omega) (by omega)] at e5
 rw [e5, h4 4 (by omega) (by omega)] at e4
 rw [e4] at e3
 have h3 : (2147483648 : Int) ≤ x / BS ^ 3 := by
   rw [Int.le_ediv_iff_mul_le (BS_pos 3), show (BS ^ 3 : Int) = 79228162514264337593543950336 by decide]
   omega
 omega
theorem neg_div0 {X D : Int} (hD : 0 < D) (h : X % D = 0) : -X / D = -(X / D) ∧ -X % D = 0 := by
 have e := Int.mul_ediv_add_emod X D
 rw [h] at e
 generalize X / D = q at *
 have h2 : -X = 0 + D * (-q) := by rw [Int.mul_neg]; omega
 rw [h2, Int.add_mul_ediv_left _ _ (Int.ne_of_gt hD), Int.add_mul_emod_self_left]
 simp
theorem neg_div1 {X D : Int} (hD : 0 < D) (h : X % D ≠ 0) : -X / D = -(X / D) + -1 ∧ -X % D = D - X % D := by
 have e := Int.mul_ediv_add_emod X D
 have r0 := Int.emod_nonneg X (Int.ne_of_gt hD)
 have r1 := Int.emod_lt_of_pos X hD
 generalize X / D = q at *
 generalize X % D = r at *
 have h2 : -X = (D - r) + D * (-q + -1) := by rw [Int.mul_add, Int.mul_neg, Int.mul_neg, Int.mul_one]; omega
 rw [h2, Int.add_mul_ediv_left _ _ (Int.ne_of_gt hD), Int.add_mul_emod_self_left, Int.emod_eq_of_lt (by omega) (by omega), Int.ediv_eq_zero_of_lt (by omega) (by omega)]
 exact ⟨by omega, rfl⟩
end Go.Proofs.YtgondiedehjkhaaDoor
