/-
 Digits of 32 bits: as a wide number, and a quotient of a number below 0.
-/
import Derived.Test.YtgondiedehjkhaaGreatDoorMulmpgw
import Derived.Test.YtgondiedehjkhaaGreatDoorW02jpgw
namespace Go.Proofs.YtgondiedehjkhaaGreatDoor
def bitA (x : Int) (i : Nat) : Int := x / 2 ^ i % 2
theorem two_pos (i : Nat) : (0 : Int) < 2 ^ i := Int.pow_pos (by decide)
theorem half_succ (x : Int) (i : Nat) : x / 2 ^ i = 2 * (x / 2 ^ (i + 1)) + bitA x i := by
 unfold bitA
 rw [Int.pow_succ, ← Int.ediv_ediv_of_nonneg (Int.le_of_lt (two_pos i))]
 omega
theorem bit_rng (x : Int) (i : Nat) : 0 ≤ bitA x i ∧ bitA x i ≤ 1 := by unfold bitA; omega
theorem div_in (x d : Int) (i : Nat) (hd : 0 < d) (h : d ≤ 2 * (x / 2 ^ (i + 1) % d) + bitA x i) :
   2 * (x / 2 ^ (i + 1) % d) + bitA x i - d = x / 2 ^ i % d ∧ 2 * (x / 2 ^ (i + 1) / d) + 1 = x / 2 ^ i / d := by
 have hb := bit_rng x i
 rw [half_succ x i]
 generalize x / 2 ^ (i + 1) = y at *
 generalize bitA x i = b at *
 have e := Int.mul_ediv_add_emod y d
 have r0 := Int.emod_nonneg y (Int.ne_of_gt hd)
 have r1 := Int.emod_lt_of_pos y hd
 generalize y / d = q at *
 generalize y % d = r at *
 have h2 : d * (2 * q + 1) = 2 * (d * q) + d := by rw [Int.mul_add, Int.mul_one, ← Int.mul_assoc, Int.mul_comm d 2, Int.mul_assoc]
 have hs : 2 * y + b = (2 * r + b - d) + d * (2 * q + 1) := by rw [h2]; omega
 clear h2 e
 rw [hs, Int.add_mul_emod_self_left, Int.add_mul_ediv_left _ _ (Int.ne_of_gt hd), Int.emod_eq_of_lt (by omega) (by omega), Int.ediv_eq_zero_of_lt (by omega) (by omega)]
 exact ⟨rfl, by omega⟩
theorem div_out (x d : Int) (i : Nat) (hd : 0 < d) (h : 2 * (x / 2 ^ (i + 1) % d) + bitA x i < d) :
   2 * (x / 2 ^ (i + 1) % d) + bitA x i = x / 2 ^ i % d ∧ 2 * (x / 2 ^ (i + 1) / d) + 0 = x / 2 ^ i / d := by
 have hb := bit_rng x i
 rw [half_succ x i]
 generalize x / 2 ^ (i + 1) = y at *
 generalize bitA x i = b at *
 have e := Int.mul_ediv_add_emod y d
 have r0 := Int.emod_nonneg y (Int.ne_of_gt hd)
 generalize y / d = q at *
 generalize y % d = r at *
 have h2 : d * (2 * q) = 2 * (d * q) := by rw [← Int.mul_assoc, Int.mul_comm d 2, Int.mul_assoc]
 have hs : 2 * y + b = (2 * r + b) + d * (2 * q) := by rw [h2]; omega
 clear h2 e
 rw [hs, Int.add_mul_emod_self_left, Int.add_mul_ediv_left _ _ (Int.ne_of_gt hd), Int.emod_eq_of_lt (by omega) (by omega), Int.ediv_eq_zero_of_lt (by omega) (by omega)]
 exact ⟨rfl, by omega⟩
theorem bit_dg (x : Int) (i : Nat) : dg x (i / 32) / 2 ^ (i % 32) % 2 = bitA x i := by
 unfold dg bitA
 have e1 : (BS : Int) ^ (i / 32) = 2 ^ (32 * (i / 32)) := by
   rw [show (BS : Int) = 2 ^ 32 from by decide, ← Int.pow_mul]
 have e2 : (4294967296 : Int) = 2 ^ (i % 32) * (2 * 2 ^ (31 - i % 32)) := by
   rw [show (2 : Int) * 2 ^ (31 - i % 32) = 2 ^ (31 - i % 32 + 1) by rw [Int.pow_succ, Int.mul_comm], ← Int.pow_add, show i % 32 + (31 - i % 32 + 1) = 32 by omega]
   decide
 have e3 : x / 2 ^ i = x / 2 ^ (32 * (i / 32)) / 2 ^ (i % 32) := by
   rw [Int.ediv_ediv_of_nonneg (Int.le_of_lt (two_pos _)), ← Int.pow_add, show 32 * (i / 32) + i % 32 = i by omega]
 rw [e1, e3]
 generalize x / 2 ^ (32 * (i / 32)) = y
 have hp := two_pos (i % 32)
 have hy := Int.emod_add_mul_ediv y 4294967296
 generalize hz : y / 4294967296 = z at hy
 generalize hr : y % 4294967296 = r at hy
 rw [← hy, e2, Int.mul_assoc (2 ^ (i % 32)), Int.add_mul_ediv_left _ _ (Int.ne_of_gt hp), Int.mul_assoc 2]
 omega
end Go.Proofs.YtgondiedehjkhaaGreatDoor
namespace Go.Proofs.YtgondiedehjkhaaGreatDoor
theorem to_small (x : Int) (h0 : 0 ≤ x) (h1 : x < 170141183460469231731687303715884105728) :
   dg x 3 < 2147483648 ∧ dg x 3 * 4294967296 + dg x 2 = x / 18446744073709551616 ∧ dg x 1 * 4294967296 + dg x 0 = x % 18446744073709551616 ∧ ∀ k, 4 ≤ k → dg x k = 0 := by
 obtain ⟨d0, d1, d2, d3, d4⟩ := wide_digits x h0 h1
 rw [d0, d1, d2, d3]
 exact ⟨by omega, by omega, by omega, d4⟩
theorem to_large (x : Int) (h0 : 170141183460469231731687303715884105728 ≤ x) (h1 : x < B8) (h4 : ∀ j, 4 ≤ j → j < 8 → dg x j = 0) : 2147483648 ≤ dg x 3 := by
 have e8 := up_top x (by omega) h1
 have e7 := up_eq x 7
 have e6 := up_eq x 6
 have e5 := up_eq x 5
 have e4 := up_eq x 4
 have e3 := up_eq x 3
 rw [e8, h4 7 (by omega) (by omega)] at e7
 rw [e7, h4 6 (by omega) (by omega)] at e6
 rw [e6, h4 5 (by omega) (by omega)] at e5
 rw [e5, h4 4 (by omega) (by omega)] at e4
 rw [e4] at e3
 have h3 : (2147483648 : Int) ≤ x / BS ^ 3 := by
   rw [Int.le_ediv_iff_mul_le (BS_pos 3), show (BS ^ 3 : Int) = 79228162514264337593543950336 by decide]
   omega
 omega
end Go.Proofs.YtgondiedehjkhaaGreatDoor
