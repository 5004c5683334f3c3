/-
 The arithmetic of numbers of 128 bits.
-/
import Derived.ProofKit
namespace Go.Proofs.YtgondiedehjkhaaGreatDoor
open Go.RowKit Go.Extern.Stop Go.Stop Go.Extern
set_option linter.unusedVariables false
set_option linter.unusedSimpArgs false

theorem split {q y a b : Int} (hy : y = a * 4294967296 + b) : q * y = (q * a) * 4294967296 + q * b := by
 rw [hy, Int.mul_add, Int.mul_assoc]
theorem start {un y a b : Int} (hy : y = a * 4294967296 + b) (ha : 2147483648 ≤ a) (hb : 0 ≤ b) (hb1 : b < 4294967296) (hu0 : 0 ≤ un) (hu : un < y) (u1 : Int) (h1 : u1 < 4294967296) :
   un * 4294967296 + u1 < (un / a + 1) * y ∧ 0 ≤ un / a ∧ un / a ≤ 4294967297 ∧ (un / a) * a + un % a = un ∧ 0 ≤ un % a ∧ un % a < a := by
 have h2 : (un / a) * a + un % a = un := by rw [Int.mul_comm]; exact Int.mul_ediv_add_emod un a
 have h3 : 0 ≤ un % a := Int.emod_nonneg _ (by omega)
 have h4 : un % a < a := Int.emod_lt_of_pos _ (by omega)
 have h5 : 0 ≤ un / a := Int.ediv_nonneg hu0 (by omega)
 have h6 : un / a ≤ 4294967297 := by
   have : un / a < 4294967298 := Int.ediv_lt_of_lt_mul (by omega) (by omega)
   omega
 refine ⟨?_, h5, h6, h2, h3, h4⟩
 have h7 := split (q := un / a + 1) hy
 have h8 : (un / a + 1) * a = (un / a) * a + a := by rw [Int.add_mul, Int.one_mul]
 have h9 : 0 ≤ (un / a + 1) * b := Int.mul_nonneg (by omega) hb
 rw [h7, h8]
 generalize (un / a) * a = A at *
 generalize (un / a + 1) * b = C at *
 omega
theorem fits {q r un y a b u1 : Int} (hy : y = a * 4294967296 + b) (hq : q * a + r = un) (h : q * b ≤ 4294967296 * r + u1) : q * y ≤ un * 4294967296 + u1 := by
 rw [split hy]; generalize q * a = A at *; generalize q * b = C at *; omega
theorem down {q r un a : Int} (hq : q * a + r = un) : (q - 1) * a + (r + a) = un := by
 rw [Int.sub_mul, Int.one_mul]; generalize q * a = A at *; omega
theorem right {q y n : Int} (hy : 0 < y) (h1 : q * y ≤ n) (h2 : n < (q + 1) * y) : n / y = q ∧ n - q * y = n % y := by
 rw [Int.add_mul, Int.one_mul] at h2
 have h3 : n = (n - q * y) + q * y := by omega
 have h4 : n % y = n - q * y := by
   rw [h3, Int.add_mul_emod_self_right, Int.emod_eq_of_lt (by omega) (by omega)]; omega
 refine ⟨?_, h4.symm⟩
 have h5 := Int.mul_ediv_add_emod n y
 rw [h4, Int.mul_comm] at h5
 have h6 : (n / y) * y = q * y := by omega
 exact Int.eq_of_mul_eq_mul_right (by omega) h6
theorem below {n y : Int} (hy : 0 < y) (h0 : 0 ≤ n) {un u1 : Int} (hn : n = un * 4294967296 + u1) (hu : un < y) (h1 : u1 < 4294967296) : 0 ≤ n / y ∧ n / y < 4294967296 :=
 ⟨Int.ediv_nonneg h0 (by omega), Int.ediv_lt_of_lt_mul hy (by omega)⟩
theorem mul_rng {a b : Int} (ha : -9223372036854775808 ≤ a ∧ a ≤ 9223372036854775807) (hb : -9223372036854775808 ≤ b ∧ b ≤ 9223372036854775807) : -85070591730234615865843651857942052864 ≤ a * b ∧ a * b ≤ 85070591730234615865843651857942052864 := by
 have h : (a * b).natAbs ≤ 9223372036854775808 * 9223372036854775808 := by
   rw [Int.natAbs_mul]; exact Nat.mul_le_mul (by omega) (by omega)
 omega
end Go.Proofs.YtgondiedehjkhaaGreatDoor
