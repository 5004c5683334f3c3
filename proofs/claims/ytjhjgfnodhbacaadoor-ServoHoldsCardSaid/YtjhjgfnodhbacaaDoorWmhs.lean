/-
  The arithmetic of numbers of 128 bits.
-/
import Derived.ProofKit
namespace Go.Proofs.YtjhjgfnodhbacaaDoor
open Go.RowKit Go.Extern.Stop Go.Stop Go.Extern
set_option linter.unusedVariables false
set_option linter.unusedSimpArgs false

theorem split {q y a b : Int} (hy : y = a * 4294967296 + b) : q * y = (q * a) * 4294967296 + q * b := by
  rw [hy, Int.mul_add, Int.mul_assoc]
theorem start {un y a b : Int} (hy : y = a * 4294967296 + b) (ha : 2147483648 ≤ a) (hb : 0 ≤ b) (hb1 : b < 4294967296) (hu0 : 0 ≤ un) (hu : un < y) (u1 : Int) (h1 : u1 < 4294967296) :
    un * 4294967296 + u1 < (un / a + 1) * y ∧ 0 ≤ un / a ∧ un / a ≤ 4294967297 ∧ (un / a) * a + un % a = un ∧ 0 ≤ un % a ∧ un % a < a := by
  have h2 : (un / a) * a + un % a = un := by rw [Int.mul_comm]; exact Int.mul_ediv_add_emod un a
  have h3 : 0 ≤ un % a := Int.emod_nonneg _ (by omega)
  have h4 : un % a < a := Int.emod_lt_of_pos _ (by omega)
  have h5 : 0 ≤ un / a := Int.ediv_nonneg hu0 (by omega)
  have h6 : un / a ≤ 4294967297 := by
    have : un / a < 4294967298 := Int.ediv_lt_of_lt_mul (by omega) (by omega)
    omega
  refine ⟨?_, h5, h6, h2, h3, h4⟩
  have h7 := split (q := un / a + 1) hy
  have h8 : (un / a + 1) * a = (un / a) * a + a := by rw [Int.add_mul, Int.one_mul]
  have h9 : 0 ≤ (un / a + 1) * b := Int.mul_nonneg (by omega) hb
  rw [h7, h8]
  generalize (un / a) * a = A at *
  generalize (un / a + 1) * b = C at *
  omega
theorem fits {q r un y a b u1 : Int} (hy : y = a * 4294967296 + b) (hq : q * a + r = un) (h : q * b ≤ 4294967296 * r + u1) : q * y ≤ un * 4294967296 + u1 := by
  rw [split hy]; generalize q * a = A at *; generalize q * b = C at *; omega
theorem down {q r un a : Int} (hq : q * a + r = un) : (q - 1) * a + (r + a) = un := by
  rw [Int.sub_mul, Int.one_mul]; generalize q * a = A at *; omega
theorem right {q y n : Int} (hy : 0 < y) (h1 : q * y ≤ n) (h2 : n < (q + 1) * y) : n / y = q ∧ n - q * y = n % y := by
  rw [Int.add_mul, Int.one_mul] at h2
  have h3 : n = (n - q * y) + q * y := by omega
  have h4 : n % y = n - q * y := by
    rw [h3, Int.add_mul_emod_self_right, Int.emod_eq_of_lt (by omega) (by omega)]; omega
  refine ⟨?_, h4.symm⟩
  have h5 := Int.mul_ediv_add_emod n y
  rw [h4, Int.mul_comm] at h5
  have h6 : (n / y) * y = q * y := by omega
  exact Int.eq_of_mul_eq_mul_right (by omega) h6
theorem both {h l d p y un u1 u0 q1 q0 v r : Int} (hp : 0 < p) (hd : 0 < d) (hy : y = d * p) (hX : (h * 18446744073709551616 + l) * p = (un * 4294967296 + u1) * 4294967296 + u0)
    (e1 : un * 4294967296 + u1 = q1 * y + v) (e0 : v * 4294967296 + u0 = q0 * y + r) (hr0 : 0 ≤ r) (hr : r < y) :
    (h * 18446744073709551616 + l) / d = q1 * 4294967296 + q0 ∧ r / p = (h * 18446744073709551616 + l) % d := by
  generalize h * 18446744073709551616 + l = X at *
  have h1 : X * p = (q1 * 4294967296 + q0) * y + r := by
    rw [hX, e1, Int.add_mul, Int.add_mul]
    have : q1 * y * 4294967296 = q1 * 4294967296 * y := by rw [Int.mul_assoc, Int.mul_comm y, ← Int.mul_assoc]
    generalize q0 * y = A at *; generalize q1 * 4294967296 * y = C at *; omega
  generalize q1 * 4294967296 + q0 = Q at *
  have h2 : r = (X - Q * d) * p := by
    rw [Int.sub_mul, h1, hy, Int.mul_assoc]; omega
  have h3 : 0 ≤ X - Q * d := by
    rcases Int.lt_or_le (X - Q * d) 0 with h | h
    · have := Int.mul_neg_of_neg_of_pos h hp; omega
    · exact h
  have h4 : X - Q * d < d := by
    rw [h2, hy] at hr; exact Int.lt_of_mul_lt_mul_right hr (by omega)
  have h5 := right (q := Q) (n := X) hd (by omega) (by rw [Int.add_mul]; omega)
  refine ⟨h5.1, ?_⟩
  rw [h2, Int.mul_ediv_cancel _ (by omega)]; exact h5.2


end Go.Proofs.YtjhjgfnodhbacaaDoor
