/-
 The arithmetic of numbers of 128 bits.
-/
import Derived.ProofKit
namespace Go.Proofs.YtgondiedehjkhaaDoor
open Go.RowKit Go.Extern.Stop Go.Stop Go.Extern
set_option linter.unusedVariables false
set_option linter.unusedSimpArgs false

theorem split {q y a b : Int} (hy : y = a * 4294967296 + b) : q * y = (q * a) * 4294967296 + q * b := by
 rw [hy, Int.mul_add, Int.mul_assoc]
theorem start {un y a b : Int} (hy : y = a * 4294967296 + b) (ha : 2147483648 ≤ a) (hb : 0 ≤ b) (hb1 : b < 4294967296) (hu0 : 0 ≤ un) (hu : un < y) (u1 : Int) (h1 : u1 < 4294967296) :
   un * 4294967296 + u1 < (un / a + 1) * y ∧ 0 ≤ un / a ∧ un / a ≤ 4294967297 ∧ (un / a) * a + un % a = un ∧ 0 ≤ un % a ∧ un % a < a := by
 have h2 : (un / a) * a + un % a = un := by rw [Int.mul_comm]; exact Int.mul_ediv_add_emod un a
 have h3 : 0 ≤ un % a := Int.emod_nonneg _ (by omega)
 have h4 : un % a < a := Int.emod_lt_of_pos _ (by omega)
 have h5 : 0 ≤ un / a := Int.ediv_nonneg hu0 (by omega)
 have h6 : un / a ≤ 4294967297 := by
   have : un / a < 4294967298 := Int.ediv_lt_of_lt_mul (by omega) (by omega)
   omega
 refine ⟨?_, h5, h6, h2, h3, h4⟩
 have h7 := split (q := un / a + 1) hy
 have h8 : (un / a + 1) * a = (un / a) * a + a := by rw [Int.add_mul, Int.one_mul]
 have h9 : 0 ≤ (un / a + 1) * b := Int.mul_nonneg (by omega) hb
 rw [h7, h8]
 generalize (un / a) * a = A at *
 generalize (un / a + 1) * b = C at *
 omega
theorem over {q r un y a b u1 : Int} (hy : y = a * 4294967296 + b) (hq : q * a + r = un) (h : q * b > 4294967296 * r + u1) : un * 4294967296 + u1 < q * y := by
 rw [split hy]; generalize q * a = A at *; generalize q * b = C at *; omega
theorem over2 {q un y u1 : Int} (hy0 : 0 ≤ y) (hu : un < y) (h1 : u1 < 4294967296) (h : 4294967296 ≤ q) : un * 4294967296 + u1 < q * y := by
 have : 4294967296 * y ≤ q * y := Int.mul_le_mul_of_nonneg_right h hy0
 generalize q * y = A at *; omega
theorem fits {q r un y a b u1 : Int} (hy : y = a * 4294967296 + b) (hq : q * a + r = un) (h : q * b ≤ 4294967296 * r + u1) : q * y ≤ un * 4294967296 + u1 := by
 rw [split hy]; generalize q * a = A at *; generalize q * b = C at *; omega
theorem fits2 {q r un y a b u1 : Int} (hy : y = a * 4294967296 + b) (hq : q * a + r = un) (hb : 0 ≤ b) (hb1 : b < 4294967296) (h1 : 0 ≤ u1) (hq1 : q ≤ 4294967297) (hr : 4294967296 ≤ r) : q * y ≤ un * 4294967296 + u1 := by
 refine fits hy hq ?_
 have : q * b ≤ 4294967297 * b := Int.mul_le_mul_of_nonneg_right hq1 hb
 generalize q * b = C at *; omega
theorem down {q r un a : Int} (hq : q * a + r = un) : (q - 1) * a + (r + a) = un := by
 rw [Int.sub_mul, Int.one_mul]; generalize q * a = A at *; omega
theorem right {q y n : Int} (hy : 0 < y) (h1 : q * y ≤ n) (h2 : n < (q + 1) * y) : n / y = q ∧ n - q * y = n % y := by
 rw [Int.add_mul, Int.one_mul] at h2
 have h3 : n = (n - q * y) + q * y := by omega
 have h4 : n % y = n - q * y := by
   rw [h3, Int.add_mul_emod_self_right, Int.emod_eq_of_lt (by omega) (by omega)]; omega
 refine ⟨?_, h4.symm⟩
 have h5 := Int.mul_ediv_add_emod n y
 rw [h4, Int.mul_comm] at h5
 have h6 : (n / y) * y = q * y := by omega
 exact Int.eq_of_mul_eq_mul_right (by omega) h6
theorem below {n y : Int} (hy : 0 < y) (h0 : 0 ≤ n) {un u1 : Int} (hn : n = un * 4294967296 + u1) (hu : un < y) (h1 : u1 < 4294967296) : 0 ≤ n / y ∧ n / y < 4294967296 :=
 ⟨Int.ediv_nonneg h0 (by omega), Int.ediv_lt_of_lt_mul hy (by omega)⟩
theorem both {h l d p y un u1 u0 q1 q0 v r : Int} (hp : 0 < p) (hd : 0 < d) (hy : y = d * p) (hX : (h * 18446744073709551616 + l) * p = (un * 4294967296 + u1) * 4294967296 + u0)
   (e1 : un * 4294967296 + u1 = q1 * y + v) (e0 : v * 4294967296 + u0 = q0 * y + r) (hr0 : 0 ≤ r) (hr : r < y) :
   (h * 18446744073709551616 + l) / d = q1 * 4294967296 + q0 ∧ r / p = (h * 18446744073709551616 + l) % d := by
 generalize h * 18446744073709551616 + l = X at *
 have h1 : X * p = (q1 * 4294967296 + q0) * y + r := by
   rw [hX, e1, Int.add_mul, Int.add_mul]
   have : q1 * y * 4294967296 = q1 * 4294967296 * y := by rw [Int.mul_assoc, Int.mul_comm y, ← Int.mul_assoc]
   generalize q0 * y = A at *; generalize q1 * 4294967296 * y = C at *; omega
 generalize q1 * 4294967296 + q0 = Q at *
 have h2 : r = (X - Q * d) * p := by
   rw [Int.sub_mul, h1, hy, Int.mul_assoc]; omega
 have h3 : 0 ≤ X - Q * d := by
   rcases Int.lt_or_le (X - Q * d) 0 with h | h
   · have := Int.mul_neg_of_neg_of_pos h hp; omega
   · exact h
 have h4 : X - Q * d < d := by
   rw [h2, hy] at hr; exact Int.lt_of_mul_lt_mul_right hr (by omega)
 have h5 := right (q := Q) (n := X) hd (by omega) (by rw [Int.add_mul]; omega)
 refine ⟨h5.1, ?_⟩
 rw [h2, Int.mul_ediv_cancel _ (by omega)]; exact h5.2


theorem halves (x : Int) : x = x / 18446744073709551616 * 18446744073709551616 + x % 18446744073709551616 := by omega
theorem mul_rng {a b : Int} (ha : -9223372036854775808 ≤ a ∧ a ≤ 9223372036854775807) (hb : -9223372036854775808 ≤ b ∧ b ≤ 9223372036854775807) : -85070591730234615865843651857942052864 ≤ a * b ∧ a * b ≤ 85070591730234615865843651857942052864 := by
 have h : (a * b).natAbs ≤ 9223372036854775808 * 9223372036854775808 := by
   rw [Int.natAbs_mul]; exact Nat.mul_le_mul (by omega) (by omega)
 omega
theorem u_neg {a : Int} (ha : -9223372036854775808 ≤ a ∧ a ≤ 9223372036854775807) (h : a < 0) : a % 18446744073709551616 = a + 18446744073709551616 := by omega
theorem u_pos {a : Int} (ha : -9223372036854775808 ≤ a ∧ a ≤ 9223372036854775807) (h : 0 ≤ a) : a % 18446744073709551616 = a := by omega
theorem mul_nn (a b : Int) : (a + 18446744073709551616) * (b + 18446744073709551616) = a * b + 18446744073709551616 * (a + b + 18446744073709551616) := by
 rw [Int.add_mul, Int.mul_add, Int.mul_add]; generalize a * b = X; omega
theorem mul_np (a b : Int) : (a + 18446744073709551616) * b = a * b + 18446744073709551616 * b := by rw [Int.add_mul]
theorem mul_pn (a b : Int) : a * (b + 18446744073709551616) = a * b + 18446744073709551616 * a := by rw [Int.mul_add]; omega
theorem shr_lo {x p q : Int} (hp : 0 < p) (hq : 0 < q) (hpq : p * q = 18446744073709551616) :
   x % 18446744073709551616 / p + (x / 18446744073709551616 % 18446744073709551616 * q) % 18446744073709551616 = (x / p) % 18446744073709551616 ∧ x % 18446744073709551616 / p < q ∧ (x / 18446744073709551616 % 18446744073709551616 * q) % 18446744073709551616 = q * (x / 18446744073709551616 % p) := by
 have h1 := halves x
 generalize x / 18446744073709551616 = h at *
 have h2 : 0 ≤ x % 18446744073709551616 := by omega
 have h3 : x % 18446744073709551616 < 18446744073709551616 := by omega
 generalize x % 18446744073709551616 = l at *
 have e1 : (h % 18446744073709551616 * q) % 18446744073709551616 = q * (h % p) := by
   rw [Int.mul_comm, ← hpq, Int.mul_comm p q, Int.mul_emod_mul_of_pos _ _ hq]
   congr 1; rw [Int.mul_comm q p]; exact Int.emod_emod_of_dvd h (Int.dvd_mul_right p q)
 have e2 : l / p < q := Int.ediv_lt_of_lt_mul hp (by rw [Int.mul_comm]; omega)
 have e3 : 0 ≤ l / p := Int.ediv_nonneg h2 (by omega)
 have e4 : x / p = h * q + l / p := by
   rw [h1, ← hpq, Int.mul_comm p q, ← Int.mul_assoc, Int.add_comm, Int.add_mul_ediv_right _ _ (by omega), Int.add_comm]
 refine ⟨?_, e2, e1⟩
 rw [e1, e4]
 have e5 : h * q = q * (h % p) + (h / p) * 18446744073709551616 := by
   rw [← hpq, ← Int.mul_assoc, Int.mul_comm q, ← Int.add_mul]
   congr 1; rw [Int.add_comm]; exact (Int.ediv_mul_add_emod h p).symm
 have e6 : q * (h % p) ≤ q * (p - 1) := Int.mul_le_mul_of_nonneg_left (by have := Int.emod_lt_of_pos h hp; omega) (by omega)
 have e7 : 0 ≤ q * (h % p) := Int.mul_nonneg (by omega) (Int.emod_nonneg _ (by omega))
 have e8 : q * (p - 1) = 18446744073709551616 - q := by rw [Int.mul_sub, Int.mul_comm q p, hpq]; omega
 rw [e5]
 generalize q * (h % p) = A at *; generalize l / p = C at *; generalize h / p = D at *
 omega
theorem shr_hi {x p : Int} (hp : 0 < p) : x / p / 18446744073709551616 = x / 18446744073709551616 / p := by
 rw [Int.ediv_ediv_of_nonneg (by omega), Int.ediv_ediv_of_nonneg (by omega), Int.mul_comm]
theorem div_pos {x d : Int} (hx : 0 ≤ x) (hd : 0 < d) (hd1 : d ≤ 9223372036854775807) :
   x / d / 18446744073709551616 = x / 18446744073709551616 / d ∧ (x / d) % 18446744073709551616 = (x / 18446744073709551616 % d * 18446744073709551616 + x % 18446744073709551616) / d ∧ x % d = (x / 18446744073709551616 % d * 18446744073709551616 + x % 18446744073709551616) % d := by
 have h1 := halves x
 have h0 : 0 ≤ x / 18446744073709551616 := by omega
 generalize hh : x / 18446744073709551616 = h at *
 have h2 : 0 ≤ x % 18446744073709551616 := by omega
 have h3 : x % 18446744073709551616 < 18446744073709551616 := by omega
 generalize x % 18446744073709551616 = l at *
 have e1 : x = (h % d * 18446744073709551616 + l) + d * (h / d * 18446744073709551616) := by
   have := Int.mul_ediv_add_emod h d
   rw [← Int.mul_assoc, h1]
   generalize d * (h / d) = A at *
   omega
 have e2 : x / d = (h % d * 18446744073709551616 + l) / d + h / d * 18446744073709551616 := by
   rw [e1, Int.add_mul_ediv_left _ _ (by omega)]
 have e3 : x % d = (h % d * 18446744073709551616 + l) % d := by
   rw [e1, Int.add_mul_emod_self_left]
 have e4 : h % d < d := Int.emod_lt_of_pos _ hd
 have e5 : 0 ≤ h % d := Int.emod_nonneg _ (by omega)
 have e6 : (h % d * 18446744073709551616 + l) / d < 18446744073709551616 := Int.ediv_lt_of_lt_mul hd (by omega)
 have e7 : 0 ≤ (h % d * 18446744073709551616 + l) / d := Int.ediv_nonneg (by omega) (by omega)
 refine ⟨?_, ?_, e3⟩
 · have := shr_hi (x := x) hd; rw [hh] at this; exact this
 · rw [e2]; generalize (h % d * 18446744073709551616 + l) / d = A at *; generalize h / d = C at *; omega
theorem div_neg {x d : Int} (hd : 0 < d) : x / d = -1 - (-1 - x) / d ∧ x % d = d - 1 - (-1 - x) % d := by
 have h1 := Int.mul_ediv_add_emod (-1 - x) d
 have h2 : (-1 - x) % d < d := Int.emod_lt_of_pos _ hd
 have h3 : 0 ≤ (-1 - x) % d := Int.emod_nonneg _ (by omega)
 have h4 : (-1 - (-1 - x) / d) * d = -d - d * ((-1 - x) / d) := by rw [Int.sub_mul, Int.mul_comm ((-1 - x) / d)]; omega
 generalize (-1 - x) / d = Q at *; generalize (-1 - x) % d = R at *
 generalize d * Q = A at *
 have h5 : x / d = -1 - Q := by
   apply Int.le_antisymm
   · exact Int.le_of_lt_add_one (Int.ediv_lt_of_lt_mul hd (by rw [Int.add_mul, Int.one_mul, h4]; omega))
   · exact Int.le_ediv_of_mul_le hd (by rw [h4]; omega)
 refine ⟨h5, ?_⟩
 have h6 := Int.mul_ediv_add_emod x d
 rw [h5, Int.mul_comm, h4] at h6
 omega
theorem wdiv_rng {x d : Int} (hx : -170141183460469231731687303715884105728 ≤ x ∧ x ≤ 170141183460469231731687303715884105727) (hd : 1 ≤ d) : -170141183460469231731687303715884105728 ≤ x / d ∧ x / d ≤ 170141183460469231731687303715884105727 := by
 constructor
 · refine Int.le_ediv_of_mul_le (by omega) ?_
   have : 170141183460469231731687303715884105728 * 1 ≤ 170141183460469231731687303715884105728 * d := Int.mul_le_mul_of_nonneg_left hd (by omega)
   omega
 · refine Int.le_of_lt_add_one (Int.ediv_lt_of_lt_mul (by omega) ?_)
   have : 170141183460469231731687303715884105728 * 1 ≤ 170141183460469231731687303715884105728 * d := Int.mul_le_mul_of_nonneg_left hd (by omega)
   omega

end Go.Proofs.YtgondiedehjkhaaDoor
