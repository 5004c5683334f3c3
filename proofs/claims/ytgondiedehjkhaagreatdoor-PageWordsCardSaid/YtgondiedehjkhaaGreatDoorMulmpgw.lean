/-
 Digits of 32 bits: the product, row by row.
-/
import Derived.Test.YtgondiedehjkhaaGreatDoorBigmpgw
namespace Go.Proofs.YtgondiedehjkhaaGreatDoor
def mS (X Y : Int) (i j : Nat) : Int := X % BS ^ i * Y + dg X i * (Y % BS ^ j) * BS ^ i
def mC (X Y : Int) (i j : Nat) : Int := mS X Y i j / BS ^ (i + j) - X % BS ^ i * Y / BS ^ (i + j)
theorem mS_zero (X Y : Int) (i : Nat) : mS X Y i 0 = X % BS ^ i * Y := by unfold mS; simp [Int.emod_one]
theorem mC_zero (X Y : Int) (i : Nat) : mC X Y i 0 = 0 := by unfold mC; rw [mS_zero]; omega
theorem mS_succ (X Y : Int) (i j : Nat) : mS X Y i (j + 1) = mS X Y i j + dg X i * dg Y j * BS ^ (i + j) := by
 unfold mS
 rw [emod_succ Y j, Int.pow_add]
 generalize BS ^ i = M
 generalize BS ^ j = N
 generalize dg X i = a
 generalize dg Y j = b
 generalize Y % N = c
 rw [Int.mul_add, Int.add_mul, Int.add_assoc]
 congr 2
 rw [Int.mul_comm N b, ← Int.mul_assoc, Int.mul_assoc (a * b), Int.mul_comm N M]
theorem mul_step (X Y : Int) (i j : Nat) : (dg X i * dg Y j + dg (X % BS ^ i * Y) (i + j) + mC X Y i j) % 4294967296 = dg (mS X Y i (j + 1)) (i + j) ∧ (dg X i * dg Y j + dg (X % BS ^ i * Y) (i + j) + mC X Y i j) / 4294967296 = mC X Y i (j + 1) := by
 have hM := BS_pos (i + j)
 have h1 : mS X Y i (j + 1) / BS ^ (i + j) = mS X Y i j / BS ^ (i + j) + dg X i * dg Y j := by
   rw [mS_succ, Int.add_mul_ediv_right _ _ (by omega)]
 have h2 : mS X Y i (j + 1) / BS ^ (i + (j + 1)) = mS X Y i (j + 1) / BS ^ (i + j) / 4294967296 := div_succ _ _
 have h3 : X % BS ^ i * Y / BS ^ (i + (j + 1)) = X % BS ^ i * Y / BS ^ (i + j) / 4294967296 := div_succ _ _
 unfold mC
 rw [h2, h3]
 unfold dg at *
 rw [h1]
 generalize mS X Y i j / BS ^ (i + j) = s
 generalize X % BS ^ i * Y / BS ^ (i + j) = p
 generalize X / BS ^ i % 4294967296 * (Y / BS ^ j % 4294967296) = q
 omega
theorem mC_rng (X Y : Int) (i j : Nat) : 0 ≤ mC X Y i j ∧ mC X Y i j < 4294967296 := by
 have hM := BS_pos (i + j)
 have hN := BS_pos j
 have hI := BS_pos i
 obtain ⟨a0, a1⟩ := dg_rng X i
 have c0 := Int.emod_nonneg Y (Int.ne_of_gt hN)
 have c1 := Int.emod_lt_of_pos Y hN
 have hD : mS X Y i j = X % BS ^ i * Y + dg X i * (Y % BS ^ j) * BS ^ i := rfl
 have d0 : 0 ≤ dg X i * (Y % BS ^ j) * BS ^ i := Int.mul_nonneg (Int.mul_nonneg a0 c0) (by omega)
 have d1 : dg X i * (Y % BS ^ j) * BS ^ i < 4294967296 * BS ^ (i + j) - BS ^ (i + j) + 1 := by
   have h1 : dg X i * (Y % BS ^ j) ≤ 4294967295 * BS ^ j := Int.mul_le_mul (by omega) (by omega) c0 (by decide)
   have h2 : dg X i * (Y % BS ^ j) * BS ^ i ≤ 4294967295 * BS ^ j * BS ^ i := Int.mul_le_mul_of_nonneg_right h1 (by omega)
   have h3 : 4294967295 * BS ^ j * BS ^ i = 4294967295 * BS ^ (i + j) := by rw [Int.mul_assoc, Int.mul_comm (BS ^ j), ← Int.pow_add]
   omega
 unfold mC
 rw [hD]
 generalize X % BS ^ i * Y = P at *
 generalize dg X i * (Y % BS ^ j) * BS ^ i = D at *
 generalize BS ^ (i + j) = M at *
 have e := add_div P D hM
 have p0 := Int.emod_nonneg P (Int.ne_of_gt hM)
 have p1 := Int.emod_lt_of_pos P hM
 have q0 := Int.emod_nonneg D (Int.ne_of_gt hM)
 have q1 := Int.emod_lt_of_pos D hM
 have r0 : 0 ≤ (P % M + D % M) / M := Int.ediv_nonneg (by omega) (by omega)
 have r1 : (P % M + D % M) / M ≤ 1 := by
   have : (P % M + D % M) / M < 2 := Int.ediv_lt_of_lt_mul hM (by omega)
   omega
 have s0 : 0 ≤ D / M := Int.ediv_nonneg d0 (by omega)
 have s1 : D / M < 4294967296 := Int.ediv_lt_of_lt_mul hM (by omega)
 have s2 : D / M = 4294967295 → (P % M + D % M) / M = 0 := by
   intro h
   have h4 := Int.mul_ediv_add_emod D M
   rw [h] at h4
   have : D % M = 0 := by omega
   rw [this]
   exact Int.ediv_eq_zero_of_lt (by omega) (by omega)
 omega
theorem dg_add_mul (s z : Int) (k n : Nat) (h : k < n) : dg (s + z * BS ^ n) k = dg s k := by
 obtain ⟨m, rfl⟩ : ∃ m, n = k + 1 + m := ⟨n - (k + 1), by omega⟩
 unfold dg
 have hk := BS_pos k
 have e : z * BS ^ (k + 1 + m) = z * BS ^ m * 4294967296 * BS ^ k := by
   rw [Int.pow_add, Int.pow_succ, show BS = 4294967296 from rfl]
   rw [Int.mul_comm ((4294967296 : Int) ^ k * 4294967296), Int.mul_comm ((4294967296 : Int) ^ k), ← Int.mul_assoc, ← Int.mul_assoc]
 rw [e, Int.add_mul_ediv_right _ _ (Int.ne_of_gt hk)]
 omega
theorem mS_low (X Y : Int) (i j k : Nat) (h : k < i + j) : dg (mS X Y i (j + 1)) k = dg (mS X Y i j) k := by
 rw [mS_succ]; exact dg_add_mul _ _ _ _ h
theorem mS_four (X Y : Int) (i : Nat) (h0 : 0 ≤ Y) (h1 : Y < BS ^ 4) : mS X Y i 4 = X % BS ^ (i + 1) * Y := by
 unfold mS
 rw [Int.emod_eq_of_lt h0 h1, emod_succ X i, Int.add_mul, Int.mul_comm (BS ^ i) (dg X i), Int.mul_assoc, Int.mul_comm Y, ← Int.mul_assoc]
theorem mP_lt (X Y : Int) (i : Nat) (h0 : 0 ≤ Y) (h1 : Y < BS ^ 4) : 0 ≤ X % BS ^ i * Y ∧ X % BS ^ i * Y < BS ^ (i + 4) := by
 have hI := BS_pos i
 have x0 := Int.emod_nonneg X (Int.ne_of_gt hI)
 have x1 := Int.emod_lt_of_pos X hI
 refine ⟨Int.mul_nonneg x0 h0, ?_⟩
 rw [Int.pow_add]
 have h2 : X % BS ^ i * Y ≤ X % BS ^ i * BS ^ 4 := Int.mul_le_mul_of_nonneg_left (by omega) x0
 have h3 : X % BS ^ i * BS ^ 4 < BS ^ i * BS ^ 4 := Int.mul_lt_mul_of_pos_right x1 (BS_pos 4)
 omega
theorem dg_high (s : Int) (k : Nat) (h0 : 0 ≤ s) (n : Nat) (h1 : s < BS ^ n) (h : n ≤ k) : dg s k = 0 := by
 unfold dg
 have : s / BS ^ k = 0 := Int.ediv_eq_zero_of_lt h0 (Int.lt_of_lt_of_le h1 (by
   obtain ⟨m, rfl⟩ : ∃ m, k = n + m := ⟨k - n, by omega⟩
   rw [Int.pow_add]
   have hn := BS_pos n
   have hm := BS_pos m
   have : BS ^ n * 1 ≤ BS ^ n * BS ^ m := Int.mul_le_mul_of_nonneg_left (by omega) (by omega)
   omega))
 rw [this]
 rfl
theorem mC_top (X Y : Int) (i : Nat) (h0 : 0 ≤ Y) (h1 : Y < BS ^ 4) : mC X Y i 4 = dg (X % BS ^ (i + 1) * Y) (i + 4) := by
 obtain ⟨p0, p1⟩ := mP_lt X Y i h0 h1
 obtain ⟨q0, q1⟩ := mP_lt X Y (i + 1) h0 h1
 unfold mC
 rw [mS_four X Y i h0 h1, Int.ediv_eq_zero_of_lt p0 p1, Int.sub_zero]
 unfold dg
 rw [Int.emod_eq_of_lt (Int.ediv_nonneg q0 (by have := BS_pos (i + 4); omega))]
 refine Int.ediv_lt_of_lt_mul (BS_pos (i + 4)) ?_
 have : (4294967296 : Int) * BS ^ (i + 4) = BS ^ (i + 1 + 4) := by
   rw [show i + 1 + 4 = i + 4 + 1 by omega, Int.pow_succ, Int.mul_comm]; rfl
 omega
end Go.Proofs.YtgondiedehjkhaaGreatDoor
