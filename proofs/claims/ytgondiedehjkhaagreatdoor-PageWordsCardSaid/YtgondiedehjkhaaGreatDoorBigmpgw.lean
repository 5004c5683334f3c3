/-
 Digits of 32 bits: plain mathematics. dg x k is the k-th digit of x.
-/
import Derived.WalkKit
namespace Go.Proofs.YtgondiedehjkhaaGreatDoor
abbrev BS : Int := 4294967296
def dg (x : Int) (k : Nat) : Int := x / BS ^ k % 4294967296
theorem BS_pos (k : Nat) : (0 : Int) < BS ^ k := Int.pow_pos (by decide)
theorem dg_rng (x : Int) (k : Nat) : 0 ≤ dg x k ∧ dg x k < 4294967296 := by
 unfold dg; omega
theorem div_succ (x : Int) (k : Nat) : x / BS ^ (k + 1) = x / BS ^ k / 4294967296 := by
 rw [Int.pow_succ, Int.ediv_ediv_of_nonneg (Int.le_of_lt (BS_pos k))]
theorem emod_succ (x : Int) (k : Nat) : x % BS ^ (k + 1) = x % BS ^ k + BS ^ k * dg x k := by
 have h1 := div_succ x k
 have e0 := Int.emod_add_mul_ediv x (BS ^ (k + 1))
 have e1 := Int.emod_add_mul_ediv x (BS ^ k)
 have e2 := Int.emod_add_mul_ediv (x / BS ^ k) 4294967296
 rw [h1] at e0
 have e3 : BS ^ k * (x / BS ^ k) = BS ^ k * (x / BS ^ k % 4294967296) + BS ^ k * (4294967296 * (x / BS ^ k / 4294967296)) := by rw [← Int.mul_add, e2]
 have e4 : BS ^ (k + 1) * (x / BS ^ k / 4294967296) = BS ^ k * (4294967296 * (x / BS ^ k / 4294967296)) := by rw [Int.pow_succ, Int.mul_assoc]
 unfold dg
 rw [e4] at e0
 omega
theorem add_div (x y : Int) {P : Int} (hp : 0 < P) : (x + y) / P = x / P + y / P + (x % P + y % P) / P := by
 have e1 := Int.emod_add_mul_ediv x P
 have e2 := Int.emod_add_mul_ediv y P
 have h : x + y = (x % P + y % P) + P * (x / P + y / P) := by rw [Int.mul_add]; omega
 rw [h, Int.add_mul_ediv_left _ _ (by omega)]
 omega
theorem sub_div (x y : Int) {P : Int} (hp : 0 < P) : (x - y) / P = x / P - y / P + (x % P - y % P) / P := by
 have e1 := Int.emod_add_mul_ediv x P
 have e2 := Int.emod_add_mul_ediv y P
 have h : x - y = (x % P - y % P) + P * (x / P - y / P) := by rw [Int.mul_sub]; omega
 rw [h, Int.add_mul_ediv_left _ _ (by omega)]
 omega
def crr (x y : Int) (k : Nat) : Int := (x % BS ^ k + y % BS ^ k) / BS ^ k
theorem crr_zero (x y : Int) : crr x y 0 = 0 := by unfold crr; simp [Int.emod_one]
theorem crr_rng (x y : Int) (k : Nat) : 0 ≤ crr x y k ∧ crr x y k ≤ 1 := by
 unfold crr
 have hp := BS_pos k
 have a0 := Int.emod_nonneg x (by omega : BS ^ k ≠ 0)
 have a1 := Int.emod_lt_of_pos x hp
 have b0 := Int.emod_nonneg y (by omega : BS ^ k ≠ 0)
 have b1 := Int.emod_lt_of_pos y hp
 refine ⟨Int.ediv_nonneg (by omega) (by omega), ?_⟩
 have : (x % BS ^ k + y % BS ^ k) / BS ^ k < 2 := Int.ediv_lt_of_lt_mul hp (by omega)
 omega
theorem plus_step (x y : Int) (k : Nat) : (dg x k + dg y k + crr x y k) % 4294967296 = dg (x + y) k ∧ (dg x k + dg y k + crr x y k) / 4294967296 = crr x y (k + 1) := by
 have hp := BS_pos k
 constructor
 · have h := add_div x y hp
   unfold dg
   rw [h]
   unfold crr
   generalize x / BS ^ k = a
   generalize y / BS ^ k = b
   generalize (x % BS ^ k + y % BS ^ k) / BS ^ k = c
   omega
 · unfold crr
   rw [div_succ, emod_succ x, emod_succ y]
   have : x % BS ^ k + BS ^ k * dg x k + (y % BS ^ k + BS ^ k * dg y k) = (x % BS ^ k + y % BS ^ k) + BS ^ k * (dg x k + dg y k) := by rw [Int.mul_add]; omega
   rw [this, Int.add_mul_ediv_left _ _ (by omega)]
   generalize (x % BS ^ k + y % BS ^ k) / BS ^ k = c
   generalize dg x k = a
   generalize dg y k = b
   rw [show c + (a + b) = a + b + c by omega]
def brr (x y : Int) (k : Nat) : Int := -((x % BS ^ k - y % BS ^ k) / BS ^ k)
theorem brr_zero (x y : Int) : brr x y 0 = 0 := by unfold brr; simp [Int.emod_one]
theorem brr_rng (x y : Int) (k : Nat) : 0 ≤ brr x y k ∧ brr x y k ≤ 1 := by
 unfold brr
 have hp := BS_pos k
 have a0 := Int.emod_nonneg x (by omega : BS ^ k ≠ 0)
 have a1 := Int.emod_lt_of_pos x hp
 have b0 := Int.emod_nonneg y (by omega : BS ^ k ≠ 0)
 have b1 := Int.emod_lt_of_pos y hp
 have h1 : (x % BS ^ k - y % BS ^ k) / BS ^ k < 1 := Int.ediv_lt_of_lt_mul hp (by omega)
 have h2 : -1 ≤ (x % BS ^ k - y % BS ^ k) / BS ^ k := by
   rw [Int.le_ediv_iff_mul_le hp]; omega
 omega
theorem less_step (x y : Int) (k : Nat) : (4294967296 + dg x k - dg y k - brr x y k) % 4294967296 = dg (x - y) k ∧ 1 - (4294967296 + dg x k - dg y k - brr x y k) / 4294967296 = brr x y (k + 1) := by
 have hp := BS_pos k
 constructor
 · have h := sub_div x y hp
   unfold dg
   rw [h]
   unfold brr
   generalize x / BS ^ k = a
   generalize y / BS ^ k = b
   generalize (x % BS ^ k - y % BS ^ k) / BS ^ k = c
   omega
 · unfold brr
   rw [div_succ, emod_succ x, emod_succ y]
   have : x % BS ^ k + BS ^ k * dg x k - (y % BS ^ k + BS ^ k * dg y k) = (x % BS ^ k - y % BS ^ k) + BS ^ k * (dg x k - dg y k) := by rw [Int.mul_sub]; omega
   rw [this, Int.add_mul_ediv_left _ _ (by omega)]
   generalize (x % BS ^ k - y % BS ^ k) / BS ^ k = c
   generalize dg x k = a
   generalize dg y k = b
   rw [show 4294967296 + a - b - -c = c + (a - b) + 4294967296 * 1 by omega, Int.add_mul_ediv_left _ _ (by omega)]
   omega
def trr (x b : Int) (k : Nat) : Int := (2 * (x % BS ^ k) + b) / BS ^ k
theorem trr_zero (x b : Int) : trr x b 0 = b := by unfold trr; simp [Int.emod_one]
theorem trr_rng (x b : Int) (hb : 0 ≤ b ∧ b ≤ 1) (k : Nat) : 0 ≤ trr x b k ∧ trr x b k ≤ 1 := by
 unfold trr
 have hp := BS_pos k
 have a0 := Int.emod_nonneg x (by omega : BS ^ k ≠ 0)
 have a1 := Int.emod_lt_of_pos x hp
 refine ⟨Int.ediv_nonneg (by omega) (by omega), ?_⟩
 have : (2 * (x % BS ^ k) + b) / BS ^ k < 2 := Int.ediv_lt_of_lt_mul hp (by omega)
 omega
theorem twice_step (x b : Int) (k : Nat) : (2 * dg x k + trr x b k) % 4294967296 = dg (2 * x + b) k ∧ (2 * dg x k + trr x b k) / 4294967296 = trr x b (k + 1) := by
 have hp := BS_pos k
 constructor
 · have e1 := Int.emod_add_mul_ediv x (BS ^ k)
   have h : 2 * x + b = (2 * (x % BS ^ k) + b) + BS ^ k * (2 * (x / BS ^ k)) := by
     rw [Int.mul_left_comm]; omega
   unfold dg
   rw [h, Int.add_mul_ediv_left _ _ (by omega)]
   unfold trr
   generalize x / BS ^ k = a
   generalize (2 * (x % BS ^ k) + b) / BS ^ k = c
   omega
 · unfold trr
   rw [div_succ, emod_succ x]
   have : 2 * (x % BS ^ k + BS ^ k * dg x k) + b = (2 * (x % BS ^ k) + b) + BS ^ k * (2 * dg x k) := by rw [Int.mul_left_comm]; omega
   rw [this, Int.add_mul_ediv_left _ _ (by omega)]
   generalize (2 * (x % BS ^ k) + b) / BS ^ k = c
   generalize dg x k = a
   rw [Int.add_comm]
end Go.Proofs.YtgondiedehjkhaaGreatDoor
