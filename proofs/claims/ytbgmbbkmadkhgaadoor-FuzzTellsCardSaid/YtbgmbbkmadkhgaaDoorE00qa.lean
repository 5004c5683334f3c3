/-
  Numbers and their wraps, sums and bounds: plain functions and what they are.
-/
import Derived.Test.YtbgmbbkmadkhgaaDoorMathqa
import Derived.Test.YtbgmbbkmadkhgaaDoorNumqa
import Derived.IntWalk
namespace Go.Proofs.YtbgmbbkmadkhgaaDoor
open Go.RowKit Go.Extern.Stop Go.Stop Go.Extern
set_option linter.unusedVariables false
set_option linter.unusedSimpArgs false
theorem wr_i64 (n : Int) : (IntKind.wrap .i64 n = n ∨ n < -9223372036854775808 ∨ 9223372036854775807 < n) ∧ -9223372036854775808 ≤ IntKind.wrap .i64 n ∧ IntKind.wrap .i64 n ≤ 9223372036854775807 := by
  rw [IntKind.wrap_i64]; omega
theorem wr_u64 (n : Int) : (IntKind.wrap .u64 n = n ∨ n < 0 ∨ 18446744073709551615 < n) ∧ 0 ≤ IntKind.wrap .u64 n ∧ IntKind.wrap .u64 n ≤ 18446744073709551615 := by
  rw [IntKind.wrap_u64]; omega
def svE (n : Int) : Int := if -9223372036854775808 ≤ n ∧ n ≤ 9223372036854775807 then n else 0
def erE (n : Int) : Int := if -9223372036854775808 ≤ n ∧ n ≤ 9223372036854775807 then 0 else 2
def soE (n : Int) : Int := if 9223372036854775807 < n then 1 else if n < -9223372036854775808 then -1 else 0
def dqE (a b : Int) : Int := if b < 1 then 0 else a / b
def dmE (a b : Int) : Int := if b < 1 then 0 else a % b
def deE (b : Int) : Int := if b < 1 then 1 else 0
theorem svE_spec (n : Int) : (svE n = n ∧ erE n = 0 ∧ soE n = 0 ∧ -9223372036854775808 ≤ n ∧ n ≤ 9223372036854775807) ∨ (svE n = 0 ∧ erE n = 2 ∧ soE n = 1 ∧ 9223372036854775807 < n) ∨ (svE n = 0 ∧ erE n = 2 ∧ soE n = -1 ∧ n < -9223372036854775808) := by unfold svE erE soE; split <;> (try split) <;> (try split) <;> omega
theorem dE_spec (a b : Int) : (b < 1 ∧ dqE a b = 0 ∧ dmE a b = 0 ∧ deE b = 1) ∨ (1 ≤ b ∧ dqE a b = a / b ∧ dmE a b = a % b ∧ deE b = 0) := by
  unfold dqE dmE deE; split <;> omega
theorem eu_uniq {a b r q : Int} (h : 0 < b) (h1 : r + b * q = a) (h2 : 0 ≤ r) (h3 : r < b) : a / b = q ∧ a % b = r := (Int.ediv_emod_unique h).2 ⟨h1, h2, h3⟩
theorem dm_spec (a b : Int) (ha : InR a) : b < 1 ∨ (InR (a / b) ∧ 0 ≤ a % b ∧ a % b < b ∧ -b < a.tmod b ∧ a.tmod b < b ∧ InR (a.tdiv b) ∧ ((a.tmod b < 0 ∧ a / b = a.tdiv b - 1 ∧ a % b = a.tmod b + b) ∨ (0 ≤ a.tmod b ∧ a / b = a.tdiv b ∧ a % b = a.tmod b))) := by
  rcases Int.lt_or_le b 1 with h | h
  · exact .inl h
  right
  have h1 := Int.lt_tmod_of_pos a (b := b) (by omega)
  have h2 := Int.tmod_lt_of_pos a (b := b) (by omega)
  have h3 := Int.tdiv_mul_add_tmod a b
  have hn := Int.natAbs_tdiv_le_natAbs a b
  have hx : (a.tmod b < 0 ∧ a / b = a.tdiv b - 1 ∧ a % b = a.tmod b + b) ∨ (0 ≤ a.tmod b ∧ a / b = a.tdiv b ∧ a % b = a.tmod b) := by
    rcases Int.lt_or_le (a.tmod b) 0 with h0 | h0
    · left
      have := eu_uniq (a := a) (b := b) (q := a.tdiv b - 1) (r := a.tmod b + b) (by omega) (by rw [Int.mul_sub, Int.mul_one, Int.mul_comm]; omega) (by omega) (by omega)
      exact ⟨h0, this.1, this.2⟩
    · right
      have := eu_uniq (a := a) (b := b) (q := a.tdiv b) (r := a.tmod b) (by omega) (by rw [Int.mul_comm]; omega) (by omega) (by omega)
      exact ⟨h0, this.1, this.2⟩
  have h4 : 0 ≤ a % b := Int.emod_nonneg _ (by omega)
  have h5 : a % b < b := Int.emod_lt_of_pos _ (by omega)
  have h6 : a / b ≤ 9223372036854775807 ∧ -9223372036854775808 ≤ a / b := by
    constructor
    · rcases Int.lt_or_le a 0 with h | h
      · have := Int.ediv_neg_of_neg_of_pos h (show 0 < b by omega); omega
      · have := Int.ediv_le_self b h; omega
    · rw [Int.le_ediv_iff_mul_le (by omega)]
      have : (-9223372036854775808 : Int) * b ≤ -9223372036854775808 * 1 := Int.mul_le_mul_of_nonpos_left (by omega) h
      omega
  have h7 : InR (a.tdiv b) := by
    rcases hx with ⟨_, e, _⟩ | ⟨_, e, _⟩
    · have ha0 : a < 0 := by
        rcases Int.lt_or_le a 0 with h | h
        · exact h
        · have := Int.tmod_nonneg b h; omega
      have := Int.ediv_neg_of_neg_of_pos ha0 (show 0 < b by omega)
      omega
    · omega
  exact ⟨⟨h6.2, h6.1⟩, h4, h5, h1, h2, h7, hx⟩
end Go.Proofs.YtbgmbbkmadkhgaaDoor
