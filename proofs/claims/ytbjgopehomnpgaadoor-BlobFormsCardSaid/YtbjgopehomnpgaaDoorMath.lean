/-
  Plain arithmetic behind the walks: wrapped products, quotients.
-/
import Derived.IntWalk
import Derived.OpenShut
namespace Go.Proofs.YtbjgopehomnpgaaDoor
open Go.RowKit
set_option linter.unusedVariables false

abbrev InR (n : Int) : Prop := -9223372036854775808 ≤ n ∧ n ≤ 9223372036854775807

theorem tdiv_near (p b : Int) (hb : b ≠ 0) : ∃ r, p = p.tdiv b * b + r ∧ (0 < b → -b < r ∧ r < b) ∧ (b < 0 → b < r ∧ r < -b) := by
  refine ⟨p.tmod b, by have := Int.tdiv_mul_add_tmod p b; omega, fun h => ?_, fun h => ?_⟩
  · have h1 := Int.lt_tmod_of_pos p h
    have h2 := Int.tmod_lt_of_pos p h
    omega
  · have h1 := Int.lt_tmod_of_pos p (b := -b) (by omega)
    have h2 := Int.tmod_lt_of_pos p (b := -b) (by omega)
    rw [Int.tmod_neg] at h1 h2
    omega
theorem wrap64_spec (n : Int) : InR (wrap64 n) ∧ ∃ k, wrap64 n = n + 18446744073709551616 * k := by
  unfold wrap64
  exact ⟨by omega, -((n + 9223372036854775808) / 18446744073709551616), by omega⟩
theorem mul_over (a b : Int) (ha : InR a) (hb : InR b) (h : ¬ InR (a * b)) (h0 : ¬ b = 0) (h1 : ¬ b = -1) : (wrap64 ((wrap64 (a * b)).tdiv b) != a) = true := by
  rw [bne_iff_ne]
  intro he
  obtain ⟨hw, k, hk⟩ := wrap64_spec (a * b)
  generalize wrap64 (a * b) = p at *
  obtain ⟨r, hr, hp, hn⟩ := tdiv_near p b h0
  have hq : InR (p.tdiv b) := by
    have h2 := Int.natAbs_tdiv_le_natAbs p b
    by_cases hb1 : b = 1
    · subst hb1; rw [Int.tdiv_one]; exact hw
    · have hb2 : b ≤ -2 ∨ 2 ≤ b := by omega
      generalize p.tdiv b = q at *
      have h3 : q.natAbs ≤ 9223372036854775808 := by omega
      rcases Int.lt_or_le q 9223372036854775808 with h4 | h4
      · constructor <;> omega
      · exfalso
        have hq : q = 9223372036854775808 := by omega
        subst hq
        rcases hb2 with hb2 | hb2
        · have := hn (by omega); omega
        · have := hp (by omega); omega
  rw [IntWalk.wrap64_in _ hq] at he
  rw [he] at hr
  have hz : r = 18446744073709551616 * k := by omega
  have hk0 : k = 0 := by
    by_cases hb0 : 0 < b
    · have := hp hb0; omega
    · have := hn (by omega); omega
  subst hk0
  have : p = a * b := by omega
  exact h (this ▸ hw)
theorem times_pp (a b : Int) (ha : 0 < a) (hb : 0 < b) : a ≤ 9223372036854775807 / b ↔ InR (a * b) := by
  rw [Int.le_ediv_iff_mul_le hb]
  have := Int.mul_pos ha hb
  constructor <;> intro h <;> omega
theorem times_np (a b : Int) (ha : a < 0) (hb : 0 < b) : wrap64 (-Int.tdiv 9223372036854775808 b) ≤ a ↔ InR (a * b) := by
  rw [Int.tdiv_eq_ediv_of_nonneg (by omega)]
  have h1 : 0 ≤ 9223372036854775808 / b := Int.ediv_nonneg (by omega) (by omega)
  have h2 : 9223372036854775808 / b ≤ 9223372036854775808 := Int.ediv_le_self _ (by omega)
  rw [IntWalk.wrap64_in _ (by omega)]
  have h3 : -a ≤ 9223372036854775808 / b ↔ -a * b ≤ 9223372036854775808 := Int.le_ediv_iff_mul_le hb
  have h4 : -a * b = -(a * b) := Int.neg_mul a b
  have h5 := Int.mul_neg_of_neg_of_pos ha hb
  omega
theorem times_pn (a b : Int) (ha : 0 < a) (hb : b < 0) : wrap64 (-Int.tdiv 9223372036854775808 a) ≤ b ↔ InR (a * b) := by
  rw [Int.mul_comm]; exact times_np b a hb ha
theorem times_nn (a b : Int) (ha : a < 0) (hb : b < 0) : wrap64 (Int.tdiv 9223372036854775807 b) ≤ a ↔ InR (a * b) := by
  obtain ⟨c, rfl⟩ : ∃ c, b = -c := ⟨-b, by omega⟩
  rw [Int.tdiv_neg, Int.tdiv_eq_ediv_of_nonneg (by omega)]
  have h1 : 0 ≤ 9223372036854775807 / c := Int.ediv_nonneg (by omega) (by omega)
  have h2 : 9223372036854775807 / c ≤ 9223372036854775807 := Int.ediv_le_self _ (by omega)
  rw [IntWalk.wrap64_in _ (by omega)]
  have h3 : -a ≤ 9223372036854775807 / c ↔ -a * c ≤ 9223372036854775807 := Int.le_ediv_iff_mul_le (by omega)
  have h4 : -a * c = -(a * c) := Int.neg_mul a c
  have h6 : a * -c = -(a * c) := Int.mul_neg a c
  have h5 := Int.mul_neg_of_neg_of_pos ha (b := c) (by omega)
  omega
theorem tdiv_rng (a b : Int) (ha : InR a) (h : 1 ≤ b) : InR (a.tdiv b) ∧ -b < a.tmod b ∧ a.tmod b < b := by
  have h1 := Int.lt_tmod_of_pos a (b := b) (by omega)
  have h2 := Int.tmod_lt_of_pos a (b := b) (by omega)
  refine ⟨?_, h1, h2⟩
  have h3 := Int.natAbs_tdiv_le_natAbs a b
  have h4 := Int.tdiv_mul_add_tmod a b
  by_cases hb1 : b = 1
  · subst hb1; rw [Int.tdiv_one]; exact ha
  · have : (a.tdiv b) ≠ 9223372036854775808 := by
      intro he
      rw [he] at h4
      omega
    omega
theorem div_low (a b : Int) (ha : InR a) (h : 1 ≤ b) (hr : a.tmod b < 0) : a.tdiv b - 1 = a / b ∧ a.tmod b + b = a % b ∧ InR (a.tdiv b - 1) := by
  have h1 := Int.lt_tmod_of_pos a (b := b) (by omega)
  have h4 := Int.tdiv_mul_add_tmod a b
  have e : a = (a.tmod b + b) + b * (a.tdiv b - 1) := by
    have : b * (a.tdiv b - 1) = a.tdiv b * b - b := by rw [Int.mul_sub, Int.mul_comm]; omega
    omega
  have e1 : a.tdiv b - 1 = a / b := by
    rw [e, Int.add_mul_ediv_left _ _ (by omega : b ≠ 0), Int.ediv_eq_zero_of_lt (by omega) (by omega), ← e]; omega
  refine ⟨e1, ?_, ?_⟩
  · rw [e, Int.add_mul_emod_self_left, Int.emod_eq_of_lt (by omega) (by omega), ← e]
  · rw [e1]
    have h5 : b ≠ 1 := by intro hb; subst hb; simp at hr
    have h6 := Int.mul_ediv_add_emod a b
    have h7 := Int.emod_nonneg a (b := b) (by omega)
    have h8 := Int.emod_lt_of_pos a (b := b) (by omega)
    generalize a / b = q at *
    generalize a % b = r at *
    have h9 : b * q ≤ 9223372036854775807 ∧ -9223372036854775808 - b < b * q := by omega
    constructor
    · rcases Int.lt_or_le q (-9223372036854775808) with hq | hq
      · have := Int.mul_le_mul_of_nonneg_left (show q ≤ -9223372036854775809 by omega) (show 0 ≤ b by omega)
        omega
      · exact hq
    · rcases Int.lt_or_le 9223372036854775807 q with hq | hq
      · have := Int.mul_le_mul_of_nonneg_left (show 9223372036854775808 ≤ q by omega) (show 0 ≤ b by omega)
        omega
      · exact hq
theorem div_high (a b : Int) (h : 1 ≤ b) (hr : 0 ≤ a.tmod b) : a.tdiv b = a / b ∧ a.tmod b = a % b := by
  have h2 := Int.tmod_lt_of_pos a (b := b) (by omega)
  have h4 := Int.tdiv_mul_add_tmod a b
  have e : a = a.tmod b + b * a.tdiv b := by rw [Int.mul_comm]; omega
  constructor
  · rw [e, Int.add_mul_ediv_left _ _ (by omega : b ≠ 0), Int.ediv_eq_zero_of_lt (by omega) (by omega), ← e]; omega
  · rw [e, Int.add_mul_emod_self_left, Int.emod_eq_of_lt (by omega) (by omega), ← e]
end Go.Proofs.YtbjgopehomnpgaaDoor
