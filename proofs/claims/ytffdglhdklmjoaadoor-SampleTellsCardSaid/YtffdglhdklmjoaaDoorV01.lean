/-
  Layer 1, more: Ceil, Clamp, the reference's Div and Ceil; the statements NumParts and NumBack.
-/
import Derived.Test.YtffdglhdklmjoaaDoorW01
namespace Go.Proofs.YtffdglhdklmjoaaDoor
open Go.RowKit Go.Extern.Stop Go.Stop Go.Extern
set_option linter.unusedVariables false
def cdiv (a b : Int) : Int := if a % b = 0 then a / b else a / b + 1
def clampS (v lo hi : Int) : Int := if v < lo ∨ hi < lo then lo else if hi < v then hi else v
theorem cdiv_low (a b : Int) (ha : InR a) (h : 1 ≤ b) (hr : a.tmod b ≤ 0) : a.tdiv b = cdiv a b := by
  unfold cdiv
  by_cases h0 : a.tmod b = 0
  · have := div_high a b h (by omega)
    rw [if_pos (by omega)]; omega
  · have := div_low a b ha h (by omega)
    have h1 := Int.lt_tmod_of_pos a (b := b) (by omega)
    rw [if_neg (by omega)]; omega
theorem cdiv_high (a b : Int) (ha : InR a) (h : 1 ≤ b) (hr : 0 < a.tmod b) : wrap64 (a.tdiv b + 1) = cdiv a b := by
  unfold cdiv
  have h1 := div_high a b h (by omega)
  rw [if_neg (by omega), h1.1]
  refine IntWalk.wrap64_in _ ?_
  have h5 : b ≠ 1 := by intro hb; subst hb; simp at hr
  have h6 := Int.mul_ediv_add_emod a b
  have h7 : 0 ≤ a := by
    rcases Int.lt_or_le a 0 with h | h
    · have h9 : (-a).tmod b = (-a) % b := Int.tmod_eq_emod_of_nonneg (by omega)
      have h10 := Int.emod_nonneg (-a) (b := b) (by omega)
      rw [Int.neg_tmod] at h9; omega
    · exact h
  have h9 : 0 ≤ a / b := Int.ediv_nonneg h7 (by omega)
  have h8 : 2 * (a / b) ≤ b * (a / b) := Int.mul_le_mul_of_nonneg_right (by omega) h9
  have h10 := Int.emod_nonneg a (b := b) (by omega)
  omega
theorem clamp_c (a b c : Int) (w : World) (ha : InR a) (hb : InR b) (hc : InR c) : Calls Tryd.prog 111 #[.int .i64 a, .int .i64 b, .int .i64 c] w fun e w' => e = .returned (.int .i64 (clampS a b c)) ∧ w = w' := by
  have H1 := Lib.hid (show a < b ∨ c < b → clampS a b c = b from fun h => if_pos h)
  have H2 := Lib.hid (show ¬ (a < b ∨ c < b) → clampS a b c = if c < a then c else a from fun h => if_neg h)
  by_cases h1 : a < b
  all_goals by_cases h2 : c < b
  all_goals by_cases h3 : c < a
  all_goals try (exfalso; omega)
  all_goals
    go_enter Tryd.func111, Tryd.ntmps111
    go_wp2
    all_goals go_ret
    all_goals first | exact ⟨by rw [H1.out (by omega)]; rfl, rfl⟩ | exact ⟨by rw [H2.out (by omega), if_pos (by omega)]; rfl, rfl⟩ | exact ⟨by rw [H2.out (by omega), if_neg (by omega)]; rfl, rfl⟩
theorem tmod_neg_neg (a b : Int) (h : 1 ≤ b) (hr : a.tmod b < 0) : a < 0 := by
  rcases Int.lt_or_le a 0 with h0 | h0
  · exact h0
  · have h9 : a.tmod b = a % b := Int.tmod_eq_emod_of_nonneg h0
    have h10 := Int.emod_nonneg a (b := b) (by omega)
    omega
theorem tmod_pos_pos (a b : Int) (h : 1 ≤ b) (hr : 0 < a.tmod b) : 0 < a := by
  rcases Int.lt_or_le 0 a with h0 | h0
  · exact h0
  · have h9 : (-a).tmod b = (-a) % b := Int.tmod_eq_emod_of_nonneg (by omega)
    have h10 := Int.emod_nonneg (-a) (b := b) (by omega)
    rw [Int.neg_tmod] at h9
    omega
theorem tdiv_mul_rng (a b : Int) (ha : InR a) (h : 1 ≤ b) : InR (a.tdiv b * b) := by
  have h4 := Int.tdiv_mul_add_tmod a b
  have h1 := Int.lt_tmod_of_pos a (b := b) (by omega)
  have h2 := Int.tmod_lt_of_pos a (b := b) (by omega)
  rcases Int.lt_trichotomy (a.tmod b) 0 with hr | hr | hr
  · have := tmod_neg_neg a b h hr
    have h5 : a.tdiv b ≤ 0 := by
      rcases Int.lt_or_le 0 (a.tdiv b) with hq | hq
      · have := Int.mul_le_mul_of_nonneg_right (show 1 ≤ a.tdiv b by omega) (show 0 ≤ b by omega); omega
      · exact hq
    have := Int.mul_nonpos_of_nonpos_of_nonneg h5 (show 0 ≤ b by omega)
    omega
  · omega
  · have := tmod_pos_pos a b h hr
    have h5 : 0 ≤ a.tdiv b := Int.tdiv_nonneg (by omega) (by omega)
    have := Int.mul_nonneg h5 (show 0 ≤ b by omega)
    omega
theorem rdiv_rest_low (a b : Int) (ha : InR a) (hb : InR b) (hr : a.tmod b < 0) (h1 : -b < a.tmod b) (h2 : a.tmod b < b) (hx : (a.tdiv b - 1) * b = a.tdiv b * b - b) (h4 : a.tdiv b * b + a.tmod b = a) (hl : a.tdiv b - 1 = a / b ∧ a.tmod b + b = a % b ∧ InR (a.tdiv b - 1)) : wrap64 (a - wrap64 ((a.tdiv b - 1) * b)) = a % b := by
  rw [hx, ← hl.2.1]
  unfold wrap64
  generalize a.tdiv b * b = X at *
  generalize a.tmod b = r at *
  omega
theorem rdiv_rest_high (a b : Int) (ha : InR a) (hm : InR (a.tdiv b * b)) (hb : InR b) (h1 : -b < a.tmod b) (h2 : a.tmod b < b) (h4 : a.tdiv b * b + a.tmod b = a) (hl : a.tdiv b = a / b ∧ a.tmod b = a % b) : wrap64 (a - a.tdiv b * b) = a % b := by
  rw [IntWalk.wrap64_in _ (by omega)]; omega
theorem div_rng (a b : Int) (ha : InR a) (h : 1 ≤ b) : InR (a / b) := by
  rcases Int.lt_or_le (a.tmod b) 0 with h0 | h0
  · have := div_low a b ha h h0; omega
  · have := div_high a b h h0
    have := tdiv_rng a b ha h
    omega
def sat (n : Int) : Int := if 9223372036854775807 < n then 9223372036854775807 else if n < -9223372036854775808 then -9223372036854775808 else n
theorem sat_mono {m n : Int} (h : m ≤ n) : sat m ≤ sat n := by unfold sat; split <;> split <;> (try split) <;> (try split) <;> omega
theorem addsat_s (a b : Int) (w : World) (ha : InR a) (hb : InR b) : Calls Tryd.prog 120 #[.int .i64 a, .int .i64 b] w fun e w' => e = .returned (.int .i64 (sat (a + b))) ∧ w = w' :=
  (addsat_c a b w ha hb).mono fun _ _ h => by
    unfold sat
    rcases h with ⟨h, rfl, rfl⟩ | ⟨h, rfl, rfl⟩ | ⟨h, rfl, rfl⟩
    · rw [if_neg (by omega), if_neg (by omega)]; exact ⟨rfl, rfl⟩
    · rw [if_pos (by omega)]; exact ⟨rfl, rfl⟩
    · rw [if_neg (by omega), if_pos (by omega)]; exact ⟨rfl, rfl⟩
theorem subsat_s (a b : Int) (w : World) (ha : InR a) (hb : InR b) : Calls Tryd.prog 125 #[.int .i64 a, .int .i64 b] w fun e w' => e = .returned (.int .i64 (sat (a - b))) ∧ w = w' :=
  (subsat_c a b w ha hb).mono fun _ _ h => by
    unfold sat
    rcases h with ⟨h, rfl, rfl⟩ | ⟨h, rfl, rfl⟩ | ⟨h, rfl, rfl⟩
    · rw [if_neg (by omega), if_neg (by omega)]; exact ⟨rfl, rfl⟩
    · rw [if_pos (by omega)]; exact ⟨rfl, rfl⟩
    · rw [if_neg (by omega), if_pos (by omega)]; exact ⟨rfl, rfl⟩
theorem cdiv_rng (a b : Int) (ha : InR a) (h : 1 ≤ b) (hr : ¬ a % b = 0) : InR (a / b + 1) := by
  rcases Int.lt_trichotomy (a.tmod b) 0 with h0 | h0 | h0
  · have := div_low a b ha h h0
    have := tdiv_rng a b ha h
    omega
  · have := div_high a b h (by omega); omega
  · have h1 := div_high a b h (by omega)
    have h2 := cdiv_high a b ha h h0
    have h3 : cdiv a b = a / b + 1 := if_neg hr
    have h4 := wrap64_spec (a.tdiv b + 1)
    rw [h2, h3] at h4
    exact h4.1
end Go.Proofs.YtffdglhdklmjoaaDoor
