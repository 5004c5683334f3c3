/-
  Plain mathematics of the calendar: days by year, month and day.
-/
import Derived.IntWalk
namespace Go.Proofs.YtengchkiejpglaaDoor
set_option linter.unusedVariables false
theorem tmod0 (y n : Int) (h : y % n = 0) : (y.tmod n == 0) = true := by
  rw [beq_iff_eq]; exact Int.tmod_eq_zero_of_dvd (Int.dvd_of_emod_eq_zero h)
theorem tmod1 (y n : Int) (h : ¬ y % n = 0) : (y.tmod n == 0) = false := by
  rw [beq_eq_false_iff_ne]; intro e; exact h (Int.emod_eq_zero_of_dvd (Int.dvd_of_tmod_eq_zero e))
theorem tmod0' (y n : Int) (h : y % n = 0) : (y.tmod n != 0) = false := by simp [bne, tmod0 y n h]
theorem tmod1' (y n : Int) (h : ¬ y % n = 0) : (y.tmod n != 0) = true := by simp [bne, tmod1 y n h]
namespace Cal
/-- days ahead of a year, from year 1 on -/
def dby (y : Int) : Int := 365 * (y - 1) + (y - 1) / 4 - (y - 1) / 100 + (y - 1) / 400
def leapB (y : Int) : Bool := decide (y % 4 = 0 ∧ (y % 100 ≠ 0 ∨ y % 400 = 0))
def lp (y : Int) : Int := if y % 4 = 0 ∧ (y % 100 ≠ 0 ∨ y % 400 = 0) then 1 else 0
def dim (y m : Int) : Int := if m = 2 then 28 + lp y else if m = 4 ∨ m = 6 ∨ m = 9 ∨ m = 11 then 30 else if m < 1 ∨ 12 < m then 0 else 31
def cum (y m : Int) : Int := if m ≤ 1 then 0 else if m = 2 then 31 else (lp y + (if m = 3 then 59 else if m = 4 then 90 else if m = 5 then 120 else if m = 6 then 151 else if m = 7 then 181 else if m = 8 then 212 else if m = 9 then 243 else if m = 10 then 273 else if m = 11 then 304 else if m = 12 then 334 else 365))
theorem lp_01 (y : Int) : lp y = 0 ∨ lp y = 1 := by unfold lp; split <;> simp
theorem leapB_lp (y : Int) : (leapB y = true ∧ lp y = 1) ∨ (leapB y = false ∧ lp y = 0) := by unfold lp leapB; split <;> simp_all
theorem dby_succ (y : Int) : dby (y + 1) = dby y + 365 + lp y := by unfold dby lp; split <;> omega
theorem dby_one : dby 1 = 0 := by decide
theorem dby_max : dby 10000 = 3652059 := by decide
theorem dby_mono (a b : Int) (h : a ≤ b) : dby a ≤ dby b := by unfold dby; omega
theorem dby_bd (a : Int) (h0 : 0 ≤ a) (h : a ≤ 10001) : -366 ≤ dby a ∧ dby a ≤ 3652425 := by unfold dby; omega
theorem dby_lo (a : Int) (h0 : 1 ≤ a) : 0 ≤ dby a ∧ 365 * (a - 1) ≤ dby a := by unfold dby; omega
theorem dby_guess (n : Int) (h : 0 ≤ n) : dby (n * 400 / 146097 + 1) ≤ n := by unfold dby; omega
theorem dby_guess_hi (n : Int) (h : 0 ≤ n) (h1 : n < 3652059) : 1 ≤ n * 400 / 146097 + 1 ∧ n * 400 / 146097 + 1 ≤ 9999 := by omega
theorem dim_lo (y m : Int) : 0 ≤ dim y m ∧ dim y m ≤ 31 := by have := lp_01 y; unfold dim; repeat' split
                                                              all_goals omega
theorem dim_in (y m : Int) (h1 : 1 ≤ m) (h2 : m ≤ 12) : 28 ≤ dim y m := by have := lp_01 y; unfold dim; repeat' split
                                                                           all_goals omega
theorem dim_out (y m : Int) (h : m < 1 ∨ 12 < m) : dim y m = 0 := by unfold dim; repeat' split
                                                                     all_goals omega
theorem cum_succ (y m : Int) (h1 : 1 ≤ m) (h2 : m ≤ 12) : cum y (m + 1) = cum y m + dim y m := by
  have : m = 1 ∨ m = 2 ∨ m = 3 ∨ m = 4 ∨ m = 5 ∨ m = 6 ∨ m = 7 ∨ m = 8 ∨ m = 9 ∨ m = 10 ∨ m = 11 ∨ m = 12 := by omega
  rcases this with rfl | rfl | rfl | rfl | rfl | rfl | rfl | rfl | rfl | rfl | rfl | rfl <;> simp [cum, dim] <;> omega
theorem cum_mono (y a b : Int) (h1 : 1 ≤ a) (h : a ≤ b) (h2 : b ≤ 13) : cum y a ≤ cum y b := by
  obtain ⟨k, rfl⟩ : ∃ k : Nat, b = a + k := ⟨(b - a).toNat, by omega⟩
  clear h
  induction k with
  | zero => simp
  | succ k ih =>
    have := cum_succ y (a + k) (by omega) (by omega)
    have := dim_lo y (a + k)
    have := ih (by omega)
    have e : a + ((k + 1 : Nat) : Int) = a + k + 1 := by omega
    rw [e]; omega
theorem cum_one (y : Int) : cum y 1 = 0 := by simp [cum]
theorem cum_last (y : Int) : cum y 13 = 365 + lp y := by simp [cum]; omega
theorem cum_bd (y m : Int) : 0 ≤ cum y m ∧ cum y m ≤ 366 := by
  have hl := lp_01 y
  have h1 := cum_one y; have h13 := cum_last y
  by_cases a : m ≤ 1
  · unfold cum; rw [if_pos a]; omega
  · by_cases b : m ≤ 13
    · have := cum_mono y 1 m (by omega) (by omega) b; have := cum_mono y m 13 (by omega) b (by omega); omega
    · have : cum y m = lp y + 365 := by unfold cum; rw [if_neg a, if_neg (by omega), if_neg (by omega), if_neg (by omega), if_neg (by omega), if_neg (by omega), if_neg (by omega), if_neg (by omega), if_neg (by omega), if_neg (by omega), if_neg (by omega), if_neg (by omega)]
      omega
/-- may a date be? -/
def may (y m d : Int) : Prop := 1 ≤ y ∧ y ≤ 9999 ∧ 1 ≤ m ∧ m ≤ 12 ∧ 1 ≤ d ∧ d ≤ dim y m
theorem not_may {y m d : Int} : ¬ may y m d ↔ y < 1 ∨ 9999 < y ∨ d < 1 ∨ dim y m < d := by
  unfold may
  constructor
  · intro h
    by_cases hm : 1 ≤ m ∧ m ≤ 12
    · omega
    · have := dim_out y m (by omega); omega
  · intro h g; omega
/-- its days behind 1970-01-01 -/
def num (y m d : Int) : Int := dby y + cum y m + d - 1 - 719162
theorem may_num (y m d : Int) (h : may y m d) : -719162 ≤ num y m d ∧ num y m d ≤ 2932896 := by
  obtain ⟨h1, h2, h3, h4, h5, h6⟩ := h
  have a := dby_mono 1 y h1; have b := dby_mono (y + 1) 10000 (by omega); have c := dby_succ y; have d1 := cum_mono y 1 m (by omega) h3 (by omega); have d2 := cum_mono y (m + 1) 13 (by omega) (by omega) (by omega)
  have e := cum_succ y m h3 h4; have e1 := cum_one y; have e2 := cum_last y; have f := dby_one; have g := dby_max
  unfold num; omega
theorem num_inj {y m d y' m' d' : Int} (h : may y m d) (h' : may y' m' d') (e : num y m d = num y' m' d') : y = y' ∧ m = m' ∧ d = d' := by
  have key : ∀ y m d y' m' d' : Int, may y m d → may y' m' d' → y < y' → num y m d < num y' m' d' := by
    intro y m d y' m' d' ⟨h1, h2, h3, h4, h5, h6⟩ ⟨g1, g2, g3, g4, g5, g6⟩ hlt
    have b := dby_mono (y + 1) y' (by omega); have c := dby_succ y; have d2 := cum_mono y (m + 1) 13 (by omega) (by omega) (by omega)
    have e := cum_succ y m h3 h4; have e2 := cum_last y; have f := cum_bd y' m'
    unfold num; omega
  have key2 : ∀ y m d m' d' : Int, may y m d → may y m' d' → m < m' → num y m d < num y m' d' := by
    intro y m d m' d' ⟨h1, h2, h3, h4, h5, h6⟩ ⟨g1, g2, g3, g4, g5, g6⟩ hlt
    have d2 := cum_mono y (m + 1) m' (by omega) (by omega) (by omega)
    have e := cum_succ y m h3 h4
    unfold num; omega
  have hy : y = y' := by
    rcases Int.lt_trichotomy y y' with h1 | h1 | h1
    · have := key _ _ _ _ _ _ h h' h1; omega
    · exact h1
    · have := key _ _ _ _ _ _ h' h h1; omega
  subst hy
  have hm : m = m' := by
    rcases Int.lt_trichotomy m m' with h1 | h1 | h1
    · have := key2 _ _ _ _ _ h h' h1; omega
    · exact h1
    · have := key2 _ _ _ _ _ h' h h1; omega
  subst hm
  unfold num at e
  exact ⟨rfl, rfl, by omega⟩
theorem next_day {y m d : Int} (h : may y m d) (hd : d < dim y m) : may y m (d + 1) ∧ num y m (d + 1) = num y m d + 1 := by
  obtain ⟨h1, h2, h3, h4, h5, h6⟩ := h
  exact ⟨⟨h1, h2, h3, h4, by omega, by omega⟩, by unfold num; omega⟩
theorem next_month {y m d : Int} (h : may y m d) (hd : d = dim y m) (hm : m < 12) : may y (m + 1) 1 ∧ num y (m + 1) 1 = num y m d + 1 := by
  obtain ⟨h1, h2, h3, h4, h5, h6⟩ := h
  have e := cum_succ y m h3 h4
  have f := dim_in y (m + 1) (by omega) (by omega)
  exact ⟨⟨h1, h2, by omega, by omega, by omega, by omega⟩, by unfold num; omega⟩
theorem next_year {y m d : Int} (h : may y m d) (hd : d = dim y m) (hm : m = 12) (hy : y < 9999) : may (y + 1) 1 1 ∧ num (y + 1) 1 1 = num y m d + 1 := by
  obtain ⟨h1, h2, h3, h4, h5, h6⟩ := h
  subst hm
  have e := cum_succ y 12 h3 h4
  have e2 := cum_last y
  have e3 : cum y (12 + 1) = cum y 13 := rfl
  have f := dim_in (y + 1) 1 (by omega) (by omega)
  have g := dby_succ y
  have k := cum_one (y + 1)
  exact ⟨⟨by omega, by omega, by omega, by omega, by omega, by omega⟩, by unfold num; omega⟩
theorem last_day {y m d : Int} (h : may y m d) (hd : d = dim y m) (hm : m = 12) (hy : y = 9999) : num y m d = 2932896 := by
  subst hm hy hd
  decide
theorem exists_date' (k : Nat) (h : (k : Int) - 719162 ≤ 2932896) : ∃ y m d : Int, may y m d ∧ num y m d = (k : Int) - 719162 := by
  induction k with
  | zero => exact ⟨1, 1, 1, by unfold may; rw [show dim 1 1 = 31 by decide]; omega, by decide⟩
  | succ k ih =>
    obtain ⟨y, m, d, hM, hN⟩ := ih (by omega)
    have hd : d < dim y m ∨ d = dim y m := by have := hM.2.2.2.2.2; omega
    rcases hd with hd | hd
    · have := next_day hM hd
      exact ⟨y, m, d + 1, this.1, by omega⟩
    · have hm : m < 12 ∨ m = 12 := by have := hM.2.2.2.1; omega
      rcases hm with hm | hm
      · have := next_month hM hd hm
        exact ⟨y, m + 1, 1, this.1, by omega⟩
      · have hy : y < 9999 ∨ y = 9999 := by have := hM.2.1; omega
        rcases hy with hy | hy
        · have := next_year hM hd hm hy
          exact ⟨y + 1, 1, 1, this.1, by omega⟩
        · have := last_day hM hd hm hy
          omega
theorem exists_date (n : Int) (h1 : -719162 ≤ n) (h2 : n ≤ 2932896) : ∃ y m d : Int, may y m d ∧ num y m d = n := by
  obtain ⟨y, m, d, hM, hN⟩ := exists_date' (n + 719162).toNat (by omega)
  exact ⟨y, m, d, hM, by omega⟩
theorem dby_400 (y : Int) : dby (y + 400) = dby y + 146097 := by unfold dby; omega
theorem lp_400 (y : Int) : lp (y + 400) = lp y := by
  have : (y + 400) % 4 = y % 4 ∧ (y + 400) % 100 = y % 100 ∧ (y + 400) % 400 = y % 400 := by omega
  unfold lp; rw [this.1, this.2.1, this.2.2]
theorem dim_400 (y m : Int) : dim (y + 400) m = dim y m := by unfold dim; rw [lp_400]
theorem cum_400 (y m : Int) : cum (y + 400) m = cum y m := by unfold cum; rw [lp_400]
theorem num_400 (y m d : Int) : num (y + 400) m d = num y m d + 146097 := by unfold num; rw [dby_400, cum_400]; omega
end Cal
end Go.Proofs.YtengchkiejpglaaDoor
