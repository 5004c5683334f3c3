/-
  Layer 9's tables as lists: whether they may be, how many seconds were put in, where a day begins.
-/
import Derived.Test.YtbjgopehomnpgaaDoorLsyql
namespace Go.Proofs.YtbjgopehomnpgaaDoor
open Go Go.RowKit
set_option linter.unusedVariables false
def leastL (l : List Int) (j : Nat) : Int := if j = 0 then -50000 else l.getD (j - 1) 0 + 1
def okJ (l : List Int) (last : Int) (j : Nat) : Bool := decide (leastL l j ≤ l.getD j 0) && decide (l.getD j 0 < last)
def okL (l : List Int) (last : Int) (n : Nat) : Bool := (List.range n).all fun j => okJ l last j
theorem okL_succ (l : List Int) (last : Int) (n : Nat) : okL l last (n + 1) = (okL l last n && okJ l last n) := by simp [okL, List.range_succ]
theorem okL_get {l : List Int} {last : Int} {n : Nat} (h : okL l last n = true) {j : Nat} (hj : j < n) : okJ l last j = true := by
  unfold okL at h
  exact List.all_eq_true.1 h j (List.mem_range.2 hj)
theorem okL_ge {l : List Int} {last : Int} {n : Nat} (h : okL l last n = true) : ∀ j, j < n → -50000 ≤ l.getD j 0 ∧ l.getD j 0 < last := by
  intro j
  induction j with
  | zero =>
    intro hj
    have := okL_get h hj
    simp only [okJ, leastL, if_true, Bool.and_eq_true, decide_eq_true_eq] at this
    exact this
  | succ j ih =>
    intro hj
    have := okL_get h hj
    have h0 := ih (by omega)
    simp only [okJ, leastL, Nat.succ_ne_zero, if_false, Nat.add_sub_cancel, Bool.and_eq_true, decide_eq_true_eq] at this
    omega
def mayL (base last : Int) (l : List Int) : Bool := decide (0 ≤ base) && decide (base ≤ 100) && decide (-50000 ≤ last) && decide (last ≤ 50000) && decide (l.length ≤ 32) && okL l last l.length
def cntL (l : List Int) (day : Int) (n : Nat) : Nat := ((l.take n).filter fun d => decide (d < day)).length
theorem cntL_zero (l : List Int) (day : Int) : cntL l day 0 = 0 := rfl
theorem cntL_succ {l : List Int} {day : Int} {n : Nat} {a : Int} (h : l[n]? = some a) : cntL l day (n + 1) = cntL l day n + if a < day then 1 else 0 := by
  unfold cntL
  rw [take_more h, List.filter_append, List.length_append]
  by_cases ha : a < day <;> simp [ha]
theorem cntL_le (l : List Int) (day : Int) (n : Nat) : cntL l day n ≤ n := by
  unfold cntL
  exact Nat.le_trans (List.length_filter_le _ _) (by rw [List.length_take]; omega)
def ctL (l : List Int) (day : Int) : Nat := (l.filter fun d => decide (d < day)).length
theorem cntL_all (l : List Int) (day : Int) : cntL l day l.length = ctL l day := by unfold cntL ctL; rw [List.take_length]
theorem ctL_le (l : List Int) (day : Int) : ctL l day ≤ l.length := List.length_filter_le _ _
def mayI (base last : Int) (l : List Int) : Int := if mayL base last l = true then 0 else 1
def wrongI (base last : Int) (l : List Int) (day : Int) : Int := if mayL base last l = true then (if day < -50000 then 2 else if last ≤ day then 10 else 0) else 1
def secL (base : Int) (l : List Int) (day : Int) : Int := 86400 * day + base + ctL l day
theorem mayL_spec {base last : Int} {l : List Int} (h : mayL base last l = true) : 0 ≤ base ∧ base ≤ 100 ∧ -50000 ≤ last ∧ last ≤ 50000 ∧ l.length ≤ 32 := by
  simp only [mayL, Bool.and_eq_true, decide_eq_true_eq] at h
  omega
theorem wrongI_spec (base last : Int) (l : List Int) (day : Int) : (mayI base last l = 1 ∧ wrongI base last l day = 1 ∧ mayL base last l = false) ∨ (mayI base last l = 0 ∧ mayL base last l = true ∧ 0 ≤ base ∧ base ≤ 100 ∧ -50000 ≤ last ∧ last ≤ 50000 ∧ l.length ≤ 32 ∧ ((wrongI base last l day = 2 ∧ day < -50000) ∨ (wrongI base last l day = 10 ∧ -50000 ≤ day ∧ last ≤ day) ∨ (wrongI base last l day = 0 ∧ -50000 ≤ day ∧ day < last))) := by
  unfold mayI wrongI
  cases hm : mayL base last l with
  | false => left; simp
  | true =>
    right
    have := mayL_spec hm
    refine ⟨by simp, rfl, this.1, this.2.1, this.2.2.1, this.2.2.2.1, this.2.2.2.2, ?_⟩
    simp only [if_true]
    split
    · left; exact ⟨rfl, by assumption⟩
    · split <;> omega
theorem mayB (base last : Int) (l : List Int) : mayL base last l = (mayI base last l == 0) := by
  unfold mayI
  cases mayL base last l <;> rfl
theorem mayI_spec (base last : Int) (l : List Int) : (mayI base last l = 1 ∧ mayL base last l = false) ∨ (mayI base last l = 0 ∧ mayL base last l = true ∧ 0 ≤ base ∧ base ≤ 100 ∧ -50000 ≤ last ∧ last ≤ 50000 ∧ l.length ≤ 32) := by
  rcases wrongI_spec base last l 0 with ⟨a, _, b⟩ | ⟨a, b, c, d, e, f, g, _⟩
  · exact .inl ⟨a, b⟩
  · exact .inr ⟨a, b, c, d, e, f, g⟩
end Go.Proofs.YtbjgopehomnpgaaDoor
