/-
  Layer 12: windows of leap seconds, as numbers.
-/
import Derived.Test.YtbjgopehomnpgaaDoorN09bqt
namespace Go.Proofs.YtbjgopehomnpgaaDoor
open Go Go.RowKit
set_option linter.unusedVariables false
def mdF (a b c : Int) : Int := a * b / c
theorem mdF_rng {a b c : Int} (hc : 1 ≤ c) (h0 : -c ≤ a) (h1 : a ≤ c) (hb : 0 ≤ b) : -b ≤ mdF a b c ∧ mdF a b c ≤ b := by
  unfold mdF
  constructor
  · refine Int.le_ediv_of_mul_le (by omega) ?_
    have := Int.mul_le_mul_of_nonneg_right h0 hb
    rw [Int.neg_mul] at this
    rw [Int.neg_mul, Int.mul_comm b c]
    exact this
  · refine Int.ediv_le_of_le_mul (by omega) ?_
    have := Int.mul_le_mul_of_nonneg_right h1 hb
    rw [Int.mul_comm b c]
    exact this
theorem mdF_nn {a b c : Int} (hc : 1 ≤ c) (h0 : 0 ≤ a) (hb : 0 ≤ b) : 0 ≤ mdF a b c := Int.ediv_nonneg (Int.mul_nonneg h0 hb) (by omega)
theorem mdF_comm (a b c : Int) : mdF a b c = mdF b a c := by unfold mdF; rw [Int.mul_comm]
def smI (k B A : Int) : Int := if B < 0 ∨ 43200 < B ∨ A < 0 ∨ 43200 < A then 1 else if (k = 0 ∧ B + A = 0) ∨ (k = 1 ∧ 1 ≤ B + A) ∨ (k = 2 ∧ 3600 ≤ B + A) then 0 else 1
theorem smI_spec (k B A : Int) : (smI k B A = 1 ∧ ((B < 0 ∨ 43200 < B ∨ A < 0 ∨ 43200 < A) ∨ (¬ (k = 0 ∧ B + A = 0) ∧ ¬ (k = 1 ∧ 1 ≤ B + A) ∧ ¬ (k = 2 ∧ 3600 ≤ B + A)))) ∨ (smI k B A = 0 ∧ 0 ≤ B ∧ B ≤ 43200 ∧ 0 ≤ A ∧ A ≤ 43200 ∧ ((k = 0 ∧ B + A = 0) ∨ (k = 1 ∧ 1 ≤ B + A) ∨ (k = 2 ∧ 3600 ≤ B + A))) := by
  unfold smI
  split
  · left; exact ⟨rfl, .inl (by assumption)⟩
  · split
    · right; refine ⟨rfl, by omega, by omega, by omega, by omega, by assumption⟩
    · left; exact ⟨rfl, .inr (by omega)⟩
def slN (B A : Int) : Int := (B + A + 1) * 1000000000
def wbN (B b : Int) (l : List Int) (d : Int) : Int := (secL b l d + 86400 - B) * 1000000000
theorem okL_lt {l : List Int} {t : Int} (h : okL l t l.length = true) : ∀ i, i < l.length → ∀ j, j < i → l.getD j 0 < l.getD i 0 := by
  intro i
  induction i with
  | zero => intro _ j hj; omega
  | succ i ih =>
    intro hi j hj
    have h1 := okL_get h hi
    simp only [okJ, leastL, Nat.succ_ne_zero, if_false, Nat.add_sub_cancel, Bool.and_eq_true, decide_eq_true_eq] at h1
    by_cases hji : j = i
    · subst hji; omega
    · have := ih (by omega) j (by omega); omega
theorem getD_some {l : List Int} {n : Nat} (hn : n < l.length) : l[n]? = some (l.getD n 0) := by rw [List.getD_eq_getElem?_getD, List.getElem?_eq_getElem hn]; rfl
theorem cnt_at {l : List Int} {t : Int} (h : okL l t l.length = true) {i : Nat} (hi : i < l.length) : ∀ n, n ≤ l.length → cntL l (l.getD i 0) n = min n i ∧ cntL l (l.getD i 0 + 1) n = min n (i + 1) := by
  intro n
  induction n with
  | zero => intro _; simp [cntL]
  | succ n ih =>
    intro hn
    obtain ⟨h1, h2⟩ := ih (by omega)
    rw [cntL_succ (getD_some (show n < l.length by omega)), cntL_succ (getD_some (show n < l.length by omega)), h1, h2]
    rcases Nat.lt_trichotomy n i with c | c | c
    · have := okL_lt h i hi n c
      rw [if_pos this, if_pos (by omega)]; omega
    · subst c
      rw [if_neg (by omega), if_pos (by omega)]; omega
    · have := okL_lt h n (by omega) i c
      rw [if_neg (by omega), if_neg (by omega)]; omega
theorem ct_at {l : List Int} {t : Int} (h : okL l t l.length = true) {i : Nat} (hi : i < l.length) : ctL l (l.getD i 0) = i ∧ ctL l (l.getD i 0 + 1) = i + 1 := by
  have := cnt_at h hi l.length (Nat.le_refl _)
  rw [cntL_all, cntL_all] at this
  omega
theorem sec_at {b t : Int} {l : List Int} (h : mayL b t l = true) {i : Nat} (hi : i < l.length) : secL b l (l.getD i 0 + 1) = secL b l (l.getD i 0) + 86401 ∧ wrongI b t l (l.getD i 0) = 0 ∧ -50000 ≤ l.getD i 0 ∧ l.getD i 0 < t ∧ t ≤ 50000 := by
  have hm := mayL_spec h
  have h0 := h
  simp only [mayL, Bool.and_eq_true] at h0
  have h1 := ct_at h0.2 hi
  have h2 := okL_ge h0.2 i hi
  refine ⟨by unfold secL; omega, wrong_ok h h2.1 h2.2, h2.1, h2.2, hm.2.2.2.1⟩
def fitJ (B A b : Int) (l : List Int) (j : Nat) : Bool := decide (j = 0 ∨ wbN B b l (l.getD (j - 1) 0) + slN B A ≤ wbN B b l (l.getD j 0))
def fitL (B A b : Int) (l : List Int) (n : Nat) : Bool := (List.range n).all fun j => fitJ B A b l j
theorem fitL_succ (B A b : Int) (l : List Int) (n : Nat) : fitL B A b l (n + 1) = (fitL B A b l n && fitJ B A b l n) := by simp [fitL, List.range_succ]
theorem fitL_get {B A b : Int} {l : List Int} {n : Nat} (h : fitL B A b l n = true) {j : Nat} (hj : j < n) : fitJ B A b l j = true := List.all_eq_true.1 h j (List.mem_range.2 hj)
def lastN (B A b : Int) (l : List Int) (j : Nat) : Int := if j = 0 then -4611686018427387904 else wbN B b l (l.getD (j - 1) 0) + slN B A
def fitsI (k B A b t : Int) (l : List Int) : Int := if smI k B A ≠ 0 ∨ mayI b t l ≠ 0 then 1 else if k = 0 then 0 else if fitL B A b l l.length = true then 0 else 9
theorem fitsI_spec (k B A b t : Int) (l : List Int) : (fitsI k B A b t l = 1 ∧ (smI k B A ≠ 0 ∨ mayI b t l ≠ 0)) ∨ (smI k B A = 0 ∧ mayI b t l = 0 ∧ ((fitsI k B A b t l = 0 ∧ k = 0) ∨ (k ≠ 0 ∧ fitsI k B A b t l = 0 ∧ fitL B A b l l.length = true) ∨ (k ≠ 0 ∧ fitsI k B A b t l = 9 ∧ fitL B A b l l.length = false))) := by
  unfold fitsI
  by_cases h : smI k B A ≠ 0 ∨ mayI b t l ≠ 0
  · left; rw [if_pos h]; exact ⟨rfl, h⟩
  · right
    rw [if_neg h]
    refine ⟨by omega, by omega, ?_⟩
    by_cases hk : k = 0
    · left; rw [if_pos hk]; exact ⟨rfl, hk⟩
    · right
      rw [if_neg hk]
      cases hf : fitL B A b l l.length with
      | true => left; exact ⟨hk, by simp, rfl⟩
      | false => right; exact ⟨hk, by simp, rfl⟩
def lagE (k B A g : Int) : Int := if smI k B A ≠ 0 ∨ k = 0 ∨ g < 0 ∨ slN B A < g then 1 else 0
def lagV (k B A g : Int) : Int := if lagE k B A g ≠ 0 then 0 else if k = 1 then -mdF (-g) 1000000000 (slN B A) else if 2 * g < slN B A then -mdF (-g) (mdF 2000000000 g (slN B A)) (slN B A) else 1000000000 - mdF (slN B A - g) (mdF 2000000000 (slN B A - g) (slN B A)) (slN B A)
theorem lagE_spec (k B A g : Int) : (lagE k B A g = 1 ∧ lagV k B A g = 0 ∧ (smI k B A ≠ 0 ∨ k = 0 ∨ g < 0 ∨ slN B A < g)) ∨ (lagE k B A g = 0 ∧ smI k B A = 0 ∧ k ≠ 0 ∧ 0 ≤ g ∧ g ≤ slN B A ∧ 0 ≤ B ∧ B ≤ 43200 ∧ 0 ≤ A ∧ A ≤ 43200 ∧ 2000000000 ≤ slN B A ∧ slN B A ≤ 86401000000000 ∧ slN B A = (B + A + 1) * 1000000000 ∧ (k = 1 ∨ k = 2)) := by
  unfold lagV
  by_cases h : lagE k B A g = 0
  · right
    have h0 := h
    unfold lagE at h0
    split at h0
    · omega
    · rename_i hn
      rcases smI_spec k B A with ⟨a, _⟩ | ⟨a, b1, b2, b3, b4, b5⟩
      · omega
      · have hs : slN B A = (B + A + 1) * 1000000000 := rfl
        refine ⟨h, a, by omega, by omega, by omega, b1, b2, b3, b4, by omega, by omega, hs, by omega⟩
  · left
    have h0 := h
    unfold lagE at h h0 ⊢
    split at h0
    · rename_i hn
      rw [if_pos hn]
      exact ⟨rfl, by rw [if_pos (by omega)], hn⟩
    · exact absurd rfl h0
end Go.Proofs.YtbjgopehomnpgaaDoor
