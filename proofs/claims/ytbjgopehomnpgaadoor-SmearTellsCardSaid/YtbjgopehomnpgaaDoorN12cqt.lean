/-
  Layer 12: what is told by a smear, as numbers: all windows together.
-/
import Derived.Test.YtbjgopehomnpgaaDoorN12qt
namespace Go.Proofs.YtbjgopehomnpgaaDoor
open Go Go.RowKit
set_option linter.unusedVariables false
theorem fl_step {P Q N : Int} (hN : 0 < N) (h0 : P ≤ Q) (h1 : Q ≤ P + N) : P / N ≤ Q / N ∧ Q / N ≤ P / N + 1 := by
  refine ⟨Int.ediv_le_ediv hN h0, ?_⟩
  have h2 := Int.ediv_le_ediv hN h1
  have h3 : (P + N) / N = P / N + 1 := by
    have := Int.add_mul_ediv_right P 1 (show N ≠ 0 by omega)
    rw [Int.one_mul] at this
    exact this
  omega
def softX (N g : Int) : Int := g * (2000000000 * g / N)
theorem softX_step {N g : Int} (hN : 3601000000000 ≤ N) (hg : 0 ≤ g) (h2 : 2 * (g + 1) ≤ N) : softX N g ≤ softX N (g + 1) ∧ softX N (g + 1) ≤ softX N g + N := by
  unfold softX
  have hs := fl_step (P := 2000000000 * g) (Q := 2000000000 * (g + 1)) (N := N) (by omega) (by omega) (by omega)
  have h0 : 0 ≤ 2000000000 * g / N := Int.ediv_nonneg (by omega) (by omega)
  have h1 : 2000000000 * g / N ≤ 1000000000 := Int.ediv_le_of_le_mul (by omega) (by omega)
  generalize 2000000000 * g / N = r at hs h0 h1 ⊢
  generalize 2000000000 * (g + 1) / N = s at hs ⊢
  have a1 : g * r ≤ g * s := Int.mul_le_mul_of_nonneg_left hs.1 hg
  have a2 : g * s ≤ g * (r + 1) := Int.mul_le_mul_of_nonneg_left hs.2 hg
  rw [Int.add_mul, Int.one_mul]
  rw [Int.mul_add, Int.mul_one] at a2
  omega
def lagU (k N g : Int) : Int := if k = 1 then -(-g * 1000000000 / N) else if 2 * g < N then -(-g * (2000000000 * g / N) / N) else 1000000000 - (N - g) * (2000000000 * (N - g) / N) / N
theorem neg_div_step {P Q N : Int} (hN : 0 < N) (h0 : P ≤ Q) (h1 : Q ≤ P + N) : -(-P / N) ≤ -(-Q / N) ∧ -(-Q / N) ≤ -(-P / N) + 1 := by
  have := fl_step (P := -Q) (Q := -P) hN (by omega) (by omega)
  omega
theorem lagU_step {k N M g : Int} (hM : N = M * 1000000000) (hk : (k = 1 ∧ 2 ≤ M) ∨ (k = 2 ∧ 3601 ≤ M)) (h0 : 0 ≤ g) (h1 : g < N) : lagU k N g ≤ lagU k N (g + 1) ∧ lagU k N (g + 1) ≤ lagU k N g + 1 := by
  unfold lagU
  rcases hk with ⟨hk, h2⟩ | ⟨hk, h2⟩
  · rw [if_pos hk, if_pos hk]
    have := fl_step (P := -(g + 1) * 1000000000) (Q := -g * 1000000000) (N := N) (by omega) (by omega) (by omega)
    omega
  · simp only [if_neg (show ¬ k = 1 by omega)]
    have hx : ∀ x : Int, -x * (2000000000 * x / N) = -softX N x := fun x => by unfold softX; rw [Int.neg_mul]
    have hy : ∀ x : Int, x * (2000000000 * x / N) = softX N x := fun x => rfl
    simp only [hx, hy]
    by_cases c1 : 2 * (g + 1) < N
    · rw [if_pos (by omega), if_pos c1]
      have := softX_step (N := N) (g := g) (by omega) h0 (by omega)
      exact neg_div_step (by omega) this.1 this.2
    · rw [if_neg c1]
      by_cases c2 : 2 * g < N
      · rw [if_pos c2]
        have hh : N = 2 * (g + 1) := by omega
        have hs := softX_step (N := N) (g := g) (by omega) h0 (by omega)
        have e1 : N - (g + 1) = g + 1 := by omega
        rw [e1]
        have e2 : softX N (g + 1) = 500000000 * N := by
          unfold softX
          have : 2000000000 * (g + 1) / N = 1000000000 := by
            rw [show 2000000000 * (g + 1) = 1000000000 * N by omega]
            exact Int.mul_ediv_cancel _ (by omega)
          rw [this]; omega
        rw [e2] at hs ⊢
        rw [Int.mul_ediv_cancel _ (by omega)]
        have := neg_div_step (N := N) (by omega) hs.1 hs.2
        rw [← Int.neg_mul, Int.mul_ediv_cancel _ (by omega)] at this
        omega
      · rw [if_neg c2]
        have hs := softX_step (N := N) (g := N - (g + 1)) (by omega) (by omega) (by omega)
        rw [show N - (g + 1) + 1 = N - g by omega] at hs
        have := fl_step (N := N) (by omega) hs.1 hs.2
        omega
theorem lagU_zero {k N : Int} (hN : 0 < N) : lagU k N 0 = 0 := by
  unfold lagU
  split
  · simp
  · rw [if_pos (by omega)]; simp
theorem lagU_full {k N : Int} (hN : 0 < N) : lagU k N N = 1000000000 := by
  unfold lagU
  split
  · rw [Int.neg_mul, ← Int.mul_neg, Int.mul_ediv_cancel_left _ (by omega)]; omega
  · rw [if_neg (by omega)]; simp
def lagC (k N g : Int) : Int := if g ≤ 0 then 0 else if N ≤ g then 1000000000 else lagU k N g
theorem lagC_mid {k N g : Int} (hN : 0 < N) (h0 : 0 ≤ g) (h1 : g ≤ N) : lagC k N g = lagU k N g := by
  unfold lagC
  split
  · rw [show g = 0 by omega, lagU_zero hN]
  · split
    · rw [show g = N by omega, lagU_full hN]
    · rfl
theorem lagC_step {k N M g : Int} (hM : N = M * 1000000000) (hk : (k = 1 ∧ 2 ≤ M) ∨ (k = 2 ∧ 3601 ≤ M)) : lagC k N g ≤ lagC k N (g + 1) ∧ lagC k N (g + 1) ≤ lagC k N g + 1 ∧ (g < 0 ∨ N ≤ g → lagC k N (g + 1) = lagC k N g) := by
  by_cases h : 0 ≤ g ∧ g < N
  · rw [lagC_mid (by omega) h.1 (by omega), lagC_mid (by omega) (by omega) (by omega)]
    have := lagU_step hM hk h.1 h.2
    exact ⟨this.1, this.2, fun _ => by omega⟩
  · unfold lagC
    by_cases c : g < 0
    · rw [if_pos (by omega), if_pos (by omega)]; omega
    · rw [if_neg (show ¬ g ≤ 0 by omega), if_pos (show N ≤ g by omega), if_neg (show ¬ g + 1 ≤ 0 by omega), if_pos (show N ≤ g + 1 by omega)]; omega
theorem lagC_mono {k N M : Int} (hM : N = M * 1000000000) (hk : (k = 1 ∧ 2 ≤ M) ∨ (k = 2 ∧ 3601 ≤ M)) (g : Int) : ∀ n : Nat, lagC k N g ≤ lagC k N (g + n)
  | 0 => by simp
  | n + 1 => by
    have := lagC_mono hM hk g n
    have h := (lagC_step (g := g + n) hM hk).1
    rw [show g + ((n + 1 : Nat) : Int) = g + n + 1 by omega]
    omega
theorem lagC_in {k N M : Int} (hM : N = M * 1000000000) (hk : (k = 1 ∧ 2 ≤ M) ∨ (k = 2 ∧ 3601 ≤ M)) (g : Int) : 0 ≤ lagC k N g ∧ lagC k N g ≤ 1000000000 := by
  by_cases h0 : g ≤ 0
  · unfold lagC; rw [if_pos h0]; omega
  · by_cases h1 : N ≤ g
    · unfold lagC; rw [if_neg h0, if_pos h1]; omega
    · have a := lagC_mono hM hk 0 g.toNat
      have b := lagC_mono hM hk g (N - g).toNat
      rw [show (0 : Int) + (g.toNat : Int) = g by omega] at a
      rw [show g + ((N - g).toNat : Int) = N by omega] at b
      have c : lagC k N 0 = 0 := by unfold lagC; simp
      have d : lagC k N N = 1000000000 := by unfold lagC; rw [if_neg (by omega), if_pos (Int.le_refl _)]
      omega
def wbJ (B b : Int) (l : List Int) (j : Nat) : Int := wbN B b l (l.getD j 0)
def inJ (B A b : Int) (l : List Int) (n : Int) (j : Nat) : Bool := decide (wbJ B b l j ≤ n ∧ n < wbJ B b l j + slN B A)
def noJ (B A b : Int) (l : List Int) (n : Int) (m : Nat) : Bool := (List.range m).all fun j => !inJ B A b l n j
theorem noJ_succ (B A b : Int) (l : List Int) (n : Int) (m : Nat) : noJ B A b l n (m + 1) = (noJ B A b l n m && !inJ B A b l n m) := by simp [noJ, List.range_succ]
theorem noJ_get {B A b : Int} {l : List Int} {n : Int} {m : Nat} (h : noJ B A b l n m = true) {j : Nat} (hj : j < m) : inJ B A b l n j = false := by
  have := List.all_eq_true.1 h j (List.mem_range.2 hj)
  simpa using this
theorem inJ_spec (B A b : Int) (l : List Int) (n : Int) (j : Nat) : (inJ B A b l n j = true ∧ wbJ B b l j ≤ n ∧ n < wbJ B b l j + slN B A) ∨ (inJ B A b l n j = false ∧ (n < wbJ B b l j ∨ wbJ B b l j + slN B A ≤ n)) := by
  unfold inJ
  by_cases h : wbJ B b l j ≤ n ∧ n < wbJ B b l j + slN B A
  · left; exact ⟨decide_eq_true h, h⟩
  · right; exact ⟨decide_eq_false h, by omega⟩
def hitN (B A b : Int) (l : List Int) (n : Int) : Nat → Int
  | 0 => -1
  | m + 1 => if hitN B A b l n m = -1 then (if inJ B A b l n m = true then (m : Int) else -1) else hitN B A b l n m
def hitJ (B A b : Int) (l : List Int) (n : Int) : Int := hitN B A b l n l.length
theorem hitN_none {B A b : Int} {l : List Int} {n : Int} : ∀ m, noJ B A b l n m = true → hitN B A b l n m = -1
  | 0, _ => rfl
  | m + 1, h => by
    have h1 := noJ_get h (Nat.lt_succ_self m)
    rw [noJ_succ, Bool.and_eq_true] at h
    have := hitN_none m h.1
    simp only [hitN, this, h1, if_true, Bool.false_eq_true, if_false]
theorem hitN_some {B A b : Int} {l : List Int} {n : Int} {j : Nat} (h0 : noJ B A b l n j = true) (h1 : inJ B A b l n j = true) : ∀ m, j < m → hitN B A b l n m = j
  | 0, h => by omega
  | m + 1, h => by
    by_cases c : j = m
    · subst c
      have := hitN_none j h0
      simp only [hitN, this, h1, if_true]
    · have := hitN_some h0 h1 m (by omega)
      simp only [hitN, this]
      rw [if_neg (by omega)]
def atE (k B A b t : Int) (l : List Int) (n : Int) : Int := if fitsI k B A b t l ≠ 0 then fitsI k B A b t l else utcE b t l n
def plN (b : Int) (l : List Int) (n d : Int) : Int := n - (b + ctL l d) * 1000000000
def atV (k B A b t : Int) (l : List Int) (n : Int) : Int := if atE k B A b t l n ≠ 0 then 0 else if k = 0 ∨ hitJ B A b l n = -1 then plN b l n (utcD b t l n) else plN b l n (l.getD (hitJ B A b l n).toNat 0) - lagV k B A (n - wbJ B b l (hitJ B A b l n).toNat)
def KM (k B A : Int) : Prop := (k = 1 ∧ 2 ≤ B + A + 1) ∨ (k = 2 ∧ 3601 ≤ B + A + 1)
theorem lagV_C {k B A g : Int} (hk : KM k B A) (hs : smI k B A = 0) (h0 : 0 ≤ g) (h1 : g ≤ slN B A) : lagV k B A g = lagC k (slN B A) g := by
  have hN : slN B A = (B + A + 1) * 1000000000 := rfl
  have hs0 : 0 < slN B A := by unfold KM at hk; omega
  rw [lagC_mid hs0 h0 h1]
  have e : lagE k B A g = 0 := by unfold lagE; rw [if_neg]; unfold KM at hk; omega
  unfold lagV lagU mdF
  rw [if_neg (by omega)]
def upF (a b c : Int) : Int := -mdF (-a) b c
theorem lagV_spec (k B A g : Int) : (lagE k B A g = 1 ∧ lagV k B A g = 0) ∨ (lagE k B A g = 0 ∧ k = 1 ∧ lagV k B A g = upF g 1000000000 (slN B A)) ∨ (lagE k B A g = 0 ∧ k = 2 ∧ 2 * g < slN B A ∧ lagV k B A g = upF g (mdF 2000000000 g (slN B A)) (slN B A)) ∨ (lagE k B A g = 0 ∧ k = 2 ∧ slN B A ≤ 2 * g ∧ lagV k B A g = 1000000000 - mdF (slN B A - g) (mdF 2000000000 (slN B A - g) (slN B A)) (slN B A)) := by
  rcases lagE_spec k B A g with ⟨h, h1, _⟩ | ⟨h, _, _, _, _, _, _, _, _, _, _, _, hk⟩
  · exact .inl ⟨h, h1⟩
  · right
    unfold lagV upF
    rw [if_neg (by omega)]
    rcases hk with hk | hk
    · left; rw [if_pos hk]; exact ⟨h, hk, rfl⟩
    · right
      rw [if_neg (by omega)]
      by_cases c : 2 * g < slN B A
      · left; rw [if_pos c]; exact ⟨h, hk, c, rfl⟩
      · right; rw [if_neg c]; exact ⟨h, hk, by omega, rfl⟩
def winB (B b t : Int) (l : List Int) (d : Int) : Int := if wrongI b t l d = 0 then wbN B b l d else 0
def winN (B A b t : Int) (l : List Int) (d : Int) : Int := if wrongI b t l d = 0 then wbN B b l d + slN B A else 0
theorem win_spec (B A b t : Int) (l : List Int) (d : Int) : (wrongI b t l d = 0 ∧ winB B b t l d = wbN B b l d ∧ winN B A b t l d = wbN B b l d + slN B A ∧ wbN B b l d = (secL b l d + 86400 - B) * 1000000000 ∧ slN B A = (B + A + 1) * 1000000000) ∨ (wrongI b t l d ≠ 0 ∧ winB B b t l d = 0 ∧ winN B A b t l d = 0) := by
  unfold winB winN
  by_cases h : wrongI b t l d = 0
  · rw [if_pos h, if_pos h]; exact .inl ⟨h, rfl, rfl, rfl, rfl⟩
  · rw [if_neg h, if_neg h]; exact .inr ⟨h, rfl, rfl⟩
theorem slN_spec (B A : Int) : slN B A = (B + A + 1) * 1000000000 := rfl
end Go.Proofs.YtbjgopehomnpgaaDoor
