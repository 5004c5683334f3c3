/-
  Layer 9: days and moments, as numbers.
-/
import Derived.Test.YtbjgopehomnpgaaDoorN09ql
import Derived.Test.YtbjgopehomnpgaaDoorE00ql
namespace Go.Proofs.YtbjgopehomnpgaaDoor
open Go Go.RowKit
set_option linter.unusedVariables false
def aheadI (b t : Int) (l : List Int) (d : Int) : Int := if wrongI b t l d = 0 then b + ctL l d else 0
def lenI (b t : Int) (l : List Int) (d : Int) : Int := if wrongI b t l d = 0 then ctL l (d + 1) - ctL l d + 86400 else 0
def begI (b t : Int) (l : List Int) (d : Int) : Int := if wrongI b t l d = 0 then secL b l d * 1000000000 else 0
theorem day_spec (b t : Int) (l : List Int) (d : Int) : (wrongI b t l d = 0 ∧ aheadI b t l d = b + ctL l d ∧ lenI b t l d = ctL l (d + 1) - ctL l d + 86400 ∧ begI b t l d = secL b l d * 1000000000) ∨ (wrongI b t l d ≠ 0 ∧ aheadI b t l d = 0 ∧ lenI b t l d = 0 ∧ begI b t l d = 0) := by
  unfold aheadI lenI begI
  by_cases h : wrongI b t l d = 0
  · left; simp [h]
  · right; simp [h]
theorem secL_spec (b : Int) (l : List Int) (d : Int) : secL b l d = 86400 * d + b + ctL l d ∧ (ctL l d : Int) ≤ l.length ∧ 0 ≤ (ctL l d : Int) := ⟨rfl, by have := ctL_le l d; omega, by omega⟩
def utcE (b t : Int) (l : List Int) (n : Int) : Int := if mayL b t l = true then (if n ≤ -4611686018427387904 ∨ 4611686018427387904 ≤ n ∨ n < secL b l (-50000) * 1000000000 then 2 else if secL b l t * 1000000000 ≤ n then 10 else 0) else 1
def utcDay (b : Int) (l : List Int) (n : Int) : Int := if n < secL b l (n / 86400000000000) * 1000000000 then n / 86400000000000 - 1 else n / 86400000000000
theorem utcDay_two (b : Int) (l : List Int) (n : Int) : (n < secL b l (n / 86400000000000) * 1000000000 ∧ utcDay b l n = n / 86400000000000 - 1) ∨ (secL b l (n / 86400000000000) * 1000000000 ≤ n ∧ utcDay b l n = n / 86400000000000) := by
  unfold utcDay
  split
  · left; exact ⟨by assumption, rfl⟩
  · right; exact ⟨by omega, rfl⟩
def utcD (b t : Int) (l : List Int) (n : Int) : Int := if utcE b t l n = 0 then utcDay b l n else 0
def utcS (b t : Int) (l : List Int) (n : Int) : Int := if utcE b t l n = 0 then (n - secL b l (utcDay b l n) * 1000000000) / 1000000000 else 0
def utcN (b t : Int) (l : List Int) (n : Int) : Int := if utcE b t l n = 0 then (n - secL b l (utcDay b l n) * 1000000000) % 1000000000 else 0
theorem utcE_spec (b t : Int) (l : List Int) (n : Int) : (mayL b t l = false ∧ mayI b t l = 1 ∧ utcE b t l n = 1) ∨ (mayL b t l = true ∧ mayI b t l = 0 ∧ 0 ≤ b ∧ b ≤ 100 ∧ -50000 ≤ t ∧ t ≤ 50000 ∧ l.length ≤ 32 ∧
    ((utcE b t l n = 2 ∧ (n ≤ -4611686018427387904 ∨ 4611686018427387904 ≤ n ∨ n < secL b l (-50000) * 1000000000)) ∨ (utcE b t l n = 10 ∧ -4611686018427387904 < n ∧ n < 4611686018427387904 ∧ secL b l (-50000) * 1000000000 ≤ n ∧ secL b l t * 1000000000 ≤ n) ∨
    (utcE b t l n = 0 ∧ -4611686018427387904 < n ∧ n < 4611686018427387904 ∧ secL b l (-50000) * 1000000000 ≤ n ∧ n < secL b l t * 1000000000))) := by
  rcases mayI_spec b t l with ⟨h1, h2⟩ | ⟨h1, h2, h3, h4, h5, h6, h7⟩
  · left; refine ⟨h2, h1, ?_⟩; unfold utcE; rw [h2]; rfl
  · right
    refine ⟨h2, h1, h3, h4, h5, h6, h7, ?_⟩
    unfold utcE
    rw [if_pos h2]
    by_cases c1 : n ≤ -4611686018427387904 ∨ 4611686018427387904 ≤ n ∨ n < secL b l (-50000) * 1000000000
    · rw [if_pos c1]; exact .inl ⟨rfl, c1⟩
    · rw [if_neg c1]
      by_cases c2 : secL b l t * 1000000000 ≤ n
      · rw [if_pos c2]; right; left; exact ⟨rfl, by omega, by omega, by omega, c2⟩
      · rw [if_neg c2]; right; right; exact ⟨rfl, by omega, by omega, by omega, by omega⟩
theorem utc_spec (b t : Int) (l : List Int) (n : Int) : (utcE b t l n ≠ 0 ∧ utcD b t l n = 0 ∧ utcS b t l n = 0 ∧ utcN b t l n = 0) ∨
    (utcE b t l n = 0 ∧ utcD b t l n = utcDay b l n ∧ utcS b t l n = (n - secL b l (utcDay b l n) * 1000000000) / 1000000000 ∧ utcN b t l n = (n - secL b l (utcDay b l n) * 1000000000) % 1000000000) := by
  unfold utcD utcS utcN
  by_cases h : utcE b t l n = 0
  · right; simp [h]
  · left; simp [h]
end Go.Proofs.YtbjgopehomnpgaaDoor
