import Derived.Test.YtflckmhlobpfiaaDoorW02jqa
import Derived.Test.YtflckmhlobpfiaaDoorDivmqa
/-
  Digits of 32 bits: as a wide number, and a quotient of a number below 0.
-/
namespace Go.Proofs.YtflckmhlobpfiaaDoor
theorem to_small (x : Int) (h0 : 0 ≤ x) (h1 : x < 170141183460469231731687303715884105728) :
    dg x 3 < 2147483648 ∧ dg x 3 * 4294967296 + dg x 2 = x / 18446744073709551616 ∧ dg x 1 * 4294967296 + dg x 0 = x % 18446744073709551616 ∧ ∀ k, 4 ≤ k → dg x k = 0 := by
  obtain ⟨d0, d1, d2, d3, d4⟩ := wide_digits x h0 h1
  rw [d0, d1, d2, d3]
  exact ⟨by omega, by omega, by omega, d4⟩
end Go.Proofs.YtflckmhlobpfiaaDoor
