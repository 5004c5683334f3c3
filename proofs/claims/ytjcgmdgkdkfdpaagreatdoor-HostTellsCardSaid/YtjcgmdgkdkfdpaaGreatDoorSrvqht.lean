/-
 The servo: numbers.
-/
import Derived.Test.YtjcgmdgkdkfdpaaGreatDoorNumqht
namespace Go.Proofs.YtjcgmdgkdkfdpaaGreatDoor
set_option linter.unusedVariables false
def clI (v lo hi : Int) : Int := if v < lo then lo else if hi < v then hi else v
theorem cl_spec (v lo hi : Int) : (v < lo ∧ clI v lo hi = lo) ∨ (lo ≤ v ∧ hi < v ∧ clI v lo hi = hi) ∨ (lo ≤ v ∧ v ≤ hi ∧ clI v lo hi = v) := by
 unfold clI
 split
 · exact .inl ⟨by assumption, rfl⟩
 · split <;> omega
def svK (p q l : Int) : Int := if 0 ≤ p ∧ p ≤ 1024 ∧ 0 ≤ q ∧ q ≤ 1024 ∧ 0 ≤ l ∧ l ≤ 1048576 then 0 else 1
theorem sv_spec (p q l : Int) : ((0 ≤ p ∧ p ≤ 1024 ∧ 0 ≤ q ∧ q ≤ 1024 ∧ 0 ≤ l ∧ l ≤ 1048576) ∧ svK p q l = 0) ∨ ((p < 0 ∨ 1024 < p ∨ q < 0 ∨ 1024 < q ∨ l < 0 ∨ 1048576 < l) ∧ svK p q l = 1) := by
 unfold svK
 split
 · left; exact ⟨by assumption, rfl⟩
 · right; exact ⟨by omega, rfl⟩
def stO (o : Int) : Int := clI (o / 1024) (-1048576) 1048576
def stS (s o : Int) : Int := clI (clI s (-1048576) 1048576 + stO o) (-1048576) 1048576
def stF (p q l s o : Int) : Int := clI ((p * stO o + q * stS s o) / 1024) (-l) l
theorem stO_rng (o : Int) : -1048576 ≤ stO o ∧ stO o ≤ 1048576 := by have := cl_spec (o / 1024) (-1048576) 1048576; unfold stO; omega
theorem stS_rng (s o : Int) : -1048576 ≤ stS s o ∧ stS s o ≤ 1048576 := by have := cl_spec (clI s (-1048576) 1048576 + stO o) (-1048576) 1048576; unfold stS; omega
theorem mul_bd {p a : Int} (p0 : 0 ≤ p) (p1 : p ≤ 1024) (a0 : -1048576 ≤ a) (a1 : a ≤ 1048576) : -1073741824 ≤ p * a ∧ p * a ≤ 1073741824 := by
 have h1 := Int.mul_nonneg p0 (show 0 ≤ a + 1048576 by omega)
 have h2 := Int.mul_nonneg p0 (show 0 ≤ 1048576 - a by omega)
 rw [Int.mul_add] at h1
 rw [Int.mul_sub] at h2
 omega
end Go.Proofs.YtjcgmdgkdkfdpaaGreatDoor
