/-
  The servo: numbers.
-/
import Derived.Test.YtjhjgfnodhbacaaDoorNumhc
namespace Go.Proofs.YtjhjgfnodhbacaaDoor
set_option linter.unusedVariables false
def clI (v lo hi : Int) : Int := if v < lo then lo else if hi < v then hi else v
theorem cl_spec (v lo hi : Int) : (v < lo ∧ clI v lo hi = lo) ∨ (lo ≤ v ∧ hi < v ∧ clI v lo hi = hi) ∨ (lo ≤ v ∧ v ≤ hi ∧ clI v lo hi = v) := by
  unfold clI
  split
  · exact .inl ⟨by assumption, rfl⟩
  · split <;> omega
def svK (p q l : Int) : Int := if 0 ≤ p ∧ p ≤ 1024 ∧ 0 ≤ q ∧ q ≤ 1024 ∧ 0 ≤ l ∧ l ≤ 1048576 then 0 else 1
theorem sv_spec (p q l : Int) : ((0 ≤ p ∧ p ≤ 1024 ∧ 0 ≤ q ∧ q ≤ 1024 ∧ 0 ≤ l ∧ l ≤ 1048576) ∧ svK p q l = 0) ∨ ((p < 0 ∨ 1024 < p ∨ q < 0 ∨ 1024 < q ∨ l < 0 ∨ 1048576 < l) ∧ svK p q l = 1) := by
  unfold svK
  split
  · left; exact ⟨by assumption, rfl⟩
  · right; exact ⟨by omega, rfl⟩
def stO (o : Int) : Int := clI (o / 1024) (-1048576) 1048576
def stS (s o : Int) : Int := clI (clI s (-1048576) 1048576 + stO o) (-1048576) 1048576
def stF (p q l s o : Int) : Int := clI ((p * stO o + q * stS s o) / 1024) (-l) l
end Go.Proofs.YtjhjgfnodhbacaaDoor
