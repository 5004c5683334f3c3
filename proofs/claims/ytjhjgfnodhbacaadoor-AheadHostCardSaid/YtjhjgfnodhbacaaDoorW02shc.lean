/-
  Numbers of digits: a product divided.
-/
import Derived.Test.YtjhjgfnodhbacaaDoorW02rhc
import Derived.Test.YtjhjgfnodhbacaaDoorW02jhc
import Derived.Test.YtjhjgfnodhbacaaDoorBigmhc
import Derived.Deep.RegionWith
import Derived.Deep.Cut
import Derived.Deep.CutRange
import Derived.Test.YtjhjgfnodhbacaaDoorW02ehc
namespace Go.Proofs.YtjhjgfnodhbacaaDoor
open Go.RowKit Go.Extern.Stop Go.Stop Go.Extern
set_option linter.unusedVariables false
set_option linter.unusedSimpArgs false
def mdE (a b c : Int) : Int := if c < 1 then 1 else if InR (a * b / c) then 0 else 2
def mdN (a b c : Int) : Int := if c < 1 then 0 else if InR (a * b / c) then a * b / c else 0
def errOf (n : Int) : Value := if n = 0 then .nilIface else errV n
theorem wmuldiv_any (a b c : Int) (w : World) (ha : InR a) (hb : InR b) (hc : InR c) : Calls Tryd.prog 125 #[.int .i64 a, .int .i64 b, .int .i64 c] w fun e w' => e = .returned (.tuple #[.int .i64 (mdN a b c), errOf (mdE a b c)]) ∧ Below w.heap.size w w' := by
  by_cases h : c < 1
  · have e1 : mdN a b c = 0 := by unfold mdN; rw [if_pos h]
    have e2 : mdE a b c = 1 := by unfold mdE; rw [if_pos h]
    rw [e1, e2]; exact wmuldiv_no a b c w ha hb h
  · by_cases hq : InR (a * b / c)
    · have e1 : mdN a b c = a * b / c := by unfold mdN; rw [if_neg h, if_pos hq]
      have e2 : mdE a b c = 0 := by unfold mdE; rw [if_neg h, if_pos hq]
      rw [e1, e2]
      exact wmuldiv a b c w ha hb (by omega) hc hq
    · have e1 : mdN a b c = 0 := by unfold mdN; rw [if_neg h, if_neg hq]
      have e2 : mdE a b c = 2 := by unfold mdE; rw [if_neg h, if_neg hq]
      rw [e1, e2]
      exact wmuldiv_big a b c w ha hb (by omega) hc hq
def msE (a m n : Int) : Int := if n < 0 ∨ 31 < n then 1 else mdE a m (2 ^ n.toNat)
def msN (a m n : Int) : Int := if n < 0 ∨ 31 < n then 0 else mdN a m (2 ^ n.toNat)
theorem pow_rng {n : Int} (h0 : 0 ≤ n) (h1 : n ≤ 31) : 1 ≤ (2 : Int) ^ n.toNat ∧ (2 : Int) ^ n.toNat ≤ 2147483648 := by
  have h : n.toNat ≤ 31 := by omega
  refine ⟨Int.pow_pos (by decide), ?_⟩
  have := Nat.pow_le_pow_right (show 0 < 2 by decide) h
  have h2 : ((2 ^ n.toNat : Nat) : Int) ≤ ((2 ^ 31 : Nat) : Int) := by exact_mod_cast this
  simpa using h2
theorem wmulshift_any (a m n : Int) (w : World) (ha : InR a) (hm0 : 0 ≤ m) (hm1 : m < 4294967296) (hn : InR n) : Calls Tryd.prog 126 #[.int .i64 a, .int .u32 m, .int .i64 n] w fun e w' => e = .returned (.tuple #[.int .i64 (msN a m n), errOf (msE a m n)]) ∧ Below w.heap.size w w' := by
  by_cases h : n < 0 ∨ 31 < n
  · have e1 : msN a m n = 0 := by unfold msN; rw [if_pos h]
    have e2 : msE a m n = 1 := by unfold msE; rw [if_pos h]
    rw [e1, e2]; exact wmulshift_no a m n w h
  · have hp := pow_rng (n := n) (by omega) (by omega)
    have h1 : ¬ (2 : Int) ^ n.toNat < 1 := by omega
    by_cases hq : InR (a * m / 2 ^ n.toNat)
    · have e1 : msN a m n = a * m / 2 ^ n.toNat := by unfold msN mdN; rw [if_neg h, if_neg h1, if_pos hq]
      have e2 : msE a m n = 0 := by unfold msE mdE; rw [if_neg h, if_neg h1, if_pos hq]
      rw [e1, e2]
      exact wmulshift_i a m n w ha hm0 hm1 (by omega) (by omega) hq
    · have e1 : msN a m n = 0 := by unfold msN mdN; rw [if_neg h, if_neg h1, if_neg hq]
      have e2 : msE a m n = 2 := by unfold msE mdE; rw [if_neg h, if_neg h1, if_neg hq]
      rw [e1, e2]
      exact wmulshift_i_big a m n w ha hm0 hm1 (by omega) (by omega) hq
end Go.Proofs.YtjhjgfnodhbacaaDoor
