/-
 Layer 9's blobs: the mathematics.
-/
import Derived.Test.YtmlidfpjeomcmaaDoorZ6bclb
import Derived.Test.YtmlidfpjeomcmaaDoorN09clb
import Derived.Test.YtmlidfpjeomcmaaDoorE00clb
import Derived.Test.YtmlidfpjeomcmaaDoorLsyclb
namespace Go.Proofs.YtmlidfpjeomcmaaDoor
open Go.RowKit Go.Extern.Stop Go.Stop Go.Extern Go.Proofs.YtmlidfpjeomcmaaDoor.Sy
set_option linter.unusedVariables false
set_option linter.unusedSimpArgs false
theorem leV_cons (x : UInt8) (l : List UInt8) : leV (x :: l) = leV l * 256 + x.toNat := by
 unfold leV
 rw [List.reverse_cons, beV_snoc]
theorem numB_add : ∀ (n : Nat) (v k : Int), numB (v + k * 256 ^ n) n = numB v n
 | 0, _, _ => rfl
 | n + 1, v, k => by
   have e : v + k * 256 ^ (n + 1) = v + (k * 256 ^ n) * 256 := by rw [Int.pow_succ, Int.mul_assoc]
   have h1 : (v + k * 256 ^ (n + 1)) % 256 = v % 256 := by rw [e]; omega
   have h2 : (v + k * 256 ^ (n + 1)) / 256 = v / 256 + k * 256 ^ n := by rw [e]; omega
   simp only [numB, h1, h2, numB_add n]
theorem numB_u64 {v : Int} (h0 : -9223372036854775808 ≤ v) (h1 : v ≤ 9223372036854775807) : numB (IntKind.wrap .u64 v) 8 = numB v 8 := by
 have hw : IntKind.wrap .u64 v = v % 18446744073709551616 := rfl
 by_cases h : 0 ≤ v
 · rw [hw, show v % 18446744073709551616 = v by omega]
 · have := numB_add 8 v 1
   rw [show (1 : Int) * 256 ^ 8 = 18446744073709551616 by decide] at this
   rw [hw, show v % 18446744073709551616 = v + 18446744073709551616 by omega, this]
theorem leV_numB : ∀ (n : Nat) (v : Int), 0 ≤ v → v < 256 ^ n → ((leV (byL (numB v n)) : Nat) : Int) = v
 | 0, v, h0, h1 => by
   have : v = 0 := by simp at h1; omega
   subst this; rfl
 | n + 1, v, h0, h1 => by
   have e : (256 : Int) ^ (n + 1) = 256 ^ n * 256 := Int.pow_succ ..
   have hk := leV_numB n (v / 256) (by omega) (by rw [e] at h1; omega)
   show ((leV (UInt8.ofNat (v % 256).toNat :: byL (numB (v / 256) n)) : Nat) : Int) = v
   rw [leV_cons, u8_toNat (by omega) (by omega)]
   omega
theorem getV_app (a b : List UInt8) : getV (a ++ b) a.length = leV a := by
 unfold getV
 rw [if_pos (by simp)]
 simp
theorem rdI_app {v : Int} (h0 : -9223372036854775808 ≤ v) (h1 : v ≤ 9223372036854775807) (b : List UInt8) : rdI (byL (numB v 8) ++ b) = v := by
 have hl : (byL (numB v 8)).length = 8 := by rw [byL_len, numB_len]
 have hg := getV_app (byL (numB v 8)) b
 rw [hl] at hg
 unfold rdI
 rw [hg]
 by_cases h : 0 ≤ v
 · have := leV_numB 8 v h (by rw [show (256 : Int) ^ 8 = 18446744073709551616 by decide]; omega)
   rw [if_pos (by omega)]
   exact this
 · have h2 := numB_add 8 v 1
   rw [show (1 : Int) * 256 ^ 8 = 18446744073709551616 by decide] at h2
   have := leV_numB 8 (v + 18446744073709551616) (by omega) (by rw [show (256 : Int) ^ 8 = 18446744073709551616 by decide]; omega)
   rw [h2] at this
   rw [if_neg (by omega)]
   omega
def rest (X : List UInt8) : Nat → List UInt8 × Bool
 | 0 => (getL (getL (getL X 8) 8) 1, getS (getL (getL X 8) 8) (getS (getL X 8) (getS X false 8) 8) 1)
 | j + 1 => (getL (rest X j).1 8, getS (rest X j).1 (rest X j).2 8)
theorem n8 (v : Int) : (byL (numB v 8)).length = 8 := by rw [byL_len, numB_len]
theorem take1_val {l : List Value} (h : isB l) (h1 : 1 ≤ l.length) : ((getV (byL l) 1 : Nat) : Int) = gB l 0 := by
 match l, h1 with
 | x0 :: r, _ =>
   obtain ⟨n0, rfl, a0, b0⟩ := h x0 (by simp)
   have hL : getV (byL (.int .u8 n0 :: r)) 1 = leV [UInt8.ofNat n0.toNat] := by
     unfold getV
     rw [if_pos (by simp [byL])]
     rfl
   have e0 : leV [] = 0 := rfl
   rw [hL]
   simp only [leV_cons, u8_toNat a0 b0, e0]
   show _ = n0
   omega
theorem getL_byL {l : List Value} {k : Nat} (hk : k ≤ l.length) : getL (byL l) k = byL (l.drop k) := by
 unfold getL
 rw [if_pos (by rw [byL_len]; exact hk), byL_drop]
end Go.Proofs.YtmlidfpjeomcmaaDoor
