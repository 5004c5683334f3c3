/-
 Layer 9's blobs: the mathematics.
-/
import Derived.Test.YtmlidfpjeomcmaaDoorZ6bclf
import Derived.Test.YtmlidfpjeomcmaaDoorN09clf
import Derived.Test.YtmlidfpjeomcmaaDoorE00clf
import Derived.Test.YtmlidfpjeomcmaaDoorLsyclf
namespace Go.Proofs.YtmlidfpjeomcmaaDoor
open Go.RowKit Go.Extern.Stop Go.Stop Go.Extern Go.Proofs.YtmlidfpjeomcmaaDoor.Sy
set_option linter.unusedVariables false
set_option linter.unusedSimpArgs false
theorem leV_cons (x : UInt8) (l : List UInt8) : leV (x :: l) = leV l * 256 + x.toNat := by
 unfold leV
 rw [List.reverse_cons, beV_snoc]
theorem numB_add : ∀ (n : Nat) (v k : Int), numB (v + k * 256 ^ n) n = numB v n
 | 0, _, _ => rfl
 | n + 1, v, k => by
   have e : v + k * 256 ^ (n + 1) = v + (k * 256 ^ n) * 256 := by rw [Int.pow_succ, Int.mul_assoc]
   have h1 : (v + k * 256 ^ (n + 1)) % 256 = v % 256 := by rw [e]; omega
   have h2 : (v + k * 256 ^ (n + 1)) / 256 = v / 256 + k * 256 ^ n := by rw [e]; omega
   simp only [numB, h1, h2, numB_add n]
theorem numB_u64 {v : Int} (h0 : -9223372036854775808 ≤ v) (h1 : v ≤ 9223372036854775807) : numB (IntKind.wrap .u64 v) 8 = numB v 8 := by
 have hw : IntKind.wrap .u64 v = v % 18446744073709551616 := rfl
 by_cases h : 0 ≤ v
 · rw [hw, show v % 18446744073709551616 = v by omega]
 · have := numB_add 8 v 1
   rw [show (1 : Int) * 256 ^ 8 = 18446744073709551616 by decide] at this
   rw [hw, show v % 18446744073709551616 = v + 18446744073709551616 by omega, this]
def rest (X : List UInt8) : Nat → List UInt8 × Bool
 | 0 => (getL (getL (getL X 8) 8) 1, getS (getL (getL X 8) 8) (getS (getL X 8) (getS X false 8) 8) 1)
 | j + 1 => (getL (rest X j).1 8, getS (rest X j).1 (rest X j).2 8)
theorem n8 (v : Int) : (byL (numB v 8)).length = 8 := by rw [byL_len, numB_len]
theorem take8_val {l : List Value} (h : isB l) (h8 : 8 ≤ l.length) : ((getV (byL l) 8 : Nat) : Int) = gB l 0 + 256 * (gB l 1 + 256 * (gB l 2 + 256 * (gB l 3 + 256 * (gB l 4 + 256 * (gB l 5 + 256 * (gB l 6 + 256 * gB l 7)))))) := by
 match l, h8 with
 | x0 :: x1 :: x2 :: x3 :: x4 :: x5 :: x6 :: x7 :: r, _ =>
   obtain ⟨n0, rfl, a0, b0⟩ := h x0 (by simp)
   obtain ⟨n1, rfl, a1, b1⟩ := h x1 (by simp)
   obtain ⟨n2, rfl, a2, b2⟩ := h x2 (by simp)
   obtain ⟨n3, rfl, a3, b3⟩ := h x3 (by simp)
   obtain ⟨n4, rfl, a4, b4⟩ := h x4 (by simp)
   obtain ⟨n5, rfl, a5, b5⟩ := h x5 (by simp)
   obtain ⟨n6, rfl, a6, b6⟩ := h x6 (by simp)
   obtain ⟨n7, rfl, a7, b7⟩ := h x7 (by simp)
   have hL : getV (byL (.int .u8 n0 :: .int .u8 n1 :: .int .u8 n2 :: .int .u8 n3 :: .int .u8 n4 :: .int .u8 n5 :: .int .u8 n6 :: .int .u8 n7 :: r)) 8 = leV [UInt8.ofNat n0.toNat, UInt8.ofNat n1.toNat, UInt8.ofNat n2.toNat, UInt8.ofNat n3.toNat, UInt8.ofNat n4.toNat, UInt8.ofNat n5.toNat, UInt8.ofNat n6.toNat, UInt8.ofNat n7.toNat] := by
     unfold getV
     rw [if_pos (by simp [byL])]
     rfl
   have e0 : leV [] = 0 := rfl
   rw [hL]
   simp only [leV_cons, u8_toNat a0 b0, u8_toNat a1 b1, u8_toNat a2 b2, u8_toNat a3 b3, u8_toNat a4 b4, u8_toNat a5 b5, u8_toNat a6 b6, u8_toNat a7 b7, e0]
   show _ = n0 + 256 * (n1 + 256 * (n2 + 256 * (n3 + 256 * (n4 + 256 * (n5 + 256 * (n6 + 256 * n7))))))
   omega
theorem take1_val {l : List Value} (h : isB l) (h1 : 1 ≤ l.length) : ((getV (byL l) 1 : Nat) : Int) = gB l 0 := by
 match l, h1 with
 | x0 :: r, _ =>
   obtain ⟨n0, rfl, a0, b0⟩ := h x0 (by simp)
   have hL : getV (byL (.int .u8 n0 :: r)) 1 = leV [UInt8.ofNat n0.toNat] := by
     unfold getV
     rw [if_pos (by simp [byL])]
     rfl
   have e0 : leV [] = 0 := rfl
   rw [hL]
   simp only [leV_cons, u8_toNat a0 b0, e0]
   show _ = n0
   omega
theorem getL_map {l : List Value} (h : isB l) {k : Nat} (hk : k ≤ l.length) : (getL (byL l) k).map bV = l.drop k := by
 unfold getL
 rw [if_pos (by rw [byL_len]; exact hk), ← byL_drop, (isB.drop h k).by]
theorem getL_byL {l : List Value} {k : Nat} (hk : k ≤ l.length) : getL (byL l) k = byL (l.drop k) := by
 unfold getL
 rw [if_pos (by rw [byL_len]; exact hk), byL_drop]
end Go.Proofs.YtmlidfpjeomcmaaDoor
