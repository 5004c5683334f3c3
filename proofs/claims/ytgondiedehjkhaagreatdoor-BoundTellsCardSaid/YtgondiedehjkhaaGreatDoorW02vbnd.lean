/-
 Layer 2: products with a factor, of numbers that are not below 0.
-/
import Derived.Test.YtgondiedehjkhaaGreatDoorW02sbnd
namespace Go.Proofs.YtgondiedehjkhaaGreatDoor
open Go.RowKit Go.Extern.Stop Go.Stop Go.Extern
set_option linter.unusedVariables false
set_option linter.unusedSimpArgs false
theorem rmd_pos (a b c : Int) (w : World) (ha : InR a) (hb : InR b) (hc : InR c) (a0 : 0 ≤ a) (b0 : 0 ≤ b) : Calls Tryz.prog 84 #[.int .i64 a, .int .i64 b, .int .i64 c] w fun e w' => e = .returned (.tuple #[.int .i64 (mdN a b c), .int .i64 (mdE a b c)]) ∧ Below w.heap.size w w' := by
 by_cases h : c < 1
 · have e1 : mdN a b c = 0 := by unfold mdN; rw [if_pos h]
   have e2 : mdE a b c = 1 := by unfold mdE; rw [if_pos h]
   rw [e1, e2]; exact rmd_no a b c w ha hb h
 · have hp : 0 ≤ a * b / c := Int.ediv_nonneg (Int.mul_nonneg a0 b0) (by omega)
   by_cases hq : InR (a * b / c)
   · have e1 : mdN a b c = a * b / c := by unfold mdN; rw [if_neg h, if_pos hq]
     have e2 : mdE a b c = 0 := by unfold mdE; rw [if_neg h, if_pos hq]
     rw [e1, e2]
     exact rmd_p0 a b c w ha hb (by omega) hc _ (Lib.hid rfl) hp (by omega)
   · have e1 : mdN a b c = 0 := by unfold mdN; rw [if_neg h, if_neg hq]
     have e2 : mdE a b c = 2 := by unfold mdE; rw [if_neg h, if_neg hq]
     rw [e1, e2]
     exact rmd_p1 a b c w ha hb (by omega) hc _ (Lib.hid rfl) hp (by omega)
set_option maxRecDepth 100000 in
set_option maxHeartbeats 1000000 in
theorem rms_okp (a m n : Int) (w : World) (ha : InR a) (a0 : 0 ≤ a) (hm0 : 0 ≤ m) (hm1 : m < 4294967296) (h0 : 0 ≤ n) (h1 : n ≤ 31) : Calls Tryz.prog 121 #[.int .i64 a, .int .u32 m, .int .i64 n] w fun e w' => e = .returned (.tuple #[.int .i64 (mdN a m (2 ^ n.toNat)), .int .i64 (mdE a m (2 ^ n.toNat))]) ∧ Below w.heap.size w w' := by
 have hp := pow_rng h0 h1
 obtain ⟨p, hpe⟩ : ∃ p : Int, p = 2 ^ n.toNat := ⟨_, rfl⟩
 rw [← hpe] at hp ⊢
 have hs : wrap64 (2 ^ n.toNat) = p := by rw [← hpe]; exact IntWalk.wrap64_in _ (by omega)
 have HP := Lib.hid hpe
 clear hpe
 have hmr : InR m := by omega
 have hpr : InR p := by omega
 go_enter Tryz.func121, Tryz.ntmps121
 go_wp2_with (fail)
 (with_reducible refine (rmd_pos a m p _ ha hmr hpr a0 hm0).mono ?_)
 rintro e w1 ⟨rfl, hb1⟩
 go_wp2_with (fail)
 go_ret2
 exact ⟨rfl, hb1⟩
theorem rms_pos (a m n : Int) (w : World) (ha : InR a) (a0 : 0 ≤ a) (hm0 : 0 ≤ m) (hm1 : m < 4294967296) (hn : InR n) : Calls Tryz.prog 121 #[.int .i64 a, .int .u32 m, .int .i64 n] w fun e w' => e = .returned (.tuple #[.int .i64 (msN a m n), .int .i64 (msE a m n)]) ∧ Below w.heap.size w w' := by
 by_cases h : n < 0 ∨ 31 < n
 · have e1 : msN a m n = 0 := by unfold msN; rw [if_pos h]
   have e2 : msE a m n = 1 := by unfold msE; rw [if_pos h]
   rw [e1, e2]; exact rms_no a m n w h
 · have e1 : msN a m n = mdN a m (2 ^ n.toNat) := by unfold msN; rw [if_neg h]
   have e2 : msE a m n = mdE a m (2 ^ n.toNat) := by unfold msE; rw [if_neg h]
   rw [e1, e2]; exact rms_okp a m n w ha a0 hm0 hm1 (by omega) (by omega)
end Go.Proofs.YtgondiedehjkhaaGreatDoor
