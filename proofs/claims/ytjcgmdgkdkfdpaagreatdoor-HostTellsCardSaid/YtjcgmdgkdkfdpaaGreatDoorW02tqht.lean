/-
 Layer 2: the statement WideTimes.
-/
import Derived.Test.YtjcgmdgkdkfdpaaGreatDoorW02sqht
import Derived.Test.YtjcgmdgkdkfdpaaGreatDoorV02qht
namespace Go.Proofs.YtjcgmdgkdkfdpaaGreatDoor
open Go.RowKit Go.Extern.Stop Go.Stop Go.Extern
set_option linter.unusedVariables false
set_option linter.unusedSimpArgs false
set_option maxRecDepth 100000 in
set_option maxHeartbeats 1000000 in
theorem rms_ok (a m n : Int) (w : World) (ha : InR a) (hm0 : 0 ≤ m) (hm1 : m < 4294967296) (h0 : 0 ≤ n) (h1 : n ≤ 31) : Calls Tryz.prog 115 #[.int .i64 a, .int .u32 m, .int .i64 n] w fun e w' => e = .returned (.tuple #[.int .i64 (mdN a m (2 ^ n.toNat)), .int .i64 (mdE a m (2 ^ n.toNat))]) ∧ Below w.heap.size w w' := by
 have hp := pow_rng h0 h1
 obtain ⟨p, hpe⟩ : ∃ p : Int, p = 2 ^ n.toNat := ⟨_, rfl⟩
 rw [← hpe] at hp ⊢
 have hs : wrap64 (2 ^ n.toNat) = p := by rw [← hpe]; exact IntWalk.wrap64_in _ (by omega)
 have HP := Lib.hid hpe
 clear hpe
 have hmr : InR m := by omega
 have hpr : InR p := by omega
 go_enter Tryz.func115, Tryz.ntmps115
 go_wp2_with (fail)
 (with_reducible refine (rmuldiv a m p _ ha hmr hpr).mono ?_)
 rintro e w1 ⟨rfl, hb1⟩
 go_wp2_with (fail)
 go_ret2
 exact ⟨rfl, hb1⟩
theorem rms_any (a m n : Int) (w : World) (ha : InR a) (hm0 : 0 ≤ m) (hm1 : m < 4294967296) (hn : InR n) : Calls Tryz.prog 115 #[.int .i64 a, .int .u32 m, .int .i64 n] w fun e w' => e = .returned (.tuple #[.int .i64 (msN a m n), .int .i64 (msE a m n)]) ∧ Below w.heap.size w w' := by
 by_cases h : n < 0 ∨ 31 < n
 · have e1 : msN a m n = 0 := by unfold msN; rw [if_pos h]
   have e2 : msE a m n = 1 := by unfold msE; rw [if_pos h]
   rw [e1, e2]; exact rms_no a m n w h
 · have e1 : msN a m n = mdN a m (2 ^ n.toNat) := by unfold msN; rw [if_neg h]
   have e2 : msE a m n = mdE a m (2 ^ n.toNat) := by unfold msE; rw [if_neg h]
   rw [e1, e2]; exact rms_ok a m n w ha hm0 hm1 (by omega) (by omega)
end Go.Proofs.YtjcgmdgkdkfdpaaGreatDoor
