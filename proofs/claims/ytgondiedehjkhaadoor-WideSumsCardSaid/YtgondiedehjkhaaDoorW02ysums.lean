/-
 Numbers of 128 bits: the program, sums that are too great.
-/
import Derived.Test.YtgondiedehjkhaaDoorW02esums
namespace Go.Proofs.YtgondiedehjkhaaDoor
open Go.RowKit Go.Extern.Stop Go.Stop Go.Extern
set_option linter.unusedVariables false
set_option linter.unusedSimpArgs false
set_option maxRecDepth 100000 in
set_option maxHeartbeats 1000000 in
theorem wadd_no (x y : Int) (w : World) (hx : In128 x) (hy : In128 y) (hs : ¬ In128 (x + y)) : Calls Tryd.prog 11 #[WV x, WV y] w fun e w' => e = .returned (.tuple #[WV 0, errV 2]) ∧ Below w.heap.size w w' := by
 have hB := Below.refl w.heap.size w
 have u1 : IntKind.u64.wrap (x / 18446744073709551616) = x / 18446744073709551616 % 18446744073709551616 := u64_is _
 have u2 : IntKind.u64.wrap (y / 18446744073709551616) = y / 18446744073709551616 % 18446744073709551616 := u64_is _
 have l0 : 0 ≤ x % 18446744073709551616 ∧ x % 18446744073709551616 < 18446744073709551616 := by omega
 have l1 : 0 ≤ y % 18446744073709551616 ∧ y % 18446744073709551616 < 18446744073709551616 := by omega
 have l2 : 0 ≤ x / 18446744073709551616 % 18446744073709551616 := by omega
 have l3 : 0 ≤ y / 18446744073709551616 % 18446744073709551616 := by omega
 obtain ⟨c, k1, k2, k3, k4, z, k5, k6⟩ : ∃ c, (x % 18446744073709551616 + y % 18446744073709551616) % 18446744073709551616 = (x + y) % 18446744073709551616 ∧ (x % 18446744073709551616 + y % 18446744073709551616) / 18446744073709551616 = c ∧ 0 ≤ c ∧ c ≤ 1 ∧ ∃ z, wrap64 ((x / 18446744073709551616 % 18446744073709551616 + y / 18446744073709551616 % 18446744073709551616 + c) % 18446744073709551616) = z ∧ ((x / 18446744073709551616 < 0 ∧ y / 18446744073709551616 < 0 ∧ ¬ z < 0) ∨ (¬ x / 18446744073709551616 < 0 ∧ ¬ y / 18446744073709551616 < 0 ∧ z < 0)) := by
   refine ⟨_, by omega, rfl, by omega, by omega, _, rfl, ?_⟩
   unfold wrap64
   unfold In128 at *
   omega
 have g1 : InR (x / 18446744073709551616) := by omega
 have g2 : InR (y / 18446744073709551616) := by omega
 have g3 : InR z := by (rw [← k5]; unfold wrap64; omega)
 by_cases s1 : x / 18446744073709551616 < 0
 all_goals by_cases s2 : y / 18446744073709551616 < 0
 all_goals by_cases s3 : z < 0
 all_goals try (exfalso; simp [s1, s2, s3] at k6; done)
 all_goals clear k6
 all_goals
   go_enter Tryd.func11, Tryd.ntmps11
   go_upto_region 2 with (rw [add64_run _ _ _ l0.1 l1.1 (by decide) (by decide)])
   clear k1 k2
   generalize x % 18446744073709551616 = xl at *
   generalize y % 18446744073709551616 = yl at *
   generalize x / 18446744073709551616 = xh at *
   generalize y / 18446744073709551616 = yh at *
   clear hx hy hs
   go_wp2_with (rw [add64_run _ _ _ l2 l3 k3 k4])
   refine bodyPost_ret (v := .tuple #[.agg #[.int .i64 0, .int .u64 0], errV 2]) (by first | (simp [results, Tryd.results11, go_sem]; done) | (simp only [results, Tryd.results11]; go_simp; done) | (simp only [results, Tryd.results11]; go_simp; omega)) rfl (⟨rfl, by repeat (first | with_reducible assumption | exact Below.refl _ _ | refine Below.drew ?_ | refine Below.setCell ?_ (by first | omega | (simp; done) | (simp; omega)) _ | refine Below.alloc ?_ (by first | omega | (simp; done) | (simp; omega)) _)⟩)
end Go.Proofs.YtgondiedehjkhaaDoor
