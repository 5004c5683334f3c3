/-
  Layer 14: the statement SampleHolds.
-/
import Derived.Test.YtffdglhdklmjoaaDoorW17
namespace Go.Proofs.YtffdglhdklmjoaaDoor
open Go.RowKit Go.Extern.Stop Go.Stop Go.Extern
set_option linter.unusedVariables false
set_option linter.unusedSimpArgs false
theorem tsize_c (t : Int) (w : World) (h : -4611686018427387904 < t ∧ t < 4611686018427387904) : Calls Tryd.prog 123 #[.int .i64 t] w fun e w' => (∃ v : Int, 0 ≤ v ∧ v < 4611686018427387904 ∧ e = .returned (.int .i64 v)) ∧ w = w' := by
  by_cases h0 : t < 0
  · have hs : sat (0 - t) = -t := by rw [sat_in (by omega)]; omega
    go_enter Tryd.func123, Tryd.ntmps123
    go_wp2_with (go_at_call 125; (with_reducible refine (subsat_s _ _ _ (by omega) (by omega)).mono ?_); rw [hs]; rintro e w' ⟨rfl, rfl⟩)
    go_ret
    exact ⟨⟨-t, by omega, by omega, rfl⟩, rfl⟩
  · go_enter Tryd.func123, Tryd.ntmps123
    go_wp2_with (fail)
    go_ret
    exact ⟨⟨t, by omega, by omega, rfl⟩, rfl⟩
set_option maxRecDepth 100000 in
theorem idx_0 (a b c d : Int) (w : World) : (Instr.index 170 (.agg #[.int .i64 a, .int .i64 b, .int .i64 c, .int .i64 d]) (.int .i64 0)).run Tryd.prog w = .ok (.int .i64 a) w := by kernel_rfl
set_option maxRecDepth 100000 in
theorem idx_1 (a b c d : Int) (w : World) : (Instr.index 170 (.agg #[.int .i64 a, .int .i64 b, .int .i64 c, .int .i64 d]) (.int .i64 1)).run Tryd.prog w = .ok (.int .i64 b) w := by kernel_rfl
set_option maxRecDepth 100000 in
theorem idx_2 (a b c d : Int) (w : World) : (Instr.index 170 (.agg #[.int .i64 a, .int .i64 b, .int .i64 c, .int .i64 d]) (.int .i64 2)).run Tryd.prog w = .ok (.int .i64 c) w := by kernel_rfl
set_option maxRecDepth 100000 in
theorem idx_3 (a b c d : Int) (w : World) : (Instr.index 170 (.agg #[.int .i64 a, .int .i64 b, .int .i64 c, .int .i64 d]) (.int .i64 3)).run Tryd.prog w = .ok (.int .i64 d) w := by kernel_rfl
set_option maxRecDepth 100000 in
set_option maxHeartbeats 4000000 in
theorem scheck_ok (A C S G E : Int) (w : World) (hA : -4611686018427387904 < A ∧ A < 4611686018427387904) (hC : -4611686018427387904 < C ∧ C < 4611686018427387904) (hS : -4611686018427387904 < S ∧ S < 4611686018427387904) (hG : -4611686018427387904 < G ∧ G < 4611686018427387904) (hE : 0 ≤ E ∧ E ≤ 1099511627776) (h1 : 0 ≤ G - A) (h2 : G - A ≤ 1099511627776) (h3 : 0 ≤ S - C) (h4 : S - C ≤ G - A) : Calls Tryd.prog 88 #[.agg #[.int .i64 A, .int .i64 C, .int .i64 S, .int .i64 G, .int .i64 E]] w fun e w' => e = .returned (.nilIface) ∧ Below w.heap.size w w' := by
  have hB := Below.refl w.heap.size w
  have k1 : wrap64 (S - C) = S - C := IntWalk.wrap64_in _ (by omega)
  have k2 : wrap64 (G - A) = G - A := IntWalk.wrap64_in _ (by omega)
  go_enter Tryd.func88, Tryd.ntmps88
  go_wp2_with (fail)
  go_loopg [4, 16] 4 (fun k t4 t16 wr => ∃ i : Nat, i ≤ 4 ∧ t16 = .int .i64 i ∧ k = 4 - i ∧ (w.alloc (.cells #[.int .i64 A, .int .i64 C, .int .i64 S, .int .i64 G, .int .i64 E] 125)) = wr)
  case atStart => exact ⟨0, by omega, rfl, rfl, rfl⟩
  case round =>
    obtain ⟨i, hi, rfl, rfl, rfl⟩ := hrel
    obtain rfl | rfl | rfl | rfl | rfl : i = 0 ∨ i = 1 ∨ i = 2 ∨ i = 3 ∨ i = 4 := by omega
    · go_wp2_with (first | rw [idx_0] | (go_at_call 123; (with_reducible refine (tsize_c _ _ hA).mono ?_); rintro e w' ⟨⟨v, v0, v1, rfl⟩, rfl⟩))
      go_roundg 3
      case measure => omega
      case rel => exact ⟨1, by omega, rfl, rfl, rfl⟩
    · go_wp2_with (first | rw [idx_1] | (go_at_call 123; (with_reducible refine (tsize_c _ _ hC).mono ?_); rintro e w' ⟨⟨v, v0, v1, rfl⟩, rfl⟩))
      go_roundg 2
      case measure => omega
      case rel => exact ⟨2, by omega, rfl, rfl, rfl⟩
    · go_wp2_with (first | rw [idx_2] | (go_at_call 123; (with_reducible refine (tsize_c _ _ hS).mono ?_); rintro e w' ⟨⟨v, v0, v1, rfl⟩, rfl⟩))
      go_roundg 1
      case measure => omega
      case rel => exact ⟨3, by omega, rfl, rfl, rfl⟩
    · go_wp2_with (first | rw [idx_3] | (go_at_call 123; (with_reducible refine (tsize_c _ _ hG).mono ?_); rintro e w' ⟨⟨v, v0, v1, rfl⟩, rfl⟩))
      go_roundg 0
      case measure => omega
      case rel => exact ⟨4, by omega, rfl, rfl, rfl⟩
    · go_wp2_with (fail)
      go_region
      go_wp2_with (fail)
      go_ret
      exact ⟨rfl, by repeat (first | with_reducible assumption | exact Below.refl _ _ | refine Below.drew ?_ | refine Below.setCell ?_ (by first | omega | (simp; done) | (simp; omega)) _ | refine Below.alloc ?_ (by first | omega | (simp; done) | (simp; omega)) _)⟩
set_option maxHeartbeats 1000000 in
theorem check2_ok (A C S G E rho : Int) (w : World) (hA : -4611686018427387904 < A ∧ A < 4611686018427387904) (hC : -4611686018427387904 < C ∧ C < 4611686018427387904) (hS : -4611686018427387904 < S ∧ S < 4611686018427387904) (hG : -4611686018427387904 < G ∧ G < 4611686018427387904) (hE : 0 ≤ E ∧ E ≤ 1099511627776) (h1 : 0 ≤ G - A) (h2 : G - A ≤ 1099511627776) (h3 : 0 ≤ S - C) (h4 : S - C ≤ G - A) (r0 : 0 ≤ rho) (r1 : rho ≤ 1048576) : Calls Tryd.prog 115 #[.agg #[.int .i64 A, .int .i64 C, .int .i64 S, .int .i64 G, .int .i64 E], .int .i64 rho] w fun e w' => e = .returned (.nilIface) ∧ Below w.heap.size w w' := by
  have hB := Below.refl w.heap.size w
  go_enter Tryd.func115, Tryd.ntmps115
  go_wp2_with (fail)
  go_at_call 88
  (with_reducible refine (scheck_ok _ _ _ _ _ _ hA hC hS hG hE h1 h2 h3 h4).mono ?_)
  rintro e w1 ⟨rfl, HB⟩
  obtain ⟨hc1, hf1⟩ := bcell HB
  have hz1 := HB.size
  try simp at hz1
  replace hB := Below.trans (show Below w.heap.size w _ from by repeat (first | with_reducible assumption | exact Below.refl _ _ | refine Below.drew ?_ | refine Below.setCell ?_ (by first | omega | (simp; done) | (simp; omega)) _ | refine Below.alloc ?_ (by first | omega | (simp; done) | (simp; omega)) _)) (Below.mono (B' := w.heap.size) HB (by first | omega | (simp; done) | (simp; omega)))
  try (have z1w0 : w.heap.size < w1.heap.size := (by omega))
  try (have z1w1 : w.heap.size + 1 < w1.heap.size := (by omega))
  try (have z1w2 : w.heap.size + 1 + 1 < w1.heap.size := (by omega))
  clear HB
  go_wp2_with (fail)
  go_ret
  exact ⟨rfl, by repeat (first | with_reducible assumption | exact Below.refl _ _ | refine Below.drew ?_ | refine Below.setCell ?_ (by first | omega | (simp; done) | (simp; omega)) _ | refine Below.alloc ?_ (by first | omega | (simp; done) | (simp; omega)) _)⟩
set_option maxHeartbeats 1000000 in
theorem growth_f (rho gone : Int) (w : World) (r0 : 0 ≤ rho) (r1 : rho ≤ 2097152) (g0 : 0 ≤ gone) (g1 : gone ≤ 9223372036854775807) : Calls Tryd.prog 116 #[.int .i64 rho, .int .i64 gone] w fun e w' => e = .returned (.tuple #[.int .i64 (upK (gone * rho)), .nilIface]) ∧ Below w.heap.size w w' := by
  have hB := Below.refl w.heap.size w
  have hm := mul_rho g0 g1 r0 r1
  have hn : wrap64 (-gone) = -gone := IntWalk.wrap64_in _ (by omega)
  have hneg : -gone * rho = -(gone * rho) := Int.neg_mul _ _
  have hq : InR (-gone * rho / 1073741824) := by rw [hneg]; generalize gone * rho = X at *; omega
  have hq2 : wrap64 (-(-gone * rho / 1073741824)) = upK (gone * rho) := by rw [hneg]; unfold upK; rw [IntWalk.wrap64_in]; generalize gone * rho = X at *; omega
  clear hneg
  go_enter Tryd.func116, Tryd.ntmps116
  go_wp2_with (fail)
  go_at_call 39
  (with_reducible refine (wmuldiv _ _ _ _ (by omega) (by omega) (by omega) (by omega) hq).mono ?_)
  rintro e w1 ⟨rfl, HB⟩
  obtain ⟨hc1, hf1⟩ := bcell HB
  have hz1 := HB.size
  try simp at hz1
  replace hB := Below.trans (show Below w.heap.size w _ from by repeat (first | with_reducible assumption | exact Below.refl _ _ | refine Below.drew ?_ | refine Below.setCell ?_ (by first | omega | (simp; done) | (simp; omega)) _ | refine Below.alloc ?_ (by first | omega | (simp; done) | (simp; omega)) _)) (Below.mono (B' := w.heap.size) HB (by first | omega | (simp; done) | (simp; omega)))
  try (have z1w0 : w.heap.size < w1.heap.size := (by omega))
  try (have z1w1 : w.heap.size + 1 < w1.heap.size := (by omega))
  try (have z1w2 : w.heap.size + 1 + 1 < w1.heap.size := (by omega))
  clear HB
  go_wp2_with (fail)
  go_ret2
  exact ⟨congrArg (fun z => Ending.returned (.tuple #[.int .i64 z, .nilIface])) hq2, by repeat (first | with_reducible assumption | exact Below.refl _ _ | refine Below.drew ?_ | refine Below.setCell ?_ (by first | omega | (simp; done) | (simp; omega)) _ | refine Below.alloc ?_ (by first | omega | (simp; done) | (simp; omega)) _)⟩
theorem growth_v (rho gone v : Int) (w : World) (r0 : 0 ≤ rho) (r1 : rho ≤ 2097152) (g0 : 0 ≤ gone) (g1 : gone ≤ 9223372036854775807) (hv : v = upK (gone * rho)) : Calls Tryd.prog 116 #[.int .i64 rho, .int .i64 gone] w fun e w' => e = .returned (.tuple #[.int .i64 v, .nilIface]) ∧ Below w.heap.size w w' := by
  rw [hv]; exact growth_f rho gone w r0 r1 g0 g1
set_option maxHeartbeats 1000000 in
theorem spcheck_ok (lo hi : Int) (w : World) (h : lo ≤ hi) : Calls Tryd.prog 135 #[.agg #[.int .i64 lo, .int .i64 hi]] w fun e w' => e = .returned (.nilIface) ∧ Below w.heap.size w w' := by
  have hB := Below.refl w.heap.size w
  go_enter Tryd.func135, Tryd.ntmps135
  go_wp2_with (fail)
  go_ret
  exact ⟨rfl, by repeat (first | with_reducible assumption | exact Below.refl _ _ | refine Below.drew ?_ | refine Below.setCell ?_ (by first | omega | (simp; done) | (simp; omega)) _ | refine Below.alloc ?_ (by first | omega | (simp; done) | (simp; omega)) _)⟩
set_option maxHeartbeats 1000000 in
theorem sphas (lo hi n : Int) (w : World) (h1 : lo ≤ n) (h2 : n ≤ hi) : Calls Tryd.prog 92 #[.agg #[.int .i64 lo, .int .i64 hi], .int .i64 n] w fun e w' => e = .returned (.bool true) ∧ Below w.heap.size w w' := by
  have hB := Below.refl w.heap.size w
  go_enter Tryd.func92, Tryd.ntmps92
  go_wp2_with (fail)
  go_ret
  exact ⟨rfl, by repeat (first | with_reducible assumption | exact Below.refl _ _ | refine Below.drew ?_ | refine Below.setCell ?_ (by first | omega | (simp; done) | (simp; omega)) _ | refine Below.alloc ?_ (by first | omega | (simp; done) | (simp; omega)) _)⟩
set_option maxHeartbeats 1000000 in
theorem spgrow (lo hi n : Int) (w : World) (h : lo ≤ hi) (h0 : 0 ≤ n) (l0 : InR lo) (l1 : InR hi) (l2 : InR n) (hl : InR (lo - n)) (hh : InR (hi + n)) : Calls Tryd.prog 117 #[.agg #[.int .i64 lo, .int .i64 hi], .int .i64 n] w fun e w' => e = .returned (.tuple #[.agg #[.int .i64 (lo - n), .int .i64 (hi + n)], .nilIface]) ∧ Below w.heap.size w w' := by
  have hB := Below.refl w.heap.size w
  have hs1 : sat (lo - n) = lo - n := sat_in hl
  have hs2 : sat (hi + n) = hi + n := sat_in hh
  go_enter Tryd.func117, Tryd.ntmps117
  go_wp2_with (fail)
  go_at_call 135
  (with_reducible refine (spcheck_ok _ _ _ h).mono ?_)
  rintro e w1 ⟨rfl, HB⟩
  obtain ⟨hc1, hf1⟩ := bcell HB
  have hz1 := HB.size
  try simp at hz1
  replace hB := Below.trans (show Below w.heap.size w _ from by repeat (first | with_reducible assumption | exact Below.refl _ _ | refine Below.drew ?_ | refine Below.setCell ?_ (by first | omega | (simp; done) | (simp; omega)) _ | refine Below.alloc ?_ (by first | omega | (simp; done) | (simp; omega)) _)) (Below.mono (B' := w.heap.size) HB (by first | omega | (simp; done) | (simp; omega)))
  try (have z1w0 : w.heap.size < w1.heap.size := (by omega))
  try (have z1w1 : w.heap.size + 1 < w1.heap.size := (by omega))
  try (have z1w2 : w.heap.size + 1 + 1 < w1.heap.size := (by omega))
  clear HB
  go_wp2_with (fail)
  go_region_with (first | (go_at_call 125; (with_reducible refine (subsat_s _ _ _ (by omega) (by omega)).mono ?_); rw [hs1]; rintro e w' ⟨rfl, rfl⟩) | (go_at_call 120; (with_reducible refine (addsat_s _ _ _ (by omega) (by omega)).mono ?_); rw [hs2]; rintro e w' ⟨rfl, rfl⟩))
  all_goals go_wp2_with (fail)
  all_goals (refine bodyPost_ret (v := .tuple #[.agg #[.int .i64 (lo - n), .int .i64 (hi + n)], .nilIface]) (by first | (simp [results, Tryd.results117, go_sem]; done) | (simp only [results, Tryd.results117]; go_simp; done) | (simp only [results, Tryd.results117]; go_simp; omega)) rfl (⟨rfl, by repeat (first | with_reducible assumption | exact Below.refl _ _ | refine Below.drew ?_ | refine Below.setCell ?_ (by first | omega | (simp; done) | (simp; omega)) _ | refine Below.alloc ?_ (by first | omega | (simp; done) | (simp; omega)) _)⟩))
set_option maxHeartbeats 4000000 in
theorem of_ok (A C S G E rho m : Int) (w : World) (hA : -4611686018427387904 < A ∧ A < 4611686018427387904) (hC : -4611686018427387904 < C ∧ C < 4611686018427387904) (hS : -4611686018427387904 < S ∧ S < 4611686018427387904) (hG : -4611686018427387904 < G ∧ G < 4611686018427387904) (hE : 0 ≤ E ∧ E ≤ 1099511627776) (h1 : 0 ≤ G - A) (h2 : G - A ≤ 1099511627776) (h3 : 0 ≤ S - C) (h4 : S - C ≤ G - A) (r0 : 0 ≤ rho) (r1 : rho ≤ 1048576) (hm : m = upK ((G - A) * rho)) (hm0 : 0 ≤ m) (hm1 : m ≤ 1152921504606846976) (hl : InR (S - G - (E + m))) (hh : InR (C - A + (E + m))) : Calls Tryd.prog 83 #[.agg #[.int .i64 A, .int .i64 C, .int .i64 S, .int .i64 G, .int .i64 E], .int .i64 rho] w fun e w' => e = .returned (.tuple #[.agg #[.int .i64 (S - G - (E + m)), .int .i64 (C - A + (E + m))], .nilIface]) ∧ Below w.heap.size w w' := by
  have hB := Below.refl w.heap.size w
  have k1 : wrap64 (G - A) = G - A := IntWalk.wrap64_in _ (by omega)
  have k2 : wrap64 (S - G) = S - G := IntWalk.wrap64_in _ (by omega)
  have k3 : wrap64 (C - A) = C - A := IntWalk.wrap64_in _ (by omega)
  have k4 : wrap64 (E + m) = E + m := IntWalk.wrap64_in _ (by omega)
  have HM := Lib.hid hm
  clear hm
  go_enter Tryd.func83, Tryd.ntmps83
  go_wp2_with (fail)
  go_at_call 115
  (with_reducible refine (check2_ok _ _ _ _ _ _ _ hA hC hS hG hE h1 h2 h3 h4 r0 r1).mono ?_)
  rintro e w1 ⟨rfl, HB⟩
  obtain ⟨hc1, hf1⟩ := bcell HB
  have hz1 := HB.size
  try simp at hz1
  replace hB := Below.trans (show Below w.heap.size w _ from by repeat (first | with_reducible assumption | exact Below.refl _ _ | refine Below.drew ?_ | refine Below.setCell ?_ (by first | omega | (simp; done) | (simp; omega)) _ | refine Below.alloc ?_ (by first | omega | (simp; done) | (simp; omega)) _)) (Below.mono (B' := w.heap.size) HB (by first | omega | (simp; done) | (simp; omega)))
  try (have z1w0 : w.heap.size < w1.heap.size := (by omega))
  try (have z1w1 : w.heap.size + 1 < w1.heap.size := (by omega))
  try (have z1w2 : w.heap.size + 1 + 1 < w1.heap.size := (by omega))
  clear HB
  go_wp2_with (fail)
  go_at_call 116
  (with_reducible refine (growth_v _ _ m _ r0 (by omega) (by omega) (by omega) HM.out).mono ?_)
  rintro e w2 ⟨rfl, HB⟩
  obtain ⟨hc2, hf2⟩ := bcell HB
  have hz2 := HB.size
  try simp at hz2
  replace hB := Below.trans (show Below w.heap.size w _ from by repeat (first | with_reducible assumption | exact Below.refl _ _ | refine Below.drew ?_ | refine Below.setCell ?_ (by first | omega | (simp; done) | (simp; omega)) _ | refine Below.alloc ?_ (by first | omega | (simp; done) | (simp; omega)) _)) (Below.mono (B' := w.heap.size) HB (by first | omega | (simp; done) | (simp; omega)))
  try (have z2w0 : w.heap.size < w2.heap.size := (by omega))
  try (have z2w1 : w.heap.size + 1 < w2.heap.size := (by omega))
  try (have z2w2 : w.heap.size + 1 + 1 < w2.heap.size := (by omega))
  try (have z2w10 : w1.heap.size < w2.heap.size := (by omega))
  try (have z2w11 : w1.heap.size + 1 < w2.heap.size := (by omega))
  try (have z2w12 : w1.heap.size + 1 + 1 < w2.heap.size := (by omega))
  clear HB
  go_wp2_with (fail)
  go_at_call 117
  (with_reducible refine (spgrow _ _ _ _ (by omega) (by omega) (by omega) (by omega) (by omega) hl hh).mono ?_)
  rintro e w3 ⟨rfl, HB⟩
  obtain ⟨hc3, hf3⟩ := bcell HB
  have hz3 := HB.size
  try simp at hz3
  replace hB := Below.trans (show Below w.heap.size w _ from by repeat (first | with_reducible assumption | exact Below.refl _ _ | refine Below.drew ?_ | refine Below.setCell ?_ (by first | omega | (simp; done) | (simp; omega)) _ | refine Below.alloc ?_ (by first | omega | (simp; done) | (simp; omega)) _)) (Below.mono (B' := w.heap.size) HB (by first | omega | (simp; done) | (simp; omega)))
  try (have z3w0 : w.heap.size < w3.heap.size := (by omega))
  try (have z3w1 : w.heap.size + 1 < w3.heap.size := (by omega))
  try (have z3w2 : w.heap.size + 1 + 1 < w3.heap.size := (by omega))
  try (have z3w10 : w1.heap.size < w3.heap.size := (by omega))
  try (have z3w11 : w1.heap.size + 1 < w3.heap.size := (by omega))
  try (have z3w12 : w1.heap.size + 1 + 1 < w3.heap.size := (by omega))
  try (have z3w20 : w2.heap.size < w3.heap.size := (by omega))
  try (have z3w21 : w2.heap.size + 1 < w3.heap.size := (by omega))
  try (have z3w22 : w2.heap.size + 1 + 1 < w3.heap.size := (by omega))
  clear HB
  go_wp2_with (fail)
  refine bodyPost_ret (v := .tuple #[.agg #[.int .i64 (S - G - (E + m)), .int .i64 (C - A + (E + m))], .nilIface]) (by first | (simp [results, Tryd.results83, go_sem]; done) | (simp only [results, Tryd.results83]; go_simp; done) | (simp only [results, Tryd.results83]; go_simp; omega)) rfl (⟨rfl, by repeat (first | with_reducible assumption | exact Below.refl _ _ | refine Below.drew ?_ | refine Below.setCell ?_ (by first | omega | (simp; done) | (simp; omega)) _ | refine Below.alloc ?_ (by first | omega | (simp; done) | (simp; omega)) _)⟩)
set_option maxHeartbeats 1000000 in
theorem delay_ok (A C S G E : Int) (w : World) (hA : -4611686018427387904 < A ∧ A < 4611686018427387904) (hC : -4611686018427387904 < C ∧ C < 4611686018427387904) (hS : -4611686018427387904 < S ∧ S < 4611686018427387904) (hG : -4611686018427387904 < G ∧ G < 4611686018427387904) (hE : 0 ≤ E ∧ E ≤ 1099511627776) (h1 : 0 ≤ G - A) (h2 : G - A ≤ 1099511627776) (h3 : 0 ≤ S - C) (h4 : S - C ≤ G - A) : Calls Tryd.prog 87 #[.agg #[.int .i64 A, .int .i64 C, .int .i64 S, .int .i64 G, .int .i64 E]] w fun e w' => e = .returned (.tuple #[.int .i64 (G - A - (S - C)), .nilIface]) ∧ Below w.heap.size w w' := by
  have hB := Below.refl w.heap.size w
  have k1 : wrap64 (S - C) = S - C := IntWalk.wrap64_in _ (by omega)
  have k2 : wrap64 (G - A) = G - A := IntWalk.wrap64_in _ (by omega)
  have k3 : wrap64 (G - A - (S - C)) = G - A - (S - C) := IntWalk.wrap64_in _ (by omega)
  go_enter Tryd.func87, Tryd.ntmps87
  go_wp2_with (fail)
  go_at_call 88
  (with_reducible refine (scheck_ok _ _ _ _ _ _ hA hC hS hG hE h1 h2 h3 h4).mono ?_)
  rintro e w1 ⟨rfl, HB⟩
  obtain ⟨hc1, hf1⟩ := bcell HB
  have hz1 := HB.size
  try simp at hz1
  replace hB := Below.trans (show Below w.heap.size w _ from by repeat (first | with_reducible assumption | exact Below.refl _ _ | refine Below.drew ?_ | refine Below.setCell ?_ (by first | omega | (simp; done) | (simp; omega)) _ | refine Below.alloc ?_ (by first | omega | (simp; done) | (simp; omega)) _)) (Below.mono (B' := w.heap.size) HB (by first | omega | (simp; done) | (simp; omega)))
  try (have z1w0 : w.heap.size < w1.heap.size := (by omega))
  try (have z1w1 : w.heap.size + 1 < w1.heap.size := (by omega))
  try (have z1w2 : w.heap.size + 1 + 1 < w1.heap.size := (by omega))
  clear HB
  go_wp2_with (fail)
  go_ret2
  exact ⟨rfl, by repeat (first | with_reducible assumption | exact Below.refl _ _ | refine Below.drew ?_ | refine Below.setCell ?_ (by first | omega | (simp; done) | (simp; omega)) _ | refine Below.alloc ?_ (by first | omega | (simp; done) | (simp; omega)) _)⟩
set_option maxHeartbeats 4000000 in
theorem told_past (A C S G E rho now : Int) (w : World) (hA : -4611686018427387904 < A ∧ A < 4611686018427387904) (hC : -4611686018427387904 < C ∧ C < 4611686018427387904) (hS : -4611686018427387904 < S ∧ S < 4611686018427387904) (hG : -4611686018427387904 < G ∧ G < 4611686018427387904) (hE : 0 ≤ E ∧ E ≤ 1099511627776) (h1 : 0 ≤ G - A) (h2 : G - A ≤ 1099511627776) (h3 : 0 ≤ S - C) (h4 : S - C ≤ G - A) (r0 : 0 ≤ rho) (r1 : rho ≤ 1048576) (hn : now < G) (hn0 : -9223372036854775808 ≤ now) : Calls Tryd.prog 85 #[.agg #[.int .i64 A, .int .i64 C, .int .i64 S, .int .i64 G, .int .i64 E], .int .i64 rho, .int .i64 now] w fun e w' => e = .returned (.tuple #[.agg #[.int .i64 0, .int .i64 0], errV 10]) ∧ Below w.heap.size w w' := by
  have hB := Below.refl w.heap.size w
  go_enter Tryd.func85, Tryd.ntmps85
  go_wp2_with (fail)
  go_at_call 115
  (with_reducible refine (check2_ok _ _ _ _ _ _ _ hA hC hS hG hE h1 h2 h3 h4 r0 r1).mono ?_)
  rintro e w1 ⟨rfl, HB⟩
  obtain ⟨hc1, hf1⟩ := bcell HB
  have hz1 := HB.size
  try simp at hz1
  replace hB := Below.trans (show Below w.heap.size w _ from by repeat (first | with_reducible assumption | exact Below.refl _ _ | refine Below.drew ?_ | refine Below.setCell ?_ (by first | omega | (simp; done) | (simp; omega)) _ | refine Below.alloc ?_ (by first | omega | (simp; done) | (simp; omega)) _)) (Below.mono (B' := w.heap.size) HB (by first | omega | (simp; done) | (simp; omega)))
  try (have z1w0 : w.heap.size < w1.heap.size := (by omega))
  try (have z1w1 : w.heap.size + 1 < w1.heap.size := (by omega))
  try (have z1w2 : w.heap.size + 1 + 1 < w1.heap.size := (by omega))
  clear HB
  go_wp2_with (fail)
  refine bodyPost_ret (v := .tuple #[.agg #[.int .i64 0, .int .i64 0], errV 10]) (by first | (simp [results, Tryd.results85, go_sem]; done) | (simp only [results, Tryd.results85]; go_simp; done) | (simp only [results, Tryd.results85]; go_simp; omega)) rfl (⟨rfl, by repeat (first | with_reducible assumption | exact Below.refl _ _ | refine Below.drew ?_ | refine Below.setCell ?_ (by first | omega | (simp; done) | (simp; omega)) _ | refine Below.alloc ?_ (by first | omega | (simp; done) | (simp; omega)) _)⟩)
set_option maxHeartbeats 8000000 in
theorem told_ok (A C S G E rho now m m2 : Int) (w : World) (hA : -4611686018427387904 < A ∧ A < 4611686018427387904) (hC : -4611686018427387904 < C ∧ C < 4611686018427387904) (hS : -4611686018427387904 < S ∧ S < 4611686018427387904) (hG : -4611686018427387904 < G ∧ G < 4611686018427387904) (hE : 0 ≤ E ∧ E ≤ 1099511627776) (h1 : 0 ≤ G - A) (h2 : G - A ≤ 1099511627776) (h3 : 0 ≤ S - C) (h4 : S - C ≤ G - A) (r0 : 0 ≤ rho) (r1 : rho ≤ 1048576) (hn : G ≤ now) (hn0 : now < 4611686018427387904) (hm : m = upK ((G - A) * rho)) (hm0 : 0 ≤ m) (hm1 : m ≤ 1152921504606846976) (hm2 : m2 = upK ((now - G) * rho)) (hm3 : 0 ≤ m2) (hm4 : m2 ≤ 9223372036854775807) (hl : InR (S - G - (E + m))) (hh : InR (C - A + (E + m))) (hl1 : InR (S - G - (E + m) + now)) (hh1 : InR (C - A + (E + m) + now)) (hl2 : InR (S - G - (E + m) + now - m2)) (hh2 : InR (C - A + (E + m) + now + m2)) : Calls Tryd.prog 85 #[.agg #[.int .i64 A, .int .i64 C, .int .i64 S, .int .i64 G, .int .i64 E], .int .i64 rho, .int .i64 now] w fun e w' => e = .returned (.tuple #[.agg #[.int .i64 (S - G - (E + m) + now - m2), .int .i64 (C - A + (E + m) + now + m2)], .nilIface]) ∧ Below w.heap.size w w' := by
  have hB := Below.refl w.heap.size w
  have k1 : wrap64 (now - G) = now - G := IntWalk.wrap64_in _ (by omega)
  have hs1 : sat (S - G - (E + m) + now) = S - G - (E + m) + now := sat_in hl1
  have hs2 : sat (C - A + (E + m) + now) = C - A + (E + m) + now := sat_in hh1
  have HM := Lib.hid hm
  have HM2 := Lib.hid hm2
  clear hm hm2
  go_enter Tryd.func85, Tryd.ntmps85
  go_wp2_with (fail)
  go_at_call 115
  (with_reducible refine (check2_ok _ _ _ _ _ _ _ hA hC hS hG hE h1 h2 h3 h4 r0 r1).mono ?_)
  rintro e w1 ⟨rfl, HB⟩
  obtain ⟨hc1, hf1⟩ := bcell HB
  have hz1 := HB.size
  try simp at hz1
  replace hB := Below.trans (show Below w.heap.size w _ from by repeat (first | with_reducible assumption | exact Below.refl _ _ | refine Below.drew ?_ | refine Below.setCell ?_ (by first | omega | (simp; done) | (simp; omega)) _ | refine Below.alloc ?_ (by first | omega | (simp; done) | (simp; omega)) _)) (Below.mono (B' := w.heap.size) HB (by first | omega | (simp; done) | (simp; omega)))
  try (have z1w0 : w.heap.size < w1.heap.size := (by omega))
  try (have z1w1 : w.heap.size + 1 < w1.heap.size := (by omega))
  try (have z1w2 : w.heap.size + 1 + 1 < w1.heap.size := (by omega))
  clear HB
  go_wp2_with (fail)
  go_at_call 83
  (with_reducible refine (of_ok _ _ _ _ _ _ m _ hA hC hS hG hE h1 h2 h3 h4 r0 r1 HM.out hm0 hm1 hl hh).mono ?_)
  rintro e w2 ⟨rfl, HB⟩
  obtain ⟨hc2, hf2⟩ := bcell HB
  have hz2 := HB.size
  try simp at hz2
  replace hB := Below.trans (show Below w.heap.size w _ from by repeat (first | with_reducible assumption | exact Below.refl _ _ | refine Below.drew ?_ | refine Below.setCell ?_ (by first | omega | (simp; done) | (simp; omega)) _ | refine Below.alloc ?_ (by first | omega | (simp; done) | (simp; omega)) _)) (Below.mono (B' := w.heap.size) HB (by first | omega | (simp; done) | (simp; omega)))
  try (have z2w0 : w.heap.size < w2.heap.size := (by omega))
  try (have z2w1 : w.heap.size + 1 < w2.heap.size := (by omega))
  try (have z2w2 : w.heap.size + 1 + 1 < w2.heap.size := (by omega))
  try (have z2w10 : w1.heap.size < w2.heap.size := (by omega))
  try (have z2w11 : w1.heap.size + 1 < w2.heap.size := (by omega))
  try (have z2w12 : w1.heap.size + 1 + 1 < w2.heap.size := (by omega))
  clear HB
  go_wp2_with (fail)
  go_at_call 116
  (with_reducible refine (growth_v _ _ m2 _ r0 (by omega) (by omega) (by omega) HM2.out).mono ?_)
  rintro e w3 ⟨rfl, HB⟩
  obtain ⟨hc3, hf3⟩ := bcell HB
  have hz3 := HB.size
  try simp at hz3
  replace hB := Below.trans (show Below w.heap.size w _ from by repeat (first | with_reducible assumption | exact Below.refl _ _ | refine Below.drew ?_ | refine Below.setCell ?_ (by first | omega | (simp; done) | (simp; omega)) _ | refine Below.alloc ?_ (by first | omega | (simp; done) | (simp; omega)) _)) (Below.mono (B' := w.heap.size) HB (by first | omega | (simp; done) | (simp; omega)))
  try (have z3w0 : w.heap.size < w3.heap.size := (by omega))
  try (have z3w1 : w.heap.size + 1 < w3.heap.size := (by omega))
  try (have z3w2 : w.heap.size + 1 + 1 < w3.heap.size := (by omega))
  try (have z3w10 : w1.heap.size < w3.heap.size := (by omega))
  try (have z3w11 : w1.heap.size + 1 < w3.heap.size := (by omega))
  try (have z3w12 : w1.heap.size + 1 + 1 < w3.heap.size := (by omega))
  try (have z3w20 : w2.heap.size < w3.heap.size := (by omega))
  try (have z3w21 : w2.heap.size + 1 < w3.heap.size := (by omega))
  try (have z3w22 : w2.heap.size + 1 + 1 < w3.heap.size := (by omega))
  clear HB
  go_wp2_with (fail)
  go_region_with (first | (go_at_call 120; (with_reducible refine (addsat_s _ _ _ (by omega) (by omega)).mono ?_); (first | rw [hs1] | rw [hs2]); rintro e w' ⟨rfl, rfl⟩))
  all_goals go_wp2_with (fail)
  all_goals
    go_at_call 117
    (with_reducible refine (spgrow _ _ _ _ (by omega) hm3 hl1 hh1 (by omega) hl2 hh2).mono ?_)
    rintro e w4 ⟨rfl, HB⟩
    obtain ⟨hc4, hf4⟩ := bcell HB
    have hz4 := HB.size
    try simp at hz4
    replace hB := Below.trans (show Below w.heap.size w _ from by repeat (first | with_reducible assumption | exact Below.refl _ _ | refine Below.drew ?_ | refine Below.setCell ?_ (by first | omega | (simp; done) | (simp; omega)) _ | refine Below.alloc ?_ (by first | omega | (simp; done) | (simp; omega)) _)) (Below.mono (B' := w.heap.size) HB (by first | omega | (simp; done) | (simp; omega)))
    try (have z4w0 : w.heap.size < w4.heap.size := (by omega))
    try (have z4w1 : w.heap.size + 1 < w4.heap.size := (by omega))
    try (have z4w2 : w.heap.size + 1 + 1 < w4.heap.size := (by omega))
    try (have z4w10 : w1.heap.size < w4.heap.size := (by omega))
    try (have z4w11 : w1.heap.size + 1 < w4.heap.size := (by omega))
    try (have z4w12 : w1.heap.size + 1 + 1 < w4.heap.size := (by omega))
    try (have z4w20 : w2.heap.size < w4.heap.size := (by omega))
    try (have z4w21 : w2.heap.size + 1 < w4.heap.size := (by omega))
    try (have z4w22 : w2.heap.size + 1 + 1 < w4.heap.size := (by omega))
    try (have z4w30 : w3.heap.size < w4.heap.size := (by omega))
    try (have z4w31 : w3.heap.size + 1 < w4.heap.size := (by omega))
    try (have z4w32 : w3.heap.size + 1 + 1 < w4.heap.size := (by omega))
    clear HB
  all_goals go_wp2_with (fail)
  all_goals (refine bodyPost_ret (v := .tuple #[.agg #[.int .i64 (S - G - (E + m) + now - m2), .int .i64 (C - A + (E + m) + now + m2)], .nilIface]) (by first | (simp [results, Tryd.results85, go_sem]; done) | (simp only [results, Tryd.results85]; go_simp; done) | (simp only [results, Tryd.results85]; go_simp; omega)) rfl (⟨rfl, by repeat (first | with_reducible assumption | exact Below.refl _ _ | refine Below.drew ?_ | refine Below.setCell ?_ (by first | omega | (simp; done) | (simp; omega)) _ | refine Below.alloc ?_ (by first | omega | (simp; done) | (simp; omega)) _)⟩))
end Go.Proofs.YtffdglhdklmjoaaDoor
