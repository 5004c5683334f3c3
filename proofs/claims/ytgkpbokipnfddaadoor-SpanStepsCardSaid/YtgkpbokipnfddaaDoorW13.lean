/-
  Layer 13: spans, one by one, and by the reference.
-/
import Derived.Test.YtgkpbokipnfddaaDoorV01
import Derived.Deep.RegionHeld3
import Derived.Deep.RegionWith
import Derived.RegionTactic
import Derived.WalkLawsBesides
namespace Go.Proofs.YtgkpbokipnfddaaDoor
open Go.RowKit Go.Extern.Stop Go.Stop Go.Extern
set_option linter.unusedVariables false
set_option linter.unusedSimpArgs false
set_option maxHeartbeats 1000000 in
theorem sp_check_ok (lo hi : Int) (w : World) (h : lo ≤ hi) : Calls Tryd.prog 18 #[.agg #[.int .i64 lo, .int .i64 hi]] w fun e w' => e = .returned (.nilIface) ∧ Below w.heap.size w w' := by
  have hB := Below.refl w.heap.size w
  go_enter Tryd.func18, Tryd.ntmps18
  go_wp2_with (fail)
  go_ret
  exact ⟨rfl, by repeat (first | with_reducible assumption | exact Below.refl _ _ | refine Below.drew ?_ | refine Below.setCell ?_ (by first | omega | (simp; done) | (simp; omega)) _ | refine Below.alloc ?_ (by first | omega | (simp; done) | (simp; omega)) _)⟩
set_option maxHeartbeats 1000000 in
theorem sp_check_no (lo hi : Int) (w : World) (h : hi < lo) : Calls Tryd.prog 18 #[.agg #[.int .i64 lo, .int .i64 hi]] w fun e w' => e = .returned (errV 1) ∧ Below w.heap.size w w' := by
  have hB := Below.refl w.heap.size w
  go_enter Tryd.func18, Tryd.ntmps18
  go_wp2_with (fail)
  go_ret
  exact ⟨rfl, by repeat (first | with_reducible assumption | exact Below.refl _ _ | refine Below.drew ?_ | refine Below.setCell ?_ (by first | omega | (simp; done) | (simp; omega)) _ | refine Below.alloc ?_ (by first | omega | (simp; done) | (simp; omega)) _)⟩
def hasB (lo hi n : Int) : Bool := decide (lo ≤ n) && decide (n ≤ hi)
set_option maxHeartbeats 1000000 in
theorem sp_has_yes (lo hi n : Int) (w : World) (h1 : lo ≤ n) (h2 : n ≤ hi) : Calls Tryd.prog 17 #[.agg #[.int .i64 lo, .int .i64 hi], .int .i64 n] w fun e w' => e = .returned (.bool true) ∧ Below w.heap.size w w' := by
  have hB := Below.refl w.heap.size w
  have hd1 : decide (lo ≤ n) = true := decide_eq_true h1
  have hd2 : decide (n ≤ hi) = true := decide_eq_true h2
  go_enter Tryd.func17, Tryd.ntmps17
  go_wp2_with (fail)
  go_ret
  exact ⟨rfl, by repeat (first | with_reducible assumption | exact Below.refl _ _ | refine Below.drew ?_ | refine Below.setCell ?_ (by first | omega | (simp; done) | (simp; omega)) _ | refine Below.alloc ?_ (by first | omega | (simp; done) | (simp; omega)) _)⟩
set_option maxHeartbeats 1000000 in
theorem sp_has_lo (lo hi n : Int) (w : World) (h1 : n < lo) : Calls Tryd.prog 17 #[.agg #[.int .i64 lo, .int .i64 hi], .int .i64 n] w fun e w' => e = .returned (.bool false) ∧ Below w.heap.size w w' := by
  have hB := Below.refl w.heap.size w
  have hd1 : decide (lo ≤ n) = false := decide_eq_false (by omega)
  go_enter Tryd.func17, Tryd.ntmps17
  go_wp2_with (fail)
  go_ret
  exact ⟨rfl, by repeat (first | with_reducible assumption | exact Below.refl _ _ | refine Below.drew ?_ | refine Below.setCell ?_ (by first | omega | (simp; done) | (simp; omega)) _ | refine Below.alloc ?_ (by first | omega | (simp; done) | (simp; omega)) _)⟩
set_option maxHeartbeats 1000000 in
theorem sp_has_hi (lo hi n : Int) (w : World) (h1 : lo ≤ n) (h2 : hi < n) : Calls Tryd.prog 17 #[.agg #[.int .i64 lo, .int .i64 hi], .int .i64 n] w fun e w' => e = .returned (.bool false) ∧ Below w.heap.size w w' := by
  have hB := Below.refl w.heap.size w
  have hd1 : decide (lo ≤ n) = true := decide_eq_true h1
  have hd2 : decide (n ≤ hi) = false := decide_eq_false (by omega)
  go_enter Tryd.func17, Tryd.ntmps17
  go_wp2_with (fail)
  go_ret
  exact ⟨rfl, by repeat (first | with_reducible assumption | exact Below.refl _ _ | refine Below.drew ?_ | refine Below.setCell ?_ (by first | omega | (simp; done) | (simp; omega)) _ | refine Below.alloc ?_ (by first | omega | (simp; done) | (simp; omega)) _)⟩
theorem sp_has (lo hi n : Int) (w : World) : Calls Tryd.prog 17 #[.agg #[.int .i64 lo, .int .i64 hi], .int .i64 n] w fun e w' => e = .returned (.bool (hasB lo hi n)) ∧ Below w.heap.size w w' := by
  unfold hasB
  by_cases h1 : lo ≤ n
  · by_cases h2 : n ≤ hi
    · rw [decide_eq_true h1, decide_eq_true h2]; exact sp_has_yes lo hi n w h1 h2
    · rw [decide_eq_true h1, decide_eq_false h2]; exact sp_has_hi lo hi n w h1 (by omega)
  · rw [decide_eq_false h1, Bool.false_and]; exact sp_has_lo lo hi n w (by omega)
set_option maxHeartbeats 1000000 in
theorem sp_grow (lo hi n : Int) (w : World) (h : lo ≤ hi) (h0 : 0 ≤ n) (l0 : InR lo) (l1 : InR hi) (l2 : InR n) : Calls Tryd.prog 15 #[.agg #[.int .i64 lo, .int .i64 hi], .int .i64 n] w fun e w' => e = .returned (.tuple #[.agg #[.int .i64 (sat (lo - n)), .int .i64 (sat (hi + n))], .nilIface]) ∧ Below w.heap.size w w' := by
  have hB := Below.refl w.heap.size w
  go_enter Tryd.func15, Tryd.ntmps15
  go_wp2_with (fail)
  go_at_call 18
  (with_reducible refine (sp_check_ok _ _ _ h).mono ?_)
  rintro e w1 ⟨rfl, HB⟩
  obtain ⟨hc1, hf1⟩ := bcell HB
  have hz1 := HB.size
  try simp at hz1
  replace hB := Below.trans (show Below w.heap.size w _ from by repeat (first | with_reducible assumption | exact Below.refl _ _ | refine Below.drew ?_ | refine Below.setCell ?_ (by first | omega | (simp; done) | (simp; omega)) _ | refine Below.alloc ?_ (by first | omega | (simp; done) | (simp; omega)) _)) (Below.mono (B' := w.heap.size) HB (by first | omega | (simp; done) | (simp; omega)))
  try (have z1w0 : w.heap.size < w1.heap.size := (by omega))
  try (have z1w1 : w.heap.size + 1 < w1.heap.size := (by omega))
  try (have z1w2 : w.heap.size + 1 + 1 < w1.heap.size := (by omega))
  clear HB
  go_wp2_with (fail)
  go_region_with (first | (go_at_call 55; (with_reducible refine (subsat_s _ _ _ (by omega) (by omega)).mono ?_); rintro e w' ⟨rfl, rfl⟩) | (go_at_call 56; (with_reducible refine (addsat_s _ _ _ (by omega) (by omega)).mono ?_); rintro e w' ⟨rfl, rfl⟩))
  all_goals go_wp2_with (fail)
  all_goals (refine bodyPost_ret (v := .tuple #[.agg #[.int .i64 (sat (lo - n)), .int .i64 (sat (hi + n))], .nilIface]) (by first | (simp [results, Tryd.results15, go_sem]; done) | (simp only [results, Tryd.results15]; go_simp; done) | (simp only [results, Tryd.results15]; go_simp; omega)) rfl (⟨rfl, by repeat (first | with_reducible assumption | exact Below.refl _ _ | refine Below.drew ?_ | refine Below.setCell ?_ (by first | omega | (simp; done) | (simp; omega)) _ | refine Below.alloc ?_ (by first | omega | (simp; done) | (simp; omega)) _)⟩))
set_option maxHeartbeats 1000000 in
theorem sp_grow_arg (lo hi n : Int) (w : World) (h : hi < lo) : Calls Tryd.prog 15 #[.agg #[.int .i64 lo, .int .i64 hi], .int .i64 n] w fun e w' => e = .returned (.tuple #[.agg #[.int .i64 0, .int .i64 0], errV 1]) ∧ Below w.heap.size w w' := by
  have hB := Below.refl w.heap.size w
  go_enter Tryd.func15, Tryd.ntmps15
  go_wp2_with (fail)
  go_at_call 18
  (with_reducible refine (sp_check_no _ _ _ h).mono ?_)
  rintro e w1 ⟨rfl, HB⟩
  obtain ⟨hc1, hf1⟩ := bcell HB
  have hz1 := HB.size
  try simp at hz1
  replace hB := Below.trans (show Below w.heap.size w _ from by repeat (first | with_reducible assumption | exact Below.refl _ _ | refine Below.drew ?_ | refine Below.setCell ?_ (by first | omega | (simp; done) | (simp; omega)) _ | refine Below.alloc ?_ (by first | omega | (simp; done) | (simp; omega)) _)) (Below.mono (B' := w.heap.size) HB (by first | omega | (simp; done) | (simp; omega)))
  try (have z1w0 : w.heap.size < w1.heap.size := (by omega))
  try (have z1w1 : w.heap.size + 1 < w1.heap.size := (by omega))
  try (have z1w2 : w.heap.size + 1 + 1 < w1.heap.size := (by omega))
  clear HB
  go_wp2_with (fail)
  refine bodyPost_ret (v := .tuple #[.agg #[.int .i64 0, .int .i64 0], errV 1]) (by first | (simp [results, Tryd.results15, go_sem]; done) | (simp only [results, Tryd.results15]; go_simp; done) | (simp only [results, Tryd.results15]; go_simp; omega)) rfl (⟨rfl, by repeat (first | with_reducible assumption | exact Below.refl _ _ | refine Below.drew ?_ | refine Below.setCell ?_ (by first | omega | (simp; done) | (simp; omega)) _ | refine Below.alloc ?_ (by first | omega | (simp; done) | (simp; omega)) _)⟩)
set_option maxHeartbeats 1000000 in
theorem sp_grow_neg (lo hi n : Int) (w : World) (h : lo ≤ hi) (hn : n < 0) : Calls Tryd.prog 15 #[.agg #[.int .i64 lo, .int .i64 hi], .int .i64 n] w fun e w' => e = .returned (.tuple #[.agg #[.int .i64 0, .int .i64 0], errV 1]) ∧ Below w.heap.size w w' := by
  have hB := Below.refl w.heap.size w
  go_enter Tryd.func15, Tryd.ntmps15
  go_wp2_with (fail)
  go_at_call 18
  (with_reducible refine (sp_check_ok _ _ _ h).mono ?_)
  rintro e w1 ⟨rfl, HB⟩
  obtain ⟨hc1, hf1⟩ := bcell HB
  have hz1 := HB.size
  try simp at hz1
  replace hB := Below.trans (show Below w.heap.size w _ from by repeat (first | with_reducible assumption | exact Below.refl _ _ | refine Below.drew ?_ | refine Below.setCell ?_ (by first | omega | (simp; done) | (simp; omega)) _ | refine Below.alloc ?_ (by first | omega | (simp; done) | (simp; omega)) _)) (Below.mono (B' := w.heap.size) HB (by first | omega | (simp; done) | (simp; omega)))
  try (have z1w0 : w.heap.size < w1.heap.size := (by omega))
  try (have z1w1 : w.heap.size + 1 < w1.heap.size := (by omega))
  try (have z1w2 : w.heap.size + 1 + 1 < w1.heap.size := (by omega))
  clear HB
  go_wp2_with (fail)
  refine bodyPost_ret (v := .tuple #[.agg #[.int .i64 0, .int .i64 0], errV 1]) (by first | (simp [results, Tryd.results15, go_sem]; done) | (simp only [results, Tryd.results15]; go_simp; done) | (simp only [results, Tryd.results15]; go_simp; omega)) rfl (⟨rfl, by repeat (first | with_reducible assumption | exact Below.refl _ _ | refine Below.drew ?_ | refine Below.setCell ?_ (by first | omega | (simp; done) | (simp; omega)) _ | refine Below.alloc ?_ (by first | omega | (simp; done) | (simp; omega)) _)⟩)
set_option maxHeartbeats 1000000 in
theorem sp_mid_no (lo hi : Int) (w : World) (h : hi < lo) : Calls Tryd.prog 16 #[.agg #[.int .i64 lo, .int .i64 hi]] w fun e w' => e = .returned (.tuple #[.int .i64 0, .int .i64 0, errV 1]) ∧ Below w.heap.size w w' := by
  have hB := Below.refl w.heap.size w
  go_enter Tryd.func16, Tryd.ntmps16
  go_wp2_with (fail)
  go_at_call 18
  (with_reducible refine (sp_check_no _ _ _ h).mono ?_)
  rintro e w1 ⟨rfl, HB⟩
  obtain ⟨hc1, hf1⟩ := bcell HB
  have hz1 := HB.size
  try simp at hz1
  replace hB := Below.trans (show Below w.heap.size w _ from by repeat (first | with_reducible assumption | exact Below.refl _ _ | refine Below.drew ?_ | refine Below.setCell ?_ (by first | omega | (simp; done) | (simp; omega)) _ | refine Below.alloc ?_ (by first | omega | (simp; done) | (simp; omega)) _)) (Below.mono (B' := w.heap.size) HB (by first | omega | (simp; done) | (simp; omega)))
  try (have z1w0 : w.heap.size < w1.heap.size := (by omega))
  try (have z1w1 : w.heap.size + 1 < w1.heap.size := (by omega))
  try (have z1w2 : w.heap.size + 1 + 1 < w1.heap.size := (by omega))
  clear HB
  go_wp2_with (fail)
  go_ret3
  exact ⟨rfl, by repeat (first | with_reducible assumption | exact Below.refl _ _ | refine Below.drew ?_ | refine Below.setCell ?_ (by first | omega | (simp; done) | (simp; omega)) _ | refine Below.alloc ?_ (by first | omega | (simp; done) | (simp; omega)) _)⟩
set_option maxHeartbeats 1000000 in
theorem sp_mid (lo hi : Int) (w : World) (h : lo ≤ hi) (l0 : InR lo) (l1 : InR hi) : Calls Tryd.prog 16 #[.agg #[.int .i64 lo, .int .i64 hi]] w fun e w' => e = .returned (.tuple #[.int .i64 (lo + (hi - lo) / 2), .int .i64 (sat (hi - (lo + (hi - lo) / 2))), .nilIface]) ∧ Below w.heap.size w w' := by
  have hB := Below.refl w.heap.size w
  have k1 : IntKind.u64.wrap (IntKind.u64.wrap hi - IntKind.u64.wrap lo) = hi - lo := by rw [IntKind.wrap_u64, IntKind.wrap_u64, IntKind.wrap_u64]; omega
  have k2 : (hi - lo).tdiv 2 = (hi - lo) / 2 := Int.tdiv_eq_ediv_of_nonneg (by omega)
  have k3 : IntKind.u64.wrap ((hi - lo) / 2) = (hi - lo) / 2 := by rw [IntKind.wrap_u64]; omega
  have k4 : wrap64 ((hi - lo) / 2) = (hi - lo) / 2 := IntWalk.wrap64_in _ (by omega)
  have k5 : wrap64 (lo + (hi - lo) / 2) = lo + (hi - lo) / 2 := IntWalk.wrap64_in _ (by omega)
  have hr : InR (lo + (hi - lo) / 2) := by omega
  go_enter Tryd.func16, Tryd.ntmps16
  go_wp2_with (fail)
  go_at_call 18
  (with_reducible refine (sp_check_ok _ _ _ h).mono ?_)
  rintro e w1 ⟨rfl, HB⟩
  obtain ⟨hc1, hf1⟩ := bcell HB
  have hz1 := HB.size
  try simp at hz1
  replace hB := Below.trans (show Below w.heap.size w _ from by repeat (first | with_reducible assumption | exact Below.refl _ _ | refine Below.drew ?_ | refine Below.setCell ?_ (by first | omega | (simp; done) | (simp; omega)) _ | refine Below.alloc ?_ (by first | omega | (simp; done) | (simp; omega)) _)) (Below.mono (B' := w.heap.size) HB (by first | omega | (simp; done) | (simp; omega)))
  try (have z1w0 : w.heap.size < w1.heap.size := (by omega))
  try (have z1w1 : w.heap.size + 1 < w1.heap.size := (by omega))
  try (have z1w2 : w.heap.size + 1 + 1 < w1.heap.size := (by omega))
  clear HB
  go_wp2_with (fail)
  (with_reducible refine (subsat_s _ _ _ l1 hr).mono ?_)
  rintro e w' ⟨rfl, rfl⟩
  go_wp2_with (fail)
  go_ret3
  exact ⟨rfl, by repeat (first | with_reducible assumption | exact Below.refl _ _ | refine Below.drew ?_ | refine Below.setCell ?_ (by first | omega | (simp; done) | (simp; omega)) _ | refine Below.alloc ?_ (by first | omega | (simp; done) | (simp; omega)) _)⟩
def mx (a c : Int) : Int := if a < c then c else a
def mn (b d : Int) : Int := if d < b then d else b
set_option maxHeartbeats 1000000 in
theorem sp_meet_a (a b c d x y : Int) (w : World) (hx : (if a < c then c else a) = x) (hy : (if d < b then d else b) = y) (h1 : b < a) : Calls Tryd.prog 14 #[.agg #[.int .i64 a, .int .i64 b], .agg #[.int .i64 c, .int .i64 d]] w fun e w' => e = .returned (.tuple #[.agg #[.int .i64 0, .int .i64 0], .bool false]) ∧ Below w.heap.size w w' := by
  have hB := Below.refl w.heap.size w
  go_enter Tryd.func14, Tryd.ntmps14
  go_wp2_with (fail)
  go_at_call 18
  (with_reducible refine (sp_check_no _ _ _ (by omega)).mono ?_)
  rintro e w1 ⟨rfl, HB⟩
  obtain ⟨hc1, hf1⟩ := bcell HB
  have hz1 := HB.size
  try simp at hz1
  replace hB := Below.trans (show Below w.heap.size w _ from by repeat (first | with_reducible assumption | exact Below.refl _ _ | refine Below.drew ?_ | refine Below.setCell ?_ (by first | omega | (simp; done) | (simp; omega)) _ | refine Below.alloc ?_ (by first | omega | (simp; done) | (simp; omega)) _)) (Below.mono (B' := w.heap.size) HB (by first | omega | (simp; done) | (simp; omega)))
  try (have z1w0 : w.heap.size < w1.heap.size := (by omega))
  try (have z1w1 : w.heap.size + 1 < w1.heap.size := (by omega))
  try (have z1w2 : w.heap.size + 1 + 1 < w1.heap.size := (by omega))
  try (have z1w3 : w.heap.size + 1 + 1 + 1 < w1.heap.size := (by omega))
  try (have z1w4 : w.heap.size + 1 + 1 + 1 + 1 < w1.heap.size := (by omega))
  clear HB
  go_wp2_with (fail)
  refine bodyPost_ret (v := .tuple #[.agg #[.int .i64 0, .int .i64 0], .bool false]) (by first | (simp [results, Tryd.results14, go_sem]; done) | (simp only [results, Tryd.results14]; go_simp; done) | (simp only [results, Tryd.results14]; go_simp; omega)) rfl (⟨rfl, by repeat (first | with_reducible assumption | exact Below.refl _ _ | refine Below.drew ?_ | refine Below.setCell ?_ (by first | omega | (simp; done) | (simp; omega)) _ | refine Below.alloc ?_ (by first | omega | (simp; done) | (simp; omega)) _)⟩)
set_option maxHeartbeats 1000000 in
theorem sp_meet_b (a b c d x y : Int) (w : World) (hx : (if a < c then c else a) = x) (hy : (if d < b then d else b) = y) (h1 : a ≤ b) (h2 : d < c) : Calls Tryd.prog 14 #[.agg #[.int .i64 a, .int .i64 b], .agg #[.int .i64 c, .int .i64 d]] w fun e w' => e = .returned (.tuple #[.agg #[.int .i64 0, .int .i64 0], .bool false]) ∧ Below w.heap.size w w' := by
  have hB := Below.refl w.heap.size w
  go_enter Tryd.func14, Tryd.ntmps14
  go_wp2_with (fail)
  go_at_call 18
  (with_reducible refine (sp_check_ok _ _ _ (by omega)).mono ?_)
  rintro e w1 ⟨rfl, HB⟩
  obtain ⟨hc1, hf1⟩ := bcell HB
  have hz1 := HB.size
  try simp at hz1
  replace hB := Below.trans (show Below w.heap.size w _ from by repeat (first | with_reducible assumption | exact Below.refl _ _ | refine Below.drew ?_ | refine Below.setCell ?_ (by first | omega | (simp; done) | (simp; omega)) _ | refine Below.alloc ?_ (by first | omega | (simp; done) | (simp; omega)) _)) (Below.mono (B' := w.heap.size) HB (by first | omega | (simp; done) | (simp; omega)))
  try (have z1w0 : w.heap.size < w1.heap.size := (by omega))
  try (have z1w1 : w.heap.size + 1 < w1.heap.size := (by omega))
  try (have z1w2 : w.heap.size + 1 + 1 < w1.heap.size := (by omega))
  try (have z1w3 : w.heap.size + 1 + 1 + 1 < w1.heap.size := (by omega))
  try (have z1w4 : w.heap.size + 1 + 1 + 1 + 1 < w1.heap.size := (by omega))
  clear HB
  go_wp2_with (fail)
  go_at_call 18
  (with_reducible refine (sp_check_no _ _ _ (by omega)).mono ?_)
  rintro e w2 ⟨rfl, HB⟩
  obtain ⟨hc2, hf2⟩ := bcell HB
  have hz2 := HB.size
  try simp at hz2
  replace hB := Below.trans (show Below w.heap.size w _ from by repeat (first | with_reducible assumption | exact Below.refl _ _ | refine Below.drew ?_ | refine Below.setCell ?_ (by first | omega | (simp; done) | (simp; omega)) _ | refine Below.alloc ?_ (by first | omega | (simp; done) | (simp; omega)) _)) (Below.mono (B' := w.heap.size) HB (by first | omega | (simp; done) | (simp; omega)))
  try (have z2w0 : w.heap.size < w2.heap.size := (by omega))
  try (have z2w1 : w.heap.size + 1 < w2.heap.size := (by omega))
  try (have z2w2 : w.heap.size + 1 + 1 < w2.heap.size := (by omega))
  try (have z2w3 : w.heap.size + 1 + 1 + 1 < w2.heap.size := (by omega))
  try (have z2w4 : w.heap.size + 1 + 1 + 1 + 1 < w2.heap.size := (by omega))
  try (have z2w10 : w1.heap.size < w2.heap.size := (by omega))
  try (have z2w11 : w1.heap.size + 1 < w2.heap.size := (by omega))
  try (have z2w12 : w1.heap.size + 1 + 1 < w2.heap.size := (by omega))
  try (have z2w13 : w1.heap.size + 1 + 1 + 1 < w2.heap.size := (by omega))
  try (have z2w14 : w1.heap.size + 1 + 1 + 1 + 1 < w2.heap.size := (by omega))
  clear HB
  go_wp2_with (fail)
  refine bodyPost_ret (v := .tuple #[.agg #[.int .i64 0, .int .i64 0], .bool false]) (by first | (simp [results, Tryd.results14, go_sem]; done) | (simp only [results, Tryd.results14]; go_simp; done) | (simp only [results, Tryd.results14]; go_simp; omega)) rfl (⟨rfl, by repeat (first | with_reducible assumption | exact Below.refl _ _ | refine Below.drew ?_ | refine Below.setCell ?_ (by first | omega | (simp; done) | (simp; omega)) _ | refine Below.alloc ?_ (by first | omega | (simp; done) | (simp; omega)) _)⟩)
set_option maxHeartbeats 1000000 in
theorem sp_meet_c (a b c d x y : Int) (w : World) (hx : (if a < c then c else a) = x) (hy : (if d < b then d else b) = y) (h1 : a ≤ b) (h2 : c ≤ d) (h3 : y < x) : Calls Tryd.prog 14 #[.agg #[.int .i64 a, .int .i64 b], .agg #[.int .i64 c, .int .i64 d]] w fun e w' => e = .returned (.tuple #[.agg #[.int .i64 0, .int .i64 0], .bool false]) ∧ Below w.heap.size w w' := by
  have hB := Below.refl w.heap.size w
  go_enter Tryd.func14, Tryd.ntmps14
  go_wp2_with (fail)
  go_at_call 18
  (with_reducible refine (sp_check_ok _ _ _ (by omega)).mono ?_)
  rintro e w1 ⟨rfl, HB⟩
  obtain ⟨hc1, hf1⟩ := bcell HB
  have hz1 := HB.size
  try simp at hz1
  replace hB := Below.trans (show Below w.heap.size w _ from by repeat (first | with_reducible assumption | exact Below.refl _ _ | refine Below.drew ?_ | refine Below.setCell ?_ (by first | omega | (simp; done) | (simp; omega)) _ | refine Below.alloc ?_ (by first | omega | (simp; done) | (simp; omega)) _)) (Below.mono (B' := w.heap.size) HB (by first | omega | (simp; done) | (simp; omega)))
  try (have z1w0 : w.heap.size < w1.heap.size := (by omega))
  try (have z1w1 : w.heap.size + 1 < w1.heap.size := (by omega))
  try (have z1w2 : w.heap.size + 1 + 1 < w1.heap.size := (by omega))
  try (have z1w3 : w.heap.size + 1 + 1 + 1 < w1.heap.size := (by omega))
  try (have z1w4 : w.heap.size + 1 + 1 + 1 + 1 < w1.heap.size := (by omega))
  clear HB
  go_wp2_with (fail)
  go_at_call 18
  (with_reducible refine (sp_check_ok _ _ _ (by omega)).mono ?_)
  rintro e w2 ⟨rfl, HB⟩
  obtain ⟨hc2, hf2⟩ := bcell HB
  have hz2 := HB.size
  try simp at hz2
  replace hB := Below.trans (show Below w.heap.size w _ from by repeat (first | with_reducible assumption | exact Below.refl _ _ | refine Below.drew ?_ | refine Below.setCell ?_ (by first | omega | (simp; done) | (simp; omega)) _ | refine Below.alloc ?_ (by first | omega | (simp; done) | (simp; omega)) _)) (Below.mono (B' := w.heap.size) HB (by first | omega | (simp; done) | (simp; omega)))
  try (have z2w0 : w.heap.size < w2.heap.size := (by omega))
  try (have z2w1 : w.heap.size + 1 < w2.heap.size := (by omega))
  try (have z2w2 : w.heap.size + 1 + 1 < w2.heap.size := (by omega))
  try (have z2w3 : w.heap.size + 1 + 1 + 1 < w2.heap.size := (by omega))
  try (have z2w4 : w.heap.size + 1 + 1 + 1 + 1 < w2.heap.size := (by omega))
  try (have z2w10 : w1.heap.size < w2.heap.size := (by omega))
  try (have z2w11 : w1.heap.size + 1 < w2.heap.size := (by omega))
  try (have z2w12 : w1.heap.size + 1 + 1 < w2.heap.size := (by omega))
  try (have z2w13 : w1.heap.size + 1 + 1 + 1 < w2.heap.size := (by omega))
  try (have z2w14 : w1.heap.size + 1 + 1 + 1 + 1 < w2.heap.size := (by omega))
  clear HB
  go_wp2_with (fail)
  go_at_call 18
  (with_reducible refine (sp_check_no _ _ _ (by omega)).mono ?_)
  rintro e w3 ⟨rfl, HB⟩
  obtain ⟨hc3, hf3⟩ := bcell HB
  have hz3 := HB.size
  try simp at hz3
  replace hB := Below.trans (show Below w.heap.size w _ from by repeat (first | with_reducible assumption | exact Below.refl _ _ | refine Below.drew ?_ | refine Below.setCell ?_ (by first | omega | (simp; done) | (simp; omega)) _ | refine Below.alloc ?_ (by first | omega | (simp; done) | (simp; omega)) _)) (Below.mono (B' := w.heap.size) HB (by first | omega | (simp; done) | (simp; omega)))
  try (have z3w0 : w.heap.size < w3.heap.size := (by omega))
  try (have z3w1 : w.heap.size + 1 < w3.heap.size := (by omega))
  try (have z3w2 : w.heap.size + 1 + 1 < w3.heap.size := (by omega))
  try (have z3w3 : w.heap.size + 1 + 1 + 1 < w3.heap.size := (by omega))
  try (have z3w4 : w.heap.size + 1 + 1 + 1 + 1 < w3.heap.size := (by omega))
  try (have z3w10 : w1.heap.size < w3.heap.size := (by omega))
  try (have z3w11 : w1.heap.size + 1 < w3.heap.size := (by omega))
  try (have z3w12 : w1.heap.size + 1 + 1 < w3.heap.size := (by omega))
  try (have z3w13 : w1.heap.size + 1 + 1 + 1 < w3.heap.size := (by omega))
  try (have z3w14 : w1.heap.size + 1 + 1 + 1 + 1 < w3.heap.size := (by omega))
  try (have z3w20 : w2.heap.size < w3.heap.size := (by omega))
  try (have z3w21 : w2.heap.size + 1 < w3.heap.size := (by omega))
  try (have z3w22 : w2.heap.size + 1 + 1 < w3.heap.size := (by omega))
  try (have z3w23 : w2.heap.size + 1 + 1 + 1 < w3.heap.size := (by omega))
  try (have z3w24 : w2.heap.size + 1 + 1 + 1 + 1 < w3.heap.size := (by omega))
  clear HB
  go_wp2_with (fail)
  refine bodyPost_ret (v := .tuple #[.agg #[.int .i64 0, .int .i64 0], .bool false]) (by first | (simp [results, Tryd.results14, go_sem]; done) | (simp only [results, Tryd.results14]; go_simp; done) | (simp only [results, Tryd.results14]; go_simp; omega)) rfl (⟨rfl, by repeat (first | with_reducible assumption | exact Below.refl _ _ | refine Below.drew ?_ | refine Below.setCell ?_ (by first | omega | (simp; done) | (simp; omega)) _ | refine Below.alloc ?_ (by first | omega | (simp; done) | (simp; omega)) _)⟩)
set_option maxHeartbeats 1000000 in
theorem sp_meet_d (a b c d x y : Int) (w : World) (hx : (if a < c then c else a) = x) (hy : (if d < b then d else b) = y) (h1 : a ≤ b) (h2 : c ≤ d) (h3 : x ≤ y) : Calls Tryd.prog 14 #[.agg #[.int .i64 a, .int .i64 b], .agg #[.int .i64 c, .int .i64 d]] w fun e w' => e = .returned (.tuple #[.agg #[.int .i64 x, .int .i64 y], .bool true]) ∧ Below w.heap.size w w' := by
  have hB := Below.refl w.heap.size w
  go_enter Tryd.func14, Tryd.ntmps14
  go_wp2_with (fail)
  go_at_call 18
  (with_reducible refine (sp_check_ok _ _ _ (by omega)).mono ?_)
  rintro e w1 ⟨rfl, HB⟩
  obtain ⟨hc1, hf1⟩ := bcell HB
  have hz1 := HB.size
  try simp at hz1
  replace hB := Below.trans (show Below w.heap.size w _ from by repeat (first | with_reducible assumption | exact Below.refl _ _ | refine Below.drew ?_ | refine Below.setCell ?_ (by first | omega | (simp; done) | (simp; omega)) _ | refine Below.alloc ?_ (by first | omega | (simp; done) | (simp; omega)) _)) (Below.mono (B' := w.heap.size) HB (by first | omega | (simp; done) | (simp; omega)))
  try (have z1w0 : w.heap.size < w1.heap.size := (by omega))
  try (have z1w1 : w.heap.size + 1 < w1.heap.size := (by omega))
  try (have z1w2 : w.heap.size + 1 + 1 < w1.heap.size := (by omega))
  try (have z1w3 : w.heap.size + 1 + 1 + 1 < w1.heap.size := (by omega))
  try (have z1w4 : w.heap.size + 1 + 1 + 1 + 1 < w1.heap.size := (by omega))
  clear HB
  go_wp2_with (fail)
  go_at_call 18
  (with_reducible refine (sp_check_ok _ _ _ (by omega)).mono ?_)
  rintro e w2 ⟨rfl, HB⟩
  obtain ⟨hc2, hf2⟩ := bcell HB
  have hz2 := HB.size
  try simp at hz2
  replace hB := Below.trans (show Below w.heap.size w _ from by repeat (first | with_reducible assumption | exact Below.refl _ _ | refine Below.drew ?_ | refine Below.setCell ?_ (by first | omega | (simp; done) | (simp; omega)) _ | refine Below.alloc ?_ (by first | omega | (simp; done) | (simp; omega)) _)) (Below.mono (B' := w.heap.size) HB (by first | omega | (simp; done) | (simp; omega)))
  try (have z2w0 : w.heap.size < w2.heap.size := (by omega))
  try (have z2w1 : w.heap.size + 1 < w2.heap.size := (by omega))
  try (have z2w2 : w.heap.size + 1 + 1 < w2.heap.size := (by omega))
  try (have z2w3 : w.heap.size + 1 + 1 + 1 < w2.heap.size := (by omega))
  try (have z2w4 : w.heap.size + 1 + 1 + 1 + 1 < w2.heap.size := (by omega))
  try (have z2w10 : w1.heap.size < w2.heap.size := (by omega))
  try (have z2w11 : w1.heap.size + 1 < w2.heap.size := (by omega))
  try (have z2w12 : w1.heap.size + 1 + 1 < w2.heap.size := (by omega))
  try (have z2w13 : w1.heap.size + 1 + 1 + 1 < w2.heap.size := (by omega))
  try (have z2w14 : w1.heap.size + 1 + 1 + 1 + 1 < w2.heap.size := (by omega))
  clear HB
  go_wp2_with (fail)
  go_at_call 18
  (with_reducible refine (sp_check_ok _ _ _ (by omega)).mono ?_)
  rintro e w3 ⟨rfl, HB⟩
  obtain ⟨hc3, hf3⟩ := bcell HB
  have hz3 := HB.size
  try simp at hz3
  replace hB := Below.trans (show Below w.heap.size w _ from by repeat (first | with_reducible assumption | exact Below.refl _ _ | refine Below.drew ?_ | refine Below.setCell ?_ (by first | omega | (simp; done) | (simp; omega)) _ | refine Below.alloc ?_ (by first | omega | (simp; done) | (simp; omega)) _)) (Below.mono (B' := w.heap.size) HB (by first | omega | (simp; done) | (simp; omega)))
  try (have z3w0 : w.heap.size < w3.heap.size := (by omega))
  try (have z3w1 : w.heap.size + 1 < w3.heap.size := (by omega))
  try (have z3w2 : w.heap.size + 1 + 1 < w3.heap.size := (by omega))
  try (have z3w3 : w.heap.size + 1 + 1 + 1 < w3.heap.size := (by omega))
  try (have z3w4 : w.heap.size + 1 + 1 + 1 + 1 < w3.heap.size := (by omega))
  try (have z3w10 : w1.heap.size < w3.heap.size := (by omega))
  try (have z3w11 : w1.heap.size + 1 < w3.heap.size := (by omega))
  try (have z3w12 : w1.heap.size + 1 + 1 < w3.heap.size := (by omega))
  try (have z3w13 : w1.heap.size + 1 + 1 + 1 < w3.heap.size := (by omega))
  try (have z3w14 : w1.heap.size + 1 + 1 + 1 + 1 < w3.heap.size := (by omega))
  try (have z3w20 : w2.heap.size < w3.heap.size := (by omega))
  try (have z3w21 : w2.heap.size + 1 < w3.heap.size := (by omega))
  try (have z3w22 : w2.heap.size + 1 + 1 < w3.heap.size := (by omega))
  try (have z3w23 : w2.heap.size + 1 + 1 + 1 < w3.heap.size := (by omega))
  try (have z3w24 : w2.heap.size + 1 + 1 + 1 + 1 < w3.heap.size := (by omega))
  clear HB
  go_wp2_with (fail)
  refine bodyPost_ret (v := .tuple #[.agg #[.int .i64 x, .int .i64 y], .bool true]) (by first | (simp [results, Tryd.results14, go_sem]; done) | (simp only [results, Tryd.results14]; go_simp; done) | (simp only [results, Tryd.results14]; go_simp; omega)) rfl (⟨rfl, by repeat (first | with_reducible assumption | exact Below.refl _ _ | refine Below.drew ?_ | refine Below.setCell ?_ (by first | omega | (simp; done) | (simp; omega)) _ | refine Below.alloc ?_ (by first | omega | (simp; done) | (simp; omega)) _)⟩)
/-- what two spans have together -/
def meetB (a b c d : Int) : Bool := decide (a ≤ b) && decide (c ≤ d) && decide (mx a c ≤ mn b d)
def meetL (a b c d : Int) : Int := if a ≤ b ∧ c ≤ d ∧ mx a c ≤ mn b d then mx a c else 0
def meetH (a b c d : Int) : Int := if a ≤ b ∧ c ≤ d ∧ mx a c ≤ mn b d then mn b d else 0
theorem sp_meet (a b c d : Int) (w : World) : Calls Tryd.prog 14 #[.agg #[.int .i64 a, .int .i64 b], .agg #[.int .i64 c, .int .i64 d]] w fun e w' => e = .returned (.tuple #[.agg #[.int .i64 (meetL a b c d), .int .i64 (meetH a b c d)], .bool (meetB a b c d)]) ∧ Below w.heap.size w w' := by
  unfold meetL meetH meetB
  by_cases h1 : a ≤ b
  · by_cases h2 : c ≤ d
    · by_cases h3 : mx a c ≤ mn b d
      · rw [if_pos ⟨h1, h2, h3⟩, if_pos ⟨h1, h2, h3⟩, decide_eq_true h1, decide_eq_true h2, decide_eq_true h3]
        exact sp_meet_d a b c d _ _ w rfl rfl h1 h2 h3
      · rw [if_neg (fun h => h3 h.2.2), if_neg (fun h => h3 h.2.2), decide_eq_true h1, decide_eq_true h2, decide_eq_false h3]
        exact sp_meet_c a b c d _ _ w rfl rfl h1 h2 (Int.not_le.1 h3)
    · rw [if_neg (fun h => h2 h.2.1), if_neg (fun h => h2 h.2.1), decide_eq_true h1, decide_eq_false h2]
      exact sp_meet_b a b c d _ _ w rfl rfl h1 (by omega)
  · rw [if_neg (fun h => h1 h.1), if_neg (fun h => h1 h.1), decide_eq_false h1]
    exact sp_meet_a a b c d _ _ w rfl rfl (by omega)
theorem rs13_in (a b : Int) (w : World) (ha : InR a) (hb : InR b) (h : InR (a + b)) : Calls Tryd.prog 61 #[.int .i64 a, .int .i64 b] w fun e w' => e = .returned (.tuple #[.int .i64 (a + b), .int .i64 0]) ∧ Below w.heap.size w w' := by
  refine (rsum_c a b w ha hb).mono ?_
  rintro e w' (⟨h', rfl, rfl⟩ | ⟨h', rfl, rfl⟩ | ⟨h', rfl, rfl⟩)
  · exact ⟨rfl, Below.refl _ _⟩
  · exfalso; omega
  · exfalso; omega
theorem rs13_hi (a b : Int) (w : World) (ha : InR a) (hb : InR b) (h : 9223372036854775807 < a + b) : Calls Tryd.prog 61 #[.int .i64 a, .int .i64 b] w fun e w' => e = .returned (.tuple #[.int .i64 (0), .int .i64 1]) ∧ Below w.heap.size w w' := by
  refine (rsum_c a b w ha hb).mono ?_
  rintro e w' (⟨h', rfl, rfl⟩ | ⟨h', rfl, rfl⟩ | ⟨h', rfl, rfl⟩)
  · exfalso; omega
  · exact ⟨rfl, Below.refl _ _⟩
  · exfalso; omega
theorem rs13_lo (a b : Int) (w : World) (ha : InR a) (hb : InR b) (h : a + b < -9223372036854775808) : Calls Tryd.prog 61 #[.int .i64 a, .int .i64 b] w fun e w' => e = .returned (.tuple #[.int .i64 (0), .int .i64 (-1)]) ∧ Below w.heap.size w w' := by
  refine (rsum_c a b w ha hb).mono ?_
  rintro e w' (⟨h', rfl, rfl⟩ | ⟨h', rfl, rfl⟩ | ⟨h', rfl, rfl⟩)
  · exfalso; omega
  · exfalso; omega
  · exact ⟨rfl, Below.refl _ _⟩
theorem rl13_in (a b : Int) (w : World) (ha : InR a) (hb : InR b) (h : InR (a - b)) : Calls Tryd.prog 59 #[.int .i64 a, .int .i64 b] w fun e w' => e = .returned (.tuple #[.int .i64 (a - b), .int .i64 0]) ∧ Below w.heap.size w w' := by
  refine (rless_c a b w ha hb).mono ?_
  rintro e w' (⟨h', rfl, rfl⟩ | ⟨h', rfl, rfl⟩ | ⟨h', rfl, rfl⟩)
  · exact ⟨rfl, Below.refl _ _⟩
  · exfalso; omega
  · exfalso; omega
theorem rl13_hi (a b : Int) (w : World) (ha : InR a) (hb : InR b) (h : 9223372036854775807 < a - b) : Calls Tryd.prog 59 #[.int .i64 a, .int .i64 b] w fun e w' => e = .returned (.tuple #[.int .i64 (0), .int .i64 1]) ∧ Below w.heap.size w w' := by
  refine (rless_c a b w ha hb).mono ?_
  rintro e w' (⟨h', rfl, rfl⟩ | ⟨h', rfl, rfl⟩ | ⟨h', rfl, rfl⟩)
  · exfalso; omega
  · exact ⟨rfl, Below.refl _ _⟩
  · exfalso; omega
theorem rl13_lo (a b : Int) (w : World) (ha : InR a) (hb : InR b) (h : a - b < -9223372036854775808) : Calls Tryd.prog 59 #[.int .i64 a, .int .i64 b] w fun e w' => e = .returned (.tuple #[.int .i64 (0), .int .i64 (-1)]) ∧ Below w.heap.size w w' := by
  refine (rless_c a b w ha hb).mono ?_
  rintro e w' (⟨h', rfl, rfl⟩ | ⟨h', rfl, rfl⟩ | ⟨h', rfl, rfl⟩)
  · exfalso; omega
  · exfalso; omega
  · exact ⟨rfl, Below.refl _ _⟩
theorem sat_i {n : Int} (h : InR n) : sat n = n := by unfold sat; rw [if_neg (by omega), if_neg (by omega)]
theorem sat_h {n : Int} (h : 9223372036854775807 < n) : sat n = 9223372036854775807 := by unfold sat; rw [if_pos h]
theorem sat_l {n : Int} (h : n < -9223372036854775808) : sat n = -9223372036854775808 := by unfold sat; rw [if_neg (by omega), if_pos h]
set_option maxHeartbeats 1000000 in
theorem rb13_in (a : Int) (w : World) : Calls Tryd.prog 60 #[.int .i64 a, .int .i64 0] w fun e w' => e = .returned (.int .i64 a) ∧ Below w.heap.size w w' := by
  have hB := Below.refl w.heap.size w
  go_enter Tryd.func60, Tryd.ntmps60
  go_wp2_with (fail)
  go_ret
  exact ⟨rfl, by repeat (first | with_reducible assumption | exact Below.refl _ _ | refine Below.drew ?_ | refine Below.setCell ?_ (by first | omega | (simp; done) | (simp; omega)) _ | refine Below.alloc ?_ (by first | omega | (simp; done) | (simp; omega)) _)⟩
set_option maxHeartbeats 1000000 in
theorem rb13_hi (a : Int) (w : World) : Calls Tryd.prog 60 #[.int .i64 a, .int .i64 1] w fun e w' => e = .returned (.int .i64 9223372036854775807) ∧ Below w.heap.size w w' := by
  have hB := Below.refl w.heap.size w
  go_enter Tryd.func60, Tryd.ntmps60
  go_wp2_with (fail)
  go_ret
  exact ⟨rfl, by repeat (first | with_reducible assumption | exact Below.refl _ _ | refine Below.drew ?_ | refine Below.setCell ?_ (by first | omega | (simp; done) | (simp; omega)) _ | refine Below.alloc ?_ (by first | omega | (simp; done) | (simp; omega)) _)⟩
set_option maxHeartbeats 1000000 in
theorem rb13_lo (a : Int) (w : World) : Calls Tryd.prog 60 #[.int .i64 a, .int .i64 (-1)] w fun e w' => e = .returned (.int .i64 (-9223372036854775808)) ∧ Below w.heap.size w w' := by
  have hB := Below.refl w.heap.size w
  go_enter Tryd.func60, Tryd.ntmps60
  go_wp2_with (fail)
  go_ret
  exact ⟨rfl, by repeat (first | with_reducible assumption | exact Below.refl _ _ | refine Below.drew ?_ | refine Below.setCell ?_ (by first | omega | (simp; done) | (simp; omega)) _ | refine Below.alloc ?_ (by first | omega | (simp; done) | (simp; omega)) _)⟩
set_option maxHeartbeats 1000000 in
theorem rmid_in (lo hi : Int) (w : World) (h : lo ≤ hi) (l0 : InR lo) (l1 : InR hi) (hx : InR (hi - (lo + (hi - lo) / 2))) : Calls Tryd.prog 21 #[.agg #[.int .i64 lo, .int .i64 hi]] w fun e w' => e = .returned (.tuple #[.int .i64 (lo + (hi - lo) / 2), .int .i64 (hi - (lo + (hi - lo) / 2))]) ∧ Below w.heap.size w w' := by
  have hB := Below.refl w.heap.size w
  have e1 : lo / 2 + hi / 2 + (lo % 2 + hi % 2) / 2 = lo + (hi - lo) / 2 := by omega
  obtain ⟨M, hM⟩ : ∃ M, lo + (hi - lo) / 2 = M := ⟨_, rfl⟩
  rw [hM] at e1 ⊢
  have hm0 : lo ≤ M := by omega
  have hm1 : M ≤ hi := by omega
  have hl0 : 0 ≤ lo % 2 := by omega
  have hl1 : lo % 2 ≤ 1 := by omega
  have hh0 : 0 ≤ hi % 2 := by omega
  have hh1 : hi % 2 ≤ 1 := by omega
  have ha0 : -4611686018427387904 ≤ lo / 2 := by omega
  have ha1 : lo / 2 ≤ 4611686018427387903 := by omega
  have hb0 : -4611686018427387904 ≤ hi / 2 := by omega
  have hb1 : hi / 2 ≤ 4611686018427387903 := by omega
  have kw1 : wrap64 (lo / 2 + hi / 2) = lo / 2 + hi / 2 := IntWalk.wrap64_in _ (by omega)
  have kw2 : wrap64 (lo % 2 + hi % 2) = lo % 2 + hi % 2 := IntWalk.wrap64_in _ (by omega)
  have kw3 : (lo % 2 + hi % 2).tdiv 2 = (lo % 2 + hi % 2) / 2 := Int.tdiv_eq_ediv_of_nonneg (by omega)
  have kw4 : wrap64 M = M := IntWalk.wrap64_in _ (by omega)
  have kw5 : wrap64 ((lo % 2 + hi % 2) / 2) = (lo % 2 + hi % 2) / 2 := IntWalk.wrap64_in _ (by omega)
  clear hM
  go_enter Tryd.func21, Tryd.ntmps21
  go_wp2_with (fail)
  go_at_call 58
  (with_reducible refine (rdiv_ok lo 2 _ (by omega) (by omega) (by omega)).mono ?_)
  rintro e w1 ⟨rfl, HB⟩
  obtain ⟨hc1, hf1⟩ := bcell HB
  have hz1 := HB.size
  try simp at hz1
  replace hB := Below.trans (show Below w.heap.size w _ from by repeat (first | with_reducible assumption | exact Below.refl _ _ | refine Below.drew ?_ | refine Below.setCell ?_ (by first | omega | (simp; done) | (simp; omega)) _ | refine Below.alloc ?_ (by first | omega | (simp; done) | (simp; omega)) _)) (Below.mono (B' := w.heap.size) HB (by first | omega | (simp; done) | (simp; omega)))
  try (have z1w0 : w.heap.size < w1.heap.size := (by omega))
  try (have z1w1 : w.heap.size + 1 < w1.heap.size := (by omega))
  try (have z1w2 : w.heap.size + 1 + 1 < w1.heap.size := (by omega))
  clear HB
  go_wp2_with (fail)
  go_at_call 58
  (with_reducible refine (rdiv_ok hi 2 _ (by omega) (by omega) (by omega)).mono ?_)
  rintro e w2 ⟨rfl, HB⟩
  obtain ⟨hc2, hf2⟩ := bcell HB
  have hz2 := HB.size
  try simp at hz2
  replace hB := Below.trans (show Below w.heap.size w _ from by repeat (first | with_reducible assumption | exact Below.refl _ _ | refine Below.drew ?_ | refine Below.setCell ?_ (by first | omega | (simp; done) | (simp; omega)) _ | refine Below.alloc ?_ (by first | omega | (simp; done) | (simp; omega)) _)) (Below.mono (B' := w.heap.size) HB (by first | omega | (simp; done) | (simp; omega)))
  try (have z2w0 : w.heap.size < w2.heap.size := (by omega))
  try (have z2w1 : w.heap.size + 1 < w2.heap.size := (by omega))
  try (have z2w2 : w.heap.size + 1 + 1 < w2.heap.size := (by omega))
  try (have z2w10 : w1.heap.size < w2.heap.size := (by omega))
  try (have z2w11 : w1.heap.size + 1 < w2.heap.size := (by omega))
  try (have z2w12 : w1.heap.size + 1 + 1 < w2.heap.size := (by omega))
  clear HB
  go_wp2_with (fail)
  go_at_call 59
  (with_reducible refine (rl13_in hi M _ l1 (by omega) (by omega)).mono ?_)
  rintro e w3 ⟨rfl, HB⟩
  obtain ⟨hc3, hf3⟩ := bcell HB
  have hz3 := HB.size
  try simp at hz3
  replace hB := Below.trans (show Below w.heap.size w _ from by repeat (first | with_reducible assumption | exact Below.refl _ _ | refine Below.drew ?_ | refine Below.setCell ?_ (by first | omega | (simp; done) | (simp; omega)) _ | refine Below.alloc ?_ (by first | omega | (simp; done) | (simp; omega)) _)) (Below.mono (B' := w.heap.size) HB (by first | omega | (simp; done) | (simp; omega)))
  try (have z3w0 : w.heap.size < w3.heap.size := (by omega))
  try (have z3w1 : w.heap.size + 1 < w3.heap.size := (by omega))
  try (have z3w2 : w.heap.size + 1 + 1 < w3.heap.size := (by omega))
  try (have z3w10 : w1.heap.size < w3.heap.size := (by omega))
  try (have z3w11 : w1.heap.size + 1 < w3.heap.size := (by omega))
  try (have z3w12 : w1.heap.size + 1 + 1 < w3.heap.size := (by omega))
  try (have z3w20 : w2.heap.size < w3.heap.size := (by omega))
  try (have z3w21 : w2.heap.size + 1 < w3.heap.size := (by omega))
  try (have z3w22 : w2.heap.size + 1 + 1 < w3.heap.size := (by omega))
  clear HB
  go_wp2_with (fail)
  go_at_call 60
  (with_reducible refine (rb13_in _ _).mono ?_)
  rintro e w4 ⟨rfl, HB⟩
  obtain ⟨hc4, hf4⟩ := bcell HB
  have hz4 := HB.size
  try simp at hz4
  replace hB := Below.trans (show Below w.heap.size w _ from by repeat (first | with_reducible assumption | exact Below.refl _ _ | refine Below.drew ?_ | refine Below.setCell ?_ (by first | omega | (simp; done) | (simp; omega)) _ | refine Below.alloc ?_ (by first | omega | (simp; done) | (simp; omega)) _)) (Below.mono (B' := w.heap.size) HB (by first | omega | (simp; done) | (simp; omega)))
  try (have z4w0 : w.heap.size < w4.heap.size := (by omega))
  try (have z4w1 : w.heap.size + 1 < w4.heap.size := (by omega))
  try (have z4w2 : w.heap.size + 1 + 1 < w4.heap.size := (by omega))
  try (have z4w10 : w1.heap.size < w4.heap.size := (by omega))
  try (have z4w11 : w1.heap.size + 1 < w4.heap.size := (by omega))
  try (have z4w12 : w1.heap.size + 1 + 1 < w4.heap.size := (by omega))
  try (have z4w20 : w2.heap.size < w4.heap.size := (by omega))
  try (have z4w21 : w2.heap.size + 1 < w4.heap.size := (by omega))
  try (have z4w22 : w2.heap.size + 1 + 1 < w4.heap.size := (by omega))
  try (have z4w30 : w3.heap.size < w4.heap.size := (by omega))
  try (have z4w31 : w3.heap.size + 1 < w4.heap.size := (by omega))
  try (have z4w32 : w3.heap.size + 1 + 1 < w4.heap.size := (by omega))
  clear HB
  go_wp2_with (fail)
  go_ret2
  exact ⟨rfl, by repeat (first | with_reducible assumption | exact Below.refl _ _ | refine Below.drew ?_ | refine Below.setCell ?_ (by first | omega | (simp; done) | (simp; omega)) _ | refine Below.alloc ?_ (by first | omega | (simp; done) | (simp; omega)) _)⟩
set_option maxHeartbeats 1000000 in
theorem rmid_hi (lo hi : Int) (w : World) (h : lo ≤ hi) (l0 : InR lo) (l1 : InR hi) (hx : 9223372036854775807 < hi - (lo + (hi - lo) / 2)) : Calls Tryd.prog 21 #[.agg #[.int .i64 lo, .int .i64 hi]] w fun e w' => e = .returned (.tuple #[.int .i64 (lo + (hi - lo) / 2), .int .i64 (9223372036854775807)]) ∧ Below w.heap.size w w' := by
  have hB := Below.refl w.heap.size w
  have e1 : lo / 2 + hi / 2 + (lo % 2 + hi % 2) / 2 = lo + (hi - lo) / 2 := by omega
  obtain ⟨M, hM⟩ : ∃ M, lo + (hi - lo) / 2 = M := ⟨_, rfl⟩
  rw [hM] at e1 ⊢
  have hm0 : lo ≤ M := by omega
  have hm1 : M ≤ hi := by omega
  have hl0 : 0 ≤ lo % 2 := by omega
  have hl1 : lo % 2 ≤ 1 := by omega
  have hh0 : 0 ≤ hi % 2 := by omega
  have hh1 : hi % 2 ≤ 1 := by omega
  have ha0 : -4611686018427387904 ≤ lo / 2 := by omega
  have ha1 : lo / 2 ≤ 4611686018427387903 := by omega
  have hb0 : -4611686018427387904 ≤ hi / 2 := by omega
  have hb1 : hi / 2 ≤ 4611686018427387903 := by omega
  have kw1 : wrap64 (lo / 2 + hi / 2) = lo / 2 + hi / 2 := IntWalk.wrap64_in _ (by omega)
  have kw2 : wrap64 (lo % 2 + hi % 2) = lo % 2 + hi % 2 := IntWalk.wrap64_in _ (by omega)
  have kw3 : (lo % 2 + hi % 2).tdiv 2 = (lo % 2 + hi % 2) / 2 := Int.tdiv_eq_ediv_of_nonneg (by omega)
  have kw4 : wrap64 M = M := IntWalk.wrap64_in _ (by omega)
  have kw5 : wrap64 ((lo % 2 + hi % 2) / 2) = (lo % 2 + hi % 2) / 2 := IntWalk.wrap64_in _ (by omega)
  clear hM
  go_enter Tryd.func21, Tryd.ntmps21
  go_wp2_with (fail)
  go_at_call 58
  (with_reducible refine (rdiv_ok lo 2 _ (by omega) (by omega) (by omega)).mono ?_)
  rintro e w1 ⟨rfl, HB⟩
  obtain ⟨hc1, hf1⟩ := bcell HB
  have hz1 := HB.size
  try simp at hz1
  replace hB := Below.trans (show Below w.heap.size w _ from by repeat (first | with_reducible assumption | exact Below.refl _ _ | refine Below.drew ?_ | refine Below.setCell ?_ (by first | omega | (simp; done) | (simp; omega)) _ | refine Below.alloc ?_ (by first | omega | (simp; done) | (simp; omega)) _)) (Below.mono (B' := w.heap.size) HB (by first | omega | (simp; done) | (simp; omega)))
  try (have z1w0 : w.heap.size < w1.heap.size := (by omega))
  try (have z1w1 : w.heap.size + 1 < w1.heap.size := (by omega))
  try (have z1w2 : w.heap.size + 1 + 1 < w1.heap.size := (by omega))
  clear HB
  go_wp2_with (fail)
  go_at_call 58
  (with_reducible refine (rdiv_ok hi 2 _ (by omega) (by omega) (by omega)).mono ?_)
  rintro e w2 ⟨rfl, HB⟩
  obtain ⟨hc2, hf2⟩ := bcell HB
  have hz2 := HB.size
  try simp at hz2
  replace hB := Below.trans (show Below w.heap.size w _ from by repeat (first | with_reducible assumption | exact Below.refl _ _ | refine Below.drew ?_ | refine Below.setCell ?_ (by first | omega | (simp; done) | (simp; omega)) _ | refine Below.alloc ?_ (by first | omega | (simp; done) | (simp; omega)) _)) (Below.mono (B' := w.heap.size) HB (by first | omega | (simp; done) | (simp; omega)))
  try (have z2w0 : w.heap.size < w2.heap.size := (by omega))
  try (have z2w1 : w.heap.size + 1 < w2.heap.size := (by omega))
  try (have z2w2 : w.heap.size + 1 + 1 < w2.heap.size := (by omega))
  try (have z2w10 : w1.heap.size < w2.heap.size := (by omega))
  try (have z2w11 : w1.heap.size + 1 < w2.heap.size := (by omega))
  try (have z2w12 : w1.heap.size + 1 + 1 < w2.heap.size := (by omega))
  clear HB
  go_wp2_with (fail)
  go_at_call 59
  (with_reducible refine (rl13_hi hi M _ l1 (by omega) (by omega)).mono ?_)
  rintro e w3 ⟨rfl, HB⟩
  obtain ⟨hc3, hf3⟩ := bcell HB
  have hz3 := HB.size
  try simp at hz3
  replace hB := Below.trans (show Below w.heap.size w _ from by repeat (first | with_reducible assumption | exact Below.refl _ _ | refine Below.drew ?_ | refine Below.setCell ?_ (by first | omega | (simp; done) | (simp; omega)) _ | refine Below.alloc ?_ (by first | omega | (simp; done) | (simp; omega)) _)) (Below.mono (B' := w.heap.size) HB (by first | omega | (simp; done) | (simp; omega)))
  try (have z3w0 : w.heap.size < w3.heap.size := (by omega))
  try (have z3w1 : w.heap.size + 1 < w3.heap.size := (by omega))
  try (have z3w2 : w.heap.size + 1 + 1 < w3.heap.size := (by omega))
  try (have z3w10 : w1.heap.size < w3.heap.size := (by omega))
  try (have z3w11 : w1.heap.size + 1 < w3.heap.size := (by omega))
  try (have z3w12 : w1.heap.size + 1 + 1 < w3.heap.size := (by omega))
  try (have z3w20 : w2.heap.size < w3.heap.size := (by omega))
  try (have z3w21 : w2.heap.size + 1 < w3.heap.size := (by omega))
  try (have z3w22 : w2.heap.size + 1 + 1 < w3.heap.size := (by omega))
  clear HB
  go_wp2_with (fail)
  go_at_call 60
  (with_reducible refine (rb13_hi _ _).mono ?_)
  rintro e w4 ⟨rfl, HB⟩
  obtain ⟨hc4, hf4⟩ := bcell HB
  have hz4 := HB.size
  try simp at hz4
  replace hB := Below.trans (show Below w.heap.size w _ from by repeat (first | with_reducible assumption | exact Below.refl _ _ | refine Below.drew ?_ | refine Below.setCell ?_ (by first | omega | (simp; done) | (simp; omega)) _ | refine Below.alloc ?_ (by first | omega | (simp; done) | (simp; omega)) _)) (Below.mono (B' := w.heap.size) HB (by first | omega | (simp; done) | (simp; omega)))
  try (have z4w0 : w.heap.size < w4.heap.size := (by omega))
  try (have z4w1 : w.heap.size + 1 < w4.heap.size := (by omega))
  try (have z4w2 : w.heap.size + 1 + 1 < w4.heap.size := (by omega))
  try (have z4w10 : w1.heap.size < w4.heap.size := (by omega))
  try (have z4w11 : w1.heap.size + 1 < w4.heap.size := (by omega))
  try (have z4w12 : w1.heap.size + 1 + 1 < w4.heap.size := (by omega))
  try (have z4w20 : w2.heap.size < w4.heap.size := (by omega))
  try (have z4w21 : w2.heap.size + 1 < w4.heap.size := (by omega))
  try (have z4w22 : w2.heap.size + 1 + 1 < w4.heap.size := (by omega))
  try (have z4w30 : w3.heap.size < w4.heap.size := (by omega))
  try (have z4w31 : w3.heap.size + 1 < w4.heap.size := (by omega))
  try (have z4w32 : w3.heap.size + 1 + 1 < w4.heap.size := (by omega))
  clear HB
  go_wp2_with (fail)
  go_ret2
  exact ⟨rfl, by repeat (first | with_reducible assumption | exact Below.refl _ _ | refine Below.drew ?_ | refine Below.setCell ?_ (by first | omega | (simp; done) | (simp; omega)) _ | refine Below.alloc ?_ (by first | omega | (simp; done) | (simp; omega)) _)⟩
theorem rmid (lo hi : Int) (w : World) (h : lo ≤ hi) (l0 : InR lo) (l1 : InR hi) : Calls Tryd.prog 21 #[.agg #[.int .i64 lo, .int .i64 hi]] w fun e w' => e = .returned (.tuple #[.int .i64 (lo + (hi - lo) / 2), .int .i64 (sat (hi - (lo + (hi - lo) / 2)))]) ∧ Below w.heap.size w w' := by
  by_cases hx : InR (hi - (lo + (hi - lo) / 2))
  · rw [sat_i hx]; exact rmid_in lo hi w h l0 l1 hx
  · rw [sat_h (by omega)]; exact rmid_hi lo hi w h l0 l1 (by omega)
set_option maxHeartbeats 1000000 in
theorem rgr_in_in (lo hi n : Int) (w : World) (h0 : 0 ≤ n) (l0 : InR lo) (l1 : InR hi) (l2 : InR n) (hx : InR (lo - n)) (hy : InR (hi + n)) : Calls Tryd.prog 22 #[.agg #[.int .i64 lo, .int .i64 hi], .int .i64 n] w fun e w' => e = .returned (.agg #[.int .i64 (lo - n), .int .i64 (hi + n)]) ∧ Below w.heap.size w w' := by
  have hB := Below.refl w.heap.size w
  go_enter Tryd.func22, Tryd.ntmps22
  go_wp2_with (fail)
  go_at_call 59
  (with_reducible refine (rl13_in lo n _ l0 l2 (by omega)).mono ?_)
  rintro e w1 ⟨rfl, HB⟩
  obtain ⟨hc1, hf1⟩ := bcell HB
  have hz1 := HB.size
  try simp at hz1
  replace hB := Below.trans (show Below w.heap.size w _ from by repeat (first | with_reducible assumption | exact Below.refl _ _ | refine Below.drew ?_ | refine Below.setCell ?_ (by first | omega | (simp; done) | (simp; omega)) _ | refine Below.alloc ?_ (by first | omega | (simp; done) | (simp; omega)) _)) (Below.mono (B' := w.heap.size) HB (by first | omega | (simp; done) | (simp; omega)))
  try (have z1w0 : w.heap.size < w1.heap.size := (by omega))
  try (have z1w1 : w.heap.size + 1 < w1.heap.size := (by omega))
  try (have z1w2 : w.heap.size + 1 + 1 < w1.heap.size := (by omega))
  clear HB
  go_wp2_with (fail)
  go_at_call 61
  (with_reducible refine (rs13_in hi n _ l1 l2 (by omega)).mono ?_)
  rintro e w2 ⟨rfl, HB⟩
  obtain ⟨hc2, hf2⟩ := bcell HB
  have hz2 := HB.size
  try simp at hz2
  replace hB := Below.trans (show Below w.heap.size w _ from by repeat (first | with_reducible assumption | exact Below.refl _ _ | refine Below.drew ?_ | refine Below.setCell ?_ (by first | omega | (simp; done) | (simp; omega)) _ | refine Below.alloc ?_ (by first | omega | (simp; done) | (simp; omega)) _)) (Below.mono (B' := w.heap.size) HB (by first | omega | (simp; done) | (simp; omega)))
  try (have z2w0 : w.heap.size < w2.heap.size := (by omega))
  try (have z2w1 : w.heap.size + 1 < w2.heap.size := (by omega))
  try (have z2w2 : w.heap.size + 1 + 1 < w2.heap.size := (by omega))
  try (have z2w10 : w1.heap.size < w2.heap.size := (by omega))
  try (have z2w11 : w1.heap.size + 1 < w2.heap.size := (by omega))
  try (have z2w12 : w1.heap.size + 1 + 1 < w2.heap.size := (by omega))
  clear HB
  go_wp2_with (fail)
  go_at_call 60
  (with_reducible refine (rb13_in _ _).mono ?_)
  rintro e w3 ⟨rfl, HB⟩
  obtain ⟨hc3, hf3⟩ := bcell HB
  have hz3 := HB.size
  try simp at hz3
  replace hB := Below.trans (show Below w.heap.size w _ from by repeat (first | with_reducible assumption | exact Below.refl _ _ | refine Below.drew ?_ | refine Below.setCell ?_ (by first | omega | (simp; done) | (simp; omega)) _ | refine Below.alloc ?_ (by first | omega | (simp; done) | (simp; omega)) _)) (Below.mono (B' := w.heap.size) HB (by first | omega | (simp; done) | (simp; omega)))
  try (have z3w0 : w.heap.size < w3.heap.size := (by omega))
  try (have z3w1 : w.heap.size + 1 < w3.heap.size := (by omega))
  try (have z3w2 : w.heap.size + 1 + 1 < w3.heap.size := (by omega))
  try (have z3w10 : w1.heap.size < w3.heap.size := (by omega))
  try (have z3w11 : w1.heap.size + 1 < w3.heap.size := (by omega))
  try (have z3w12 : w1.heap.size + 1 + 1 < w3.heap.size := (by omega))
  try (have z3w20 : w2.heap.size < w3.heap.size := (by omega))
  try (have z3w21 : w2.heap.size + 1 < w3.heap.size := (by omega))
  try (have z3w22 : w2.heap.size + 1 + 1 < w3.heap.size := (by omega))
  clear HB
  go_wp2_with (fail)
  go_at_call 60
  (with_reducible refine (rb13_in _ _).mono ?_)
  rintro e w4 ⟨rfl, HB⟩
  obtain ⟨hc4, hf4⟩ := bcell HB
  have hz4 := HB.size
  try simp at hz4
  replace hB := Below.trans (show Below w.heap.size w _ from by repeat (first | with_reducible assumption | exact Below.refl _ _ | refine Below.drew ?_ | refine Below.setCell ?_ (by first | omega | (simp; done) | (simp; omega)) _ | refine Below.alloc ?_ (by first | omega | (simp; done) | (simp; omega)) _)) (Below.mono (B' := w.heap.size) HB (by first | omega | (simp; done) | (simp; omega)))
  try (have z4w0 : w.heap.size < w4.heap.size := (by omega))
  try (have z4w1 : w.heap.size + 1 < w4.heap.size := (by omega))
  try (have z4w2 : w.heap.size + 1 + 1 < w4.heap.size := (by omega))
  try (have z4w10 : w1.heap.size < w4.heap.size := (by omega))
  try (have z4w11 : w1.heap.size + 1 < w4.heap.size := (by omega))
  try (have z4w12 : w1.heap.size + 1 + 1 < w4.heap.size := (by omega))
  try (have z4w20 : w2.heap.size < w4.heap.size := (by omega))
  try (have z4w21 : w2.heap.size + 1 < w4.heap.size := (by omega))
  try (have z4w22 : w2.heap.size + 1 + 1 < w4.heap.size := (by omega))
  try (have z4w30 : w3.heap.size < w4.heap.size := (by omega))
  try (have z4w31 : w3.heap.size + 1 < w4.heap.size := (by omega))
  try (have z4w32 : w3.heap.size + 1 + 1 < w4.heap.size := (by omega))
  clear HB
  go_wp2_with (fail)
  refine bodyPost_ret (v := .agg #[.int .i64 (lo - n), .int .i64 (hi + n)]) (by first | (simp [results, Tryd.results22, go_sem]; done) | (simp only [results, Tryd.results22]; go_simp; done) | (simp only [results, Tryd.results22]; go_simp; omega)) rfl (⟨rfl, by repeat (first | with_reducible assumption | exact Below.refl _ _ | refine Below.drew ?_ | refine Below.setCell ?_ (by first | omega | (simp; done) | (simp; omega)) _ | refine Below.alloc ?_ (by first | omega | (simp; done) | (simp; omega)) _)⟩)
set_option maxHeartbeats 1000000 in
theorem rgr_in_hi (lo hi n : Int) (w : World) (h0 : 0 ≤ n) (l0 : InR lo) (l1 : InR hi) (l2 : InR n) (hx : InR (lo - n)) (hy : 9223372036854775807 < hi + n) : Calls Tryd.prog 22 #[.agg #[.int .i64 lo, .int .i64 hi], .int .i64 n] w fun e w' => e = .returned (.agg #[.int .i64 (lo - n), .int .i64 (9223372036854775807)]) ∧ Below w.heap.size w w' := by
  have hB := Below.refl w.heap.size w
  go_enter Tryd.func22, Tryd.ntmps22
  go_wp2_with (fail)
  go_at_call 59
  (with_reducible refine (rl13_in lo n _ l0 l2 (by omega)).mono ?_)
  rintro e w1 ⟨rfl, HB⟩
  obtain ⟨hc1, hf1⟩ := bcell HB
  have hz1 := HB.size
  try simp at hz1
  replace hB := Below.trans (show Below w.heap.size w _ from by repeat (first | with_reducible assumption | exact Below.refl _ _ | refine Below.drew ?_ | refine Below.setCell ?_ (by first | omega | (simp; done) | (simp; omega)) _ | refine Below.alloc ?_ (by first | omega | (simp; done) | (simp; omega)) _)) (Below.mono (B' := w.heap.size) HB (by first | omega | (simp; done) | (simp; omega)))
  try (have z1w0 : w.heap.size < w1.heap.size := (by omega))
  try (have z1w1 : w.heap.size + 1 < w1.heap.size := (by omega))
  try (have z1w2 : w.heap.size + 1 + 1 < w1.heap.size := (by omega))
  clear HB
  go_wp2_with (fail)
  go_at_call 61
  (with_reducible refine (rs13_hi hi n _ l1 l2 (by omega)).mono ?_)
  rintro e w2 ⟨rfl, HB⟩
  obtain ⟨hc2, hf2⟩ := bcell HB
  have hz2 := HB.size
  try simp at hz2
  replace hB := Below.trans (show Below w.heap.size w _ from by repeat (first | with_reducible assumption | exact Below.refl _ _ | refine Below.drew ?_ | refine Below.setCell ?_ (by first | omega | (simp; done) | (simp; omega)) _ | refine Below.alloc ?_ (by first | omega | (simp; done) | (simp; omega)) _)) (Below.mono (B' := w.heap.size) HB (by first | omega | (simp; done) | (simp; omega)))
  try (have z2w0 : w.heap.size < w2.heap.size := (by omega))
  try (have z2w1 : w.heap.size + 1 < w2.heap.size := (by omega))
  try (have z2w2 : w.heap.size + 1 + 1 < w2.heap.size := (by omega))
  try (have z2w10 : w1.heap.size < w2.heap.size := (by omega))
  try (have z2w11 : w1.heap.size + 1 < w2.heap.size := (by omega))
  try (have z2w12 : w1.heap.size + 1 + 1 < w2.heap.size := (by omega))
  clear HB
  go_wp2_with (fail)
  go_at_call 60
  (with_reducible refine (rb13_in _ _).mono ?_)
  rintro e w3 ⟨rfl, HB⟩
  obtain ⟨hc3, hf3⟩ := bcell HB
  have hz3 := HB.size
  try simp at hz3
  replace hB := Below.trans (show Below w.heap.size w _ from by repeat (first | with_reducible assumption | exact Below.refl _ _ | refine Below.drew ?_ | refine Below.setCell ?_ (by first | omega | (simp; done) | (simp; omega)) _ | refine Below.alloc ?_ (by first | omega | (simp; done) | (simp; omega)) _)) (Below.mono (B' := w.heap.size) HB (by first | omega | (simp; done) | (simp; omega)))
  try (have z3w0 : w.heap.size < w3.heap.size := (by omega))
  try (have z3w1 : w.heap.size + 1 < w3.heap.size := (by omega))
  try (have z3w2 : w.heap.size + 1 + 1 < w3.heap.size := (by omega))
  try (have z3w10 : w1.heap.size < w3.heap.size := (by omega))
  try (have z3w11 : w1.heap.size + 1 < w3.heap.size := (by omega))
  try (have z3w12 : w1.heap.size + 1 + 1 < w3.heap.size := (by omega))
  try (have z3w20 : w2.heap.size < w3.heap.size := (by omega))
  try (have z3w21 : w2.heap.size + 1 < w3.heap.size := (by omega))
  try (have z3w22 : w2.heap.size + 1 + 1 < w3.heap.size := (by omega))
  clear HB
  go_wp2_with (fail)
  go_at_call 60
  (with_reducible refine (rb13_hi _ _).mono ?_)
  rintro e w4 ⟨rfl, HB⟩
  obtain ⟨hc4, hf4⟩ := bcell HB
  have hz4 := HB.size
  try simp at hz4
  replace hB := Below.trans (show Below w.heap.size w _ from by repeat (first | with_reducible assumption | exact Below.refl _ _ | refine Below.drew ?_ | refine Below.setCell ?_ (by first | omega | (simp; done) | (simp; omega)) _ | refine Below.alloc ?_ (by first | omega | (simp; done) | (simp; omega)) _)) (Below.mono (B' := w.heap.size) HB (by first | omega | (simp; done) | (simp; omega)))
  try (have z4w0 : w.heap.size < w4.heap.size := (by omega))
  try (have z4w1 : w.heap.size + 1 < w4.heap.size := (by omega))
  try (have z4w2 : w.heap.size + 1 + 1 < w4.heap.size := (by omega))
  try (have z4w10 : w1.heap.size < w4.heap.size := (by omega))
  try (have z4w11 : w1.heap.size + 1 < w4.heap.size := (by omega))
  try (have z4w12 : w1.heap.size + 1 + 1 < w4.heap.size := (by omega))
  try (have z4w20 : w2.heap.size < w4.heap.size := (by omega))
  try (have z4w21 : w2.heap.size + 1 < w4.heap.size := (by omega))
  try (have z4w22 : w2.heap.size + 1 + 1 < w4.heap.size := (by omega))
  try (have z4w30 : w3.heap.size < w4.heap.size := (by omega))
  try (have z4w31 : w3.heap.size + 1 < w4.heap.size := (by omega))
  try (have z4w32 : w3.heap.size + 1 + 1 < w4.heap.size := (by omega))
  clear HB
  go_wp2_with (fail)
  refine bodyPost_ret (v := .agg #[.int .i64 (lo - n), .int .i64 (9223372036854775807)]) (by first | (simp [results, Tryd.results22, go_sem]; done) | (simp only [results, Tryd.results22]; go_simp; done) | (simp only [results, Tryd.results22]; go_simp; omega)) rfl (⟨rfl, by repeat (first | with_reducible assumption | exact Below.refl _ _ | refine Below.drew ?_ | refine Below.setCell ?_ (by first | omega | (simp; done) | (simp; omega)) _ | refine Below.alloc ?_ (by first | omega | (simp; done) | (simp; omega)) _)⟩)
set_option maxHeartbeats 1000000 in
theorem rgr_lo_in (lo hi n : Int) (w : World) (h0 : 0 ≤ n) (l0 : InR lo) (l1 : InR hi) (l2 : InR n) (hx : lo - n < -9223372036854775808) (hy : InR (hi + n)) : Calls Tryd.prog 22 #[.agg #[.int .i64 lo, .int .i64 hi], .int .i64 n] w fun e w' => e = .returned (.agg #[.int .i64 (-9223372036854775808), .int .i64 (hi + n)]) ∧ Below w.heap.size w w' := by
  have hB := Below.refl w.heap.size w
  go_enter Tryd.func22, Tryd.ntmps22
  go_wp2_with (fail)
  go_at_call 59
  (with_reducible refine (rl13_lo lo n _ l0 l2 (by omega)).mono ?_)
  rintro e w1 ⟨rfl, HB⟩
  obtain ⟨hc1, hf1⟩ := bcell HB
  have hz1 := HB.size
  try simp at hz1
  replace hB := Below.trans (show Below w.heap.size w _ from by repeat (first | with_reducible assumption | exact Below.refl _ _ | refine Below.drew ?_ | refine Below.setCell ?_ (by first | omega | (simp; done) | (simp; omega)) _ | refine Below.alloc ?_ (by first | omega | (simp; done) | (simp; omega)) _)) (Below.mono (B' := w.heap.size) HB (by first | omega | (simp; done) | (simp; omega)))
  try (have z1w0 : w.heap.size < w1.heap.size := (by omega))
  try (have z1w1 : w.heap.size + 1 < w1.heap.size := (by omega))
  try (have z1w2 : w.heap.size + 1 + 1 < w1.heap.size := (by omega))
  clear HB
  go_wp2_with (fail)
  go_at_call 61
  (with_reducible refine (rs13_in hi n _ l1 l2 (by omega)).mono ?_)
  rintro e w2 ⟨rfl, HB⟩
  obtain ⟨hc2, hf2⟩ := bcell HB
  have hz2 := HB.size
  try simp at hz2
  replace hB := Below.trans (show Below w.heap.size w _ from by repeat (first | with_reducible assumption | exact Below.refl _ _ | refine Below.drew ?_ | refine Below.setCell ?_ (by first | omega | (simp; done) | (simp; omega)) _ | refine Below.alloc ?_ (by first | omega | (simp; done) | (simp; omega)) _)) (Below.mono (B' := w.heap.size) HB (by first | omega | (simp; done) | (simp; omega)))
  try (have z2w0 : w.heap.size < w2.heap.size := (by omega))
  try (have z2w1 : w.heap.size + 1 < w2.heap.size := (by omega))
  try (have z2w2 : w.heap.size + 1 + 1 < w2.heap.size := (by omega))
  try (have z2w10 : w1.heap.size < w2.heap.size := (by omega))
  try (have z2w11 : w1.heap.size + 1 < w2.heap.size := (by omega))
  try (have z2w12 : w1.heap.size + 1 + 1 < w2.heap.size := (by omega))
  clear HB
  go_wp2_with (fail)
  go_at_call 60
  (with_reducible refine (rb13_lo _ _).mono ?_)
  rintro e w3 ⟨rfl, HB⟩
  obtain ⟨hc3, hf3⟩ := bcell HB
  have hz3 := HB.size
  try simp at hz3
  replace hB := Below.trans (show Below w.heap.size w _ from by repeat (first | with_reducible assumption | exact Below.refl _ _ | refine Below.drew ?_ | refine Below.setCell ?_ (by first | omega | (simp; done) | (simp; omega)) _ | refine Below.alloc ?_ (by first | omega | (simp; done) | (simp; omega)) _)) (Below.mono (B' := w.heap.size) HB (by first | omega | (simp; done) | (simp; omega)))
  try (have z3w0 : w.heap.size < w3.heap.size := (by omega))
  try (have z3w1 : w.heap.size + 1 < w3.heap.size := (by omega))
  try (have z3w2 : w.heap.size + 1 + 1 < w3.heap.size := (by omega))
  try (have z3w10 : w1.heap.size < w3.heap.size := (by omega))
  try (have z3w11 : w1.heap.size + 1 < w3.heap.size := (by omega))
  try (have z3w12 : w1.heap.size + 1 + 1 < w3.heap.size := (by omega))
  try (have z3w20 : w2.heap.size < w3.heap.size := (by omega))
  try (have z3w21 : w2.heap.size + 1 < w3.heap.size := (by omega))
  try (have z3w22 : w2.heap.size + 1 + 1 < w3.heap.size := (by omega))
  clear HB
  go_wp2_with (fail)
  go_at_call 60
  (with_reducible refine (rb13_in _ _).mono ?_)
  rintro e w4 ⟨rfl, HB⟩
  obtain ⟨hc4, hf4⟩ := bcell HB
  have hz4 := HB.size
  try simp at hz4
  replace hB := Below.trans (show Below w.heap.size w _ from by repeat (first | with_reducible assumption | exact Below.refl _ _ | refine Below.drew ?_ | refine Below.setCell ?_ (by first | omega | (simp; done) | (simp; omega)) _ | refine Below.alloc ?_ (by first | omega | (simp; done) | (simp; omega)) _)) (Below.mono (B' := w.heap.size) HB (by first | omega | (simp; done) | (simp; omega)))
  try (have z4w0 : w.heap.size < w4.heap.size := (by omega))
  try (have z4w1 : w.heap.size + 1 < w4.heap.size := (by omega))
  try (have z4w2 : w.heap.size + 1 + 1 < w4.heap.size := (by omega))
  try (have z4w10 : w1.heap.size < w4.heap.size := (by omega))
  try (have z4w11 : w1.heap.size + 1 < w4.heap.size := (by omega))
  try (have z4w12 : w1.heap.size + 1 + 1 < w4.heap.size := (by omega))
  try (have z4w20 : w2.heap.size < w4.heap.size := (by omega))
  try (have z4w21 : w2.heap.size + 1 < w4.heap.size := (by omega))
  try (have z4w22 : w2.heap.size + 1 + 1 < w4.heap.size := (by omega))
  try (have z4w30 : w3.heap.size < w4.heap.size := (by omega))
  try (have z4w31 : w3.heap.size + 1 < w4.heap.size := (by omega))
  try (have z4w32 : w3.heap.size + 1 + 1 < w4.heap.size := (by omega))
  clear HB
  go_wp2_with (fail)
  refine bodyPost_ret (v := .agg #[.int .i64 (-9223372036854775808), .int .i64 (hi + n)]) (by first | (simp [results, Tryd.results22, go_sem]; done) | (simp only [results, Tryd.results22]; go_simp; done) | (simp only [results, Tryd.results22]; go_simp; omega)) rfl (⟨rfl, by repeat (first | with_reducible assumption | exact Below.refl _ _ | refine Below.drew ?_ | refine Below.setCell ?_ (by first | omega | (simp; done) | (simp; omega)) _ | refine Below.alloc ?_ (by first | omega | (simp; done) | (simp; omega)) _)⟩)
set_option maxHeartbeats 1000000 in
theorem rgr_lo_hi (lo hi n : Int) (w : World) (h0 : 0 ≤ n) (l0 : InR lo) (l1 : InR hi) (l2 : InR n) (hx : lo - n < -9223372036854775808) (hy : 9223372036854775807 < hi + n) : Calls Tryd.prog 22 #[.agg #[.int .i64 lo, .int .i64 hi], .int .i64 n] w fun e w' => e = .returned (.agg #[.int .i64 (-9223372036854775808), .int .i64 (9223372036854775807)]) ∧ Below w.heap.size w w' := by
  have hB := Below.refl w.heap.size w
  go_enter Tryd.func22, Tryd.ntmps22
  go_wp2_with (fail)
  go_at_call 59
  (with_reducible refine (rl13_lo lo n _ l0 l2 (by omega)).mono ?_)
  rintro e w1 ⟨rfl, HB⟩
  obtain ⟨hc1, hf1⟩ := bcell HB
  have hz1 := HB.size
  try simp at hz1
  replace hB := Below.trans (show Below w.heap.size w _ from by repeat (first | with_reducible assumption | exact Below.refl _ _ | refine Below.drew ?_ | refine Below.setCell ?_ (by first | omega | (simp; done) | (simp; omega)) _ | refine Below.alloc ?_ (by first | omega | (simp; done) | (simp; omega)) _)) (Below.mono (B' := w.heap.size) HB (by first | omega | (simp; done) | (simp; omega)))
  try (have z1w0 : w.heap.size < w1.heap.size := (by omega))
  try (have z1w1 : w.heap.size + 1 < w1.heap.size := (by omega))
  try (have z1w2 : w.heap.size + 1 + 1 < w1.heap.size := (by omega))
  clear HB
  go_wp2_with (fail)
  go_at_call 61
  (with_reducible refine (rs13_hi hi n _ l1 l2 (by omega)).mono ?_)
  rintro e w2 ⟨rfl, HB⟩
  obtain ⟨hc2, hf2⟩ := bcell HB
  have hz2 := HB.size
  try simp at hz2
  replace hB := Below.trans (show Below w.heap.size w _ from by repeat (first | with_reducible assumption | exact Below.refl _ _ | refine Below.drew ?_ | refine Below.setCell ?_ (by first | omega | (simp; done) | (simp; omega)) _ | refine Below.alloc ?_ (by first | omega | (simp; done) | (simp; omega)) _)) (Below.mono (B' := w.heap.size) HB (by first | omega | (simp; done) | (simp; omega)))
  try (have z2w0 : w.heap.size < w2.heap.size := (by omega))
  try (have z2w1 : w.heap.size + 1 < w2.heap.size := (by omega))
  try (have z2w2 : w.heap.size + 1 + 1 < w2.heap.size := (by omega))
  try (have z2w10 : w1.heap.size < w2.heap.size := (by omega))
  try (have z2w11 : w1.heap.size + 1 < w2.heap.size := (by omega))
  try (have z2w12 : w1.heap.size + 1 + 1 < w2.heap.size := (by omega))
  clear HB
  go_wp2_with (fail)
  go_at_call 60
  (with_reducible refine (rb13_lo _ _).mono ?_)
  rintro e w3 ⟨rfl, HB⟩
  obtain ⟨hc3, hf3⟩ := bcell HB
  have hz3 := HB.size
  try simp at hz3
  replace hB := Below.trans (show Below w.heap.size w _ from by repeat (first | with_reducible assumption | exact Below.refl _ _ | refine Below.drew ?_ | refine Below.setCell ?_ (by first | omega | (simp; done) | (simp; omega)) _ | refine Below.alloc ?_ (by first | omega | (simp; done) | (simp; omega)) _)) (Below.mono (B' := w.heap.size) HB (by first | omega | (simp; done) | (simp; omega)))
  try (have z3w0 : w.heap.size < w3.heap.size := (by omega))
  try (have z3w1 : w.heap.size + 1 < w3.heap.size := (by omega))
  try (have z3w2 : w.heap.size + 1 + 1 < w3.heap.size := (by omega))
  try (have z3w10 : w1.heap.size < w3.heap.size := (by omega))
  try (have z3w11 : w1.heap.size + 1 < w3.heap.size := (by omega))
  try (have z3w12 : w1.heap.size + 1 + 1 < w3.heap.size := (by omega))
  try (have z3w20 : w2.heap.size < w3.heap.size := (by omega))
  try (have z3w21 : w2.heap.size + 1 < w3.heap.size := (by omega))
  try (have z3w22 : w2.heap.size + 1 + 1 < w3.heap.size := (by omega))
  clear HB
  go_wp2_with (fail)
  go_at_call 60
  (with_reducible refine (rb13_hi _ _).mono ?_)
  rintro e w4 ⟨rfl, HB⟩
  obtain ⟨hc4, hf4⟩ := bcell HB
  have hz4 := HB.size
  try simp at hz4
  replace hB := Below.trans (show Below w.heap.size w _ from by repeat (first | with_reducible assumption | exact Below.refl _ _ | refine Below.drew ?_ | refine Below.setCell ?_ (by first | omega | (simp; done) | (simp; omega)) _ | refine Below.alloc ?_ (by first | omega | (simp; done) | (simp; omega)) _)) (Below.mono (B' := w.heap.size) HB (by first | omega | (simp; done) | (simp; omega)))
  try (have z4w0 : w.heap.size < w4.heap.size := (by omega))
  try (have z4w1 : w.heap.size + 1 < w4.heap.size := (by omega))
  try (have z4w2 : w.heap.size + 1 + 1 < w4.heap.size := (by omega))
  try (have z4w10 : w1.heap.size < w4.heap.size := (by omega))
  try (have z4w11 : w1.heap.size + 1 < w4.heap.size := (by omega))
  try (have z4w12 : w1.heap.size + 1 + 1 < w4.heap.size := (by omega))
  try (have z4w20 : w2.heap.size < w4.heap.size := (by omega))
  try (have z4w21 : w2.heap.size + 1 < w4.heap.size := (by omega))
  try (have z4w22 : w2.heap.size + 1 + 1 < w4.heap.size := (by omega))
  try (have z4w30 : w3.heap.size < w4.heap.size := (by omega))
  try (have z4w31 : w3.heap.size + 1 < w4.heap.size := (by omega))
  try (have z4w32 : w3.heap.size + 1 + 1 < w4.heap.size := (by omega))
  clear HB
  go_wp2_with (fail)
  refine bodyPost_ret (v := .agg #[.int .i64 (-9223372036854775808), .int .i64 (9223372036854775807)]) (by first | (simp [results, Tryd.results22, go_sem]; done) | (simp only [results, Tryd.results22]; go_simp; done) | (simp only [results, Tryd.results22]; go_simp; omega)) rfl (⟨rfl, by repeat (first | with_reducible assumption | exact Below.refl _ _ | refine Below.drew ?_ | refine Below.setCell ?_ (by first | omega | (simp; done) | (simp; omega)) _ | refine Below.alloc ?_ (by first | omega | (simp; done) | (simp; omega)) _)⟩)
theorem rgrow13 (lo hi n : Int) (w : World) (h0 : 0 ≤ n) (l0 : InR lo) (l1 : InR hi) (l2 : InR n) : Calls Tryd.prog 22 #[.agg #[.int .i64 lo, .int .i64 hi], .int .i64 n] w fun e w' => e = .returned (.agg #[.int .i64 (sat (lo - n)), .int .i64 (sat (hi + n))]) ∧ Below w.heap.size w w' := by
  by_cases hx : InR (lo - n)
  · by_cases hy : InR (hi + n)
    · rw [sat_i hx, sat_i hy]; exact rgr_in_in lo hi n w h0 l0 l1 l2 hx hy
    · rw [sat_i hx, sat_h (n := hi + n) (by omega)]; exact rgr_in_hi lo hi n w h0 l0 l1 l2 hx (by omega)
  · by_cases hy : InR (hi + n)
    · rw [sat_l (n := lo - n) (by omega), sat_i hy]; exact rgr_lo_in lo hi n w h0 l0 l1 l2 (by omega) hy
    · rw [sat_l (n := lo - n) (by omega), sat_h (n := hi + n) (by omega)]; exact rgr_lo_hi lo hi n w h0 l0 l1 l2 (by omega) (by omega)
end Go.Proofs.YtgkpbokipnfddaaDoor
