/-
  Layer 13: spans, one by one, and by the reference.
-/
import Derived.Test.YtffdglhdklmjoaaDoorV01
import Derived.Deep.RegionHeld3
import Derived.Deep.RegionWith
import Derived.RegionTactic
import Derived.WalkLawsBesides
namespace Go.Proofs.YtffdglhdklmjoaaDoor
open Go.RowKit Go.Extern.Stop Go.Stop Go.Extern
set_option linter.unusedVariables false
set_option linter.unusedSimpArgs false
set_option maxHeartbeats 1000000 in
theorem sp_check_ok (lo hi : Int) (w : World) (h : lo ≤ hi) : Calls Tryd.prog 135 #[.agg #[.int .i64 lo, .int .i64 hi]] w fun e w' => e = .returned (.nilIface) ∧ Below w.heap.size w w' := by
  have hB := Below.refl w.heap.size w
  go_enter Tryd.func135, Tryd.ntmps135
  go_wp2_with (fail)
  go_ret
  exact ⟨rfl, by repeat (first | with_reducible assumption | exact Below.refl _ _ | refine Below.drew ?_ | refine Below.setCell ?_ (by first | omega | (simp; done) | (simp; omega)) _ | refine Below.alloc ?_ (by first | omega | (simp; done) | (simp; omega)) _)⟩
set_option maxHeartbeats 1000000 in
theorem sp_check_no (lo hi : Int) (w : World) (h : hi < lo) : Calls Tryd.prog 135 #[.agg #[.int .i64 lo, .int .i64 hi]] w fun e w' => e = .returned (errV 1) ∧ Below w.heap.size w w' := by
  have hB := Below.refl w.heap.size w
  go_enter Tryd.func135, Tryd.ntmps135
  go_wp2_with (fail)
  go_ret
  exact ⟨rfl, by repeat (first | with_reducible assumption | exact Below.refl _ _ | refine Below.drew ?_ | refine Below.setCell ?_ (by first | omega | (simp; done) | (simp; omega)) _ | refine Below.alloc ?_ (by first | omega | (simp; done) | (simp; omega)) _)⟩
def hasB (lo hi n : Int) : Bool := decide (lo ≤ n) && decide (n ≤ hi)
set_option maxHeartbeats 1000000 in
theorem sp_has_yes (lo hi n : Int) (w : World) (h1 : lo ≤ n) (h2 : n ≤ hi) : Calls Tryd.prog 92 #[.agg #[.int .i64 lo, .int .i64 hi], .int .i64 n] w fun e w' => e = .returned (.bool true) ∧ Below w.heap.size w w' := by
  have hB := Below.refl w.heap.size w
  have hd1 : decide (lo ≤ n) = true := decide_eq_true h1
  have hd2 : decide (n ≤ hi) = true := decide_eq_true h2
  go_enter Tryd.func92, Tryd.ntmps92
  go_wp2_with (fail)
  go_ret
  exact ⟨rfl, by repeat (first | with_reducible assumption | exact Below.refl _ _ | refine Below.drew ?_ | refine Below.setCell ?_ (by first | omega | (simp; done) | (simp; omega)) _ | refine Below.alloc ?_ (by first | omega | (simp; done) | (simp; omega)) _)⟩
set_option maxHeartbeats 1000000 in
theorem sp_has_lo (lo hi n : Int) (w : World) (h1 : n < lo) : Calls Tryd.prog 92 #[.agg #[.int .i64 lo, .int .i64 hi], .int .i64 n] w fun e w' => e = .returned (.bool false) ∧ Below w.heap.size w w' := by
  have hB := Below.refl w.heap.size w
  have hd1 : decide (lo ≤ n) = false := decide_eq_false (by omega)
  go_enter Tryd.func92, Tryd.ntmps92
  go_wp2_with (fail)
  go_ret
  exact ⟨rfl, by repeat (first | with_reducible assumption | exact Below.refl _ _ | refine Below.drew ?_ | refine Below.setCell ?_ (by first | omega | (simp; done) | (simp; omega)) _ | refine Below.alloc ?_ (by first | omega | (simp; done) | (simp; omega)) _)⟩
set_option maxHeartbeats 1000000 in
theorem sp_has_hi (lo hi n : Int) (w : World) (h1 : lo ≤ n) (h2 : hi < n) : Calls Tryd.prog 92 #[.agg #[.int .i64 lo, .int .i64 hi], .int .i64 n] w fun e w' => e = .returned (.bool false) ∧ Below w.heap.size w w' := by
  have hB := Below.refl w.heap.size w
  have hd1 : decide (lo ≤ n) = true := decide_eq_true h1
  have hd2 : decide (n ≤ hi) = false := decide_eq_false (by omega)
  go_enter Tryd.func92, Tryd.ntmps92
  go_wp2_with (fail)
  go_ret
  exact ⟨rfl, by repeat (first | with_reducible assumption | exact Below.refl _ _ | refine Below.drew ?_ | refine Below.setCell ?_ (by first | omega | (simp; done) | (simp; omega)) _ | refine Below.alloc ?_ (by first | omega | (simp; done) | (simp; omega)) _)⟩
theorem sp_has (lo hi n : Int) (w : World) : Calls Tryd.prog 92 #[.agg #[.int .i64 lo, .int .i64 hi], .int .i64 n] w fun e w' => e = .returned (.bool (hasB lo hi n)) ∧ Below w.heap.size w w' := by
  unfold hasB
  by_cases h1 : lo ≤ n
  · by_cases h2 : n ≤ hi
    · rw [decide_eq_true h1, decide_eq_true h2]; exact sp_has_yes lo hi n w h1 h2
    · rw [decide_eq_true h1, decide_eq_false h2]; exact sp_has_hi lo hi n w h1 (by omega)
  · rw [decide_eq_false h1, Bool.false_and]; exact sp_has_lo lo hi n w (by omega)
set_option maxHeartbeats 1000000 in
theorem sp_grow (lo hi n : Int) (w : World) (h : lo ≤ hi) (h0 : 0 ≤ n) (l0 : InR lo) (l1 : InR hi) (l2 : InR n) : Calls Tryd.prog 117 #[.agg #[.int .i64 lo, .int .i64 hi], .int .i64 n] w fun e w' => e = .returned (.tuple #[.agg #[.int .i64 (sat (lo - n)), .int .i64 (sat (hi + n))], .nilIface]) ∧ Below w.heap.size w w' := by
  have hB := Below.refl w.heap.size w
  go_enter Tryd.func117, Tryd.ntmps117
  go_wp2_with (fail)
  go_at_call 135
  (with_reducible refine (sp_check_ok _ _ _ h).mono ?_)
  rintro e w1 ⟨rfl, HB⟩
  obtain ⟨hc1, hf1⟩ := bcell HB
  have hz1 := HB.size
  try simp at hz1
  replace hB := Below.trans (show Below w.heap.size w _ from by repeat (first | with_reducible assumption | exact Below.refl _ _ | refine Below.drew ?_ | refine Below.setCell ?_ (by first | omega | (simp; done) | (simp; omega)) _ | refine Below.alloc ?_ (by first | omega | (simp; done) | (simp; omega)) _)) (Below.mono (B' := w.heap.size) HB (by first | omega | (simp; done) | (simp; omega)))
  try (have z1w0 : w.heap.size < w1.heap.size := (by omega))
  try (have z1w1 : w.heap.size + 1 < w1.heap.size := (by omega))
  try (have z1w2 : w.heap.size + 1 + 1 < w1.heap.size := (by omega))
  clear HB
  go_wp2_with (fail)
  go_region_with (first | (go_at_call 125; (with_reducible refine (subsat_s _ _ _ (by omega) (by omega)).mono ?_); rintro e w' ⟨rfl, rfl⟩) | (go_at_call 120; (with_reducible refine (addsat_s _ _ _ (by omega) (by omega)).mono ?_); rintro e w' ⟨rfl, rfl⟩))
  all_goals go_wp2_with (fail)
  all_goals (refine bodyPost_ret (v := .tuple #[.agg #[.int .i64 (sat (lo - n)), .int .i64 (sat (hi + n))], .nilIface]) (by first | (simp [results, Tryd.results117, go_sem]; done) | (simp only [results, Tryd.results117]; go_simp; done) | (simp only [results, Tryd.results117]; go_simp; omega)) rfl (⟨rfl, by repeat (first | with_reducible assumption | exact Below.refl _ _ | refine Below.drew ?_ | refine Below.setCell ?_ (by first | omega | (simp; done) | (simp; omega)) _ | refine Below.alloc ?_ (by first | omega | (simp; done) | (simp; omega)) _)⟩))
set_option maxHeartbeats 1000000 in
theorem sp_grow_arg (lo hi n : Int) (w : World) (h : hi < lo) : Calls Tryd.prog 117 #[.agg #[.int .i64 lo, .int .i64 hi], .int .i64 n] w fun e w' => e = .returned (.tuple #[.agg #[.int .i64 0, .int .i64 0], errV 1]) ∧ Below w.heap.size w w' := by
  have hB := Below.refl w.heap.size w
  go_enter Tryd.func117, Tryd.ntmps117
  go_wp2_with (fail)
  go_at_call 135
  (with_reducible refine (sp_check_no _ _ _ h).mono ?_)
  rintro e w1 ⟨rfl, HB⟩
  obtain ⟨hc1, hf1⟩ := bcell HB
  have hz1 := HB.size
  try simp at hz1
  replace hB := Below.trans (show Below w.heap.size w _ from by repeat (first | with_reducible assumption | exact Below.refl _ _ | refine Below.drew ?_ | refine Below.setCell ?_ (by first | omega | (simp; done) | (simp; omega)) _ | refine Below.alloc ?_ (by first | omega | (simp; done) | (simp; omega)) _)) (Below.mono (B' := w.heap.size) HB (by first | omega | (simp; done) | (simp; omega)))
  try (have z1w0 : w.heap.size < w1.heap.size := (by omega))
  try (have z1w1 : w.heap.size + 1 < w1.heap.size := (by omega))
  try (have z1w2 : w.heap.size + 1 + 1 < w1.heap.size := (by omega))
  clear HB
  go_wp2_with (fail)
  refine bodyPost_ret (v := .tuple #[.agg #[.int .i64 0, .int .i64 0], errV 1]) (by first | (simp [results, Tryd.results117, go_sem]; done) | (simp only [results, Tryd.results117]; go_simp; done) | (simp only [results, Tryd.results117]; go_simp; omega)) rfl (⟨rfl, by repeat (first | with_reducible assumption | exact Below.refl _ _ | refine Below.drew ?_ | refine Below.setCell ?_ (by first | omega | (simp; done) | (simp; omega)) _ | refine Below.alloc ?_ (by first | omega | (simp; done) | (simp; omega)) _)⟩)
set_option maxHeartbeats 1000000 in
theorem sp_grow_neg (lo hi n : Int) (w : World) (h : lo ≤ hi) (hn : n < 0) : Calls Tryd.prog 117 #[.agg #[.int .i64 lo, .int .i64 hi], .int .i64 n] w fun e w' => e = .returned (.tuple #[.agg #[.int .i64 0, .int .i64 0], errV 1]) ∧ Below w.heap.size w w' := by
  have hB := Below.refl w.heap.size w
  go_enter Tryd.func117, Tryd.ntmps117
  go_wp2_with (fail)
  go_at_call 135
  (with_reducible refine (sp_check_ok _ _ _ h).mono ?_)
  rintro e w1 ⟨rfl, HB⟩
  obtain ⟨hc1, hf1⟩ := bcell HB
  have hz1 := HB.size
  try simp at hz1
  replace hB := Below.trans (show Below w.heap.size w _ from by repeat (first | with_reducible assumption | exact Below.refl _ _ | refine Below.drew ?_ | refine Below.setCell ?_ (by first | omega | (simp; done) | (simp; omega)) _ | refine Below.alloc ?_ (by first | omega | (simp; done) | (simp; omega)) _)) (Below.mono (B' := w.heap.size) HB (by first | omega | (simp; done) | (simp; omega)))
  try (have z1w0 : w.heap.size < w1.heap.size := (by omega))
  try (have z1w1 : w.heap.size + 1 < w1.heap.size := (by omega))
  try (have z1w2 : w.heap.size + 1 + 1 < w1.heap.size := (by omega))
  clear HB
  go_wp2_with (fail)
  refine bodyPost_ret (v := .tuple #[.agg #[.int .i64 0, .int .i64 0], errV 1]) (by first | (simp [results, Tryd.results117, go_sem]; done) | (simp only [results, Tryd.results117]; go_simp; done) | (simp only [results, Tryd.results117]; go_simp; omega)) rfl (⟨rfl, by repeat (first | with_reducible assumption | exact Below.refl _ _ | refine Below.drew ?_ | refine Below.setCell ?_ (by first | omega | (simp; done) | (simp; omega)) _ | refine Below.alloc ?_ (by first | omega | (simp; done) | (simp; omega)) _)⟩)
def mx (a c : Int) : Int := if a < c then c else a
def mn (b d : Int) : Int := if d < b then d else b
/-- what two spans have together -/
def meetB (a b c d : Int) : Bool := decide (a ≤ b) && decide (c ≤ d) && decide (mx a c ≤ mn b d)
def meetL (a b c d : Int) : Int := if a ≤ b ∧ c ≤ d ∧ mx a c ≤ mn b d then mx a c else 0
def meetH (a b c d : Int) : Int := if a ≤ b ∧ c ≤ d ∧ mx a c ≤ mn b d then mn b d else 0
theorem rs13_in (a b : Int) (w : World) (ha : InR a) (hb : InR b) (h : InR (a + b)) : Calls Tryd.prog 121 #[.int .i64 a, .int .i64 b] w fun e w' => e = .returned (.tuple #[.int .i64 (a + b), .int .i64 0]) ∧ Below w.heap.size w w' := by
  refine (rsum_c a b w ha hb).mono ?_
  rintro e w' (⟨h', rfl, rfl⟩ | ⟨h', rfl, rfl⟩ | ⟨h', rfl, rfl⟩)
  · exact ⟨rfl, Below.refl _ _⟩
  · exfalso; omega
  · exfalso; omega
theorem rs13_hi (a b : Int) (w : World) (ha : InR a) (hb : InR b) (h : 9223372036854775807 < a + b) : Calls Tryd.prog 121 #[.int .i64 a, .int .i64 b] w fun e w' => e = .returned (.tuple #[.int .i64 (0), .int .i64 1]) ∧ Below w.heap.size w w' := by
  refine (rsum_c a b w ha hb).mono ?_
  rintro e w' (⟨h', rfl, rfl⟩ | ⟨h', rfl, rfl⟩ | ⟨h', rfl, rfl⟩)
  · exfalso; omega
  · exact ⟨rfl, Below.refl _ _⟩
  · exfalso; omega
theorem rs13_lo (a b : Int) (w : World) (ha : InR a) (hb : InR b) (h : a + b < -9223372036854775808) : Calls Tryd.prog 121 #[.int .i64 a, .int .i64 b] w fun e w' => e = .returned (.tuple #[.int .i64 (0), .int .i64 (-1)]) ∧ Below w.heap.size w w' := by
  refine (rsum_c a b w ha hb).mono ?_
  rintro e w' (⟨h', rfl, rfl⟩ | ⟨h', rfl, rfl⟩ | ⟨h', rfl, rfl⟩)
  · exfalso; omega
  · exfalso; omega
  · exact ⟨rfl, Below.refl _ _⟩
theorem rl13_in (a b : Int) (w : World) (ha : InR a) (hb : InR b) (h : InR (a - b)) : Calls Tryd.prog 136 #[.int .i64 a, .int .i64 b] w fun e w' => e = .returned (.tuple #[.int .i64 (a - b), .int .i64 0]) ∧ Below w.heap.size w w' := by
  refine (rless_c a b w ha hb).mono ?_
  rintro e w' (⟨h', rfl, rfl⟩ | ⟨h', rfl, rfl⟩ | ⟨h', rfl, rfl⟩)
  · exact ⟨rfl, Below.refl _ _⟩
  · exfalso; omega
  · exfalso; omega
theorem rl13_hi (a b : Int) (w : World) (ha : InR a) (hb : InR b) (h : 9223372036854775807 < a - b) : Calls Tryd.prog 136 #[.int .i64 a, .int .i64 b] w fun e w' => e = .returned (.tuple #[.int .i64 (0), .int .i64 1]) ∧ Below w.heap.size w w' := by
  refine (rless_c a b w ha hb).mono ?_
  rintro e w' (⟨h', rfl, rfl⟩ | ⟨h', rfl, rfl⟩ | ⟨h', rfl, rfl⟩)
  · exfalso; omega
  · exact ⟨rfl, Below.refl _ _⟩
  · exfalso; omega
theorem rl13_lo (a b : Int) (w : World) (ha : InR a) (hb : InR b) (h : a - b < -9223372036854775808) : Calls Tryd.prog 136 #[.int .i64 a, .int .i64 b] w fun e w' => e = .returned (.tuple #[.int .i64 (0), .int .i64 (-1)]) ∧ Below w.heap.size w w' := by
  refine (rless_c a b w ha hb).mono ?_
  rintro e w' (⟨h', rfl, rfl⟩ | ⟨h', rfl, rfl⟩ | ⟨h', rfl, rfl⟩)
  · exfalso; omega
  · exfalso; omega
  · exact ⟨rfl, Below.refl _ _⟩
theorem sat_i {n : Int} (h : InR n) : sat n = n := by unfold sat; rw [if_neg (by omega), if_neg (by omega)]
theorem sat_h {n : Int} (h : 9223372036854775807 < n) : sat n = 9223372036854775807 := by unfold sat; rw [if_pos h]
theorem sat_l {n : Int} (h : n < -9223372036854775808) : sat n = -9223372036854775808 := by unfold sat; rw [if_neg (by omega), if_pos h]
set_option maxHeartbeats 1000000 in
theorem rb13_in (a : Int) (w : World) : Calls Tryd.prog 122 #[.int .i64 a, .int .i64 0] w fun e w' => e = .returned (.int .i64 a) ∧ Below w.heap.size w w' := by
  have hB := Below.refl w.heap.size w
  go_enter Tryd.func122, Tryd.ntmps122
  go_wp2_with (fail)
  go_ret
  exact ⟨rfl, by repeat (first | with_reducible assumption | exact Below.refl _ _ | refine Below.drew ?_ | refine Below.setCell ?_ (by first | omega | (simp; done) | (simp; omega)) _ | refine Below.alloc ?_ (by first | omega | (simp; done) | (simp; omega)) _)⟩
set_option maxHeartbeats 1000000 in
theorem rb13_hi (a : Int) (w : World) : Calls Tryd.prog 122 #[.int .i64 a, .int .i64 1] w fun e w' => e = .returned (.int .i64 9223372036854775807) ∧ Below w.heap.size w w' := by
  have hB := Below.refl w.heap.size w
  go_enter Tryd.func122, Tryd.ntmps122
  go_wp2_with (fail)
  go_ret
  exact ⟨rfl, by repeat (first | with_reducible assumption | exact Below.refl _ _ | refine Below.drew ?_ | refine Below.setCell ?_ (by first | omega | (simp; done) | (simp; omega)) _ | refine Below.alloc ?_ (by first | omega | (simp; done) | (simp; omega)) _)⟩
set_option maxHeartbeats 1000000 in
theorem rb13_lo (a : Int) (w : World) : Calls Tryd.prog 122 #[.int .i64 a, .int .i64 (-1)] w fun e w' => e = .returned (.int .i64 (-9223372036854775808)) ∧ Below w.heap.size w w' := by
  have hB := Below.refl w.heap.size w
  go_enter Tryd.func122, Tryd.ntmps122
  go_wp2_with (fail)
  go_ret
  exact ⟨rfl, by repeat (first | with_reducible assumption | exact Below.refl _ _ | refine Below.drew ?_ | refine Below.setCell ?_ (by first | omega | (simp; done) | (simp; omega)) _ | refine Below.alloc ?_ (by first | omega | (simp; done) | (simp; omega)) _)⟩
set_option maxHeartbeats 1000000 in
theorem rgr_in_in (lo hi n : Int) (w : World) (h0 : 0 ≤ n) (l0 : InR lo) (l1 : InR hi) (l2 : InR n) (hx : InR (lo - n)) (hy : InR (hi + n)) : Calls Tryd.prog 119 #[.agg #[.int .i64 lo, .int .i64 hi], .int .i64 n] w fun e w' => e = .returned (.agg #[.int .i64 (lo - n), .int .i64 (hi + n)]) ∧ Below w.heap.size w w' := by
  have hB := Below.refl w.heap.size w
  go_enter Tryd.func119, Tryd.ntmps119
  go_wp2_with (fail)
  go_at_call 136
  (with_reducible refine (rl13_in lo n _ l0 l2 (by omega)).mono ?_)
  rintro e w1 ⟨rfl, HB⟩
  obtain ⟨hc1, hf1⟩ := bcell HB
  have hz1 := HB.size
  try simp at hz1
  replace hB := Below.trans (show Below w.heap.size w _ from by repeat (first | with_reducible assumption | exact Below.refl _ _ | refine Below.drew ?_ | refine Below.setCell ?_ (by first | omega | (simp; done) | (simp; omega)) _ | refine Below.alloc ?_ (by first | omega | (simp; done) | (simp; omega)) _)) (Below.mono (B' := w.heap.size) HB (by first | omega | (simp; done) | (simp; omega)))
  try (have z1w0 : w.heap.size < w1.heap.size := (by omega))
  try (have z1w1 : w.heap.size + 1 < w1.heap.size := (by omega))
  try (have z1w2 : w.heap.size + 1 + 1 < w1.heap.size := (by omega))
  clear HB
  go_wp2_with (fail)
  go_at_call 121
  (with_reducible refine (rs13_in hi n _ l1 l2 (by omega)).mono ?_)
  rintro e w2 ⟨rfl, HB⟩
  obtain ⟨hc2, hf2⟩ := bcell HB
  have hz2 := HB.size
  try simp at hz2
  replace hB := Below.trans (show Below w.heap.size w _ from by repeat (first | with_reducible assumption | exact Below.refl _ _ | refine Below.drew ?_ | refine Below.setCell ?_ (by first | omega | (simp; done) | (simp; omega)) _ | refine Below.alloc ?_ (by first | omega | (simp; done) | (simp; omega)) _)) (Below.mono (B' := w.heap.size) HB (by first | omega | (simp; done) | (simp; omega)))
  try (have z2w0 : w.heap.size < w2.heap.size := (by omega))
  try (have z2w1 : w.heap.size + 1 < w2.heap.size := (by omega))
  try (have z2w2 : w.heap.size + 1 + 1 < w2.heap.size := (by omega))
  try (have z2w10 : w1.heap.size < w2.heap.size := (by omega))
  try (have z2w11 : w1.heap.size + 1 < w2.heap.size := (by omega))
  try (have z2w12 : w1.heap.size + 1 + 1 < w2.heap.size := (by omega))
  clear HB
  go_wp2_with (fail)
  go_at_call 122
  (with_reducible refine (rb13_in _ _).mono ?_)
  rintro e w3 ⟨rfl, HB⟩
  obtain ⟨hc3, hf3⟩ := bcell HB
  have hz3 := HB.size
  try simp at hz3
  replace hB := Below.trans (show Below w.heap.size w _ from by repeat (first | with_reducible assumption | exact Below.refl _ _ | refine Below.drew ?_ | refine Below.setCell ?_ (by first | omega | (simp; done) | (simp; omega)) _ | refine Below.alloc ?_ (by first | omega | (simp; done) | (simp; omega)) _)) (Below.mono (B' := w.heap.size) HB (by first | omega | (simp; done) | (simp; omega)))
  try (have z3w0 : w.heap.size < w3.heap.size := (by omega))
  try (have z3w1 : w.heap.size + 1 < w3.heap.size := (by omega))
  try (have z3w2 : w.heap.size + 1 + 1 < w3.heap.size := (by omega))
  try (have z3w10 : w1.heap.size < w3.heap.size := (by omega))
  try (have z3w11 : w1.heap.size + 1 < w3.heap.size := (by omega))
  try (have z3w12 : w1.heap.size + 1 + 1 < w3.heap.size := (by omega))
  try (have z3w20 : w2.heap.size < w3.heap.size := (by omega))
  try (have z3w21 : w2.heap.size + 1 < w3.heap.size := (by omega))
  try (have z3w22 : w2.heap.size + 1 + 1 < w3.heap.size := (by omega))
  clear HB
  go_wp2_with (fail)
  go_at_call 122
  (with_reducible refine (rb13_in _ _).mono ?_)
  rintro e w4 ⟨rfl, HB⟩
  obtain ⟨hc4, hf4⟩ := bcell HB
  have hz4 := HB.size
  try simp at hz4
  replace hB := Below.trans (show Below w.heap.size w _ from by repeat (first | with_reducible assumption | exact Below.refl _ _ | refine Below.drew ?_ | refine Below.setCell ?_ (by first | omega | (simp; done) | (simp; omega)) _ | refine Below.alloc ?_ (by first | omega | (simp; done) | (simp; omega)) _)) (Below.mono (B' := w.heap.size) HB (by first | omega | (simp; done) | (simp; omega)))
  try (have z4w0 : w.heap.size < w4.heap.size := (by omega))
  try (have z4w1 : w.heap.size + 1 < w4.heap.size := (by omega))
  try (have z4w2 : w.heap.size + 1 + 1 < w4.heap.size := (by omega))
  try (have z4w10 : w1.heap.size < w4.heap.size := (by omega))
  try (have z4w11 : w1.heap.size + 1 < w4.heap.size := (by omega))
  try (have z4w12 : w1.heap.size + 1 + 1 < w4.heap.size := (by omega))
  try (have z4w20 : w2.heap.size < w4.heap.size := (by omega))
  try (have z4w21 : w2.heap.size + 1 < w4.heap.size := (by omega))
  try (have z4w22 : w2.heap.size + 1 + 1 < w4.heap.size := (by omega))
  try (have z4w30 : w3.heap.size < w4.heap.size := (by omega))
  try (have z4w31 : w3.heap.size + 1 < w4.heap.size := (by omega))
  try (have z4w32 : w3.heap.size + 1 + 1 < w4.heap.size := (by omega))
  clear HB
  go_wp2_with (fail)
  refine bodyPost_ret (v := .agg #[.int .i64 (lo - n), .int .i64 (hi + n)]) (by first | (simp [results, Tryd.results119, go_sem]; done) | (simp only [results, Tryd.results119]; go_simp; done) | (simp only [results, Tryd.results119]; go_simp; omega)) rfl (⟨rfl, by repeat (first | with_reducible assumption | exact Below.refl _ _ | refine Below.drew ?_ | refine Below.setCell ?_ (by first | omega | (simp; done) | (simp; omega)) _ | refine Below.alloc ?_ (by first | omega | (simp; done) | (simp; omega)) _)⟩)
set_option maxHeartbeats 1000000 in
theorem rgr_in_hi (lo hi n : Int) (w : World) (h0 : 0 ≤ n) (l0 : InR lo) (l1 : InR hi) (l2 : InR n) (hx : InR (lo - n)) (hy : 9223372036854775807 < hi + n) : Calls Tryd.prog 119 #[.agg #[.int .i64 lo, .int .i64 hi], .int .i64 n] w fun e w' => e = .returned (.agg #[.int .i64 (lo - n), .int .i64 (9223372036854775807)]) ∧ Below w.heap.size w w' := by
  have hB := Below.refl w.heap.size w
  go_enter Tryd.func119, Tryd.ntmps119
  go_wp2_with (fail)
  go_at_call 136
  (with_reducible refine (rl13_in lo n _ l0 l2 (by omega)).mono ?_)
  rintro e w1 ⟨rfl, HB⟩
  obtain ⟨hc1, hf1⟩ := bcell HB
  have hz1 := HB.size
  try simp at hz1
  replace hB := Below.trans (show Below w.heap.size w _ from by repeat (first | with_reducible assumption | exact Below.refl _ _ | refine Below.drew ?_ | refine Below.setCell ?_ (by first | omega | (simp; done) | (simp; omega)) _ | refine Below.alloc ?_ (by first | omega | (simp; done) | (simp; omega)) _)) (Below.mono (B' := w.heap.size) HB (by first | omega | (simp; done) | (simp; omega)))
  try (have z1w0 : w.heap.size < w1.heap.size := (by omega))
  try (have z1w1 : w.heap.size + 1 < w1.heap.size := (by omega))
  try (have z1w2 : w.heap.size + 1 + 1 < w1.heap.size := (by omega))
  clear HB
  go_wp2_with (fail)
  go_at_call 121
  (with_reducible refine (rs13_hi hi n _ l1 l2 (by omega)).mono ?_)
  rintro e w2 ⟨rfl, HB⟩
  obtain ⟨hc2, hf2⟩ := bcell HB
  have hz2 := HB.size
  try simp at hz2
  replace hB := Below.trans (show Below w.heap.size w _ from by repeat (first | with_reducible assumption | exact Below.refl _ _ | refine Below.drew ?_ | refine Below.setCell ?_ (by first | omega | (simp; done) | (simp; omega)) _ | refine Below.alloc ?_ (by first | omega | (simp; done) | (simp; omega)) _)) (Below.mono (B' := w.heap.size) HB (by first | omega | (simp; done) | (simp; omega)))
  try (have z2w0 : w.heap.size < w2.heap.size := (by omega))
  try (have z2w1 : w.heap.size + 1 < w2.heap.size := (by omega))
  try (have z2w2 : w.heap.size + 1 + 1 < w2.heap.size := (by omega))
  try (have z2w10 : w1.heap.size < w2.heap.size := (by omega))
  try (have z2w11 : w1.heap.size + 1 < w2.heap.size := (by omega))
  try (have z2w12 : w1.heap.size + 1 + 1 < w2.heap.size := (by omega))
  clear HB
  go_wp2_with (fail)
  go_at_call 122
  (with_reducible refine (rb13_in _ _).mono ?_)
  rintro e w3 ⟨rfl, HB⟩
  obtain ⟨hc3, hf3⟩ := bcell HB
  have hz3 := HB.size
  try simp at hz3
  replace hB := Below.trans (show Below w.heap.size w _ from by repeat (first | with_reducible assumption | exact Below.refl _ _ | refine Below.drew ?_ | refine Below.setCell ?_ (by first | omega | (simp; done) | (simp; omega)) _ | refine Below.alloc ?_ (by first | omega | (simp; done) | (simp; omega)) _)) (Below.mono (B' := w.heap.size) HB (by first | omega | (simp; done) | (simp; omega)))
  try (have z3w0 : w.heap.size < w3.heap.size := (by omega))
  try (have z3w1 : w.heap.size + 1 < w3.heap.size := (by omega))
  try (have z3w2 : w.heap.size + 1 + 1 < w3.heap.size := (by omega))
  try (have z3w10 : w1.heap.size < w3.heap.size := (by omega))
  try (have z3w11 : w1.heap.size + 1 < w3.heap.size := (by omega))
  try (have z3w12 : w1.heap.size + 1 + 1 < w3.heap.size := (by omega))
  try (have z3w20 : w2.heap.size < w3.heap.size := (by omega))
  try (have z3w21 : w2.heap.size + 1 < w3.heap.size := (by omega))
  try (have z3w22 : w2.heap.size + 1 + 1 < w3.heap.size := (by omega))
  clear HB
  go_wp2_with (fail)
  go_at_call 122
  (with_reducible refine (rb13_hi _ _).mono ?_)
  rintro e w4 ⟨rfl, HB⟩
  obtain ⟨hc4, hf4⟩ := bcell HB
  have hz4 := HB.size
  try simp at hz4
  replace hB := Below.trans (show Below w.heap.size w _ from by repeat (first | with_reducible assumption | exact Below.refl _ _ | refine Below.drew ?_ | refine Below.setCell ?_ (by first | omega | (simp; done) | (simp; omega)) _ | refine Below.alloc ?_ (by first | omega | (simp; done) | (simp; omega)) _)) (Below.mono (B' := w.heap.size) HB (by first | omega | (simp; done) | (simp; omega)))
  try (have z4w0 : w.heap.size < w4.heap.size := (by omega))
  try (have z4w1 : w.heap.size + 1 < w4.heap.size := (by omega))
  try (have z4w2 : w.heap.size + 1 + 1 < w4.heap.size := (by omega))
  try (have z4w10 : w1.heap.size < w4.heap.size := (by omega))
  try (have z4w11 : w1.heap.size + 1 < w4.heap.size := (by omega))
  try (have z4w12 : w1.heap.size + 1 + 1 < w4.heap.size := (by omega))
  try (have z4w20 : w2.heap.size < w4.heap.size := (by omega))
  try (have z4w21 : w2.heap.size + 1 < w4.heap.size := (by omega))
  try (have z4w22 : w2.heap.size + 1 + 1 < w4.heap.size := (by omega))
  try (have z4w30 : w3.heap.size < w4.heap.size := (by omega))
  try (have z4w31 : w3.heap.size + 1 < w4.heap.size := (by omega))
  try (have z4w32 : w3.heap.size + 1 + 1 < w4.heap.size := (by omega))
  clear HB
  go_wp2_with (fail)
  refine bodyPost_ret (v := .agg #[.int .i64 (lo - n), .int .i64 (9223372036854775807)]) (by first | (simp [results, Tryd.results119, go_sem]; done) | (simp only [results, Tryd.results119]; go_simp; done) | (simp only [results, Tryd.results119]; go_simp; omega)) rfl (⟨rfl, by repeat (first | with_reducible assumption | exact Below.refl _ _ | refine Below.drew ?_ | refine Below.setCell ?_ (by first | omega | (simp; done) | (simp; omega)) _ | refine Below.alloc ?_ (by first | omega | (simp; done) | (simp; omega)) _)⟩)
set_option maxHeartbeats 1000000 in
theorem rgr_lo_in (lo hi n : Int) (w : World) (h0 : 0 ≤ n) (l0 : InR lo) (l1 : InR hi) (l2 : InR n) (hx : lo - n < -9223372036854775808) (hy : InR (hi + n)) : Calls Tryd.prog 119 #[.agg #[.int .i64 lo, .int .i64 hi], .int .i64 n] w fun e w' => e = .returned (.agg #[.int .i64 (-9223372036854775808), .int .i64 (hi + n)]) ∧ Below w.heap.size w w' := by
  have hB := Below.refl w.heap.size w
  go_enter Tryd.func119, Tryd.ntmps119
  go_wp2_with (fail)
  go_at_call 136
  (with_reducible refine (rl13_lo lo n _ l0 l2 (by omega)).mono ?_)
  rintro e w1 ⟨rfl, HB⟩
  obtain ⟨hc1, hf1⟩ := bcell HB
  have hz1 := HB.size
  try simp at hz1
  replace hB := Below.trans (show Below w.heap.size w _ from by repeat (first | with_reducible assumption | exact Below.refl _ _ | refine Below.drew ?_ | refine Below.setCell ?_ (by first | omega | (simp; done) | (simp; omega)) _ | refine Below.alloc ?_ (by first | omega | (simp; done) | (simp; omega)) _)) (Below.mono (B' := w.heap.size) HB (by first | omega | (simp; done) | (simp; omega)))
  try (have z1w0 : w.heap.size < w1.heap.size := (by omega))
  try (have z1w1 : w.heap.size + 1 < w1.heap.size := (by omega))
  try (have z1w2 : w.heap.size + 1 + 1 < w1.heap.size := (by omega))
  clear HB
  go_wp2_with (fail)
  go_at_call 121
  (with_reducible refine (rs13_in hi n _ l1 l2 (by omega)).mono ?_)
  rintro e w2 ⟨rfl, HB⟩
  obtain ⟨hc2, hf2⟩ := bcell HB
  have hz2 := HB.size
  try simp at hz2
  replace hB := Below.trans (show Below w.heap.size w _ from by repeat (first | with_reducible assumption | exact Below.refl _ _ | refine Below.drew ?_ | refine Below.setCell ?_ (by first | omega | (simp; done) | (simp; omega)) _ | refine Below.alloc ?_ (by first | omega | (simp; done) | (simp; omega)) _)) (Below.mono (B' := w.heap.size) HB (by first | omega | (simp; done) | (simp; omega)))
  try (have z2w0 : w.heap.size < w2.heap.size := (by omega))
  try (have z2w1 : w.heap.size + 1 < w2.heap.size := (by omega))
  try (have z2w2 : w.heap.size + 1 + 1 < w2.heap.size := (by omega))
  try (have z2w10 : w1.heap.size < w2.heap.size := (by omega))
  try (have z2w11 : w1.heap.size + 1 < w2.heap.size := (by omega))
  try (have z2w12 : w1.heap.size + 1 + 1 < w2.heap.size := (by omega))
  clear HB
  go_wp2_with (fail)
  go_at_call 122
  (with_reducible refine (rb13_lo _ _).mono ?_)
  rintro e w3 ⟨rfl, HB⟩
  obtain ⟨hc3, hf3⟩ := bcell HB
  have hz3 := HB.size
  try simp at hz3
  replace hB := Below.trans (show Below w.heap.size w _ from by repeat (first | with_reducible assumption | exact Below.refl _ _ | refine Below.drew ?_ | refine Below.setCell ?_ (by first | omega | (simp; done) | (simp; omega)) _ | refine Below.alloc ?_ (by first | omega | (simp; done) | (simp; omega)) _)) (Below.mono (B' := w.heap.size) HB (by first | omega | (simp; done) | (simp; omega)))
  try (have z3w0 : w.heap.size < w3.heap.size := (by omega))
  try (have z3w1 : w.heap.size + 1 < w3.heap.size := (by omega))
  try (have z3w2 : w.heap.size + 1 + 1 < w3.heap.size := (by omega))
  try (have z3w10 : w1.heap.size < w3.heap.size := (by omega))
  try (have z3w11 : w1.heap.size + 1 < w3.heap.size := (by omega))
  try (have z3w12 : w1.heap.size + 1 + 1 < w3.heap.size := (by omega))
  try (have z3w20 : w2.heap.size < w3.heap.size := (by omega))
  try (have z3w21 : w2.heap.size + 1 < w3.heap.size := (by omega))
  try (have z3w22 : w2.heap.size + 1 + 1 < w3.heap.size := (by omega))
  clear HB
  go_wp2_with (fail)
  go_at_call 122
  (with_reducible refine (rb13_in _ _).mono ?_)
  rintro e w4 ⟨rfl, HB⟩
  obtain ⟨hc4, hf4⟩ := bcell HB
  have hz4 := HB.size
  try simp at hz4
  replace hB := Below.trans (show Below w.heap.size w _ from by repeat (first | with_reducible assumption | exact Below.refl _ _ | refine Below.drew ?_ | refine Below.setCell ?_ (by first | omega | (simp; done) | (simp; omega)) _ | refine Below.alloc ?_ (by first | omega | (simp; done) | (simp; omega)) _)) (Below.mono (B' := w.heap.size) HB (by first | omega | (simp; done) | (simp; omega)))
  try (have z4w0 : w.heap.size < w4.heap.size := (by omega))
  try (have z4w1 : w.heap.size + 1 < w4.heap.size := (by omega))
  try (have z4w2 : w.heap.size + 1 + 1 < w4.heap.size := (by omega))
  try (have z4w10 : w1.heap.size < w4.heap.size := (by omega))
  try (have z4w11 : w1.heap.size + 1 < w4.heap.size := (by omega))
  try (have z4w12 : w1.heap.size + 1 + 1 < w4.heap.size := (by omega))
  try (have z4w20 : w2.heap.size < w4.heap.size := (by omega))
  try (have z4w21 : w2.heap.size + 1 < w4.heap.size := (by omega))
  try (have z4w22 : w2.heap.size + 1 + 1 < w4.heap.size := (by omega))
  try (have z4w30 : w3.heap.size < w4.heap.size := (by omega))
  try (have z4w31 : w3.heap.size + 1 < w4.heap.size := (by omega))
  try (have z4w32 : w3.heap.size + 1 + 1 < w4.heap.size := (by omega))
  clear HB
  go_wp2_with (fail)
  refine bodyPost_ret (v := .agg #[.int .i64 (-9223372036854775808), .int .i64 (hi + n)]) (by first | (simp [results, Tryd.results119, go_sem]; done) | (simp only [results, Tryd.results119]; go_simp; done) | (simp only [results, Tryd.results119]; go_simp; omega)) rfl (⟨rfl, by repeat (first | with_reducible assumption | exact Below.refl _ _ | refine Below.drew ?_ | refine Below.setCell ?_ (by first | omega | (simp; done) | (simp; omega)) _ | refine Below.alloc ?_ (by first | omega | (simp; done) | (simp; omega)) _)⟩)
set_option maxHeartbeats 1000000 in
theorem rgr_lo_hi (lo hi n : Int) (w : World) (h0 : 0 ≤ n) (l0 : InR lo) (l1 : InR hi) (l2 : InR n) (hx : lo - n < -9223372036854775808) (hy : 9223372036854775807 < hi + n) : Calls Tryd.prog 119 #[.agg #[.int .i64 lo, .int .i64 hi], .int .i64 n] w fun e w' => e = .returned (.agg #[.int .i64 (-9223372036854775808), .int .i64 (9223372036854775807)]) ∧ Below w.heap.size w w' := by
  have hB := Below.refl w.heap.size w
  go_enter Tryd.func119, Tryd.ntmps119
  go_wp2_with (fail)
  go_at_call 136
  (with_reducible refine (rl13_lo lo n _ l0 l2 (by omega)).mono ?_)
  rintro e w1 ⟨rfl, HB⟩
  obtain ⟨hc1, hf1⟩ := bcell HB
  have hz1 := HB.size
  try simp at hz1
  replace hB := Below.trans (show Below w.heap.size w _ from by repeat (first | with_reducible assumption | exact Below.refl _ _ | refine Below.drew ?_ | refine Below.setCell ?_ (by first | omega | (simp; done) | (simp; omega)) _ | refine Below.alloc ?_ (by first | omega | (simp; done) | (simp; omega)) _)) (Below.mono (B' := w.heap.size) HB (by first | omega | (simp; done) | (simp; omega)))
  try (have z1w0 : w.heap.size < w1.heap.size := (by omega))
  try (have z1w1 : w.heap.size + 1 < w1.heap.size := (by omega))
  try (have z1w2 : w.heap.size + 1 + 1 < w1.heap.size := (by omega))
  clear HB
  go_wp2_with (fail)
  go_at_call 121
  (with_reducible refine (rs13_hi hi n _ l1 l2 (by omega)).mono ?_)
  rintro e w2 ⟨rfl, HB⟩
  obtain ⟨hc2, hf2⟩ := bcell HB
  have hz2 := HB.size
  try simp at hz2
  replace hB := Below.trans (show Below w.heap.size w _ from by repeat (first | with_reducible assumption | exact Below.refl _ _ | refine Below.drew ?_ | refine Below.setCell ?_ (by first | omega | (simp; done) | (simp; omega)) _ | refine Below.alloc ?_ (by first | omega | (simp; done) | (simp; omega)) _)) (Below.mono (B' := w.heap.size) HB (by first | omega | (simp; done) | (simp; omega)))
  try (have z2w0 : w.heap.size < w2.heap.size := (by omega))
  try (have z2w1 : w.heap.size + 1 < w2.heap.size := (by omega))
  try (have z2w2 : w.heap.size + 1 + 1 < w2.heap.size := (by omega))
  try (have z2w10 : w1.heap.size < w2.heap.size := (by omega))
  try (have z2w11 : w1.heap.size + 1 < w2.heap.size := (by omega))
  try (have z2w12 : w1.heap.size + 1 + 1 < w2.heap.size := (by omega))
  clear HB
  go_wp2_with (fail)
  go_at_call 122
  (with_reducible refine (rb13_lo _ _).mono ?_)
  rintro e w3 ⟨rfl, HB⟩
  obtain ⟨hc3, hf3⟩ := bcell HB
  have hz3 := HB.size
  try simp at hz3
  replace hB := Below.trans (show Below w.heap.size w _ from by repeat (first | with_reducible assumption | exact Below.refl _ _ | refine Below.drew ?_ | refine Below.setCell ?_ (by first | omega | (simp; done) | (simp; omega)) _ | refine Below.alloc ?_ (by first | omega | (simp; done) | (simp; omega)) _)) (Below.mono (B' := w.heap.size) HB (by first | omega | (simp; done) | (simp; omega)))
  try (have z3w0 : w.heap.size < w3.heap.size := (by omega))
  try (have z3w1 : w.heap.size + 1 < w3.heap.size := (by omega))
  try (have z3w2 : w.heap.size + 1 + 1 < w3.heap.size := (by omega))
  try (have z3w10 : w1.heap.size < w3.heap.size := (by omega))
  try (have z3w11 : w1.heap.size + 1 < w3.heap.size := (by omega))
  try (have z3w12 : w1.heap.size + 1 + 1 < w3.heap.size := (by omega))
  try (have z3w20 : w2.heap.size < w3.heap.size := (by omega))
  try (have z3w21 : w2.heap.size + 1 < w3.heap.size := (by omega))
  try (have z3w22 : w2.heap.size + 1 + 1 < w3.heap.size := (by omega))
  clear HB
  go_wp2_with (fail)
  go_at_call 122
  (with_reducible refine (rb13_hi _ _).mono ?_)
  rintro e w4 ⟨rfl, HB⟩
  obtain ⟨hc4, hf4⟩ := bcell HB
  have hz4 := HB.size
  try simp at hz4
  replace hB := Below.trans (show Below w.heap.size w _ from by repeat (first | with_reducible assumption | exact Below.refl _ _ | refine Below.drew ?_ | refine Below.setCell ?_ (by first | omega | (simp; done) | (simp; omega)) _ | refine Below.alloc ?_ (by first | omega | (simp; done) | (simp; omega)) _)) (Below.mono (B' := w.heap.size) HB (by first | omega | (simp; done) | (simp; omega)))
  try (have z4w0 : w.heap.size < w4.heap.size := (by omega))
  try (have z4w1 : w.heap.size + 1 < w4.heap.size := (by omega))
  try (have z4w2 : w.heap.size + 1 + 1 < w4.heap.size := (by omega))
  try (have z4w10 : w1.heap.size < w4.heap.size := (by omega))
  try (have z4w11 : w1.heap.size + 1 < w4.heap.size := (by omega))
  try (have z4w12 : w1.heap.size + 1 + 1 < w4.heap.size := (by omega))
  try (have z4w20 : w2.heap.size < w4.heap.size := (by omega))
  try (have z4w21 : w2.heap.size + 1 < w4.heap.size := (by omega))
  try (have z4w22 : w2.heap.size + 1 + 1 < w4.heap.size := (by omega))
  try (have z4w30 : w3.heap.size < w4.heap.size := (by omega))
  try (have z4w31 : w3.heap.size + 1 < w4.heap.size := (by omega))
  try (have z4w32 : w3.heap.size + 1 + 1 < w4.heap.size := (by omega))
  clear HB
  go_wp2_with (fail)
  refine bodyPost_ret (v := .agg #[.int .i64 (-9223372036854775808), .int .i64 (9223372036854775807)]) (by first | (simp [results, Tryd.results119, go_sem]; done) | (simp only [results, Tryd.results119]; go_simp; done) | (simp only [results, Tryd.results119]; go_simp; omega)) rfl (⟨rfl, by repeat (first | with_reducible assumption | exact Below.refl _ _ | refine Below.drew ?_ | refine Below.setCell ?_ (by first | omega | (simp; done) | (simp; omega)) _ | refine Below.alloc ?_ (by first | omega | (simp; done) | (simp; omega)) _)⟩)
theorem rgrow13 (lo hi n : Int) (w : World) (h0 : 0 ≤ n) (l0 : InR lo) (l1 : InR hi) (l2 : InR n) : Calls Tryd.prog 119 #[.agg #[.int .i64 lo, .int .i64 hi], .int .i64 n] w fun e w' => e = .returned (.agg #[.int .i64 (sat (lo - n)), .int .i64 (sat (hi + n))]) ∧ Below w.heap.size w w' := by
  by_cases hx : InR (lo - n)
  · by_cases hy : InR (hi + n)
    · rw [sat_i hx, sat_i hy]; exact rgr_in_in lo hi n w h0 l0 l1 l2 hx hy
    · rw [sat_i hx, sat_h (n := hi + n) (by omega)]; exact rgr_in_hi lo hi n w h0 l0 l1 l2 hx (by omega)
  · by_cases hy : InR (hi + n)
    · rw [sat_l (n := lo - n) (by omega), sat_i hy]; exact rgr_lo_in lo hi n w h0 l0 l1 l2 (by omega) hy
    · rw [sat_l (n := lo - n) (by omega), sat_h (n := hi + n) (by omega)]; exact rgr_lo_hi lo hi n w h0 l0 l1 l2 (by omega) (by omega)
end Go.Proofs.YtffdglhdklmjoaaDoor
