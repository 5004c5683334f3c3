/-
  Layer 3: the reference, and what the program gives for anything.
-/
import Derived.Test.YtffdglhdklmjoaaDoorW02t
import Derived.Test.YtffdglhdklmjoaaDoorW03b
import Derived.LoopTactic
namespace Go.Proofs.YtffdglhdklmjoaaDoor
open Go.RowKit Go.Extern.Stop Go.Stop Go.Extern
set_option linter.unusedVariables false
set_option linter.unusedSimpArgs false
theorem bad_f {m s : Int} (h : ¬ (1 ≤ m ∧ 0 ≤ s ∧ s ≤ 31)) (m0 : 0 ≤ m) : m = 0 ∨ (0 < m ∧ s < 0) ∨ (0 < m ∧ 0 ≤ s ∧ 31 < s) := by omega
set_option maxHeartbeats 1000000 in
theorem rmay3_ok (m s : Int) (w : World) (m0 : 1 ≤ m) (m1 : m < 4294967296) (s0 : 0 ≤ s) (s1 : s ≤ 31) : Calls Tryd.prog 53 #[.agg #[.int .u32 m, .int .i64 s]] w fun e w' => e = .returned (.bool true) ∧ Below w.heap.size w w' := by
  have hB := Below.refl w.heap.size w
  have hd1 : decide (0 < m) = true := decide_eq_true (by omega)
  have hd2 : decide (0 ≤ s) = true := decide_eq_true s0
  have hd3 : decide (s ≤ 31) = true := decide_eq_true s1
  go_enter Tryd.func53, Tryd.ntmps53
  go_wp2_with (fail)
  go_ret
  exact ⟨rfl, by repeat (first | with_reducible assumption | exact Below.refl _ _ | refine Below.drew ?_ | refine Below.setCell ?_ (by first | omega | (simp; done) | (simp; omega)) _ | refine Below.alloc ?_ (by first | omega | (simp; done) | (simp; omega)) _)⟩
theorem rmay3_no (m s : Int) (w : World) (h : ¬ (1 ≤ m ∧ 0 ≤ s ∧ s ≤ 31)) (m0 : 0 ≤ m) : Calls Tryd.prog 53 #[.agg #[.int .u32 m, .int .i64 s]] w fun e w' => e = .returned (.bool false) ∧ Below w.heap.size w w' := by
  have hB := Below.refl w.heap.size w
  rcases bad_f h m0 with h1 | h1 | h1
  · subst h1
    go_enter Tryd.func53, Tryd.ntmps53
    go_wp2_with (fail)
    go_ret
    exact ⟨rfl, by repeat (first | with_reducible assumption | exact Below.refl _ _ | refine Below.drew ?_ | refine Below.setCell ?_ (by first | omega | (simp; done) | (simp; omega)) _ | refine Below.alloc ?_ (by first | omega | (simp; done) | (simp; omega)) _)⟩
  · have hd1 : decide (0 < m) = true := decide_eq_true (by omega)
    have hd2 : decide (0 ≤ s) = false := decide_eq_false (by omega)
    go_enter Tryd.func53, Tryd.ntmps53
    go_wp2_with (fail)
    go_ret
    exact ⟨rfl, by repeat (first | with_reducible assumption | exact Below.refl _ _ | refine Below.drew ?_ | refine Below.setCell ?_ (by first | omega | (simp; done) | (simp; omega)) _ | refine Below.alloc ?_ (by first | omega | (simp; done) | (simp; omega)) _)⟩
  · have hd1 : decide (0 < m) = true := decide_eq_true (by omega)
    have hd2 : decide (0 ≤ s) = true := decide_eq_true (by omega)
    have hd3 : decide (s ≤ 31) = false := decide_eq_false (by omega)
    go_enter Tryd.func53, Tryd.ntmps53
    go_wp2_with (fail)
    go_ret
    exact ⟨rfl, by repeat (first | with_reducible assumption | exact Below.refl _ _ | refine Below.drew ?_ | refine Below.setCell ?_ (by first | omega | (simp; done) | (simp; omega)) _ | refine Below.alloc ?_ (by first | omega | (simp; done) | (simp; omega)) _)⟩
set_option maxHeartbeats 1000000 in
theorem rscale3_no (m s n : Int) (w : World) (h : ¬ (1 ≤ m ∧ 0 ≤ s ∧ s ≤ 31)) (m0 : 0 ≤ m) : Calls Tryd.prog 46 #[.agg #[.int .u32 m, .int .i64 s], .int .i64 n] w fun e w' => e = .returned (.tuple #[.int .i64 0, .int .i64 1]) ∧ Below w.heap.size w w' := by
  have hB := Below.refl w.heap.size w
  go_enter Tryd.func46, Tryd.ntmps46
  go_wp2_with (fail)
  go_at_call 53
  (with_reducible refine (rmay3_no _ _ _ h m0).mono ?_)
  rintro e w1 ⟨rfl, HB⟩
  obtain ⟨hc1, hf1⟩ := bcell HB
  have hz1 := HB.size
  try simp at hz1
  replace hB := Below.trans (show Below w.heap.size w _ from by repeat (first | with_reducible assumption | exact Below.refl _ _ | refine Below.drew ?_ | refine Below.setCell ?_ (by first | omega | (simp; done) | (simp; omega)) _ | refine Below.alloc ?_ (by first | omega | (simp; done) | (simp; omega)) _)) (Below.mono (B' := w.heap.size) HB (by first | omega | (simp; done) | (simp; omega)))
  try (have z1w0 : w.heap.size < w1.heap.size := (by omega))
  try (have z1w1 : w.heap.size + 1 < w1.heap.size := (by omega))
  try (have z1w2 : w.heap.size + 1 + 1 < w1.heap.size := (by omega))
  clear HB
  go_wp2_with (fail)
  go_ret2
  exact ⟨rfl, by repeat (first | with_reducible assumption | exact Below.refl _ _ | refine Below.drew ?_ | refine Below.setCell ?_ (by first | omega | (simp; done) | (simp; omega)) _ | refine Below.alloc ?_ (by first | omega | (simp; done) | (simp; omega)) _)⟩
set_option maxHeartbeats 1000000 in
theorem rscale3 (m s n : Int) (w : World) (m0 : 1 ≤ m) (m1 : m < 4294967296) (s0 : 0 ≤ s) (s1 : s ≤ 31) (hn : InR n) : Calls Tryd.prog 46 #[.agg #[.int .u32 m, .int .i64 s], .int .i64 n] w fun e w' => e = .returned (.tuple #[.int .i64 (msN n m s), .int .i64 (msE n m s)]) ∧ Below w.heap.size w w' := by
  have hB := Below.refl w.heap.size w
  go_enter Tryd.func46, Tryd.ntmps46
  go_wp2_with (fail)
  go_at_call 53
  (with_reducible refine (rmay3_ok _ _ _ m0 m1 s0 s1).mono ?_)
  rintro e w1 ⟨rfl, HB⟩
  obtain ⟨hc1, hf1⟩ := bcell HB
  have hz1 := HB.size
  try simp at hz1
  replace hB := Below.trans (show Below w.heap.size w _ from by repeat (first | with_reducible assumption | exact Below.refl _ _ | refine Below.drew ?_ | refine Below.setCell ?_ (by first | omega | (simp; done) | (simp; omega)) _ | refine Below.alloc ?_ (by first | omega | (simp; done) | (simp; omega)) _)) (Below.mono (B' := w.heap.size) HB (by first | omega | (simp; done) | (simp; omega)))
  try (have z1w0 : w.heap.size < w1.heap.size := (by omega))
  try (have z1w1 : w.heap.size + 1 < w1.heap.size := (by omega))
  try (have z1w2 : w.heap.size + 1 + 1 < w1.heap.size := (by omega))
  clear HB
  go_wp2_with (fail)
  go_at_call 42
  (with_reducible refine (rms_any n m s _ hn (by omega) m1 (by omega)).mono ?_)
  rintro e w2 ⟨rfl, HB⟩
  obtain ⟨hc2, hf2⟩ := bcell HB
  have hz2 := HB.size
  try simp at hz2
  replace hB := Below.trans (show Below w.heap.size w _ from by repeat (first | with_reducible assumption | exact Below.refl _ _ | refine Below.drew ?_ | refine Below.setCell ?_ (by first | omega | (simp; done) | (simp; omega)) _ | refine Below.alloc ?_ (by first | omega | (simp; done) | (simp; omega)) _)) (Below.mono (B' := w.heap.size) HB (by first | omega | (simp; done) | (simp; omega)))
  try (have z2w0 : w.heap.size < w2.heap.size := (by omega))
  try (have z2w1 : w.heap.size + 1 < w2.heap.size := (by omega))
  try (have z2w2 : w.heap.size + 1 + 1 < w2.heap.size := (by omega))
  try (have z2w10 : w1.heap.size < w2.heap.size := (by omega))
  try (have z2w11 : w1.heap.size + 1 < w2.heap.size := (by omega))
  try (have z2w12 : w1.heap.size + 1 + 1 < w2.heap.size := (by omega))
  clear HB
  go_wp2_with (fail)
  go_ret2
  exact ⟨rfl, by repeat (first | with_reducible assumption | exact Below.refl _ _ | refine Below.drew ?_ | refine Below.setCell ?_ (by first | omega | (simp; done) | (simp; omega)) _ | refine Below.alloc ?_ (by first | omega | (simp; done) | (simp; omega)) _)⟩
set_option maxHeartbeats 1000000 in
theorem pscale3_no (m s n : Int) (w : World) (h : ¬ (1 ≤ m ∧ 0 ≤ s ∧ s ≤ 31)) (m0 : 0 ≤ m) : Calls Tryd.prog 45 #[.agg #[.int .u32 m, .int .i64 s], .int .i64 n] w fun e w' => e = .returned (.tuple #[.int .i64 0, errV 1]) ∧ Below w.heap.size w w' := by
  have hB := Below.refl w.heap.size w
  go_enter Tryd.func45, Tryd.ntmps45
  go_wp2_with (fail)
  go_at_call 52
  (with_reducible refine (rcheck_no _ _ _ h m0).mono ?_)
  rintro e w1 ⟨rfl, HB⟩
  obtain ⟨hc1, hf1⟩ := bcell HB
  have hz1 := HB.size
  try simp at hz1
  replace hB := Below.trans (show Below w.heap.size w _ from by repeat (first | with_reducible assumption | exact Below.refl _ _ | refine Below.drew ?_ | refine Below.setCell ?_ (by first | omega | (simp; done) | (simp; omega)) _ | refine Below.alloc ?_ (by first | omega | (simp; done) | (simp; omega)) _)) (Below.mono (B' := w.heap.size) HB (by first | omega | (simp; done) | (simp; omega)))
  try (have z1w0 : w.heap.size < w1.heap.size := (by omega))
  try (have z1w1 : w.heap.size + 1 < w1.heap.size := (by omega))
  try (have z1w2 : w.heap.size + 1 + 1 < w1.heap.size := (by omega))
  clear HB
  go_wp2_with (fail)
  go_ret2
  exact ⟨rfl, by repeat (first | with_reducible assumption | exact Below.refl _ _ | refine Below.drew ?_ | refine Below.setCell ?_ (by first | omega | (simp; done) | (simp; omega)) _ | refine Below.alloc ?_ (by first | omega | (simp; done) | (simp; omega)) _)⟩
set_option maxHeartbeats 1000000 in
theorem pscale3 (m s n : Int) (w : World) (m0 : 1 ≤ m) (m1 : m < 4294967296) (s0 : 0 ≤ s) (s1 : s ≤ 31) (hn : InR n) : Calls Tryd.prog 45 #[.agg #[.int .u32 m, .int .i64 s], .int .i64 n] w fun e w' => e = .returned (.tuple #[.int .i64 (msN n m s), errOf (msE n m s)]) ∧ Below w.heap.size w w' := by
  have hB := Below.refl w.heap.size w
  go_enter Tryd.func45, Tryd.ntmps45
  go_wp2_with (fail)
  go_at_call 52
  (with_reducible refine (rcheck_ok _ _ _ m0 m1 s0 s1).mono ?_)
  rintro e w1 ⟨rfl, HB⟩
  obtain ⟨hc1, hf1⟩ := bcell HB
  have hz1 := HB.size
  try simp at hz1
  replace hB := Below.trans (show Below w.heap.size w _ from by repeat (first | with_reducible assumption | exact Below.refl _ _ | refine Below.drew ?_ | refine Below.setCell ?_ (by first | omega | (simp; done) | (simp; omega)) _ | refine Below.alloc ?_ (by first | omega | (simp; done) | (simp; omega)) _)) (Below.mono (B' := w.heap.size) HB (by first | omega | (simp; done) | (simp; omega)))
  try (have z1w0 : w.heap.size < w1.heap.size := (by omega))
  try (have z1w1 : w.heap.size + 1 < w1.heap.size := (by omega))
  try (have z1w2 : w.heap.size + 1 + 1 < w1.heap.size := (by omega))
  clear HB
  go_wp2_with (fail)
  go_at_call 41
  (with_reducible refine (wmulshift_any n m s _ hn (by omega) m1 (by omega)).mono ?_)
  rintro e w2 ⟨rfl, HB⟩
  obtain ⟨hc2, hf2⟩ := bcell HB
  have hz2 := HB.size
  try simp at hz2
  replace hB := Below.trans (show Below w.heap.size w _ from by repeat (first | with_reducible assumption | exact Below.refl _ _ | refine Below.drew ?_ | refine Below.setCell ?_ (by first | omega | (simp; done) | (simp; omega)) _ | refine Below.alloc ?_ (by first | omega | (simp; done) | (simp; omega)) _)) (Below.mono (B' := w.heap.size) HB (by first | omega | (simp; done) | (simp; omega)))
  try (have z2w0 : w.heap.size < w2.heap.size := (by omega))
  try (have z2w1 : w.heap.size + 1 < w2.heap.size := (by omega))
  try (have z2w2 : w.heap.size + 1 + 1 < w2.heap.size := (by omega))
  try (have z2w10 : w1.heap.size < w2.heap.size := (by omega))
  try (have z2w11 : w1.heap.size + 1 < w2.heap.size := (by omega))
  try (have z2w12 : w1.heap.size + 1 + 1 < w2.heap.size := (by omega))
  clear HB
  go_wp2_with (fail)
  go_ret2
  exact ⟨rfl, by repeat (first | with_reducible assumption | exact Below.refl _ _ | refine Below.drew ?_ | refine Below.setCell ?_ (by first | omega | (simp; done) | (simp; omega)) _ | refine Below.alloc ?_ (by first | omega | (simp; done) | (simp; omega)) _)⟩
set_option maxHeartbeats 1000000 in
theorem poff3 (m s n : Int) (w : World) (m0 : 1 ≤ m) (m1 : m < 4294967296) (s0 : 0 ≤ s) (s1 : s ≤ 31) (hn : 0 ≤ n) (hn1 : n ≤ 9223372036854775807) (hv : n / 2 ^ s.toNat + 2 ≤ 9223372036854775807) : Calls Tryd.prog 47 #[.agg #[.int .u32 m, .int .i64 s], .int .i64 n] w fun e w' => e = .returned (.tuple #[.int .i64 (n / 2 ^ s.toNat + 2), .nilIface]) ∧ Below w.heap.size w w' := by
  have hB := Below.refl w.heap.size w
  have hp : (0 : Int) < 2 ^ s.toNat := Int.pow_pos (by omega)
  have hq1 : 0 ≤ n / 2 ^ s.toNat := Int.ediv_nonneg hn (by omega)
  have hq2 : n / 2 ^ s.toNat ≤ n := Int.ediv_le_self _ hn
  go_enter Tryd.func47, Tryd.ntmps47
  go_wp2_with (fail)
  go_at_call 52
  (with_reducible refine (rcheck_ok _ _ _ m0 m1 s0 s1).mono ?_)
  rintro e w1 ⟨rfl, HB⟩
  obtain ⟨hc1, hf1⟩ := bcell HB
  have hz1 := HB.size
  try simp at hz1
  replace hB := Below.trans (show Below w.heap.size w _ from by repeat (first | with_reducible assumption | exact Below.refl _ _ | refine Below.drew ?_ | refine Below.setCell ?_ (by first | omega | (simp; done) | (simp; omega)) _ | refine Below.alloc ?_ (by first | omega | (simp; done) | (simp; omega)) _)) (Below.mono (B' := w.heap.size) HB (by first | omega | (simp; done) | (simp; omega)))
  try (have z1w0 : w.heap.size < w1.heap.size := (by omega))
  try (have z1w1 : w.heap.size + 1 < w1.heap.size := (by omega))
  try (have z1w2 : w.heap.size + 1 + 1 < w1.heap.size := (by omega))
  clear HB
  go_wp2_with (fail)
  go_at_call 110
  (with_reducible refine (add_c _ _ _ (by omega) (by omega)).mono ?_)
  rintro e w2 (⟨h1, rfl, rfl⟩ | ⟨h1, rfl, rfl⟩) <;> try (exfalso; omega)
  go_wp2_with (fail)
  go_ret2
  exact ⟨rfl, by repeat (first | with_reducible assumption | exact Below.refl _ _ | refine Below.drew ?_ | refine Below.setCell ?_ (by first | omega | (simp; done) | (simp; omega)) _ | refine Below.alloc ?_ (by first | omega | (simp; done) | (simp; omega)) _)⟩
set_option maxHeartbeats 1000000 in
theorem poff3_big (m s n : Int) (w : World) (m0 : 1 ≤ m) (m1 : m < 4294967296) (s0 : 0 ≤ s) (s1 : s ≤ 31) (hn : 0 ≤ n) (hn1 : n ≤ 9223372036854775807) (hv : 9223372036854775807 < n / 2 ^ s.toNat + 2) : Calls Tryd.prog 47 #[.agg #[.int .u32 m, .int .i64 s], .int .i64 n] w fun e w' => e = .returned (.tuple #[.int .i64 0, errV 2]) ∧ Below w.heap.size w w' := by
  have hB := Below.refl w.heap.size w
  have hp : (0 : Int) < 2 ^ s.toNat := Int.pow_pos (by omega)
  have hq1 : 0 ≤ n / 2 ^ s.toNat := Int.ediv_nonneg hn (by omega)
  have hq2 : n / 2 ^ s.toNat ≤ n := Int.ediv_le_self _ hn
  go_enter Tryd.func47, Tryd.ntmps47
  go_wp2_with (fail)
  go_at_call 52
  (with_reducible refine (rcheck_ok _ _ _ m0 m1 s0 s1).mono ?_)
  rintro e w1 ⟨rfl, HB⟩
  obtain ⟨hc1, hf1⟩ := bcell HB
  have hz1 := HB.size
  try simp at hz1
  replace hB := Below.trans (show Below w.heap.size w _ from by repeat (first | with_reducible assumption | exact Below.refl _ _ | refine Below.drew ?_ | refine Below.setCell ?_ (by first | omega | (simp; done) | (simp; omega)) _ | refine Below.alloc ?_ (by first | omega | (simp; done) | (simp; omega)) _)) (Below.mono (B' := w.heap.size) HB (by first | omega | (simp; done) | (simp; omega)))
  try (have z1w0 : w.heap.size < w1.heap.size := (by omega))
  try (have z1w1 : w.heap.size + 1 < w1.heap.size := (by omega))
  try (have z1w2 : w.heap.size + 1 + 1 < w1.heap.size := (by omega))
  clear HB
  go_wp2_with (fail)
  go_at_call 110
  (with_reducible refine (add_c _ _ _ (by omega) (by omega)).mono ?_)
  rintro e w2 (⟨h1, rfl, rfl⟩ | ⟨h1, rfl, rfl⟩) <;> try (exfalso; omega)
  go_wp2_with (fail)
  go_ret2
  exact ⟨rfl, by repeat (first | with_reducible assumption | exact Below.refl _ _ | refine Below.drew ?_ | refine Below.setCell ?_ (by first | omega | (simp; done) | (simp; omega)) _ | refine Below.alloc ?_ (by first | omega | (simp; done) | (simp; omega)) _)⟩
set_option maxHeartbeats 1000000 in
theorem poff3_no (m s n : Int) (w : World) (h : ¬ (1 ≤ m ∧ 0 ≤ s ∧ s ≤ 31)) (m0 : 0 ≤ m) : Calls Tryd.prog 47 #[.agg #[.int .u32 m, .int .i64 s], .int .i64 n] w fun e w' => e = .returned (.tuple #[.int .i64 0, errV 1]) ∧ Below w.heap.size w w' := by
  have hB := Below.refl w.heap.size w
  go_enter Tryd.func47, Tryd.ntmps47
  go_wp2_with (fail)
  go_at_call 52
  (with_reducible refine (rcheck_no _ _ _ h m0).mono ?_)
  rintro e w1 ⟨rfl, HB⟩
  obtain ⟨hc1, hf1⟩ := bcell HB
  have hz1 := HB.size
  try simp at hz1
  replace hB := Below.trans (show Below w.heap.size w _ from by repeat (first | with_reducible assumption | exact Below.refl _ _ | refine Below.drew ?_ | refine Below.setCell ?_ (by first | omega | (simp; done) | (simp; omega)) _ | refine Below.alloc ?_ (by first | omega | (simp; done) | (simp; omega)) _)) (Below.mono (B' := w.heap.size) HB (by first | omega | (simp; done) | (simp; omega)))
  try (have z1w0 : w.heap.size < w1.heap.size := (by omega))
  try (have z1w1 : w.heap.size + 1 < w1.heap.size := (by omega))
  try (have z1w2 : w.heap.size + 1 + 1 < w1.heap.size := (by omega))
  clear HB
  go_wp2_with (fail)
  go_ret2
  exact ⟨rfl, by repeat (first | with_reducible assumption | exact Below.refl _ _ | refine Below.drew ?_ | refine Below.setCell ?_ (by first | omega | (simp; done) | (simp; omega)) _ | refine Below.alloc ?_ (by first | omega | (simp; done) | (simp; omega)) _)⟩
set_option maxHeartbeats 1000000 in
theorem poff3_neg (m s n : Int) (w : World) (m0 : 1 ≤ m) (m1 : m < 4294967296) (s0 : 0 ≤ s) (s1 : s ≤ 31) (hn : n < 0) : Calls Tryd.prog 47 #[.agg #[.int .u32 m, .int .i64 s], .int .i64 n] w fun e w' => e = .returned (.tuple #[.int .i64 0, errV 1]) ∧ Below w.heap.size w w' := by
  have hB := Below.refl w.heap.size w
  go_enter Tryd.func47, Tryd.ntmps47
  go_wp2_with (fail)
  go_at_call 52
  (with_reducible refine (rcheck_ok _ _ _ m0 m1 s0 s1).mono ?_)
  rintro e w1 ⟨rfl, HB⟩
  obtain ⟨hc1, hf1⟩ := bcell HB
  have hz1 := HB.size
  try simp at hz1
  replace hB := Below.trans (show Below w.heap.size w _ from by repeat (first | with_reducible assumption | exact Below.refl _ _ | refine Below.drew ?_ | refine Below.setCell ?_ (by first | omega | (simp; done) | (simp; omega)) _ | refine Below.alloc ?_ (by first | omega | (simp; done) | (simp; omega)) _)) (Below.mono (B' := w.heap.size) HB (by first | omega | (simp; done) | (simp; omega)))
  try (have z1w0 : w.heap.size < w1.heap.size := (by omega))
  try (have z1w1 : w.heap.size + 1 < w1.heap.size := (by omega))
  try (have z1w2 : w.heap.size + 1 + 1 < w1.heap.size := (by omega))
  clear HB
  go_wp2_with (fail)
  go_ret2
  exact ⟨rfl, by repeat (first | with_reducible assumption | exact Below.refl _ _ | refine Below.drew ?_ | refine Below.setCell ?_ (by first | omega | (simp; done) | (simp; omega)) _ | refine Below.alloc ?_ (by first | omega | (simp; done) | (simp; omega)) _)⟩
set_option maxHeartbeats 1000000 in
theorem roff3_no (m s n : Int) (w : World) (h : ¬ (1 ≤ m ∧ 0 ≤ s ∧ s ≤ 31)) (m0 : 0 ≤ m) : Calls Tryd.prog 48 #[.agg #[.int .u32 m, .int .i64 s], .int .i64 n] w fun e w' => e = .returned (.tuple #[.int .i64 0, .int .i64 1]) ∧ Below w.heap.size w w' := by
  have hB := Below.refl w.heap.size w
  go_enter Tryd.func48, Tryd.ntmps48
  go_wp2_with (fail)
  go_at_call 53
  (with_reducible refine (rmay3_no _ _ _ h m0).mono ?_)
  rintro e w1 ⟨rfl, HB⟩
  obtain ⟨hc1, hf1⟩ := bcell HB
  have hz1 := HB.size
  try simp at hz1
  replace hB := Below.trans (show Below w.heap.size w _ from by repeat (first | with_reducible assumption | exact Below.refl _ _ | refine Below.drew ?_ | refine Below.setCell ?_ (by first | omega | (simp; done) | (simp; omega)) _ | refine Below.alloc ?_ (by first | omega | (simp; done) | (simp; omega)) _)) (Below.mono (B' := w.heap.size) HB (by first | omega | (simp; done) | (simp; omega)))
  try (have z1w0 : w.heap.size < w1.heap.size := (by omega))
  try (have z1w1 : w.heap.size + 1 < w1.heap.size := (by omega))
  try (have z1w2 : w.heap.size + 1 + 1 < w1.heap.size := (by omega))
  clear HB
  go_wp2_with (fail)
  go_ret2
  exact ⟨rfl, by repeat (first | with_reducible assumption | exact Below.refl _ _ | refine Below.drew ?_ | refine Below.setCell ?_ (by first | omega | (simp; done) | (simp; omega)) _ | refine Below.alloc ?_ (by first | omega | (simp; done) | (simp; omega)) _)⟩
set_option maxHeartbeats 1000000 in
theorem roff3_neg (m s n : Int) (w : World) (m0 : 1 ≤ m) (m1 : m < 4294967296) (s0 : 0 ≤ s) (s1 : s ≤ 31) (hn : n < 0) : Calls Tryd.prog 48 #[.agg #[.int .u32 m, .int .i64 s], .int .i64 n] w fun e w' => e = .returned (.tuple #[.int .i64 0, .int .i64 1]) ∧ Below w.heap.size w w' := by
  have hB := Below.refl w.heap.size w
  go_enter Tryd.func48, Tryd.ntmps48
  go_wp2_with (fail)
  go_at_call 53
  (with_reducible refine (rmay3_ok _ _ _ m0 m1 s0 s1).mono ?_)
  rintro e w1 ⟨rfl, HB⟩
  obtain ⟨hc1, hf1⟩ := bcell HB
  have hz1 := HB.size
  try simp at hz1
  replace hB := Below.trans (show Below w.heap.size w _ from by repeat (first | with_reducible assumption | exact Below.refl _ _ | refine Below.drew ?_ | refine Below.setCell ?_ (by first | omega | (simp; done) | (simp; omega)) _ | refine Below.alloc ?_ (by first | omega | (simp; done) | (simp; omega)) _)) (Below.mono (B' := w.heap.size) HB (by first | omega | (simp; done) | (simp; omega)))
  try (have z1w0 : w.heap.size < w1.heap.size := (by omega))
  try (have z1w1 : w.heap.size + 1 < w1.heap.size := (by omega))
  try (have z1w2 : w.heap.size + 1 + 1 < w1.heap.size := (by omega))
  clear HB
  go_wp2_with (fail)
  go_ret2
  exact ⟨rfl, by repeat (first | with_reducible assumption | exact Below.refl _ _ | refine Below.drew ?_ | refine Below.setCell ?_ (by first | omega | (simp; done) | (simp; omega)) _ | refine Below.alloc ?_ (by first | omega | (simp; done) | (simp; omega)) _)⟩
theorem halve (n : Int) (j : Nat) : n / 2 ^ j / 2 = n / 2 ^ (j + 1) := by
  rw [Int.ediv_ediv_of_nonneg (Int.le_of_lt (Int.pow_pos (by decide))), Int.pow_succ]
set_option maxHeartbeats 1000000 in
theorem roff3 (m s n : Int) (w : World) (m0 : 1 ≤ m) (m1 : m < 4294967296) (s0 : 0 ≤ s) (s1 : s ≤ 31) (hn : 0 ≤ n) (hn1 : n ≤ 9223372036854775807) (hv : n / 2 ^ s.toNat + 2 ≤ 9223372036854775807) : Calls Tryd.prog 48 #[.agg #[.int .u32 m, .int .i64 s], .int .i64 n] w fun e w' => e = .returned (.tuple #[.int .i64 (n / 2 ^ s.toNat + 2), .int .i64 0]) ∧ Below w.heap.size w w' := by
  have hB := Below.refl w.heap.size w
  have HV := Lib.hid hv
  clear hv
  go_enter Tryd.func48, Tryd.ntmps48
  go_wp2_with (fail)
  go_at_call 53
  (with_reducible refine (rmay3_ok _ _ _ m0 m1 s0 s1).mono ?_)
  rintro e w1 ⟨rfl, HB⟩
  obtain ⟨hc1, hf1⟩ := bcell HB
  have hz1 := HB.size
  try simp at hz1
  replace hB := Below.trans (show Below w.heap.size w _ from by repeat (first | with_reducible assumption | exact Below.refl _ _ | refine Below.drew ?_ | refine Below.setCell ?_ (by first | omega | (simp; done) | (simp; omega)) _ | refine Below.alloc ?_ (by first | omega | (simp; done) | (simp; omega)) _)) (Below.mono (B' := w.heap.size) HB (by first | omega | (simp; done) | (simp; omega)))
  try (have z1w0 : w.heap.size < w1.heap.size := (by omega))
  try (have z1w1 : w.heap.size + 1 < w1.heap.size := (by omega))
  try (have z1w2 : w.heap.size + 1 + 1 < w1.heap.size := (by omega))
  clear HB
  go_wp2_with (fail)
  go_loop [1, 6] (fun x i => ∃ j : Nat, (j : Int) ≤ s ∧ i = .int .i64 j ∧ x = .int .i64 (n / 2 ^ j)) (fun _ i => (s - intOf i).toNat)
  case atStart => exact ⟨0, by omega, rfl, by simp⟩
  case round =>
    obtain ⟨j, hj, rfl, rfl⟩ := hrel
    have hp : (0 : Int) < 2 ^ j := Int.pow_pos (by omega)
    have hq1 : 0 ≤ n / 2 ^ j := Int.ediv_nonneg hn (by omega)
    have hq2 : n / 2 ^ j ≤ n := Int.ediv_le_self _ hn
    have hh := Lib.hid (halve n j)
    obtain ⟨x, hx⟩ : ∃ x, n / 2 ^ j = x := ⟨_, rfl⟩
    rw [hx] at hq1 hq2 hh ⊢
    have HX := Lib.hid hx
    clear hx hp
    by_cases hlt : (j : Int) < s
    · go_wp2_with (fail)
      go_round
      case rel => exact ⟨j + 1, by omega, by go_num, by rw [hh.out]⟩
      case measure => simp [intOf]; omega
    · have hsj : s.toNat = j := by omega
      have hv2 := HV.out
      rw [hsj, HX.out] at hv2
      have HSJ := Lib.hid hsj
      clear hsj
      go_wp2_with (fail)
      go_ret2
      exact ⟨by first | (rw [HSJ.out, HX.out]; rfl) | rfl, by repeat (first | with_reducible assumption | exact Below.refl _ _ | refine Below.drew ?_ | refine Below.setCell ?_ (by first | omega | (simp; done) | (simp; omega)) _ | refine Below.alloc ?_ (by first | omega | (simp; done) | (simp; omega)) _)⟩
set_option maxHeartbeats 1000000 in
theorem roff3_big (m s n : Int) (w : World) (m0 : 1 ≤ m) (m1 : m < 4294967296) (s0 : 0 ≤ s) (s1 : s ≤ 31) (hn : 0 ≤ n) (hn1 : n ≤ 9223372036854775807) (hv : 9223372036854775807 < n / 2 ^ s.toNat + 2) : Calls Tryd.prog 48 #[.agg #[.int .u32 m, .int .i64 s], .int .i64 n] w fun e w' => e = .returned (.tuple #[.int .i64 0, .int .i64 2]) ∧ Below w.heap.size w w' := by
  have hB := Below.refl w.heap.size w
  have HV := Lib.hid hv
  clear hv
  go_enter Tryd.func48, Tryd.ntmps48
  go_wp2_with (fail)
  go_at_call 53
  (with_reducible refine (rmay3_ok _ _ _ m0 m1 s0 s1).mono ?_)
  rintro e w1 ⟨rfl, HB⟩
  obtain ⟨hc1, hf1⟩ := bcell HB
  have hz1 := HB.size
  try simp at hz1
  replace hB := Below.trans (show Below w.heap.size w _ from by repeat (first | with_reducible assumption | exact Below.refl _ _ | refine Below.drew ?_ | refine Below.setCell ?_ (by first | omega | (simp; done) | (simp; omega)) _ | refine Below.alloc ?_ (by first | omega | (simp; done) | (simp; omega)) _)) (Below.mono (B' := w.heap.size) HB (by first | omega | (simp; done) | (simp; omega)))
  try (have z1w0 : w.heap.size < w1.heap.size := (by omega))
  try (have z1w1 : w.heap.size + 1 < w1.heap.size := (by omega))
  try (have z1w2 : w.heap.size + 1 + 1 < w1.heap.size := (by omega))
  clear HB
  go_wp2_with (fail)
  go_loop [1, 6] (fun x i => ∃ j : Nat, (j : Int) ≤ s ∧ i = .int .i64 j ∧ x = .int .i64 (n / 2 ^ j)) (fun _ i => (s - intOf i).toNat)
  case atStart => exact ⟨0, by omega, rfl, by simp⟩
  case round =>
    obtain ⟨j, hj, rfl, rfl⟩ := hrel
    have hp : (0 : Int) < 2 ^ j := Int.pow_pos (by omega)
    have hq1 : 0 ≤ n / 2 ^ j := Int.ediv_nonneg hn (by omega)
    have hq2 : n / 2 ^ j ≤ n := Int.ediv_le_self _ hn
    have hh := Lib.hid (halve n j)
    obtain ⟨x, hx⟩ : ∃ x, n / 2 ^ j = x := ⟨_, rfl⟩
    rw [hx] at hq1 hq2 hh ⊢
    have HX := Lib.hid hx
    clear hx hp
    by_cases hlt : (j : Int) < s
    · go_wp2_with (fail)
      go_round
      case rel => exact ⟨j + 1, by omega, by go_num, by rw [hh.out]⟩
      case measure => simp [intOf]; omega
    · have hsj : s.toNat = j := by omega
      have hv2 := HV.out
      rw [hsj, HX.out] at hv2
      have HSJ := Lib.hid hsj
      clear hsj
      go_wp2_with (fail)
      go_ret2
      exact ⟨by first | (rw [HSJ.out, HX.out]; rfl) | rfl, by repeat (first | with_reducible assumption | exact Below.refl _ _ | refine Below.drew ?_ | refine Below.setCell ?_ (by first | omega | (simp; done) | (simp; omega)) _ | refine Below.alloc ?_ (by first | omega | (simp; done) | (simp; omega)) _)⟩
set_option maxHeartbeats 1000000 in
theorem radj3_no (m s p : Int) (w : World) (h : ¬ (1 ≤ m ∧ 0 ≤ s ∧ s ≤ 31)) (m0 : 0 ≤ m) : Calls Tryd.prog 50 #[.agg #[.int .u32 m, .int .i64 s], .int .i64 p] w fun e w' => e = .returned (.tuple #[.agg #[.int .u32 0, .int .i64 0], .int .i64 1]) ∧ Below w.heap.size w w' := by
  have hB := Below.refl w.heap.size w
  go_enter Tryd.func50, Tryd.ntmps50
  go_wp2_with (fail)
  go_at_call 53
  (with_reducible refine (rmay3_no _ _ _ h m0).mono ?_)
  rintro e w1 ⟨rfl, HB⟩
  obtain ⟨hc1, hf1⟩ := bcell HB
  have hz1 := HB.size
  try simp at hz1
  replace hB := Below.trans (show Below w.heap.size w _ from by repeat (first | with_reducible assumption | exact Below.refl _ _ | refine Below.drew ?_ | refine Below.setCell ?_ (by first | omega | (simp; done) | (simp; omega)) _ | refine Below.alloc ?_ (by first | omega | (simp; done) | (simp; omega)) _)) (Below.mono (B' := w.heap.size) HB (by first | omega | (simp; done) | (simp; omega)))
  try (have z1w0 : w.heap.size < w1.heap.size := (by omega))
  try (have z1w1 : w.heap.size + 1 < w1.heap.size := (by omega))
  try (have z1w2 : w.heap.size + 1 + 1 < w1.heap.size := (by omega))
  clear HB
  go_wp2_with (fail)
  refine bodyPost_ret (v := .tuple #[.agg #[.int .u32 0, .int .i64 0], .int .i64 1]) (by first | (simp [results, Tryd.results50, go_sem]; done) | (simp only [results, Tryd.results50]; go_simp; done) | (simp only [results, Tryd.results50]; go_simp; omega)) rfl (⟨rfl, by repeat (first | with_reducible assumption | exact Below.refl _ _ | refine Below.drew ?_ | refine Below.setCell ?_ (by first | omega | (simp; done) | (simp; omega)) _ | refine Below.alloc ?_ (by first | omega | (simp; done) | (simp; omega)) _)⟩)
set_option maxHeartbeats 1000000 in
theorem radj3_lo_ok (m s p v : Int) (w : World) (m0 : 1 ≤ m) (m1 : m < 4294967296) (s0 : 0 ≤ s) (s1 : s ≤ 31) (hp : InR p) (hc : p < -1073741824) (hv0 : m * (0) / 1073741824 = v) (hvr : InR v) (v0 : 1 ≤ v) (v1 : v ≤ 4294967295) : Calls Tryd.prog 50 #[.agg #[.int .u32 m, .int .i64 s], .int .i64 p] w fun e w' => e = .returned (.tuple #[.agg #[.int .u32 v, .int .i64 s], .int .i64 0]) ∧ Below w.heap.size w w' := by
  have hB := Below.refl w.heap.size w
  have hr1 : InR (0) := by omega
  have hM : ∀ w : World, Calls Tryd.prog 40 #[.int .i64 m, .int .i64 (0), .int .i64 1073741824] w fun e w' => e = .returned (.tuple #[.int .i64 v, .int .i64 0]) ∧ Below w.heap.size w w' := by
    intro w
    have hm := rmuldiv m (0) 1073741824 w (by omega) hr1 (by omega)
    have hq : m * (0) / 1073741824 = v := hv0
    have e1 : mdN m (0) 1073741824 = v := by unfold mdN; rw [if_neg (by omega), hq, if_pos hvr]
    have e2 : mdE m (0) 1073741824 = 0 := by unfold mdE; rw [if_neg (by omega), hq, if_pos hvr]
    rw [e1, e2] at hm; exact hm
  have HM := Lib.hid hM
  clear hM hv0
  have k9 : IntKind.u32.wrap v = v := by rw [IntKind.wrap_u32]; omega
  have hd1 : decide (v ≤ 4294967295) = true := decide_eq_true v1
  go_enter Tryd.func50, Tryd.ntmps50
  go_wp2_with (fail)
  go_at_call 53
  (with_reducible refine (rmay3_ok _ _ _ m0 m1 s0 s1).mono ?_)
  rintro e w1 ⟨rfl, HB⟩
  obtain ⟨hc1, hf1⟩ := bcell HB
  have hz1 := HB.size
  try simp at hz1
  replace hB := Below.trans (show Below w.heap.size w _ from by repeat (first | with_reducible assumption | exact Below.refl _ _ | refine Below.drew ?_ | refine Below.setCell ?_ (by first | omega | (simp; done) | (simp; omega)) _ | refine Below.alloc ?_ (by first | omega | (simp; done) | (simp; omega)) _)) (Below.mono (B' := w.heap.size) HB (by first | omega | (simp; done) | (simp; omega)))
  try (have z1w0 : w.heap.size < w1.heap.size := (by omega))
  try (have z1w1 : w.heap.size + 1 < w1.heap.size := (by omega))
  try (have z1w2 : w.heap.size + 1 + 1 < w1.heap.size := (by omega))
  clear HB
  go_wp2_with (fail)
  go_at_call 40
  (with_reducible refine (HM.out _).mono ?_)
  rintro e w2 ⟨rfl, HB⟩
  obtain ⟨hc2, hf2⟩ := bcell HB
  have hz2 := HB.size
  try simp at hz2
  replace hB := Below.trans (show Below w.heap.size w _ from by repeat (first | with_reducible assumption | exact Below.refl _ _ | refine Below.drew ?_ | refine Below.setCell ?_ (by first | omega | (simp; done) | (simp; omega)) _ | refine Below.alloc ?_ (by first | omega | (simp; done) | (simp; omega)) _)) (Below.mono (B' := w.heap.size) HB (by first | omega | (simp; done) | (simp; omega)))
  try (have z2w0 : w.heap.size < w2.heap.size := (by omega))
  try (have z2w1 : w.heap.size + 1 < w2.heap.size := (by omega))
  try (have z2w2 : w.heap.size + 1 + 1 < w2.heap.size := (by omega))
  try (have z2w10 : w1.heap.size < w2.heap.size := (by omega))
  try (have z2w11 : w1.heap.size + 1 < w2.heap.size := (by omega))
  try (have z2w12 : w1.heap.size + 1 + 1 < w2.heap.size := (by omega))
  clear HB
  go_wp2_with (fail)
  refine bodyPost_ret (v := .tuple #[.agg #[.int .u32 v, .int .i64 s], .int .i64 0]) (by first | (simp [results, Tryd.results50, go_sem]; done) | (simp only [results, Tryd.results50]; go_simp; done) | (simp only [results, Tryd.results50]; go_simp; omega)) rfl (⟨rfl, by repeat (first | with_reducible assumption | exact Below.refl _ _ | refine Below.drew ?_ | refine Below.setCell ?_ (by first | omega | (simp; done) | (simp; omega)) _ | refine Below.alloc ?_ (by first | omega | (simp; done) | (simp; omega)) _)⟩)
set_option maxHeartbeats 1000000 in
theorem radj3_lo_l (m s p v : Int) (w : World) (m0 : 1 ≤ m) (m1 : m < 4294967296) (s0 : 0 ≤ s) (s1 : s ≤ 31) (hp : InR p) (hc : p < -1073741824) (hv0 : m * (0) / 1073741824 = v) (hvr : InR v)  (hv2 : v < 1) : Calls Tryd.prog 50 #[.agg #[.int .u32 m, .int .i64 s], .int .i64 p] w fun e w' => e = .returned (.tuple #[.agg #[.int .u32 0, .int .i64 0], .int .i64 2]) ∧ Below w.heap.size w w' := by
  have hB := Below.refl w.heap.size w
  have hr1 : InR (0) := by omega
  have hM : ∀ w : World, Calls Tryd.prog 40 #[.int .i64 m, .int .i64 (0), .int .i64 1073741824] w fun e w' => e = .returned (.tuple #[.int .i64 v, .int .i64 0]) ∧ Below w.heap.size w w' := by
    intro w
    have hm := rmuldiv m (0) 1073741824 w (by omega) hr1 (by omega)
    have hq : m * (0) / 1073741824 = v := hv0
    have e1 : mdN m (0) 1073741824 = v := by unfold mdN; rw [if_neg (by omega), hq, if_pos hvr]
    have e2 : mdE m (0) 1073741824 = 0 := by unfold mdE; rw [if_neg (by omega), hq, if_pos hvr]
    rw [e1, e2] at hm; exact hm
  have HM := Lib.hid hM
  clear hM hv0
  go_enter Tryd.func50, Tryd.ntmps50
  go_wp2_with (fail)
  go_at_call 53
  (with_reducible refine (rmay3_ok _ _ _ m0 m1 s0 s1).mono ?_)
  rintro e w1 ⟨rfl, HB⟩
  obtain ⟨hc1, hf1⟩ := bcell HB
  have hz1 := HB.size
  try simp at hz1
  replace hB := Below.trans (show Below w.heap.size w _ from by repeat (first | with_reducible assumption | exact Below.refl _ _ | refine Below.drew ?_ | refine Below.setCell ?_ (by first | omega | (simp; done) | (simp; omega)) _ | refine Below.alloc ?_ (by first | omega | (simp; done) | (simp; omega)) _)) (Below.mono (B' := w.heap.size) HB (by first | omega | (simp; done) | (simp; omega)))
  try (have z1w0 : w.heap.size < w1.heap.size := (by omega))
  try (have z1w1 : w.heap.size + 1 < w1.heap.size := (by omega))
  try (have z1w2 : w.heap.size + 1 + 1 < w1.heap.size := (by omega))
  clear HB
  go_wp2_with (fail)
  go_at_call 40
  (with_reducible refine (HM.out _).mono ?_)
  rintro e w2 ⟨rfl, HB⟩
  obtain ⟨hc2, hf2⟩ := bcell HB
  have hz2 := HB.size
  try simp at hz2
  replace hB := Below.trans (show Below w.heap.size w _ from by repeat (first | with_reducible assumption | exact Below.refl _ _ | refine Below.drew ?_ | refine Below.setCell ?_ (by first | omega | (simp; done) | (simp; omega)) _ | refine Below.alloc ?_ (by first | omega | (simp; done) | (simp; omega)) _)) (Below.mono (B' := w.heap.size) HB (by first | omega | (simp; done) | (simp; omega)))
  try (have z2w0 : w.heap.size < w2.heap.size := (by omega))
  try (have z2w1 : w.heap.size + 1 < w2.heap.size := (by omega))
  try (have z2w2 : w.heap.size + 1 + 1 < w2.heap.size := (by omega))
  try (have z2w10 : w1.heap.size < w2.heap.size := (by omega))
  try (have z2w11 : w1.heap.size + 1 < w2.heap.size := (by omega))
  try (have z2w12 : w1.heap.size + 1 + 1 < w2.heap.size := (by omega))
  clear HB
  go_wp2_with (fail)
  refine bodyPost_ret (v := .tuple #[.agg #[.int .u32 0, .int .i64 0], .int .i64 2]) (by first | (simp [results, Tryd.results50, go_sem]; done) | (simp only [results, Tryd.results50]; go_simp; done) | (simp only [results, Tryd.results50]; go_simp; omega)) rfl (⟨rfl, by repeat (first | with_reducible assumption | exact Below.refl _ _ | refine Below.drew ?_ | refine Below.setCell ?_ (by first | omega | (simp; done) | (simp; omega)) _ | refine Below.alloc ?_ (by first | omega | (simp; done) | (simp; omega)) _)⟩)
set_option maxHeartbeats 1000000 in
theorem radj3_lo_h (m s p v : Int) (w : World) (m0 : 1 ≤ m) (m1 : m < 4294967296) (s0 : 0 ≤ s) (s1 : s ≤ 31) (hp : InR p) (hc : p < -1073741824) (hv0 : m * (0) / 1073741824 = v) (hvr : InR v)  (hv2 : 4294967295 < v) : Calls Tryd.prog 50 #[.agg #[.int .u32 m, .int .i64 s], .int .i64 p] w fun e w' => e = .returned (.tuple #[.agg #[.int .u32 0, .int .i64 0], .int .i64 2]) ∧ Below w.heap.size w w' := by
  have hB := Below.refl w.heap.size w
  have hr1 : InR (0) := by omega
  have hM : ∀ w : World, Calls Tryd.prog 40 #[.int .i64 m, .int .i64 (0), .int .i64 1073741824] w fun e w' => e = .returned (.tuple #[.int .i64 v, .int .i64 0]) ∧ Below w.heap.size w w' := by
    intro w
    have hm := rmuldiv m (0) 1073741824 w (by omega) hr1 (by omega)
    have hq : m * (0) / 1073741824 = v := hv0
    have e1 : mdN m (0) 1073741824 = v := by unfold mdN; rw [if_neg (by omega), hq, if_pos hvr]
    have e2 : mdE m (0) 1073741824 = 0 := by unfold mdE; rw [if_neg (by omega), hq, if_pos hvr]
    rw [e1, e2] at hm; exact hm
  have HM := Lib.hid hM
  clear hM hv0
  go_enter Tryd.func50, Tryd.ntmps50
  go_wp2_with (fail)
  go_at_call 53
  (with_reducible refine (rmay3_ok _ _ _ m0 m1 s0 s1).mono ?_)
  rintro e w1 ⟨rfl, HB⟩
  obtain ⟨hc1, hf1⟩ := bcell HB
  have hz1 := HB.size
  try simp at hz1
  replace hB := Below.trans (show Below w.heap.size w _ from by repeat (first | with_reducible assumption | exact Below.refl _ _ | refine Below.drew ?_ | refine Below.setCell ?_ (by first | omega | (simp; done) | (simp; omega)) _ | refine Below.alloc ?_ (by first | omega | (simp; done) | (simp; omega)) _)) (Below.mono (B' := w.heap.size) HB (by first | omega | (simp; done) | (simp; omega)))
  try (have z1w0 : w.heap.size < w1.heap.size := (by omega))
  try (have z1w1 : w.heap.size + 1 < w1.heap.size := (by omega))
  try (have z1w2 : w.heap.size + 1 + 1 < w1.heap.size := (by omega))
  clear HB
  go_wp2_with (fail)
  go_at_call 40
  (with_reducible refine (HM.out _).mono ?_)
  rintro e w2 ⟨rfl, HB⟩
  obtain ⟨hc2, hf2⟩ := bcell HB
  have hz2 := HB.size
  try simp at hz2
  replace hB := Below.trans (show Below w.heap.size w _ from by repeat (first | with_reducible assumption | exact Below.refl _ _ | refine Below.drew ?_ | refine Below.setCell ?_ (by first | omega | (simp; done) | (simp; omega)) _ | refine Below.alloc ?_ (by first | omega | (simp; done) | (simp; omega)) _)) (Below.mono (B' := w.heap.size) HB (by first | omega | (simp; done) | (simp; omega)))
  try (have z2w0 : w.heap.size < w2.heap.size := (by omega))
  try (have z2w1 : w.heap.size + 1 < w2.heap.size := (by omega))
  try (have z2w2 : w.heap.size + 1 + 1 < w2.heap.size := (by omega))
  try (have z2w10 : w1.heap.size < w2.heap.size := (by omega))
  try (have z2w11 : w1.heap.size + 1 < w2.heap.size := (by omega))
  try (have z2w12 : w1.heap.size + 1 + 1 < w2.heap.size := (by omega))
  clear HB
  go_wp2_with (fail)
  refine bodyPost_ret (v := .tuple #[.agg #[.int .u32 0, .int .i64 0], .int .i64 2]) (by first | (simp [results, Tryd.results50, go_sem]; done) | (simp only [results, Tryd.results50]; go_simp; done) | (simp only [results, Tryd.results50]; go_simp; omega)) rfl (⟨rfl, by repeat (first | with_reducible assumption | exact Below.refl _ _ | refine Below.drew ?_ | refine Below.setCell ?_ (by first | omega | (simp; done) | (simp; omega)) _ | refine Below.alloc ?_ (by first | omega | (simp; done) | (simp; omega)) _)⟩)
set_option maxHeartbeats 1000000 in
theorem radj3_hi_ok (m s p v : Int) (w : World) (m0 : 1 ≤ m) (m1 : m < 4294967296) (s0 : 0 ≤ s) (s1 : s ≤ 31) (hp : InR p) (hc : 1073741824 < p) (hv0 : m * (2147483648) / 1073741824 = v) (hvr : InR v) (v0 : 1 ≤ v) (v1 : v ≤ 4294967295) : Calls Tryd.prog 50 #[.agg #[.int .u32 m, .int .i64 s], .int .i64 p] w fun e w' => e = .returned (.tuple #[.agg #[.int .u32 v, .int .i64 s], .int .i64 0]) ∧ Below w.heap.size w w' := by
  have hB := Below.refl w.heap.size w
  have hr1 : InR (2147483648) := by omega
  have hM : ∀ w : World, Calls Tryd.prog 40 #[.int .i64 m, .int .i64 (2147483648), .int .i64 1073741824] w fun e w' => e = .returned (.tuple #[.int .i64 v, .int .i64 0]) ∧ Below w.heap.size w w' := by
    intro w
    have hm := rmuldiv m (2147483648) 1073741824 w (by omega) hr1 (by omega)
    have hq : m * (2147483648) / 1073741824 = v := hv0
    have e1 : mdN m (2147483648) 1073741824 = v := by unfold mdN; rw [if_neg (by omega), hq, if_pos hvr]
    have e2 : mdE m (2147483648) 1073741824 = 0 := by unfold mdE; rw [if_neg (by omega), hq, if_pos hvr]
    rw [e1, e2] at hm; exact hm
  have HM := Lib.hid hM
  clear hM hv0
  have k9 : IntKind.u32.wrap v = v := by rw [IntKind.wrap_u32]; omega
  have hd1 : decide (v ≤ 4294967295) = true := decide_eq_true v1
  go_enter Tryd.func50, Tryd.ntmps50
  go_wp2_with (fail)
  go_at_call 53
  (with_reducible refine (rmay3_ok _ _ _ m0 m1 s0 s1).mono ?_)
  rintro e w1 ⟨rfl, HB⟩
  obtain ⟨hc1, hf1⟩ := bcell HB
  have hz1 := HB.size
  try simp at hz1
  replace hB := Below.trans (show Below w.heap.size w _ from by repeat (first | with_reducible assumption | exact Below.refl _ _ | refine Below.drew ?_ | refine Below.setCell ?_ (by first | omega | (simp; done) | (simp; omega)) _ | refine Below.alloc ?_ (by first | omega | (simp; done) | (simp; omega)) _)) (Below.mono (B' := w.heap.size) HB (by first | omega | (simp; done) | (simp; omega)))
  try (have z1w0 : w.heap.size < w1.heap.size := (by omega))
  try (have z1w1 : w.heap.size + 1 < w1.heap.size := (by omega))
  try (have z1w2 : w.heap.size + 1 + 1 < w1.heap.size := (by omega))
  clear HB
  go_wp2_with (fail)
  go_at_call 40
  (with_reducible refine (HM.out _).mono ?_)
  rintro e w2 ⟨rfl, HB⟩
  obtain ⟨hc2, hf2⟩ := bcell HB
  have hz2 := HB.size
  try simp at hz2
  replace hB := Below.trans (show Below w.heap.size w _ from by repeat (first | with_reducible assumption | exact Below.refl _ _ | refine Below.drew ?_ | refine Below.setCell ?_ (by first | omega | (simp; done) | (simp; omega)) _ | refine Below.alloc ?_ (by first | omega | (simp; done) | (simp; omega)) _)) (Below.mono (B' := w.heap.size) HB (by first | omega | (simp; done) | (simp; omega)))
  try (have z2w0 : w.heap.size < w2.heap.size := (by omega))
  try (have z2w1 : w.heap.size + 1 < w2.heap.size := (by omega))
  try (have z2w2 : w.heap.size + 1 + 1 < w2.heap.size := (by omega))
  try (have z2w10 : w1.heap.size < w2.heap.size := (by omega))
  try (have z2w11 : w1.heap.size + 1 < w2.heap.size := (by omega))
  try (have z2w12 : w1.heap.size + 1 + 1 < w2.heap.size := (by omega))
  clear HB
  go_wp2_with (fail)
  refine bodyPost_ret (v := .tuple #[.agg #[.int .u32 v, .int .i64 s], .int .i64 0]) (by first | (simp [results, Tryd.results50, go_sem]; done) | (simp only [results, Tryd.results50]; go_simp; done) | (simp only [results, Tryd.results50]; go_simp; omega)) rfl (⟨rfl, by repeat (first | with_reducible assumption | exact Below.refl _ _ | refine Below.drew ?_ | refine Below.setCell ?_ (by first | omega | (simp; done) | (simp; omega)) _ | refine Below.alloc ?_ (by first | omega | (simp; done) | (simp; omega)) _)⟩)
set_option maxHeartbeats 1000000 in
theorem radj3_hi_l (m s p v : Int) (w : World) (m0 : 1 ≤ m) (m1 : m < 4294967296) (s0 : 0 ≤ s) (s1 : s ≤ 31) (hp : InR p) (hc : 1073741824 < p) (hv0 : m * (2147483648) / 1073741824 = v) (hvr : InR v)  (hv2 : v < 1) : Calls Tryd.prog 50 #[.agg #[.int .u32 m, .int .i64 s], .int .i64 p] w fun e w' => e = .returned (.tuple #[.agg #[.int .u32 0, .int .i64 0], .int .i64 2]) ∧ Below w.heap.size w w' := by
  have hB := Below.refl w.heap.size w
  have hr1 : InR (2147483648) := by omega
  have hM : ∀ w : World, Calls Tryd.prog 40 #[.int .i64 m, .int .i64 (2147483648), .int .i64 1073741824] w fun e w' => e = .returned (.tuple #[.int .i64 v, .int .i64 0]) ∧ Below w.heap.size w w' := by
    intro w
    have hm := rmuldiv m (2147483648) 1073741824 w (by omega) hr1 (by omega)
    have hq : m * (2147483648) / 1073741824 = v := hv0
    have e1 : mdN m (2147483648) 1073741824 = v := by unfold mdN; rw [if_neg (by omega), hq, if_pos hvr]
    have e2 : mdE m (2147483648) 1073741824 = 0 := by unfold mdE; rw [if_neg (by omega), hq, if_pos hvr]
    rw [e1, e2] at hm; exact hm
  have HM := Lib.hid hM
  clear hM hv0
  go_enter Tryd.func50, Tryd.ntmps50
  go_wp2_with (fail)
  go_at_call 53
  (with_reducible refine (rmay3_ok _ _ _ m0 m1 s0 s1).mono ?_)
  rintro e w1 ⟨rfl, HB⟩
  obtain ⟨hc1, hf1⟩ := bcell HB
  have hz1 := HB.size
  try simp at hz1
  replace hB := Below.trans (show Below w.heap.size w _ from by repeat (first | with_reducible assumption | exact Below.refl _ _ | refine Below.drew ?_ | refine Below.setCell ?_ (by first | omega | (simp; done) | (simp; omega)) _ | refine Below.alloc ?_ (by first | omega | (simp; done) | (simp; omega)) _)) (Below.mono (B' := w.heap.size) HB (by first | omega | (simp; done) | (simp; omega)))
  try (have z1w0 : w.heap.size < w1.heap.size := (by omega))
  try (have z1w1 : w.heap.size + 1 < w1.heap.size := (by omega))
  try (have z1w2 : w.heap.size + 1 + 1 < w1.heap.size := (by omega))
  clear HB
  go_wp2_with (fail)
  go_at_call 40
  (with_reducible refine (HM.out _).mono ?_)
  rintro e w2 ⟨rfl, HB⟩
  obtain ⟨hc2, hf2⟩ := bcell HB
  have hz2 := HB.size
  try simp at hz2
  replace hB := Below.trans (show Below w.heap.size w _ from by repeat (first | with_reducible assumption | exact Below.refl _ _ | refine Below.drew ?_ | refine Below.setCell ?_ (by first | omega | (simp; done) | (simp; omega)) _ | refine Below.alloc ?_ (by first | omega | (simp; done) | (simp; omega)) _)) (Below.mono (B' := w.heap.size) HB (by first | omega | (simp; done) | (simp; omega)))
  try (have z2w0 : w.heap.size < w2.heap.size := (by omega))
  try (have z2w1 : w.heap.size + 1 < w2.heap.size := (by omega))
  try (have z2w2 : w.heap.size + 1 + 1 < w2.heap.size := (by omega))
  try (have z2w10 : w1.heap.size < w2.heap.size := (by omega))
  try (have z2w11 : w1.heap.size + 1 < w2.heap.size := (by omega))
  try (have z2w12 : w1.heap.size + 1 + 1 < w2.heap.size := (by omega))
  clear HB
  go_wp2_with (fail)
  refine bodyPost_ret (v := .tuple #[.agg #[.int .u32 0, .int .i64 0], .int .i64 2]) (by first | (simp [results, Tryd.results50, go_sem]; done) | (simp only [results, Tryd.results50]; go_simp; done) | (simp only [results, Tryd.results50]; go_simp; omega)) rfl (⟨rfl, by repeat (first | with_reducible assumption | exact Below.refl _ _ | refine Below.drew ?_ | refine Below.setCell ?_ (by first | omega | (simp; done) | (simp; omega)) _ | refine Below.alloc ?_ (by first | omega | (simp; done) | (simp; omega)) _)⟩)
set_option maxHeartbeats 1000000 in
theorem radj3_hi_h (m s p v : Int) (w : World) (m0 : 1 ≤ m) (m1 : m < 4294967296) (s0 : 0 ≤ s) (s1 : s ≤ 31) (hp : InR p) (hc : 1073741824 < p) (hv0 : m * (2147483648) / 1073741824 = v) (hvr : InR v)  (hv2 : 4294967295 < v) : Calls Tryd.prog 50 #[.agg #[.int .u32 m, .int .i64 s], .int .i64 p] w fun e w' => e = .returned (.tuple #[.agg #[.int .u32 0, .int .i64 0], .int .i64 2]) ∧ Below w.heap.size w w' := by
  have hB := Below.refl w.heap.size w
  have hr1 : InR (2147483648) := by omega
  have hM : ∀ w : World, Calls Tryd.prog 40 #[.int .i64 m, .int .i64 (2147483648), .int .i64 1073741824] w fun e w' => e = .returned (.tuple #[.int .i64 v, .int .i64 0]) ∧ Below w.heap.size w w' := by
    intro w
    have hm := rmuldiv m (2147483648) 1073741824 w (by omega) hr1 (by omega)
    have hq : m * (2147483648) / 1073741824 = v := hv0
    have e1 : mdN m (2147483648) 1073741824 = v := by unfold mdN; rw [if_neg (by omega), hq, if_pos hvr]
    have e2 : mdE m (2147483648) 1073741824 = 0 := by unfold mdE; rw [if_neg (by omega), hq, if_pos hvr]
    rw [e1, e2] at hm; exact hm
  have HM := Lib.hid hM
  clear hM hv0
  go_enter Tryd.func50, Tryd.ntmps50
  go_wp2_with (fail)
  go_at_call 53
  (with_reducible refine (rmay3_ok _ _ _ m0 m1 s0 s1).mono ?_)
  rintro e w1 ⟨rfl, HB⟩
  obtain ⟨hc1, hf1⟩ := bcell HB
  have hz1 := HB.size
  try simp at hz1
  replace hB := Below.trans (show Below w.heap.size w _ from by repeat (first | with_reducible assumption | exact Below.refl _ _ | refine Below.drew ?_ | refine Below.setCell ?_ (by first | omega | (simp; done) | (simp; omega)) _ | refine Below.alloc ?_ (by first | omega | (simp; done) | (simp; omega)) _)) (Below.mono (B' := w.heap.size) HB (by first | omega | (simp; done) | (simp; omega)))
  try (have z1w0 : w.heap.size < w1.heap.size := (by omega))
  try (have z1w1 : w.heap.size + 1 < w1.heap.size := (by omega))
  try (have z1w2 : w.heap.size + 1 + 1 < w1.heap.size := (by omega))
  clear HB
  go_wp2_with (fail)
  go_at_call 40
  (with_reducible refine (HM.out _).mono ?_)
  rintro e w2 ⟨rfl, HB⟩
  obtain ⟨hc2, hf2⟩ := bcell HB
  have hz2 := HB.size
  try simp at hz2
  replace hB := Below.trans (show Below w.heap.size w _ from by repeat (first | with_reducible assumption | exact Below.refl _ _ | refine Below.drew ?_ | refine Below.setCell ?_ (by first | omega | (simp; done) | (simp; omega)) _ | refine Below.alloc ?_ (by first | omega | (simp; done) | (simp; omega)) _)) (Below.mono (B' := w.heap.size) HB (by first | omega | (simp; done) | (simp; omega)))
  try (have z2w0 : w.heap.size < w2.heap.size := (by omega))
  try (have z2w1 : w.heap.size + 1 < w2.heap.size := (by omega))
  try (have z2w2 : w.heap.size + 1 + 1 < w2.heap.size := (by omega))
  try (have z2w10 : w1.heap.size < w2.heap.size := (by omega))
  try (have z2w11 : w1.heap.size + 1 < w2.heap.size := (by omega))
  try (have z2w12 : w1.heap.size + 1 + 1 < w2.heap.size := (by omega))
  clear HB
  go_wp2_with (fail)
  refine bodyPost_ret (v := .tuple #[.agg #[.int .u32 0, .int .i64 0], .int .i64 2]) (by first | (simp [results, Tryd.results50, go_sem]; done) | (simp only [results, Tryd.results50]; go_simp; done) | (simp only [results, Tryd.results50]; go_simp; omega)) rfl (⟨rfl, by repeat (first | with_reducible assumption | exact Below.refl _ _ | refine Below.drew ?_ | refine Below.setCell ?_ (by first | omega | (simp; done) | (simp; omega)) _ | refine Below.alloc ?_ (by first | omega | (simp; done) | (simp; omega)) _)⟩)
set_option maxHeartbeats 1000000 in
theorem radj3_mid_ok (m s p v : Int) (w : World) (m0 : 1 ≤ m) (m1 : m < 4294967296) (s0 : 0 ≤ s) (s1 : s ≤ 31) (hp : InR p) (hc : -1073741824 ≤ p ∧ p ≤ 1073741824) (hv0 : m * (1073741824 + p) / 1073741824 = v) (hvr : InR v) (v0 : 1 ≤ v) (v1 : v ≤ 4294967295) : Calls Tryd.prog 50 #[.agg #[.int .u32 m, .int .i64 s], .int .i64 p] w fun e w' => e = .returned (.tuple #[.agg #[.int .u32 v, .int .i64 s], .int .i64 0]) ∧ Below w.heap.size w w' := by
  have hB := Below.refl w.heap.size w
  have hr1 : InR (1073741824 + p) := by omega
  have hM : ∀ w : World, Calls Tryd.prog 40 #[.int .i64 m, .int .i64 (1073741824 + p), .int .i64 1073741824] w fun e w' => e = .returned (.tuple #[.int .i64 v, .int .i64 0]) ∧ Below w.heap.size w w' := by
    intro w
    have hm := rmuldiv m (1073741824 + p) 1073741824 w (by omega) hr1 (by omega)
    have hq : m * (1073741824 + p) / 1073741824 = v := hv0
    have e1 : mdN m (1073741824 + p) 1073741824 = v := by unfold mdN; rw [if_neg (by omega), hq, if_pos hvr]
    have e2 : mdE m (1073741824 + p) 1073741824 = 0 := by unfold mdE; rw [if_neg (by omega), hq, if_pos hvr]
    rw [e1, e2] at hm; exact hm
  have HM := Lib.hid hM
  clear hM hv0
  have k9 : IntKind.u32.wrap v = v := by rw [IntKind.wrap_u32]; omega
  have hd1 : decide (v ≤ 4294967295) = true := decide_eq_true v1
  go_enter Tryd.func50, Tryd.ntmps50
  go_wp2_with (fail)
  go_at_call 53
  (with_reducible refine (rmay3_ok _ _ _ m0 m1 s0 s1).mono ?_)
  rintro e w1 ⟨rfl, HB⟩
  obtain ⟨hc1, hf1⟩ := bcell HB
  have hz1 := HB.size
  try simp at hz1
  replace hB := Below.trans (show Below w.heap.size w _ from by repeat (first | with_reducible assumption | exact Below.refl _ _ | refine Below.drew ?_ | refine Below.setCell ?_ (by first | omega | (simp; done) | (simp; omega)) _ | refine Below.alloc ?_ (by first | omega | (simp; done) | (simp; omega)) _)) (Below.mono (B' := w.heap.size) HB (by first | omega | (simp; done) | (simp; omega)))
  try (have z1w0 : w.heap.size < w1.heap.size := (by omega))
  try (have z1w1 : w.heap.size + 1 < w1.heap.size := (by omega))
  try (have z1w2 : w.heap.size + 1 + 1 < w1.heap.size := (by omega))
  clear HB
  go_wp2_with (fail)
  go_at_call 40
  (with_reducible refine (HM.out _).mono ?_)
  rintro e w2 ⟨rfl, HB⟩
  obtain ⟨hc2, hf2⟩ := bcell HB
  have hz2 := HB.size
  try simp at hz2
  replace hB := Below.trans (show Below w.heap.size w _ from by repeat (first | with_reducible assumption | exact Below.refl _ _ | refine Below.drew ?_ | refine Below.setCell ?_ (by first | omega | (simp; done) | (simp; omega)) _ | refine Below.alloc ?_ (by first | omega | (simp; done) | (simp; omega)) _)) (Below.mono (B' := w.heap.size) HB (by first | omega | (simp; done) | (simp; omega)))
  try (have z2w0 : w.heap.size < w2.heap.size := (by omega))
  try (have z2w1 : w.heap.size + 1 < w2.heap.size := (by omega))
  try (have z2w2 : w.heap.size + 1 + 1 < w2.heap.size := (by omega))
  try (have z2w10 : w1.heap.size < w2.heap.size := (by omega))
  try (have z2w11 : w1.heap.size + 1 < w2.heap.size := (by omega))
  try (have z2w12 : w1.heap.size + 1 + 1 < w2.heap.size := (by omega))
  clear HB
  go_wp2_with (fail)
  refine bodyPost_ret (v := .tuple #[.agg #[.int .u32 v, .int .i64 s], .int .i64 0]) (by first | (simp [results, Tryd.results50, go_sem]; done) | (simp only [results, Tryd.results50]; go_simp; done) | (simp only [results, Tryd.results50]; go_simp; omega)) rfl (⟨rfl, by repeat (first | with_reducible assumption | exact Below.refl _ _ | refine Below.drew ?_ | refine Below.setCell ?_ (by first | omega | (simp; done) | (simp; omega)) _ | refine Below.alloc ?_ (by first | omega | (simp; done) | (simp; omega)) _)⟩)
set_option maxHeartbeats 1000000 in
theorem radj3_mid_l (m s p v : Int) (w : World) (m0 : 1 ≤ m) (m1 : m < 4294967296) (s0 : 0 ≤ s) (s1 : s ≤ 31) (hp : InR p) (hc : -1073741824 ≤ p ∧ p ≤ 1073741824) (hv0 : m * (1073741824 + p) / 1073741824 = v) (hvr : InR v)  (hv2 : v < 1) : Calls Tryd.prog 50 #[.agg #[.int .u32 m, .int .i64 s], .int .i64 p] w fun e w' => e = .returned (.tuple #[.agg #[.int .u32 0, .int .i64 0], .int .i64 2]) ∧ Below w.heap.size w w' := by
  have hB := Below.refl w.heap.size w
  have hr1 : InR (1073741824 + p) := by omega
  have hM : ∀ w : World, Calls Tryd.prog 40 #[.int .i64 m, .int .i64 (1073741824 + p), .int .i64 1073741824] w fun e w' => e = .returned (.tuple #[.int .i64 v, .int .i64 0]) ∧ Below w.heap.size w w' := by
    intro w
    have hm := rmuldiv m (1073741824 + p) 1073741824 w (by omega) hr1 (by omega)
    have hq : m * (1073741824 + p) / 1073741824 = v := hv0
    have e1 : mdN m (1073741824 + p) 1073741824 = v := by unfold mdN; rw [if_neg (by omega), hq, if_pos hvr]
    have e2 : mdE m (1073741824 + p) 1073741824 = 0 := by unfold mdE; rw [if_neg (by omega), hq, if_pos hvr]
    rw [e1, e2] at hm; exact hm
  have HM := Lib.hid hM
  clear hM hv0
  go_enter Tryd.func50, Tryd.ntmps50
  go_wp2_with (fail)
  go_at_call 53
  (with_reducible refine (rmay3_ok _ _ _ m0 m1 s0 s1).mono ?_)
  rintro e w1 ⟨rfl, HB⟩
  obtain ⟨hc1, hf1⟩ := bcell HB
  have hz1 := HB.size
  try simp at hz1
  replace hB := Below.trans (show Below w.heap.size w _ from by repeat (first | with_reducible assumption | exact Below.refl _ _ | refine Below.drew ?_ | refine Below.setCell ?_ (by first | omega | (simp; done) | (simp; omega)) _ | refine Below.alloc ?_ (by first | omega | (simp; done) | (simp; omega)) _)) (Below.mono (B' := w.heap.size) HB (by first | omega | (simp; done) | (simp; omega)))
  try (have z1w0 : w.heap.size < w1.heap.size := (by omega))
  try (have z1w1 : w.heap.size + 1 < w1.heap.size := (by omega))
  try (have z1w2 : w.heap.size + 1 + 1 < w1.heap.size := (by omega))
  clear HB
  go_wp2_with (fail)
  go_at_call 40
  (with_reducible refine (HM.out _).mono ?_)
  rintro e w2 ⟨rfl, HB⟩
  obtain ⟨hc2, hf2⟩ := bcell HB
  have hz2 := HB.size
  try simp at hz2
  replace hB := Below.trans (show Below w.heap.size w _ from by repeat (first | with_reducible assumption | exact Below.refl _ _ | refine Below.drew ?_ | refine Below.setCell ?_ (by first | omega | (simp; done) | (simp; omega)) _ | refine Below.alloc ?_ (by first | omega | (simp; done) | (simp; omega)) _)) (Below.mono (B' := w.heap.size) HB (by first | omega | (simp; done) | (simp; omega)))
  try (have z2w0 : w.heap.size < w2.heap.size := (by omega))
  try (have z2w1 : w.heap.size + 1 < w2.heap.size := (by omega))
  try (have z2w2 : w.heap.size + 1 + 1 < w2.heap.size := (by omega))
  try (have z2w10 : w1.heap.size < w2.heap.size := (by omega))
  try (have z2w11 : w1.heap.size + 1 < w2.heap.size := (by omega))
  try (have z2w12 : w1.heap.size + 1 + 1 < w2.heap.size := (by omega))
  clear HB
  go_wp2_with (fail)
  refine bodyPost_ret (v := .tuple #[.agg #[.int .u32 0, .int .i64 0], .int .i64 2]) (by first | (simp [results, Tryd.results50, go_sem]; done) | (simp only [results, Tryd.results50]; go_simp; done) | (simp only [results, Tryd.results50]; go_simp; omega)) rfl (⟨rfl, by repeat (first | with_reducible assumption | exact Below.refl _ _ | refine Below.drew ?_ | refine Below.setCell ?_ (by first | omega | (simp; done) | (simp; omega)) _ | refine Below.alloc ?_ (by first | omega | (simp; done) | (simp; omega)) _)⟩)
set_option maxHeartbeats 1000000 in
theorem radj3_mid_h (m s p v : Int) (w : World) (m0 : 1 ≤ m) (m1 : m < 4294967296) (s0 : 0 ≤ s) (s1 : s ≤ 31) (hp : InR p) (hc : -1073741824 ≤ p ∧ p ≤ 1073741824) (hv0 : m * (1073741824 + p) / 1073741824 = v) (hvr : InR v)  (hv2 : 4294967295 < v) : Calls Tryd.prog 50 #[.agg #[.int .u32 m, .int .i64 s], .int .i64 p] w fun e w' => e = .returned (.tuple #[.agg #[.int .u32 0, .int .i64 0], .int .i64 2]) ∧ Below w.heap.size w w' := by
  have hB := Below.refl w.heap.size w
  have hr1 : InR (1073741824 + p) := by omega
  have hM : ∀ w : World, Calls Tryd.prog 40 #[.int .i64 m, .int .i64 (1073741824 + p), .int .i64 1073741824] w fun e w' => e = .returned (.tuple #[.int .i64 v, .int .i64 0]) ∧ Below w.heap.size w w' := by
    intro w
    have hm := rmuldiv m (1073741824 + p) 1073741824 w (by omega) hr1 (by omega)
    have hq : m * (1073741824 + p) / 1073741824 = v := hv0
    have e1 : mdN m (1073741824 + p) 1073741824 = v := by unfold mdN; rw [if_neg (by omega), hq, if_pos hvr]
    have e2 : mdE m (1073741824 + p) 1073741824 = 0 := by unfold mdE; rw [if_neg (by omega), hq, if_pos hvr]
    rw [e1, e2] at hm; exact hm
  have HM := Lib.hid hM
  clear hM hv0
  go_enter Tryd.func50, Tryd.ntmps50
  go_wp2_with (fail)
  go_at_call 53
  (with_reducible refine (rmay3_ok _ _ _ m0 m1 s0 s1).mono ?_)
  rintro e w1 ⟨rfl, HB⟩
  obtain ⟨hc1, hf1⟩ := bcell HB
  have hz1 := HB.size
  try simp at hz1
  replace hB := Below.trans (show Below w.heap.size w _ from by repeat (first | with_reducible assumption | exact Below.refl _ _ | refine Below.drew ?_ | refine Below.setCell ?_ (by first | omega | (simp; done) | (simp; omega)) _ | refine Below.alloc ?_ (by first | omega | (simp; done) | (simp; omega)) _)) (Below.mono (B' := w.heap.size) HB (by first | omega | (simp; done) | (simp; omega)))
  try (have z1w0 : w.heap.size < w1.heap.size := (by omega))
  try (have z1w1 : w.heap.size + 1 < w1.heap.size := (by omega))
  try (have z1w2 : w.heap.size + 1 + 1 < w1.heap.size := (by omega))
  clear HB
  go_wp2_with (fail)
  go_at_call 40
  (with_reducible refine (HM.out _).mono ?_)
  rintro e w2 ⟨rfl, HB⟩
  obtain ⟨hc2, hf2⟩ := bcell HB
  have hz2 := HB.size
  try simp at hz2
  replace hB := Below.trans (show Below w.heap.size w _ from by repeat (first | with_reducible assumption | exact Below.refl _ _ | refine Below.drew ?_ | refine Below.setCell ?_ (by first | omega | (simp; done) | (simp; omega)) _ | refine Below.alloc ?_ (by first | omega | (simp; done) | (simp; omega)) _)) (Below.mono (B' := w.heap.size) HB (by first | omega | (simp; done) | (simp; omega)))
  try (have z2w0 : w.heap.size < w2.heap.size := (by omega))
  try (have z2w1 : w.heap.size + 1 < w2.heap.size := (by omega))
  try (have z2w2 : w.heap.size + 1 + 1 < w2.heap.size := (by omega))
  try (have z2w10 : w1.heap.size < w2.heap.size := (by omega))
  try (have z2w11 : w1.heap.size + 1 < w2.heap.size := (by omega))
  try (have z2w12 : w1.heap.size + 1 + 1 < w2.heap.size := (by omega))
  clear HB
  go_wp2_with (fail)
  refine bodyPost_ret (v := .tuple #[.agg #[.int .u32 0, .int .i64 0], .int .i64 2]) (by first | (simp [results, Tryd.results50, go_sem]; done) | (simp only [results, Tryd.results50]; go_simp; done) | (simp only [results, Tryd.results50]; go_simp; omega)) rfl (⟨rfl, by repeat (first | with_reducible assumption | exact Below.refl _ _ | refine Below.drew ?_ | refine Below.setCell ?_ (by first | omega | (simp; done) | (simp; omega)) _ | refine Below.alloc ?_ (by first | omega | (simp; done) | (simp; omega)) _)⟩)
theorem adj_rng (m p : Int) (m0 : 0 ≤ m) (m1 : m < 4294967296) : InR (adjF m p) := by
  have hk := clampK p
  unfold adjF
  generalize clampS p (-1073741824) 1073741824 = c at *
  have h1 : 0 ≤ m * (1073741824 + c) := Int.mul_nonneg m0 (by omega)
  have h2 : m * (1073741824 + c) ≤ 4294967296 * 2147483648 := Int.mul_le_mul (by omega) (by omega) (by omega) (by omega)
  omega
theorem radj3 (m s p : Int) (w : World) (m0 : 1 ≤ m) (m1 : m < 4294967296) (s0 : 0 ≤ s) (s1 : s ≤ 31) (hp : InR p) (v0 : 1 ≤ adjF m p) (v1 : adjF m p ≤ 4294967295) : Calls Tryd.prog 50 #[.agg #[.int .u32 m, .int .i64 s], .int .i64 p] w fun e w' => e = .returned (.tuple #[.agg #[.int .u32 (adjF m p), .int .i64 s], .int .i64 0]) ∧ Below w.heap.size w w' := by
  have hr := adj_rng m p (by omega) m1
  by_cases c1 : p < -1073741824
  · exact radj3_lo_ok m s p _ w m0 m1 s0 s1 hp c1 (by unfold adjF clampS; rw [if_pos (Or.inl c1)]; rfl) hr v0 v1
  · by_cases c2 : 1073741824 < p
    · exact radj3_hi_ok m s p _ w m0 m1 s0 s1 hp c2 (by unfold adjF clampS; rw [if_neg (by omega), if_pos c2]; rfl) hr v0 v1
    · exact radj3_mid_ok m s p _ w m0 m1 s0 s1 hp ⟨by omega, by omega⟩ (by unfold adjF clampS; rw [if_neg (by omega), if_neg c2]) hr v0 v1
theorem radj3_big (m s p : Int) (w : World) (m0 : 1 ≤ m) (m1 : m < 4294967296) (s0 : 0 ≤ s) (s1 : s ≤ 31) (hp : InR p) (hv : ¬ (1 ≤ adjF m p ∧ adjF m p ≤ 4294967295)) : Calls Tryd.prog 50 #[.agg #[.int .u32 m, .int .i64 s], .int .i64 p] w fun e w' => e = .returned (.tuple #[.agg #[.int .u32 0, .int .i64 0], .int .i64 2]) ∧ Below w.heap.size w w' := by
  have hr := adj_rng m p (by omega) m1
  by_cases c1 : p < -1073741824
  · have e := show m * 0 / 1073741824 = adjF m p by unfold adjF clampS; rw [if_pos (Or.inl c1)]; rfl
    by_cases hl : adjF m p < 1
    · exact radj3_lo_l m s p _ w m0 m1 s0 s1 hp c1 e hr hl
    · exact radj3_lo_h m s p _ w m0 m1 s0 s1 hp c1 e hr (by omega)
  · by_cases c2 : 1073741824 < p
    · have e := show m * 2147483648 / 1073741824 = adjF m p by unfold adjF clampS; rw [if_neg (by omega), if_pos c2]; rfl
      by_cases hl : adjF m p < 1
      · exact radj3_hi_l m s p _ w m0 m1 s0 s1 hp c2 e hr hl
      · exact radj3_hi_h m s p _ w m0 m1 s0 s1 hp c2 e hr (by omega)
    · have e := show m * (1073741824 + p) / 1073741824 = adjF m p by unfold adjF clampS; rw [if_neg (by omega), if_neg c2]
      by_cases hl : adjF m p < 1
      · exact radj3_mid_l m s p _ w m0 m1 s0 s1 hp ⟨by omega, by omega⟩ e hr hl
      · exact radj3_mid_h m s p _ w m0 m1 s0 s1 hp ⟨by omega, by omega⟩ e hr (by omega)
end Go.Proofs.YtffdglhdklmjoaaDoor
