/-
  Layer 14: samples that may not be, and all that the program tells.
-/
import Derived.Test.YtffdglhdklmjoaaDoorW14
import Derived.Test.YtffdglhdklmjoaaDoorW02u
import Derived.Test.YtffdglhdklmjoaaDoorW13
namespace Go.Proofs.YtffdglhdklmjoaaDoor
open Go.RowKit Go.Extern.Stop Go.Stop Go.Extern
set_option linter.unusedVariables false
set_option linter.unusedSimpArgs false
abbrev OkT (t : Int) : Prop := -4611686018427387904 < t ∧ t < 4611686018427387904
theorem size_big (t : Int) (w : World) (ht : InR t) (h : ¬ OkT t) : Calls Tryd.prog 123 #[.int .i64 t] w fun e w' => (∃ v : Int, 4611686018427387904 ≤ v ∧ v ≤ 9223372036854775807 ∧ e = .returned (.int .i64 v)) ∧ w = w' := by
  by_cases h0 : t < 0
  · have hs : 4611686018427387904 ≤ sat (0 - t) ∧ sat (0 - t) ≤ 9223372036854775807 := by unfold sat; split; omega; split <;> omega
    generalize hz : sat (0 - t) = z at *
    have HZ := Lib.hid hz
    clear hz
    go_enter Tryd.func123, Tryd.ntmps123
    go_wp2_with (go_at_call 125; (with_reducible refine (subsat_s _ _ _ (by omega) (by omega)).mono ?_); rw [HZ.out]; rintro e w' ⟨rfl, rfl⟩)
    go_ret
    exact ⟨⟨z, hs.1, hs.2, rfl⟩, rfl⟩
  · go_enter Tryd.func123, Tryd.ntmps123
    go_wp2_with (fail)
    go_ret
    exact ⟨⟨t, by omega, by omega, rfl⟩, rfl⟩
set_option maxRecDepth 100000 in
set_option maxHeartbeats 4000000 in
theorem scheck_t0 (A C S G E : Int) (w : World) (iA : InR A) (iC : InR C) (iS : InR S) (iG : InR G) (iE : InR E)  (hb : ¬ OkT A) : Calls Tryd.prog 88 #[.agg #[.int .i64 A, .int .i64 C, .int .i64 S, .int .i64 G, .int .i64 E]] w fun e w' => e = .returned (errV 1) ∧ Below w.heap.size w w' := by
  have hB := Below.refl w.heap.size w
  have HB := Lib.hid hb
  clear hb
  go_enter Tryd.func88, Tryd.ntmps88
  go_wp2_with (fail)
  go_loopg [4, 16] 4 (fun k t4 t16 wr => ∃ i : Nat, i ≤ 0 ∧ t16 = .int .i64 i ∧ k = 4 - i ∧ (w.alloc (.cells #[.int .i64 A, .int .i64 C, .int .i64 S, .int .i64 G, .int .i64 E] 125)) = wr)
  case atStart => exact ⟨0, by omega, rfl, rfl, rfl⟩
  case round =>
    obtain ⟨i, hi, rfl, rfl, rfl⟩ := hrel
    obtain rfl : i = 0 := by omega
    · go_wp2_with (first | rw [idx_0] | (go_at_call 123; (with_reducible refine (size_big _ _ iA HB.out).mono ?_); rintro e w' ⟨⟨v, v0, v1, rfl⟩, rfl⟩))
      go_ret
      exact ⟨rfl, by repeat (first | with_reducible assumption | exact Below.refl _ _ | refine Below.drew ?_ | refine Below.setCell ?_ (by first | omega | (simp; done) | (simp; omega)) _ | refine Below.alloc ?_ (by first | omega | (simp; done) | (simp; omega)) _)⟩
set_option maxRecDepth 100000 in
set_option maxHeartbeats 4000000 in
theorem scheck_t1 (A C S G E : Int) (w : World) (iA : InR A) (iC : InR C) (iS : InR S) (iG : InR G) (iE : InR E) (hA : OkT A) (hb : ¬ OkT C) : Calls Tryd.prog 88 #[.agg #[.int .i64 A, .int .i64 C, .int .i64 S, .int .i64 G, .int .i64 E]] w fun e w' => e = .returned (errV 1) ∧ Below w.heap.size w w' := by
  have hB := Below.refl w.heap.size w
  have HB := Lib.hid hb
  clear hb
  go_enter Tryd.func88, Tryd.ntmps88
  go_wp2_with (fail)
  go_loopg [4, 16] 4 (fun k t4 t16 wr => ∃ i : Nat, i ≤ 1 ∧ t16 = .int .i64 i ∧ k = 4 - i ∧ (w.alloc (.cells #[.int .i64 A, .int .i64 C, .int .i64 S, .int .i64 G, .int .i64 E] 125)) = wr)
  case atStart => exact ⟨0, by omega, rfl, rfl, rfl⟩
  case round =>
    obtain ⟨i, hi, rfl, rfl, rfl⟩ := hrel
    obtain rfl | rfl : i = 0 ∨ i = 1 := by omega
    · go_wp2_with (first | rw [idx_0] | (go_at_call 123; (with_reducible refine (tsize_c _ _ hA).mono ?_); rintro e w' ⟨⟨v, v0, v1, rfl⟩, rfl⟩))
      go_roundg 3
      case measure => omega
      case rel => exact ⟨1, by omega, rfl, rfl, rfl⟩
    · go_wp2_with (first | rw [idx_1] | (go_at_call 123; (with_reducible refine (size_big _ _ iC HB.out).mono ?_); rintro e w' ⟨⟨v, v0, v1, rfl⟩, rfl⟩))
      go_ret
      exact ⟨rfl, by repeat (first | with_reducible assumption | exact Below.refl _ _ | refine Below.drew ?_ | refine Below.setCell ?_ (by first | omega | (simp; done) | (simp; omega)) _ | refine Below.alloc ?_ (by first | omega | (simp; done) | (simp; omega)) _)⟩
set_option maxRecDepth 100000 in
set_option maxHeartbeats 4000000 in
theorem scheck_t2 (A C S G E : Int) (w : World) (iA : InR A) (iC : InR C) (iS : InR S) (iG : InR G) (iE : InR E) (hA : OkT A) (hC : OkT C) (hb : ¬ OkT S) : Calls Tryd.prog 88 #[.agg #[.int .i64 A, .int .i64 C, .int .i64 S, .int .i64 G, .int .i64 E]] w fun e w' => e = .returned (errV 1) ∧ Below w.heap.size w w' := by
  have hB := Below.refl w.heap.size w
  have HB := Lib.hid hb
  clear hb
  go_enter Tryd.func88, Tryd.ntmps88
  go_wp2_with (fail)
  go_loopg [4, 16] 4 (fun k t4 t16 wr => ∃ i : Nat, i ≤ 2 ∧ t16 = .int .i64 i ∧ k = 4 - i ∧ (w.alloc (.cells #[.int .i64 A, .int .i64 C, .int .i64 S, .int .i64 G, .int .i64 E] 125)) = wr)
  case atStart => exact ⟨0, by omega, rfl, rfl, rfl⟩
  case round =>
    obtain ⟨i, hi, rfl, rfl, rfl⟩ := hrel
    obtain rfl | rfl | rfl : i = 0 ∨ i = 1 ∨ i = 2 := by omega
    · go_wp2_with (first | rw [idx_0] | (go_at_call 123; (with_reducible refine (tsize_c _ _ hA).mono ?_); rintro e w' ⟨⟨v, v0, v1, rfl⟩, rfl⟩))
      go_roundg 3
      case measure => omega
      case rel => exact ⟨1, by omega, rfl, rfl, rfl⟩
    · go_wp2_with (first | rw [idx_1] | (go_at_call 123; (with_reducible refine (tsize_c _ _ hC).mono ?_); rintro e w' ⟨⟨v, v0, v1, rfl⟩, rfl⟩))
      go_roundg 2
      case measure => omega
      case rel => exact ⟨2, by omega, rfl, rfl, rfl⟩
    · go_wp2_with (first | rw [idx_2] | (go_at_call 123; (with_reducible refine (size_big _ _ iS HB.out).mono ?_); rintro e w' ⟨⟨v, v0, v1, rfl⟩, rfl⟩))
      go_ret
      exact ⟨rfl, by repeat (first | with_reducible assumption | exact Below.refl _ _ | refine Below.drew ?_ | refine Below.setCell ?_ (by first | omega | (simp; done) | (simp; omega)) _ | refine Below.alloc ?_ (by first | omega | (simp; done) | (simp; omega)) _)⟩
set_option maxRecDepth 100000 in
set_option maxHeartbeats 4000000 in
theorem scheck_t3 (A C S G E : Int) (w : World) (iA : InR A) (iC : InR C) (iS : InR S) (iG : InR G) (iE : InR E) (hA : OkT A) (hC : OkT C) (hS : OkT S) (hb : ¬ OkT G) : Calls Tryd.prog 88 #[.agg #[.int .i64 A, .int .i64 C, .int .i64 S, .int .i64 G, .int .i64 E]] w fun e w' => e = .returned (errV 1) ∧ Below w.heap.size w w' := by
  have hB := Below.refl w.heap.size w
  have HB := Lib.hid hb
  clear hb
  go_enter Tryd.func88, Tryd.ntmps88
  go_wp2_with (fail)
  go_loopg [4, 16] 4 (fun k t4 t16 wr => ∃ i : Nat, i ≤ 3 ∧ t16 = .int .i64 i ∧ k = 4 - i ∧ (w.alloc (.cells #[.int .i64 A, .int .i64 C, .int .i64 S, .int .i64 G, .int .i64 E] 125)) = wr)
  case atStart => exact ⟨0, by omega, rfl, rfl, rfl⟩
  case round =>
    obtain ⟨i, hi, rfl, rfl, rfl⟩ := hrel
    obtain rfl | rfl | rfl | rfl : i = 0 ∨ i = 1 ∨ i = 2 ∨ i = 3 := by omega
    · go_wp2_with (first | rw [idx_0] | (go_at_call 123; (with_reducible refine (tsize_c _ _ hA).mono ?_); rintro e w' ⟨⟨v, v0, v1, rfl⟩, rfl⟩))
      go_roundg 3
      case measure => omega
      case rel => exact ⟨1, by omega, rfl, rfl, rfl⟩
    · go_wp2_with (first | rw [idx_1] | (go_at_call 123; (with_reducible refine (tsize_c _ _ hC).mono ?_); rintro e w' ⟨⟨v, v0, v1, rfl⟩, rfl⟩))
      go_roundg 2
      case measure => omega
      case rel => exact ⟨2, by omega, rfl, rfl, rfl⟩
    · go_wp2_with (first | rw [idx_2] | (go_at_call 123; (with_reducible refine (tsize_c _ _ hS).mono ?_); rintro e w' ⟨⟨v, v0, v1, rfl⟩, rfl⟩))
      go_roundg 1
      case measure => omega
      case rel => exact ⟨3, by omega, rfl, rfl, rfl⟩
    · go_wp2_with (first | rw [idx_3] | (go_at_call 123; (with_reducible refine (size_big _ _ iG HB.out).mono ?_); rintro e w' ⟨⟨v, v0, v1, rfl⟩, rfl⟩))
      go_ret
      exact ⟨rfl, by repeat (first | with_reducible assumption | exact Below.refl _ _ | refine Below.drew ?_ | refine Below.setCell ?_ (by first | omega | (simp; done) | (simp; omega)) _ | refine Below.alloc ?_ (by first | omega | (simp; done) | (simp; omega)) _)⟩
theorem bad_e {E X Y : Int} (h : ¬ (0 ≤ E ∧ E ≤ 1099511627776 ∧ 0 ≤ X ∧ 0 ≤ Y ∧ X ≤ 1099511627776 ∧ Y ≤ X)) : E < 0 ∨ (0 ≤ E ∧ 1099511627776 < E) ∨ (0 ≤ E ∧ E ≤ 1099511627776 ∧ X < 0) ∨ (0 ≤ E ∧ E ≤ 1099511627776 ∧ 0 ≤ X ∧ Y < 0) ∨ (0 ≤ E ∧ E ≤ 1099511627776 ∧ 0 ≤ X ∧ 0 ≤ Y ∧ 1099511627776 < X) ∨ (0 ≤ E ∧ E ≤ 1099511627776 ∧ 0 ≤ X ∧ 0 ≤ Y ∧ X ≤ 1099511627776 ∧ X < Y) := by omega
set_option maxRecDepth 100000 in
set_option maxHeartbeats 4000000 in
theorem scheck_e (A C S G E : Int) (w : World) (iA : InR A) (iC : InR C) (iS : InR S) (iG : InR G) (iE : InR E) (hA : OkT A) (hC : OkT C) (hS : OkT S) (hG : OkT G) (h : E < 0 ∨ (0 ≤ E ∧ 1099511627776 < E) ∨ (0 ≤ E ∧ E ≤ 1099511627776 ∧ (G - A) < 0) ∨ (0 ≤ E ∧ E ≤ 1099511627776 ∧ 0 ≤ (G - A) ∧ (S - C) < 0) ∨ (0 ≤ E ∧ E ≤ 1099511627776 ∧ 0 ≤ (G - A) ∧ 0 ≤ (S - C) ∧ 1099511627776 < (G - A)) ∨ (0 ≤ E ∧ E ≤ 1099511627776 ∧ 0 ≤ (G - A) ∧ 0 ≤ (S - C) ∧ (G - A) ≤ 1099511627776 ∧ (G - A) < (S - C))) : Calls Tryd.prog 88 #[.agg #[.int .i64 A, .int .i64 C, .int .i64 S, .int .i64 G, .int .i64 E]] w fun e w' => e = .returned (errV 1) ∧ Below w.heap.size w w' := by
  have hB := Below.refl w.heap.size w
  go_enter Tryd.func88, Tryd.ntmps88
  go_wp2_with (fail)
  go_loopg [4, 16] 4 (fun k t4 t16 wr => ∃ i : Nat, i ≤ 4 ∧ t16 = .int .i64 i ∧ k = 4 - i ∧ (w.alloc (.cells #[.int .i64 A, .int .i64 C, .int .i64 S, .int .i64 G, .int .i64 E] 125)) = wr)
  case atStart => exact ⟨0, by omega, rfl, rfl, rfl⟩
  case round =>
    obtain ⟨i, hi, rfl, rfl, rfl⟩ := hrel
    obtain rfl | rfl | rfl | rfl | rfl : i = 0 ∨ i = 1 ∨ i = 2 ∨ i = 3 ∨ i = 4 := by omega
    · go_wp2_with (first | rw [idx_0] | (go_at_call 123; (with_reducible refine (tsize_c _ _ hA).mono ?_); rintro e w' ⟨⟨v, v0, v1, rfl⟩, rfl⟩))
      go_roundg 3
      case measure => omega
      case rel => exact ⟨1, by omega, rfl, rfl, rfl⟩
    · go_wp2_with (first | rw [idx_1] | (go_at_call 123; (with_reducible refine (tsize_c _ _ hC).mono ?_); rintro e w' ⟨⟨v, v0, v1, rfl⟩, rfl⟩))
      go_roundg 2
      case measure => omega
      case rel => exact ⟨2, by omega, rfl, rfl, rfl⟩
    · go_wp2_with (first | rw [idx_2] | (go_at_call 123; (with_reducible refine (tsize_c _ _ hS).mono ?_); rintro e w' ⟨⟨v, v0, v1, rfl⟩, rfl⟩))
      go_roundg 1
      case measure => omega
      case rel => exact ⟨3, by omega, rfl, rfl, rfl⟩
    · go_wp2_with (first | rw [idx_3] | (go_at_call 123; (with_reducible refine (tsize_c _ _ hG).mono ?_); rintro e w' ⟨⟨v, v0, v1, rfl⟩, rfl⟩))
      go_roundg 0
      case measure => omega
      case rel => exact ⟨4, by omega, rfl, rfl, rfl⟩
    · go_wp2_with (fail)
      go_region
      rcases h with h | ⟨g1, h⟩ | ⟨g1, g2, h⟩ | ⟨g1, g2, g3, h⟩ | ⟨g1, g2, g3, g4, h⟩ | ⟨g1, g2, g3, g4, g5, h⟩
      all_goals (try (have f1 : A ≤ G := by omega))
      all_goals (try (have f2 : G < A := by omega))
      all_goals (try (have f3 : C ≤ S := by omega))
      all_goals (try (have f4 : S < C := by omega))
      all_goals
        go_wp2_with (fail)
        go_ret
        exact ⟨rfl, by repeat (first | with_reducible assumption | exact Below.refl _ _ | refine Below.drew ?_ | refine Below.setCell ?_ (by first | omega | (simp; done) | (simp; omega)) _ | refine Below.alloc ?_ (by first | omega | (simp; done) | (simp; omega)) _)⟩
end Go.Proofs.YtffdglhdklmjoaaDoor
