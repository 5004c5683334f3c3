/-
 Numbers of digits: as a number.
-/
import Derived.Test.YtgondiedehjkhaaDoorW02msums
namespace Go.Proofs.YtgondiedehjkhaaDoor
open Go.RowKit Go.Extern.Stop Go.Stop Go.Extern
set_option linter.unusedVariables false
set_option linter.unusedSimpArgs false
theorem to_pos_x (z hi lo : Int) (w : World) (h0 : 0 ≤ z) (h1 : z < 170141183460469231731687303715884105728) (hh : hi = z / 18446744073709551616) (hl : lo = z % 18446744073709551616) :
   Calls Tryd.prog 15 #[.agg #[.bool false, .int .u64 (dg (z) 0), .int .u64 (dg (z) 1), .int .u64 (dg (z) 2), .int .u64 (dg (z) 3), .int .u64 (dg (z) 4), .int .u64 (dg (z) 5), .int .u64 (dg (z) 6), .int .u64 (dg (z) 7)]] w fun e w' => e = .returned (.tuple #[.agg #[.int .i64 hi, .int .u64 lo], .bool true]) ∧ Below w.heap.size w w' := by
 subst hh hl; exact to_small_false z w (Lib.hid (to_small z h0 h1))
theorem to_pos_no (z : Int) (w : World) (h0 : 170141183460469231731687303715884105728 ≤ z) (h1 : z < B8) :
   Calls Tryd.prog 15 #[.agg #[.bool false, .int .u64 (dg (z) 0), .int .u64 (dg (z) 1), .int .u64 (dg (z) 2), .int .u64 (dg (z) 3), .int .u64 (dg (z) 4), .int .u64 (dg (z) 5), .int .u64 (dg (z) 6), .int .u64 (dg (z) 7)]] w fun e w' => e = .returned (.tuple #[.agg #[.int .i64 0, .int .u64 0], .bool false]) ∧ Below w.heap.size w w' :=
 to_large_false z w (Lib.hid (to_large z h0 h1))
theorem to_neg_x (y hi lo : Int) (w : World) (h0 : 1 ≤ y) (h1 : y ≤ 170141183460469231731687303715884105728) (hh : hi = -y / 18446744073709551616) (hl : lo = -y % 18446744073709551616) :
   Calls Tryd.prog 15 #[.agg #[.bool true, .int .u64 (dg (y) 0), .int .u64 (dg (y) 1), .int .u64 (dg (y) 2), .int .u64 (dg (y) 3), .int .u64 (dg (y) 4), .int .u64 (dg (y) 5), .int .u64 (dg (y) 6), .int .u64 (dg (y) 7)]] w fun e w' => e = .returned (.tuple #[.agg #[.int .i64 hi, .int .u64 lo], .bool true]) ∧ Below w.heap.size w w' := by
 obtain ⟨t, rfl⟩ : ∃ t, y = t + 1 := ⟨y - 1, by omega⟩
 have e1 : hi = -1 - t / 18446744073709551616 := by omega
 have e2 : lo = 18446744073709551615 - t % 18446744073709551616 := by omega
 subst e1 e2; exact to_small_true t w (Lib.hid (to_small t (by omega) (by omega)))
theorem to_neg_no (y : Int) (w : World) (h0 : 170141183460469231731687303715884105728 < y) (h1 : y < B8) :
   Calls Tryd.prog 15 #[.agg #[.bool true, .int .u64 (dg (y) 0), .int .u64 (dg (y) 1), .int .u64 (dg (y) 2), .int .u64 (dg (y) 3), .int .u64 (dg (y) 4), .int .u64 (dg (y) 5), .int .u64 (dg (y) 6), .int .u64 (dg (y) 7)]] w fun e w' => e = .returned (.tuple #[.agg #[.int .i64 0, .int .u64 0], .bool false]) ∧ Below w.heap.size w w' := by
 obtain ⟨t, rfl⟩ : ∃ t, y = t + 1 := ⟨y - 1, by omega⟩
 exact to_large_true t w (Lib.hid (to_large t (by omega) (by omega)))
set_option maxRecDepth 100000 in
set_option maxHeartbeats 1000000 in
theorem number_p0 (z : Int) (w : World) (h0 : 0 ≤ z) (h1 : z < 9223372036854775808) : Calls Tryd.prog 17 #[.agg #[.bool false, .int .u64 (dg (z) 0), .int .u64 (dg (z) 1), .int .u64 (dg (z) 2), .int .u64 (dg (z) 3), .int .u64 (dg (z) 4), .int .u64 (dg (z) 5), .int .u64 (dg (z) 6), .int .u64 (dg (z) 7)]] w fun e w' => e = .returned (.tuple #[.int .i64 (z), .bool true]) ∧ Below w.heap.size w w' := by
 go_enter Tryd.func17, Tryd.ntmps17
 go_wp2_with (go_at_call 15; (with_reducible refine (to_pos_x z 0 z _ (by omega) (by omega) (by omega) (by omega)).mono ?_); rintro e w1 ⟨rfl, hb1⟩; obtain ⟨hc1, hf1⟩ := bcell hb1; have hz1 := hb1.size; (try simp at hz1); have z1 : w.heap.size < w1.heap.size := (by omega))
 go_ret2
 first
 | exact ⟨rfl, by repeat (first | with_reducible assumption | with_reducible exact Below.refl _ _ | (with_reducible refine Below.setCell ?_ (by first | omega | (simp; done) | (simp; omega)) _) | (with_reducible refine Below.alloc ?_ (by first | omega | (simp; done) | (simp; omega)) _) | (with_reducible refine Below.drew ?_) | (with_reducible refine Below.trans ?_ (Below.mono hb1 (by first | omega | (simp; done) | (simp; omega)))) | (with_reducible refine below_drewN ?_ _))⟩
 | exact ⟨congrArg (fun q => Ending.returned (.tuple #[.int .i64 q, .bool true])) (by have := HL.out; omega), by repeat (first | with_reducible assumption | with_reducible exact Below.refl _ _ | (with_reducible refine Below.setCell ?_ (by first | omega | (simp; done) | (simp; omega)) _) | (with_reducible refine Below.alloc ?_ (by first | omega | (simp; done) | (simp; omega)) _) | (with_reducible refine Below.drew ?_) | (with_reducible refine Below.trans ?_ (Below.mono hb1 (by first | omega | (simp; done) | (simp; omega)))) | (with_reducible refine below_drewN ?_ _))⟩
set_option maxRecDepth 100000 in
set_option maxHeartbeats 1000000 in
theorem number_p1 (z : Int) (w : World) (h0 : 9223372036854775808 ≤ z) (h1 : z < 18446744073709551616) : Calls Tryd.prog 17 #[.agg #[.bool false, .int .u64 (dg (z) 0), .int .u64 (dg (z) 1), .int .u64 (dg (z) 2), .int .u64 (dg (z) 3), .int .u64 (dg (z) 4), .int .u64 (dg (z) 5), .int .u64 (dg (z) 6), .int .u64 (dg (z) 7)]] w fun e w' => e = .returned (.tuple #[.int .i64 (0), .bool false]) ∧ Below w.heap.size w w' := by
 go_enter Tryd.func17, Tryd.ntmps17
 go_wp2_with (go_at_call 15; (with_reducible refine (to_pos_x z 0 z _ (by omega) (by omega) (by omega) (by omega)).mono ?_); rintro e w1 ⟨rfl, hb1⟩; obtain ⟨hc1, hf1⟩ := bcell hb1; have hz1 := hb1.size; (try simp at hz1); have z1 : w.heap.size < w1.heap.size := (by omega))
 go_ret2
 first
 | exact ⟨rfl, by repeat (first | with_reducible assumption | with_reducible exact Below.refl _ _ | (with_reducible refine Below.setCell ?_ (by first | omega | (simp; done) | (simp; omega)) _) | (with_reducible refine Below.alloc ?_ (by first | omega | (simp; done) | (simp; omega)) _) | (with_reducible refine Below.drew ?_) | (with_reducible refine Below.trans ?_ (Below.mono hb1 (by first | omega | (simp; done) | (simp; omega)))) | (with_reducible refine below_drewN ?_ _))⟩
 | exact ⟨congrArg (fun q => Ending.returned (.tuple #[.int .i64 q, .bool true])) (by have := HL.out; omega), by repeat (first | with_reducible assumption | with_reducible exact Below.refl _ _ | (with_reducible refine Below.setCell ?_ (by first | omega | (simp; done) | (simp; omega)) _) | (with_reducible refine Below.alloc ?_ (by first | omega | (simp; done) | (simp; omega)) _) | (with_reducible refine Below.drew ?_) | (with_reducible refine Below.trans ?_ (Below.mono hb1 (by first | omega | (simp; done) | (simp; omega)))) | (with_reducible refine below_drewN ?_ _))⟩
set_option maxRecDepth 100000 in
set_option maxHeartbeats 1000000 in
theorem number_p2 (z : Int) (w : World) (h0 : 18446744073709551616 ≤ z) (h1 : z < 170141183460469231731687303715884105728) : Calls Tryd.prog 17 #[.agg #[.bool false, .int .u64 (dg (z) 0), .int .u64 (dg (z) 1), .int .u64 (dg (z) 2), .int .u64 (dg (z) 3), .int .u64 (dg (z) 4), .int .u64 (dg (z) 5), .int .u64 (dg (z) 6), .int .u64 (dg (z) 7)]] w fun e w' => e = .returned (.tuple #[.int .i64 (0), .bool false]) ∧ Below w.heap.size w w' := by
 obtain ⟨hi, hh⟩ : ∃ hi, hi = z / 18446744073709551616 := ⟨_, rfl⟩
 obtain ⟨lo, hl⟩ : ∃ lo, lo = z % 18446744073709551616 := ⟨_, rfl⟩
 have g0 : 1 ≤ hi := by omega
 have g1 : hi ≤ 9223372036854775807 := by omega
 have g2 : 0 ≤ lo := by omega
 have g3 : lo ≤ 18446744073709551615 := by omega
 have n1 : decide (hi = 0) = false := decide_eq_false (by omega)
 have n2 : decide (hi = -1) = false := decide_eq_false (by omega)
 have HH := Lib.hid hh
 have HL := Lib.hid hl
 clear hh hl
 go_enter Tryd.func17, Tryd.ntmps17
 go_wp2_with (go_at_call 15; (with_reducible refine (to_pos_x z hi lo _ (by omega) (by omega) HH.out HL.out).mono ?_); rintro e w1 ⟨rfl, hb1⟩; obtain ⟨hc1, hf1⟩ := bcell hb1; have hz1 := hb1.size; (try simp at hz1); have z1 : w.heap.size < w1.heap.size := (by omega))
 go_ret2
 first
 | exact ⟨rfl, by repeat (first | with_reducible assumption | with_reducible exact Below.refl _ _ | (with_reducible refine Below.setCell ?_ (by first | omega | (simp; done) | (simp; omega)) _) | (with_reducible refine Below.alloc ?_ (by first | omega | (simp; done) | (simp; omega)) _) | (with_reducible refine Below.drew ?_) | (with_reducible refine Below.trans ?_ (Below.mono hb1 (by first | omega | (simp; done) | (simp; omega)))) | (with_reducible refine below_drewN ?_ _))⟩
 | exact ⟨congrArg (fun q => Ending.returned (.tuple #[.int .i64 q, .bool true])) (by have := HL.out; omega), by repeat (first | with_reducible assumption | with_reducible exact Below.refl _ _ | (with_reducible refine Below.setCell ?_ (by first | omega | (simp; done) | (simp; omega)) _) | (with_reducible refine Below.alloc ?_ (by first | omega | (simp; done) | (simp; omega)) _) | (with_reducible refine Below.drew ?_) | (with_reducible refine Below.trans ?_ (Below.mono hb1 (by first | omega | (simp; done) | (simp; omega)))) | (with_reducible refine below_drewN ?_ _))⟩
set_option maxRecDepth 100000 in
set_option maxHeartbeats 1000000 in
theorem number_p3 (z : Int) (w : World) (h0 : 170141183460469231731687303715884105728 ≤ z) (h1 : z < B8) : Calls Tryd.prog 17 #[.agg #[.bool false, .int .u64 (dg (z) 0), .int .u64 (dg (z) 1), .int .u64 (dg (z) 2), .int .u64 (dg (z) 3), .int .u64 (dg (z) 4), .int .u64 (dg (z) 5), .int .u64 (dg (z) 6), .int .u64 (dg (z) 7)]] w fun e w' => e = .returned (.tuple #[.int .i64 (0), .bool false]) ∧ Below w.heap.size w w' := by
 go_enter Tryd.func17, Tryd.ntmps17
 go_wp2_with (go_at_call 15; (with_reducible refine (to_pos_no z _ h0 h1).mono ?_); rintro e w1 ⟨rfl, hb1⟩; obtain ⟨hc1, hf1⟩ := bcell hb1; have hz1 := hb1.size; (try simp at hz1); have z1 : w.heap.size < w1.heap.size := (by omega))
 go_ret2
 first
 | exact ⟨rfl, by repeat (first | with_reducible assumption | with_reducible exact Below.refl _ _ | (with_reducible refine Below.setCell ?_ (by first | omega | (simp; done) | (simp; omega)) _) | (with_reducible refine Below.alloc ?_ (by first | omega | (simp; done) | (simp; omega)) _) | (with_reducible refine Below.drew ?_) | (with_reducible refine Below.trans ?_ (Below.mono hb1 (by first | omega | (simp; done) | (simp; omega)))) | (with_reducible refine below_drewN ?_ _))⟩
 | exact ⟨congrArg (fun q => Ending.returned (.tuple #[.int .i64 q, .bool true])) (by have := HL.out; omega), by repeat (first | with_reducible assumption | with_reducible exact Below.refl _ _ | (with_reducible refine Below.setCell ?_ (by first | omega | (simp; done) | (simp; omega)) _) | (with_reducible refine Below.alloc ?_ (by first | omega | (simp; done) | (simp; omega)) _) | (with_reducible refine Below.drew ?_) | (with_reducible refine Below.trans ?_ (Below.mono hb1 (by first | omega | (simp; done) | (simp; omega)))) | (with_reducible refine below_drewN ?_ _))⟩
set_option maxRecDepth 100000 in
set_option maxHeartbeats 1000000 in
theorem number_n0 (y : Int) (w : World) (h0 : 1 ≤ y) (h1 : y ≤ 9223372036854775808) : Calls Tryd.prog 17 #[.agg #[.bool true, .int .u64 (dg (y) 0), .int .u64 (dg (y) 1), .int .u64 (dg (y) 2), .int .u64 (dg (y) 3), .int .u64 (dg (y) 4), .int .u64 (dg (y) 5), .int .u64 (dg (y) 6), .int .u64 (dg (y) 7)]] w fun e w' => e = .returned (.tuple #[.int .i64 (-y), .bool true]) ∧ Below w.heap.size w w' := by
 obtain ⟨lo, hl⟩ : ∃ lo, lo = 18446744073709551616 - y := ⟨_, rfl⟩
 have g2 : 0 ≤ lo := by omega
 have g3 : lo ≤ 18446744073709551615 := by omega
 have gd : decide (9223372036854775808 ≤ lo) = true := by simp; omega
 have hw : wrap64 lo = -y := by unfold wrap64; omega
 have HL := Lib.hid hl
 clear hl
 go_enter Tryd.func17, Tryd.ntmps17
 go_wp2_with (go_at_call 15; (with_reducible refine (to_neg_x y (-1) lo _ (by omega) (by omega) (by omega) (by have := HL.out; omega)).mono ?_); rintro e w1 ⟨rfl, hb1⟩; obtain ⟨hc1, hf1⟩ := bcell hb1; have hz1 := hb1.size; (try simp at hz1); have z1 : w.heap.size < w1.heap.size := (by omega))
 go_ret2
 first
 | exact ⟨rfl, by repeat (first | with_reducible assumption | with_reducible exact Below.refl _ _ | (with_reducible refine Below.setCell ?_ (by first | omega | (simp; done) | (simp; omega)) _) | (with_reducible refine Below.alloc ?_ (by first | omega | (simp; done) | (simp; omega)) _) | (with_reducible refine Below.drew ?_) | (with_reducible refine Below.trans ?_ (Below.mono hb1 (by first | omega | (simp; done) | (simp; omega)))) | (with_reducible refine below_drewN ?_ _))⟩
 | exact ⟨congrArg (fun q => Ending.returned (.tuple #[.int .i64 q, .bool true])) (by have := HL.out; omega), by repeat (first | with_reducible assumption | with_reducible exact Below.refl _ _ | (with_reducible refine Below.setCell ?_ (by first | omega | (simp; done) | (simp; omega)) _) | (with_reducible refine Below.alloc ?_ (by first | omega | (simp; done) | (simp; omega)) _) | (with_reducible refine Below.drew ?_) | (with_reducible refine Below.trans ?_ (Below.mono hb1 (by first | omega | (simp; done) | (simp; omega)))) | (with_reducible refine below_drewN ?_ _))⟩
set_option maxRecDepth 100000 in
set_option maxHeartbeats 1000000 in
theorem number_n1 (y : Int) (w : World) (h0 : 9223372036854775808 < y) (h1 : y ≤ 18446744073709551616) : Calls Tryd.prog 17 #[.agg #[.bool true, .int .u64 (dg (y) 0), .int .u64 (dg (y) 1), .int .u64 (dg (y) 2), .int .u64 (dg (y) 3), .int .u64 (dg (y) 4), .int .u64 (dg (y) 5), .int .u64 (dg (y) 6), .int .u64 (dg (y) 7)]] w fun e w' => e = .returned (.tuple #[.int .i64 (0), .bool false]) ∧ Below w.heap.size w w' := by
 obtain ⟨lo, hl⟩ : ∃ lo, lo = 18446744073709551616 - y := ⟨_, rfl⟩
 have g2 : 0 ≤ lo := by omega
 have g3 : lo ≤ 18446744073709551615 := by omega
 have gd : decide (9223372036854775808 ≤ lo) = false := by simp; omega
 have hw : wrap64 lo = lo := by unfold wrap64; omega
 have HL := Lib.hid hl
 clear hl
 go_enter Tryd.func17, Tryd.ntmps17
 go_wp2_with (go_at_call 15; (with_reducible refine (to_neg_x y (-1) lo _ (by omega) (by omega) (by omega) (by have := HL.out; omega)).mono ?_); rintro e w1 ⟨rfl, hb1⟩; obtain ⟨hc1, hf1⟩ := bcell hb1; have hz1 := hb1.size; (try simp at hz1); have z1 : w.heap.size < w1.heap.size := (by omega))
 go_ret2
 first
 | exact ⟨rfl, by repeat (first | with_reducible assumption | with_reducible exact Below.refl _ _ | (with_reducible refine Below.setCell ?_ (by first | omega | (simp; done) | (simp; omega)) _) | (with_reducible refine Below.alloc ?_ (by first | omega | (simp; done) | (simp; omega)) _) | (with_reducible refine Below.drew ?_) | (with_reducible refine Below.trans ?_ (Below.mono hb1 (by first | omega | (simp; done) | (simp; omega)))) | (with_reducible refine below_drewN ?_ _))⟩
 | exact ⟨congrArg (fun q => Ending.returned (.tuple #[.int .i64 q, .bool true])) (by have := HL.out; omega), by repeat (first | with_reducible assumption | with_reducible exact Below.refl _ _ | (with_reducible refine Below.setCell ?_ (by first | omega | (simp; done) | (simp; omega)) _) | (with_reducible refine Below.alloc ?_ (by first | omega | (simp; done) | (simp; omega)) _) | (with_reducible refine Below.drew ?_) | (with_reducible refine Below.trans ?_ (Below.mono hb1 (by first | omega | (simp; done) | (simp; omega)))) | (with_reducible refine below_drewN ?_ _))⟩
set_option maxRecDepth 100000 in
set_option maxHeartbeats 1000000 in
theorem number_n2 (y : Int) (w : World) (h0 : 18446744073709551616 < y) (h1 : y ≤ 170141183460469231731687303715884105728) : Calls Tryd.prog 17 #[.agg #[.bool true, .int .u64 (dg (y) 0), .int .u64 (dg (y) 1), .int .u64 (dg (y) 2), .int .u64 (dg (y) 3), .int .u64 (dg (y) 4), .int .u64 (dg (y) 5), .int .u64 (dg (y) 6), .int .u64 (dg (y) 7)]] w fun e w' => e = .returned (.tuple #[.int .i64 (0), .bool false]) ∧ Below w.heap.size w w' := by
 obtain ⟨hi, hh⟩ : ∃ hi, hi = -y / 18446744073709551616 := ⟨_, rfl⟩
 obtain ⟨lo, hl⟩ : ∃ lo, lo = -y % 18446744073709551616 := ⟨_, rfl⟩
 have g0 : hi ≤ -2 := by omega
 have g1 : -9223372036854775808 ≤ hi := by omega
 have g2 : 0 ≤ lo := by omega
 have g3 : lo ≤ 18446744073709551615 := by omega
 have n1 : decide (hi = 0) = false := decide_eq_false (by omega)
 have n2 : decide (hi = -1) = false := decide_eq_false (by omega)
 have HH := Lib.hid hh
 have HL := Lib.hid hl
 clear hh hl
 go_enter Tryd.func17, Tryd.ntmps17
 go_wp2_with (go_at_call 15; (with_reducible refine (to_neg_x y hi lo _ (by omega) (by omega) HH.out HL.out).mono ?_); rintro e w1 ⟨rfl, hb1⟩; obtain ⟨hc1, hf1⟩ := bcell hb1; have hz1 := hb1.size; (try simp at hz1); have z1 : w.heap.size < w1.heap.size := (by omega))
 go_ret2
 first
 | exact ⟨rfl, by repeat (first | with_reducible assumption | with_reducible exact Below.refl _ _ | (with_reducible refine Below.setCell ?_ (by first | omega | (simp; done) | (simp; omega)) _) | (with_reducible refine Below.alloc ?_ (by first | omega | (simp; done) | (simp; omega)) _) | (with_reducible refine Below.drew ?_) | (with_reducible refine Below.trans ?_ (Below.mono hb1 (by first | omega | (simp; done) | (simp; omega)))) | (with_reducible refine below_drewN ?_ _))⟩
 | exact ⟨congrArg (fun q => Ending.returned (.tuple #[.int .i64 q, .bool true])) (by have := HL.out; omega), by repeat (first | with_reducible assumption | with_reducible exact Below.refl _ _ | (with_reducible refine Below.setCell ?_ (by first | omega | (simp; done) | (simp; omega)) _) | (with_reducible refine Below.alloc ?_ (by first | omega | (simp; done) | (simp; omega)) _) | (with_reducible refine Below.drew ?_) | (with_reducible refine Below.trans ?_ (Below.mono hb1 (by first | omega | (simp; done) | (simp; omega)))) | (with_reducible refine below_drewN ?_ _))⟩
set_option maxRecDepth 100000 in
set_option maxHeartbeats 1000000 in
theorem number_n3 (y : Int) (w : World) (h0 : 170141183460469231731687303715884105728 < y) (h1 : y < B8) : Calls Tryd.prog 17 #[.agg #[.bool true, .int .u64 (dg (y) 0), .int .u64 (dg (y) 1), .int .u64 (dg (y) 2), .int .u64 (dg (y) 3), .int .u64 (dg (y) 4), .int .u64 (dg (y) 5), .int .u64 (dg (y) 6), .int .u64 (dg (y) 7)]] w fun e w' => e = .returned (.tuple #[.int .i64 (0), .bool false]) ∧ Below w.heap.size w w' := by
 go_enter Tryd.func17, Tryd.ntmps17
 go_wp2_with (go_at_call 15; (with_reducible refine (to_neg_no y _ h0 h1).mono ?_); rintro e w1 ⟨rfl, hb1⟩; obtain ⟨hc1, hf1⟩ := bcell hb1; have hz1 := hb1.size; (try simp at hz1); have z1 : w.heap.size < w1.heap.size := (by omega))
 go_ret2
 first
 | exact ⟨rfl, by repeat (first | with_reducible assumption | with_reducible exact Below.refl _ _ | (with_reducible refine Below.setCell ?_ (by first | omega | (simp; done) | (simp; omega)) _) | (with_reducible refine Below.alloc ?_ (by first | omega | (simp; done) | (simp; omega)) _) | (with_reducible refine Below.drew ?_) | (with_reducible refine Below.trans ?_ (Below.mono hb1 (by first | omega | (simp; done) | (simp; omega)))) | (with_reducible refine below_drewN ?_ _))⟩
 | exact ⟨congrArg (fun q => Ending.returned (.tuple #[.int .i64 q, .bool true])) (by have := HL.out; omega), by repeat (first | with_reducible assumption | with_reducible exact Below.refl _ _ | (with_reducible refine Below.setCell ?_ (by first | omega | (simp; done) | (simp; omega)) _) | (with_reducible refine Below.alloc ?_ (by first | omega | (simp; done) | (simp; omega)) _) | (with_reducible refine Below.drew ?_) | (with_reducible refine Below.trans ?_ (Below.mono hb1 (by first | omega | (simp; done) | (simp; omega)))) | (with_reducible refine below_drewN ?_ _))⟩
theorem number_pos_no (z : Int) (w : World) (h0 : 9223372036854775808 ≤ z) (h1 : z < B8) : Calls Tryd.prog 17 #[.agg #[.bool false, .int .u64 (dg (z) 0), .int .u64 (dg (z) 1), .int .u64 (dg (z) 2), .int .u64 (dg (z) 3), .int .u64 (dg (z) 4), .int .u64 (dg (z) 5), .int .u64 (dg (z) 6), .int .u64 (dg (z) 7)]] w fun e w' => e = .returned (.tuple #[.int .i64 0, .bool false]) ∧ Below w.heap.size w w' := by
 by_cases a : z < 18446744073709551616
 · exact number_p1 z w h0 a
 · by_cases b : z < 170141183460469231731687303715884105728
   · exact number_p2 z w (by omega) b
   · exact number_p3 z w (by omega) h1
theorem number_neg_no (y : Int) (w : World) (h0 : 9223372036854775808 < y) (h1 : y < B8) : Calls Tryd.prog 17 #[.agg #[.bool true, .int .u64 (dg (y) 0), .int .u64 (dg (y) 1), .int .u64 (dg (y) 2), .int .u64 (dg (y) 3), .int .u64 (dg (y) 4), .int .u64 (dg (y) 5), .int .u64 (dg (y) 6), .int .u64 (dg (y) 7)]] w fun e w' => e = .returned (.tuple #[.int .i64 0, .bool false]) ∧ Below w.heap.size w w' := by
 by_cases a : y ≤ 18446744073709551616
 · exact number_n1 y w h0 a
 · by_cases b : y ≤ 170141183460469231731687303715884105728
   · exact number_n2 y w (by omega) b
   · exact number_n3 y w (by omega) h1
end Go.Proofs.YtgondiedehjkhaaDoor
