/-
 Layer 2: products with a factor, of numbers that are not below 0.
-/
import Derived.Test.YtgondiedehjkhaaGreatDoorW02dpgw
import Derived.Test.YtgondiedehjkhaaGreatDoorW02opgw
import Derived.Test.YtgondiedehjkhaaGreatDoorBig2pgw
import Derived.Deep.Cut
import Derived.Deep.CutRange
import Derived.Deep.RegionWith
import Derived.StillTailTactics
import Derived.Test.YtgondiedehjkhaaGreatDoorW02mpgw
import Derived.Test.YtgondiedehjkhaaGreatDoorW02jpgw
namespace Go.Proofs.YtgondiedehjkhaaGreatDoor
open Go.RowKit Go.Extern.Stop Go.Stop Go.Extern
set_option linter.unusedVariables false
set_option linter.unusedSimpArgs false
abbrev R2 (b : Nat) (x y : Value) (wx : World) : Prop := b < wx.heap.size ∧ wx.cell? ⟨b, 0, none⟩ = some x ∧ wx.cell? ⟨b, 1, none⟩ = some y ∧ wx.frozen? ⟨b, 0, none⟩ = false ∧ wx.frozen? ⟨b, 1, none⟩ = false
theorem R2.step {b : Nat} {x y : Value} {wx w' : World} (h : R2 b x y wx) (hb : Below wx.heap.size wx w') : R2 b x y w' :=
 ⟨Nat.lt_of_lt_of_le h.1 hb.size, by rw [hb.cell (p := ⟨b, 0, none⟩) h.1]; exact h.2.1, by rw [hb.cell (p := ⟨b, 1, none⟩) h.1]; exact h.2.2.1, by rw [hb.frozen (p := ⟨b, 0, none⟩) h.1]; exact h.2.2.2.1, by rw [hb.frozen (p := ⟨b, 1, none⟩) h.1]; exact h.2.2.2.2⟩
end Go.Proofs.YtgondiedehjkhaaGreatDoor
namespace Go.Proofs.YtgondiedehjkhaaGreatDoor
open Go.RowKit Go.Extern.Stop Go.Stop Go.Extern
set_option linter.unusedVariables false
set_option linter.unusedSimpArgs false
theorem DRows.drew {w : World} {s : Bool} {X D : Int} {b : Bool} {q r : Int} {wr : World} (h : DRows w s X D b q r wr) : DRows w s X D b q r wr.drew := by
 obtain ⟨h0, h1, h2, h3, h4, h5, hB⟩ := h
 exact ⟨h0, h1, h2, h3, h4, h5, hB.drew⟩
theorem DRows.q9 {w : World} {s : Bool} {X D : Int} {b : Bool} {q r : Int} {wr : World} (h : DRows w s X D b q r wr) : wr.cell? ⟨w.heap.size + 1 + 1 + 1 + 1, 0, none⟩ = some (.bool b) ∧ wr.frozen? ⟨w.heap.size + 1 + 1 + 1 + 1, 0, none⟩ = false := by
 have hR := h.2.2.2.2.1
 exact ⟨(cell_of_row _ _ 0 _ _ _ hR).trans rfl, row_free hR 0⟩
theorem DRows.x9 {w : World} {s : Bool} {X D : Int} {b : Bool} {q r : Int} {wr : World} (h : DRows w s X D b q r wr) : wr.cell? ⟨w.heap.size, 0, none⟩ = some (.bool s) := by
 have hR := h.1
 exact (cell_of_row _ _ 0 _ _ _ hR).trans rfl
end Go.Proofs.YtgondiedehjkhaaGreatDoor
namespace Go.Proofs.YtgondiedehjkhaaGreatDoor
open Go.RowKit Go.Extern.Stop Go.Stop Go.Extern
set_option linter.unusedVariables false
set_option linter.unusedSimpArgs false
theorem to_pos_x (z hi lo : Int) (w : World) (h0 : 0 ≤ z) (h1 : z < 170141183460469231731687303715884105728) (hh : hi = z / 18446744073709551616) (hl : lo = z % 18446744073709551616) :
   Calls Tryz.prog 128 #[.agg #[.bool false, .int .u64 (dg (z) 0), .int .u64 (dg (z) 1), .int .u64 (dg (z) 2), .int .u64 (dg (z) 3), .int .u64 (dg (z) 4), .int .u64 (dg (z) 5), .int .u64 (dg (z) 6), .int .u64 (dg (z) 7)]] w fun e w' => e = .returned (.tuple #[.agg #[.int .i64 hi, .int .u64 lo], .bool true]) ∧ Below w.heap.size w w' := by
 subst hh hl; exact to_small_false z w (Lib.hid (to_small z h0 h1))
theorem to_pos_no (z : Int) (w : World) (h0 : 170141183460469231731687303715884105728 ≤ z) (h1 : z < B8) :
   Calls Tryz.prog 128 #[.agg #[.bool false, .int .u64 (dg (z) 0), .int .u64 (dg (z) 1), .int .u64 (dg (z) 2), .int .u64 (dg (z) 3), .int .u64 (dg (z) 4), .int .u64 (dg (z) 5), .int .u64 (dg (z) 6), .int .u64 (dg (z) 7)]] w fun e w' => e = .returned (.tuple #[.agg #[.int .i64 0, .int .u64 0], .bool false]) ∧ Below w.heap.size w w' :=
 to_large_false z w (Lib.hid (to_large z h0 h1))
set_option maxRecDepth 100000 in
set_option maxHeartbeats 1000000 in
theorem number_p0 (z : Int) (w : World) (h0 : 0 ≤ z) (h1 : z < 9223372036854775808) : Calls Tryz.prog 73 #[.agg #[.bool false, .int .u64 (dg (z) 0), .int .u64 (dg (z) 1), .int .u64 (dg (z) 2), .int .u64 (dg (z) 3), .int .u64 (dg (z) 4), .int .u64 (dg (z) 5), .int .u64 (dg (z) 6), .int .u64 (dg (z) 7)]] w fun e w' => e = .returned (.tuple #[.int .i64 (z), .bool true]) ∧ Below w.heap.size w w' := by
 go_enter Tryz.func73, Tryz.ntmps73
 go_wp2_with (go_at_call 128; (with_reducible refine (to_pos_x z 0 z _ (by omega) (by omega) (by omega) (by omega)).mono ?_); rintro e w1 ⟨rfl, hb1⟩; obtain ⟨hc1, hf1⟩ := bcell hb1; have hz1 := hb1.size; (try simp at hz1); have z1 : w.heap.size < w1.heap.size := (by omega))
 go_ret2
 first
 | exact ⟨rfl, by repeat (first | with_reducible assumption | with_reducible exact Below.refl _ _ | (with_reducible refine Below.setCell ?_ (by first | omega | (simp; done) | (simp; omega)) _) | (with_reducible refine Below.alloc ?_ (by first | omega | (simp; done) | (simp; omega)) _) | (with_reducible refine Below.drew ?_) | (with_reducible refine Below.trans ?_ (Below.mono hb1 (by first | omega | (simp; done) | (simp; omega)))) | (with_reducible refine below_drewN ?_ _))⟩
 | exact ⟨congrArg (fun q => Ending.returned (.tuple #[.int .i64 q, .bool true])) (by have := HL.out; omega), by repeat (first | with_reducible assumption | with_reducible exact Below.refl _ _ | (with_reducible refine Below.setCell ?_ (by first | omega | (simp; done) | (simp; omega)) _) | (with_reducible refine Below.alloc ?_ (by first | omega | (simp; done) | (simp; omega)) _) | (with_reducible refine Below.drew ?_) | (with_reducible refine Below.trans ?_ (Below.mono hb1 (by first | omega | (simp; done) | (simp; omega)))) | (with_reducible refine below_drewN ?_ _))⟩
set_option maxRecDepth 100000 in
set_option maxHeartbeats 1000000 in
theorem number_p1 (z : Int) (w : World) (h0 : 9223372036854775808 ≤ z) (h1 : z < 18446744073709551616) : Calls Tryz.prog 73 #[.agg #[.bool false, .int .u64 (dg (z) 0), .int .u64 (dg (z) 1), .int .u64 (dg (z) 2), .int .u64 (dg (z) 3), .int .u64 (dg (z) 4), .int .u64 (dg (z) 5), .int .u64 (dg (z) 6), .int .u64 (dg (z) 7)]] w fun e w' => e = .returned (.tuple #[.int .i64 (0), .bool false]) ∧ Below w.heap.size w w' := by
 go_enter Tryz.func73, Tryz.ntmps73
 go_wp2_with (go_at_call 128; (with_reducible refine (to_pos_x z 0 z _ (by omega) (by omega) (by omega) (by omega)).mono ?_); rintro e w1 ⟨rfl, hb1⟩; obtain ⟨hc1, hf1⟩ := bcell hb1; have hz1 := hb1.size; (try simp at hz1); have z1 : w.heap.size < w1.heap.size := (by omega))
 go_ret2
 first
 | exact ⟨rfl, by repeat (first | with_reducible assumption | with_reducible exact Below.refl _ _ | (with_reducible refine Below.setCell ?_ (by first | omega | (simp; done) | (simp; omega)) _) | (with_reducible refine Below.alloc ?_ (by first | omega | (simp; done) | (simp; omega)) _) | (with_reducible refine Below.drew ?_) | (with_reducible refine Below.trans ?_ (Below.mono hb1 (by first | omega | (simp; done) | (simp; omega)))) | (with_reducible refine below_drewN ?_ _))⟩
 | exact ⟨congrArg (fun q => Ending.returned (.tuple #[.int .i64 q, .bool true])) (by have := HL.out; omega), by repeat (first | with_reducible assumption | with_reducible exact Below.refl _ _ | (with_reducible refine Below.setCell ?_ (by first | omega | (simp; done) | (simp; omega)) _) | (with_reducible refine Below.alloc ?_ (by first | omega | (simp; done) | (simp; omega)) _) | (with_reducible refine Below.drew ?_) | (with_reducible refine Below.trans ?_ (Below.mono hb1 (by first | omega | (simp; done) | (simp; omega)))) | (with_reducible refine below_drewN ?_ _))⟩
set_option maxRecDepth 100000 in
set_option maxHeartbeats 1000000 in
theorem number_p2 (z : Int) (w : World) (h0 : 18446744073709551616 ≤ z) (h1 : z < 170141183460469231731687303715884105728) : Calls Tryz.prog 73 #[.agg #[.bool false, .int .u64 (dg (z) 0), .int .u64 (dg (z) 1), .int .u64 (dg (z) 2), .int .u64 (dg (z) 3), .int .u64 (dg (z) 4), .int .u64 (dg (z) 5), .int .u64 (dg (z) 6), .int .u64 (dg (z) 7)]] w fun e w' => e = .returned (.tuple #[.int .i64 (0), .bool false]) ∧ Below w.heap.size w w' := by
 obtain ⟨hi, hh⟩ : ∃ hi, hi = z / 18446744073709551616 := ⟨_, rfl⟩
 obtain ⟨lo, hl⟩ : ∃ lo, lo = z % 18446744073709551616 := ⟨_, rfl⟩
 have g0 : 1 ≤ hi := by omega
 have g1 : hi ≤ 9223372036854775807 := by omega
 have g2 : 0 ≤ lo := by omega
 have g3 : lo ≤ 18446744073709551615 := by omega
 have n1 : decide (hi = 0) = false := decide_eq_false (by omega)
 have n2 : decide (hi = -1) = false := decide_eq_false (by omega)
 have HH := Lib.hid hh
 have HL := Lib.hid hl
 clear hh hl
 go_enter Tryz.func73, Tryz.ntmps73
 go_wp2_with (go_at_call 128; (with_reducible refine (to_pos_x z hi lo _ (by omega) (by omega) HH.out HL.out).mono ?_); rintro e w1 ⟨rfl, hb1⟩; obtain ⟨hc1, hf1⟩ := bcell hb1; have hz1 := hb1.size; (try simp at hz1); have z1 : w.heap.size < w1.heap.size := (by omega))
 go_ret2
 first
 | exact ⟨rfl, by repeat (first | with_reducible assumption | with_reducible exact Below.refl _ _ | (with_reducible refine Below.setCell ?_ (by first | omega | (simp; done) | (simp; omega)) _) | (with_reducible refine Below.alloc ?_ (by first | omega | (simp; done) | (simp; omega)) _) | (with_reducible refine Below.drew ?_) | (with_reducible refine Below.trans ?_ (Below.mono hb1 (by first | omega | (simp; done) | (simp; omega)))) | (with_reducible refine below_drewN ?_ _))⟩
 | exact ⟨congrArg (fun q => Ending.returned (.tuple #[.int .i64 q, .bool true])) (by have := HL.out; omega), by repeat (first | with_reducible assumption | with_reducible exact Below.refl _ _ | (with_reducible refine Below.setCell ?_ (by first | omega | (simp; done) | (simp; omega)) _) | (with_reducible refine Below.alloc ?_ (by first | omega | (simp; done) | (simp; omega)) _) | (with_reducible refine Below.drew ?_) | (with_reducible refine Below.trans ?_ (Below.mono hb1 (by first | omega | (simp; done) | (simp; omega)))) | (with_reducible refine below_drewN ?_ _))⟩
set_option maxRecDepth 100000 in
set_option maxHeartbeats 1000000 in
theorem number_p3 (z : Int) (w : World) (h0 : 170141183460469231731687303715884105728 ≤ z) (h1 : z < B8) : Calls Tryz.prog 73 #[.agg #[.bool false, .int .u64 (dg (z) 0), .int .u64 (dg (z) 1), .int .u64 (dg (z) 2), .int .u64 (dg (z) 3), .int .u64 (dg (z) 4), .int .u64 (dg (z) 5), .int .u64 (dg (z) 6), .int .u64 (dg (z) 7)]] w fun e w' => e = .returned (.tuple #[.int .i64 (0), .bool false]) ∧ Below w.heap.size w w' := by
 go_enter Tryz.func73, Tryz.ntmps73
 go_wp2_with (go_at_call 128; (with_reducible refine (to_pos_no z _ h0 h1).mono ?_); rintro e w1 ⟨rfl, hb1⟩; obtain ⟨hc1, hf1⟩ := bcell hb1; have hz1 := hb1.size; (try simp at hz1); have z1 : w.heap.size < w1.heap.size := (by omega))
 go_ret2
 first
 | exact ⟨rfl, by repeat (first | with_reducible assumption | with_reducible exact Below.refl _ _ | (with_reducible refine Below.setCell ?_ (by first | omega | (simp; done) | (simp; omega)) _) | (with_reducible refine Below.alloc ?_ (by first | omega | (simp; done) | (simp; omega)) _) | (with_reducible refine Below.drew ?_) | (with_reducible refine Below.trans ?_ (Below.mono hb1 (by first | omega | (simp; done) | (simp; omega)))) | (with_reducible refine below_drewN ?_ _))⟩
 | exact ⟨congrArg (fun q => Ending.returned (.tuple #[.int .i64 q, .bool true])) (by have := HL.out; omega), by repeat (first | with_reducible assumption | with_reducible exact Below.refl _ _ | (with_reducible refine Below.setCell ?_ (by first | omega | (simp; done) | (simp; omega)) _) | (with_reducible refine Below.alloc ?_ (by first | omega | (simp; done) | (simp; omega)) _) | (with_reducible refine Below.drew ?_) | (with_reducible refine Below.trans ?_ (Below.mono hb1 (by first | omega | (simp; done) | (simp; omega)))) | (with_reducible refine below_drewN ?_ _))⟩
theorem number_pos_no (z : Int) (w : World) (h0 : 9223372036854775808 ≤ z) (h1 : z < B8) : Calls Tryz.prog 73 #[.agg #[.bool false, .int .u64 (dg (z) 0), .int .u64 (dg (z) 1), .int .u64 (dg (z) 2), .int .u64 (dg (z) 3), .int .u64 (dg (z) 4), .int .u64 (dg (z) 5), .int .u64 (dg (z) 6), .int .u64 (dg (z) 7)]] w fun e w' => e = .returned (.tuple #[.int .i64 0, .bool false]) ∧ Below w.heap.size w w' := by
 by_cases a : z < 18446744073709551616
 · exact number_p1 z w h0 a
 · by_cases b : z < 170141183460469231731687303715884105728
   · exact number_p2 z w (by omega) b
   · exact number_p3 z w (by omega) h1
end Go.Proofs.YtgondiedehjkhaaGreatDoor
namespace Go.Proofs.YtgondiedehjkhaaGreatDoor
open Go.RowKit Go.Extern.Stop Go.Stop Go.Extern
set_option linter.unusedVariables false
set_option linter.unusedSimpArgs false
theorem div_qp (x d q r : Int) (w : World) (hx0 : -170141183460469231731687303715884105728 ≤ x) (hx1 : x ≤ 170141183460469231731687303715884105728) (hd0 : 1 ≤ d) (hd1 : d ≤ 170141183460469231731687303715884105728) (hq : x / d = q) (hr : x % d = r) (h0 : 0 ≤ q) :
   Calls Tryz.prog 68 #[bigV x, bigV d] w fun e w' => e = .returned (.tuple #[.agg #[.bool false, .int .u64 (dg (q) 0), .int .u64 (dg (q) 1), .int .u64 (dg (q) 2), .int .u64 (dg (q) 3), .int .u64 (dg (q) 4), .int .u64 (dg (q) 5), .int .u64 (dg (q) 6), .int .u64 (dg (q) 7)], .agg #[.bool false, .int .u64 (dg (r) 0), .int .u64 (dg (r) 1), .int .u64 (dg (r) 2), .int .u64 (dg (r) 3), .int .u64 (dg (r) 4), .int .u64 (dg (r) 5), .int .u64 (dg (r) 6), .int .u64 (dg (r) 7)]]) ∧ Below w.heap.size w w' := by
 have hx : 0 ≤ x := by
   by_cases h : 0 ≤ x
   · exact h
   · exact absurd (Int.ediv_neg_of_neg_of_pos (show x < 0 by omega) (show 0 < d by omega)) (by omega)
 rw [bigV_pos x hx, bigV_pos d (by omega), ← hq, ← hr]
 exact div_pos_raw x d w hx (by unfold B8; omega) (by omega) (by omega)
theorem rmd_no (a b c : Int) (w : World) (ha : InR a) (hb : InR b) (hc : c < 1) :
   Calls Tryz.prog 84 #[.int .i64 a, .int .i64 b, .int .i64 c] w fun e w' => e = .returned (.tuple #[.int .i64 0, .int .i64 1]) ∧ Below w.heap.size w w' := by
 go_enter Tryz.func84, Tryz.ntmps84
 go_wp2_with (fail)
 go_ret2
 exact ⟨rfl, Below.refl _ _⟩
set_option maxRecDepth 100000 in
set_option maxHeartbeats 4000000 in
theorem rmd_p0 (a b c : Int) (w : World) (ha : InR a) (hb : InR b) (hcl : 1 ≤ c) (hcr : InR c) (q : Int) (HQ : Hid (a * b / c = q)) (hq0 : 0 ≤ q) (hq1 : q < 9223372036854775808) :
   Calls Tryz.prog 84 #[.int .i64 a, .int .i64 b, .int .i64 c] w fun e w' => e = .returned (.tuple #[.int .i64 (q), .int .i64 0]) ∧ Below w.heap.size w w' := by
 have hp := mul_rng ha hb
 obtain ⟨r, hr⟩ : ∃ r, a * b % c = r := ⟨_, rfl⟩
 have HR := Lib.hid hr
 clear hr
 have hp0 : -170141183460469231731687303715884105728 ≤ a * b := by omega
 have hp1 : a * b ≤ 170141183460469231731687303715884105728 := by omega
 have hch : c ≤ 170141183460469231731687303715884105728 := by omega
 have hA : -BS ^ 4 < a ∧ a < BS ^ 4 := by rw [show BS ^ 4 = 340282366920938463463374607431768211456 by decide]; omega
 have hB : -BS ^ 4 < b ∧ b < BS ^ 4 := by rw [show BS ^ 4 = 340282366920938463463374607431768211456 by decide]; omega
 go_enter Tryz.func84, Tryz.ntmps84
 go_wp2_with (fail)
 go_at_call 70
 (with_reducible refine (int_c a _ ha).mono ?_)
 rintro e w1 ⟨rfl, hb1⟩
 obtain ⟨hc1, hf1⟩ := bcell hb1
 have hz1 := hb1.size
 try simp at hz1
 go_wp2_with (fail)
 go_at_call 70
 (with_reducible refine (int_c b _ hb).mono ?_)
 rintro e w2 ⟨rfl, hb2⟩
 obtain ⟨hc2, hf2⟩ := bcell hb2
 have hz2 := hb2.size
 try simp at hz2
 go_wp2_with (fail)
 go_at_call 69
 (with_reducible refine (mul_c a b (a * b) _ hA hB rfl).mono ?_)
 rintro e w3 ⟨rfl, hb3⟩
 obtain ⟨hc3, hf3⟩ := bcell hb3
 have hz3 := hb3.size
 try simp at hz3
 go_wp2_with (fail)
 go_at_call 70
 (with_reducible refine (int_c c _ hcr).mono ?_)
 rintro e w4 ⟨rfl, hb4⟩
 obtain ⟨hc4, hf4⟩ := bcell hb4
 have hz4 := hb4.size
 try simp at hz4
 go_wp2_with (fail)
 go_at_call 68
 (with_reducible refine (div_qp (a * b) c q r _ hp0 hp1 hcl hch HQ.out HR.out hq0).mono ?_)
 rintro e w5 ⟨rfl, hb5⟩
 obtain ⟨hc5, hf5⟩ := bcell hb5
 have hz5 := hb5.size
 try simp at hz5
 have HB5 : Below w.heap.size w w5 := ((((hb1.trans (hb2.mono (by omega))).trans (hb3.mono (by omega))).trans (hb4.mono (by omega))).trans (hb5.mono (by omega)))
 clear hc1 hf1 hc2 hf2 hc3 hf3 hc4 hf4 hc5 hf5
 go_wp2_with (fail)
 go_at_call 73
 (with_reducible refine (number_p0 q _ hq0 hq1).mono ?_)
 rintro e w6 ⟨rfl, hb6⟩
 obtain ⟨hc6, hf6⟩ := bcell hb6
 have hz6 := hb6.size
 try simp at hz6
 go_wp2_with (fail)
 go_ret2
 exact ⟨rfl, by repeat (first | with_reducible assumption | exact HB5 | with_reducible exact Below.refl _ _ | (with_reducible refine Below.setCell ?_ (by first | omega | (simp; done) | (simp; omega)) _) | (with_reducible refine Below.alloc ?_ (by first | omega | (simp; done) | (simp; omega)) _) | (with_reducible refine Below.drew ?_) | (with_reducible refine Below.trans ?_ (Below.mono hb6 (by first | omega | (simp; done) | (simp; omega)))) | (with_reducible refine below_drewN ?_ _))⟩
set_option maxRecDepth 100000 in
set_option maxHeartbeats 4000000 in
theorem rmd_p1 (a b c : Int) (w : World) (ha : InR a) (hb : InR b) (hcl : 1 ≤ c) (hcr : InR c) (q : Int) (HQ : Hid (a * b / c = q)) (hq0 : 0 ≤ q) (hq1 : 9223372036854775808 ≤ q) :
   Calls Tryz.prog 84 #[.int .i64 a, .int .i64 b, .int .i64 c] w fun e w' => e = .returned (.tuple #[.int .i64 (0), .int .i64 2]) ∧ Below w.heap.size w w' := by
 have hp := mul_rng ha hb
 obtain ⟨r, hr⟩ : ∃ r, a * b % c = r := ⟨_, rfl⟩
 have HR := Lib.hid hr
 clear hr
 have hp0 : -170141183460469231731687303715884105728 ≤ a * b := by omega
 have hp1 : a * b ≤ 170141183460469231731687303715884105728 := by omega
 have hch : c ≤ 170141183460469231731687303715884105728 := by omega
 have hA : -BS ^ 4 < a ∧ a < BS ^ 4 := by rw [show BS ^ 4 = 340282366920938463463374607431768211456 by decide]; omega
 have hB : -BS ^ 4 < b ∧ b < BS ^ 4 := by rw [show BS ^ 4 = 340282366920938463463374607431768211456 by decide]; omega
 have hqb : q < B8 := by rw [← HQ.out]; unfold B8; exact Int.lt_of_le_of_lt (Int.ediv_le_self c (by by_cases h : 0 ≤ a * b; exact h; exact absurd (Int.ediv_neg_of_neg_of_pos (show a * b < 0 by omega) (show 0 < c by omega)) (by have := HQ.out; omega))) (by omega)
 go_enter Tryz.func84, Tryz.ntmps84
 go_wp2_with (fail)
 go_at_call 70
 (with_reducible refine (int_c a _ ha).mono ?_)
 rintro e w1 ⟨rfl, hb1⟩
 obtain ⟨hc1, hf1⟩ := bcell hb1
 have hz1 := hb1.size
 try simp at hz1
 go_wp2_with (fail)
 go_at_call 70
 (with_reducible refine (int_c b _ hb).mono ?_)
 rintro e w2 ⟨rfl, hb2⟩
 obtain ⟨hc2, hf2⟩ := bcell hb2
 have hz2 := hb2.size
 try simp at hz2
 go_wp2_with (fail)
 go_at_call 69
 (with_reducible refine (mul_c a b (a * b) _ hA hB rfl).mono ?_)
 rintro e w3 ⟨rfl, hb3⟩
 obtain ⟨hc3, hf3⟩ := bcell hb3
 have hz3 := hb3.size
 try simp at hz3
 go_wp2_with (fail)
 go_at_call 70
 (with_reducible refine (int_c c _ hcr).mono ?_)
 rintro e w4 ⟨rfl, hb4⟩
 obtain ⟨hc4, hf4⟩ := bcell hb4
 have hz4 := hb4.size
 try simp at hz4
 go_wp2_with (fail)
 go_at_call 68
 (with_reducible refine (div_qp (a * b) c q r _ hp0 hp1 hcl hch HQ.out HR.out hq0).mono ?_)
 rintro e w5 ⟨rfl, hb5⟩
 obtain ⟨hc5, hf5⟩ := bcell hb5
 have hz5 := hb5.size
 try simp at hz5
 have HB5 : Below w.heap.size w w5 := ((((hb1.trans (hb2.mono (by omega))).trans (hb3.mono (by omega))).trans (hb4.mono (by omega))).trans (hb5.mono (by omega)))
 clear hc1 hf1 hc2 hf2 hc3 hf3 hc4 hf4 hc5 hf5
 go_wp2_with (fail)
 go_at_call 73
 (with_reducible refine (number_pos_no q _ hq1 hqb).mono ?_)
 rintro e w6 ⟨rfl, hb6⟩
 obtain ⟨hc6, hf6⟩ := bcell hb6
 have hz6 := hb6.size
 try simp at hz6
 go_wp2_with (fail)
 go_ret2
 exact ⟨rfl, by repeat (first | with_reducible assumption | exact HB5 | with_reducible exact Below.refl _ _ | (with_reducible refine Below.setCell ?_ (by first | omega | (simp; done) | (simp; omega)) _) | (with_reducible refine Below.alloc ?_ (by first | omega | (simp; done) | (simp; omega)) _) | (with_reducible refine Below.drew ?_) | (with_reducible refine Below.trans ?_ (Below.mono hb6 (by first | omega | (simp; done) | (simp; omega)))) | (with_reducible refine below_drewN ?_ _))⟩
def mdE (a b c : Int) : Int := if c < 1 then 1 else if InR (a * b / c) then 0 else 2
def mdN (a b c : Int) : Int := if c < 1 then 0 else if InR (a * b / c) then a * b / c else 0
end Go.Proofs.YtgondiedehjkhaaGreatDoor
namespace Go.Proofs.YtgondiedehjkhaaGreatDoor
open Go.RowKit Go.Extern.Stop Go.Stop Go.Extern
set_option linter.unusedVariables false
set_option linter.unusedSimpArgs false
theorem rmd_pos (a b c : Int) (w : World) (ha : InR a) (hb : InR b) (hc : InR c) (a0 : 0 ≤ a) (b0 : 0 ≤ b) : Calls Tryz.prog 84 #[.int .i64 a, .int .i64 b, .int .i64 c] w fun e w' => e = .returned (.tuple #[.int .i64 (mdN a b c), .int .i64 (mdE a b c)]) ∧ Below w.heap.size w w' := by
 by_cases h : c < 1
 · have e1 : mdN a b c = 0 := by unfold mdN; rw [if_pos h]
   have e2 : mdE a b c = 1 := by unfold mdE; rw [if_pos h]
   rw [e1, e2]; exact rmd_no a b c w ha hb h
 · have hp : 0 ≤ a * b / c := Int.ediv_nonneg (Int.mul_nonneg a0 b0) (by omega)
   by_cases hq : InR (a * b / c)
   · have e1 : mdN a b c = a * b / c := by unfold mdN; rw [if_neg h, if_pos hq]
     have e2 : mdE a b c = 0 := by unfold mdE; rw [if_neg h, if_pos hq]
     rw [e1, e2]
     exact rmd_p0 a b c w ha hb (by omega) hc _ (Lib.hid rfl) hp (by omega)
   · have e1 : mdN a b c = 0 := by unfold mdN; rw [if_neg h, if_neg hq]
     have e2 : mdE a b c = 2 := by unfold mdE; rw [if_neg h, if_neg hq]
     rw [e1, e2]
     exact rmd_p1 a b c w ha hb (by omega) hc _ (Lib.hid rfl) hp (by omega)
end Go.Proofs.YtgondiedehjkhaaGreatDoor
