/-
 Numbers of 128 bits: the program, products divided and halved.
-/
import Derived.Test.YtgondiedehjkhaaDoorW02dforms
namespace Go.Proofs.YtgondiedehjkhaaDoor
open Go.RowKit Go.Extern.Stop Go.Stop Go.Extern
set_option linter.unusedVariables false
set_option linter.unusedSimpArgs false
set_option maxHeartbeats 1000000 in
theorem wmuldiv_no (a b c : Int) (w : World) (ha : InR a) (hb : InR b) (hc : c < 1) : Calls Tryd.prog 75 #[.int .i64 a, .int .i64 b, .int .i64 c] w fun e w' => e = .returned (.tuple #[.int .i64 0, errV 1]) ∧ Below w.heap.size w w' := by
 have hB := Below.refl w.heap.size w
 have hr := mul_rng ha hb
 go_enter Tryd.func75, Tryd.ntmps75
 go_wp2_with (fail)
 go_at_call 23
 (with_reducible refine (wmul _ _ _ ha hb).mono ?_)
 rintro e w1 ⟨rfl, HB⟩
 obtain ⟨hc1, hf1⟩ := bcell HB
 have hz1 := HB.size
 try simp at hz1
 replace hB := Below.trans (show Below w.heap.size w _ from by repeat (first | with_reducible assumption | exact Below.refl _ _ | refine Below.drew ?_ | refine Below.setCell ?_ (by first | omega | (simp; done) | (simp; omega)) _ | refine Below.alloc ?_ (by first | omega | (simp; done) | (simp; omega)) _)) (Below.mono (B' := w.heap.size) HB (by first | omega | (simp; done) | (simp; omega)))
 try (have z1w0 : w.heap.size < w1.heap.size := (by omega))
 try (have z1w1 : w.heap.size + 1 < w1.heap.size := (by omega))
 try (have z1w2 : w.heap.size + 1 + 1 < w1.heap.size := (by omega))
 clear HB
 go_wp2_with (fail)
 go_at_call 133
 (with_reducible refine (wdiv_no _ _ _ hc).mono ?_)
 rintro e w2 ⟨rfl, HB⟩
 obtain ⟨hc2, hf2⟩ := bcell HB
 have hz2 := HB.size
 try simp at hz2
 replace hB := Below.trans (show Below w.heap.size w _ from by repeat (first | with_reducible assumption | exact Below.refl _ _ | refine Below.drew ?_ | refine Below.setCell ?_ (by first | omega | (simp; done) | (simp; omega)) _ | refine Below.alloc ?_ (by first | omega | (simp; done) | (simp; omega)) _)) (Below.mono (B' := w.heap.size) HB (by first | omega | (simp; done) | (simp; omega)))
 try (have z2w0 : w.heap.size < w2.heap.size := (by omega))
 try (have z2w1 : w.heap.size + 1 < w2.heap.size := (by omega))
 try (have z2w2 : w.heap.size + 1 + 1 < w2.heap.size := (by omega))
 try (have z2w10 : w1.heap.size < w2.heap.size := (by omega))
 try (have z2w11 : w1.heap.size + 1 < w2.heap.size := (by omega))
 try (have z2w12 : w1.heap.size + 1 + 1 < w2.heap.size := (by omega))
 clear HB
 go_wp2_with (fail)
 go_ret2
 exact ⟨rfl, by repeat (first | with_reducible assumption | exact Below.refl _ _ | refine Below.drew ?_ | refine Below.setCell ?_ (by first | omega | (simp; done) | (simp; omega)) _ | refine Below.alloc ?_ (by first | omega | (simp; done) | (simp; omega)) _)⟩
set_option maxHeartbeats 1000000 in
theorem wmuldiv (a b c : Int) (w : World) (ha : InR a) (hb : InR b) (hq1 : 1 ≤ c) (hq2 : InR c) (hq : InR (a * b / c)) : Calls Tryd.prog 75 #[.int .i64 a, .int .i64 b, .int .i64 c] w fun e w' => e = .returned (.tuple #[.int .i64 (a * b / c), .nilIface]) ∧ Below w.heap.size w w' := by
 have hB := Below.refl w.heap.size w
 have hr := mul_rng ha hb
 go_enter Tryd.func75, Tryd.ntmps75
 go_wp2_with (fail)
 go_at_call 23
 (with_reducible refine (wmul _ _ _ ha hb).mono ?_)
 rintro e w1 ⟨rfl, HB⟩
 obtain ⟨hc1, hf1⟩ := bcell HB
 have hz1 := HB.size
 try simp at hz1
 replace hB := Below.trans (show Below w.heap.size w _ from by repeat (first | with_reducible assumption | exact Below.refl _ _ | refine Below.drew ?_ | refine Below.setCell ?_ (by first | omega | (simp; done) | (simp; omega)) _ | refine Below.alloc ?_ (by first | omega | (simp; done) | (simp; omega)) _)) (Below.mono (B' := w.heap.size) HB (by first | omega | (simp; done) | (simp; omega)))
 try (have z1w0 : w.heap.size < w1.heap.size := (by omega))
 try (have z1w1 : w.heap.size + 1 < w1.heap.size := (by omega))
 try (have z1w2 : w.heap.size + 1 + 1 < w1.heap.size := (by omega))
 clear HB
 go_wp2_with (fail)
 go_at_call 133
 (with_reducible refine (wdiv _ _ _ (by omega) hq1 hq2).mono ?_)
 rintro e w2 ⟨rfl, HB⟩
 obtain ⟨hc2, hf2⟩ := bcell HB
 have hz2 := HB.size
 try simp at hz2
 replace hB := Below.trans (show Below w.heap.size w _ from by repeat (first | with_reducible assumption | exact Below.refl _ _ | refine Below.drew ?_ | refine Below.setCell ?_ (by first | omega | (simp; done) | (simp; omega)) _ | refine Below.alloc ?_ (by first | omega | (simp; done) | (simp; omega)) _)) (Below.mono (B' := w.heap.size) HB (by first | omega | (simp; done) | (simp; omega)))
 try (have z2w0 : w.heap.size < w2.heap.size := (by omega))
 try (have z2w1 : w.heap.size + 1 < w2.heap.size := (by omega))
 try (have z2w2 : w.heap.size + 1 + 1 < w2.heap.size := (by omega))
 try (have z2w10 : w1.heap.size < w2.heap.size := (by omega))
 try (have z2w11 : w1.heap.size + 1 < w2.heap.size := (by omega))
 try (have z2w12 : w1.heap.size + 1 + 1 < w2.heap.size := (by omega))
 clear HB
 go_wp2_with (fail)
 go_at_call 13
 (with_reducible refine (wint _ _ hq).mono ?_)
 rintro e w3 ⟨rfl, HB⟩
 obtain ⟨hc3, hf3⟩ := bcell HB
 have hz3 := HB.size
 try simp at hz3
 replace hB := Below.trans (show Below w.heap.size w _ from by repeat (first | with_reducible assumption | exact Below.refl _ _ | refine Below.drew ?_ | refine Below.setCell ?_ (by first | omega | (simp; done) | (simp; omega)) _ | refine Below.alloc ?_ (by first | omega | (simp; done) | (simp; omega)) _)) (Below.mono (B' := w.heap.size) HB (by first | omega | (simp; done) | (simp; omega)))
 try (have z3w0 : w.heap.size < w3.heap.size := (by omega))
 try (have z3w1 : w.heap.size + 1 < w3.heap.size := (by omega))
 try (have z3w2 : w.heap.size + 1 + 1 < w3.heap.size := (by omega))
 try (have z3w10 : w1.heap.size < w3.heap.size := (by omega))
 try (have z3w11 : w1.heap.size + 1 < w3.heap.size := (by omega))
 try (have z3w12 : w1.heap.size + 1 + 1 < w3.heap.size := (by omega))
 try (have z3w20 : w2.heap.size < w3.heap.size := (by omega))
 try (have z3w21 : w2.heap.size + 1 < w3.heap.size := (by omega))
 try (have z3w22 : w2.heap.size + 1 + 1 < w3.heap.size := (by omega))
 clear HB
 go_wp2_with (fail)
 go_ret2
 exact ⟨rfl, by repeat (first | with_reducible assumption | exact Below.refl _ _ | refine Below.drew ?_ | refine Below.setCell ?_ (by first | omega | (simp; done) | (simp; omega)) _ | refine Below.alloc ?_ (by first | omega | (simp; done) | (simp; omega)) _)⟩
set_option maxHeartbeats 1000000 in
theorem wmuldiv_big (a b c : Int) (w : World) (ha : InR a) (hb : InR b) (hq1 : 1 ≤ c) (hq2 : InR c) (hq : ¬ InR (a * b / c)) : Calls Tryd.prog 75 #[.int .i64 a, .int .i64 b, .int .i64 c] w fun e w' => e = .returned (.tuple #[.int .i64 0, errV 2]) ∧ Below w.heap.size w w' := by
 have hB := Below.refl w.heap.size w
 have hr := mul_rng ha hb
 have hd := wdiv_rng (x := a * b) (d := c) (by omega) hq1
 go_enter Tryd.func75, Tryd.ntmps75
 go_wp2_with (fail)
 go_at_call 23
 (with_reducible refine (wmul _ _ _ ha hb).mono ?_)
 rintro e w1 ⟨rfl, HB⟩
 obtain ⟨hc1, hf1⟩ := bcell HB
 have hz1 := HB.size
 try simp at hz1
 replace hB := Below.trans (show Below w.heap.size w _ from by repeat (first | with_reducible assumption | exact Below.refl _ _ | refine Below.drew ?_ | refine Below.setCell ?_ (by first | omega | (simp; done) | (simp; omega)) _ | refine Below.alloc ?_ (by first | omega | (simp; done) | (simp; omega)) _)) (Below.mono (B' := w.heap.size) HB (by first | omega | (simp; done) | (simp; omega)))
 try (have z1w0 : w.heap.size < w1.heap.size := (by omega))
 try (have z1w1 : w.heap.size + 1 < w1.heap.size := (by omega))
 try (have z1w2 : w.heap.size + 1 + 1 < w1.heap.size := (by omega))
 clear HB
 go_wp2_with (fail)
 go_at_call 133
 (with_reducible refine (wdiv _ _ _ (by omega) hq1 hq2).mono ?_)
 rintro e w2 ⟨rfl, HB⟩
 obtain ⟨hc2, hf2⟩ := bcell HB
 have hz2 := HB.size
 try simp at hz2
 replace hB := Below.trans (show Below w.heap.size w _ from by repeat (first | with_reducible assumption | exact Below.refl _ _ | refine Below.drew ?_ | refine Below.setCell ?_ (by first | omega | (simp; done) | (simp; omega)) _ | refine Below.alloc ?_ (by first | omega | (simp; done) | (simp; omega)) _)) (Below.mono (B' := w.heap.size) HB (by first | omega | (simp; done) | (simp; omega)))
 try (have z2w0 : w.heap.size < w2.heap.size := (by omega))
 try (have z2w1 : w.heap.size + 1 < w2.heap.size := (by omega))
 try (have z2w2 : w.heap.size + 1 + 1 < w2.heap.size := (by omega))
 try (have z2w10 : w1.heap.size < w2.heap.size := (by omega))
 try (have z2w11 : w1.heap.size + 1 < w2.heap.size := (by omega))
 try (have z2w12 : w1.heap.size + 1 + 1 < w2.heap.size := (by omega))
 clear HB
 go_wp2_with (fail)
 go_at_call 13
 (with_reducible refine (wint_no _ _ (by omega) hq).mono ?_)
 rintro e w3 ⟨rfl, HB⟩
 obtain ⟨hc3, hf3⟩ := bcell HB
 have hz3 := HB.size
 try simp at hz3
 replace hB := Below.trans (show Below w.heap.size w _ from by repeat (first | with_reducible assumption | exact Below.refl _ _ | refine Below.drew ?_ | refine Below.setCell ?_ (by first | omega | (simp; done) | (simp; omega)) _ | refine Below.alloc ?_ (by first | omega | (simp; done) | (simp; omega)) _)) (Below.mono (B' := w.heap.size) HB (by first | omega | (simp; done) | (simp; omega)))
 try (have z3w0 : w.heap.size < w3.heap.size := (by omega))
 try (have z3w1 : w.heap.size + 1 < w3.heap.size := (by omega))
 try (have z3w2 : w.heap.size + 1 + 1 < w3.heap.size := (by omega))
 try (have z3w10 : w1.heap.size < w3.heap.size := (by omega))
 try (have z3w11 : w1.heap.size + 1 < w3.heap.size := (by omega))
 try (have z3w12 : w1.heap.size + 1 + 1 < w3.heap.size := (by omega))
 try (have z3w20 : w2.heap.size < w3.heap.size := (by omega))
 try (have z3w21 : w2.heap.size + 1 < w3.heap.size := (by omega))
 try (have z3w22 : w2.heap.size + 1 + 1 < w3.heap.size := (by omega))
 clear HB
 go_wp2_with (fail)
 go_ret2
 exact ⟨rfl, by repeat (first | with_reducible assumption | exact Below.refl _ _ | refine Below.drew ?_ | refine Below.setCell ?_ (by first | omega | (simp; done) | (simp; omega)) _ | refine Below.alloc ?_ (by first | omega | (simp; done) | (simp; omega)) _)⟩
abbrev R2 (b : Nat) (x y : Value) (wx : World) : Prop := b < wx.heap.size ∧ wx.cell? ⟨b, 0, none⟩ = some x ∧ wx.cell? ⟨b, 1, none⟩ = some y ∧ wx.frozen? ⟨b, 0, none⟩ = false ∧ wx.frozen? ⟨b, 1, none⟩ = false
theorem R2.step {b : Nat} {x y : Value} {wx w' : World} (h : R2 b x y wx) (hb : Below wx.heap.size wx w') : R2 b x y w' :=
 ⟨Nat.lt_of_lt_of_le h.1 hb.size, by rw [hb.cell (p := ⟨b, 0, none⟩) h.1]; exact h.2.1, by rw [hb.cell (p := ⟨b, 1, none⟩) h.1]; exact h.2.2.1, by rw [hb.frozen (p := ⟨b, 0, none⟩) h.1]; exact h.2.2.2.1, by rw [hb.frozen (p := ⟨b, 1, none⟩) h.1]; exact h.2.2.2.2⟩
end Go.Proofs.YtgondiedehjkhaaDoor
