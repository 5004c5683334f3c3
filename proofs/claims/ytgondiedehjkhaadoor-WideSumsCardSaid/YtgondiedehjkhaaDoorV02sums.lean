/-
 Layer 2: the statement WideBack.
-/
import Derived.Test.YtgondiedehjkhaaDoorW02esums
import Derived.Deep.RegionHeld3
namespace Go.Proofs.YtgondiedehjkhaaDoor
open Go.RowKit Go.Extern.Stop Go.Stop Go.Extern
set_option linter.unusedVariables false
set_option linter.unusedSimpArgs false
theorem wint_hi1 (w : World) : Calls Tryd.prog 13 #[.agg #[.int .i64 1, .int .u64 0]] w fun e w' => e = .returned (.tuple #[.int .i64 0, errV 2]) ∧ Below w.heap.size w w' := wint_no 18446744073709551616 w (by omega) (by omega)
theorem wmul_c (w : World) : Calls Tryd.prog 23 #[.int .i64 4611686018427387904, .int .i64 4] w fun e w' => e = .returned (.agg #[.int .i64 1, .int .u64 0]) ∧ Below w.heap.size w w' := wmul 4611686018427387904 4 w (by omega) (by omega)
theorem wof_m (w : World) : Calls Tryd.prog 21 #[.int .i64 (-1)] w fun e w' => e = .returned (.agg #[.int .i64 (-1), .int .u64 18446744073709551615]) ∧ Below w.heap.size w w' := wof (-1) w (by omega)
theorem wmuldiv_c (w : World) : Calls Tryd.prog 75 #[.int .i64 (-7), .int .i64 3, .int .i64 2] w fun e w' => e = .returned (.tuple #[.int .i64 (-11), .nilIface]) ∧ Below w.heap.size w w' := wmuldiv (-7) 3 2 w (by omega) (by omega) (by omega) (by omega) (by decide)
theorem wmulshift_c (w : World) : Calls Tryd.prog 76 #[.int .i64 1000, .int .u32 1073741824, .int .i64 31] w fun e w' => e = .returned (.tuple #[.int .i64 500, .nilIface]) ∧ Below w.heap.size w w' := wmulshift_i 1000 1073741824 31 w (by omega) (by omega) (by omega) (by omega) (by omega) (by decide)
set_option maxRecDepth 100000 in
set_option maxHeartbeats 8000000 in
theorem sure02 (w : World) (hg : w.cell? ⟨0, 0, none⟩ = some asHandle) : Calls Tryd.prog 25 #[] w fun e w' => e = .returned (.bool true) ∧ Below w.heap.size w w' := by
 have hH := Held.start hg
 go_enter Tryd.func25, Tryd.ntmps25
 go_wp2_with (fail)
 go_at_call 75
 (with_reducible refine (wmuldiv_c _).mono ?_)
 rintro e w1 ⟨rfl, HB⟩
 obtain ⟨hc1, hf1⟩ := bcell HB
 obtain ⟨hd1, hh1⟩ := bcell2 (U := w) (by repeat (first | exact Below.refl _ _ | refine Below.setCell ?_ (by simp <;> omega) _ | refine Below.alloc ?_ (by simp <;> omega) _ | refine Below.drew ?_)) HB
 have hz1 := HB.size
 try simp at hz1
 (try (have z1w0 : w.heap.size < w1.heap.size := (by omega)))
 (try (have z1w1 : w.heap.size + 1 < w1.heap.size := (by omega)))
 (try (have z1w2 : w.heap.size + 1 + 1 < w1.heap.size := (by omega)))
 (try (have z1w3 : w.heap.size + 1 + 1 + 1 < w1.heap.size := (by omega)))
 have hH1 := Held.step (w0 := w) (by repeat (first | assumption | refine Held.alloc ?_ _ | refine Held.drew ?_)) HB
 clear HB
 go_wp2_with (fail)
 go_at_call 76
 (with_reducible refine (wmulshift_c _).mono ?_)
 rintro e w2 ⟨rfl, HB⟩
 obtain ⟨hc2, hf2⟩ := bcell HB
 obtain ⟨hd2, hh2⟩ := bcell2 (U := w1) (by repeat (first | exact Below.refl _ _ | refine Below.setCell ?_ (by simp <;> omega) _ | refine Below.alloc ?_ (by simp <;> omega) _ | refine Below.drew ?_)) HB
 have hz2 := HB.size
 try simp at hz2
 (try (have z2w0 : w.heap.size < w2.heap.size := (by omega)))
 (try (have z2w1 : w.heap.size + 1 < w2.heap.size := (by omega)))
 (try (have z2w2 : w.heap.size + 1 + 1 < w2.heap.size := (by omega)))
 (try (have z2w3 : w.heap.size + 1 + 1 + 1 < w2.heap.size := (by omega)))
 (try (have z2w10 : w1.heap.size < w2.heap.size := (by omega)))
 (try (have z2w11 : w1.heap.size + 1 < w2.heap.size := (by omega)))
 (try (have z2w12 : w1.heap.size + 1 + 1 < w2.heap.size := (by omega)))
 (try (have z2w13 : w1.heap.size + 1 + 1 + 1 < w2.heap.size := (by omega)))
 have hH2 := Held.step (w0 := w) (by repeat (first | assumption | refine Held.alloc ?_ _ | refine Held.drew ?_)) HB
 clear HB
 go_wp2_with (fail)
 go_at_call 13
 (with_reducible refine (wint_hi1 _).mono ?_)
 rintro e w3 ⟨rfl, HB⟩
 obtain ⟨hc3, hf3⟩ := bcell HB
 obtain ⟨hd3, hh3⟩ := bcell2 (U := w2) (by repeat (first | exact Below.refl _ _ | refine Below.setCell ?_ (by simp <;> omega) _ | refine Below.alloc ?_ (by simp <;> omega) _ | refine Below.drew ?_)) HB
 have hz3 := HB.size
 try simp at hz3
 (try (have z3w0 : w.heap.size < w3.heap.size := (by omega)))
 (try (have z3w1 : w.heap.size + 1 < w3.heap.size := (by omega)))
 (try (have z3w2 : w.heap.size + 1 + 1 < w3.heap.size := (by omega)))
 (try (have z3w3 : w.heap.size + 1 + 1 + 1 < w3.heap.size := (by omega)))
 (try (have z3w10 : w1.heap.size < w3.heap.size := (by omega)))
 (try (have z3w11 : w1.heap.size + 1 < w3.heap.size := (by omega)))
 (try (have z3w12 : w1.heap.size + 1 + 1 < w3.heap.size := (by omega)))
 (try (have z3w13 : w1.heap.size + 1 + 1 + 1 < w3.heap.size := (by omega)))
 (try (have z3w20 : w2.heap.size < w3.heap.size := (by omega)))
 (try (have z3w21 : w2.heap.size + 1 < w3.heap.size := (by omega)))
 (try (have z3w22 : w2.heap.size + 1 + 1 < w3.heap.size := (by omega)))
 (try (have z3w23 : w2.heap.size + 1 + 1 + 1 < w3.heap.size := (by omega)))
 have hH3 := Held.step (w0 := w) (by repeat (first | assumption | refine Held.alloc ?_ _ | refine Held.drew ?_)) HB
 clear HB
 go_wp2_with (fail)

 go_wp2_with (first | (go_at_call 19; (with_reducible refine (num02_nil _).mono ?_); rintro e w' ⟨rfl, hb'⟩; have hH' := Held.step (w0 := w) (by assumption) hb'; clear hb') | (go_at_call 19; (with_reducible refine (num02_err _ _ (Held.handle (w0 := w) (by assumption))).mono ?_); rintro e w' ⟨rfl, hb'⟩; have hH' := Held.step (w0 := w) (by assumption) hb'; clear hb') | (go_at_call 23; (with_reducible refine (wmul_c _).mono ?_); rintro e w' ⟨rfl, hb'⟩; have hH' := Held.step (w0 := w) (by assumption) hb'; clear hb') | (go_at_call 21; (with_reducible refine (wof_m _).mono ?_); rintro e w' ⟨rfl, hb'⟩; have hH' := Held.step (w0 := w) (by assumption) hb'; clear hb'))

 go_ret
 exact ⟨rfl, Held.below (w0 := w) (by assumption)⟩
abbrev SW2 (w : World) (b0 : Nat) (v00 v01 : Value) (b1 : Nat) (v10 v11 : Value) (wx : World) : Prop := Held w wx ∧ R2 b0 v00 v01 wx ∧ R2 b1 v10 v11 wx
theorem SW2.step {w : World} {b0 : Nat} {v00 v01 : Value} {b1 : Nat} {v10 v11 : Value} {wx w' : World} (h : SW2 w b0 v00 v01 b1 v10 v11 wx) (hb : Below wx.heap.size wx w') : SW2 w b0 v00 v01 b1 v10 v11 w' := ⟨(h.1).step hb, (h.2.1).step hb, (h.2.2).step hb⟩
theorem SW2.drew {w : World} {b0 : Nat} {v00 v01 : Value} {b1 : Nat} {v10 v11 : Value} {wx : World} (h : SW2 w b0 v00 v01 b1 v10 v11 wx) : SW2 w b0 v00 v01 b1 v10 v11 wx.drew := h.step (Below.refl _ _).drew
end Go.Proofs.YtgondiedehjkhaaDoor
