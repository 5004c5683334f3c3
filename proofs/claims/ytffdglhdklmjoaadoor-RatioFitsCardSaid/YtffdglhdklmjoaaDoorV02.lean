/-
  Layer 2: the statement WideBack.
-/
import Derived.Test.YtffdglhdklmjoaaDoorW02e
import Derived.Deep.RegionHeld3
namespace Go.Proofs.YtffdglhdklmjoaaDoor
open Go.RowKit Go.Extern.Stop Go.Stop Go.Extern
set_option linter.unusedVariables false
set_option linter.unusedSimpArgs false
theorem wint_hi1 (w : World) : Calls Tryd.prog 22 #[.agg #[.int .i64 1, .int .u64 0]] w fun e w' => e = .returned (.tuple #[.int .i64 0, errV 2]) ∧ Below w.heap.size w w' := wint_no 18446744073709551616 w (by omega) (by omega)
theorem wmul_c (w : World) : Calls Tryd.prog 32 #[.int .i64 4611686018427387904, .int .i64 4] w fun e w' => e = .returned (.agg #[.int .i64 1, .int .u64 0]) ∧ Below w.heap.size w w' := wmul 4611686018427387904 4 w (by omega) (by omega)
theorem wof_m (w : World) : Calls Tryd.prog 30 #[.int .i64 (-1)] w fun e w' => e = .returned (.agg #[.int .i64 (-1), .int .u64 18446744073709551615]) ∧ Below w.heap.size w w' := wof (-1) w (by omega)
theorem wmuldiv_c (w : World) : Calls Tryd.prog 39 #[.int .i64 (-7), .int .i64 3, .int .i64 2] w fun e w' => e = .returned (.tuple #[.int .i64 (-11), .nilIface]) ∧ Below w.heap.size w w' := wmuldiv (-7) 3 2 w (by omega) (by omega) (by omega) (by omega) (by decide)
theorem wmulshift_c (w : World) : Calls Tryd.prog 41 #[.int .i64 1000, .int .u32 1073741824, .int .i64 31] w fun e w' => e = .returned (.tuple #[.int .i64 500, .nilIface]) ∧ Below w.heap.size w w' := wmulshift_i 1000 1073741824 31 w (by omega) (by omega) (by omega) (by omega) (by omega) (by decide)
set_option maxRecDepth 100000 in
set_option maxHeartbeats 8000000 in
theorem sure02 (w : World) (hg : w.cell? ⟨0, 0, none⟩ = some asHandle) : Calls Tryd.prog 34 #[] w fun e w' => e = .returned (.bool true) ∧ Below w.heap.size w w' := by
  have hH := Held.start hg
  go_enter Tryd.func34, Tryd.ntmps34
  go_wp2_with (fail)
  go_at_call 39
  (with_reducible refine (wmuldiv_c _).mono ?_)
  rintro e w1 ⟨rfl, HB⟩
  obtain ⟨hc1, hf1⟩ := bcell HB
  obtain ⟨hd1, hh1⟩ := bcell2 (U := w) (by repeat (first | exact Below.refl _ _ | refine Below.setCell ?_ (by simp <;> omega) _ | refine Below.alloc ?_ (by simp <;> omega) _ | refine Below.drew ?_)) HB
  have hz1 := HB.size
  try simp at hz1
  (try (have z1w0 : w.heap.size < w1.heap.size := (by omega)))
  (try (have z1w1 : w.heap.size + 1 < w1.heap.size := (by omega)))
  (try (have z1w2 : w.heap.size + 1 + 1 < w1.heap.size := (by omega)))
  (try (have z1w3 : w.heap.size + 1 + 1 + 1 < w1.heap.size := (by omega)))
  have hH1 := Held.step (w0 := w) (by repeat (first | assumption | refine Held.alloc ?_ _ | refine Held.drew ?_)) HB
  clear HB
  go_wp2_with (fail)
  go_at_call 41
  (with_reducible refine (wmulshift_c _).mono ?_)
  rintro e w2 ⟨rfl, HB⟩
  obtain ⟨hc2, hf2⟩ := bcell HB
  obtain ⟨hd2, hh2⟩ := bcell2 (U := w1) (by repeat (first | exact Below.refl _ _ | refine Below.setCell ?_ (by simp <;> omega) _ | refine Below.alloc ?_ (by simp <;> omega) _ | refine Below.drew ?_)) HB
  have hz2 := HB.size
  try simp at hz2
  (try (have z2w0 : w.heap.size < w2.heap.size := (by omega)))
  (try (have z2w1 : w.heap.size + 1 < w2.heap.size := (by omega)))
  (try (have z2w2 : w.heap.size + 1 + 1 < w2.heap.size := (by omega)))
  (try (have z2w3 : w.heap.size + 1 + 1 + 1 < w2.heap.size := (by omega)))
  (try (have z2w10 : w1.heap.size < w2.heap.size := (by omega)))
  (try (have z2w11 : w1.heap.size + 1 < w2.heap.size := (by omega)))
  (try (have z2w12 : w1.heap.size + 1 + 1 < w2.heap.size := (by omega)))
  (try (have z2w13 : w1.heap.size + 1 + 1 + 1 < w2.heap.size := (by omega)))
  have hH2 := Held.step (w0 := w) (by repeat (first | assumption | refine Held.alloc ?_ _ | refine Held.drew ?_)) HB
  clear HB
  go_wp2_with (fail)
  go_at_call 22
  (with_reducible refine (wint_hi1 _).mono ?_)
  rintro e w3 ⟨rfl, HB⟩
  obtain ⟨hc3, hf3⟩ := bcell HB
  obtain ⟨hd3, hh3⟩ := bcell2 (U := w2) (by repeat (first | exact Below.refl _ _ | refine Below.setCell ?_ (by simp <;> omega) _ | refine Below.alloc ?_ (by simp <;> omega) _ | refine Below.drew ?_)) HB
  have hz3 := HB.size
  try simp at hz3
  (try (have z3w0 : w.heap.size < w3.heap.size := (by omega)))
  (try (have z3w1 : w.heap.size + 1 < w3.heap.size := (by omega)))
  (try (have z3w2 : w.heap.size + 1 + 1 < w3.heap.size := (by omega)))
  (try (have z3w3 : w.heap.size + 1 + 1 + 1 < w3.heap.size := (by omega)))
  (try (have z3w10 : w1.heap.size < w3.heap.size := (by omega)))
  (try (have z3w11 : w1.heap.size + 1 < w3.heap.size := (by omega)))
  (try (have z3w12 : w1.heap.size + 1 + 1 < w3.heap.size := (by omega)))
  (try (have z3w13 : w1.heap.size + 1 + 1 + 1 < w3.heap.size := (by omega)))
  (try (have z3w20 : w2.heap.size < w3.heap.size := (by omega)))
  (try (have z3w21 : w2.heap.size + 1 < w3.heap.size := (by omega)))
  (try (have z3w22 : w2.heap.size + 1 + 1 < w3.heap.size := (by omega)))
  (try (have z3w23 : w2.heap.size + 1 + 1 + 1 < w3.heap.size := (by omega)))
  have hH3 := Held.step (w0 := w) (by repeat (first | assumption | refine Held.alloc ?_ _ | refine Held.drew ?_)) HB
  clear HB
  go_wp2_with (fail)

  go_wp2_with (first | (go_at_call 28; (with_reducible refine (num02_nil _).mono ?_); rintro e w' ⟨rfl, hb'⟩; have hH' := Held.step (w0 := w) (by assumption) hb'; clear hb') | (go_at_call 28; (with_reducible refine (num02_err _ _ (Held.handle (w0 := w) (by assumption))).mono ?_); rintro e w' ⟨rfl, hb'⟩; have hH' := Held.step (w0 := w) (by assumption) hb'; clear hb') | (go_at_call 32; (with_reducible refine (wmul_c _).mono ?_); rintro e w' ⟨rfl, hb'⟩; have hH' := Held.step (w0 := w) (by assumption) hb'; clear hb') | (go_at_call 30; (with_reducible refine (wof_m _).mono ?_); rintro e w' ⟨rfl, hb'⟩; have hH' := Held.step (w0 := w) (by assumption) hb'; clear hb'))

  go_ret
  exact ⟨rfl, Held.below (w0 := w) (by assumption)⟩
abbrev SW2 (w : World) (b0 : Nat) (v00 v01 : Value) (b1 : Nat) (v10 v11 : Value) (wx : World) : Prop := Held w wx ∧ R2 b0 v00 v01 wx ∧ R2 b1 v10 v11 wx
theorem SW2.step {w : World} {b0 : Nat} {v00 v01 : Value} {b1 : Nat} {v10 v11 : Value} {wx w' : World} (h : SW2 w b0 v00 v01 b1 v10 v11 wx) (hb : Below wx.heap.size wx w') : SW2 w b0 v00 v01 b1 v10 v11 w' := ⟨(h.1).step hb, (h.2.1).step hb, (h.2.2).step hb⟩
theorem SW2.drew {w : World} {b0 : Nat} {v00 v01 : Value} {b1 : Nat} {v10 v11 : Value} {wx : World} (h : SW2 w b0 v00 v01 b1 v10 v11 wx) : SW2 w b0 v00 v01 b1 v10 v11 wx.drew := h.step (Below.refl _ _).drew
theorem wmul_sw (a b : Int) (w : World) (ha : InR a) (hb : InR b) : Calls Tryd.prog 32 #[.int .i64 b, .int .i64 a] w fun e w' => e = .returned (WV (a * b)) ∧ Below w.heap.size w w' := by
  rw [Int.mul_comm]; exact wmul b a w hb ha
set_option maxRecDepth 100000 in
set_option maxHeartbeats 16000000 in
theorem wideback_no (a b n0 n1 : Int) (w : World) (ha : InR a) (hb : InR b) (h0 : 0 ≤ n0) (h1 : 0 ≤ n1) (h2 : n0 ≤ 255) (h3 : n1 ≤ 255) (hb1 : b < 1) (hg : w.cell? ⟨0, 0, none⟩ = some asHandle) :
    Calls Tryd.prog 6 #[.int .i64 a, .int .i64 b, .agg #[.int .u8 n0, .int .u8 n1]] w fun e w' => e = .returned (.bool true) ∧ Below w.heap.size w w' := by
  have hH := Held.start hg
  have hr0 := mul_rng ha hb
  have hr : In128 (a * b) := by omega
  obtain ⟨j, hj0, hj⟩ : ∃ j, n0.tmod 64 = j ∧ (0 ≤ j ∧ j ≤ 63) := ⟨_, rfl, by rw [Int.tmod_eq_emod_of_nonneg h0]; omega⟩
  obtain ⟨k, hk0, hk⟩ : ∃ k, n1.tmod 64 = k ∧ (0 ≤ k ∧ k ≤ 63) := ⟨_, rfl, by rw [Int.tmod_eq_emod_of_nonneg h1]; omega⟩
  have ejk : wrap64 (j + k) = j + k := IntWalk.wrap64_in _ (by omega)
  have e4 : a * b / 2 ^ j.toNat / 2 ^ k.toNat = a * b / 2 ^ (j + k).toNat := by
    rw [Int.ediv_ediv_of_nonneg (Int.le_of_lt (Int.pow_pos (by omega))), ← Int.pow_add, Int.toNat_add hj.1 hk.1]
  go_enter Tryd.func6, Tryd.ntmps6
  go_wp2_with (fail)
  go_region
  go_wp2_with (fail)
  go_at_call 32
  (with_reducible refine (wmul a b _ ha hb).mono ?_)
  rintro e w1 ⟨rfl, HB⟩
  obtain ⟨hc1, hf1⟩ := bcell HB
  obtain ⟨hd1, hh1⟩ := bcell2 (U := w) (by repeat (first | exact Below.refl _ _ | refine Below.setCell ?_ (by simp <;> omega) _ | refine Below.alloc ?_ (by simp <;> omega) _ | refine Below.drew ?_)) HB
  have hz1 := HB.size
  try simp at hz1
  (try (have z1w0 : w.heap.size < w1.heap.size := (by omega)))
  (try (have z1w1 : w.heap.size + 1 < w1.heap.size := (by omega)))
  (try (have z1w2 : w.heap.size + 1 + 1 < w1.heap.size := (by omega)))
  (try (have z1w3 : w.heap.size + 1 + 1 + 1 < w1.heap.size := (by omega)))
  have hH1 := Held.step (w0 := w) (by repeat (first | assumption | refine Held.alloc ?_ _ | refine Held.drew ?_)) HB
  clear HB
  go_wp2_with (fail)
  go_at_call 35
  (with_reducible refine (wshr_i _ _ _ hr hj.1 (by omega)).mono ?_)
  rintro e w2 ⟨rfl, HB⟩
  obtain ⟨hc2, hf2⟩ := bcell HB
  obtain ⟨hd2, hh2⟩ := bcell2 (U := w1) (by repeat (first | exact Below.refl _ _ | refine Below.setCell ?_ (by simp <;> omega) _ | refine Below.alloc ?_ (by simp <;> omega) _ | refine Below.drew ?_)) HB
  have hz2 := HB.size
  try simp at hz2
  (try (have z2w0 : w.heap.size < w2.heap.size := (by omega)))
  (try (have z2w1 : w.heap.size + 1 < w2.heap.size := (by omega)))
  (try (have z2w2 : w.heap.size + 1 + 1 < w2.heap.size := (by omega)))
  (try (have z2w3 : w.heap.size + 1 + 1 + 1 < w2.heap.size := (by omega)))
  (try (have z2w10 : w1.heap.size < w2.heap.size := (by omega)))
  (try (have z2w11 : w1.heap.size + 1 < w2.heap.size := (by omega)))
  (try (have z2w12 : w1.heap.size + 1 + 1 < w2.heap.size := (by omega)))
  (try (have z2w13 : w1.heap.size + 1 + 1 + 1 < w2.heap.size := (by omega)))
  have hH2 := Held.step (w0 := w) (by repeat (first | assumption | refine Held.alloc ?_ _ | refine Held.drew ?_)) HB
  clear HB
  go_wp2_with (fail)
  go_at_call 35
  (with_reducible refine (wshr_i _ _ _ (shr_rng _ hr) hk.1 (by omega)).mono ?_)
  rintro e w3 ⟨rfl, HB⟩
  obtain ⟨hc3, hf3⟩ := bcell HB
  obtain ⟨hd3, hh3⟩ := bcell2 (U := w2) (by repeat (first | exact Below.refl _ _ | refine Below.setCell ?_ (by simp <;> omega) _ | refine Below.alloc ?_ (by simp <;> omega) _ | refine Below.drew ?_)) HB
  have hz3 := HB.size
  try simp at hz3
  (try (have z3w0 : w.heap.size < w3.heap.size := (by omega)))
  (try (have z3w1 : w.heap.size + 1 < w3.heap.size := (by omega)))
  (try (have z3w2 : w.heap.size + 1 + 1 < w3.heap.size := (by omega)))
  (try (have z3w3 : w.heap.size + 1 + 1 + 1 < w3.heap.size := (by omega)))
  (try (have z3w10 : w1.heap.size < w3.heap.size := (by omega)))
  (try (have z3w11 : w1.heap.size + 1 < w3.heap.size := (by omega)))
  (try (have z3w12 : w1.heap.size + 1 + 1 < w3.heap.size := (by omega)))
  (try (have z3w13 : w1.heap.size + 1 + 1 + 1 < w3.heap.size := (by omega)))
  (try (have z3w20 : w2.heap.size < w3.heap.size := (by omega)))
  (try (have z3w21 : w2.heap.size + 1 < w3.heap.size := (by omega)))
  (try (have z3w22 : w2.heap.size + 1 + 1 < w3.heap.size := (by omega)))
  (try (have z3w23 : w2.heap.size + 1 + 1 + 1 < w3.heap.size := (by omega)))
  have hH3 := Held.step (w0 := w) (by repeat (first | assumption | refine Held.alloc ?_ _ | refine Held.drew ?_)) HB
  clear HB
  go_wp2_with (fail)
  go_at_call 32
  (with_reducible refine (wmul a b _ ha hb).mono ?_)
  rintro e w4 ⟨rfl, HB⟩
  obtain ⟨hc4, hf4⟩ := bcell HB
  obtain ⟨hd4, hh4⟩ := bcell2 (U := w3) (by repeat (first | exact Below.refl _ _ | refine Below.setCell ?_ (by simp <;> omega) _ | refine Below.alloc ?_ (by simp <;> omega) _ | refine Below.drew ?_)) HB
  have hz4 := HB.size
  try simp at hz4
  (try (have z4w0 : w.heap.size < w4.heap.size := (by omega)))
  (try (have z4w1 : w.heap.size + 1 < w4.heap.size := (by omega)))
  (try (have z4w2 : w.heap.size + 1 + 1 < w4.heap.size := (by omega)))
  (try (have z4w3 : w.heap.size + 1 + 1 + 1 < w4.heap.size := (by omega)))
  (try (have z4w10 : w1.heap.size < w4.heap.size := (by omega)))
  (try (have z4w11 : w1.heap.size + 1 < w4.heap.size := (by omega)))
  (try (have z4w12 : w1.heap.size + 1 + 1 < w4.heap.size := (by omega)))
  (try (have z4w13 : w1.heap.size + 1 + 1 + 1 < w4.heap.size := (by omega)))
  (try (have z4w20 : w2.heap.size < w4.heap.size := (by omega)))
  (try (have z4w21 : w2.heap.size + 1 < w4.heap.size := (by omega)))
  (try (have z4w22 : w2.heap.size + 1 + 1 < w4.heap.size := (by omega)))
  (try (have z4w23 : w2.heap.size + 1 + 1 + 1 < w4.heap.size := (by omega)))
  (try (have z4w30 : w3.heap.size < w4.heap.size := (by omega)))
  (try (have z4w31 : w3.heap.size + 1 < w4.heap.size := (by omega)))
  (try (have z4w32 : w3.heap.size + 1 + 1 < w4.heap.size := (by omega)))
  (try (have z4w33 : w3.heap.size + 1 + 1 + 1 < w4.heap.size := (by omega)))
  have hH4 := Held.step (w0 := w) (by repeat (first | assumption | refine Held.alloc ?_ _ | refine Held.drew ?_)) HB
  clear HB
  go_wp2_with (fail)
  go_at_call 35
  (with_reducible refine (wshr_i _ _ _ hr (by omega) (by omega)).mono ?_)
  rintro e w5 ⟨rfl, HB⟩
  obtain ⟨hc5, hf5⟩ := bcell HB
  obtain ⟨hd5, hh5⟩ := bcell2 (U := w4) (by repeat (first | exact Below.refl _ _ | refine Below.setCell ?_ (by simp <;> omega) _ | refine Below.alloc ?_ (by simp <;> omega) _ | refine Below.drew ?_)) HB
  have hz5 := HB.size
  try simp at hz5
  (try (have z5w0 : w.heap.size < w5.heap.size := (by omega)))
  (try (have z5w1 : w.heap.size + 1 < w5.heap.size := (by omega)))
  (try (have z5w2 : w.heap.size + 1 + 1 < w5.heap.size := (by omega)))
  (try (have z5w3 : w.heap.size + 1 + 1 + 1 < w5.heap.size := (by omega)))
  (try (have z5w10 : w1.heap.size < w5.heap.size := (by omega)))
  (try (have z5w11 : w1.heap.size + 1 < w5.heap.size := (by omega)))
  (try (have z5w12 : w1.heap.size + 1 + 1 < w5.heap.size := (by omega)))
  (try (have z5w13 : w1.heap.size + 1 + 1 + 1 < w5.heap.size := (by omega)))
  (try (have z5w20 : w2.heap.size < w5.heap.size := (by omega)))
  (try (have z5w21 : w2.heap.size + 1 < w5.heap.size := (by omega)))
  (try (have z5w22 : w2.heap.size + 1 + 1 < w5.heap.size := (by omega)))
  (try (have z5w23 : w2.heap.size + 1 + 1 + 1 < w5.heap.size := (by omega)))
  (try (have z5w30 : w3.heap.size < w5.heap.size := (by omega)))
  (try (have z5w31 : w3.heap.size + 1 < w5.heap.size := (by omega)))
  (try (have z5w32 : w3.heap.size + 1 + 1 < w5.heap.size := (by omega)))
  (try (have z5w33 : w3.heap.size + 1 + 1 + 1 < w5.heap.size := (by omega)))
  (try (have z5w40 : w4.heap.size < w5.heap.size := (by omega)))
  (try (have z5w41 : w4.heap.size + 1 < w5.heap.size := (by omega)))
  (try (have z5w42 : w4.heap.size + 1 + 1 < w5.heap.size := (by omega)))
  (try (have z5w43 : w4.heap.size + 1 + 1 + 1 < w5.heap.size := (by omega)))
  have hH5 := Held.step (w0 := w) (by repeat (first | assumption | refine Held.alloc ?_ _ | refine Held.drew ?_)) HB
  clear HB
  go_wp2_with (first | (go_at_call 32; (with_reducible refine (wmul a b _ ha hb).mono ?_); rintro e w' ⟨rfl, hb'⟩; obtain ⟨hc, hf⟩ := bcell hb'; have hz := hb'.size; (try (simp at hz)); have hH' := Held.step (w0 := w) (by repeat (first | assumption | refine Held.alloc ?_ _ | refine Held.drew ?_ | refine Held.set1 ?_ (by first | omega | (simp; done) | (simp; omega)) (handle_lt hg) _)) hb'; clear hb') | (go_at_call 32; (with_reducible refine (wmul_sw a b _ ha hb).mono ?_); rintro e w' ⟨rfl, hb'⟩; obtain ⟨hc, hf⟩ := bcell hb'; have hz := hb'.size; (try (simp at hz)); have hH' := Held.step (w0 := w) (by repeat (first | assumption | refine Held.alloc ?_ _ | refine Held.drew ?_ | refine Held.set1 ?_ (by first | omega | (simp; done) | (simp; omega)) (handle_lt hg) _)) hb'; clear hb') | (go_at_call 34; (with_reducible refine (sure02 _ (Held.handle (w0 := w) (by repeat (first | assumption | refine Held.alloc ?_ _ | refine Held.drew ?_ | refine Held.set1 ?_ (by first | omega | (simp; done) | (simp; omega)) (handle_lt hg) _)))).mono ?_); rintro e w' ⟨rfl, hb'⟩; obtain ⟨hc, hf⟩ := bcell hb'; have hz := hb'.size; (try (simp at hz)); have hH' := Held.step (w0 := w) (by repeat (first | assumption | refine Held.alloc ?_ _ | refine Held.drew ?_ | refine Held.set1 ?_ (by first | omega | (simp; done) | (simp; omega)) (handle_lt hg) _)) hb'; clear hb'))
  go_ret
  exact ⟨rfl, Held.below (w0 := w) (by assumption)⟩
set_option maxRecDepth 100000 in
set_option maxHeartbeats 16000000 in
theorem wideback_yes (a b n0 n1 : Int) (w : World) (ha : InR a) (hb : InR b) (h0 : 0 ≤ n0) (h1 : 0 ≤ n1) (h2 : n0 ≤ 255) (h3 : n1 ≤ 255) (hb1 : 1 ≤ b) (hg : w.cell? ⟨0, 0, none⟩ = some asHandle) :
    Calls Tryd.prog 6 #[.int .i64 a, .int .i64 b, .agg #[.int .u8 n0, .int .u8 n1]] w fun e w' => e = .returned (.bool true) ∧ Below w.heap.size w w' := by
  have hH := Held.start hg
  have hr0 := mul_rng ha hb
  have hr : In128 (a * b) := by omega
  obtain ⟨j, hj0, hj⟩ : ∃ j, n0.tmod 64 = j ∧ (0 ≤ j ∧ j ≤ 63) := ⟨_, rfl, by rw [Int.tmod_eq_emod_of_nonneg h0]; omega⟩
  obtain ⟨k, hk0, hk⟩ : ∃ k, n1.tmod 64 = k ∧ (0 ≤ k ∧ k ≤ 63) := ⟨_, rfl, by rw [Int.tmod_eq_emod_of_nonneg h1]; omega⟩
  have ejk : wrap64 (j + k) = j + k := IntWalk.wrap64_in _ (by omega)
  have e4 : a * b / 2 ^ j.toNat / 2 ^ k.toNat = a * b / 2 ^ (j + k).toNat := by
    rw [Int.ediv_ediv_of_nonneg (Int.le_of_lt (Int.pow_pos (by omega))), ← Int.pow_add, Int.toNat_add hj.1 hk.1]
  have e1 : a * b / b = a := Int.mul_ediv_cancel _ (by omega)
  have e2 : a * b % b = 0 := Int.mul_emod_left _ _
  have e3 : a / b * b + a % b = a := Int.ediv_mul_add_emod a b
  have m0 : 0 ≤ a % b := Int.emod_nonneg _ (by omega)
  have m1 : a % b < b := Int.emod_lt_of_pos _ (by omega)
  have dd := wdiv_rng (x := a) (d := b) (by omega) hb1
  have hq : InR (a / b) := by
    constructor
    · exact Int.le_ediv_of_mul_le (by omega) (by have := Int.mul_le_mul_of_nonneg_left hb1 (by omega : (0 : Int) ≤ 9223372036854775808); omega)
    · exact Int.le_of_lt_add_one (Int.ediv_lt_of_lt_mul (by omega) (by have := Int.mul_le_mul_of_nonneg_left hb1 (by omega : (0 : Int) ≤ 9223372036854775808); omega))
  have hqb := mul_rng hq hb
  go_enter Tryd.func6, Tryd.ntmps6
  go_wp2_with (fail)
  go_at_call 32
  (with_reducible refine (wmul a b _ ha hb).mono ?_)
  rintro e w1 ⟨rfl, HB⟩
  obtain ⟨hc1, hf1⟩ := bcell HB
  obtain ⟨hd1, hh1⟩ := bcell2 (U := w) (by repeat (first | exact Below.refl _ _ | refine Below.setCell ?_ (by simp <;> omega) _ | refine Below.alloc ?_ (by simp <;> omega) _ | refine Below.drew ?_)) HB
  have hz1 := HB.size
  try simp at hz1
  (try (have z1w0 : w.heap.size < w1.heap.size := (by omega)))
  (try (have z1w1 : w.heap.size + 1 < w1.heap.size := (by omega)))
  (try (have z1w2 : w.heap.size + 1 + 1 < w1.heap.size := (by omega)))
  (try (have z1w3 : w.heap.size + 1 + 1 + 1 < w1.heap.size := (by omega)))
  have hH1 := Held.step (w0 := w) (by repeat (first | assumption | refine Held.alloc ?_ _ | refine Held.drew ?_)) HB
  clear HB
  go_wp2_with (fail)
  go_at_call 36
  (with_reducible refine (wdiv _ _ _ hr hb1 hb).mono ?_)
  rintro e w2 ⟨rfl, HB⟩
  obtain ⟨hc2, hf2⟩ := bcell HB
  obtain ⟨hd2, hh2⟩ := bcell2 (U := w1) (by repeat (first | exact Below.refl _ _ | refine Below.setCell ?_ (by simp <;> omega) _ | refine Below.alloc ?_ (by simp <;> omega) _ | refine Below.drew ?_)) HB
  have hz2 := HB.size
  try simp at hz2
  (try (have z2w0 : w.heap.size < w2.heap.size := (by omega)))
  (try (have z2w1 : w.heap.size + 1 < w2.heap.size := (by omega)))
  (try (have z2w2 : w.heap.size + 1 + 1 < w2.heap.size := (by omega)))
  (try (have z2w3 : w.heap.size + 1 + 1 + 1 < w2.heap.size := (by omega)))
  (try (have z2w10 : w1.heap.size < w2.heap.size := (by omega)))
  (try (have z2w11 : w1.heap.size + 1 < w2.heap.size := (by omega)))
  (try (have z2w12 : w1.heap.size + 1 + 1 < w2.heap.size := (by omega)))
  (try (have z2w13 : w1.heap.size + 1 + 1 + 1 < w2.heap.size := (by omega)))
  have hH2 := Held.step (w0 := w) (by repeat (first | assumption | refine Held.alloc ?_ _ | refine Held.drew ?_)) HB
  clear HB
  go_wp2_with (fail)
  go_at_call 39
  (with_reducible refine (wmuldiv a b b _ ha hb hb1 hb (by rw [e1]; exact ha)).mono ?_)
  rintro e w3 ⟨rfl, HB⟩
  obtain ⟨hc3, hf3⟩ := bcell HB
  obtain ⟨hd3, hh3⟩ := bcell2 (U := w2) (by repeat (first | exact Below.refl _ _ | refine Below.setCell ?_ (by simp <;> omega) _ | refine Below.alloc ?_ (by simp <;> omega) _ | refine Below.drew ?_)) HB
  have hz3 := HB.size
  try simp at hz3
  (try (have z3w0 : w.heap.size < w3.heap.size := (by omega)))
  (try (have z3w1 : w.heap.size + 1 < w3.heap.size := (by omega)))
  (try (have z3w2 : w.heap.size + 1 + 1 < w3.heap.size := (by omega)))
  (try (have z3w3 : w.heap.size + 1 + 1 + 1 < w3.heap.size := (by omega)))
  (try (have z3w10 : w1.heap.size < w3.heap.size := (by omega)))
  (try (have z3w11 : w1.heap.size + 1 < w3.heap.size := (by omega)))
  (try (have z3w12 : w1.heap.size + 1 + 1 < w3.heap.size := (by omega)))
  (try (have z3w13 : w1.heap.size + 1 + 1 + 1 < w3.heap.size := (by omega)))
  (try (have z3w20 : w2.heap.size < w3.heap.size := (by omega)))
  (try (have z3w21 : w2.heap.size + 1 < w3.heap.size := (by omega)))
  (try (have z3w22 : w2.heap.size + 1 + 1 < w3.heap.size := (by omega)))
  (try (have z3w23 : w2.heap.size + 1 + 1 + 1 < w3.heap.size := (by omega)))
  have hH3 := Held.step (w0 := w) (by repeat (first | assumption | refine Held.alloc ?_ _ | refine Held.drew ?_)) HB
  clear HB
  go_wp2_with (fail)
  have hS0 : SW2 w (w.heap.size) (.int .u8 n0) (.int .u8 n1) (w2.heap.size) (.int .i64 (a / 18446744073709551616)) (.int .u64 (a % 18446744073709551616)) w3 := ⟨hH3, ⟨(by first | omega | (simp; done) | (simp; omega)), by go_simp, by go_simp, by go_simp, by go_simp⟩, ⟨(by first | omega | (simp; done) | (simp; omega)), by go_simp, by go_simp, by go_simp, by go_simp⟩⟩
  go_region_held3 (fun wx => SW2 w (w.heap.size) (.int .u8 n0) (.int .u8 n1) (w2.heap.size) (.int .i64 (a / 18446744073709551616)) (.int .u64 (a % 18446744073709551616)) wx) (first | assumption | exact SW2.drew (by assumption)) (first | (go_at_call 30; (with_reducible refine (wof _ _ ha).mono ?_); rintro e w' ⟨rfl, hb'⟩; have hS' := SW2.step (by assumption) hb'; clear hb'))
  obtain ⟨w4, rfl⟩ : ∃ x, x = w' := ⟨_, rfl⟩
  obtain ⟨hH4, ⟨k400, k401, k402, k403, k404⟩, ⟨k410, k411, k412, k413, k414⟩⟩ := hS'
  have hz4a := (Held.below (w0 := w) hH4).size
  go_wp2_with (fail)
  go_at_call 30
  (with_reducible refine (wof _ _ ha).mono ?_)
  rintro e w5 ⟨rfl, HB⟩
  obtain ⟨hc5, hf5⟩ := bcell HB
  obtain ⟨hd5, hh5⟩ := bcell2 (U := w4) (by repeat (first | exact Below.refl _ _ | refine Below.setCell ?_ (by simp <;> omega) _ | refine Below.alloc ?_ (by simp <;> omega) _ | refine Below.drew ?_)) HB
  have hz5 := HB.size
  try simp at hz5
  (try (have z5w0 : w.heap.size < w5.heap.size := (by omega)))
  (try (have z5w1 : w.heap.size + 1 < w5.heap.size := (by omega)))
  (try (have z5w2 : w.heap.size + 1 + 1 < w5.heap.size := (by omega)))
  (try (have z5w3 : w.heap.size + 1 + 1 + 1 < w5.heap.size := (by omega)))
  (try (have z5w10 : w1.heap.size < w5.heap.size := (by omega)))
  (try (have z5w11 : w1.heap.size + 1 < w5.heap.size := (by omega)))
  (try (have z5w12 : w1.heap.size + 1 + 1 < w5.heap.size := (by omega)))
  (try (have z5w13 : w1.heap.size + 1 + 1 + 1 < w5.heap.size := (by omega)))
  (try (have z5w20 : w2.heap.size < w5.heap.size := (by omega)))
  (try (have z5w21 : w2.heap.size + 1 < w5.heap.size := (by omega)))
  (try (have z5w22 : w2.heap.size + 1 + 1 < w5.heap.size := (by omega)))
  (try (have z5w23 : w2.heap.size + 1 + 1 + 1 < w5.heap.size := (by omega)))
  (try (have z5w30 : w3.heap.size < w5.heap.size := (by omega)))
  (try (have z5w31 : w3.heap.size + 1 < w5.heap.size := (by omega)))
  (try (have z5w32 : w3.heap.size + 1 + 1 < w5.heap.size := (by omega)))
  (try (have z5w33 : w3.heap.size + 1 + 1 + 1 < w5.heap.size := (by omega)))
  (try (have z5w40 : w4.heap.size < w5.heap.size := (by omega)))
  (try (have z5w41 : w4.heap.size + 1 < w5.heap.size := (by omega)))
  (try (have z5w42 : w4.heap.size + 1 + 1 < w5.heap.size := (by omega)))
  (try (have z5w43 : w4.heap.size + 1 + 1 + 1 < w5.heap.size := (by omega)))
  have hH5 := Held.step (w0 := w) (by repeat (first | assumption | refine Held.alloc ?_ _ | refine Held.drew ?_)) HB
  clear HB
  go_wp2_with (fail)
  go_at_call 36
  (with_reducible refine (wdiv _ _ _ (by omega) hb1 hb).mono ?_)
  rintro e w6 ⟨rfl, HB⟩
  obtain ⟨hc6, hf6⟩ := bcell HB
  obtain ⟨hd6, hh6⟩ := bcell2 (U := w5) (by repeat (first | exact Below.refl _ _ | refine Below.setCell ?_ (by simp <;> omega) _ | refine Below.alloc ?_ (by simp <;> omega) _ | refine Below.drew ?_)) HB
  have hz6 := HB.size
  try simp at hz6
  (try (have z6w0 : w.heap.size < w6.heap.size := (by omega)))
  (try (have z6w1 : w.heap.size + 1 < w6.heap.size := (by omega)))
  (try (have z6w2 : w.heap.size + 1 + 1 < w6.heap.size := (by omega)))
  (try (have z6w3 : w.heap.size + 1 + 1 + 1 < w6.heap.size := (by omega)))
  (try (have z6w10 : w1.heap.size < w6.heap.size := (by omega)))
  (try (have z6w11 : w1.heap.size + 1 < w6.heap.size := (by omega)))
  (try (have z6w12 : w1.heap.size + 1 + 1 < w6.heap.size := (by omega)))
  (try (have z6w13 : w1.heap.size + 1 + 1 + 1 < w6.heap.size := (by omega)))
  (try (have z6w20 : w2.heap.size < w6.heap.size := (by omega)))
  (try (have z6w21 : w2.heap.size + 1 < w6.heap.size := (by omega)))
  (try (have z6w22 : w2.heap.size + 1 + 1 < w6.heap.size := (by omega)))
  (try (have z6w23 : w2.heap.size + 1 + 1 + 1 < w6.heap.size := (by omega)))
  (try (have z6w30 : w3.heap.size < w6.heap.size := (by omega)))
  (try (have z6w31 : w3.heap.size + 1 < w6.heap.size := (by omega)))
  (try (have z6w32 : w3.heap.size + 1 + 1 < w6.heap.size := (by omega)))
  (try (have z6w33 : w3.heap.size + 1 + 1 + 1 < w6.heap.size := (by omega)))
  (try (have z6w40 : w4.heap.size < w6.heap.size := (by omega)))
  (try (have z6w41 : w4.heap.size + 1 < w6.heap.size := (by omega)))
  (try (have z6w42 : w4.heap.size + 1 + 1 < w6.heap.size := (by omega)))
  (try (have z6w43 : w4.heap.size + 1 + 1 + 1 < w6.heap.size := (by omega)))
  (try (have z6w50 : w5.heap.size < w6.heap.size := (by omega)))
  (try (have z6w51 : w5.heap.size + 1 < w6.heap.size := (by omega)))
  (try (have z6w52 : w5.heap.size + 1 + 1 < w6.heap.size := (by omega)))
  (try (have z6w53 : w5.heap.size + 1 + 1 + 1 < w6.heap.size := (by omega)))
  have hH6 := Held.step (w0 := w) (by repeat (first | assumption | refine Held.alloc ?_ _ | refine Held.drew ?_)) HB
  clear HB
  go_wp2_with (fail)
  go_at_call 22
  (with_reducible refine (wint _ _ hq).mono ?_)
  rintro e w7 ⟨rfl, HB⟩
  obtain ⟨hc7, hf7⟩ := bcell HB
  have hz7 := HB.size
  try simp at hz7
  (try (have z7w0 : w.heap.size < w7.heap.size := (by omega)))
  (try (have z7w1 : w.heap.size + 1 < w7.heap.size := (by omega)))
  (try (have z7w2 : w.heap.size + 1 + 1 < w7.heap.size := (by omega)))
  (try (have z7w3 : w.heap.size + 1 + 1 + 1 < w7.heap.size := (by omega)))
  (try (have z7w10 : w1.heap.size < w7.heap.size := (by omega)))
  (try (have z7w11 : w1.heap.size + 1 < w7.heap.size := (by omega)))
  (try (have z7w12 : w1.heap.size + 1 + 1 < w7.heap.size := (by omega)))
  (try (have z7w13 : w1.heap.size + 1 + 1 + 1 < w7.heap.size := (by omega)))
  (try (have z7w20 : w2.heap.size < w7.heap.size := (by omega)))
  (try (have z7w21 : w2.heap.size + 1 < w7.heap.size := (by omega)))
  (try (have z7w22 : w2.heap.size + 1 + 1 < w7.heap.size := (by omega)))
  (try (have z7w23 : w2.heap.size + 1 + 1 + 1 < w7.heap.size := (by omega)))
  (try (have z7w30 : w3.heap.size < w7.heap.size := (by omega)))
  (try (have z7w31 : w3.heap.size + 1 < w7.heap.size := (by omega)))
  (try (have z7w32 : w3.heap.size + 1 + 1 < w7.heap.size := (by omega)))
  (try (have z7w33 : w3.heap.size + 1 + 1 + 1 < w7.heap.size := (by omega)))
  (try (have z7w40 : w4.heap.size < w7.heap.size := (by omega)))
  (try (have z7w41 : w4.heap.size + 1 < w7.heap.size := (by omega)))
  (try (have z7w42 : w4.heap.size + 1 + 1 < w7.heap.size := (by omega)))
  (try (have z7w43 : w4.heap.size + 1 + 1 + 1 < w7.heap.size := (by omega)))
  (try (have z7w50 : w5.heap.size < w7.heap.size := (by omega)))
  (try (have z7w51 : w5.heap.size + 1 < w7.heap.size := (by omega)))
  (try (have z7w52 : w5.heap.size + 1 + 1 < w7.heap.size := (by omega)))
  (try (have z7w53 : w5.heap.size + 1 + 1 + 1 < w7.heap.size := (by omega)))
  (try (have z7w60 : w6.heap.size < w7.heap.size := (by omega)))
  (try (have z7w61 : w6.heap.size + 1 < w7.heap.size := (by omega)))
  (try (have z7w62 : w6.heap.size + 1 + 1 < w7.heap.size := (by omega)))
  (try (have z7w63 : w6.heap.size + 1 + 1 + 1 < w7.heap.size := (by omega)))
  have hH7 := Held.step (w0 := w) (by repeat (first | assumption | refine Held.alloc ?_ _ | refine Held.drew ?_ | refine Held.set1 ?_ (by first | omega | (simp; done) | (simp; omega)) (handle_lt hg) _)) HB
  clear HB
  go_wp2_with (fail)
  go_at_call 32
  (with_reducible refine (wmul _ _ _ hq hb).mono ?_)
  rintro e w8 ⟨rfl, HB⟩
  obtain ⟨hc8, hf8⟩ := bcell HB
  obtain ⟨hd8, hh8⟩ := bcell2 (U := w7) (by repeat (first | exact Below.refl _ _ | refine Below.setCell ?_ (by simp <;> omega) _ | refine Below.alloc ?_ (by simp <;> omega) _ | refine Below.drew ?_)) HB
  have hz8 := HB.size
  try simp at hz8
  (try (have z8w0 : w.heap.size < w8.heap.size := (by omega)))
  (try (have z8w1 : w.heap.size + 1 < w8.heap.size := (by omega)))
  (try (have z8w2 : w.heap.size + 1 + 1 < w8.heap.size := (by omega)))
  (try (have z8w3 : w.heap.size + 1 + 1 + 1 < w8.heap.size := (by omega)))
  (try (have z8w10 : w1.heap.size < w8.heap.size := (by omega)))
  (try (have z8w11 : w1.heap.size + 1 < w8.heap.size := (by omega)))
  (try (have z8w12 : w1.heap.size + 1 + 1 < w8.heap.size := (by omega)))
  (try (have z8w13 : w1.heap.size + 1 + 1 + 1 < w8.heap.size := (by omega)))
  (try (have z8w20 : w2.heap.size < w8.heap.size := (by omega)))
  (try (have z8w21 : w2.heap.size + 1 < w8.heap.size := (by omega)))
  (try (have z8w22 : w2.heap.size + 1 + 1 < w8.heap.size := (by omega)))
  (try (have z8w23 : w2.heap.size + 1 + 1 + 1 < w8.heap.size := (by omega)))
  (try (have z8w30 : w3.heap.size < w8.heap.size := (by omega)))
  (try (have z8w31 : w3.heap.size + 1 < w8.heap.size := (by omega)))
  (try (have z8w32 : w3.heap.size + 1 + 1 < w8.heap.size := (by omega)))
  (try (have z8w33 : w3.heap.size + 1 + 1 + 1 < w8.heap.size := (by omega)))
  (try (have z8w40 : w4.heap.size < w8.heap.size := (by omega)))
  (try (have z8w41 : w4.heap.size + 1 < w8.heap.size := (by omega)))
  (try (have z8w42 : w4.heap.size + 1 + 1 < w8.heap.size := (by omega)))
  (try (have z8w43 : w4.heap.size + 1 + 1 + 1 < w8.heap.size := (by omega)))
  (try (have z8w50 : w5.heap.size < w8.heap.size := (by omega)))
  (try (have z8w51 : w5.heap.size + 1 < w8.heap.size := (by omega)))
  (try (have z8w52 : w5.heap.size + 1 + 1 < w8.heap.size := (by omega)))
  (try (have z8w53 : w5.heap.size + 1 + 1 + 1 < w8.heap.size := (by omega)))
  (try (have z8w60 : w6.heap.size < w8.heap.size := (by omega)))
  (try (have z8w61 : w6.heap.size + 1 < w8.heap.size := (by omega)))
  (try (have z8w62 : w6.heap.size + 1 + 1 < w8.heap.size := (by omega)))
  (try (have z8w63 : w6.heap.size + 1 + 1 + 1 < w8.heap.size := (by omega)))
  (try (have z8w70 : w7.heap.size < w8.heap.size := (by omega)))
  (try (have z8w71 : w7.heap.size + 1 < w8.heap.size := (by omega)))
  (try (have z8w72 : w7.heap.size + 1 + 1 < w8.heap.size := (by omega)))
  (try (have z8w73 : w7.heap.size + 1 + 1 + 1 < w8.heap.size := (by omega)))
  have hH8 := Held.step (w0 := w) (by repeat (first | assumption | refine Held.alloc ?_ _ | refine Held.drew ?_)) HB
  clear HB
  go_wp2_with (fail)
  go_at_call 30
  (with_reducible refine (wof _ _ (by omega)).mono ?_)
  rintro e w9 ⟨rfl, HB⟩
  obtain ⟨hc9, hf9⟩ := bcell HB
  obtain ⟨hd9, hh9⟩ := bcell2 (U := w8) (by repeat (first | exact Below.refl _ _ | refine Below.setCell ?_ (by simp <;> omega) _ | refine Below.alloc ?_ (by simp <;> omega) _ | refine Below.drew ?_)) HB
  have hz9 := HB.size
  try simp at hz9
  (try (have z9w0 : w.heap.size < w9.heap.size := (by omega)))
  (try (have z9w1 : w.heap.size + 1 < w9.heap.size := (by omega)))
  (try (have z9w2 : w.heap.size + 1 + 1 < w9.heap.size := (by omega)))
  (try (have z9w3 : w.heap.size + 1 + 1 + 1 < w9.heap.size := (by omega)))
  (try (have z9w10 : w1.heap.size < w9.heap.size := (by omega)))
  (try (have z9w11 : w1.heap.size + 1 < w9.heap.size := (by omega)))
  (try (have z9w12 : w1.heap.size + 1 + 1 < w9.heap.size := (by omega)))
  (try (have z9w13 : w1.heap.size + 1 + 1 + 1 < w9.heap.size := (by omega)))
  (try (have z9w20 : w2.heap.size < w9.heap.size := (by omega)))
  (try (have z9w21 : w2.heap.size + 1 < w9.heap.size := (by omega)))
  (try (have z9w22 : w2.heap.size + 1 + 1 < w9.heap.size := (by omega)))
  (try (have z9w23 : w2.heap.size + 1 + 1 + 1 < w9.heap.size := (by omega)))
  (try (have z9w30 : w3.heap.size < w9.heap.size := (by omega)))
  (try (have z9w31 : w3.heap.size + 1 < w9.heap.size := (by omega)))
  (try (have z9w32 : w3.heap.size + 1 + 1 < w9.heap.size := (by omega)))
  (try (have z9w33 : w3.heap.size + 1 + 1 + 1 < w9.heap.size := (by omega)))
  (try (have z9w40 : w4.heap.size < w9.heap.size := (by omega)))
  (try (have z9w41 : w4.heap.size + 1 < w9.heap.size := (by omega)))
  (try (have z9w42 : w4.heap.size + 1 + 1 < w9.heap.size := (by omega)))
  (try (have z9w43 : w4.heap.size + 1 + 1 + 1 < w9.heap.size := (by omega)))
  (try (have z9w50 : w5.heap.size < w9.heap.size := (by omega)))
  (try (have z9w51 : w5.heap.size + 1 < w9.heap.size := (by omega)))
  (try (have z9w52 : w5.heap.size + 1 + 1 < w9.heap.size := (by omega)))
  (try (have z9w53 : w5.heap.size + 1 + 1 + 1 < w9.heap.size := (by omega)))
  (try (have z9w60 : w6.heap.size < w9.heap.size := (by omega)))
  (try (have z9w61 : w6.heap.size + 1 < w9.heap.size := (by omega)))
  (try (have z9w62 : w6.heap.size + 1 + 1 < w9.heap.size := (by omega)))
  (try (have z9w63 : w6.heap.size + 1 + 1 + 1 < w9.heap.size := (by omega)))
  (try (have z9w70 : w7.heap.size < w9.heap.size := (by omega)))
  (try (have z9w71 : w7.heap.size + 1 < w9.heap.size := (by omega)))
  (try (have z9w72 : w7.heap.size + 1 + 1 < w9.heap.size := (by omega)))
  (try (have z9w73 : w7.heap.size + 1 + 1 + 1 < w9.heap.size := (by omega)))
  (try (have z9w80 : w8.heap.size < w9.heap.size := (by omega)))
  (try (have z9w81 : w8.heap.size + 1 < w9.heap.size := (by omega)))
  (try (have z9w82 : w8.heap.size + 1 + 1 < w9.heap.size := (by omega)))
  (try (have z9w83 : w8.heap.size + 1 + 1 + 1 < w9.heap.size := (by omega)))
  have hH9 := Held.step (w0 := w) (by repeat (first | assumption | refine Held.alloc ?_ _ | refine Held.drew ?_)) HB
  clear HB
  go_wp2_with (fail)
  go_at_call 20
  (with_reducible refine (wadd _ _ _ (by omega) (by omega) (by omega)).mono ?_)
  rintro e w10 ⟨rfl, HB⟩
  obtain ⟨hc10, hf10⟩ := bcell HB
  obtain ⟨hd10, hh10⟩ := bcell2 (U := w9) (by repeat (first | exact Below.refl _ _ | refine Below.setCell ?_ (by simp <;> omega) _ | refine Below.alloc ?_ (by simp <;> omega) _ | refine Below.drew ?_)) HB
  have hz10 := HB.size
  try simp at hz10
  (try (have z10w0 : w.heap.size < w10.heap.size := (by omega)))
  (try (have z10w1 : w.heap.size + 1 < w10.heap.size := (by omega)))
  (try (have z10w2 : w.heap.size + 1 + 1 < w10.heap.size := (by omega)))
  (try (have z10w3 : w.heap.size + 1 + 1 + 1 < w10.heap.size := (by omega)))
  (try (have z10w10 : w1.heap.size < w10.heap.size := (by omega)))
  (try (have z10w11 : w1.heap.size + 1 < w10.heap.size := (by omega)))
  (try (have z10w12 : w1.heap.size + 1 + 1 < w10.heap.size := (by omega)))
  (try (have z10w13 : w1.heap.size + 1 + 1 + 1 < w10.heap.size := (by omega)))
  (try (have z10w20 : w2.heap.size < w10.heap.size := (by omega)))
  (try (have z10w21 : w2.heap.size + 1 < w10.heap.size := (by omega)))
  (try (have z10w22 : w2.heap.size + 1 + 1 < w10.heap.size := (by omega)))
  (try (have z10w23 : w2.heap.size + 1 + 1 + 1 < w10.heap.size := (by omega)))
  (try (have z10w30 : w3.heap.size < w10.heap.size := (by omega)))
  (try (have z10w31 : w3.heap.size + 1 < w10.heap.size := (by omega)))
  (try (have z10w32 : w3.heap.size + 1 + 1 < w10.heap.size := (by omega)))
  (try (have z10w33 : w3.heap.size + 1 + 1 + 1 < w10.heap.size := (by omega)))
  (try (have z10w40 : w4.heap.size < w10.heap.size := (by omega)))
  (try (have z10w41 : w4.heap.size + 1 < w10.heap.size := (by omega)))
  (try (have z10w42 : w4.heap.size + 1 + 1 < w10.heap.size := (by omega)))
  (try (have z10w43 : w4.heap.size + 1 + 1 + 1 < w10.heap.size := (by omega)))
  (try (have z10w50 : w5.heap.size < w10.heap.size := (by omega)))
  (try (have z10w51 : w5.heap.size + 1 < w10.heap.size := (by omega)))
  (try (have z10w52 : w5.heap.size + 1 + 1 < w10.heap.size := (by omega)))
  (try (have z10w53 : w5.heap.size + 1 + 1 + 1 < w10.heap.size := (by omega)))
  (try (have z10w60 : w6.heap.size < w10.heap.size := (by omega)))
  (try (have z10w61 : w6.heap.size + 1 < w10.heap.size := (by omega)))
  (try (have z10w62 : w6.heap.size + 1 + 1 < w10.heap.size := (by omega)))
  (try (have z10w63 : w6.heap.size + 1 + 1 + 1 < w10.heap.size := (by omega)))
  (try (have z10w70 : w7.heap.size < w10.heap.size := (by omega)))
  (try (have z10w71 : w7.heap.size + 1 < w10.heap.size := (by omega)))
  (try (have z10w72 : w7.heap.size + 1 + 1 < w10.heap.size := (by omega)))
  (try (have z10w73 : w7.heap.size + 1 + 1 + 1 < w10.heap.size := (by omega)))
  (try (have z10w80 : w8.heap.size < w10.heap.size := (by omega)))
  (try (have z10w81 : w8.heap.size + 1 < w10.heap.size := (by omega)))
  (try (have z10w82 : w8.heap.size + 1 + 1 < w10.heap.size := (by omega)))
  (try (have z10w83 : w8.heap.size + 1 + 1 + 1 < w10.heap.size := (by omega)))
  (try (have z10w90 : w9.heap.size < w10.heap.size := (by omega)))
  (try (have z10w91 : w9.heap.size + 1 < w10.heap.size := (by omega)))
  (try (have z10w92 : w9.heap.size + 1 + 1 < w10.heap.size := (by omega)))
  (try (have z10w93 : w9.heap.size + 1 + 1 + 1 < w10.heap.size := (by omega)))
  have hH10 := Held.step (w0 := w) (by repeat (first | assumption | refine Held.alloc ?_ _ | refine Held.drew ?_)) HB
  clear HB
  go_wp2_with (fail)
  have hS0 : SW2 w (w.heap.size) (.int .u8 n0) (.int .u8 n1) (w10.heap.size) (.int .i64 (a / 18446744073709551616)) (.int .u64 (a % 18446744073709551616)) (w10.alloc (.cells #[.int .i64 (a / 18446744073709551616), .int .u64 (a % 18446744073709551616)] 26)) := ⟨Held.alloc hH10 _, ⟨(by first | omega | (simp; done) | (simp; omega)), by go_simp, by go_simp, by go_simp, by go_simp⟩, ⟨(by first | omega | (simp; done) | (simp; omega)), by go_simp, by go_simp, by go_simp, by go_simp⟩⟩
  go_region_held3 (fun wx => SW2 w (w.heap.size) (.int .u8 n0) (.int .u8 n1) (w10.heap.size) (.int .i64 (a / 18446744073709551616)) (.int .u64 (a % 18446744073709551616)) wx) (first | assumption | exact SW2.drew (by assumption)) (first | (go_at_call 30; (with_reducible refine (wof _ _ ha).mono ?_); rintro e w' ⟨rfl, hb'⟩; have hS' := SW2.step (by assumption) hb'; clear hb'))
  obtain ⟨w11, rfl⟩ : ∃ x, x = w' := ⟨_, rfl⟩
  obtain ⟨hH11, ⟨k1100, k1101, k1102, k1103, k1104⟩, ⟨k1110, k1111, k1112, k1113, k1114⟩⟩ := hS'
  have hz11a := (Held.below (w0 := w) hH11).size
  clear k1110 k1111 k1112 k1113 k1114 hc1 hc2 hc3 hc5 hc6 hc7 hc8 hc9 hc10 hf1 hf2 hf3 hf5 hf6 hf7 hf8 hf9 hf10
  go_wp2_with (fail)
  go_region
  go_wp2_with (fail)
  go_at_call 32
  (with_reducible refine (wmul a b _ ha hb).mono ?_)
  rintro e w12 ⟨rfl, HB⟩
  obtain ⟨hc12, hf12⟩ := bcell HB
  obtain ⟨hd12, hh12⟩ := bcell2 (U := w11) (by repeat (first | exact Below.refl _ _ | refine Below.setCell ?_ (by simp <;> omega) _ | refine Below.alloc ?_ (by simp <;> omega) _ | refine Below.drew ?_)) HB
  have hz12 := HB.size
  try simp at hz12
  (try (have z12w0 : w.heap.size < w12.heap.size := (by omega)))
  (try (have z12w1 : w.heap.size + 1 < w12.heap.size := (by omega)))
  (try (have z12w2 : w.heap.size + 1 + 1 < w12.heap.size := (by omega)))
  (try (have z12w3 : w.heap.size + 1 + 1 + 1 < w12.heap.size := (by omega)))
  (try (have z12w10 : w1.heap.size < w12.heap.size := (by omega)))
  (try (have z12w11 : w1.heap.size + 1 < w12.heap.size := (by omega)))
  (try (have z12w12 : w1.heap.size + 1 + 1 < w12.heap.size := (by omega)))
  (try (have z12w13 : w1.heap.size + 1 + 1 + 1 < w12.heap.size := (by omega)))
  (try (have z12w20 : w2.heap.size < w12.heap.size := (by omega)))
  (try (have z12w21 : w2.heap.size + 1 < w12.heap.size := (by omega)))
  (try (have z12w22 : w2.heap.size + 1 + 1 < w12.heap.size := (by omega)))
  (try (have z12w23 : w2.heap.size + 1 + 1 + 1 < w12.heap.size := (by omega)))
  (try (have z12w30 : w3.heap.size < w12.heap.size := (by omega)))
  (try (have z12w31 : w3.heap.size + 1 < w12.heap.size := (by omega)))
  (try (have z12w32 : w3.heap.size + 1 + 1 < w12.heap.size := (by omega)))
  (try (have z12w33 : w3.heap.size + 1 + 1 + 1 < w12.heap.size := (by omega)))
  (try (have z12w40 : w4.heap.size < w12.heap.size := (by omega)))
  (try (have z12w41 : w4.heap.size + 1 < w12.heap.size := (by omega)))
  (try (have z12w42 : w4.heap.size + 1 + 1 < w12.heap.size := (by omega)))
  (try (have z12w43 : w4.heap.size + 1 + 1 + 1 < w12.heap.size := (by omega)))
  (try (have z12w50 : w5.heap.size < w12.heap.size := (by omega)))
  (try (have z12w51 : w5.heap.size + 1 < w12.heap.size := (by omega)))
  (try (have z12w52 : w5.heap.size + 1 + 1 < w12.heap.size := (by omega)))
  (try (have z12w53 : w5.heap.size + 1 + 1 + 1 < w12.heap.size := (by omega)))
  (try (have z12w60 : w6.heap.size < w12.heap.size := (by omega)))
  (try (have z12w61 : w6.heap.size + 1 < w12.heap.size := (by omega)))
  (try (have z12w62 : w6.heap.size + 1 + 1 < w12.heap.size := (by omega)))
  (try (have z12w63 : w6.heap.size + 1 + 1 + 1 < w12.heap.size := (by omega)))
  (try (have z12w70 : w7.heap.size < w12.heap.size := (by omega)))
  (try (have z12w71 : w7.heap.size + 1 < w12.heap.size := (by omega)))
  (try (have z12w72 : w7.heap.size + 1 + 1 < w12.heap.size := (by omega)))
  (try (have z12w73 : w7.heap.size + 1 + 1 + 1 < w12.heap.size := (by omega)))
  (try (have z12w80 : w8.heap.size < w12.heap.size := (by omega)))
  (try (have z12w81 : w8.heap.size + 1 < w12.heap.size := (by omega)))
  (try (have z12w82 : w8.heap.size + 1 + 1 < w12.heap.size := (by omega)))
  (try (have z12w83 : w8.heap.size + 1 + 1 + 1 < w12.heap.size := (by omega)))
  (try (have z12w90 : w9.heap.size < w12.heap.size := (by omega)))
  (try (have z12w91 : w9.heap.size + 1 < w12.heap.size := (by omega)))
  (try (have z12w92 : w9.heap.size + 1 + 1 < w12.heap.size := (by omega)))
  (try (have z12w93 : w9.heap.size + 1 + 1 + 1 < w12.heap.size := (by omega)))
  (try (have z12w100 : w10.heap.size < w12.heap.size := (by omega)))
  (try (have z12w101 : w10.heap.size + 1 < w12.heap.size := (by omega)))
  (try (have z12w102 : w10.heap.size + 1 + 1 < w12.heap.size := (by omega)))
  (try (have z12w103 : w10.heap.size + 1 + 1 + 1 < w12.heap.size := (by omega)))
  (try (have z12w110 : w11.heap.size < w12.heap.size := (by omega)))
  (try (have z12w111 : w11.heap.size + 1 < w12.heap.size := (by omega)))
  (try (have z12w112 : w11.heap.size + 1 + 1 < w12.heap.size := (by omega)))
  (try (have z12w113 : w11.heap.size + 1 + 1 + 1 < w12.heap.size := (by omega)))
  have hH12 := Held.step (w0 := w) (by repeat (first | assumption | refine Held.alloc ?_ _ | refine Held.drew ?_)) HB
  clear HB
  go_wp2_with (fail)
  go_at_call 35
  (with_reducible refine (wshr_i _ _ _ hr hj.1 (by omega)).mono ?_)
  rintro e w13 ⟨rfl, HB⟩
  obtain ⟨hc13, hf13⟩ := bcell HB
  obtain ⟨hd13, hh13⟩ := bcell2 (U := w12) (by repeat (first | exact Below.refl _ _ | refine Below.setCell ?_ (by simp <;> omega) _ | refine Below.alloc ?_ (by simp <;> omega) _ | refine Below.drew ?_)) HB
  have hz13 := HB.size
  try simp at hz13
  (try (have z13w0 : w.heap.size < w13.heap.size := (by omega)))
  (try (have z13w1 : w.heap.size + 1 < w13.heap.size := (by omega)))
  (try (have z13w2 : w.heap.size + 1 + 1 < w13.heap.size := (by omega)))
  (try (have z13w3 : w.heap.size + 1 + 1 + 1 < w13.heap.size := (by omega)))
  (try (have z13w10 : w1.heap.size < w13.heap.size := (by omega)))
  (try (have z13w11 : w1.heap.size + 1 < w13.heap.size := (by omega)))
  (try (have z13w12 : w1.heap.size + 1 + 1 < w13.heap.size := (by omega)))
  (try (have z13w13 : w1.heap.size + 1 + 1 + 1 < w13.heap.size := (by omega)))
  (try (have z13w20 : w2.heap.size < w13.heap.size := (by omega)))
  (try (have z13w21 : w2.heap.size + 1 < w13.heap.size := (by omega)))
  (try (have z13w22 : w2.heap.size + 1 + 1 < w13.heap.size := (by omega)))
  (try (have z13w23 : w2.heap.size + 1 + 1 + 1 < w13.heap.size := (by omega)))
  (try (have z13w30 : w3.heap.size < w13.heap.size := (by omega)))
  (try (have z13w31 : w3.heap.size + 1 < w13.heap.size := (by omega)))
  (try (have z13w32 : w3.heap.size + 1 + 1 < w13.heap.size := (by omega)))
  (try (have z13w33 : w3.heap.size + 1 + 1 + 1 < w13.heap.size := (by omega)))
  (try (have z13w40 : w4.heap.size < w13.heap.size := (by omega)))
  (try (have z13w41 : w4.heap.size + 1 < w13.heap.size := (by omega)))
  (try (have z13w42 : w4.heap.size + 1 + 1 < w13.heap.size := (by omega)))
  (try (have z13w43 : w4.heap.size + 1 + 1 + 1 < w13.heap.size := (by omega)))
  (try (have z13w50 : w5.heap.size < w13.heap.size := (by omega)))
  (try (have z13w51 : w5.heap.size + 1 < w13.heap.size := (by omega)))
  (try (have z13w52 : w5.heap.size + 1 + 1 < w13.heap.size := (by omega)))
  (try (have z13w53 : w5.heap.size + 1 + 1 + 1 < w13.heap.size := (by omega)))
  (try (have z13w60 : w6.heap.size < w13.heap.size := (by omega)))
  (try (have z13w61 : w6.heap.size + 1 < w13.heap.size := (by omega)))
  (try (have z13w62 : w6.heap.size + 1 + 1 < w13.heap.size := (by omega)))
  (try (have z13w63 : w6.heap.size + 1 + 1 + 1 < w13.heap.size := (by omega)))
  (try (have z13w70 : w7.heap.size < w13.heap.size := (by omega)))
  (try (have z13w71 : w7.heap.size + 1 < w13.heap.size := (by omega)))
  (try (have z13w72 : w7.heap.size + 1 + 1 < w13.heap.size := (by omega)))
  (try (have z13w73 : w7.heap.size + 1 + 1 + 1 < w13.heap.size := (by omega)))
  (try (have z13w80 : w8.heap.size < w13.heap.size := (by omega)))
  (try (have z13w81 : w8.heap.size + 1 < w13.heap.size := (by omega)))
  (try (have z13w82 : w8.heap.size + 1 + 1 < w13.heap.size := (by omega)))
  (try (have z13w83 : w8.heap.size + 1 + 1 + 1 < w13.heap.size := (by omega)))
  (try (have z13w90 : w9.heap.size < w13.heap.size := (by omega)))
  (try (have z13w91 : w9.heap.size + 1 < w13.heap.size := (by omega)))
  (try (have z13w92 : w9.heap.size + 1 + 1 < w13.heap.size := (by omega)))
  (try (have z13w93 : w9.heap.size + 1 + 1 + 1 < w13.heap.size := (by omega)))
  (try (have z13w100 : w10.heap.size < w13.heap.size := (by omega)))
  (try (have z13w101 : w10.heap.size + 1 < w13.heap.size := (by omega)))
  (try (have z13w102 : w10.heap.size + 1 + 1 < w13.heap.size := (by omega)))
  (try (have z13w103 : w10.heap.size + 1 + 1 + 1 < w13.heap.size := (by omega)))
  (try (have z13w110 : w11.heap.size < w13.heap.size := (by omega)))
  (try (have z13w111 : w11.heap.size + 1 < w13.heap.size := (by omega)))
  (try (have z13w112 : w11.heap.size + 1 + 1 < w13.heap.size := (by omega)))
  (try (have z13w113 : w11.heap.size + 1 + 1 + 1 < w13.heap.size := (by omega)))
  (try (have z13w120 : w12.heap.size < w13.heap.size := (by omega)))
  (try (have z13w121 : w12.heap.size + 1 < w13.heap.size := (by omega)))
  (try (have z13w122 : w12.heap.size + 1 + 1 < w13.heap.size := (by omega)))
  (try (have z13w123 : w12.heap.size + 1 + 1 + 1 < w13.heap.size := (by omega)))
  have hH13 := Held.step (w0 := w) (by repeat (first | assumption | refine Held.alloc ?_ _ | refine Held.drew ?_)) HB
  clear HB
  go_wp2_with (fail)
  go_at_call 35
  (with_reducible refine (wshr_i _ _ _ (shr_rng _ hr) hk.1 (by omega)).mono ?_)
  rintro e w14 ⟨rfl, HB⟩
  obtain ⟨hc14, hf14⟩ := bcell HB
  obtain ⟨hd14, hh14⟩ := bcell2 (U := w13) (by repeat (first | exact Below.refl _ _ | refine Below.setCell ?_ (by simp <;> omega) _ | refine Below.alloc ?_ (by simp <;> omega) _ | refine Below.drew ?_)) HB
  have hz14 := HB.size
  try simp at hz14
  (try (have z14w0 : w.heap.size < w14.heap.size := (by omega)))
  (try (have z14w1 : w.heap.size + 1 < w14.heap.size := (by omega)))
  (try (have z14w2 : w.heap.size + 1 + 1 < w14.heap.size := (by omega)))
  (try (have z14w3 : w.heap.size + 1 + 1 + 1 < w14.heap.size := (by omega)))
  (try (have z14w10 : w1.heap.size < w14.heap.size := (by omega)))
  (try (have z14w11 : w1.heap.size + 1 < w14.heap.size := (by omega)))
  (try (have z14w12 : w1.heap.size + 1 + 1 < w14.heap.size := (by omega)))
  (try (have z14w13 : w1.heap.size + 1 + 1 + 1 < w14.heap.size := (by omega)))
  (try (have z14w20 : w2.heap.size < w14.heap.size := (by omega)))
  (try (have z14w21 : w2.heap.size + 1 < w14.heap.size := (by omega)))
  (try (have z14w22 : w2.heap.size + 1 + 1 < w14.heap.size := (by omega)))
  (try (have z14w23 : w2.heap.size + 1 + 1 + 1 < w14.heap.size := (by omega)))
  (try (have z14w30 : w3.heap.size < w14.heap.size := (by omega)))
  (try (have z14w31 : w3.heap.size + 1 < w14.heap.size := (by omega)))
  (try (have z14w32 : w3.heap.size + 1 + 1 < w14.heap.size := (by omega)))
  (try (have z14w33 : w3.heap.size + 1 + 1 + 1 < w14.heap.size := (by omega)))
  (try (have z14w40 : w4.heap.size < w14.heap.size := (by omega)))
  (try (have z14w41 : w4.heap.size + 1 < w14.heap.size := (by omega)))
  (try (have z14w42 : w4.heap.size + 1 + 1 < w14.heap.size := (by omega)))
  (try (have z14w43 : w4.heap.size + 1 + 1 + 1 < w14.heap.size := (by omega)))
  (try (have z14w50 : w5.heap.size < w14.heap.size := (by omega)))
  (try (have z14w51 : w5.heap.size + 1 < w14.heap.size := (by omega)))
  (try (have z14w52 : w5.heap.size + 1 + 1 < w14.heap.size := (by omega)))
  (try (have z14w53 : w5.heap.size + 1 + 1 + 1 < w14.heap.size := (by omega)))
  (try (have z14w60 : w6.heap.size < w14.heap.size := (by omega)))
  (try (have z14w61 : w6.heap.size + 1 < w14.heap.size := (by omega)))
  (try (have z14w62 : w6.heap.size + 1 + 1 < w14.heap.size := (by omega)))
  (try (have z14w63 : w6.heap.size + 1 + 1 + 1 < w14.heap.size := (by omega)))
  (try (have z14w70 : w7.heap.size < w14.heap.size := (by omega)))
  (try (have z14w71 : w7.heap.size + 1 < w14.heap.size := (by omega)))
  (try (have z14w72 : w7.heap.size + 1 + 1 < w14.heap.size := (by omega)))
  (try (have z14w73 : w7.heap.size + 1 + 1 + 1 < w14.heap.size := (by omega)))
  (try (have z14w80 : w8.heap.size < w14.heap.size := (by omega)))
  (try (have z14w81 : w8.heap.size + 1 < w14.heap.size := (by omega)))
  (try (have z14w82 : w8.heap.size + 1 + 1 < w14.heap.size := (by omega)))
  (try (have z14w83 : w8.heap.size + 1 + 1 + 1 < w14.heap.size := (by omega)))
  (try (have z14w90 : w9.heap.size < w14.heap.size := (by omega)))
  (try (have z14w91 : w9.heap.size + 1 < w14.heap.size := (by omega)))
  (try (have z14w92 : w9.heap.size + 1 + 1 < w14.heap.size := (by omega)))
  (try (have z14w93 : w9.heap.size + 1 + 1 + 1 < w14.heap.size := (by omega)))
  (try (have z14w100 : w10.heap.size < w14.heap.size := (by omega)))
  (try (have z14w101 : w10.heap.size + 1 < w14.heap.size := (by omega)))
  (try (have z14w102 : w10.heap.size + 1 + 1 < w14.heap.size := (by omega)))
  (try (have z14w103 : w10.heap.size + 1 + 1 + 1 < w14.heap.size := (by omega)))
  (try (have z14w110 : w11.heap.size < w14.heap.size := (by omega)))
  (try (have z14w111 : w11.heap.size + 1 < w14.heap.size := (by omega)))
  (try (have z14w112 : w11.heap.size + 1 + 1 < w14.heap.size := (by omega)))
  (try (have z14w113 : w11.heap.size + 1 + 1 + 1 < w14.heap.size := (by omega)))
  (try (have z14w120 : w12.heap.size < w14.heap.size := (by omega)))
  (try (have z14w121 : w12.heap.size + 1 < w14.heap.size := (by omega)))
  (try (have z14w122 : w12.heap.size + 1 + 1 < w14.heap.size := (by omega)))
  (try (have z14w123 : w12.heap.size + 1 + 1 + 1 < w14.heap.size := (by omega)))
  (try (have z14w130 : w13.heap.size < w14.heap.size := (by omega)))
  (try (have z14w131 : w13.heap.size + 1 < w14.heap.size := (by omega)))
  (try (have z14w132 : w13.heap.size + 1 + 1 < w14.heap.size := (by omega)))
  (try (have z14w133 : w13.heap.size + 1 + 1 + 1 < w14.heap.size := (by omega)))
  have hH14 := Held.step (w0 := w) (by repeat (first | assumption | refine Held.alloc ?_ _ | refine Held.drew ?_)) HB
  clear HB
  go_wp2_with (fail)
  go_at_call 32
  (with_reducible refine (wmul a b _ ha hb).mono ?_)
  rintro e w15 ⟨rfl, HB⟩
  obtain ⟨hc15, hf15⟩ := bcell HB
  obtain ⟨hd15, hh15⟩ := bcell2 (U := w14) (by repeat (first | exact Below.refl _ _ | refine Below.setCell ?_ (by simp <;> omega) _ | refine Below.alloc ?_ (by simp <;> omega) _ | refine Below.drew ?_)) HB
  have hz15 := HB.size
  try simp at hz15
  (try (have z15w0 : w.heap.size < w15.heap.size := (by omega)))
  (try (have z15w1 : w.heap.size + 1 < w15.heap.size := (by omega)))
  (try (have z15w2 : w.heap.size + 1 + 1 < w15.heap.size := (by omega)))
  (try (have z15w3 : w.heap.size + 1 + 1 + 1 < w15.heap.size := (by omega)))
  (try (have z15w10 : w1.heap.size < w15.heap.size := (by omega)))
  (try (have z15w11 : w1.heap.size + 1 < w15.heap.size := (by omega)))
  (try (have z15w12 : w1.heap.size + 1 + 1 < w15.heap.size := (by omega)))
  (try (have z15w13 : w1.heap.size + 1 + 1 + 1 < w15.heap.size := (by omega)))
  (try (have z15w20 : w2.heap.size < w15.heap.size := (by omega)))
  (try (have z15w21 : w2.heap.size + 1 < w15.heap.size := (by omega)))
  (try (have z15w22 : w2.heap.size + 1 + 1 < w15.heap.size := (by omega)))
  (try (have z15w23 : w2.heap.size + 1 + 1 + 1 < w15.heap.size := (by omega)))
  (try (have z15w30 : w3.heap.size < w15.heap.size := (by omega)))
  (try (have z15w31 : w3.heap.size + 1 < w15.heap.size := (by omega)))
  (try (have z15w32 : w3.heap.size + 1 + 1 < w15.heap.size := (by omega)))
  (try (have z15w33 : w3.heap.size + 1 + 1 + 1 < w15.heap.size := (by omega)))
  (try (have z15w40 : w4.heap.size < w15.heap.size := (by omega)))
  (try (have z15w41 : w4.heap.size + 1 < w15.heap.size := (by omega)))
  (try (have z15w42 : w4.heap.size + 1 + 1 < w15.heap.size := (by omega)))
  (try (have z15w43 : w4.heap.size + 1 + 1 + 1 < w15.heap.size := (by omega)))
  (try (have z15w50 : w5.heap.size < w15.heap.size := (by omega)))
  (try (have z15w51 : w5.heap.size + 1 < w15.heap.size := (by omega)))
  (try (have z15w52 : w5.heap.size + 1 + 1 < w15.heap.size := (by omega)))
  (try (have z15w53 : w5.heap.size + 1 + 1 + 1 < w15.heap.size := (by omega)))
  (try (have z15w60 : w6.heap.size < w15.heap.size := (by omega)))
  (try (have z15w61 : w6.heap.size + 1 < w15.heap.size := (by omega)))
  (try (have z15w62 : w6.heap.size + 1 + 1 < w15.heap.size := (by omega)))
  (try (have z15w63 : w6.heap.size + 1 + 1 + 1 < w15.heap.size := (by omega)))
  (try (have z15w70 : w7.heap.size < w15.heap.size := (by omega)))
  (try (have z15w71 : w7.heap.size + 1 < w15.heap.size := (by omega)))
  (try (have z15w72 : w7.heap.size + 1 + 1 < w15.heap.size := (by omega)))
  (try (have z15w73 : w7.heap.size + 1 + 1 + 1 < w15.heap.size := (by omega)))
  (try (have z15w80 : w8.heap.size < w15.heap.size := (by omega)))
  (try (have z15w81 : w8.heap.size + 1 < w15.heap.size := (by omega)))
  (try (have z15w82 : w8.heap.size + 1 + 1 < w15.heap.size := (by omega)))
  (try (have z15w83 : w8.heap.size + 1 + 1 + 1 < w15.heap.size := (by omega)))
  (try (have z15w90 : w9.heap.size < w15.heap.size := (by omega)))
  (try (have z15w91 : w9.heap.size + 1 < w15.heap.size := (by omega)))
  (try (have z15w92 : w9.heap.size + 1 + 1 < w15.heap.size := (by omega)))
  (try (have z15w93 : w9.heap.size + 1 + 1 + 1 < w15.heap.size := (by omega)))
  (try (have z15w100 : w10.heap.size < w15.heap.size := (by omega)))
  (try (have z15w101 : w10.heap.size + 1 < w15.heap.size := (by omega)))
  (try (have z15w102 : w10.heap.size + 1 + 1 < w15.heap.size := (by omega)))
  (try (have z15w103 : w10.heap.size + 1 + 1 + 1 < w15.heap.size := (by omega)))
  (try (have z15w110 : w11.heap.size < w15.heap.size := (by omega)))
  (try (have z15w111 : w11.heap.size + 1 < w15.heap.size := (by omega)))
  (try (have z15w112 : w11.heap.size + 1 + 1 < w15.heap.size := (by omega)))
  (try (have z15w113 : w11.heap.size + 1 + 1 + 1 < w15.heap.size := (by omega)))
  (try (have z15w120 : w12.heap.size < w15.heap.size := (by omega)))
  (try (have z15w121 : w12.heap.size + 1 < w15.heap.size := (by omega)))
  (try (have z15w122 : w12.heap.size + 1 + 1 < w15.heap.size := (by omega)))
  (try (have z15w123 : w12.heap.size + 1 + 1 + 1 < w15.heap.size := (by omega)))
  (try (have z15w130 : w13.heap.size < w15.heap.size := (by omega)))
  (try (have z15w131 : w13.heap.size + 1 < w15.heap.size := (by omega)))
  (try (have z15w132 : w13.heap.size + 1 + 1 < w15.heap.size := (by omega)))
  (try (have z15w133 : w13.heap.size + 1 + 1 + 1 < w15.heap.size := (by omega)))
  (try (have z15w140 : w14.heap.size < w15.heap.size := (by omega)))
  (try (have z15w141 : w14.heap.size + 1 < w15.heap.size := (by omega)))
  (try (have z15w142 : w14.heap.size + 1 + 1 < w15.heap.size := (by omega)))
  (try (have z15w143 : w14.heap.size + 1 + 1 + 1 < w15.heap.size := (by omega)))
  have hH15 := Held.step (w0 := w) (by repeat (first | assumption | refine Held.alloc ?_ _ | refine Held.drew ?_)) HB
  clear HB
  go_wp2_with (fail)
  go_at_call 35
  (with_reducible refine (wshr_i _ _ _ hr (by omega) (by omega)).mono ?_)
  rintro e w16 ⟨rfl, HB⟩
  obtain ⟨hc16, hf16⟩ := bcell HB
  obtain ⟨hd16, hh16⟩ := bcell2 (U := w15) (by repeat (first | exact Below.refl _ _ | refine Below.setCell ?_ (by simp <;> omega) _ | refine Below.alloc ?_ (by simp <;> omega) _ | refine Below.drew ?_)) HB
  have hz16 := HB.size
  try simp at hz16
  (try (have z16w0 : w.heap.size < w16.heap.size := (by omega)))
  (try (have z16w1 : w.heap.size + 1 < w16.heap.size := (by omega)))
  (try (have z16w2 : w.heap.size + 1 + 1 < w16.heap.size := (by omega)))
  (try (have z16w3 : w.heap.size + 1 + 1 + 1 < w16.heap.size := (by omega)))
  (try (have z16w10 : w1.heap.size < w16.heap.size := (by omega)))
  (try (have z16w11 : w1.heap.size + 1 < w16.heap.size := (by omega)))
  (try (have z16w12 : w1.heap.size + 1 + 1 < w16.heap.size := (by omega)))
  (try (have z16w13 : w1.heap.size + 1 + 1 + 1 < w16.heap.size := (by omega)))
  (try (have z16w20 : w2.heap.size < w16.heap.size := (by omega)))
  (try (have z16w21 : w2.heap.size + 1 < w16.heap.size := (by omega)))
  (try (have z16w22 : w2.heap.size + 1 + 1 < w16.heap.size := (by omega)))
  (try (have z16w23 : w2.heap.size + 1 + 1 + 1 < w16.heap.size := (by omega)))
  (try (have z16w30 : w3.heap.size < w16.heap.size := (by omega)))
  (try (have z16w31 : w3.heap.size + 1 < w16.heap.size := (by omega)))
  (try (have z16w32 : w3.heap.size + 1 + 1 < w16.heap.size := (by omega)))
  (try (have z16w33 : w3.heap.size + 1 + 1 + 1 < w16.heap.size := (by omega)))
  (try (have z16w40 : w4.heap.size < w16.heap.size := (by omega)))
  (try (have z16w41 : w4.heap.size + 1 < w16.heap.size := (by omega)))
  (try (have z16w42 : w4.heap.size + 1 + 1 < w16.heap.size := (by omega)))
  (try (have z16w43 : w4.heap.size + 1 + 1 + 1 < w16.heap.size := (by omega)))
  (try (have z16w50 : w5.heap.size < w16.heap.size := (by omega)))
  (try (have z16w51 : w5.heap.size + 1 < w16.heap.size := (by omega)))
  (try (have z16w52 : w5.heap.size + 1 + 1 < w16.heap.size := (by omega)))
  (try (have z16w53 : w5.heap.size + 1 + 1 + 1 < w16.heap.size := (by omega)))
  (try (have z16w60 : w6.heap.size < w16.heap.size := (by omega)))
  (try (have z16w61 : w6.heap.size + 1 < w16.heap.size := (by omega)))
  (try (have z16w62 : w6.heap.size + 1 + 1 < w16.heap.size := (by omega)))
  (try (have z16w63 : w6.heap.size + 1 + 1 + 1 < w16.heap.size := (by omega)))
  (try (have z16w70 : w7.heap.size < w16.heap.size := (by omega)))
  (try (have z16w71 : w7.heap.size + 1 < w16.heap.size := (by omega)))
  (try (have z16w72 : w7.heap.size + 1 + 1 < w16.heap.size := (by omega)))
  (try (have z16w73 : w7.heap.size + 1 + 1 + 1 < w16.heap.size := (by omega)))
  (try (have z16w80 : w8.heap.size < w16.heap.size := (by omega)))
  (try (have z16w81 : w8.heap.size + 1 < w16.heap.size := (by omega)))
  (try (have z16w82 : w8.heap.size + 1 + 1 < w16.heap.size := (by omega)))
  (try (have z16w83 : w8.heap.size + 1 + 1 + 1 < w16.heap.size := (by omega)))
  (try (have z16w90 : w9.heap.size < w16.heap.size := (by omega)))
  (try (have z16w91 : w9.heap.size + 1 < w16.heap.size := (by omega)))
  (try (have z16w92 : w9.heap.size + 1 + 1 < w16.heap.size := (by omega)))
  (try (have z16w93 : w9.heap.size + 1 + 1 + 1 < w16.heap.size := (by omega)))
  (try (have z16w100 : w10.heap.size < w16.heap.size := (by omega)))
  (try (have z16w101 : w10.heap.size + 1 < w16.heap.size := (by omega)))
  (try (have z16w102 : w10.heap.size + 1 + 1 < w16.heap.size := (by omega)))
  (try (have z16w103 : w10.heap.size + 1 + 1 + 1 < w16.heap.size := (by omega)))
  (try (have z16w110 : w11.heap.size < w16.heap.size := (by omega)))
  (try (have z16w111 : w11.heap.size + 1 < w16.heap.size := (by omega)))
  (try (have z16w112 : w11.heap.size + 1 + 1 < w16.heap.size := (by omega)))
  (try (have z16w113 : w11.heap.size + 1 + 1 + 1 < w16.heap.size := (by omega)))
  (try (have z16w120 : w12.heap.size < w16.heap.size := (by omega)))
  (try (have z16w121 : w12.heap.size + 1 < w16.heap.size := (by omega)))
  (try (have z16w122 : w12.heap.size + 1 + 1 < w16.heap.size := (by omega)))
  (try (have z16w123 : w12.heap.size + 1 + 1 + 1 < w16.heap.size := (by omega)))
  (try (have z16w130 : w13.heap.size < w16.heap.size := (by omega)))
  (try (have z16w131 : w13.heap.size + 1 < w16.heap.size := (by omega)))
  (try (have z16w132 : w13.heap.size + 1 + 1 < w16.heap.size := (by omega)))
  (try (have z16w133 : w13.heap.size + 1 + 1 + 1 < w16.heap.size := (by omega)))
  (try (have z16w140 : w14.heap.size < w16.heap.size := (by omega)))
  (try (have z16w141 : w14.heap.size + 1 < w16.heap.size := (by omega)))
  (try (have z16w142 : w14.heap.size + 1 + 1 < w16.heap.size := (by omega)))
  (try (have z16w143 : w14.heap.size + 1 + 1 + 1 < w16.heap.size := (by omega)))
  (try (have z16w150 : w15.heap.size < w16.heap.size := (by omega)))
  (try (have z16w151 : w15.heap.size + 1 < w16.heap.size := (by omega)))
  (try (have z16w152 : w15.heap.size + 1 + 1 < w16.heap.size := (by omega)))
  (try (have z16w153 : w15.heap.size + 1 + 1 + 1 < w16.heap.size := (by omega)))
  have hH16 := Held.step (w0 := w) (by repeat (first | assumption | refine Held.alloc ?_ _ | refine Held.drew ?_)) HB
  clear HB
  go_wp2_with (first | (go_at_call 32; (with_reducible refine (wmul a b _ ha hb).mono ?_); rintro e w' ⟨rfl, hb'⟩; obtain ⟨hc, hf⟩ := bcell hb'; have hz := hb'.size; (try (simp at hz)); have hH' := Held.step (w0 := w) (by repeat (first | assumption | refine Held.alloc ?_ _ | refine Held.drew ?_ | refine Held.set1 ?_ (by first | omega | (simp; done) | (simp; omega)) (handle_lt hg) _)) hb'; clear hb') | (go_at_call 32; (with_reducible refine (wmul_sw a b _ ha hb).mono ?_); rintro e w' ⟨rfl, hb'⟩; obtain ⟨hc, hf⟩ := bcell hb'; have hz := hb'.size; (try (simp at hz)); have hH' := Held.step (w0 := w) (by repeat (first | assumption | refine Held.alloc ?_ _ | refine Held.drew ?_ | refine Held.set1 ?_ (by first | omega | (simp; done) | (simp; omega)) (handle_lt hg) _)) hb'; clear hb') | (go_at_call 34; (with_reducible refine (sure02 _ (Held.handle (w0 := w) (by repeat (first | assumption | refine Held.alloc ?_ _ | refine Held.drew ?_ | refine Held.set1 ?_ (by first | omega | (simp; done) | (simp; omega)) (handle_lt hg) _)))).mono ?_); rintro e w' ⟨rfl, hb'⟩; obtain ⟨hc, hf⟩ := bcell hb'; have hz := hb'.size; (try (simp at hz)); have hH' := Held.step (w0 := w) (by repeat (first | assumption | refine Held.alloc ?_ _ | refine Held.drew ?_ | refine Held.set1 ?_ (by first | omega | (simp; done) | (simp; omega)) (handle_lt hg) _)) hb'; clear hb'))
  go_ret
  exact ⟨rfl, Held.below (w0 := w) (by assumption)⟩
theorem walkWideBack (a b n0 n1 : Int) (ha : InR a) (hb : InR b) (h0 : 0 ≤ n0 ∧ n0 ≤ 255) (h1 : 0 ≤ n1 ∧ n1 ≤ 255) (w : World) (hg : w.cell? ⟨0, 0, none⟩ = some asHandle) :
    Calls Tryd.prog 6 #[.int .i64 a, .int .i64 b, .agg #[.int .u8 n0, .int .u8 n1]] w fun e w' => e = .returned (.bool true) ∧ Below w.heap.size w w' := by
  by_cases hb1 : 1 ≤ b
  · exact wideback_yes a b n0 n1 w ha hb h0.1 h1.1 h0.2 h1.2 hb1 hg
  · exact wideback_no a b n0 n1 w ha hb h0.1 h1.1 h0.2 h1.2 (by omega) hg
end Go.Proofs.YtffdglhdklmjoaaDoor
