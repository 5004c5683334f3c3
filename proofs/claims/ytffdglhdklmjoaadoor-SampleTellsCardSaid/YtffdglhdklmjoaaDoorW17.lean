/-
  Layer 17: the statement DriftParts.
-/
import Derived.Test.YtffdglhdklmjoaaDoorW02e
import Derived.Test.YtffdglhdklmjoaaDoorV01
import Derived.Deep.RegionHeld3
namespace Go.Proofs.YtffdglhdklmjoaaDoor
open Go.RowKit Go.Extern.Stop Go.Stop Go.Extern
set_option linter.unusedVariables false
set_option linter.unusedSimpArgs false
def upK (n : Int) : Int := -((-n) / 1073741824)
theorem mul_rho {g rho : Int} (g0 : 0 ≤ g) (g1 : g ≤ 9223372036854775807) (r0 : 0 ≤ rho) (r1 : rho ≤ 2097152) : 0 ≤ g * rho ∧ g * rho ≤ 19342813113834066795298816 := by
  refine ⟨Int.mul_nonneg g0 r0, ?_⟩
  have h1 : g * rho ≤ 9223372036854775807 * rho := Int.mul_le_mul_of_nonneg_right g1 r0
  omega
theorem prod_le2 {g rho : Int} (g0 : 0 ≤ g) (g1 : g ≤ 1152921504606846976) (r0 : 0 ≤ rho) (r1 : rho ≤ 1048576) : 0 ≤ g * rho ∧ g * rho ≤ 1208925819614629174706176 := by
  refine ⟨Int.mul_nonneg g0 r0, ?_⟩
  have h1 : g * rho ≤ 1152921504606846976 * rho := Int.mul_le_mul_of_nonneg_right g1 r0
  omega
theorem sat_in {n : Int} (h : InR n) : sat n = n := by unfold sat; rw [if_neg (by omega), if_neg (by omega)]
theorem sat_hi {n : Int} (h : 9223372036854775807 < n) : sat n = 9223372036854775807 := by unfold sat; rw [if_pos h]
set_option maxHeartbeats 1000000 in
theorem grow_f (err rho gone : Int) (w : World) (h0 : 0 ≤ err) (h1 : err ≤ 9223372036854775807) (r0 : 0 ≤ rho) (r1 : rho ≤ 2097152) (g0 : 0 ≤ gone) (g1 : gone ≤ 9223372036854775807) : Calls Tryd.prog 93 #[.int .i64 err, .int .i64 rho, .int .i64 gone] w fun e w' => e = .returned (.tuple #[.int .i64 (sat (err + upK (gone * rho))), .nilIface]) ∧ Below w.heap.size w w' := by
  have hB := Below.refl w.heap.size w
  have hm := mul_rho g0 g1 r0 r1
  have hn : wrap64 (-gone) = -gone := IntWalk.wrap64_in _ (by omega)
  have hneg : -gone * rho = -(gone * rho) := Int.neg_mul _ _
  have hq : InR (-gone * rho / 1073741824) := by rw [hneg]; generalize gone * rho = X at *; omega
  have hs : sat (err - -gone * rho / 1073741824) = sat (err + upK (gone * rho)) := by rw [hneg]; unfold upK; congr 1
  have HS := Lib.hid hs
  clear hneg hs
  go_enter Tryd.func93, Tryd.ntmps93
  go_wp2_with (fail)
  go_at_call 39
  (with_reducible refine (wmuldiv _ _ _ _ (by omega) (by omega) (by omega) (by omega) hq).mono ?_)
  rintro e w1 ⟨rfl, HB⟩
  obtain ⟨hc1, hf1⟩ := bcell HB
  have hz1 := HB.size
  try simp at hz1
  replace hB := Below.trans (show Below w.heap.size w _ from by repeat (first | with_reducible assumption | exact Below.refl _ _ | refine Below.drew ?_ | refine Below.setCell ?_ (by first | omega | (simp; done) | (simp; omega)) _ | refine Below.alloc ?_ (by first | omega | (simp; done) | (simp; omega)) _)) (Below.mono (B' := w.heap.size) HB (by first | omega | (simp; done) | (simp; omega)))
  try (have z1w0 : w.heap.size < w1.heap.size := (by omega))
  try (have z1w1 : w.heap.size + 1 < w1.heap.size := (by omega))
  try (have z1w2 : w.heap.size + 1 + 1 < w1.heap.size := (by omega))
  clear HB
  go_wp2_with (fail)

  go_at_call 125
  (with_reducible refine (subsat_s _ _ _ (by omega) hq).mono ?_)
  rintro e w2 ⟨rfl, rfl⟩
  go_wp2_with (fail)
  go_ret2
  exact ⟨congrArg (fun z => Ending.returned (.tuple #[.int .i64 z, .nilIface])) HS.out, by repeat (first | with_reducible assumption | exact Below.refl _ _ | refine Below.drew ?_ | refine Below.setCell ?_ (by first | omega | (simp; done) | (simp; omega)) _ | refine Below.alloc ?_ (by first | omega | (simp; done) | (simp; omega)) _)⟩
theorem grow_v (err rho gone v : Int) (w : World) (h0 : 0 ≤ err) (h1 : err ≤ 9223372036854775807) (r0 : 0 ≤ rho) (r1 : rho ≤ 2097152) (g0 : 0 ≤ gone) (g1 : gone ≤ 9223372036854775807) (hv : v = err + upK (gone * rho)) (hr : InR v) : Calls Tryd.prog 93 #[.int .i64 err, .int .i64 rho, .int .i64 gone] w fun e w' => e = .returned (.tuple #[.int .i64 v, .nilIface]) ∧ Below w.heap.size w w' := by
  have := grow_f err rho gone w h0 h1 r0 r1 g0 g1
  rw [← hv, sat_in hr] at this
  exact this
set_option maxHeartbeats 1000000 in
theorem until_arg (err rho most : Int) (w : World) (h0 : 0 ≤ err) (r0 : 0 ≤ rho) (r1 : rho ≤ 2097152) (g0 : most < 0) : Calls Tryd.prog 95 #[.int .i64 err, .int .i64 rho, .int .i64 most] w fun e w' => e = .returned (.tuple #[.int .i64 0, errV 1]) ∧ Below w.heap.size w w' := by
  have hB := Below.refl w.heap.size w
  go_enter Tryd.func95, Tryd.ntmps95
  go_wp2_with (fail)
  go_ret2
  exact ⟨rfl, by repeat (first | with_reducible assumption | exact Below.refl _ _ | refine Below.drew ?_ | refine Below.setCell ?_ (by first | omega | (simp; done) | (simp; omega)) _ | refine Below.alloc ?_ (by first | omega | (simp; done) | (simp; omega)) _)⟩
set_option maxHeartbeats 1000000 in
theorem until_past (err rho most : Int) (w : World) (h0 : 0 ≤ err) (r0 : 0 ≤ rho) (r1 : rho ≤ 2097152) (g0 : 0 ≤ most) (g1 : most < err) : Calls Tryd.prog 95 #[.int .i64 err, .int .i64 rho, .int .i64 most] w fun e w' => e = .returned (.tuple #[.int .i64 0, errV 10]) ∧ Below w.heap.size w w' := by
  have hB := Below.refl w.heap.size w
  go_enter Tryd.func95, Tryd.ntmps95
  go_wp2_with (fail)
  go_ret2
  exact ⟨rfl, by repeat (first | with_reducible assumption | exact Below.refl _ _ | refine Below.drew ?_ | refine Below.setCell ?_ (by first | omega | (simp; done) | (simp; omega)) _ | refine Below.alloc ?_ (by first | omega | (simp; done) | (simp; omega)) _)⟩
set_option maxHeartbeats 1000000 in
theorem until_all (err rho most : Int) (w : World) (h0 : 0 ≤ err) (r0 : 0 ≤ rho) (r1 : rho ≤ 2097152) (g0 : 0 ≤ most) (g1 : err ≤ most) (h : rho = 0 ∨ most = 9223372036854775807) : Calls Tryd.prog 95 #[.int .i64 err, .int .i64 rho, .int .i64 most] w fun e w' => e = .returned (.tuple #[.int .i64 9223372036854775807, .nilIface]) ∧ Below w.heap.size w w' := by
  have hB := Below.refl w.heap.size w
  rcases h with h | h
  all_goals
    subst h
    go_enter Tryd.func95, Tryd.ntmps95
    go_wp2_with (fail)
    all_goals
      go_ret2
      exact ⟨rfl, by repeat (first | with_reducible assumption | exact Below.refl _ _ | refine Below.drew ?_ | refine Below.setCell ?_ (by first | omega | (simp; done) | (simp; omega)) _ | refine Below.alloc ?_ (by first | omega | (simp; done) | (simp; omega)) _)⟩
set_option maxHeartbeats 1000000 in
theorem until_in (err rho most : Int) (w : World) (h0 : 0 ≤ err) (r0 : 1 ≤ rho) (r1 : rho ≤ 2097152) (g0 : 0 ≤ most) (g1 : err ≤ most) (g2 : most < 9223372036854775807) (hq : InR ((most - err) * 1073741824 / rho)) : Calls Tryd.prog 95 #[.int .i64 err, .int .i64 rho, .int .i64 most] w fun e w' => e = .returned (.tuple #[.int .i64 ((most - err) * 1073741824 / rho), .nilIface]) ∧ Below w.heap.size w w' := by
  have hB := Below.refl w.heap.size w
  have hn : wrap64 (most - err) = most - err := IntWalk.wrap64_in _ (by omega)
  have z1 : (rho == 0) = false := by rw [beq_eq_false_iff_ne]; omega
  have z2 : (most == 9223372036854775807) = false := by rw [beq_eq_false_iff_ne]; omega
  go_enter Tryd.func95, Tryd.ntmps95
  go_wp2_with (fail)
  go_at_call 39
  (with_reducible refine (wmuldiv _ _ _ _ (by omega) (by omega) (by omega) (by omega) hq).mono ?_)
  rintro e w1 ⟨rfl, HB⟩
  obtain ⟨hc1, hf1⟩ := bcell HB
  have hz1 := HB.size
  try simp at hz1
  replace hB := Below.trans (show Below w.heap.size w _ from by repeat (first | with_reducible assumption | exact Below.refl _ _ | refine Below.drew ?_ | refine Below.setCell ?_ (by first | omega | (simp; done) | (simp; omega)) _ | refine Below.alloc ?_ (by first | omega | (simp; done) | (simp; omega)) _)) (Below.mono (B' := w.heap.size) HB (by first | omega | (simp; done) | (simp; omega)))
  try (have z1w0 : w.heap.size < w1.heap.size := (by omega))
  try (have z1w1 : w.heap.size + 1 < w1.heap.size := (by omega))
  try (have z1w2 : w.heap.size + 1 + 1 < w1.heap.size := (by omega))
  clear HB
  go_wp2_with (fail)
  go_ret2
  exact ⟨rfl, by repeat (first | with_reducible assumption | exact Below.refl _ _ | refine Below.drew ?_ | refine Below.setCell ?_ (by first | omega | (simp; done) | (simp; omega)) _ | refine Below.alloc ?_ (by first | omega | (simp; done) | (simp; omega)) _)⟩
set_option maxHeartbeats 1000000 in
theorem until_big (err rho most : Int) (w : World) (h0 : 0 ≤ err) (r0 : 1 ≤ rho) (r1 : rho ≤ 2097152) (g0 : 0 ≤ most) (g1 : err ≤ most) (g2 : most < 9223372036854775807) (hq : ¬ InR ((most - err) * 1073741824 / rho)) : Calls Tryd.prog 95 #[.int .i64 err, .int .i64 rho, .int .i64 most] w fun e w' => e = .returned (.tuple #[.int .i64 9223372036854775807, .nilIface]) ∧ Below w.heap.size w w' := by
  have hB := Below.refl w.heap.size w
  have hn : wrap64 (most - err) = most - err := IntWalk.wrap64_in _ (by omega)
  have z1 : (rho == 0) = false := by rw [beq_eq_false_iff_ne]; omega
  have z2 : (most == 9223372036854775807) = false := by rw [beq_eq_false_iff_ne]; omega
  go_enter Tryd.func95, Tryd.ntmps95
  go_wp2_with (fail)
  go_at_call 39
  (with_reducible refine (wmuldiv_big _ _ _ _ (by omega) (by omega) (by omega) (by omega) hq).mono ?_)
  rintro e w1 ⟨rfl, HB⟩
  obtain ⟨hc1, hf1⟩ := bcell HB
  have hz1 := HB.size
  try simp at hz1
  replace hB := Below.trans (show Below w.heap.size w _ from by repeat (first | with_reducible assumption | exact Below.refl _ _ | refine Below.drew ?_ | refine Below.setCell ?_ (by first | omega | (simp; done) | (simp; omega)) _ | refine Below.alloc ?_ (by first | omega | (simp; done) | (simp; omega)) _)) (Below.mono (B' := w.heap.size) HB (by first | omega | (simp; done) | (simp; omega)))
  try (have z1w0 : w.heap.size < w1.heap.size := (by omega))
  try (have z1w1 : w.heap.size + 1 < w1.heap.size := (by omega))
  try (have z1w2 : w.heap.size + 1 + 1 < w1.heap.size := (by omega))
  clear HB
  go_wp2_with (fail)
  go_ret2
  exact ⟨rfl, by repeat (first | with_reducible assumption | exact Below.refl _ _ | refine Below.drew ?_ | refine Below.setCell ?_ (by first | omega | (simp; done) | (simp; omega)) _ | refine Below.alloc ?_ (by first | omega | (simp; done) | (simp; omega)) _)⟩
set_option maxHeartbeats 1000000 in
theorem both_ok (a b : Int) (w : World) (a0 : 0 ≤ a) (a1 : a ≤ 1048576) (b0 : 0 ≤ b) (b1 : b ≤ 1048576) : Calls Tryd.prog 97 #[.int .i64 a, .int .i64 b] w fun e w' => e = .returned (.tuple #[.int .i64 (a + b), .nilIface]) ∧ Below w.heap.size w w' := by
  have hB := Below.refl w.heap.size w
  go_enter Tryd.func97, Tryd.ntmps97
  go_wp2_with (fail)
  go_ret2
  exact ⟨rfl, by repeat (first | with_reducible assumption | exact Below.refl _ _ | refine Below.drew ?_ | refine Below.setCell ?_ (by first | omega | (simp; done) | (simp; omega)) _ | refine Below.alloc ?_ (by first | omega | (simp; done) | (simp; omega)) _)⟩
theorem grow_c (w : World) : Calls Tryd.prog 93 #[.int .i64 5, .int .i64 1048576, .int .i64 1000000] w fun e w' => e = .returned (.tuple #[.int .i64 982, .nilIface]) ∧ Below w.heap.size w w' := grow_v 5 1048576 1000000 982 w (by omega) (by omega) (by omega) (by omega) (by omega) (by omega) (by decide) (by omega)
theorem until_c (w : World) : Calls Tryd.prog 95 #[.int .i64 5, .int .i64 1048576, .int .i64 982] w fun e w' => e = .returned (.tuple #[.int .i64 1000448, .nilIface]) ∧ Below w.heap.size w w' := until_in 5 1048576 982 w (by omega) (by omega) (by omega) (by omega) (by omega) (by omega) (by decide)
set_option maxRecDepth 100000 in
set_option maxHeartbeats 8000000 in
theorem sure17 (w : World) (hg : w.cell? ⟨0, 0, none⟩ = some asHandle) : Calls Tryd.prog 99 #[] w fun e w' => e = .returned (.bool true) ∧ Below w.heap.size w w' := by
  have hH := Held.start hg
  go_enter Tryd.func99, Tryd.ntmps99
  go_wp2_with (fail)
  go_at_call 93
  (with_reducible refine (grow_c _).mono ?_)
  rintro e w1 ⟨rfl, HB⟩
  obtain ⟨hc1, hf1⟩ := bcell HB
  obtain ⟨hd1, hh1⟩ := bcell2 (U := w) (by repeat (first | exact Below.refl _ _ | refine Below.setCell ?_ (by simp <;> omega) _ | refine Below.alloc ?_ (by simp <;> omega) _ | refine Below.drew ?_)) HB
  have hz1 := HB.size
  try simp at hz1
  (try (have z1w0 : w.heap.size < w1.heap.size := (by omega)))
  (try (have z1w1 : w.heap.size + 1 < w1.heap.size := (by omega)))
  (try (have z1w2 : w.heap.size + 1 + 1 < w1.heap.size := (by omega)))
  (try (have z1w3 : w.heap.size + 1 + 1 + 1 < w1.heap.size := (by omega)))
  have hH1 := Held.step (w0 := w) (by repeat (first | assumption | refine Held.alloc ?_ _ | refine Held.drew ?_)) HB
  clear HB
  go_wp2_with (fail)
  go_at_call 95
  (with_reducible refine (until_c _).mono ?_)
  rintro e w2 ⟨rfl, HB⟩
  obtain ⟨hc2, hf2⟩ := bcell HB
  obtain ⟨hd2, hh2⟩ := bcell2 (U := w1) (by repeat (first | exact Below.refl _ _ | refine Below.setCell ?_ (by simp <;> omega) _ | refine Below.alloc ?_ (by simp <;> omega) _ | refine Below.drew ?_)) HB
  have hz2 := HB.size
  try simp at hz2
  (try (have z2w0 : w.heap.size < w2.heap.size := (by omega)))
  (try (have z2w1 : w.heap.size + 1 < w2.heap.size := (by omega)))
  (try (have z2w2 : w.heap.size + 1 + 1 < w2.heap.size := (by omega)))
  (try (have z2w3 : w.heap.size + 1 + 1 + 1 < w2.heap.size := (by omega)))
  (try (have z2w10 : w1.heap.size < w2.heap.size := (by omega)))
  (try (have z2w11 : w1.heap.size + 1 < w2.heap.size := (by omega)))
  (try (have z2w12 : w1.heap.size + 1 + 1 < w2.heap.size := (by omega)))
  (try (have z2w13 : w1.heap.size + 1 + 1 + 1 < w2.heap.size := (by omega)))
  have hH2 := Held.step (w0 := w) (by repeat (first | assumption | refine Held.alloc ?_ _ | refine Held.drew ?_)) HB
  clear HB
  go_wp2_with (fail)
  go_at_call 95
  (with_reducible refine (until_past _ _ _ _ (by omega) (by omega) (by omega) (by omega) (by omega)).mono ?_)
  rintro e w3 ⟨rfl, HB⟩
  obtain ⟨hc3, hf3⟩ := bcell HB
  obtain ⟨hd3, hh3⟩ := bcell2 (U := w2) (by repeat (first | exact Below.refl _ _ | refine Below.setCell ?_ (by simp <;> omega) _ | refine Below.alloc ?_ (by simp <;> omega) _ | refine Below.drew ?_)) HB
  have hz3 := HB.size
  try simp at hz3
  (try (have z3w0 : w.heap.size < w3.heap.size := (by omega)))
  (try (have z3w1 : w.heap.size + 1 < w3.heap.size := (by omega)))
  (try (have z3w2 : w.heap.size + 1 + 1 < w3.heap.size := (by omega)))
  (try (have z3w3 : w.heap.size + 1 + 1 + 1 < w3.heap.size := (by omega)))
  (try (have z3w10 : w1.heap.size < w3.heap.size := (by omega)))
  (try (have z3w11 : w1.heap.size + 1 < w3.heap.size := (by omega)))
  (try (have z3w12 : w1.heap.size + 1 + 1 < w3.heap.size := (by omega)))
  (try (have z3w13 : w1.heap.size + 1 + 1 + 1 < w3.heap.size := (by omega)))
  (try (have z3w20 : w2.heap.size < w3.heap.size := (by omega)))
  (try (have z3w21 : w2.heap.size + 1 < w3.heap.size := (by omega)))
  (try (have z3w22 : w2.heap.size + 1 + 1 < w3.heap.size := (by omega)))
  (try (have z3w23 : w2.heap.size + 1 + 1 + 1 < w3.heap.size := (by omega)))
  have hH3 := Held.step (w0 := w) (by repeat (first | assumption | refine Held.alloc ?_ _ | refine Held.drew ?_)) HB
  clear HB
  go_wp2_with (fail)
  go_at_call 97
  (with_reducible refine (both_ok _ _ _ (by omega) (by omega) (by omega) (by omega)).mono ?_)
  rintro e w4 ⟨rfl, HB⟩
  obtain ⟨hc4, hf4⟩ := bcell HB
  obtain ⟨hd4, hh4⟩ := bcell2 (U := w3) (by repeat (first | exact Below.refl _ _ | refine Below.setCell ?_ (by simp <;> omega) _ | refine Below.alloc ?_ (by simp <;> omega) _ | refine Below.drew ?_)) HB
  have hz4 := HB.size
  try simp at hz4
  (try (have z4w0 : w.heap.size < w4.heap.size := (by omega)))
  (try (have z4w1 : w.heap.size + 1 < w4.heap.size := (by omega)))
  (try (have z4w2 : w.heap.size + 1 + 1 < w4.heap.size := (by omega)))
  (try (have z4w3 : w.heap.size + 1 + 1 + 1 < w4.heap.size := (by omega)))
  (try (have z4w10 : w1.heap.size < w4.heap.size := (by omega)))
  (try (have z4w11 : w1.heap.size + 1 < w4.heap.size := (by omega)))
  (try (have z4w12 : w1.heap.size + 1 + 1 < w4.heap.size := (by omega)))
  (try (have z4w13 : w1.heap.size + 1 + 1 + 1 < w4.heap.size := (by omega)))
  (try (have z4w20 : w2.heap.size < w4.heap.size := (by omega)))
  (try (have z4w21 : w2.heap.size + 1 < w4.heap.size := (by omega)))
  (try (have z4w22 : w2.heap.size + 1 + 1 < w4.heap.size := (by omega)))
  (try (have z4w23 : w2.heap.size + 1 + 1 + 1 < w4.heap.size := (by omega)))
  (try (have z4w30 : w3.heap.size < w4.heap.size := (by omega)))
  (try (have z4w31 : w3.heap.size + 1 < w4.heap.size := (by omega)))
  (try (have z4w32 : w3.heap.size + 1 + 1 < w4.heap.size := (by omega)))
  (try (have z4w33 : w3.heap.size + 1 + 1 + 1 < w4.heap.size := (by omega)))
  have hH4 := Held.step (w0 := w) (by repeat (first | assumption | refine Held.alloc ?_ _ | refine Held.drew ?_)) HB
  clear HB
  go_wp2_with (first | (go_at_call 98; (with_reducible refine (num17_nil _).mono ?_); rintro e w' ⟨rfl, hb'⟩; have hH' := Held.step (w0 := w) (by assumption) hb'; clear hb') | (go_at_call 98; (with_reducible refine (num17_err _ _ (Held.handle (w0 := w) (by assumption))).mono ?_); rintro e w' ⟨rfl, hb'⟩; have hH' := Held.step (w0 := w) (by assumption) hb'; clear hb'))
  go_ret
  exact ⟨rfl, Held.below (w0 := w) (by assumption)⟩
abbrev S3 (w : World) (b0 : Nat) (v00 v01 v02 : Value) (wx : World) : Prop := Held w wx ∧ B3 b0 v00 v01 v02 wx
theorem S3.step {w : World} {b0 : Nat} {v00 v01 v02 : Value} {wx w' : World} (h : S3 w b0 v00 v01 v02 wx) (hb : Below wx.heap.size wx w') : S3 w b0 v00 v01 v02 w' := ⟨(h.1).step hb, (h.2).step hb⟩
theorem S3.drew {w : World} {b0 : Nat} {v00 v01 v02 : Value} {wx : World} (h : S3 w b0 v00 v01 v02 wx) : S3 w b0 v00 v01 v02 wx.drew := h.step (Below.refl _ _).drew
set_option maxRecDepth 100000 in
set_option maxHeartbeats 16000000 in
theorem parts_out (err rho o0 o1 o2 : Int) (w : World) (hout : ¬ (0 ≤ err ∧ err ≤ 1099511627776 ∧ 0 ≤ rho ∧ rho ≤ 1048576 ∧ 0 ≤ o0 ∧ o0 ≤ 1152921504606846976 ∧ 0 ≤ o1 ∧ o1 ≤ 1152921504606846976)) (hg : w.cell? ⟨0, 0, none⟩ = some asHandle) :
    Calls Tryd.prog 18 #[.int .i64 err, .int .i64 rho, .agg #[.int .i64 o0, .int .i64 o1, .int .i64 o2]] w fun e w' => e = .returned (.bool true) ∧ Below w.heap.size w w' := by
  have hH := Held.start hg
  have hout' : err < 0 ∨ 1099511627776 < err ∨ rho < 0 ∨ 1048576 < rho ∨ o0 < 0 ∨ 1152921504606846976 < o0 ∨ o1 < 0 ∨ 1152921504606846976 < o1 := by omega
  clear hout
  go_enter Tryd.func18, Tryd.ntmps18
  go_wp2_with (first | (go_at_call 99; (with_reducible refine (sure17 _ (Held.handle (w0 := w) (by repeat (first | assumption | refine Held.alloc ?_ _ | refine Held.drew ?_)))).mono ?_); rintro e w' ⟨rfl, hb'⟩; obtain ⟨hc, hf⟩ := bcell hb'; have hz := hb'.size; (try (simp at hz)); have hH' := Held.step (w0 := w) (by repeat (first | assumption | refine Held.alloc ?_ _ | refine Held.drew ?_)) hb'; clear hb'))
  all_goals go_ret
  all_goals exact ⟨rfl, Held.below (w0 := w) (by assumption)⟩
theorem parts_nums {err rho o0 o1 : Int} (h0 : 0 ≤ err) (h1 : err ≤ 1099511627776) (r0 : 0 ≤ rho) (r1 : rho ≤ 1048576) (p0 : 0 ≤ o0) (p1 : o0 ≤ 1152921504606846976) (q0 : 0 ≤ o1) (q1 : o1 ≤ 1152921504606846976) :
    ∃ A B C D : Int, A = err + upK (o0 * rho) ∧ B = A + upK (o1 * rho) ∧ C = err + upK ((o0 + o1) * rho) ∧ D = err + upK (o0 * (rho + 1)) ∧ err ≤ A ∧ C ≤ B ∧ B - C ≤ 1 ∧ A ≤ C ∧ A ≤ D ∧ A ≤ 9007199254740992 ∧ B ≤ 9007199254740992 ∧ C ≤ 9007199254740992 ∧ D ≤ 9007199254740992 := by
  refine ⟨_, _, _, _, rfl, rfl, rfl, rfl, ?_⟩
  have hp := prod_le2 p0 p1 r0 r1
  have hq := prod_le2 q0 q1 r0 r1
  rw [Int.add_mul, Int.mul_add, Int.mul_one]
  unfold upK
  generalize o0 * rho = p at *
  generalize o1 * rho = q at *
  omega
theorem until_nums {err rho o2 : Int} (h0 : 0 ≤ err) (r0 : 1 ≤ rho) (h2 : err ≤ o2) : 0 ≤ (o2 - err) * 1073741824 / rho ∧ err + upK ((o2 - err) * 1073741824 / rho * rho) ≤ o2 ∧ o2 < err + upK (((o2 - err) * 1073741824 / rho + 1) * rho) ∧ (¬ InR ((o2 - err) * 1073741824 / rho) → err + upK (9223372036854775807 * rho) ≤ o2) := by
  have e1 : 0 ≤ (o2 - err) * 1073741824 / rho := Int.ediv_nonneg (by omega) (by omega)
  have e2 : (o2 - err) * 1073741824 / rho * rho ≤ (o2 - err) * 1073741824 := Int.ediv_mul_le _ (by omega)
  have e3 : (o2 - err) * 1073741824 < ((o2 - err) * 1073741824 / rho + 1) * rho := Int.lt_ediv_add_one_mul_self _ (by omega)
  refine ⟨e1, ?_, ?_, ?_⟩
  · unfold upK; generalize (o2 - err) * 1073741824 / rho * rho = X at *; omega
  · unfold upK; generalize ((o2 - err) * 1073741824 / rho + 1) * rho = X at *; omega
  · intro hn
    have e4 : 9223372036854775807 * rho ≤ (o2 - err) * 1073741824 / rho * rho := Int.mul_le_mul_of_nonneg_right (by omega) (by omega)
    unfold upK; generalize (o2 - err) * 1073741824 / rho * rho = X at *; omega
theorem sat_le {v m : Int} (h : v ≤ m) (hv : -9223372036854775808 ≤ v) (hm : m ≤ 9223372036854775807) : sat v ≤ m := by rw [sat_in ⟨hv, by omega⟩]; exact h
theorem sat_gt {v m : Int} (h : m < v) (hm : m < 9223372036854775807) (hv : -9223372036854775808 ≤ v) : m < sat v := by
  unfold sat; split
  · omega
  · rw [if_neg (by omega)]; exact h
theorem sat_rng (v : Int) : InR (sat v) := by unfold sat; split <;> (try split) <;> omega
theorem S3.held {w : World} {b0 : Nat} {v00 v01 v02 : Value} {wx : World} (h : S3 w b0 v00 v01 v02 wx) : Held w wx := h.1
set_option maxRecDepth 100000 in
set_option maxHeartbeats 16000000 in
theorem parts_arg (err rho o0 o1 o2 : Int) (w : World) (h0 : 0 ≤ err) (h1 : err ≤ 1099511627776) (r0 : 0 ≤ rho) (r1 : rho ≤ 1048576) (p0 : 0 ≤ o0) (p1 : o0 ≤ 1152921504606846976) (q0 : 0 ≤ o1) (q1 : o1 ≤ 1152921504606846976) (hm : o2 < 0) (hg : w.cell? ⟨0, 0, none⟩ = some asHandle) :
    Calls Tryd.prog 18 #[.int .i64 err, .int .i64 rho, .agg #[.int .i64 o0, .int .i64 o1, .int .i64 o2]] w fun e w' => e = .returned (.bool true) ∧ Below w.heap.size w w' := by
  have hH := Held.start hg
  obtain ⟨A, B, C, D, hA, hB, hC, hD, f1, f2, f3, f4, f5, f6, f7, f8, f9⟩ := parts_nums h0 h1 r0 r1 p0 p1 q0 q1
  have HA := Lib.hid hA
  have HBB := Lib.hid hB
  have HC := Lib.hid hC
  have HD := Lib.hid hD
  clear hA hB hC hD
  have s1 : wrap64 (o0 + o1) = o0 + o1 := IntWalk.wrap64_in _ (by omega)
  have s2 : wrap64 (rho + 1) = rho + 1 := IntWalk.wrap64_in _ (by omega)
  have s3 : wrap64 (B - C) = B - C := IntWalk.wrap64_in _ (by omega)
  go_enter Tryd.func18, Tryd.ntmps18
  go_wp2_with (fail)
  go_at_call 93
  (with_reducible refine (grow_v err rho o0 A _ (by omega) (by omega) (by omega) (by omega) (by omega) (by omega) HA.out (by omega)).mono ?_)
  rintro e w1 ⟨rfl, HB⟩
  obtain ⟨hc1, hf1⟩ := bcell HB
  obtain ⟨hd1, hh1⟩ := bcell2 (U := w) (by repeat (first | exact Below.refl _ _ | refine Below.setCell ?_ (by simp <;> omega) _ | refine Below.alloc ?_ (by simp <;> omega) _ | refine Below.drew ?_)) HB
  have hz1 := HB.size
  try simp at hz1
  (try (have z1w0 : w.heap.size < w1.heap.size := (by omega)))
  (try (have z1w1 : w.heap.size + 1 < w1.heap.size := (by omega)))
  (try (have z1w2 : w.heap.size + 1 + 1 < w1.heap.size := (by omega)))
  (try (have z1w3 : w.heap.size + 1 + 1 + 1 < w1.heap.size := (by omega)))
  have hH1 := Held.step (w0 := w) (by repeat (first | assumption | refine Held.alloc ?_ _ | refine Held.drew ?_)) HB
  clear HB
  go_wp2_with (fail)
  go_at_call 93
  (with_reducible refine (grow_v A rho o1 B _ (by omega) (by omega) (by omega) (by omega) (by omega) (by omega) HBB.out (by omega)).mono ?_)
  rintro e w2 ⟨rfl, HB⟩
  obtain ⟨hc2, hf2⟩ := bcell HB
  obtain ⟨hd2, hh2⟩ := bcell2 (U := w1) (by repeat (first | exact Below.refl _ _ | refine Below.setCell ?_ (by simp <;> omega) _ | refine Below.alloc ?_ (by simp <;> omega) _ | refine Below.drew ?_)) HB
  have hz2 := HB.size
  try simp at hz2
  (try (have z2w0 : w.heap.size < w2.heap.size := (by omega)))
  (try (have z2w1 : w.heap.size + 1 < w2.heap.size := (by omega)))
  (try (have z2w2 : w.heap.size + 1 + 1 < w2.heap.size := (by omega)))
  (try (have z2w3 : w.heap.size + 1 + 1 + 1 < w2.heap.size := (by omega)))
  (try (have z2w10 : w1.heap.size < w2.heap.size := (by omega)))
  (try (have z2w11 : w1.heap.size + 1 < w2.heap.size := (by omega)))
  (try (have z2w12 : w1.heap.size + 1 + 1 < w2.heap.size := (by omega)))
  (try (have z2w13 : w1.heap.size + 1 + 1 + 1 < w2.heap.size := (by omega)))
  have hH2 := Held.step (w0 := w) (by repeat (first | assumption | refine Held.alloc ?_ _ | refine Held.drew ?_)) HB
  clear HB
  go_wp2_with (fail)
  go_at_call 93
  (with_reducible refine (grow_v err rho (o0 + o1) C _ (by omega) (by omega) (by omega) (by omega) (by omega) (by omega) HC.out (by omega)).mono ?_)
  rintro e w3 ⟨rfl, HB⟩
  obtain ⟨hc3, hf3⟩ := bcell HB
  obtain ⟨hd3, hh3⟩ := bcell2 (U := w2) (by repeat (first | exact Below.refl _ _ | refine Below.setCell ?_ (by simp <;> omega) _ | refine Below.alloc ?_ (by simp <;> omega) _ | refine Below.drew ?_)) HB
  have hz3 := HB.size
  try simp at hz3
  (try (have z3w0 : w.heap.size < w3.heap.size := (by omega)))
  (try (have z3w1 : w.heap.size + 1 < w3.heap.size := (by omega)))
  (try (have z3w2 : w.heap.size + 1 + 1 < w3.heap.size := (by omega)))
  (try (have z3w3 : w.heap.size + 1 + 1 + 1 < w3.heap.size := (by omega)))
  (try (have z3w10 : w1.heap.size < w3.heap.size := (by omega)))
  (try (have z3w11 : w1.heap.size + 1 < w3.heap.size := (by omega)))
  (try (have z3w12 : w1.heap.size + 1 + 1 < w3.heap.size := (by omega)))
  (try (have z3w13 : w1.heap.size + 1 + 1 + 1 < w3.heap.size := (by omega)))
  (try (have z3w20 : w2.heap.size < w3.heap.size := (by omega)))
  (try (have z3w21 : w2.heap.size + 1 < w3.heap.size := (by omega)))
  (try (have z3w22 : w2.heap.size + 1 + 1 < w3.heap.size := (by omega)))
  (try (have z3w23 : w2.heap.size + 1 + 1 + 1 < w3.heap.size := (by omega)))
  have hH3 := Held.step (w0 := w) (by repeat (first | assumption | refine Held.alloc ?_ _ | refine Held.drew ?_)) HB
  clear HB
  go_wp2_with (fail)
  go_at_call 93
  (with_reducible refine (grow_v err (rho + 1) o0 D _ (by omega) (by omega) (by omega) (by omega) (by omega) (by omega) HD.out (by omega)).mono ?_)
  rintro e w4 ⟨rfl, HB⟩
  obtain ⟨hc4, hf4⟩ := bcell HB
  obtain ⟨hd4, hh4⟩ := bcell2 (U := w3) (by repeat (first | exact Below.refl _ _ | refine Below.setCell ?_ (by simp <;> omega) _ | refine Below.alloc ?_ (by simp <;> omega) _ | refine Below.drew ?_)) HB
  have hz4 := HB.size
  try simp at hz4
  (try (have z4w0 : w.heap.size < w4.heap.size := (by omega)))
  (try (have z4w1 : w.heap.size + 1 < w4.heap.size := (by omega)))
  (try (have z4w2 : w.heap.size + 1 + 1 < w4.heap.size := (by omega)))
  (try (have z4w3 : w.heap.size + 1 + 1 + 1 < w4.heap.size := (by omega)))
  (try (have z4w10 : w1.heap.size < w4.heap.size := (by omega)))
  (try (have z4w11 : w1.heap.size + 1 < w4.heap.size := (by omega)))
  (try (have z4w12 : w1.heap.size + 1 + 1 < w4.heap.size := (by omega)))
  (try (have z4w13 : w1.heap.size + 1 + 1 + 1 < w4.heap.size := (by omega)))
  (try (have z4w20 : w2.heap.size < w4.heap.size := (by omega)))
  (try (have z4w21 : w2.heap.size + 1 < w4.heap.size := (by omega)))
  (try (have z4w22 : w2.heap.size + 1 + 1 < w4.heap.size := (by omega)))
  (try (have z4w23 : w2.heap.size + 1 + 1 + 1 < w4.heap.size := (by omega)))
  (try (have z4w30 : w3.heap.size < w4.heap.size := (by omega)))
  (try (have z4w31 : w3.heap.size + 1 < w4.heap.size := (by omega)))
  (try (have z4w32 : w3.heap.size + 1 + 1 < w4.heap.size := (by omega)))
  (try (have z4w33 : w3.heap.size + 1 + 1 + 1 < w4.heap.size := (by omega)))
  have hH4 := Held.step (w0 := w) (by repeat (first | assumption | refine Held.alloc ?_ _ | refine Held.drew ?_)) HB
  clear HB
  go_wp2_with (fail)
  go_at_call 95
  (with_reducible refine (until_arg _ _ _ _ (by omega) (by omega) (by omega) hm).mono ?_)
  rintro e w5 ⟨rfl, HB⟩
  obtain ⟨hc5, hf5⟩ := bcell HB
  obtain ⟨hd5, hh5⟩ := bcell2 (U := w4) (by repeat (first | exact Below.refl _ _ | refine Below.setCell ?_ (by simp <;> omega) _ | refine Below.alloc ?_ (by simp <;> omega) _ | refine Below.drew ?_)) HB
  have hz5 := HB.size
  try simp at hz5
  (try (have z5w0 : w.heap.size < w5.heap.size := (by omega)))
  (try (have z5w1 : w.heap.size + 1 < w5.heap.size := (by omega)))
  (try (have z5w2 : w.heap.size + 1 + 1 < w5.heap.size := (by omega)))
  (try (have z5w3 : w.heap.size + 1 + 1 + 1 < w5.heap.size := (by omega)))
  (try (have z5w10 : w1.heap.size < w5.heap.size := (by omega)))
  (try (have z5w11 : w1.heap.size + 1 < w5.heap.size := (by omega)))
  (try (have z5w12 : w1.heap.size + 1 + 1 < w5.heap.size := (by omega)))
  (try (have z5w13 : w1.heap.size + 1 + 1 + 1 < w5.heap.size := (by omega)))
  (try (have z5w20 : w2.heap.size < w5.heap.size := (by omega)))
  (try (have z5w21 : w2.heap.size + 1 < w5.heap.size := (by omega)))
  (try (have z5w22 : w2.heap.size + 1 + 1 < w5.heap.size := (by omega)))
  (try (have z5w23 : w2.heap.size + 1 + 1 + 1 < w5.heap.size := (by omega)))
  (try (have z5w30 : w3.heap.size < w5.heap.size := (by omega)))
  (try (have z5w31 : w3.heap.size + 1 < w5.heap.size := (by omega)))
  (try (have z5w32 : w3.heap.size + 1 + 1 < w5.heap.size := (by omega)))
  (try (have z5w33 : w3.heap.size + 1 + 1 + 1 < w5.heap.size := (by omega)))
  (try (have z5w40 : w4.heap.size < w5.heap.size := (by omega)))
  (try (have z5w41 : w4.heap.size + 1 < w5.heap.size := (by omega)))
  (try (have z5w42 : w4.heap.size + 1 + 1 < w5.heap.size := (by omega)))
  (try (have z5w43 : w4.heap.size + 1 + 1 + 1 < w5.heap.size := (by omega)))
  have hH5 := Held.step (w0 := w) (by repeat (first | assumption | refine Held.alloc ?_ _ | refine Held.drew ?_)) HB
  clear HB
  go_wp2_with (fail)
  have hS0 : S3 w (w.heap.size) (.int .i64 o0) (.int .i64 o1) (.int .i64 o2) w5 := ⟨hH5, ⟨by omega, by go_simp, by go_simp, by go_simp⟩⟩
  first | (go_region_held3 (fun wx => S3 w (w.heap.size) (.int .i64 o0) (.int .i64 o1) (.int .i64 o2) wx) (first | assumption | exact S3.drew (by assumption)) (first | (go_at_call 98; (with_reducible refine (num17_err _ _ (Held.handle (w0 := w) (S3.held (by with_reducible assumption)))).mono ?_); rintro e w' ⟨rfl, hb'⟩; have hS' := S3.step (by assumption) hb'; clear hb') | (go_at_call 99; (with_reducible refine (sure17 _ (Held.handle (w0 := w) (S3.held (by with_reducible assumption)))).mono ?_); rintro e w' ⟨rfl, hb'⟩; have hS' := S3.step (by assumption) hb'; clear hb'))) | fail
  go_wp2_with (fail)
  go_ret
  exact ⟨rfl, Held.below (w0 := w) (S3.held (by with_reducible assumption))⟩
set_option maxRecDepth 100000 in
set_option maxHeartbeats 16000000 in
theorem parts_past (err rho o0 o1 o2 : Int) (w : World) (h0 : 0 ≤ err) (h1 : err ≤ 1099511627776) (r0 : 0 ≤ rho) (r1 : rho ≤ 1048576) (p0 : 0 ≤ o0) (p1 : o0 ≤ 1152921504606846976) (q0 : 0 ≤ o1) (q1 : o1 ≤ 1152921504606846976) (hm0 : 0 ≤ o2) (hm : o2 < err) (hg : w.cell? ⟨0, 0, none⟩ = some asHandle) :
    Calls Tryd.prog 18 #[.int .i64 err, .int .i64 rho, .agg #[.int .i64 o0, .int .i64 o1, .int .i64 o2]] w fun e w' => e = .returned (.bool true) ∧ Below w.heap.size w w' := by
  have hH := Held.start hg
  obtain ⟨A, B, C, D, hA, hB, hC, hD, f1, f2, f3, f4, f5, f6, f7, f8, f9⟩ := parts_nums h0 h1 r0 r1 p0 p1 q0 q1
  have HA := Lib.hid hA
  have HBB := Lib.hid hB
  have HC := Lib.hid hC
  have HD := Lib.hid hD
  clear hA hB hC hD
  have s1 : wrap64 (o0 + o1) = o0 + o1 := IntWalk.wrap64_in _ (by omega)
  have s2 : wrap64 (rho + 1) = rho + 1 := IntWalk.wrap64_in _ (by omega)
  have s3 : wrap64 (B - C) = B - C := IntWalk.wrap64_in _ (by omega)
  go_enter Tryd.func18, Tryd.ntmps18
  go_wp2_with (fail)
  go_at_call 93
  (with_reducible refine (grow_v err rho o0 A _ (by omega) (by omega) (by omega) (by omega) (by omega) (by omega) HA.out (by omega)).mono ?_)
  rintro e w1 ⟨rfl, HB⟩
  obtain ⟨hc1, hf1⟩ := bcell HB
  obtain ⟨hd1, hh1⟩ := bcell2 (U := w) (by repeat (first | exact Below.refl _ _ | refine Below.setCell ?_ (by simp <;> omega) _ | refine Below.alloc ?_ (by simp <;> omega) _ | refine Below.drew ?_)) HB
  have hz1 := HB.size
  try simp at hz1
  (try (have z1w0 : w.heap.size < w1.heap.size := (by omega)))
  (try (have z1w1 : w.heap.size + 1 < w1.heap.size := (by omega)))
  (try (have z1w2 : w.heap.size + 1 + 1 < w1.heap.size := (by omega)))
  (try (have z1w3 : w.heap.size + 1 + 1 + 1 < w1.heap.size := (by omega)))
  have hH1 := Held.step (w0 := w) (by repeat (first | assumption | refine Held.alloc ?_ _ | refine Held.drew ?_)) HB
  clear HB
  go_wp2_with (fail)
  go_at_call 93
  (with_reducible refine (grow_v A rho o1 B _ (by omega) (by omega) (by omega) (by omega) (by omega) (by omega) HBB.out (by omega)).mono ?_)
  rintro e w2 ⟨rfl, HB⟩
  obtain ⟨hc2, hf2⟩ := bcell HB
  obtain ⟨hd2, hh2⟩ := bcell2 (U := w1) (by repeat (first | exact Below.refl _ _ | refine Below.setCell ?_ (by simp <;> omega) _ | refine Below.alloc ?_ (by simp <;> omega) _ | refine Below.drew ?_)) HB
  have hz2 := HB.size
  try simp at hz2
  (try (have z2w0 : w.heap.size < w2.heap.size := (by omega)))
  (try (have z2w1 : w.heap.size + 1 < w2.heap.size := (by omega)))
  (try (have z2w2 : w.heap.size + 1 + 1 < w2.heap.size := (by omega)))
  (try (have z2w3 : w.heap.size + 1 + 1 + 1 < w2.heap.size := (by omega)))
  (try (have z2w10 : w1.heap.size < w2.heap.size := (by omega)))
  (try (have z2w11 : w1.heap.size + 1 < w2.heap.size := (by omega)))
  (try (have z2w12 : w1.heap.size + 1 + 1 < w2.heap.size := (by omega)))
  (try (have z2w13 : w1.heap.size + 1 + 1 + 1 < w2.heap.size := (by omega)))
  have hH2 := Held.step (w0 := w) (by repeat (first | assumption | refine Held.alloc ?_ _ | refine Held.drew ?_)) HB
  clear HB
  go_wp2_with (fail)
  go_at_call 93
  (with_reducible refine (grow_v err rho (o0 + o1) C _ (by omega) (by omega) (by omega) (by omega) (by omega) (by omega) HC.out (by omega)).mono ?_)
  rintro e w3 ⟨rfl, HB⟩
  obtain ⟨hc3, hf3⟩ := bcell HB
  obtain ⟨hd3, hh3⟩ := bcell2 (U := w2) (by repeat (first | exact Below.refl _ _ | refine Below.setCell ?_ (by simp <;> omega) _ | refine Below.alloc ?_ (by simp <;> omega) _ | refine Below.drew ?_)) HB
  have hz3 := HB.size
  try simp at hz3
  (try (have z3w0 : w.heap.size < w3.heap.size := (by omega)))
  (try (have z3w1 : w.heap.size + 1 < w3.heap.size := (by omega)))
  (try (have z3w2 : w.heap.size + 1 + 1 < w3.heap.size := (by omega)))
  (try (have z3w3 : w.heap.size + 1 + 1 + 1 < w3.heap.size := (by omega)))
  (try (have z3w10 : w1.heap.size < w3.heap.size := (by omega)))
  (try (have z3w11 : w1.heap.size + 1 < w3.heap.size := (by omega)))
  (try (have z3w12 : w1.heap.size + 1 + 1 < w3.heap.size := (by omega)))
  (try (have z3w13 : w1.heap.size + 1 + 1 + 1 < w3.heap.size := (by omega)))
  (try (have z3w20 : w2.heap.size < w3.heap.size := (by omega)))
  (try (have z3w21 : w2.heap.size + 1 < w3.heap.size := (by omega)))
  (try (have z3w22 : w2.heap.size + 1 + 1 < w3.heap.size := (by omega)))
  (try (have z3w23 : w2.heap.size + 1 + 1 + 1 < w3.heap.size := (by omega)))
  have hH3 := Held.step (w0 := w) (by repeat (first | assumption | refine Held.alloc ?_ _ | refine Held.drew ?_)) HB
  clear HB
  go_wp2_with (fail)
  go_at_call 93
  (with_reducible refine (grow_v err (rho + 1) o0 D _ (by omega) (by omega) (by omega) (by omega) (by omega) (by omega) HD.out (by omega)).mono ?_)
  rintro e w4 ⟨rfl, HB⟩
  obtain ⟨hc4, hf4⟩ := bcell HB
  obtain ⟨hd4, hh4⟩ := bcell2 (U := w3) (by repeat (first | exact Below.refl _ _ | refine Below.setCell ?_ (by simp <;> omega) _ | refine Below.alloc ?_ (by simp <;> omega) _ | refine Below.drew ?_)) HB
  have hz4 := HB.size
  try simp at hz4
  (try (have z4w0 : w.heap.size < w4.heap.size := (by omega)))
  (try (have z4w1 : w.heap.size + 1 < w4.heap.size := (by omega)))
  (try (have z4w2 : w.heap.size + 1 + 1 < w4.heap.size := (by omega)))
  (try (have z4w3 : w.heap.size + 1 + 1 + 1 < w4.heap.size := (by omega)))
  (try (have z4w10 : w1.heap.size < w4.heap.size := (by omega)))
  (try (have z4w11 : w1.heap.size + 1 < w4.heap.size := (by omega)))
  (try (have z4w12 : w1.heap.size + 1 + 1 < w4.heap.size := (by omega)))
  (try (have z4w13 : w1.heap.size + 1 + 1 + 1 < w4.heap.size := (by omega)))
  (try (have z4w20 : w2.heap.size < w4.heap.size := (by omega)))
  (try (have z4w21 : w2.heap.size + 1 < w4.heap.size := (by omega)))
  (try (have z4w22 : w2.heap.size + 1 + 1 < w4.heap.size := (by omega)))
  (try (have z4w23 : w2.heap.size + 1 + 1 + 1 < w4.heap.size := (by omega)))
  (try (have z4w30 : w3.heap.size < w4.heap.size := (by omega)))
  (try (have z4w31 : w3.heap.size + 1 < w4.heap.size := (by omega)))
  (try (have z4w32 : w3.heap.size + 1 + 1 < w4.heap.size := (by omega)))
  (try (have z4w33 : w3.heap.size + 1 + 1 + 1 < w4.heap.size := (by omega)))
  have hH4 := Held.step (w0 := w) (by repeat (first | assumption | refine Held.alloc ?_ _ | refine Held.drew ?_)) HB
  clear HB
  go_wp2_with (fail)
  go_at_call 95
  (with_reducible refine (until_past _ _ _ _ (by omega) (by omega) (by omega) hm0 hm).mono ?_)
  rintro e w5 ⟨rfl, HB⟩
  obtain ⟨hc5, hf5⟩ := bcell HB
  obtain ⟨hd5, hh5⟩ := bcell2 (U := w4) (by repeat (first | exact Below.refl _ _ | refine Below.setCell ?_ (by simp <;> omega) _ | refine Below.alloc ?_ (by simp <;> omega) _ | refine Below.drew ?_)) HB
  have hz5 := HB.size
  try simp at hz5
  (try (have z5w0 : w.heap.size < w5.heap.size := (by omega)))
  (try (have z5w1 : w.heap.size + 1 < w5.heap.size := (by omega)))
  (try (have z5w2 : w.heap.size + 1 + 1 < w5.heap.size := (by omega)))
  (try (have z5w3 : w.heap.size + 1 + 1 + 1 < w5.heap.size := (by omega)))
  (try (have z5w10 : w1.heap.size < w5.heap.size := (by omega)))
  (try (have z5w11 : w1.heap.size + 1 < w5.heap.size := (by omega)))
  (try (have z5w12 : w1.heap.size + 1 + 1 < w5.heap.size := (by omega)))
  (try (have z5w13 : w1.heap.size + 1 + 1 + 1 < w5.heap.size := (by omega)))
  (try (have z5w20 : w2.heap.size < w5.heap.size := (by omega)))
  (try (have z5w21 : w2.heap.size + 1 < w5.heap.size := (by omega)))
  (try (have z5w22 : w2.heap.size + 1 + 1 < w5.heap.size := (by omega)))
  (try (have z5w23 : w2.heap.size + 1 + 1 + 1 < w5.heap.size := (by omega)))
  (try (have z5w30 : w3.heap.size < w5.heap.size := (by omega)))
  (try (have z5w31 : w3.heap.size + 1 < w5.heap.size := (by omega)))
  (try (have z5w32 : w3.heap.size + 1 + 1 < w5.heap.size := (by omega)))
  (try (have z5w33 : w3.heap.size + 1 + 1 + 1 < w5.heap.size := (by omega)))
  (try (have z5w40 : w4.heap.size < w5.heap.size := (by omega)))
  (try (have z5w41 : w4.heap.size + 1 < w5.heap.size := (by omega)))
  (try (have z5w42 : w4.heap.size + 1 + 1 < w5.heap.size := (by omega)))
  (try (have z5w43 : w4.heap.size + 1 + 1 + 1 < w5.heap.size := (by omega)))
  have hH5 := Held.step (w0 := w) (by repeat (first | assumption | refine Held.alloc ?_ _ | refine Held.drew ?_)) HB
  clear HB
  go_wp2_with (fail)
  have hS0 : S3 w (w.heap.size) (.int .i64 o0) (.int .i64 o1) (.int .i64 o2) w5 := ⟨hH5, ⟨by omega, by go_simp, by go_simp, by go_simp⟩⟩
  clear hc1 hc2 hc3 hc4 hc5 hf1 hf2 hf3 hf4 hf5 hd1 hd2 hd3 hd4 hd5 hh1 hh2 hh3 hh4 hh5 hH1 hH2 hH3 hH4 hH5
  refine wp_region_held_drew (S := (fun wx => S3 w w.heap.size (.int .i64 o0) (.int .i64 o1) (.int .i64 o2) wx)) (by kernel_rfl) (S3.drew hS0) (fun hX => ?_)
  refine wpAnyH_take (i := 0) (v := ?v0) rfl (by kernel_rfl) (by kernel_rfl) (by kernel_rfl) (fun _ _ _ h => h) ?hy0 (by with_reducible assumption) ?rest0
  case hy0 => first | exact Or.inr ⟨by rfl, rfl⟩ | (refine Or.inl ⟨by rfl, ?_⟩; intro wx hSw; (try dsimp only at hSw); go_simp; done) | (refine Or.inl ⟨by rfl, ?_⟩; intro wx hSw; (try dsimp only at hSw); go_simp; with_reducible rfl)
  try simp only [List.getElem_toArray, List.getElem_cons_succ, List.getElem_cons_zero, Act.put, List.setIfInBounds_toArray, List.set_cons_zero, List.set_cons_succ]
  refine wpAnyH_take (i := 1) (v := ?v1) rfl (by kernel_rfl) (by kernel_rfl) (by kernel_rfl) (fun _ _ _ h => h) ?hy1 (by with_reducible assumption) ?rest1
  case hy1 => first | exact Or.inr ⟨by rfl, rfl⟩ | (refine Or.inl ⟨by rfl, ?_⟩; intro wx hSw; (try dsimp only at hSw); go_simp; done) | (refine Or.inl ⟨by rfl, ?_⟩; intro wx hSw; (try dsimp only at hSw); go_simp; with_reducible rfl)
  try simp only [List.getElem_toArray, List.getElem_cons_succ, List.getElem_cons_zero, Act.put, List.setIfInBounds_toArray, List.set_cons_zero, List.set_cons_succ]
  refine wpAnyH_take (i := 2) (v := ?v2) rfl (by kernel_rfl) (by kernel_rfl) (by kernel_rfl) (fun _ _ _ h => h) ?hy2 (by with_reducible assumption) ?rest2
  case hy2 => first | exact Or.inr ⟨by rfl, rfl⟩ | (refine Or.inl ⟨by rfl, ?_⟩; intro wx hSw; (try dsimp only at hSw); go_simp; done) | (refine Or.inl ⟨by rfl, ?_⟩; intro wx hSw; (try dsimp only at hSw); go_simp; with_reducible rfl)
  try simp only [List.getElem_toArray, List.getElem_cons_succ, List.getElem_cons_zero, Act.put, List.setIfInBounds_toArray, List.set_cons_zero, List.set_cons_succ]
  refine wpAnyH_take (i := 3) (v := ?v3) rfl (by kernel_rfl) (by kernel_rfl) (by kernel_rfl) (fun _ _ _ h => h) ?hy3 (by with_reducible assumption) ?rest3
  case hy3 => first | exact Or.inr ⟨by rfl, rfl⟩ | (refine Or.inl ⟨by rfl, ?_⟩; intro wx hSw; (try dsimp only at hSw); go_simp; done) | (refine Or.inl ⟨by rfl, ?_⟩; intro wx hSw; (try dsimp only at hSw); go_simp; with_reducible rfl)
  try simp only [List.getElem_toArray, List.getElem_cons_succ, List.getElem_cons_zero, Act.put, List.setIfInBounds_toArray, List.set_cons_zero, List.set_cons_succ]
  refine wpAnyH_take (i := 4) (v := ?v4) rfl (by kernel_rfl) (by kernel_rfl) (by kernel_rfl) (fun _ _ _ h => h) ?hy4 (by with_reducible assumption) ?rest4
  case hy4 => first | exact Or.inr ⟨by rfl, rfl⟩ | (refine Or.inl ⟨by rfl, ?_⟩; intro wx hSw; (try dsimp only at hSw); go_simp; done) | (refine Or.inl ⟨by rfl, ?_⟩; intro wx hSw; (try dsimp only at hSw); go_simp; with_reducible rfl)
  try simp only [List.getElem_toArray, List.getElem_cons_succ, List.getElem_cons_zero, Act.put, List.setIfInBounds_toArray, List.set_cons_zero, List.set_cons_succ]
  refine wpAnyH_ready (rs := [5]) (by kernel_rfl) (by simp) ?_
  refine AllReadyH.cons rfl (fun K hK => ?_) AllReadyH.nil
  go_simp
  (go_at_call 98; (with_reducible refine (num17_err _ _ (Held.handle (w0 := w) (S3.held (by with_reducible assumption)))).mono ?_); rintro e w' ⟨rfl, hb'⟩; have hS' := S3.step (by assumption) hb'; clear hb')
  refine hK.out _ _ (by with_reducible assumption) (fun hX => ?_)
  clear hK K
  try simp only [List.getElem_toArray, List.getElem_cons_succ, List.getElem_cons_zero, Act.put, List.setIfInBounds_toArray, List.set_cons_zero, List.set_cons_succ]
  refine wpAnyH_take (i := 6) (v := ?v6) rfl (by kernel_rfl) (by kernel_rfl) (by kernel_rfl) (fun _ _ _ h => h) ?hy6 (by with_reducible assumption) ?rest6
  case hy6 => first | exact Or.inr ⟨by rfl, rfl⟩ | (refine Or.inl ⟨by rfl, ?_⟩; intro wx hSw; (try dsimp only at hSw); go_simp; done) | (refine Or.inl ⟨by rfl, ?_⟩; intro wx hSw; (try dsimp only at hSw); go_simp; with_reducible rfl)
  try simp only [List.getElem_toArray, List.getElem_cons_succ, List.getElem_cons_zero, Act.put, List.setIfInBounds_toArray, List.set_cons_zero, List.set_cons_succ]
  refine wpAnyH_take (i := 7) (v := ?v7) rfl (by kernel_rfl) (by kernel_rfl) (by kernel_rfl) (fun _ _ _ h => h) ?hy7 (by with_reducible assumption) ?rest7
  case hy7 => first | exact Or.inr ⟨by rfl, rfl⟩ | (refine Or.inl ⟨by rfl, ?_⟩; intro wx hSw; (try dsimp only at hSw); go_simp; done) | (refine Or.inl ⟨by rfl, ?_⟩; intro wx hSw; (try dsimp only at hSw); go_simp; with_reducible rfl)
  try simp only [List.getElem_toArray, List.getElem_cons_succ, List.getElem_cons_zero, Act.put, List.setIfInBounds_toArray, List.set_cons_zero, List.set_cons_succ]
  refine wpAnyH_take (i := 8) (v := undef) rfl (by kernel_rfl) (by kernel_rfl) (by kernel_rfl) (fun _ _ _ h => h) (Or.inr ⟨by kernel_rfl, rfl⟩) (by with_reducible assumption) ?rest8
  try simp only [List.getElem_toArray, List.getElem_cons_succ, List.getElem_cons_zero, Act.put, List.setIfInBounds_toArray, List.set_cons_zero, List.set_cons_succ]
  refine wpAnyH_take (i := 9) (v := undef) rfl (by kernel_rfl) (by kernel_rfl) (by kernel_rfl) (fun _ _ _ h => h) (Or.inr ⟨by kernel_rfl, rfl⟩) (by with_reducible assumption) ?rest9
  try simp only [List.getElem_toArray, List.getElem_cons_succ, List.getElem_cons_zero, Act.put, List.setIfInBounds_toArray, List.set_cons_zero, List.set_cons_succ]
  refine wpAnyH_take (i := 10) (v := undef) rfl (by kernel_rfl) (by kernel_rfl) (by kernel_rfl) (fun _ _ _ h => h) (Or.inr ⟨by kernel_rfl, rfl⟩) (by with_reducible assumption) ?rest10
  try simp only [List.getElem_toArray, List.getElem_cons_succ, List.getElem_cons_zero, Act.put, List.setIfInBounds_toArray, List.set_cons_zero, List.set_cons_succ]
  refine wpAnyH_take (i := 11) (v := ?v11) rfl (by kernel_rfl) (by kernel_rfl) (by kernel_rfl) (fun _ _ _ h => h) ?hy11 (by with_reducible assumption) ?rest11
  case hy11 => first | exact Or.inr ⟨by rfl, rfl⟩ | (refine Or.inl ⟨by rfl, ?_⟩; intro wx hSw; (try dsimp only at hSw); go_simp; done) | (refine Or.inl ⟨by rfl, ?_⟩; intro wx hSw; (try dsimp only at hSw); go_simp; with_reducible rfl)
  try simp only [List.getElem_toArray, List.getElem_cons_succ, List.getElem_cons_zero, Act.put, List.setIfInBounds_toArray, List.set_cons_zero, List.set_cons_succ]
  refine wpAnyH_take (i := 12) (v := ?v12) rfl (by kernel_rfl) (by kernel_rfl) (by kernel_rfl) (fun _ _ _ h => h) ?hy12 (by with_reducible assumption) ?rest12
  case hy12 => first | exact Or.inr ⟨by rfl, rfl⟩ | (refine Or.inl ⟨by rfl, ?_⟩; intro wx hSw; (try dsimp only at hSw); go_simp; done) | (refine Or.inl ⟨by rfl, ?_⟩; intro wx hSw; (try dsimp only at hSw); go_simp; with_reducible rfl)
  try simp only [List.getElem_toArray, List.getElem_cons_succ, List.getElem_cons_zero, Act.put, List.setIfInBounds_toArray, List.set_cons_zero, List.set_cons_succ]
  refine wpAnyH_take (i := 13) (v := ?v13) rfl (by kernel_rfl) (by kernel_rfl) (by kernel_rfl) (fun _ _ _ h => h) ?hy13 (by with_reducible assumption) ?rest13
  case hy13 => first | exact Or.inr ⟨by rfl, rfl⟩ | (refine Or.inl ⟨by rfl, ?_⟩; intro wx hSw; (try dsimp only at hSw); go_simp; done) | (refine Or.inl ⟨by rfl, ?_⟩; intro wx hSw; (try dsimp only at hSw); go_simp; with_reducible rfl)
  try simp only [List.getElem_toArray, List.getElem_cons_succ, List.getElem_cons_zero, Act.put, List.setIfInBounds_toArray, List.set_cons_zero, List.set_cons_succ]
  refine wpAnyH_ready (rs := [14]) (by kernel_rfl) (by simp) ?_
  refine AllReadyH.cons rfl (fun K hK => ?_) AllReadyH.nil
  go_simp
  (go_at_call 99; (with_reducible refine (sure17 _ (Held.handle (w0 := w) (S3.held (by with_reducible assumption)))).mono ?_); rintro e w' ⟨rfl, hb'⟩; have hS' := S3.step (by assumption) hb'; clear hb')
  refine hK.out _ _ (by with_reducible assumption) (fun hX => ?_)
  clear hK K
  try simp only [List.getElem_toArray, List.getElem_cons_succ, List.getElem_cons_zero, Act.put, List.setIfInBounds_toArray, List.set_cons_zero, List.set_cons_succ]
  refine wpAnyH_take (i := 15) (v := ?v15) rfl (by kernel_rfl) (by kernel_rfl) (by kernel_rfl) (fun _ _ _ h => h) ?hy15 (by with_reducible assumption) ?rest15
  case hy15 => first | exact Or.inr ⟨by rfl, rfl⟩ | (refine Or.inl ⟨by rfl, ?_⟩; intro wx hSw; (try dsimp only at hSw); go_simp; done) | (refine Or.inl ⟨by rfl, ?_⟩; intro wx hSw; (try dsimp only at hSw); go_simp; with_reducible rfl)
  try simp only [List.getElem_toArray, List.getElem_cons_succ, List.getElem_cons_zero, Act.put, List.setIfInBounds_toArray, List.set_cons_zero, List.set_cons_succ]
  refine wpAnyH_take (i := 16) (v := ?v16) rfl (by kernel_rfl) (by kernel_rfl) (by kernel_rfl) (fun _ _ _ h => h) ?hy16 (by with_reducible assumption) ?rest16
  case hy16 => first | exact Or.inr ⟨by rfl, rfl⟩ | (refine Or.inl ⟨by rfl, ?_⟩; intro wx hSw; (try dsimp only at hSw); go_simp; done) | (refine Or.inl ⟨by rfl, ?_⟩; intro wx hSw; (try dsimp only at hSw); go_simp; with_reducible rfl)
  try simp only [List.getElem_toArray, List.getElem_cons_succ, List.getElem_cons_zero, Act.put, List.setIfInBounds_toArray, List.set_cons_zero, List.set_cons_succ]
  refine wpAnyH_done (by kernel_rfl) ?_ _
  go_wp2_with (fail)
  go_ret
  exact ⟨rfl, Held.below (w0 := w) (S3.held (by with_reducible assumption))⟩
set_option maxRecDepth 100000 in
set_option maxHeartbeats 16000000 in
theorem parts_max (err rho o0 o1 o2 : Int) (w : World) (h0 : 0 ≤ err) (h1 : err ≤ 1099511627776) (r0 : 0 ≤ rho) (r1 : rho ≤ 1048576) (p0 : 0 ≤ o0) (p1 : o0 ≤ 1152921504606846976) (q0 : 0 ≤ o1) (q1 : o1 ≤ 1152921504606846976) (hm1 : err ≤ o2) (hm2 : o2 ≤ 9223372036854775807) (V : Int) (hU : ∀ w : World, Calls Tryd.prog 95 #[.int .i64 err, .int .i64 rho, .int .i64 o2] w fun e w' => e = .returned (.tuple #[.int .i64 9223372036854775807, .nilIface]) ∧ Below w.heap.size w w') (hV : ∀ w : World, Calls Tryd.prog 93 #[.int .i64 err, .int .i64 rho, .int .i64 9223372036854775807] w fun e w' => e = .returned (.tuple #[.int .i64 V, .nilIface]) ∧ Below w.heap.size w w') (hV2 : V ≤ o2) (hg : w.cell? ⟨0, 0, none⟩ = some asHandle) :
    Calls Tryd.prog 18 #[.int .i64 err, .int .i64 rho, .agg #[.int .i64 o0, .int .i64 o1, .int .i64 o2]] w fun e w' => e = .returned (.bool true) ∧ Below w.heap.size w w' := by
  have hH := Held.start hg
  obtain ⟨A, B, C, D, hA, hB, hC, hD, f1, f2, f3, f4, f5, f6, f7, f8, f9⟩ := parts_nums h0 h1 r0 r1 p0 p1 q0 q1
  have HA := Lib.hid hA
  have HBB := Lib.hid hB
  have HC := Lib.hid hC
  have HD := Lib.hid hD
  clear hA hB hC hD
  have s1 : wrap64 (o0 + o1) = o0 + o1 := IntWalk.wrap64_in _ (by omega)
  have s2 : wrap64 (rho + 1) = rho + 1 := IntWalk.wrap64_in _ (by omega)
  have s3 : wrap64 (B - C) = B - C := IntWalk.wrap64_in _ (by omega)
  go_enter Tryd.func18, Tryd.ntmps18
  go_wp2_with (fail)
  go_at_call 93
  (with_reducible refine (grow_v err rho o0 A _ (by omega) (by omega) (by omega) (by omega) (by omega) (by omega) HA.out (by omega)).mono ?_)
  rintro e w1 ⟨rfl, HB⟩
  obtain ⟨hc1, hf1⟩ := bcell HB
  obtain ⟨hd1, hh1⟩ := bcell2 (U := w) (by repeat (first | exact Below.refl _ _ | refine Below.setCell ?_ (by simp <;> omega) _ | refine Below.alloc ?_ (by simp <;> omega) _ | refine Below.drew ?_)) HB
  have hz1 := HB.size
  try simp at hz1
  (try (have z1w0 : w.heap.size < w1.heap.size := (by omega)))
  (try (have z1w1 : w.heap.size + 1 < w1.heap.size := (by omega)))
  (try (have z1w2 : w.heap.size + 1 + 1 < w1.heap.size := (by omega)))
  (try (have z1w3 : w.heap.size + 1 + 1 + 1 < w1.heap.size := (by omega)))
  have hH1 := Held.step (w0 := w) (by repeat (first | assumption | refine Held.alloc ?_ _ | refine Held.drew ?_)) HB
  clear HB
  go_wp2_with (fail)
  go_at_call 93
  (with_reducible refine (grow_v A rho o1 B _ (by omega) (by omega) (by omega) (by omega) (by omega) (by omega) HBB.out (by omega)).mono ?_)
  rintro e w2 ⟨rfl, HB⟩
  obtain ⟨hc2, hf2⟩ := bcell HB
  obtain ⟨hd2, hh2⟩ := bcell2 (U := w1) (by repeat (first | exact Below.refl _ _ | refine Below.setCell ?_ (by simp <;> omega) _ | refine Below.alloc ?_ (by simp <;> omega) _ | refine Below.drew ?_)) HB
  have hz2 := HB.size
  try simp at hz2
  (try (have z2w0 : w.heap.size < w2.heap.size := (by omega)))
  (try (have z2w1 : w.heap.size + 1 < w2.heap.size := (by omega)))
  (try (have z2w2 : w.heap.size + 1 + 1 < w2.heap.size := (by omega)))
  (try (have z2w3 : w.heap.size + 1 + 1 + 1 < w2.heap.size := (by omega)))
  (try (have z2w10 : w1.heap.size < w2.heap.size := (by omega)))
  (try (have z2w11 : w1.heap.size + 1 < w2.heap.size := (by omega)))
  (try (have z2w12 : w1.heap.size + 1 + 1 < w2.heap.size := (by omega)))
  (try (have z2w13 : w1.heap.size + 1 + 1 + 1 < w2.heap.size := (by omega)))
  have hH2 := Held.step (w0 := w) (by repeat (first | assumption | refine Held.alloc ?_ _ | refine Held.drew ?_)) HB
  clear HB
  go_wp2_with (fail)
  go_at_call 93
  (with_reducible refine (grow_v err rho (o0 + o1) C _ (by omega) (by omega) (by omega) (by omega) (by omega) (by omega) HC.out (by omega)).mono ?_)
  rintro e w3 ⟨rfl, HB⟩
  obtain ⟨hc3, hf3⟩ := bcell HB
  obtain ⟨hd3, hh3⟩ := bcell2 (U := w2) (by repeat (first | exact Below.refl _ _ | refine Below.setCell ?_ (by simp <;> omega) _ | refine Below.alloc ?_ (by simp <;> omega) _ | refine Below.drew ?_)) HB
  have hz3 := HB.size
  try simp at hz3
  (try (have z3w0 : w.heap.size < w3.heap.size := (by omega)))
  (try (have z3w1 : w.heap.size + 1 < w3.heap.size := (by omega)))
  (try (have z3w2 : w.heap.size + 1 + 1 < w3.heap.size := (by omega)))
  (try (have z3w3 : w.heap.size + 1 + 1 + 1 < w3.heap.size := (by omega)))
  (try (have z3w10 : w1.heap.size < w3.heap.size := (by omega)))
  (try (have z3w11 : w1.heap.size + 1 < w3.heap.size := (by omega)))
  (try (have z3w12 : w1.heap.size + 1 + 1 < w3.heap.size := (by omega)))
  (try (have z3w13 : w1.heap.size + 1 + 1 + 1 < w3.heap.size := (by omega)))
  (try (have z3w20 : w2.heap.size < w3.heap.size := (by omega)))
  (try (have z3w21 : w2.heap.size + 1 < w3.heap.size := (by omega)))
  (try (have z3w22 : w2.heap.size + 1 + 1 < w3.heap.size := (by omega)))
  (try (have z3w23 : w2.heap.size + 1 + 1 + 1 < w3.heap.size := (by omega)))
  have hH3 := Held.step (w0 := w) (by repeat (first | assumption | refine Held.alloc ?_ _ | refine Held.drew ?_)) HB
  clear HB
  go_wp2_with (fail)
  go_at_call 93
  (with_reducible refine (grow_v err (rho + 1) o0 D _ (by omega) (by omega) (by omega) (by omega) (by omega) (by omega) HD.out (by omega)).mono ?_)
  rintro e w4 ⟨rfl, HB⟩
  obtain ⟨hc4, hf4⟩ := bcell HB
  obtain ⟨hd4, hh4⟩ := bcell2 (U := w3) (by repeat (first | exact Below.refl _ _ | refine Below.setCell ?_ (by simp <;> omega) _ | refine Below.alloc ?_ (by simp <;> omega) _ | refine Below.drew ?_)) HB
  have hz4 := HB.size
  try simp at hz4
  (try (have z4w0 : w.heap.size < w4.heap.size := (by omega)))
  (try (have z4w1 : w.heap.size + 1 < w4.heap.size := (by omega)))
  (try (have z4w2 : w.heap.size + 1 + 1 < w4.heap.size := (by omega)))
  (try (have z4w3 : w.heap.size + 1 + 1 + 1 < w4.heap.size := (by omega)))
  (try (have z4w10 : w1.heap.size < w4.heap.size := (by omega)))
  (try (have z4w11 : w1.heap.size + 1 < w4.heap.size := (by omega)))
  (try (have z4w12 : w1.heap.size + 1 + 1 < w4.heap.size := (by omega)))
  (try (have z4w13 : w1.heap.size + 1 + 1 + 1 < w4.heap.size := (by omega)))
  (try (have z4w20 : w2.heap.size < w4.heap.size := (by omega)))
  (try (have z4w21 : w2.heap.size + 1 < w4.heap.size := (by omega)))
  (try (have z4w22 : w2.heap.size + 1 + 1 < w4.heap.size := (by omega)))
  (try (have z4w23 : w2.heap.size + 1 + 1 + 1 < w4.heap.size := (by omega)))
  (try (have z4w30 : w3.heap.size < w4.heap.size := (by omega)))
  (try (have z4w31 : w3.heap.size + 1 < w4.heap.size := (by omega)))
  (try (have z4w32 : w3.heap.size + 1 + 1 < w4.heap.size := (by omega)))
  (try (have z4w33 : w3.heap.size + 1 + 1 + 1 < w4.heap.size := (by omega)))
  have hH4 := Held.step (w0 := w) (by repeat (first | assumption | refine Held.alloc ?_ _ | refine Held.drew ?_)) HB
  clear HB
  go_wp2_with (fail)
  go_at_call 95
  (with_reducible refine (hU _).mono ?_)
  rintro e w5 ⟨rfl, HB⟩
  obtain ⟨hc5, hf5⟩ := bcell HB
  obtain ⟨hd5, hh5⟩ := bcell2 (U := w4) (by repeat (first | exact Below.refl _ _ | refine Below.setCell ?_ (by simp <;> omega) _ | refine Below.alloc ?_ (by simp <;> omega) _ | refine Below.drew ?_)) HB
  have hz5 := HB.size
  try simp at hz5
  (try (have z5w0 : w.heap.size < w5.heap.size := (by omega)))
  (try (have z5w1 : w.heap.size + 1 < w5.heap.size := (by omega)))
  (try (have z5w2 : w.heap.size + 1 + 1 < w5.heap.size := (by omega)))
  (try (have z5w3 : w.heap.size + 1 + 1 + 1 < w5.heap.size := (by omega)))
  (try (have z5w10 : w1.heap.size < w5.heap.size := (by omega)))
  (try (have z5w11 : w1.heap.size + 1 < w5.heap.size := (by omega)))
  (try (have z5w12 : w1.heap.size + 1 + 1 < w5.heap.size := (by omega)))
  (try (have z5w13 : w1.heap.size + 1 + 1 + 1 < w5.heap.size := (by omega)))
  (try (have z5w20 : w2.heap.size < w5.heap.size := (by omega)))
  (try (have z5w21 : w2.heap.size + 1 < w5.heap.size := (by omega)))
  (try (have z5w22 : w2.heap.size + 1 + 1 < w5.heap.size := (by omega)))
  (try (have z5w23 : w2.heap.size + 1 + 1 + 1 < w5.heap.size := (by omega)))
  (try (have z5w30 : w3.heap.size < w5.heap.size := (by omega)))
  (try (have z5w31 : w3.heap.size + 1 < w5.heap.size := (by omega)))
  (try (have z5w32 : w3.heap.size + 1 + 1 < w5.heap.size := (by omega)))
  (try (have z5w33 : w3.heap.size + 1 + 1 + 1 < w5.heap.size := (by omega)))
  (try (have z5w40 : w4.heap.size < w5.heap.size := (by omega)))
  (try (have z5w41 : w4.heap.size + 1 < w5.heap.size := (by omega)))
  (try (have z5w42 : w4.heap.size + 1 + 1 < w5.heap.size := (by omega)))
  (try (have z5w43 : w4.heap.size + 1 + 1 + 1 < w5.heap.size := (by omega)))
  have hH5 := Held.step (w0 := w) (by repeat (first | assumption | refine Held.alloc ?_ _ | refine Held.drew ?_)) HB
  clear HB
  go_wp2_with (fail)
  go_at_call 93
  (with_reducible refine (hV _).mono ?_)
  rintro e w6 ⟨rfl, HB⟩
  obtain ⟨hc6, hf6⟩ := bcell HB
  obtain ⟨hd6, hh6⟩ := bcell2 (U := w5) (by repeat (first | exact Below.refl _ _ | refine Below.setCell ?_ (by simp <;> omega) _ | refine Below.alloc ?_ (by simp <;> omega) _ | refine Below.drew ?_)) HB
  have hz6 := HB.size
  try simp at hz6
  (try (have z6w0 : w.heap.size < w6.heap.size := (by omega)))
  (try (have z6w1 : w.heap.size + 1 < w6.heap.size := (by omega)))
  (try (have z6w2 : w.heap.size + 1 + 1 < w6.heap.size := (by omega)))
  (try (have z6w3 : w.heap.size + 1 + 1 + 1 < w6.heap.size := (by omega)))
  (try (have z6w10 : w1.heap.size < w6.heap.size := (by omega)))
  (try (have z6w11 : w1.heap.size + 1 < w6.heap.size := (by omega)))
  (try (have z6w12 : w1.heap.size + 1 + 1 < w6.heap.size := (by omega)))
  (try (have z6w13 : w1.heap.size + 1 + 1 + 1 < w6.heap.size := (by omega)))
  (try (have z6w20 : w2.heap.size < w6.heap.size := (by omega)))
  (try (have z6w21 : w2.heap.size + 1 < w6.heap.size := (by omega)))
  (try (have z6w22 : w2.heap.size + 1 + 1 < w6.heap.size := (by omega)))
  (try (have z6w23 : w2.heap.size + 1 + 1 + 1 < w6.heap.size := (by omega)))
  (try (have z6w30 : w3.heap.size < w6.heap.size := (by omega)))
  (try (have z6w31 : w3.heap.size + 1 < w6.heap.size := (by omega)))
  (try (have z6w32 : w3.heap.size + 1 + 1 < w6.heap.size := (by omega)))
  (try (have z6w33 : w3.heap.size + 1 + 1 + 1 < w6.heap.size := (by omega)))
  (try (have z6w40 : w4.heap.size < w6.heap.size := (by omega)))
  (try (have z6w41 : w4.heap.size + 1 < w6.heap.size := (by omega)))
  (try (have z6w42 : w4.heap.size + 1 + 1 < w6.heap.size := (by omega)))
  (try (have z6w43 : w4.heap.size + 1 + 1 + 1 < w6.heap.size := (by omega)))
  (try (have z6w50 : w5.heap.size < w6.heap.size := (by omega)))
  (try (have z6w51 : w5.heap.size + 1 < w6.heap.size := (by omega)))
  (try (have z6w52 : w5.heap.size + 1 + 1 < w6.heap.size := (by omega)))
  (try (have z6w53 : w5.heap.size + 1 + 1 + 1 < w6.heap.size := (by omega)))
  have hH6 := Held.step (w0 := w) (by repeat (first | assumption | refine Held.alloc ?_ _ | refine Held.drew ?_)) HB
  clear HB
  go_wp2_with (first | (go_at_call 99; (with_reducible refine (sure17 _ (Held.handle (w0 := w) (by repeat (first | assumption | refine Held.alloc ?_ _ | refine Held.drew ?_)))).mono ?_); rintro e w' ⟨rfl, hb'⟩; obtain ⟨hc, hf⟩ := bcell hb'; have hz := hb'.size; (try (simp at hz)); have hH' := Held.step (w0 := w) (by repeat (first | assumption | refine Held.alloc ?_ _ | refine Held.drew ?_)) hb'; clear hb'))
  go_ret
  exact ⟨rfl, Held.below (w0 := w) (by assumption)⟩
set_option maxRecDepth 100000 in
set_option maxHeartbeats 16000000 in
theorem parts_in (err rho o0 o1 o2 : Int) (w : World) (h0 : 0 ≤ err) (h1 : err ≤ 1099511627776) (r0 : 0 ≤ rho) (r1 : rho ≤ 1048576) (p0 : 0 ≤ o0) (p1 : o0 ≤ 1152921504606846976) (q0 : 0 ≤ o1) (q1 : o1 ≤ 1152921504606846976) (hm1 : err ≤ o2) (hm2 : o2 ≤ 9223372036854775807) (N V : Int) (hU : ∀ w : World, Calls Tryd.prog 95 #[.int .i64 err, .int .i64 rho, .int .i64 o2] w fun e w' => e = .returned (.tuple #[.int .i64 N, .nilIface]) ∧ Below w.heap.size w w') (hV : ∀ w : World, Calls Tryd.prog 93 #[.int .i64 err, .int .i64 rho, .int .i64 N] w fun e w' => e = .returned (.tuple #[.int .i64 V, .nilIface]) ∧ Below w.heap.size w w') (hV2 : V ≤ o2) (Y : Int) (hN0 : 0 ≤ N) (hN1 : N < 9223372036854775807) (hY : ∀ w : World, Calls Tryd.prog 93 #[.int .i64 err, .int .i64 rho, .int .i64 (N + 1)] w fun e w' => e = .returned (.tuple #[.int .i64 Y, .nilIface]) ∧ Below w.heap.size w w') (hY2 : o2 < Y) (hg : w.cell? ⟨0, 0, none⟩ = some asHandle) :
    Calls Tryd.prog 18 #[.int .i64 err, .int .i64 rho, .agg #[.int .i64 o0, .int .i64 o1, .int .i64 o2]] w fun e w' => e = .returned (.bool true) ∧ Below w.heap.size w w' := by
  have hH := Held.start hg
  obtain ⟨A, B, C, D, hA, hB, hC, hD, f1, f2, f3, f4, f5, f6, f7, f8, f9⟩ := parts_nums h0 h1 r0 r1 p0 p1 q0 q1
  have HA := Lib.hid hA
  have HBB := Lib.hid hB
  have HC := Lib.hid hC
  have HD := Lib.hid hD
  clear hA hB hC hD
  have s1 : wrap64 (o0 + o1) = o0 + o1 := IntWalk.wrap64_in _ (by omega)
  have s2 : wrap64 (rho + 1) = rho + 1 := IntWalk.wrap64_in _ (by omega)
  have s3 : wrap64 (B - C) = B - C := IntWalk.wrap64_in _ (by omega)
  have hNm : (N == 9223372036854775807) = false := by rw [beq_eq_false_iff_ne]; omega
  have s4 : wrap64 (N + 1) = N + 1 := IntWalk.wrap64_in _ (by omega)
  go_enter Tryd.func18, Tryd.ntmps18
  go_wp2_with (fail)
  go_at_call 93
  (with_reducible refine (grow_v err rho o0 A _ (by omega) (by omega) (by omega) (by omega) (by omega) (by omega) HA.out (by omega)).mono ?_)
  rintro e w1 ⟨rfl, HB⟩
  obtain ⟨hc1, hf1⟩ := bcell HB
  obtain ⟨hd1, hh1⟩ := bcell2 (U := w) (by repeat (first | exact Below.refl _ _ | refine Below.setCell ?_ (by simp <;> omega) _ | refine Below.alloc ?_ (by simp <;> omega) _ | refine Below.drew ?_)) HB
  have hz1 := HB.size
  try simp at hz1
  (try (have z1w0 : w.heap.size < w1.heap.size := (by omega)))
  (try (have z1w1 : w.heap.size + 1 < w1.heap.size := (by omega)))
  (try (have z1w2 : w.heap.size + 1 + 1 < w1.heap.size := (by omega)))
  (try (have z1w3 : w.heap.size + 1 + 1 + 1 < w1.heap.size := (by omega)))
  have hH1 := Held.step (w0 := w) (by repeat (first | assumption | refine Held.alloc ?_ _ | refine Held.drew ?_)) HB
  clear HB
  go_wp2_with (fail)
  go_at_call 93
  (with_reducible refine (grow_v A rho o1 B _ (by omega) (by omega) (by omega) (by omega) (by omega) (by omega) HBB.out (by omega)).mono ?_)
  rintro e w2 ⟨rfl, HB⟩
  obtain ⟨hc2, hf2⟩ := bcell HB
  obtain ⟨hd2, hh2⟩ := bcell2 (U := w1) (by repeat (first | exact Below.refl _ _ | refine Below.setCell ?_ (by simp <;> omega) _ | refine Below.alloc ?_ (by simp <;> omega) _ | refine Below.drew ?_)) HB
  have hz2 := HB.size
  try simp at hz2
  (try (have z2w0 : w.heap.size < w2.heap.size := (by omega)))
  (try (have z2w1 : w.heap.size + 1 < w2.heap.size := (by omega)))
  (try (have z2w2 : w.heap.size + 1 + 1 < w2.heap.size := (by omega)))
  (try (have z2w3 : w.heap.size + 1 + 1 + 1 < w2.heap.size := (by omega)))
  (try (have z2w10 : w1.heap.size < w2.heap.size := (by omega)))
  (try (have z2w11 : w1.heap.size + 1 < w2.heap.size := (by omega)))
  (try (have z2w12 : w1.heap.size + 1 + 1 < w2.heap.size := (by omega)))
  (try (have z2w13 : w1.heap.size + 1 + 1 + 1 < w2.heap.size := (by omega)))
  have hH2 := Held.step (w0 := w) (by repeat (first | assumption | refine Held.alloc ?_ _ | refine Held.drew ?_)) HB
  clear HB
  go_wp2_with (fail)
  go_at_call 93
  (with_reducible refine (grow_v err rho (o0 + o1) C _ (by omega) (by omega) (by omega) (by omega) (by omega) (by omega) HC.out (by omega)).mono ?_)
  rintro e w3 ⟨rfl, HB⟩
  obtain ⟨hc3, hf3⟩ := bcell HB
  obtain ⟨hd3, hh3⟩ := bcell2 (U := w2) (by repeat (first | exact Below.refl _ _ | refine Below.setCell ?_ (by simp <;> omega) _ | refine Below.alloc ?_ (by simp <;> omega) _ | refine Below.drew ?_)) HB
  have hz3 := HB.size
  try simp at hz3
  (try (have z3w0 : w.heap.size < w3.heap.size := (by omega)))
  (try (have z3w1 : w.heap.size + 1 < w3.heap.size := (by omega)))
  (try (have z3w2 : w.heap.size + 1 + 1 < w3.heap.size := (by omega)))
  (try (have z3w3 : w.heap.size + 1 + 1 + 1 < w3.heap.size := (by omega)))
  (try (have z3w10 : w1.heap.size < w3.heap.size := (by omega)))
  (try (have z3w11 : w1.heap.size + 1 < w3.heap.size := (by omega)))
  (try (have z3w12 : w1.heap.size + 1 + 1 < w3.heap.size := (by omega)))
  (try (have z3w13 : w1.heap.size + 1 + 1 + 1 < w3.heap.size := (by omega)))
  (try (have z3w20 : w2.heap.size < w3.heap.size := (by omega)))
  (try (have z3w21 : w2.heap.size + 1 < w3.heap.size := (by omega)))
  (try (have z3w22 : w2.heap.size + 1 + 1 < w3.heap.size := (by omega)))
  (try (have z3w23 : w2.heap.size + 1 + 1 + 1 < w3.heap.size := (by omega)))
  have hH3 := Held.step (w0 := w) (by repeat (first | assumption | refine Held.alloc ?_ _ | refine Held.drew ?_)) HB
  clear HB
  go_wp2_with (fail)
  go_at_call 93
  (with_reducible refine (grow_v err (rho + 1) o0 D _ (by omega) (by omega) (by omega) (by omega) (by omega) (by omega) HD.out (by omega)).mono ?_)
  rintro e w4 ⟨rfl, HB⟩
  obtain ⟨hc4, hf4⟩ := bcell HB
  obtain ⟨hd4, hh4⟩ := bcell2 (U := w3) (by repeat (first | exact Below.refl _ _ | refine Below.setCell ?_ (by simp <;> omega) _ | refine Below.alloc ?_ (by simp <;> omega) _ | refine Below.drew ?_)) HB
  have hz4 := HB.size
  try simp at hz4
  (try (have z4w0 : w.heap.size < w4.heap.size := (by omega)))
  (try (have z4w1 : w.heap.size + 1 < w4.heap.size := (by omega)))
  (try (have z4w2 : w.heap.size + 1 + 1 < w4.heap.size := (by omega)))
  (try (have z4w3 : w.heap.size + 1 + 1 + 1 < w4.heap.size := (by omega)))
  (try (have z4w10 : w1.heap.size < w4.heap.size := (by omega)))
  (try (have z4w11 : w1.heap.size + 1 < w4.heap.size := (by omega)))
  (try (have z4w12 : w1.heap.size + 1 + 1 < w4.heap.size := (by omega)))
  (try (have z4w13 : w1.heap.size + 1 + 1 + 1 < w4.heap.size := (by omega)))
  (try (have z4w20 : w2.heap.size < w4.heap.size := (by omega)))
  (try (have z4w21 : w2.heap.size + 1 < w4.heap.size := (by omega)))
  (try (have z4w22 : w2.heap.size + 1 + 1 < w4.heap.size := (by omega)))
  (try (have z4w23 : w2.heap.size + 1 + 1 + 1 < w4.heap.size := (by omega)))
  (try (have z4w30 : w3.heap.size < w4.heap.size := (by omega)))
  (try (have z4w31 : w3.heap.size + 1 < w4.heap.size := (by omega)))
  (try (have z4w32 : w3.heap.size + 1 + 1 < w4.heap.size := (by omega)))
  (try (have z4w33 : w3.heap.size + 1 + 1 + 1 < w4.heap.size := (by omega)))
  have hH4 := Held.step (w0 := w) (by repeat (first | assumption | refine Held.alloc ?_ _ | refine Held.drew ?_)) HB
  clear HB
  go_wp2_with (fail)
  go_at_call 95
  (with_reducible refine (hU _).mono ?_)
  rintro e w5 ⟨rfl, HB⟩
  obtain ⟨hc5, hf5⟩ := bcell HB
  obtain ⟨hd5, hh5⟩ := bcell2 (U := w4) (by repeat (first | exact Below.refl _ _ | refine Below.setCell ?_ (by simp <;> omega) _ | refine Below.alloc ?_ (by simp <;> omega) _ | refine Below.drew ?_)) HB
  have hz5 := HB.size
  try simp at hz5
  (try (have z5w0 : w.heap.size < w5.heap.size := (by omega)))
  (try (have z5w1 : w.heap.size + 1 < w5.heap.size := (by omega)))
  (try (have z5w2 : w.heap.size + 1 + 1 < w5.heap.size := (by omega)))
  (try (have z5w3 : w.heap.size + 1 + 1 + 1 < w5.heap.size := (by omega)))
  (try (have z5w10 : w1.heap.size < w5.heap.size := (by omega)))
  (try (have z5w11 : w1.heap.size + 1 < w5.heap.size := (by omega)))
  (try (have z5w12 : w1.heap.size + 1 + 1 < w5.heap.size := (by omega)))
  (try (have z5w13 : w1.heap.size + 1 + 1 + 1 < w5.heap.size := (by omega)))
  (try (have z5w20 : w2.heap.size < w5.heap.size := (by omega)))
  (try (have z5w21 : w2.heap.size + 1 < w5.heap.size := (by omega)))
  (try (have z5w22 : w2.heap.size + 1 + 1 < w5.heap.size := (by omega)))
  (try (have z5w23 : w2.heap.size + 1 + 1 + 1 < w5.heap.size := (by omega)))
  (try (have z5w30 : w3.heap.size < w5.heap.size := (by omega)))
  (try (have z5w31 : w3.heap.size + 1 < w5.heap.size := (by omega)))
  (try (have z5w32 : w3.heap.size + 1 + 1 < w5.heap.size := (by omega)))
  (try (have z5w33 : w3.heap.size + 1 + 1 + 1 < w5.heap.size := (by omega)))
  (try (have z5w40 : w4.heap.size < w5.heap.size := (by omega)))
  (try (have z5w41 : w4.heap.size + 1 < w5.heap.size := (by omega)))
  (try (have z5w42 : w4.heap.size + 1 + 1 < w5.heap.size := (by omega)))
  (try (have z5w43 : w4.heap.size + 1 + 1 + 1 < w5.heap.size := (by omega)))
  have hH5 := Held.step (w0 := w) (by repeat (first | assumption | refine Held.alloc ?_ _ | refine Held.drew ?_)) HB
  clear HB
  go_wp2_with (fail)
  go_at_call 93
  (with_reducible refine (hV _).mono ?_)
  rintro e w6 ⟨rfl, HB⟩
  obtain ⟨hc6, hf6⟩ := bcell HB
  obtain ⟨hd6, hh6⟩ := bcell2 (U := w5) (by repeat (first | exact Below.refl _ _ | refine Below.setCell ?_ (by simp <;> omega) _ | refine Below.alloc ?_ (by simp <;> omega) _ | refine Below.drew ?_)) HB
  have hz6 := HB.size
  try simp at hz6
  (try (have z6w0 : w.heap.size < w6.heap.size := (by omega)))
  (try (have z6w1 : w.heap.size + 1 < w6.heap.size := (by omega)))
  (try (have z6w2 : w.heap.size + 1 + 1 < w6.heap.size := (by omega)))
  (try (have z6w3 : w.heap.size + 1 + 1 + 1 < w6.heap.size := (by omega)))
  (try (have z6w10 : w1.heap.size < w6.heap.size := (by omega)))
  (try (have z6w11 : w1.heap.size + 1 < w6.heap.size := (by omega)))
  (try (have z6w12 : w1.heap.size + 1 + 1 < w6.heap.size := (by omega)))
  (try (have z6w13 : w1.heap.size + 1 + 1 + 1 < w6.heap.size := (by omega)))
  (try (have z6w20 : w2.heap.size < w6.heap.size := (by omega)))
  (try (have z6w21 : w2.heap.size + 1 < w6.heap.size := (by omega)))
  (try (have z6w22 : w2.heap.size + 1 + 1 < w6.heap.size := (by omega)))
  (try (have z6w23 : w2.heap.size + 1 + 1 + 1 < w6.heap.size := (by omega)))
  (try (have z6w30 : w3.heap.size < w6.heap.size := (by omega)))
  (try (have z6w31 : w3.heap.size + 1 < w6.heap.size := (by omega)))
  (try (have z6w32 : w3.heap.size + 1 + 1 < w6.heap.size := (by omega)))
  (try (have z6w33 : w3.heap.size + 1 + 1 + 1 < w6.heap.size := (by omega)))
  (try (have z6w40 : w4.heap.size < w6.heap.size := (by omega)))
  (try (have z6w41 : w4.heap.size + 1 < w6.heap.size := (by omega)))
  (try (have z6w42 : w4.heap.size + 1 + 1 < w6.heap.size := (by omega)))
  (try (have z6w43 : w4.heap.size + 1 + 1 + 1 < w6.heap.size := (by omega)))
  (try (have z6w50 : w5.heap.size < w6.heap.size := (by omega)))
  (try (have z6w51 : w5.heap.size + 1 < w6.heap.size := (by omega)))
  (try (have z6w52 : w5.heap.size + 1 + 1 < w6.heap.size := (by omega)))
  (try (have z6w53 : w5.heap.size + 1 + 1 + 1 < w6.heap.size := (by omega)))
  have hH6 := Held.step (w0 := w) (by repeat (first | assumption | refine Held.alloc ?_ _ | refine Held.drew ?_)) HB
  clear HB
  go_wp2_with (fail)
  go_at_call 93
  (with_reducible refine (hY _).mono ?_)
  rintro e w7 ⟨rfl, HB⟩
  obtain ⟨hc7, hf7⟩ := bcell HB
  obtain ⟨hd7, hh7⟩ := bcell2 (U := w6) (by repeat (first | exact Below.refl _ _ | refine Below.setCell ?_ (by simp <;> omega) _ | refine Below.alloc ?_ (by simp <;> omega) _ | refine Below.drew ?_)) HB
  have hz7 := HB.size
  try simp at hz7
  (try (have z7w0 : w.heap.size < w7.heap.size := (by omega)))
  (try (have z7w1 : w.heap.size + 1 < w7.heap.size := (by omega)))
  (try (have z7w2 : w.heap.size + 1 + 1 < w7.heap.size := (by omega)))
  (try (have z7w3 : w.heap.size + 1 + 1 + 1 < w7.heap.size := (by omega)))
  (try (have z7w10 : w1.heap.size < w7.heap.size := (by omega)))
  (try (have z7w11 : w1.heap.size + 1 < w7.heap.size := (by omega)))
  (try (have z7w12 : w1.heap.size + 1 + 1 < w7.heap.size := (by omega)))
  (try (have z7w13 : w1.heap.size + 1 + 1 + 1 < w7.heap.size := (by omega)))
  (try (have z7w20 : w2.heap.size < w7.heap.size := (by omega)))
  (try (have z7w21 : w2.heap.size + 1 < w7.heap.size := (by omega)))
  (try (have z7w22 : w2.heap.size + 1 + 1 < w7.heap.size := (by omega)))
  (try (have z7w23 : w2.heap.size + 1 + 1 + 1 < w7.heap.size := (by omega)))
  (try (have z7w30 : w3.heap.size < w7.heap.size := (by omega)))
  (try (have z7w31 : w3.heap.size + 1 < w7.heap.size := (by omega)))
  (try (have z7w32 : w3.heap.size + 1 + 1 < w7.heap.size := (by omega)))
  (try (have z7w33 : w3.heap.size + 1 + 1 + 1 < w7.heap.size := (by omega)))
  (try (have z7w40 : w4.heap.size < w7.heap.size := (by omega)))
  (try (have z7w41 : w4.heap.size + 1 < w7.heap.size := (by omega)))
  (try (have z7w42 : w4.heap.size + 1 + 1 < w7.heap.size := (by omega)))
  (try (have z7w43 : w4.heap.size + 1 + 1 + 1 < w7.heap.size := (by omega)))
  (try (have z7w50 : w5.heap.size < w7.heap.size := (by omega)))
  (try (have z7w51 : w5.heap.size + 1 < w7.heap.size := (by omega)))
  (try (have z7w52 : w5.heap.size + 1 + 1 < w7.heap.size := (by omega)))
  (try (have z7w53 : w5.heap.size + 1 + 1 + 1 < w7.heap.size := (by omega)))
  (try (have z7w60 : w6.heap.size < w7.heap.size := (by omega)))
  (try (have z7w61 : w6.heap.size + 1 < w7.heap.size := (by omega)))
  (try (have z7w62 : w6.heap.size + 1 + 1 < w7.heap.size := (by omega)))
  (try (have z7w63 : w6.heap.size + 1 + 1 + 1 < w7.heap.size := (by omega)))
  have hH7 := Held.step (w0 := w) (by repeat (first | assumption | refine Held.alloc ?_ _ | refine Held.drew ?_)) HB
  clear HB
  go_wp2_with (first | (go_at_call 99; (with_reducible refine (sure17 _ (Held.handle (w0 := w) (by repeat (first | assumption | refine Held.alloc ?_ _ | refine Held.drew ?_)))).mono ?_); rintro e w' ⟨rfl, hb'⟩; obtain ⟨hc, hf⟩ := bcell hb'; have hz := hb'.size; (try (simp at hz)); have hH' := Held.step (w0 := w) (by repeat (first | assumption | refine Held.alloc ?_ _ | refine Held.drew ?_)) hb'; clear hb'))
  go_ret
  exact ⟨rfl, Held.below (w0 := w) (by assumption)⟩
theorem walkDriftParts (err rho o0 o1 o2 : Int) (he : InR err) (hr : InR rho) (hi0 : InR o0) (hi1 : InR o1) (hi2 : InR o2) (w : World) (hg : w.cell? ⟨0, 0, none⟩ = some asHandle) :
    Calls Tryd.prog 18 #[.int .i64 err, .int .i64 rho, .agg #[.int .i64 o0, .int .i64 o1, .int .i64 o2]] w fun e w' => e = .returned (.bool true) ∧ Below w.heap.size w w' := by
  by_cases hin : 0 ≤ err ∧ err ≤ 1099511627776 ∧ 0 ≤ rho ∧ rho ≤ 1048576 ∧ 0 ≤ o0 ∧ o0 ≤ 1152921504606846976 ∧ 0 ≤ o1 ∧ o1 ≤ 1152921504606846976
  · obtain ⟨h0, h1, r0, r1, p0, p1, q0, q1⟩ := hin
    by_cases g0 : 0 ≤ o2
    · by_cases g1 : err ≤ o2
      · by_cases hz : rho = 0 ∨ o2 = 9223372036854775807
        · refine parts_max err rho o0 o1 o2 w h0 h1 r0 r1 p0 p1 q0 q1 g1 hi2.2 (sat (err + upK (9223372036854775807 * rho))) (fun w => until_all err rho o2 w h0 r0 (by omega) g0 g1 hz) (fun w => grow_f err rho 9223372036854775807 w h0 (by omega) r0 (by omega) (by omega) (by omega)) ?_ hg
          rcases hz with rfl | rfl
          · simp [upK]; rw [sat_in (by omega)]; exact g1
          · exact (sat_rng _).2
        · obtain ⟨n1, n2, n3, n4⟩ := until_nums (err := err) (rho := rho) (o2 := o2) h0 (by omega) g1
          by_cases hq : InR ((o2 - err) * 1073741824 / rho)
          · have hV2 : sat (err + upK ((o2 - err) * 1073741824 / rho * rho)) ≤ o2 := sat_le n2 (by have := mul_rho n1 hq.2 r0 (by omega : rho ≤ 2097152); unfold upK; generalize (o2 - err) * 1073741824 / rho * rho = X at *; omega) hi2.2
            have hU := fun w => until_in err rho o2 w h0 (by omega) (by omega) g0 g1 (by omega) hq
            have hV := fun w => grow_f err rho ((o2 - err) * 1073741824 / rho) w h0 (by omega) r0 (by omega) n1 hq.2
            by_cases hN : (o2 - err) * 1073741824 / rho = 9223372036854775807
            · rw [hN] at hU hV hV2
              exact parts_max err rho o0 o1 o2 w h0 h1 r0 r1 p0 p1 q0 q1 g1 hi2.2 _ hU hV hV2 hg
            · exact parts_in err rho o0 o1 o2 w h0 h1 r0 r1 p0 p1 q0 q1 g1 hi2.2 _ _ hU hV hV2 _ n1 (by omega) (fun w => grow_f err rho ((o2 - err) * 1073741824 / rho + 1) w h0 (by omega) r0 (by omega) (by omega) (by omega)) (sat_gt n3 (by omega) (by omega)) hg
          · refine parts_max err rho o0 o1 o2 w h0 h1 r0 r1 p0 p1 q0 q1 g1 hi2.2 (sat (err + upK (9223372036854775807 * rho))) (fun w => until_big err rho o2 w h0 (by omega) (by omega) g0 g1 (by omega) hq) (fun w => grow_f err rho 9223372036854775807 w h0 (by omega) r0 (by omega) (by omega) (by omega)) ?_ hg
            exact sat_le (n4 hq) (by unfold upK; omega) hi2.2
      · exact parts_past err rho o0 o1 o2 w h0 h1 r0 r1 p0 p1 q0 q1 g0 (by omega) hg
    · exact parts_arg err rho o0 o1 o2 w h0 h1 r0 r1 p0 p1 q0 q1 (by omega) hg
  · exact parts_out err rho o0 o1 o2 w hin hg
end Go.Proofs.YtffdglhdklmjoaaDoor
