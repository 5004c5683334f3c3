/-
  Layer 3: the statements RatioNear and RatioAdjusts.
-/
import Derived.Test.YtffdglhdklmjoaaDoorW03b
import Derived.StillTailTactics
import Derived.Test.YtffdglhdklmjoaaDoorOrd
namespace Go.Proofs.YtffdglhdklmjoaaDoor
open Go.RowKit Go.Extern.Stop Go.Stop Go.Extern
set_option linter.unusedVariables false
set_option linter.unusedSimpArgs false
theorem fit_c1 (w : World) : Calls Tryd.prog 43 #[.int .u64 1, .int .u64 3] w fun e w' => e = .returned (.tuple #[.agg #[.int .u32 715827882, .int .i64 31], .nilIface]) ∧ Below w.heap.size w w' := by
  have h := fit_at 1 3 w (by omega) (by omega) (by omega) (by omega) 31 (by omega) (fun T h1 h2 => by omega) (by decide) (by decide)
  rw [show (1 : Int) * 2 ^ 31 / 3 = 715827882 from rfl] at h
  exact h
theorem fit_c2 (w : World) : Calls Tryd.prog 43 #[.int .u64 3, .int .u64 1] w fun e w' => e = .returned (.tuple #[.agg #[.int .u32 3221225472, .int .i64 30], .nilIface]) ∧ Below w.heap.size w w' := by
  have hb : ∀ T : Nat, 30 < T → T ≤ 31 → 4294967295 < (3 : Int) * 2 ^ T / 1 := by
    intro T h1 h2
    obtain rfl : T = 31 := by omega
    decide
  have h := fit_at 3 1 w (by omega) (by omega) (by omega) (by omega) 30 (by omega) hb (by decide) (by decide)
  rw [show (3 : Int) * 2 ^ 30 / 1 = 3221225472 from rfl] at h
  exact h
theorem rscale_c (w : World) : Calls Tryd.prog 45 #[.agg #[.int .u32 3221225472, .int .i64 30], .int .i64 1000] w fun e w' => e = .returned (.tuple #[.int .i64 3000, .nilIface]) ∧ Below w.heap.size w w' := rscale 3221225472 30 1000 w (by omega) (by omega) (by omega) (by omega) (by omega) (by decide)
set_option maxRecDepth 100000 in
set_option maxHeartbeats 8000000 in
theorem sure03 (w : World) (hg : w.cell? ⟨0, 0, none⟩ = some asHandle) : Calls Tryd.prog 54 #[] w fun e w' => e = .returned (.bool true) ∧ Below w.heap.size w w' := by
  have hH := Held.start hg
  go_enter Tryd.func54, Tryd.ntmps54
  go_wp2_with (fail)
  go_at_call 43
  (with_reducible refine (fit_c1 _).mono ?_)
  rintro e w1 ⟨rfl, HB⟩
  obtain ⟨hc1, hf1⟩ := bcell HB
  obtain ⟨hd1, hh1⟩ := bcell2 (U := w) (by repeat (first | exact Below.refl _ _ | refine Below.setCell ?_ (by simp <;> omega) _ | refine Below.alloc ?_ (by simp <;> omega) _ | refine Below.drew ?_)) HB
  have hz1 := HB.size
  try simp at hz1
  (try (have z1w0 : w.heap.size < w1.heap.size := (by omega)))
  (try (have z1w1 : w.heap.size + 1 < w1.heap.size := (by omega)))
  (try (have z1w2 : w.heap.size + 1 + 1 < w1.heap.size := (by omega)))
  (try (have z1w3 : w.heap.size + 1 + 1 + 1 < w1.heap.size := (by omega)))
  have hH1 := Held.step (w0 := w) (by repeat (first | assumption | refine Held.alloc ?_ _ | refine Held.drew ?_)) HB
  clear HB
  go_wp2_with (fail)
  go_at_call 43
  (with_reducible refine (fit_c2 _).mono ?_)
  rintro e w2 ⟨rfl, HB⟩
  obtain ⟨hc2, hf2⟩ := bcell HB
  obtain ⟨hd2, hh2⟩ := bcell2 (U := w1) (by repeat (first | exact Below.refl _ _ | refine Below.setCell ?_ (by simp <;> omega) _ | refine Below.alloc ?_ (by simp <;> omega) _ | refine Below.drew ?_)) HB
  have hz2 := HB.size
  try simp at hz2
  (try (have z2w0 : w.heap.size < w2.heap.size := (by omega)))
  (try (have z2w1 : w.heap.size + 1 < w2.heap.size := (by omega)))
  (try (have z2w2 : w.heap.size + 1 + 1 < w2.heap.size := (by omega)))
  (try (have z2w3 : w.heap.size + 1 + 1 + 1 < w2.heap.size := (by omega)))
  (try (have z2w10 : w1.heap.size < w2.heap.size := (by omega)))
  (try (have z2w11 : w1.heap.size + 1 < w2.heap.size := (by omega)))
  (try (have z2w12 : w1.heap.size + 1 + 1 < w2.heap.size := (by omega)))
  (try (have z2w13 : w1.heap.size + 1 + 1 + 1 < w2.heap.size := (by omega)))
  have hH2 := Held.step (w0 := w) (by repeat (first | assumption | refine Held.alloc ?_ _ | refine Held.drew ?_)) HB
  clear HB
  go_wp2_with (fail)
  go_at_call 45
  (with_reducible refine (rscale_c _).mono ?_)
  rintro e w3 ⟨rfl, HB⟩
  obtain ⟨hc3, hf3⟩ := bcell HB
  obtain ⟨hd3, hh3⟩ := bcell2 (U := w2) (by repeat (first | exact Below.refl _ _ | refine Below.setCell ?_ (by simp <;> omega) _ | refine Below.alloc ?_ (by simp <;> omega) _ | refine Below.drew ?_)) HB
  have hz3 := HB.size
  try simp at hz3
  (try (have z3w0 : w.heap.size < w3.heap.size := (by omega)))
  (try (have z3w1 : w.heap.size + 1 < w3.heap.size := (by omega)))
  (try (have z3w2 : w.heap.size + 1 + 1 < w3.heap.size := (by omega)))
  (try (have z3w3 : w.heap.size + 1 + 1 + 1 < w3.heap.size := (by omega)))
  (try (have z3w10 : w1.heap.size < w3.heap.size := (by omega)))
  (try (have z3w11 : w1.heap.size + 1 < w3.heap.size := (by omega)))
  (try (have z3w12 : w1.heap.size + 1 + 1 < w3.heap.size := (by omega)))
  (try (have z3w13 : w1.heap.size + 1 + 1 + 1 < w3.heap.size := (by omega)))
  (try (have z3w20 : w2.heap.size < w3.heap.size := (by omega)))
  (try (have z3w21 : w2.heap.size + 1 < w3.heap.size := (by omega)))
  (try (have z3w22 : w2.heap.size + 1 + 1 < w3.heap.size := (by omega)))
  (try (have z3w23 : w2.heap.size + 1 + 1 + 1 < w3.heap.size := (by omega)))
  have hH3 := Held.step (w0 := w) (by repeat (first | assumption | refine Held.alloc ?_ _ | refine Held.drew ?_)) HB
  clear HB
  go_wp2_with (fail)
  go_at_call 43
  (with_reducible refine (fit_arg 0 3 _ (by omega) (by omega) (Or.inl rfl)).mono ?_)
  rintro e w4 ⟨rfl, HB⟩
  obtain ⟨hc4, hf4⟩ := bcell HB
  obtain ⟨hd4, hh4⟩ := bcell2 (U := w3) (by repeat (first | exact Below.refl _ _ | refine Below.setCell ?_ (by simp <;> omega) _ | refine Below.alloc ?_ (by simp <;> omega) _ | refine Below.drew ?_)) HB
  have hz4 := HB.size
  try simp at hz4
  (try (have z4w0 : w.heap.size < w4.heap.size := (by omega)))
  (try (have z4w1 : w.heap.size + 1 < w4.heap.size := (by omega)))
  (try (have z4w2 : w.heap.size + 1 + 1 < w4.heap.size := (by omega)))
  (try (have z4w3 : w.heap.size + 1 + 1 + 1 < w4.heap.size := (by omega)))
  (try (have z4w10 : w1.heap.size < w4.heap.size := (by omega)))
  (try (have z4w11 : w1.heap.size + 1 < w4.heap.size := (by omega)))
  (try (have z4w12 : w1.heap.size + 1 + 1 < w4.heap.size := (by omega)))
  (try (have z4w13 : w1.heap.size + 1 + 1 + 1 < w4.heap.size := (by omega)))
  (try (have z4w20 : w2.heap.size < w4.heap.size := (by omega)))
  (try (have z4w21 : w2.heap.size + 1 < w4.heap.size := (by omega)))
  (try (have z4w22 : w2.heap.size + 1 + 1 < w4.heap.size := (by omega)))
  (try (have z4w23 : w2.heap.size + 1 + 1 + 1 < w4.heap.size := (by omega)))
  (try (have z4w30 : w3.heap.size < w4.heap.size := (by omega)))
  (try (have z4w31 : w3.heap.size + 1 < w4.heap.size := (by omega)))
  (try (have z4w32 : w3.heap.size + 1 + 1 < w4.heap.size := (by omega)))
  (try (have z4w33 : w3.heap.size + 1 + 1 + 1 < w4.heap.size := (by omega)))
  have hH4 := Held.step (w0 := w) (by repeat (first | assumption | refine Held.alloc ?_ _ | refine Held.drew ?_)) HB
  clear HB
  go_wp2_with (first | (go_at_call 51; (with_reducible refine (num03_nil _).mono ?_); rintro e w' ⟨rfl, hb'⟩; obtain ⟨hc, hf⟩ := bcell hb'; have hz := hb'.size; (try (simp at hz)); have hH' := Held.step (w0 := w) (by repeat (first | assumption | refine Held.alloc ?_ _ | refine Held.drew ?_)) hb'; clear hb') | (go_at_call 51; (with_reducible refine (num03_err _ _ (Held.handle (w0 := w) (by repeat (first | assumption | refine Held.alloc ?_ _ | refine Held.drew ?_)))).mono ?_); rintro e w' ⟨rfl, hb'⟩; obtain ⟨hc, hf⟩ := bcell hb'; have hz := hb'.size; (try (simp at hz)); have hH' := Held.step (w0 := w) (by repeat (first | assumption | refine Held.alloc ?_ _ | refine Held.drew ?_)) hb'; clear hb'))
  go_ret
  exact ⟨rfl, Held.below (w0 := w) (by assumption)⟩
set_option maxRecDepth 100000 in
set_option maxHeartbeats 16000000 in
theorem near_fail (a b n0 n1 : Int) (w : World) (k : Int) (hF : ∀ w : World, Calls Tryd.prog 43 #[.int .u64 a, .int .u64 b] w fun e w' => e = .returned (.tuple #[.agg #[.int .u32 0, .int .i64 0], errV k]) ∧ Below w.heap.size w w') (hg : w.cell? ⟨0, 0, none⟩ = some asHandle) :
    Calls Tryd.prog 8 #[.int .u64 a, .int .u64 b, .agg #[.int .i64 n0, .int .i64 n1]] w fun e w' => e = .returned (.bool true) ∧ Below w.heap.size w w' := by
  have hH := Held.start hg
  go_enter Tryd.func8, Tryd.ntmps8
  go_wp2_with (fail)
  go_at_call 43
  (with_reducible refine (hF _).mono ?_)
  rintro e w1 ⟨rfl, HB⟩
  obtain ⟨hc1, hf1⟩ := bcell HB
  obtain ⟨hd1, hh1⟩ := bcell2 (U := w) (by repeat (first | exact Below.refl _ _ | refine Below.setCell ?_ (by simp <;> omega) _ | refine Below.alloc ?_ (by simp <;> omega) _ | refine Below.drew ?_)) HB
  have hz1 := HB.size
  try simp at hz1
  (try (have z1w0 : w.heap.size < w1.heap.size := (by omega)))
  (try (have z1w1 : w.heap.size + 1 < w1.heap.size := (by omega)))
  (try (have z1w2 : w.heap.size + 1 + 1 < w1.heap.size := (by omega)))
  (try (have z1w3 : w.heap.size + 1 + 1 + 1 < w1.heap.size := (by omega)))
  have hH1 := Held.step (w0 := w) (by repeat (first | assumption | refine Held.alloc ?_ _ | refine Held.drew ?_)) HB
  clear HB
  go_wp2_with (first | (go_at_call 54; (with_reducible refine (sure03 _ (Held.handle (w0 := w) (by repeat (first | assumption | refine Held.alloc ?_ _ | refine Held.drew ?_)))).mono ?_); rintro e w' ⟨rfl, hb'⟩; obtain ⟨hc, hf⟩ := bcell hb'; have hz := hb'.size; (try (simp at hz)); have hH' := Held.step (w0 := w) (by repeat (first | assumption | refine Held.alloc ?_ _ | refine Held.drew ?_)) hb'; clear hb'))
  all_goals go_ret
  all_goals exact ⟨rfl, Held.below (w0 := w) (by assumption)⟩
set_option maxRecDepth 100000 in
set_option maxHeartbeats 16000000 in
theorem near_out (a b n0 n1 : Int) (w : World) (M S : Int) (m0 : 1 ≤ M) (m1 : M < 4294967296) (s0 : 0 ≤ S) (s1 : S ≤ 31) (hF : ∀ w : World, Calls Tryd.prog 43 #[.int .u64 a, .int .u64 b] w fun e w' => e = .returned (.tuple #[.agg #[.int .u32 M, .int .i64 S], .nilIface]) ∧ Below w.heap.size w w') (hn : ¬ (0 ≤ n0 ∧ n0 ≤ 4611686018427387904 ∧ n0 ≤ n1 ∧ n1 ≤ 4611686018427387904)) (hg : w.cell? ⟨0, 0, none⟩ = some asHandle) :
    Calls Tryd.prog 8 #[.int .u64 a, .int .u64 b, .agg #[.int .i64 n0, .int .i64 n1]] w fun e w' => e = .returned (.bool true) ∧ Below w.heap.size w w' := by
  have hH := Held.start hg
  have hn' : n0 < 0 ∨ 4611686018427387904 < n0 ∨ n1 < n0 ∨ 4611686018427387904 < n1 := by omega
  clear hn
  go_enter Tryd.func8, Tryd.ntmps8
  go_wp2_with (fail)
  go_at_call 43
  (with_reducible refine (hF _).mono ?_)
  rintro e w1 ⟨rfl, HB⟩
  obtain ⟨hc1, hf1⟩ := bcell HB
  obtain ⟨hd1, hh1⟩ := bcell2 (U := w) (by repeat (first | exact Below.refl _ _ | refine Below.setCell ?_ (by simp <;> omega) _ | refine Below.alloc ?_ (by simp <;> omega) _ | refine Below.drew ?_)) HB
  have hz1 := HB.size
  try simp at hz1
  (try (have z1w0 : w.heap.size < w1.heap.size := (by omega)))
  (try (have z1w1 : w.heap.size + 1 < w1.heap.size := (by omega)))
  (try (have z1w2 : w.heap.size + 1 + 1 < w1.heap.size := (by omega)))
  (try (have z1w3 : w.heap.size + 1 + 1 + 1 < w1.heap.size := (by omega)))
  have hH1 := Held.step (w0 := w) (by repeat (first | assumption | refine Held.alloc ?_ _ | refine Held.drew ?_)) HB
  clear HB
  go_wp2_with (first | (go_at_call 54; (with_reducible refine (sure03 _ (Held.handle (w0 := w) (by repeat (first | assumption | refine Held.alloc ?_ _ | refine Held.drew ?_)))).mono ?_); rintro e w' ⟨rfl, hb'⟩; obtain ⟨hc, hf⟩ := bcell hb'; have hz := hb'.size; (try (simp at hz)); have hH' := Held.step (w0 := w) (by repeat (first | assumption | refine Held.alloc ?_ _ | refine Held.drew ?_)) hb'; clear hb'))
  all_goals go_ret
  all_goals exact ⟨rfl, Held.below (w0 := w) (by assumption)⟩
set_option maxRecDepth 100000 in
set_option maxHeartbeats 16000000 in
theorem near_yxe (a b n0 n1 : Int) (w : World) (M S : Int) (m0 : 1 ≤ M) (m1 : M < 4294967296) (s0 : 0 ≤ S) (s1 : S ≤ 31) (hF : ∀ w : World, Calls Tryd.prog 43 #[.int .u64 a, .int .u64 b] w fun e w' => e = .returned (.tuple #[.agg #[.int .u32 M, .int .i64 S], .nilIface]) ∧ Below w.heap.size w w') (p0 : 0 ≤ n0) (p1 : n0 ≤ n1) (p2 : n1 ≤ 4611686018427387904) (a0 : 1 ≤ a) (a1 : a ≤ 1099511627776) (b0 : 1 ≤ b) (b1 : b ≤ 1099511627776) (hx : InR (n0 * M / 2 ^ S.toNat)) (hy : ¬ InR (n1 * M / 2 ^ S.toNat)) (he : InR (n0 * a / b)) (hg : w.cell? ⟨0, 0, none⟩ = some asHandle) :
    Calls Tryd.prog 8 #[.int .u64 a, .int .u64 b, .agg #[.int .i64 n0, .int .i64 n1]] w fun e w' => e = .returned (.bool true) ∧ Below w.heap.size w w' := by
  have hH := Held.start hg
  have c1 : wrap64 a = a := IntWalk.wrap64_in _ (by omega)
  have c2 : wrap64 b = b := IntWalk.wrap64_in _ (by omega)
  go_enter Tryd.func8, Tryd.ntmps8
  go_wp2_with (fail)
  go_at_call 43
  (with_reducible refine (hF _).mono ?_)
  rintro e w1 ⟨rfl, HB⟩
  obtain ⟨hc1, hf1⟩ := bcell HB
  obtain ⟨hd1, hh1⟩ := bcell2 (U := w) (by repeat (first | exact Below.refl _ _ | refine Below.setCell ?_ (by simp <;> omega) _ | refine Below.alloc ?_ (by simp <;> omega) _ | refine Below.drew ?_)) HB
  have hz1 := HB.size
  try simp at hz1
  (try (have z1w0 : w.heap.size < w1.heap.size := (by omega)))
  (try (have z1w1 : w.heap.size + 1 < w1.heap.size := (by omega)))
  (try (have z1w2 : w.heap.size + 1 + 1 < w1.heap.size := (by omega)))
  (try (have z1w3 : w.heap.size + 1 + 1 + 1 < w1.heap.size := (by omega)))
  have hH1 := Held.step (w0 := w) (by repeat (first | assumption | refine Held.alloc ?_ _ | refine Held.drew ?_)) HB
  clear HB
  go_wp2_with (fail)
  go_at_call 45
  (with_reducible refine (rscale _ _ n0 _ m0 m1 s0 s1 (by omega) hx).mono ?_)
  rintro e w2 ⟨rfl, HB⟩
  obtain ⟨hc2, hf2⟩ := bcell HB
  obtain ⟨hd2, hh2⟩ := bcell2 (U := w1) (by repeat (first | exact Below.refl _ _ | refine Below.setCell ?_ (by simp <;> omega) _ | refine Below.alloc ?_ (by simp <;> omega) _ | refine Below.drew ?_)) HB
  have hz2 := HB.size
  try simp at hz2
  (try (have z2w0 : w.heap.size < w2.heap.size := (by omega)))
  (try (have z2w1 : w.heap.size + 1 < w2.heap.size := (by omega)))
  (try (have z2w2 : w.heap.size + 1 + 1 < w2.heap.size := (by omega)))
  (try (have z2w3 : w.heap.size + 1 + 1 + 1 < w2.heap.size := (by omega)))
  (try (have z2w10 : w1.heap.size < w2.heap.size := (by omega)))
  (try (have z2w11 : w1.heap.size + 1 < w2.heap.size := (by omega)))
  (try (have z2w12 : w1.heap.size + 1 + 1 < w2.heap.size := (by omega)))
  (try (have z2w13 : w1.heap.size + 1 + 1 + 1 < w2.heap.size := (by omega)))
  have hH2 := Held.step (w0 := w) (by repeat (first | assumption | refine Held.alloc ?_ _ | refine Held.drew ?_)) HB
  clear HB
  go_wp2_with (fail)
  go_at_call 45
  (with_reducible refine (rscale_big _ _ n1 _ m0 m1 s0 s1 (by omega) hy).mono ?_)
  rintro e w3 ⟨rfl, HB⟩
  obtain ⟨hc3, hf3⟩ := bcell HB
  obtain ⟨hd3, hh3⟩ := bcell2 (U := w2) (by repeat (first | exact Below.refl _ _ | refine Below.setCell ?_ (by simp <;> omega) _ | refine Below.alloc ?_ (by simp <;> omega) _ | refine Below.drew ?_)) HB
  have hz3 := HB.size
  try simp at hz3
  (try (have z3w0 : w.heap.size < w3.heap.size := (by omega)))
  (try (have z3w1 : w.heap.size + 1 < w3.heap.size := (by omega)))
  (try (have z3w2 : w.heap.size + 1 + 1 < w3.heap.size := (by omega)))
  (try (have z3w3 : w.heap.size + 1 + 1 + 1 < w3.heap.size := (by omega)))
  (try (have z3w10 : w1.heap.size < w3.heap.size := (by omega)))
  (try (have z3w11 : w1.heap.size + 1 < w3.heap.size := (by omega)))
  (try (have z3w12 : w1.heap.size + 1 + 1 < w3.heap.size := (by omega)))
  (try (have z3w13 : w1.heap.size + 1 + 1 + 1 < w3.heap.size := (by omega)))
  (try (have z3w20 : w2.heap.size < w3.heap.size := (by omega)))
  (try (have z3w21 : w2.heap.size + 1 < w3.heap.size := (by omega)))
  (try (have z3w22 : w2.heap.size + 1 + 1 < w3.heap.size := (by omega)))
  (try (have z3w23 : w2.heap.size + 1 + 1 + 1 < w3.heap.size := (by omega)))
  have hH3 := Held.step (w0 := w) (by repeat (first | assumption | refine Held.alloc ?_ _ | refine Held.drew ?_)) HB
  clear HB
  go_wp2_with (fail)
  go_at_call 39
  (with_reducible refine (wmuldiv n0 a b _ (by omega) (by omega) b0 (by omega) he).mono ?_)
  rintro e w4 ⟨rfl, HB⟩
  obtain ⟨hc4, hf4⟩ := bcell HB
  obtain ⟨hd4, hh4⟩ := bcell2 (U := w3) (by repeat (first | exact Below.refl _ _ | refine Below.setCell ?_ (by simp <;> omega) _ | refine Below.alloc ?_ (by simp <;> omega) _ | refine Below.drew ?_)) HB
  have hz4 := HB.size
  try simp at hz4
  (try (have z4w0 : w.heap.size < w4.heap.size := (by omega)))
  (try (have z4w1 : w.heap.size + 1 < w4.heap.size := (by omega)))
  (try (have z4w2 : w.heap.size + 1 + 1 < w4.heap.size := (by omega)))
  (try (have z4w3 : w.heap.size + 1 + 1 + 1 < w4.heap.size := (by omega)))
  (try (have z4w10 : w1.heap.size < w4.heap.size := (by omega)))
  (try (have z4w11 : w1.heap.size + 1 < w4.heap.size := (by omega)))
  (try (have z4w12 : w1.heap.size + 1 + 1 < w4.heap.size := (by omega)))
  (try (have z4w13 : w1.heap.size + 1 + 1 + 1 < w4.heap.size := (by omega)))
  (try (have z4w20 : w2.heap.size < w4.heap.size := (by omega)))
  (try (have z4w21 : w2.heap.size + 1 < w4.heap.size := (by omega)))
  (try (have z4w22 : w2.heap.size + 1 + 1 < w4.heap.size := (by omega)))
  (try (have z4w23 : w2.heap.size + 1 + 1 + 1 < w4.heap.size := (by omega)))
  (try (have z4w30 : w3.heap.size < w4.heap.size := (by omega)))
  (try (have z4w31 : w3.heap.size + 1 < w4.heap.size := (by omega)))
  (try (have z4w32 : w3.heap.size + 1 + 1 < w4.heap.size := (by omega)))
  (try (have z4w33 : w3.heap.size + 1 + 1 + 1 < w4.heap.size := (by omega)))
  have hH4 := Held.step (w0 := w) (by repeat (first | assumption | refine Held.alloc ?_ _ | refine Held.drew ?_)) HB
  clear HB
  go_wp2_with (fail)
  go_at_call 47
  (with_reducible refine (roff _ _ n0 _ m0 m1 s0 s1 p0 (by omega)).mono ?_)
  rintro e w5 ⟨rfl, HB⟩
  obtain ⟨hc5, hf5⟩ := bcell HB
  obtain ⟨hd5, hh5⟩ := bcell2 (U := w4) (by repeat (first | exact Below.refl _ _ | refine Below.setCell ?_ (by simp <;> omega) _ | refine Below.alloc ?_ (by simp <;> omega) _ | refine Below.drew ?_)) HB
  have hz5 := HB.size
  try simp at hz5
  (try (have z5w0 : w.heap.size < w5.heap.size := (by omega)))
  (try (have z5w1 : w.heap.size + 1 < w5.heap.size := (by omega)))
  (try (have z5w2 : w.heap.size + 1 + 1 < w5.heap.size := (by omega)))
  (try (have z5w3 : w.heap.size + 1 + 1 + 1 < w5.heap.size := (by omega)))
  (try (have z5w10 : w1.heap.size < w5.heap.size := (by omega)))
  (try (have z5w11 : w1.heap.size + 1 < w5.heap.size := (by omega)))
  (try (have z5w12 : w1.heap.size + 1 + 1 < w5.heap.size := (by omega)))
  (try (have z5w13 : w1.heap.size + 1 + 1 + 1 < w5.heap.size := (by omega)))
  (try (have z5w20 : w2.heap.size < w5.heap.size := (by omega)))
  (try (have z5w21 : w2.heap.size + 1 < w5.heap.size := (by omega)))
  (try (have z5w22 : w2.heap.size + 1 + 1 < w5.heap.size := (by omega)))
  (try (have z5w23 : w2.heap.size + 1 + 1 + 1 < w5.heap.size := (by omega)))
  (try (have z5w30 : w3.heap.size < w5.heap.size := (by omega)))
  (try (have z5w31 : w3.heap.size + 1 < w5.heap.size := (by omega)))
  (try (have z5w32 : w3.heap.size + 1 + 1 < w5.heap.size := (by omega)))
  (try (have z5w33 : w3.heap.size + 1 + 1 + 1 < w5.heap.size := (by omega)))
  (try (have z5w40 : w4.heap.size < w5.heap.size := (by omega)))
  (try (have z5w41 : w4.heap.size + 1 < w5.heap.size := (by omega)))
  (try (have z5w42 : w4.heap.size + 1 + 1 < w5.heap.size := (by omega)))
  (try (have z5w43 : w4.heap.size + 1 + 1 + 1 < w5.heap.size := (by omega)))
  have hH5 := Held.step (w0 := w) (by repeat (first | assumption | refine Held.alloc ?_ _ | refine Held.drew ?_)) HB
  clear HB
  go_wp2_with (first | (go_at_call 54; (with_reducible refine (sure03 _ (Held.handle (w0 := w) (by repeat (first | assumption | refine Held.alloc ?_ _ | refine Held.drew ?_)))).mono ?_); rintro e w' ⟨rfl, hb'⟩; obtain ⟨hc, hf⟩ := bcell hb'; have hz := hb'.size; (try (simp at hz)); have hH' := Held.step (w0 := w) (by repeat (first | assumption | refine Held.alloc ?_ _ | refine Held.drew ?_)) hb'; clear hb'))
  all_goals go_ret
  all_goals exact ⟨rfl, Held.below (w0 := w) (by assumption)⟩
set_option maxRecDepth 100000 in
set_option maxHeartbeats 16000000 in
theorem near_yx (a b n0 n1 : Int) (w : World) (M S : Int) (m0 : 1 ≤ M) (m1 : M < 4294967296) (s0 : 0 ≤ S) (s1 : S ≤ 31) (hF : ∀ w : World, Calls Tryd.prog 43 #[.int .u64 a, .int .u64 b] w fun e w' => e = .returned (.tuple #[.agg #[.int .u32 M, .int .i64 S], .nilIface]) ∧ Below w.heap.size w w') (p0 : 0 ≤ n0) (p1 : n0 ≤ n1) (p2 : n1 ≤ 4611686018427387904) (a0 : 1 ≤ a) (a1 : a ≤ 1099511627776) (b0 : 1 ≤ b) (b1 : b ≤ 1099511627776) (hx : InR (n0 * M / 2 ^ S.toNat)) (hy : ¬ InR (n1 * M / 2 ^ S.toNat)) (he : ¬ InR (n0 * a / b)) (hg : w.cell? ⟨0, 0, none⟩ = some asHandle) :
    Calls Tryd.prog 8 #[.int .u64 a, .int .u64 b, .agg #[.int .i64 n0, .int .i64 n1]] w fun e w' => e = .returned (.bool true) ∧ Below w.heap.size w w' := by
  have hH := Held.start hg
  have c1 : wrap64 a = a := IntWalk.wrap64_in _ (by omega)
  have c2 : wrap64 b = b := IntWalk.wrap64_in _ (by omega)
  go_enter Tryd.func8, Tryd.ntmps8
  go_wp2_with (fail)
  go_at_call 43
  (with_reducible refine (hF _).mono ?_)
  rintro e w1 ⟨rfl, HB⟩
  obtain ⟨hc1, hf1⟩ := bcell HB
  obtain ⟨hd1, hh1⟩ := bcell2 (U := w) (by repeat (first | exact Below.refl _ _ | refine Below.setCell ?_ (by simp <;> omega) _ | refine Below.alloc ?_ (by simp <;> omega) _ | refine Below.drew ?_)) HB
  have hz1 := HB.size
  try simp at hz1
  (try (have z1w0 : w.heap.size < w1.heap.size := (by omega)))
  (try (have z1w1 : w.heap.size + 1 < w1.heap.size := (by omega)))
  (try (have z1w2 : w.heap.size + 1 + 1 < w1.heap.size := (by omega)))
  (try (have z1w3 : w.heap.size + 1 + 1 + 1 < w1.heap.size := (by omega)))
  have hH1 := Held.step (w0 := w) (by repeat (first | assumption | refine Held.alloc ?_ _ | refine Held.drew ?_)) HB
  clear HB
  go_wp2_with (fail)
  go_at_call 45
  (with_reducible refine (rscale _ _ n0 _ m0 m1 s0 s1 (by omega) hx).mono ?_)
  rintro e w2 ⟨rfl, HB⟩
  obtain ⟨hc2, hf2⟩ := bcell HB
  obtain ⟨hd2, hh2⟩ := bcell2 (U := w1) (by repeat (first | exact Below.refl _ _ | refine Below.setCell ?_ (by simp <;> omega) _ | refine Below.alloc ?_ (by simp <;> omega) _ | refine Below.drew ?_)) HB
  have hz2 := HB.size
  try simp at hz2
  (try (have z2w0 : w.heap.size < w2.heap.size := (by omega)))
  (try (have z2w1 : w.heap.size + 1 < w2.heap.size := (by omega)))
  (try (have z2w2 : w.heap.size + 1 + 1 < w2.heap.size := (by omega)))
  (try (have z2w3 : w.heap.size + 1 + 1 + 1 < w2.heap.size := (by omega)))
  (try (have z2w10 : w1.heap.size < w2.heap.size := (by omega)))
  (try (have z2w11 : w1.heap.size + 1 < w2.heap.size := (by omega)))
  (try (have z2w12 : w1.heap.size + 1 + 1 < w2.heap.size := (by omega)))
  (try (have z2w13 : w1.heap.size + 1 + 1 + 1 < w2.heap.size := (by omega)))
  have hH2 := Held.step (w0 := w) (by repeat (first | assumption | refine Held.alloc ?_ _ | refine Held.drew ?_)) HB
  clear HB
  go_wp2_with (fail)
  go_at_call 45
  (with_reducible refine (rscale_big _ _ n1 _ m0 m1 s0 s1 (by omega) hy).mono ?_)
  rintro e w3 ⟨rfl, HB⟩
  obtain ⟨hc3, hf3⟩ := bcell HB
  obtain ⟨hd3, hh3⟩ := bcell2 (U := w2) (by repeat (first | exact Below.refl _ _ | refine Below.setCell ?_ (by simp <;> omega) _ | refine Below.alloc ?_ (by simp <;> omega) _ | refine Below.drew ?_)) HB
  have hz3 := HB.size
  try simp at hz3
  (try (have z3w0 : w.heap.size < w3.heap.size := (by omega)))
  (try (have z3w1 : w.heap.size + 1 < w3.heap.size := (by omega)))
  (try (have z3w2 : w.heap.size + 1 + 1 < w3.heap.size := (by omega)))
  (try (have z3w3 : w.heap.size + 1 + 1 + 1 < w3.heap.size := (by omega)))
  (try (have z3w10 : w1.heap.size < w3.heap.size := (by omega)))
  (try (have z3w11 : w1.heap.size + 1 < w3.heap.size := (by omega)))
  (try (have z3w12 : w1.heap.size + 1 + 1 < w3.heap.size := (by omega)))
  (try (have z3w13 : w1.heap.size + 1 + 1 + 1 < w3.heap.size := (by omega)))
  (try (have z3w20 : w2.heap.size < w3.heap.size := (by omega)))
  (try (have z3w21 : w2.heap.size + 1 < w3.heap.size := (by omega)))
  (try (have z3w22 : w2.heap.size + 1 + 1 < w3.heap.size := (by omega)))
  (try (have z3w23 : w2.heap.size + 1 + 1 + 1 < w3.heap.size := (by omega)))
  have hH3 := Held.step (w0 := w) (by repeat (first | assumption | refine Held.alloc ?_ _ | refine Held.drew ?_)) HB
  clear HB
  go_wp2_with (fail)
  go_at_call 39
  (with_reducible refine (wmuldiv_big n0 a b _ (by omega) (by omega) b0 (by omega) he).mono ?_)
  rintro e w4 ⟨rfl, HB⟩
  obtain ⟨hc4, hf4⟩ := bcell HB
  obtain ⟨hd4, hh4⟩ := bcell2 (U := w3) (by repeat (first | exact Below.refl _ _ | refine Below.setCell ?_ (by simp <;> omega) _ | refine Below.alloc ?_ (by simp <;> omega) _ | refine Below.drew ?_)) HB
  have hz4 := HB.size
  try simp at hz4
  (try (have z4w0 : w.heap.size < w4.heap.size := (by omega)))
  (try (have z4w1 : w.heap.size + 1 < w4.heap.size := (by omega)))
  (try (have z4w2 : w.heap.size + 1 + 1 < w4.heap.size := (by omega)))
  (try (have z4w3 : w.heap.size + 1 + 1 + 1 < w4.heap.size := (by omega)))
  (try (have z4w10 : w1.heap.size < w4.heap.size := (by omega)))
  (try (have z4w11 : w1.heap.size + 1 < w4.heap.size := (by omega)))
  (try (have z4w12 : w1.heap.size + 1 + 1 < w4.heap.size := (by omega)))
  (try (have z4w13 : w1.heap.size + 1 + 1 + 1 < w4.heap.size := (by omega)))
  (try (have z4w20 : w2.heap.size < w4.heap.size := (by omega)))
  (try (have z4w21 : w2.heap.size + 1 < w4.heap.size := (by omega)))
  (try (have z4w22 : w2.heap.size + 1 + 1 < w4.heap.size := (by omega)))
  (try (have z4w23 : w2.heap.size + 1 + 1 + 1 < w4.heap.size := (by omega)))
  (try (have z4w30 : w3.heap.size < w4.heap.size := (by omega)))
  (try (have z4w31 : w3.heap.size + 1 < w4.heap.size := (by omega)))
  (try (have z4w32 : w3.heap.size + 1 + 1 < w4.heap.size := (by omega)))
  (try (have z4w33 : w3.heap.size + 1 + 1 + 1 < w4.heap.size := (by omega)))
  have hH4 := Held.step (w0 := w) (by repeat (first | assumption | refine Held.alloc ?_ _ | refine Held.drew ?_)) HB
  clear HB
  go_wp2_with (fail)
  go_at_call 47
  (with_reducible refine (roff _ _ n0 _ m0 m1 s0 s1 p0 (by omega)).mono ?_)
  rintro e w5 ⟨rfl, HB⟩
  obtain ⟨hc5, hf5⟩ := bcell HB
  obtain ⟨hd5, hh5⟩ := bcell2 (U := w4) (by repeat (first | exact Below.refl _ _ | refine Below.setCell ?_ (by simp <;> omega) _ | refine Below.alloc ?_ (by simp <;> omega) _ | refine Below.drew ?_)) HB
  have hz5 := HB.size
  try simp at hz5
  (try (have z5w0 : w.heap.size < w5.heap.size := (by omega)))
  (try (have z5w1 : w.heap.size + 1 < w5.heap.size := (by omega)))
  (try (have z5w2 : w.heap.size + 1 + 1 < w5.heap.size := (by omega)))
  (try (have z5w3 : w.heap.size + 1 + 1 + 1 < w5.heap.size := (by omega)))
  (try (have z5w10 : w1.heap.size < w5.heap.size := (by omega)))
  (try (have z5w11 : w1.heap.size + 1 < w5.heap.size := (by omega)))
  (try (have z5w12 : w1.heap.size + 1 + 1 < w5.heap.size := (by omega)))
  (try (have z5w13 : w1.heap.size + 1 + 1 + 1 < w5.heap.size := (by omega)))
  (try (have z5w20 : w2.heap.size < w5.heap.size := (by omega)))
  (try (have z5w21 : w2.heap.size + 1 < w5.heap.size := (by omega)))
  (try (have z5w22 : w2.heap.size + 1 + 1 < w5.heap.size := (by omega)))
  (try (have z5w23 : w2.heap.size + 1 + 1 + 1 < w5.heap.size := (by omega)))
  (try (have z5w30 : w3.heap.size < w5.heap.size := (by omega)))
  (try (have z5w31 : w3.heap.size + 1 < w5.heap.size := (by omega)))
  (try (have z5w32 : w3.heap.size + 1 + 1 < w5.heap.size := (by omega)))
  (try (have z5w33 : w3.heap.size + 1 + 1 + 1 < w5.heap.size := (by omega)))
  (try (have z5w40 : w4.heap.size < w5.heap.size := (by omega)))
  (try (have z5w41 : w4.heap.size + 1 < w5.heap.size := (by omega)))
  (try (have z5w42 : w4.heap.size + 1 + 1 < w5.heap.size := (by omega)))
  (try (have z5w43 : w4.heap.size + 1 + 1 + 1 < w5.heap.size := (by omega)))
  have hH5 := Held.step (w0 := w) (by repeat (first | assumption | refine Held.alloc ?_ _ | refine Held.drew ?_)) HB
  clear HB
  go_wp2_with (first | (go_at_call 54; (with_reducible refine (sure03 _ (Held.handle (w0 := w) (by repeat (first | assumption | refine Held.alloc ?_ _ | refine Held.drew ?_)))).mono ?_); rintro e w' ⟨rfl, hb'⟩; obtain ⟨hc, hf⟩ := bcell hb'; have hz := hb'.size; (try (simp at hz)); have hH' := Held.step (w0 := w) (by repeat (first | assumption | refine Held.alloc ?_ _ | refine Held.drew ?_)) hb'; clear hb'))
  all_goals go_ret
  all_goals exact ⟨rfl, Held.below (w0 := w) (by assumption)⟩
set_option maxRecDepth 100000 in
set_option maxHeartbeats 16000000 in
theorem near_ye (a b n0 n1 : Int) (w : World) (M S : Int) (m0 : 1 ≤ M) (m1 : M < 4294967296) (s0 : 0 ≤ S) (s1 : S ≤ 31) (hF : ∀ w : World, Calls Tryd.prog 43 #[.int .u64 a, .int .u64 b] w fun e w' => e = .returned (.tuple #[.agg #[.int .u32 M, .int .i64 S], .nilIface]) ∧ Below w.heap.size w w') (p0 : 0 ≤ n0) (p1 : n0 ≤ n1) (p2 : n1 ≤ 4611686018427387904) (a0 : 1 ≤ a) (a1 : a ≤ 1099511627776) (b0 : 1 ≤ b) (b1 : b ≤ 1099511627776) (hx : ¬ InR (n0 * M / 2 ^ S.toNat)) (hy : ¬ InR (n1 * M / 2 ^ S.toNat)) (he : InR (n0 * a / b)) (hg : w.cell? ⟨0, 0, none⟩ = some asHandle) :
    Calls Tryd.prog 8 #[.int .u64 a, .int .u64 b, .agg #[.int .i64 n0, .int .i64 n1]] w fun e w' => e = .returned (.bool true) ∧ Below w.heap.size w w' := by
  have hH := Held.start hg
  have c1 : wrap64 a = a := IntWalk.wrap64_in _ (by omega)
  have c2 : wrap64 b = b := IntWalk.wrap64_in _ (by omega)
  go_enter Tryd.func8, Tryd.ntmps8
  go_wp2_with (fail)
  go_at_call 43
  (with_reducible refine (hF _).mono ?_)
  rintro e w1 ⟨rfl, HB⟩
  obtain ⟨hc1, hf1⟩ := bcell HB
  obtain ⟨hd1, hh1⟩ := bcell2 (U := w) (by repeat (first | exact Below.refl _ _ | refine Below.setCell ?_ (by simp <;> omega) _ | refine Below.alloc ?_ (by simp <;> omega) _ | refine Below.drew ?_)) HB
  have hz1 := HB.size
  try simp at hz1
  (try (have z1w0 : w.heap.size < w1.heap.size := (by omega)))
  (try (have z1w1 : w.heap.size + 1 < w1.heap.size := (by omega)))
  (try (have z1w2 : w.heap.size + 1 + 1 < w1.heap.size := (by omega)))
  (try (have z1w3 : w.heap.size + 1 + 1 + 1 < w1.heap.size := (by omega)))
  have hH1 := Held.step (w0 := w) (by repeat (first | assumption | refine Held.alloc ?_ _ | refine Held.drew ?_)) HB
  clear HB
  go_wp2_with (fail)
  go_at_call 45
  (with_reducible refine (rscale_big _ _ n0 _ m0 m1 s0 s1 (by omega) hx).mono ?_)
  rintro e w2 ⟨rfl, HB⟩
  obtain ⟨hc2, hf2⟩ := bcell HB
  obtain ⟨hd2, hh2⟩ := bcell2 (U := w1) (by repeat (first | exact Below.refl _ _ | refine Below.setCell ?_ (by simp <;> omega) _ | refine Below.alloc ?_ (by simp <;> omega) _ | refine Below.drew ?_)) HB
  have hz2 := HB.size
  try simp at hz2
  (try (have z2w0 : w.heap.size < w2.heap.size := (by omega)))
  (try (have z2w1 : w.heap.size + 1 < w2.heap.size := (by omega)))
  (try (have z2w2 : w.heap.size + 1 + 1 < w2.heap.size := (by omega)))
  (try (have z2w3 : w.heap.size + 1 + 1 + 1 < w2.heap.size := (by omega)))
  (try (have z2w10 : w1.heap.size < w2.heap.size := (by omega)))
  (try (have z2w11 : w1.heap.size + 1 < w2.heap.size := (by omega)))
  (try (have z2w12 : w1.heap.size + 1 + 1 < w2.heap.size := (by omega)))
  (try (have z2w13 : w1.heap.size + 1 + 1 + 1 < w2.heap.size := (by omega)))
  have hH2 := Held.step (w0 := w) (by repeat (first | assumption | refine Held.alloc ?_ _ | refine Held.drew ?_)) HB
  clear HB
  go_wp2_with (fail)
  go_at_call 45
  (with_reducible refine (rscale_big _ _ n1 _ m0 m1 s0 s1 (by omega) hy).mono ?_)
  rintro e w3 ⟨rfl, HB⟩
  obtain ⟨hc3, hf3⟩ := bcell HB
  obtain ⟨hd3, hh3⟩ := bcell2 (U := w2) (by repeat (first | exact Below.refl _ _ | refine Below.setCell ?_ (by simp <;> omega) _ | refine Below.alloc ?_ (by simp <;> omega) _ | refine Below.drew ?_)) HB
  have hz3 := HB.size
  try simp at hz3
  (try (have z3w0 : w.heap.size < w3.heap.size := (by omega)))
  (try (have z3w1 : w.heap.size + 1 < w3.heap.size := (by omega)))
  (try (have z3w2 : w.heap.size + 1 + 1 < w3.heap.size := (by omega)))
  (try (have z3w3 : w.heap.size + 1 + 1 + 1 < w3.heap.size := (by omega)))
  (try (have z3w10 : w1.heap.size < w3.heap.size := (by omega)))
  (try (have z3w11 : w1.heap.size + 1 < w3.heap.size := (by omega)))
  (try (have z3w12 : w1.heap.size + 1 + 1 < w3.heap.size := (by omega)))
  (try (have z3w13 : w1.heap.size + 1 + 1 + 1 < w3.heap.size := (by omega)))
  (try (have z3w20 : w2.heap.size < w3.heap.size := (by omega)))
  (try (have z3w21 : w2.heap.size + 1 < w3.heap.size := (by omega)))
  (try (have z3w22 : w2.heap.size + 1 + 1 < w3.heap.size := (by omega)))
  (try (have z3w23 : w2.heap.size + 1 + 1 + 1 < w3.heap.size := (by omega)))
  have hH3 := Held.step (w0 := w) (by repeat (first | assumption | refine Held.alloc ?_ _ | refine Held.drew ?_)) HB
  clear HB
  go_wp2_with (fail)
  go_at_call 39
  (with_reducible refine (wmuldiv n0 a b _ (by omega) (by omega) b0 (by omega) he).mono ?_)
  rintro e w4 ⟨rfl, HB⟩
  obtain ⟨hc4, hf4⟩ := bcell HB
  obtain ⟨hd4, hh4⟩ := bcell2 (U := w3) (by repeat (first | exact Below.refl _ _ | refine Below.setCell ?_ (by simp <;> omega) _ | refine Below.alloc ?_ (by simp <;> omega) _ | refine Below.drew ?_)) HB
  have hz4 := HB.size
  try simp at hz4
  (try (have z4w0 : w.heap.size < w4.heap.size := (by omega)))
  (try (have z4w1 : w.heap.size + 1 < w4.heap.size := (by omega)))
  (try (have z4w2 : w.heap.size + 1 + 1 < w4.heap.size := (by omega)))
  (try (have z4w3 : w.heap.size + 1 + 1 + 1 < w4.heap.size := (by omega)))
  (try (have z4w10 : w1.heap.size < w4.heap.size := (by omega)))
  (try (have z4w11 : w1.heap.size + 1 < w4.heap.size := (by omega)))
  (try (have z4w12 : w1.heap.size + 1 + 1 < w4.heap.size := (by omega)))
  (try (have z4w13 : w1.heap.size + 1 + 1 + 1 < w4.heap.size := (by omega)))
  (try (have z4w20 : w2.heap.size < w4.heap.size := (by omega)))
  (try (have z4w21 : w2.heap.size + 1 < w4.heap.size := (by omega)))
  (try (have z4w22 : w2.heap.size + 1 + 1 < w4.heap.size := (by omega)))
  (try (have z4w23 : w2.heap.size + 1 + 1 + 1 < w4.heap.size := (by omega)))
  (try (have z4w30 : w3.heap.size < w4.heap.size := (by omega)))
  (try (have z4w31 : w3.heap.size + 1 < w4.heap.size := (by omega)))
  (try (have z4w32 : w3.heap.size + 1 + 1 < w4.heap.size := (by omega)))
  (try (have z4w33 : w3.heap.size + 1 + 1 + 1 < w4.heap.size := (by omega)))
  have hH4 := Held.step (w0 := w) (by repeat (first | assumption | refine Held.alloc ?_ _ | refine Held.drew ?_)) HB
  clear HB
  go_wp2_with (fail)
  go_at_call 47
  (with_reducible refine (roff _ _ n0 _ m0 m1 s0 s1 p0 (by omega)).mono ?_)
  rintro e w5 ⟨rfl, HB⟩
  obtain ⟨hc5, hf5⟩ := bcell HB
  obtain ⟨hd5, hh5⟩ := bcell2 (U := w4) (by repeat (first | exact Below.refl _ _ | refine Below.setCell ?_ (by simp <;> omega) _ | refine Below.alloc ?_ (by simp <;> omega) _ | refine Below.drew ?_)) HB
  have hz5 := HB.size
  try simp at hz5
  (try (have z5w0 : w.heap.size < w5.heap.size := (by omega)))
  (try (have z5w1 : w.heap.size + 1 < w5.heap.size := (by omega)))
  (try (have z5w2 : w.heap.size + 1 + 1 < w5.heap.size := (by omega)))
  (try (have z5w3 : w.heap.size + 1 + 1 + 1 < w5.heap.size := (by omega)))
  (try (have z5w10 : w1.heap.size < w5.heap.size := (by omega)))
  (try (have z5w11 : w1.heap.size + 1 < w5.heap.size := (by omega)))
  (try (have z5w12 : w1.heap.size + 1 + 1 < w5.heap.size := (by omega)))
  (try (have z5w13 : w1.heap.size + 1 + 1 + 1 < w5.heap.size := (by omega)))
  (try (have z5w20 : w2.heap.size < w5.heap.size := (by omega)))
  (try (have z5w21 : w2.heap.size + 1 < w5.heap.size := (by omega)))
  (try (have z5w22 : w2.heap.size + 1 + 1 < w5.heap.size := (by omega)))
  (try (have z5w23 : w2.heap.size + 1 + 1 + 1 < w5.heap.size := (by omega)))
  (try (have z5w30 : w3.heap.size < w5.heap.size := (by omega)))
  (try (have z5w31 : w3.heap.size + 1 < w5.heap.size := (by omega)))
  (try (have z5w32 : w3.heap.size + 1 + 1 < w5.heap.size := (by omega)))
  (try (have z5w33 : w3.heap.size + 1 + 1 + 1 < w5.heap.size := (by omega)))
  (try (have z5w40 : w4.heap.size < w5.heap.size := (by omega)))
  (try (have z5w41 : w4.heap.size + 1 < w5.heap.size := (by omega)))
  (try (have z5w42 : w4.heap.size + 1 + 1 < w5.heap.size := (by omega)))
  (try (have z5w43 : w4.heap.size + 1 + 1 + 1 < w5.heap.size := (by omega)))
  have hH5 := Held.step (w0 := w) (by repeat (first | assumption | refine Held.alloc ?_ _ | refine Held.drew ?_)) HB
  clear HB
  go_wp2_with (first | (go_at_call 54; (with_reducible refine (sure03 _ (Held.handle (w0 := w) (by repeat (first | assumption | refine Held.alloc ?_ _ | refine Held.drew ?_)))).mono ?_); rintro e w' ⟨rfl, hb'⟩; obtain ⟨hc, hf⟩ := bcell hb'; have hz := hb'.size; (try (simp at hz)); have hH' := Held.step (w0 := w) (by repeat (first | assumption | refine Held.alloc ?_ _ | refine Held.drew ?_)) hb'; clear hb'))
  all_goals go_ret
  all_goals exact ⟨rfl, Held.below (w0 := w) (by assumption)⟩
set_option maxRecDepth 100000 in
set_option maxHeartbeats 16000000 in
theorem near_y (a b n0 n1 : Int) (w : World) (M S : Int) (m0 : 1 ≤ M) (m1 : M < 4294967296) (s0 : 0 ≤ S) (s1 : S ≤ 31) (hF : ∀ w : World, Calls Tryd.prog 43 #[.int .u64 a, .int .u64 b] w fun e w' => e = .returned (.tuple #[.agg #[.int .u32 M, .int .i64 S], .nilIface]) ∧ Below w.heap.size w w') (p0 : 0 ≤ n0) (p1 : n0 ≤ n1) (p2 : n1 ≤ 4611686018427387904) (a0 : 1 ≤ a) (a1 : a ≤ 1099511627776) (b0 : 1 ≤ b) (b1 : b ≤ 1099511627776) (hx : ¬ InR (n0 * M / 2 ^ S.toNat)) (hy : ¬ InR (n1 * M / 2 ^ S.toNat)) (he : ¬ InR (n0 * a / b)) (hg : w.cell? ⟨0, 0, none⟩ = some asHandle) :
    Calls Tryd.prog 8 #[.int .u64 a, .int .u64 b, .agg #[.int .i64 n0, .int .i64 n1]] w fun e w' => e = .returned (.bool true) ∧ Below w.heap.size w w' := by
  have hH := Held.start hg
  have c1 : wrap64 a = a := IntWalk.wrap64_in _ (by omega)
  have c2 : wrap64 b = b := IntWalk.wrap64_in _ (by omega)
  go_enter Tryd.func8, Tryd.ntmps8
  go_wp2_with (fail)
  go_at_call 43
  (with_reducible refine (hF _).mono ?_)
  rintro e w1 ⟨rfl, HB⟩
  obtain ⟨hc1, hf1⟩ := bcell HB
  obtain ⟨hd1, hh1⟩ := bcell2 (U := w) (by repeat (first | exact Below.refl _ _ | refine Below.setCell ?_ (by simp <;> omega) _ | refine Below.alloc ?_ (by simp <;> omega) _ | refine Below.drew ?_)) HB
  have hz1 := HB.size
  try simp at hz1
  (try (have z1w0 : w.heap.size < w1.heap.size := (by omega)))
  (try (have z1w1 : w.heap.size + 1 < w1.heap.size := (by omega)))
  (try (have z1w2 : w.heap.size + 1 + 1 < w1.heap.size := (by omega)))
  (try (have z1w3 : w.heap.size + 1 + 1 + 1 < w1.heap.size := (by omega)))
  have hH1 := Held.step (w0 := w) (by repeat (first | assumption | refine Held.alloc ?_ _ | refine Held.drew ?_)) HB
  clear HB
  go_wp2_with (fail)
  go_at_call 45
  (with_reducible refine (rscale_big _ _ n0 _ m0 m1 s0 s1 (by omega) hx).mono ?_)
  rintro e w2 ⟨rfl, HB⟩
  obtain ⟨hc2, hf2⟩ := bcell HB
  obtain ⟨hd2, hh2⟩ := bcell2 (U := w1) (by repeat (first | exact Below.refl _ _ | refine Below.setCell ?_ (by simp <;> omega) _ | refine Below.alloc ?_ (by simp <;> omega) _ | refine Below.drew ?_)) HB
  have hz2 := HB.size
  try simp at hz2
  (try (have z2w0 : w.heap.size < w2.heap.size := (by omega)))
  (try (have z2w1 : w.heap.size + 1 < w2.heap.size := (by omega)))
  (try (have z2w2 : w.heap.size + 1 + 1 < w2.heap.size := (by omega)))
  (try (have z2w3 : w.heap.size + 1 + 1 + 1 < w2.heap.size := (by omega)))
  (try (have z2w10 : w1.heap.size < w2.heap.size := (by omega)))
  (try (have z2w11 : w1.heap.size + 1 < w2.heap.size := (by omega)))
  (try (have z2w12 : w1.heap.size + 1 + 1 < w2.heap.size := (by omega)))
  (try (have z2w13 : w1.heap.size + 1 + 1 + 1 < w2.heap.size := (by omega)))
  have hH2 := Held.step (w0 := w) (by repeat (first | assumption | refine Held.alloc ?_ _ | refine Held.drew ?_)) HB
  clear HB
  go_wp2_with (fail)
  go_at_call 45
  (with_reducible refine (rscale_big _ _ n1 _ m0 m1 s0 s1 (by omega) hy).mono ?_)
  rintro e w3 ⟨rfl, HB⟩
  obtain ⟨hc3, hf3⟩ := bcell HB
  obtain ⟨hd3, hh3⟩ := bcell2 (U := w2) (by repeat (first | exact Below.refl _ _ | refine Below.setCell ?_ (by simp <;> omega) _ | refine Below.alloc ?_ (by simp <;> omega) _ | refine Below.drew ?_)) HB
  have hz3 := HB.size
  try simp at hz3
  (try (have z3w0 : w.heap.size < w3.heap.size := (by omega)))
  (try (have z3w1 : w.heap.size + 1 < w3.heap.size := (by omega)))
  (try (have z3w2 : w.heap.size + 1 + 1 < w3.heap.size := (by omega)))
  (try (have z3w3 : w.heap.size + 1 + 1 + 1 < w3.heap.size := (by omega)))
  (try (have z3w10 : w1.heap.size < w3.heap.size := (by omega)))
  (try (have z3w11 : w1.heap.size + 1 < w3.heap.size := (by omega)))
  (try (have z3w12 : w1.heap.size + 1 + 1 < w3.heap.size := (by omega)))
  (try (have z3w13 : w1.heap.size + 1 + 1 + 1 < w3.heap.size := (by omega)))
  (try (have z3w20 : w2.heap.size < w3.heap.size := (by omega)))
  (try (have z3w21 : w2.heap.size + 1 < w3.heap.size := (by omega)))
  (try (have z3w22 : w2.heap.size + 1 + 1 < w3.heap.size := (by omega)))
  (try (have z3w23 : w2.heap.size + 1 + 1 + 1 < w3.heap.size := (by omega)))
  have hH3 := Held.step (w0 := w) (by repeat (first | assumption | refine Held.alloc ?_ _ | refine Held.drew ?_)) HB
  clear HB
  go_wp2_with (fail)
  go_at_call 39
  (with_reducible refine (wmuldiv_big n0 a b _ (by omega) (by omega) b0 (by omega) he).mono ?_)
  rintro e w4 ⟨rfl, HB⟩
  obtain ⟨hc4, hf4⟩ := bcell HB
  obtain ⟨hd4, hh4⟩ := bcell2 (U := w3) (by repeat (first | exact Below.refl _ _ | refine Below.setCell ?_ (by simp <;> omega) _ | refine Below.alloc ?_ (by simp <;> omega) _ | refine Below.drew ?_)) HB
  have hz4 := HB.size
  try simp at hz4
  (try (have z4w0 : w.heap.size < w4.heap.size := (by omega)))
  (try (have z4w1 : w.heap.size + 1 < w4.heap.size := (by omega)))
  (try (have z4w2 : w.heap.size + 1 + 1 < w4.heap.size := (by omega)))
  (try (have z4w3 : w.heap.size + 1 + 1 + 1 < w4.heap.size := (by omega)))
  (try (have z4w10 : w1.heap.size < w4.heap.size := (by omega)))
  (try (have z4w11 : w1.heap.size + 1 < w4.heap.size := (by omega)))
  (try (have z4w12 : w1.heap.size + 1 + 1 < w4.heap.size := (by omega)))
  (try (have z4w13 : w1.heap.size + 1 + 1 + 1 < w4.heap.size := (by omega)))
  (try (have z4w20 : w2.heap.size < w4.heap.size := (by omega)))
  (try (have z4w21 : w2.heap.size + 1 < w4.heap.size := (by omega)))
  (try (have z4w22 : w2.heap.size + 1 + 1 < w4.heap.size := (by omega)))
  (try (have z4w23 : w2.heap.size + 1 + 1 + 1 < w4.heap.size := (by omega)))
  (try (have z4w30 : w3.heap.size < w4.heap.size := (by omega)))
  (try (have z4w31 : w3.heap.size + 1 < w4.heap.size := (by omega)))
  (try (have z4w32 : w3.heap.size + 1 + 1 < w4.heap.size := (by omega)))
  (try (have z4w33 : w3.heap.size + 1 + 1 + 1 < w4.heap.size := (by omega)))
  have hH4 := Held.step (w0 := w) (by repeat (first | assumption | refine Held.alloc ?_ _ | refine Held.drew ?_)) HB
  clear HB
  go_wp2_with (fail)
  go_at_call 47
  (with_reducible refine (roff _ _ n0 _ m0 m1 s0 s1 p0 (by omega)).mono ?_)
  rintro e w5 ⟨rfl, HB⟩
  obtain ⟨hc5, hf5⟩ := bcell HB
  obtain ⟨hd5, hh5⟩ := bcell2 (U := w4) (by repeat (first | exact Below.refl _ _ | refine Below.setCell ?_ (by simp <;> omega) _ | refine Below.alloc ?_ (by simp <;> omega) _ | refine Below.drew ?_)) HB
  have hz5 := HB.size
  try simp at hz5
  (try (have z5w0 : w.heap.size < w5.heap.size := (by omega)))
  (try (have z5w1 : w.heap.size + 1 < w5.heap.size := (by omega)))
  (try (have z5w2 : w.heap.size + 1 + 1 < w5.heap.size := (by omega)))
  (try (have z5w3 : w.heap.size + 1 + 1 + 1 < w5.heap.size := (by omega)))
  (try (have z5w10 : w1.heap.size < w5.heap.size := (by omega)))
  (try (have z5w11 : w1.heap.size + 1 < w5.heap.size := (by omega)))
  (try (have z5w12 : w1.heap.size + 1 + 1 < w5.heap.size := (by omega)))
  (try (have z5w13 : w1.heap.size + 1 + 1 + 1 < w5.heap.size := (by omega)))
  (try (have z5w20 : w2.heap.size < w5.heap.size := (by omega)))
  (try (have z5w21 : w2.heap.size + 1 < w5.heap.size := (by omega)))
  (try (have z5w22 : w2.heap.size + 1 + 1 < w5.heap.size := (by omega)))
  (try (have z5w23 : w2.heap.size + 1 + 1 + 1 < w5.heap.size := (by omega)))
  (try (have z5w30 : w3.heap.size < w5.heap.size := (by omega)))
  (try (have z5w31 : w3.heap.size + 1 < w5.heap.size := (by omega)))
  (try (have z5w32 : w3.heap.size + 1 + 1 < w5.heap.size := (by omega)))
  (try (have z5w33 : w3.heap.size + 1 + 1 + 1 < w5.heap.size := (by omega)))
  (try (have z5w40 : w4.heap.size < w5.heap.size := (by omega)))
  (try (have z5w41 : w4.heap.size + 1 < w5.heap.size := (by omega)))
  (try (have z5w42 : w4.heap.size + 1 + 1 < w5.heap.size := (by omega)))
  (try (have z5w43 : w4.heap.size + 1 + 1 + 1 < w5.heap.size := (by omega)))
  have hH5 := Held.step (w0 := w) (by repeat (first | assumption | refine Held.alloc ?_ _ | refine Held.drew ?_)) HB
  clear HB
  go_wp2_with (first | (go_at_call 54; (with_reducible refine (sure03 _ (Held.handle (w0 := w) (by repeat (first | assumption | refine Held.alloc ?_ _ | refine Held.drew ?_)))).mono ?_); rintro e w' ⟨rfl, hb'⟩; obtain ⟨hc, hf⟩ := bcell hb'; have hz := hb'.size; (try (simp at hz)); have hH' := Held.step (w0 := w) (by repeat (first | assumption | refine Held.alloc ?_ _ | refine Held.drew ?_)) hb'; clear hb'))
  all_goals go_ret
  all_goals exact ⟨rfl, Held.below (w0 := w) (by assumption)⟩
set_option maxRecDepth 100000 in
set_option maxHeartbeats 16000000 in
theorem near_e (a b n0 n1 : Int) (w : World) (M S : Int) (m0 : 1 ≤ M) (m1 : M < 4294967296) (s0 : 0 ≤ S) (s1 : S ≤ 31) (hF : ∀ w : World, Calls Tryd.prog 43 #[.int .u64 a, .int .u64 b] w fun e w' => e = .returned (.tuple #[.agg #[.int .u32 M, .int .i64 S], .nilIface]) ∧ Below w.heap.size w w') (p0 : 0 ≤ n0) (p1 : n0 ≤ n1) (p2 : n1 ≤ 4611686018427387904) (a0 : 1 ≤ a) (a1 : a ≤ 1099511627776) (b0 : 1 ≤ b) (b1 : b ≤ 1099511627776) (hx : InR (n0 * M / 2 ^ S.toNat)) (hy : InR (n1 * M / 2 ^ S.toNat)) (he : ¬ InR (n0 * a / b)) (hg : w.cell? ⟨0, 0, none⟩ = some asHandle) :
    Calls Tryd.prog 8 #[.int .u64 a, .int .u64 b, .agg #[.int .i64 n0, .int .i64 n1]] w fun e w' => e = .returned (.bool true) ∧ Below w.heap.size w w' := by
  have hH := Held.start hg
  have c1 : wrap64 a = a := IntWalk.wrap64_in _ (by omega)
  have c2 : wrap64 b = b := IntWalk.wrap64_in _ (by omega)
  go_enter Tryd.func8, Tryd.ntmps8
  go_wp2_with (fail)
  go_at_call 43
  (with_reducible refine (hF _).mono ?_)
  rintro e w1 ⟨rfl, HB⟩
  obtain ⟨hc1, hf1⟩ := bcell HB
  obtain ⟨hd1, hh1⟩ := bcell2 (U := w) (by repeat (first | exact Below.refl _ _ | refine Below.setCell ?_ (by simp <;> omega) _ | refine Below.alloc ?_ (by simp <;> omega) _ | refine Below.drew ?_)) HB
  have hz1 := HB.size
  try simp at hz1
  (try (have z1w0 : w.heap.size < w1.heap.size := (by omega)))
  (try (have z1w1 : w.heap.size + 1 < w1.heap.size := (by omega)))
  (try (have z1w2 : w.heap.size + 1 + 1 < w1.heap.size := (by omega)))
  (try (have z1w3 : w.heap.size + 1 + 1 + 1 < w1.heap.size := (by omega)))
  have hH1 := Held.step (w0 := w) (by repeat (first | assumption | refine Held.alloc ?_ _ | refine Held.drew ?_)) HB
  clear HB
  go_wp2_with (fail)
  go_at_call 45
  (with_reducible refine (rscale _ _ n0 _ m0 m1 s0 s1 (by omega) hx).mono ?_)
  rintro e w2 ⟨rfl, HB⟩
  obtain ⟨hc2, hf2⟩ := bcell HB
  obtain ⟨hd2, hh2⟩ := bcell2 (U := w1) (by repeat (first | exact Below.refl _ _ | refine Below.setCell ?_ (by simp <;> omega) _ | refine Below.alloc ?_ (by simp <;> omega) _ | refine Below.drew ?_)) HB
  have hz2 := HB.size
  try simp at hz2
  (try (have z2w0 : w.heap.size < w2.heap.size := (by omega)))
  (try (have z2w1 : w.heap.size + 1 < w2.heap.size := (by omega)))
  (try (have z2w2 : w.heap.size + 1 + 1 < w2.heap.size := (by omega)))
  (try (have z2w3 : w.heap.size + 1 + 1 + 1 < w2.heap.size := (by omega)))
  (try (have z2w10 : w1.heap.size < w2.heap.size := (by omega)))
  (try (have z2w11 : w1.heap.size + 1 < w2.heap.size := (by omega)))
  (try (have z2w12 : w1.heap.size + 1 + 1 < w2.heap.size := (by omega)))
  (try (have z2w13 : w1.heap.size + 1 + 1 + 1 < w2.heap.size := (by omega)))
  have hH2 := Held.step (w0 := w) (by repeat (first | assumption | refine Held.alloc ?_ _ | refine Held.drew ?_)) HB
  clear HB
  go_wp2_with (fail)
  go_at_call 45
  (with_reducible refine (rscale _ _ n1 _ m0 m1 s0 s1 (by omega) hy).mono ?_)
  rintro e w3 ⟨rfl, HB⟩
  obtain ⟨hc3, hf3⟩ := bcell HB
  obtain ⟨hd3, hh3⟩ := bcell2 (U := w2) (by repeat (first | exact Below.refl _ _ | refine Below.setCell ?_ (by simp <;> omega) _ | refine Below.alloc ?_ (by simp <;> omega) _ | refine Below.drew ?_)) HB
  have hz3 := HB.size
  try simp at hz3
  (try (have z3w0 : w.heap.size < w3.heap.size := (by omega)))
  (try (have z3w1 : w.heap.size + 1 < w3.heap.size := (by omega)))
  (try (have z3w2 : w.heap.size + 1 + 1 < w3.heap.size := (by omega)))
  (try (have z3w3 : w.heap.size + 1 + 1 + 1 < w3.heap.size := (by omega)))
  (try (have z3w10 : w1.heap.size < w3.heap.size := (by omega)))
  (try (have z3w11 : w1.heap.size + 1 < w3.heap.size := (by omega)))
  (try (have z3w12 : w1.heap.size + 1 + 1 < w3.heap.size := (by omega)))
  (try (have z3w13 : w1.heap.size + 1 + 1 + 1 < w3.heap.size := (by omega)))
  (try (have z3w20 : w2.heap.size < w3.heap.size := (by omega)))
  (try (have z3w21 : w2.heap.size + 1 < w3.heap.size := (by omega)))
  (try (have z3w22 : w2.heap.size + 1 + 1 < w3.heap.size := (by omega)))
  (try (have z3w23 : w2.heap.size + 1 + 1 + 1 < w3.heap.size := (by omega)))
  have hH3 := Held.step (w0 := w) (by repeat (first | assumption | refine Held.alloc ?_ _ | refine Held.drew ?_)) HB
  clear HB
  go_wp2_with (fail)
  go_at_call 39
  (with_reducible refine (wmuldiv_big n0 a b _ (by omega) (by omega) b0 (by omega) he).mono ?_)
  rintro e w4 ⟨rfl, HB⟩
  obtain ⟨hc4, hf4⟩ := bcell HB
  obtain ⟨hd4, hh4⟩ := bcell2 (U := w3) (by repeat (first | exact Below.refl _ _ | refine Below.setCell ?_ (by simp <;> omega) _ | refine Below.alloc ?_ (by simp <;> omega) _ | refine Below.drew ?_)) HB
  have hz4 := HB.size
  try simp at hz4
  (try (have z4w0 : w.heap.size < w4.heap.size := (by omega)))
  (try (have z4w1 : w.heap.size + 1 < w4.heap.size := (by omega)))
  (try (have z4w2 : w.heap.size + 1 + 1 < w4.heap.size := (by omega)))
  (try (have z4w3 : w.heap.size + 1 + 1 + 1 < w4.heap.size := (by omega)))
  (try (have z4w10 : w1.heap.size < w4.heap.size := (by omega)))
  (try (have z4w11 : w1.heap.size + 1 < w4.heap.size := (by omega)))
  (try (have z4w12 : w1.heap.size + 1 + 1 < w4.heap.size := (by omega)))
  (try (have z4w13 : w1.heap.size + 1 + 1 + 1 < w4.heap.size := (by omega)))
  (try (have z4w20 : w2.heap.size < w4.heap.size := (by omega)))
  (try (have z4w21 : w2.heap.size + 1 < w4.heap.size := (by omega)))
  (try (have z4w22 : w2.heap.size + 1 + 1 < w4.heap.size := (by omega)))
  (try (have z4w23 : w2.heap.size + 1 + 1 + 1 < w4.heap.size := (by omega)))
  (try (have z4w30 : w3.heap.size < w4.heap.size := (by omega)))
  (try (have z4w31 : w3.heap.size + 1 < w4.heap.size := (by omega)))
  (try (have z4w32 : w3.heap.size + 1 + 1 < w4.heap.size := (by omega)))
  (try (have z4w33 : w3.heap.size + 1 + 1 + 1 < w4.heap.size := (by omega)))
  have hH4 := Held.step (w0 := w) (by repeat (first | assumption | refine Held.alloc ?_ _ | refine Held.drew ?_)) HB
  clear HB
  go_wp2_with (fail)
  go_at_call 47
  (with_reducible refine (roff _ _ n0 _ m0 m1 s0 s1 p0 (by omega)).mono ?_)
  rintro e w5 ⟨rfl, HB⟩
  obtain ⟨hc5, hf5⟩ := bcell HB
  obtain ⟨hd5, hh5⟩ := bcell2 (U := w4) (by repeat (first | exact Below.refl _ _ | refine Below.setCell ?_ (by simp <;> omega) _ | refine Below.alloc ?_ (by simp <;> omega) _ | refine Below.drew ?_)) HB
  have hz5 := HB.size
  try simp at hz5
  (try (have z5w0 : w.heap.size < w5.heap.size := (by omega)))
  (try (have z5w1 : w.heap.size + 1 < w5.heap.size := (by omega)))
  (try (have z5w2 : w.heap.size + 1 + 1 < w5.heap.size := (by omega)))
  (try (have z5w3 : w.heap.size + 1 + 1 + 1 < w5.heap.size := (by omega)))
  (try (have z5w10 : w1.heap.size < w5.heap.size := (by omega)))
  (try (have z5w11 : w1.heap.size + 1 < w5.heap.size := (by omega)))
  (try (have z5w12 : w1.heap.size + 1 + 1 < w5.heap.size := (by omega)))
  (try (have z5w13 : w1.heap.size + 1 + 1 + 1 < w5.heap.size := (by omega)))
  (try (have z5w20 : w2.heap.size < w5.heap.size := (by omega)))
  (try (have z5w21 : w2.heap.size + 1 < w5.heap.size := (by omega)))
  (try (have z5w22 : w2.heap.size + 1 + 1 < w5.heap.size := (by omega)))
  (try (have z5w23 : w2.heap.size + 1 + 1 + 1 < w5.heap.size := (by omega)))
  (try (have z5w30 : w3.heap.size < w5.heap.size := (by omega)))
  (try (have z5w31 : w3.heap.size + 1 < w5.heap.size := (by omega)))
  (try (have z5w32 : w3.heap.size + 1 + 1 < w5.heap.size := (by omega)))
  (try (have z5w33 : w3.heap.size + 1 + 1 + 1 < w5.heap.size := (by omega)))
  (try (have z5w40 : w4.heap.size < w5.heap.size := (by omega)))
  (try (have z5w41 : w4.heap.size + 1 < w5.heap.size := (by omega)))
  (try (have z5w42 : w4.heap.size + 1 + 1 < w5.heap.size := (by omega)))
  (try (have z5w43 : w4.heap.size + 1 + 1 + 1 < w5.heap.size := (by omega)))
  have hH5 := Held.step (w0 := w) (by repeat (first | assumption | refine Held.alloc ?_ _ | refine Held.drew ?_)) HB
  clear HB
  go_wp2_with (first | (go_at_call 54; (with_reducible refine (sure03 _ (Held.handle (w0 := w) (by repeat (first | assumption | refine Held.alloc ?_ _ | refine Held.drew ?_)))).mono ?_); rintro e w' ⟨rfl, hb'⟩; obtain ⟨hc, hf⟩ := bcell hb'; have hz := hb'.size; (try (simp at hz)); have hH' := Held.step (w0 := w) (by repeat (first | assumption | refine Held.alloc ?_ _ | refine Held.drew ?_)) hb'; clear hb'))
  all_goals go_ret
  all_goals exact ⟨rfl, Held.below (w0 := w) (by assumption)⟩
set_option maxRecDepth 100000 in
set_option maxHeartbeats 16000000 in
theorem near_all (a b n0 n1 : Int) (w : World) (M S : Int) (m0 : 1 ≤ M) (m1 : M < 4294967296) (s0 : 0 ≤ S) (s1 : S ≤ 31) (hF : ∀ w : World, Calls Tryd.prog 43 #[.int .u64 a, .int .u64 b] w fun e w' => e = .returned (.tuple #[.agg #[.int .u32 M, .int .i64 S], .nilIface]) ∧ Below w.heap.size w w') (p0 : 0 ≤ n0) (p1 : n0 ≤ n1) (p2 : n1 ≤ 4611686018427387904) (a0 : 1 ≤ a) (a1 : a ≤ 1099511627776) (b0 : 1 ≤ b) (b1 : b ≤ 1099511627776) (hx : InR (n0 * M / 2 ^ S.toNat)) (hy : InR (n1 * M / 2 ^ S.toNat)) (he : InR (n0 * a / b)) (g1 : n0 * M / 2 ^ S.toNat ≤ n1 * M / 2 ^ S.toNat) (g2 : n0 * M / 2 ^ S.toNat ≤ n0 * a / b) (g3 : n0 * a / b - n0 * M / 2 ^ S.toNat ≤ n0 / 2 ^ S.toNat + 2) (g4 : 0 ≤ n0 * M / 2 ^ S.toNat) (hg : w.cell? ⟨0, 0, none⟩ = some asHandle) :
    Calls Tryd.prog 8 #[.int .u64 a, .int .u64 b, .agg #[.int .i64 n0, .int .i64 n1]] w fun e w' => e = .returned (.bool true) ∧ Below w.heap.size w w' := by
  have hH := Held.start hg
  have c1 : wrap64 a = a := IntWalk.wrap64_in _ (by omega)
  have c2 : wrap64 b = b := IntWalk.wrap64_in _ (by omega)
  have w1' : wrap64 (n0 * a / b - n0 * M / 2 ^ S.toNat) = n0 * a / b - n0 * M / 2 ^ S.toNat := IntWalk.wrap64_in _ (by omega)
  go_enter Tryd.func8, Tryd.ntmps8
  go_wp2_with (fail)
  go_at_call 43
  (with_reducible refine (hF _).mono ?_)
  rintro e w1 ⟨rfl, HB⟩
  obtain ⟨hc1, hf1⟩ := bcell HB
  obtain ⟨hd1, hh1⟩ := bcell2 (U := w) (by repeat (first | exact Below.refl _ _ | refine Below.setCell ?_ (by simp <;> omega) _ | refine Below.alloc ?_ (by simp <;> omega) _ | refine Below.drew ?_)) HB
  have hz1 := HB.size
  try simp at hz1
  (try (have z1w0 : w.heap.size < w1.heap.size := (by omega)))
  (try (have z1w1 : w.heap.size + 1 < w1.heap.size := (by omega)))
  (try (have z1w2 : w.heap.size + 1 + 1 < w1.heap.size := (by omega)))
  (try (have z1w3 : w.heap.size + 1 + 1 + 1 < w1.heap.size := (by omega)))
  have hH1 := Held.step (w0 := w) (by repeat (first | assumption | refine Held.alloc ?_ _ | refine Held.drew ?_)) HB
  clear HB
  go_wp2_with (fail)
  go_at_call 45
  (with_reducible refine (rscale _ _ n0 _ m0 m1 s0 s1 (by omega) hx).mono ?_)
  rintro e w2 ⟨rfl, HB⟩
  obtain ⟨hc2, hf2⟩ := bcell HB
  obtain ⟨hd2, hh2⟩ := bcell2 (U := w1) (by repeat (first | exact Below.refl _ _ | refine Below.setCell ?_ (by simp <;> omega) _ | refine Below.alloc ?_ (by simp <;> omega) _ | refine Below.drew ?_)) HB
  have hz2 := HB.size
  try simp at hz2
  (try (have z2w0 : w.heap.size < w2.heap.size := (by omega)))
  (try (have z2w1 : w.heap.size + 1 < w2.heap.size := (by omega)))
  (try (have z2w2 : w.heap.size + 1 + 1 < w2.heap.size := (by omega)))
  (try (have z2w3 : w.heap.size + 1 + 1 + 1 < w2.heap.size := (by omega)))
  (try (have z2w10 : w1.heap.size < w2.heap.size := (by omega)))
  (try (have z2w11 : w1.heap.size + 1 < w2.heap.size := (by omega)))
  (try (have z2w12 : w1.heap.size + 1 + 1 < w2.heap.size := (by omega)))
  (try (have z2w13 : w1.heap.size + 1 + 1 + 1 < w2.heap.size := (by omega)))
  have hH2 := Held.step (w0 := w) (by repeat (first | assumption | refine Held.alloc ?_ _ | refine Held.drew ?_)) HB
  clear HB
  go_wp2_with (fail)
  go_at_call 45
  (with_reducible refine (rscale _ _ n1 _ m0 m1 s0 s1 (by omega) hy).mono ?_)
  rintro e w3 ⟨rfl, HB⟩
  obtain ⟨hc3, hf3⟩ := bcell HB
  obtain ⟨hd3, hh3⟩ := bcell2 (U := w2) (by repeat (first | exact Below.refl _ _ | refine Below.setCell ?_ (by simp <;> omega) _ | refine Below.alloc ?_ (by simp <;> omega) _ | refine Below.drew ?_)) HB
  have hz3 := HB.size
  try simp at hz3
  (try (have z3w0 : w.heap.size < w3.heap.size := (by omega)))
  (try (have z3w1 : w.heap.size + 1 < w3.heap.size := (by omega)))
  (try (have z3w2 : w.heap.size + 1 + 1 < w3.heap.size := (by omega)))
  (try (have z3w3 : w.heap.size + 1 + 1 + 1 < w3.heap.size := (by omega)))
  (try (have z3w10 : w1.heap.size < w3.heap.size := (by omega)))
  (try (have z3w11 : w1.heap.size + 1 < w3.heap.size := (by omega)))
  (try (have z3w12 : w1.heap.size + 1 + 1 < w3.heap.size := (by omega)))
  (try (have z3w13 : w1.heap.size + 1 + 1 + 1 < w3.heap.size := (by omega)))
  (try (have z3w20 : w2.heap.size < w3.heap.size := (by omega)))
  (try (have z3w21 : w2.heap.size + 1 < w3.heap.size := (by omega)))
  (try (have z3w22 : w2.heap.size + 1 + 1 < w3.heap.size := (by omega)))
  (try (have z3w23 : w2.heap.size + 1 + 1 + 1 < w3.heap.size := (by omega)))
  have hH3 := Held.step (w0 := w) (by repeat (first | assumption | refine Held.alloc ?_ _ | refine Held.drew ?_)) HB
  clear HB
  go_wp2_with (fail)
  go_at_call 39
  (with_reducible refine (wmuldiv n0 a b _ (by omega) (by omega) b0 (by omega) he).mono ?_)
  rintro e w4 ⟨rfl, HB⟩
  obtain ⟨hc4, hf4⟩ := bcell HB
  obtain ⟨hd4, hh4⟩ := bcell2 (U := w3) (by repeat (first | exact Below.refl _ _ | refine Below.setCell ?_ (by simp <;> omega) _ | refine Below.alloc ?_ (by simp <;> omega) _ | refine Below.drew ?_)) HB
  have hz4 := HB.size
  try simp at hz4
  (try (have z4w0 : w.heap.size < w4.heap.size := (by omega)))
  (try (have z4w1 : w.heap.size + 1 < w4.heap.size := (by omega)))
  (try (have z4w2 : w.heap.size + 1 + 1 < w4.heap.size := (by omega)))
  (try (have z4w3 : w.heap.size + 1 + 1 + 1 < w4.heap.size := (by omega)))
  (try (have z4w10 : w1.heap.size < w4.heap.size := (by omega)))
  (try (have z4w11 : w1.heap.size + 1 < w4.heap.size := (by omega)))
  (try (have z4w12 : w1.heap.size + 1 + 1 < w4.heap.size := (by omega)))
  (try (have z4w13 : w1.heap.size + 1 + 1 + 1 < w4.heap.size := (by omega)))
  (try (have z4w20 : w2.heap.size < w4.heap.size := (by omega)))
  (try (have z4w21 : w2.heap.size + 1 < w4.heap.size := (by omega)))
  (try (have z4w22 : w2.heap.size + 1 + 1 < w4.heap.size := (by omega)))
  (try (have z4w23 : w2.heap.size + 1 + 1 + 1 < w4.heap.size := (by omega)))
  (try (have z4w30 : w3.heap.size < w4.heap.size := (by omega)))
  (try (have z4w31 : w3.heap.size + 1 < w4.heap.size := (by omega)))
  (try (have z4w32 : w3.heap.size + 1 + 1 < w4.heap.size := (by omega)))
  (try (have z4w33 : w3.heap.size + 1 + 1 + 1 < w4.heap.size := (by omega)))
  have hH4 := Held.step (w0 := w) (by repeat (first | assumption | refine Held.alloc ?_ _ | refine Held.drew ?_)) HB
  clear HB
  go_wp2_with (fail)
  go_at_call 47
  (with_reducible refine (roff _ _ n0 _ m0 m1 s0 s1 p0 (by omega)).mono ?_)
  rintro e w5 ⟨rfl, HB⟩
  obtain ⟨hc5, hf5⟩ := bcell HB
  obtain ⟨hd5, hh5⟩ := bcell2 (U := w4) (by repeat (first | exact Below.refl _ _ | refine Below.setCell ?_ (by simp <;> omega) _ | refine Below.alloc ?_ (by simp <;> omega) _ | refine Below.drew ?_)) HB
  have hz5 := HB.size
  try simp at hz5
  (try (have z5w0 : w.heap.size < w5.heap.size := (by omega)))
  (try (have z5w1 : w.heap.size + 1 < w5.heap.size := (by omega)))
  (try (have z5w2 : w.heap.size + 1 + 1 < w5.heap.size := (by omega)))
  (try (have z5w3 : w.heap.size + 1 + 1 + 1 < w5.heap.size := (by omega)))
  (try (have z5w10 : w1.heap.size < w5.heap.size := (by omega)))
  (try (have z5w11 : w1.heap.size + 1 < w5.heap.size := (by omega)))
  (try (have z5w12 : w1.heap.size + 1 + 1 < w5.heap.size := (by omega)))
  (try (have z5w13 : w1.heap.size + 1 + 1 + 1 < w5.heap.size := (by omega)))
  (try (have z5w20 : w2.heap.size < w5.heap.size := (by omega)))
  (try (have z5w21 : w2.heap.size + 1 < w5.heap.size := (by omega)))
  (try (have z5w22 : w2.heap.size + 1 + 1 < w5.heap.size := (by omega)))
  (try (have z5w23 : w2.heap.size + 1 + 1 + 1 < w5.heap.size := (by omega)))
  (try (have z5w30 : w3.heap.size < w5.heap.size := (by omega)))
  (try (have z5w31 : w3.heap.size + 1 < w5.heap.size := (by omega)))
  (try (have z5w32 : w3.heap.size + 1 + 1 < w5.heap.size := (by omega)))
  (try (have z5w33 : w3.heap.size + 1 + 1 + 1 < w5.heap.size := (by omega)))
  (try (have z5w40 : w4.heap.size < w5.heap.size := (by omega)))
  (try (have z5w41 : w4.heap.size + 1 < w5.heap.size := (by omega)))
  (try (have z5w42 : w4.heap.size + 1 + 1 < w5.heap.size := (by omega)))
  (try (have z5w43 : w4.heap.size + 1 + 1 + 1 < w5.heap.size := (by omega)))
  have hH5 := Held.step (w0 := w) (by repeat (first | assumption | refine Held.alloc ?_ _ | refine Held.drew ?_)) HB
  clear HB
  go_wp2_with (first | (go_at_call 54; (with_reducible refine (sure03 _ (Held.handle (w0 := w) (by repeat (first | assumption | refine Held.alloc ?_ _ | refine Held.drew ?_)))).mono ?_); rintro e w' ⟨rfl, hb'⟩; obtain ⟨hc, hf⟩ := bcell hb'; have hz := hb'.size; (try (simp at hz)); have hH' := Held.step (w0 := w) (by repeat (first | assumption | refine Held.alloc ?_ _ | refine Held.drew ?_)) hb'; clear hb'))
  all_goals go_ret
  all_goals exact ⟨rfl, Held.below (w0 := w) (by assumption)⟩
theorem walkRatioNear (a b n0 n1 : Int) (ha : 0 ≤ a ∧ a ≤ 18446744073709551615) (hb : 0 ≤ b ∧ b ≤ 18446744073709551615) (h0 : InR n0) (h1 : InR n1) (w : World) (hg : w.cell? ⟨0, 0, none⟩ = some asHandle) :
    Calls Tryd.prog 8 #[.int .u64 a, .int .u64 b, .agg #[.int .i64 n0, .int .i64 n1]] w fun e w' => e = .returned (.bool true) ∧ Below w.heap.size w w' := by
  by_cases hab : 1 ≤ a ∧ a ≤ 1099511627776 ∧ 1 ≤ b ∧ b ≤ 1099511627776
  · obtain ⟨a0, a1, b0, b1⟩ := hab
    rcases fit_cases a b with ⟨S, hS, hbig, hfit⟩ | hnone
    · have hp : (0 : Int) < 2 ^ S := Int.pow_pos (by omega)
      have hM0 : 0 ≤ a * 2 ^ S / b := Int.ediv_nonneg (Int.mul_nonneg (by omega) (by omega)) (by omega)
      by_cases hz : a * 2 ^ S / b = 0
      · exact near_fail a b n0 n1 w 2 (fun w => fit_zero a b w a0 a1 b0 b1 S hS hbig hz) hg
      · have hF := fun w => fit_at a b w a0 a1 b0 b1 S hS hbig hfit (by omega)
        by_cases hn : 0 ≤ n0 ∧ n0 ≤ 4611686018427387904 ∧ n0 ≤ n1 ∧ n1 ≤ 4611686018427387904
        · obtain ⟨p0, p1, p2, p3⟩ := hn
          obtain ⟨g4, g1, g2, g3, g5⟩ := near_nums (n0 := n0) (n1 := n1) (M := a * 2 ^ S / b) (a := a) (b := b) hp (by omega) (by omega) rfl p0 p2
          have e1 : ((S : Int)).toNat = S := by omega
          by_cases hx : InR (n0 * (a * 2 ^ S / b) / 2 ^ S)
          all_goals by_cases hy : InR (n1 * (a * 2 ^ S / b) / 2 ^ S)
          all_goals by_cases he : InR (n0 * a / b)
          · exact near_all a b n0 n1 w _ S (by omega) (by omega) (by omega) (by omega) hF p0 p2 p3 a0 a1 b0 b1 (by rw [e1]; exact hx) (by rw [e1]; exact hy) he (by rw [e1]; exact g1) (by rw [e1]; exact g2) (by rw [e1]; exact g3) (by rw [e1]; exact g4) hg
          · exact near_e a b n0 n1 w _ S (by omega) (by omega) (by omega) (by omega) hF p0 p2 p3 a0 a1 b0 b1 (by rw [e1]; exact hx) (by rw [e1]; exact hy) he hg
          · exact near_yxe a b n0 n1 w _ S (by omega) (by omega) (by omega) (by omega) hF p0 p2 p3 a0 a1 b0 b1 (by rw [e1]; exact hx) (by rw [e1]; exact hy) he hg
          · exact near_yx a b n0 n1 w _ S (by omega) (by omega) (by omega) (by omega) hF p0 p2 p3 a0 a1 b0 b1 (by rw [e1]; exact hx) (by rw [e1]; exact hy) he hg
          · exfalso; omega
          · exfalso; omega
          · exact near_ye a b n0 n1 w _ S (by omega) (by omega) (by omega) (by omega) hF p0 p2 p3 a0 a1 b0 b1 (by rw [e1]; exact hx) (by rw [e1]; exact hy) he hg
          · exact near_y a b n0 n1 w _ S (by omega) (by omega) (by omega) (by omega) hF p0 p2 p3 a0 a1 b0 b1 (by rw [e1]; exact hx) (by rw [e1]; exact hy) he hg
        · exact near_out a b n0 n1 w _ S (by omega) (by omega) (by omega) (by omega) hF hn hg
    · exact near_fail a b n0 n1 w 2 (fun w => fit_none a b w a0 a1 b0 b1 hnone) hg
  · exact near_fail a b n0 n1 w 1 (fun w => fit_arg a b w ha.1 hb.1 (by omega)) hg
theorem clampS_mono {p q : Int} (h : p ≤ q) : clampS p (-1073741824) 1073741824 ≤ clampS q (-1073741824) 1073741824 := by
  unfold clampS; split <;> split <;> (try split) <;> (try split) <;> omega
theorem adj_zero (m : Int) : adjF m 0 = m := by
  unfold adjF
  rw [show clampS 0 (-1073741824) 1073741824 = 0 from rfl]
  omega
theorem adj_one (m : Int) : adjF m 1073741824 = 2 * m := by
  unfold adjF
  rw [show clampS 1073741824 (-1073741824) 1073741824 = 1073741824 from rfl]
  omega
theorem adj_mono {m p q : Int} (hm : 0 ≤ m) (h : p ≤ q) : adjF m p ≤ adjF m q := by
  unfold adjF
  exact Int.ediv_le_ediv (by omega) (Int.mul_le_mul_of_nonneg_left (by have := clampS_mono h; omega) hm)
/-- an operation of a drawn region that its guard leaves out -/
theorem still_skip {P : Program} {ops : Array Oper} {w : World} {Q : Act → Prop} {a : Act} {o : Oper} {rest : List Oper} (hw : Region.wanted o (yielded ops a.tmps) = false) (h : wpStill P ops w Q rest (a.put o.dst undef)) : wpStill P ops w Q (o :: rest) a := by
  refine wpStill_step (fun K hK => ?_)
  rw [if_neg (by rw [hw]; exact Bool.false_ne_true)]
  exact hK _ h
abbrev SA (w : World) (b0 : Nat) (v00 v01 : Value) (b1 : Nat) (v10 v11 : Value) (b2 : Nat) (v20 v21 : Value) (b3 : Nat) (v30 v31 : Value) (b4 : Nat) (v40 v41 : Value) (b5 : Nat) (v50 v51 : Value) (wx : World) : Prop := Held w wx ∧ B2 b0 v00 v01 wx ∧ B2 b1 v10 v11 wx ∧ B2 b2 v20 v21 wx ∧ B2 b3 v30 v31 wx ∧ B2 b4 v40 v41 wx ∧ B2 b5 v50 v51 wx
theorem SA.step {w : World} {b0 : Nat} {v00 v01 : Value} {b1 : Nat} {v10 v11 : Value} {b2 : Nat} {v20 v21 : Value} {b3 : Nat} {v30 v31 : Value} {b4 : Nat} {v40 v41 : Value} {b5 : Nat} {v50 v51 : Value} {wx w' : World} (h : SA w b0 v00 v01 b1 v10 v11 b2 v20 v21 b3 v30 v31 b4 v40 v41 b5 v50 v51 wx) (hb : Below wx.heap.size wx w') : SA w b0 v00 v01 b1 v10 v11 b2 v20 v21 b3 v30 v31 b4 v40 v41 b5 v50 v51 w' := ⟨(h.1).step hb, (h.2.1).step hb, (h.2.2.1).step hb, (h.2.2.2.1).step hb, (h.2.2.2.2.1).step hb, (h.2.2.2.2.2.1).step hb, (h.2.2.2.2.2.2).step hb⟩
theorem SA.drew {w : World} {b0 : Nat} {v00 v01 : Value} {b1 : Nat} {v10 v11 : Value} {b2 : Nat} {v20 v21 : Value} {b3 : Nat} {v30 v31 : Value} {b4 : Nat} {v40 v41 : Value} {b5 : Nat} {v50 v51 : Value} {wx : World} (h : SA w b0 v00 v01 b1 v10 v11 b2 v20 v21 b3 v30 v31 b4 v40 v41 b5 v50 v51 wx) : SA w b0 v00 v01 b1 v10 v11 b2 v20 v21 b3 v30 v31 b4 v40 v41 b5 v50 v51 wx.drew := h.step (Below.refl _ _).drew
theorem SA.held {w : World} {b0 : Nat} {v00 v01 : Value} {b1 : Nat} {v10 v11 : Value} {b2 : Nat} {v20 v21 : Value} {b3 : Nat} {v30 v31 : Value} {b4 : Nat} {v40 v41 : Value} {b5 : Nat} {v50 v51 : Value} {wx : World} (h : SA w b0 v00 v01 b1 v10 v11 b2 v20 v21 b3 v30 v31 b4 v40 v41 b5 v50 v51 wx) : Held w wx := h.1
set_option maxRecDepth 100000 in
set_option maxHeartbeats 16000000 in
theorem adj_bad (m s b0 b1 : Int) (w : World) (hm : ¬ (1 ≤ m ∧ 0 ≤ s ∧ s ≤ 31)) (m0 : 0 ≤ m) (hg : w.cell? ⟨0, 0, none⟩ = some asHandle) :
    Calls Tryd.prog 9 #[.agg #[.int .u32 m, .int .i64 s], .agg #[.int .i32 b0, .int .i32 b1]] w fun e w' => e = .returned (.bool true) ∧ Below w.heap.size w w' := by
  have hH := Held.start hg
  go_enter Tryd.func9, Tryd.ntmps9
  go_wp2_with (fail)
  go_at_call 52
  (with_reducible refine (rcheck_no _ _ _ hm m0).mono ?_)
  rintro e w1 ⟨rfl, HB⟩
  obtain ⟨hc1, hf1⟩ := bcell HB
  obtain ⟨hd1, hh1⟩ := bcell2 (U := w) (by repeat (first | exact Below.refl _ _ | refine Below.setCell ?_ (by simp <;> omega) _ | refine Below.alloc ?_ (by simp <;> omega) _ | refine Below.drew ?_)) HB
  have hz1 := HB.size
  try simp at hz1
  (try (have z1w0 : w.heap.size < w1.heap.size := (by omega)))
  (try (have z1w1 : w.heap.size + 1 < w1.heap.size := (by omega)))
  (try (have z1w2 : w.heap.size + 1 + 1 < w1.heap.size := (by omega)))
  (try (have z1w3 : w.heap.size + 1 + 1 + 1 < w1.heap.size := (by omega)))
  have hH1 := Held.step (w0 := w) (by repeat (first | assumption | refine Held.alloc ?_ _ | refine Held.drew ?_)) HB
  clear HB
  go_wp2_with (fail)
  go_at_call 49
  (with_reducible refine (radj_no _ _ 0 _ hm m0).mono ?_)
  rintro e w2 ⟨rfl, HB⟩
  obtain ⟨hc2, hf2⟩ := bcell HB
  obtain ⟨hd2, hh2⟩ := bcell2 (U := w1) (by repeat (first | exact Below.refl _ _ | refine Below.setCell ?_ (by simp <;> omega) _ | refine Below.alloc ?_ (by simp <;> omega) _ | refine Below.drew ?_)) HB
  have hz2 := HB.size
  try simp at hz2
  (try (have z2w0 : w.heap.size < w2.heap.size := (by omega)))
  (try (have z2w1 : w.heap.size + 1 < w2.heap.size := (by omega)))
  (try (have z2w2 : w.heap.size + 1 + 1 < w2.heap.size := (by omega)))
  (try (have z2w3 : w.heap.size + 1 + 1 + 1 < w2.heap.size := (by omega)))
  (try (have z2w10 : w1.heap.size < w2.heap.size := (by omega)))
  (try (have z2w11 : w1.heap.size + 1 < w2.heap.size := (by omega)))
  (try (have z2w12 : w1.heap.size + 1 + 1 < w2.heap.size := (by omega)))
  (try (have z2w13 : w1.heap.size + 1 + 1 + 1 < w2.heap.size := (by omega)))
  have hH2 := Held.step (w0 := w) (by repeat (first | assumption | refine Held.alloc ?_ _ | refine Held.drew ?_)) HB
  clear HB
  go_wp2_with (first | (go_at_call 51; (with_reducible refine (num03_nil _).mono ?_); rintro e w' ⟨rfl, hb'⟩; obtain ⟨hc, hf⟩ := bcell hb'; have hz := hb'.size; (try (simp at hz)); have hH' := Held.step (w0 := w) (by repeat (first | assumption | refine Held.alloc ?_ _ | refine Held.drew ?_)) hb'; clear hb') | (go_at_call 51; (with_reducible refine (num03_err _ _ (Held.handle (w0 := w) (by repeat (first | assumption | refine Held.alloc ?_ _ | refine Held.drew ?_)))).mono ?_); rintro e w' ⟨rfl, hb'⟩; obtain ⟨hc, hf⟩ := bcell hb'; have hz := hb'.size; (try (simp at hz)); have hH' := Held.step (w0 := w) (by repeat (first | assumption | refine Held.alloc ?_ _ | refine Held.drew ?_)) hb'; clear hb') | (go_at_call 54; (with_reducible refine (sure03 _ (Held.handle (w0 := w) (by repeat (first | assumption | refine Held.alloc ?_ _ | refine Held.drew ?_)))).mono ?_); rintro e w' ⟨rfl, hb'⟩; obtain ⟨hc, hf⟩ := bcell hb'; have hz := hb'.size; (try (simp at hz)); have hH' := Held.step (w0 := w) (by repeat (first | assumption | refine Held.alloc ?_ _ | refine Held.drew ?_)) hb'; clear hb'))
  all_goals go_ret
  all_goals exact ⟨rfl, Held.below (w0 := w) (by assumption)⟩
end Go.Proofs.YtffdglhdklmjoaaDoor
