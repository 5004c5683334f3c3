/-
  Layer 14: what the program tells of samples that may be.
-/
import Derived.Test.YtffdglhdklmjoaaDoorW14c
namespace Go.Proofs.YtffdglhdklmjoaaDoor
open Go.RowKit Go.Extern.Stop Go.Stop Go.Extern
set_option linter.unusedVariables false
set_option linter.unusedSimpArgs false
abbrev mU (rho gone : Int) : Int := upK (gone * rho)
theorem mU_rng {rho gone : Int} (r0 : 0 ≤ rho) (r1 : rho ≤ 1048576) (g0 : 0 ≤ gone) (g1 : gone ≤ 9223372036854775807) : 0 ≤ mU rho gone ∧ mU rho gone ≤ 9007199254740992 := by
  unfold mU upK
  have h0 : 0 ≤ gone * rho := Int.mul_nonneg g0 r0
  have h1 : gone * rho ≤ 9223372036854775807 * 1048576 := Int.mul_le_mul g1 r1 r0 (by omega)
  omega
def loS (S G E m : Int) : Int := sat (S - G - (E + m))
def hiS (A C E m : Int) : Int := sat (C - A + (E + m))
theorem lo_hi {A C S G E m : Int} (h0 : S - C ≤ G - A) (h1 : 0 ≤ E + m) : loS S G E m ≤ hiS A C E m := sat_mono (by omega)
theorem sat_r (n : Int) : InR (sat n) := by unfold sat; split; omega; split <;> omega
set_option maxHeartbeats 4000000 in
theorem of_yes (A C S G E rho m : Int) (w : World) (h : OkR A C S G E rho) (hm : mU rho (G - A) = m) : Calls Tryd.prog 83 #[.agg #[.int .i64 A, .int .i64 C, .int .i64 S, .int .i64 G, .int .i64 E], .int .i64 rho] w fun e w' => e = .returned (.tuple #[.agg #[.int .i64 (sat (S - G - (E + m))), .int .i64 (sat (C - A + (E + m)))], .nilIface]) ∧ Below w.heap.size w w' := by
  have hB := Below.refl w.heap.size w
  have HN := Lib.hid h
  obtain ⟨⟨hA, hC, hS, hG, hE0, hE1, h1, h3, h2, h4⟩, r0, r1⟩ := h
  have k1 : wrap64 (G - A) = G - A := IntWalk.wrap64_in _ (by omega)
  have k2 : wrap64 (S - G) = S - G := IntWalk.wrap64_in _ (by omega)
  have k3 : wrap64 (C - A) = C - A := IntWalk.wrap64_in _ (by omega)
  have hm0 : 0 ≤ m ∧ m ≤ 9007199254740992 := by rw [← hm]; exact mU_rng r0 r1 h1 (by omega)
  have k4 : wrap64 (E + m) = E + m := IntWalk.wrap64_in _ (by omega)
  have HM := Lib.hid hm
  clear hm
  go_enter Tryd.func83, Tryd.ntmps83
  go_wp2_with (fail)
  go_at_call 115
  (with_reducible refine (check2_yes _ _ _ _ _ _ _ HN.out).mono ?_)
  rintro e w1 ⟨rfl, HB⟩
  obtain ⟨hc1, hf1⟩ := bcell HB
  have hz1 := HB.size
  try simp at hz1
  replace hB := Below.trans (show Below w.heap.size w _ from by repeat (first | with_reducible assumption | exact Below.refl _ _ | refine Below.drew ?_ | refine Below.setCell ?_ (by first | omega | (simp; done) | (simp; omega)) _ | refine Below.alloc ?_ (by first | omega | (simp; done) | (simp; omega)) _)) (Below.mono (B' := w.heap.size) HB (by first | omega | (simp; done) | (simp; omega)))
  try (have z1w0 : w.heap.size < w1.heap.size := (by omega))
  try (have z1w1 : w.heap.size + 1 < w1.heap.size := (by omega))
  try (have z1w2 : w.heap.size + 1 + 1 < w1.heap.size := (by omega))
  clear HB
  go_wp2_with (fail)
  go_at_call 116
  (with_reducible refine (growth_v _ _ m _ r0 (by omega) h1 (by omega) HM.out.symm).mono ?_)
  rintro e w2 ⟨rfl, HB⟩
  obtain ⟨hc2, hf2⟩ := bcell HB
  have hz2 := HB.size
  try simp at hz2
  replace hB := Below.trans (show Below w.heap.size w _ from by repeat (first | with_reducible assumption | exact Below.refl _ _ | refine Below.drew ?_ | refine Below.setCell ?_ (by first | omega | (simp; done) | (simp; omega)) _ | refine Below.alloc ?_ (by first | omega | (simp; done) | (simp; omega)) _)) (Below.mono (B' := w.heap.size) HB (by first | omega | (simp; done) | (simp; omega)))
  try (have z2w0 : w.heap.size < w2.heap.size := (by omega))
  try (have z2w1 : w.heap.size + 1 < w2.heap.size := (by omega))
  try (have z2w2 : w.heap.size + 1 + 1 < w2.heap.size := (by omega))
  try (have z2w10 : w1.heap.size < w2.heap.size := (by omega))
  try (have z2w11 : w1.heap.size + 1 < w2.heap.size := (by omega))
  try (have z2w12 : w1.heap.size + 1 + 1 < w2.heap.size := (by omega))
  clear HB
  go_wp2_with (fail)
  go_at_call 117
  (with_reducible refine (sp_grow _ _ _ _ (by omega) (by omega) (by omega) (by omega) (by omega)).mono ?_)
  rintro e w3 ⟨rfl, HB⟩
  obtain ⟨hc3, hf3⟩ := bcell HB
  have hz3 := HB.size
  try simp at hz3
  replace hB := Below.trans (show Below w.heap.size w _ from by repeat (first | with_reducible assumption | exact Below.refl _ _ | refine Below.drew ?_ | refine Below.setCell ?_ (by first | omega | (simp; done) | (simp; omega)) _ | refine Below.alloc ?_ (by first | omega | (simp; done) | (simp; omega)) _)) (Below.mono (B' := w.heap.size) HB (by first | omega | (simp; done) | (simp; omega)))
  try (have z3w0 : w.heap.size < w3.heap.size := (by omega))
  try (have z3w1 : w.heap.size + 1 < w3.heap.size := (by omega))
  try (have z3w2 : w.heap.size + 1 + 1 < w3.heap.size := (by omega))
  try (have z3w10 : w1.heap.size < w3.heap.size := (by omega))
  try (have z3w11 : w1.heap.size + 1 < w3.heap.size := (by omega))
  try (have z3w12 : w1.heap.size + 1 + 1 < w3.heap.size := (by omega))
  try (have z3w20 : w2.heap.size < w3.heap.size := (by omega))
  try (have z3w21 : w2.heap.size + 1 < w3.heap.size := (by omega))
  try (have z3w22 : w2.heap.size + 1 + 1 < w3.heap.size := (by omega))
  clear HB
  go_wp2_with (fail)
  refine bodyPost_ret (v := .tuple #[.agg #[.int .i64 (sat (S - G - (E + m))), .int .i64 (sat (C - A + (E + m)))], .nilIface]) (by first | (simp [results, Tryd.results83, go_sem]; done) | (simp only [results, Tryd.results83]; go_simp; done) | (simp only [results, Tryd.results83]; go_simp; omega)) rfl (⟨rfl, by repeat (first | with_reducible assumption | exact Below.refl _ _ | refine Below.drew ?_ | refine Below.setCell ?_ (by first | omega | (simp; done) | (simp; omega)) _ | refine Below.alloc ?_ (by first | omega | (simp; done) | (simp; omega)) _)⟩)
set_option maxHeartbeats 1000000 in
theorem told_p (A C S G E rho now : Int) (w : World) (h : OkR A C S G E rho) (iN : InR now) (hn : now < G) : Calls Tryd.prog 85 #[.agg #[.int .i64 A, .int .i64 C, .int .i64 S, .int .i64 G, .int .i64 E], .int .i64 rho, .int .i64 now] w fun e w' => e = .returned (.tuple #[.agg #[.int .i64 0, .int .i64 0], errV 10]) ∧ Below w.heap.size w w' := by
  have hB := Below.refl w.heap.size w
  have HN := Lib.hid h
  obtain ⟨⟨hA, hC, hS, hG, hE0, hE1, h1, h3, h2, h4⟩, r0, r1⟩ := h
  go_enter Tryd.func85, Tryd.ntmps85
  go_wp2_with (fail)
  go_at_call 115
  (with_reducible refine (check2_yes _ _ _ _ _ _ _ HN.out).mono ?_)
  rintro e w1 ⟨rfl, HB⟩
  obtain ⟨hc1, hf1⟩ := bcell HB
  have hz1 := HB.size
  try simp at hz1
  replace hB := Below.trans (show Below w.heap.size w _ from by repeat (first | with_reducible assumption | exact Below.refl _ _ | refine Below.drew ?_ | refine Below.setCell ?_ (by first | omega | (simp; done) | (simp; omega)) _ | refine Below.alloc ?_ (by first | omega | (simp; done) | (simp; omega)) _)) (Below.mono (B' := w.heap.size) HB (by first | omega | (simp; done) | (simp; omega)))
  try (have z1w0 : w.heap.size < w1.heap.size := (by omega))
  try (have z1w1 : w.heap.size + 1 < w1.heap.size := (by omega))
  try (have z1w2 : w.heap.size + 1 + 1 < w1.heap.size := (by omega))
  clear HB
  go_wp2_with (fail)
  refine bodyPost_ret (v := .tuple #[.agg #[.int .i64 0, .int .i64 0], errV 10]) (by first | (simp [results, Tryd.results85, go_sem]; done) | (simp only [results, Tryd.results85]; go_simp; done) | (simp only [results, Tryd.results85]; go_simp; omega)) rfl (⟨rfl, by repeat (first | with_reducible assumption | exact Below.refl _ _ | refine Below.drew ?_ | refine Below.setCell ?_ (by first | omega | (simp; done) | (simp; omega)) _ | refine Below.alloc ?_ (by first | omega | (simp; done) | (simp; omega)) _)⟩)
set_option maxHeartbeats 8000000 in
theorem told_yes (A C S G E rho now m m2 : Int) (w : World) (h : OkR A C S G E rho) (iN : InR now) (hn : G ≤ now) (hn2 : now < 4611686018427387904) (hm : mU rho (G - A) = m) (hm2 : mU rho (now - G) = m2) : Calls Tryd.prog 85 #[.agg #[.int .i64 A, .int .i64 C, .int .i64 S, .int .i64 G, .int .i64 E], .int .i64 rho, .int .i64 now] w fun e w' => e = .returned (.tuple #[.agg #[.int .i64 (sat (sat ((loS S G E m) + now) - m2)), .int .i64 (sat (sat ((hiS A C E m) + now) + m2))], .nilIface]) ∧ Below w.heap.size w w' := by
  have hB := Below.refl w.heap.size w
  have HN := Lib.hid h
  have HM := Lib.hid hm
  have hE9 : 0 ≤ E + m := by have := (mU_rng h.2.1 h.2.2 h.1.2.2.2.2.2.2.1 (show G - A ≤ 9223372036854775807 by have := h.1.2.2.2.2.2.2.2.2.1; omega)).1; rw [hm] at this; have := h.1.2.2.2.2.1; omega
  have hlh : loS S G E m ≤ hiS A C E m := lo_hi h.1.2.2.2.2.2.2.2.2.2 hE9
  have hOf : ∀ w : World, Calls Tryd.prog 83 #[.agg #[.int .i64 A, .int .i64 C, .int .i64 S, .int .i64 G, .int .i64 E], .int .i64 rho] w fun e w' => e = .returned (.tuple #[.agg #[.int .i64 (loS S G E m), .int .i64 (hiS A C E m)], .nilIface]) ∧ Below w.heap.size w w' := fun w => of_yes A C S G E rho m w h hm
  have HOF := Lib.hid hOf
  clear hOf hm hE9
  obtain ⟨⟨hA, hC, hS, hG, hE0, hE1, h1, h3, h2, h4⟩, r0, r1⟩ := h
  have kn : wrap64 (now - G) = now - G := IntWalk.wrap64_in _ (by omega)
  have g0 : 0 ≤ now - G := by omega
  have g1 : now - G ≤ 9223372036854775807 := by omega
  have hm20 : 0 ≤ m2 ∧ m2 ≤ 9007199254740992 := by rw [← hm2]; exact mU_rng r0 r1 g0 g1
  have HM2 := Lib.hid hm2
  clear hm2
  have il : InR (loS S G E m) := sat_r _
  have ih : InR (hiS A C E m) := sat_r _
  generalize hl : loS S G E m = lo at *
  generalize hh : hiS A C E m = hi at *
  have hss : sat (lo + now) ≤ sat (hi + now) := sat_mono (by omega)
  have isl : InR (sat (lo + now)) := sat_r _
  have ish : InR (sat (hi + now)) := sat_r _
  have im2 : InR m2 := by omega
  go_enter Tryd.func85, Tryd.ntmps85
  go_wp2_with (fail)
  go_at_call 115
  (with_reducible refine (check2_yes _ _ _ _ _ _ _ HN.out).mono ?_)
  rintro e w1 ⟨rfl, HB⟩
  obtain ⟨hc1, hf1⟩ := bcell HB
  have hz1 := HB.size
  try simp at hz1
  replace hB := Below.trans (show Below w.heap.size w _ from by repeat (first | with_reducible assumption | exact Below.refl _ _ | refine Below.drew ?_ | refine Below.setCell ?_ (by first | omega | (simp; done) | (simp; omega)) _ | refine Below.alloc ?_ (by first | omega | (simp; done) | (simp; omega)) _)) (Below.mono (B' := w.heap.size) HB (by first | omega | (simp; done) | (simp; omega)))
  try (have z1w0 : w.heap.size < w1.heap.size := (by omega))
  try (have z1w1 : w.heap.size + 1 < w1.heap.size := (by omega))
  try (have z1w2 : w.heap.size + 1 + 1 < w1.heap.size := (by omega))
  clear HB
  go_wp2_with (fail)
  go_at_call 83
  (with_reducible refine (HOF.out _).mono ?_)
  rintro e w2 ⟨rfl, HB⟩
  obtain ⟨hc2, hf2⟩ := bcell HB
  have hz2 := HB.size
  try simp at hz2
  replace hB := Below.trans (show Below w.heap.size w _ from by repeat (first | with_reducible assumption | exact Below.refl _ _ | refine Below.drew ?_ | refine Below.setCell ?_ (by first | omega | (simp; done) | (simp; omega)) _ | refine Below.alloc ?_ (by first | omega | (simp; done) | (simp; omega)) _)) (Below.mono (B' := w.heap.size) HB (by first | omega | (simp; done) | (simp; omega)))
  try (have z2w0 : w.heap.size < w2.heap.size := (by omega))
  try (have z2w1 : w.heap.size + 1 < w2.heap.size := (by omega))
  try (have z2w2 : w.heap.size + 1 + 1 < w2.heap.size := (by omega))
  try (have z2w10 : w1.heap.size < w2.heap.size := (by omega))
  try (have z2w11 : w1.heap.size + 1 < w2.heap.size := (by omega))
  try (have z2w12 : w1.heap.size + 1 + 1 < w2.heap.size := (by omega))
  clear HB
  go_wp2_with (fail)
  go_at_call 116
  (with_reducible refine (growth_v _ _ m2 _ r0 (by omega) g0 g1 HM2.out.symm).mono ?_)
  rintro e w3 ⟨rfl, HB⟩
  obtain ⟨hc3, hf3⟩ := bcell HB
  have hz3 := HB.size
  try simp at hz3
  replace hB := Below.trans (show Below w.heap.size w _ from by repeat (first | with_reducible assumption | exact Below.refl _ _ | refine Below.drew ?_ | refine Below.setCell ?_ (by first | omega | (simp; done) | (simp; omega)) _ | refine Below.alloc ?_ (by first | omega | (simp; done) | (simp; omega)) _)) (Below.mono (B' := w.heap.size) HB (by first | omega | (simp; done) | (simp; omega)))
  try (have z3w0 : w.heap.size < w3.heap.size := (by omega))
  try (have z3w1 : w.heap.size + 1 < w3.heap.size := (by omega))
  try (have z3w2 : w.heap.size + 1 + 1 < w3.heap.size := (by omega))
  try (have z3w10 : w1.heap.size < w3.heap.size := (by omega))
  try (have z3w11 : w1.heap.size + 1 < w3.heap.size := (by omega))
  try (have z3w12 : w1.heap.size + 1 + 1 < w3.heap.size := (by omega))
  try (have z3w20 : w2.heap.size < w3.heap.size := (by omega))
  try (have z3w21 : w2.heap.size + 1 < w3.heap.size := (by omega))
  try (have z3w22 : w2.heap.size + 1 + 1 < w3.heap.size := (by omega))
  clear HB
  go_wp2_with (fail)
  go_region_with (first | (go_at_call 120; (with_reducible refine (addsat_s _ _ _ (by assumption) (by assumption)).mono ?_); rintro e w' ⟨rfl, rfl⟩))
  all_goals go_wp2_with (fail)
  all_goals
    go_at_call 117
    (with_reducible refine (sp_grow _ _ _ _ hss hm20.1 isl ish im2).mono ?_)
    rintro e w4 ⟨rfl, HB⟩
    obtain ⟨hc4, hf4⟩ := bcell HB
    have hz4 := HB.size
    try simp at hz4
    replace hB := Below.trans (show Below w.heap.size w _ from by repeat (first | with_reducible assumption | exact Below.refl _ _ | refine Below.drew ?_ | refine Below.setCell ?_ (by first | omega | (simp; done) | (simp; omega)) _ | refine Below.alloc ?_ (by first | omega | (simp; done) | (simp; omega)) _)) (Below.mono (B' := w.heap.size) HB (by first | omega | (simp; done) | (simp; omega)))
    try (have z4w0 : w.heap.size < w4.heap.size := (by omega))
    try (have z4w1 : w.heap.size + 1 < w4.heap.size := (by omega))
    try (have z4w2 : w.heap.size + 1 + 1 < w4.heap.size := (by omega))
    try (have z4w10 : w1.heap.size < w4.heap.size := (by omega))
    try (have z4w11 : w1.heap.size + 1 < w4.heap.size := (by omega))
    try (have z4w12 : w1.heap.size + 1 + 1 < w4.heap.size := (by omega))
    try (have z4w20 : w2.heap.size < w4.heap.size := (by omega))
    try (have z4w21 : w2.heap.size + 1 < w4.heap.size := (by omega))
    try (have z4w22 : w2.heap.size + 1 + 1 < w4.heap.size := (by omega))
    try (have z4w30 : w3.heap.size < w4.heap.size := (by omega))
    try (have z4w31 : w3.heap.size + 1 < w4.heap.size := (by omega))
    try (have z4w32 : w3.heap.size + 1 + 1 < w4.heap.size := (by omega))
    clear HB
  all_goals go_wp2_with (fail)
  all_goals (refine bodyPost_ret (v := .tuple #[.agg #[.int .i64 (sat (sat (lo + now) - m2)), .int .i64 (sat (sat (hi + now) + m2))], .nilIface]) (by first | (simp [results, Tryd.results85, go_sem]; done) | (simp only [results, Tryd.results85]; go_simp; done) | (simp only [results, Tryd.results85]; go_simp; omega)) rfl (⟨rfl, by repeat (first | with_reducible assumption | exact Below.refl _ _ | refine Below.drew ?_ | refine Below.setCell ?_ (by first | omega | (simp; done) | (simp; omega)) _ | refine Below.alloc ?_ (by first | omega | (simp; done) | (simp; omega)) _)⟩))
end Go.Proofs.YtffdglhdklmjoaaDoor
