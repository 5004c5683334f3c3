/-
  Layer 13: what must come whatever the input is.
-/
import Derived.Test.YtgkpbokipnfddaaDoorW13b
import Derived.Deep.RegionHeld3
namespace Go.Proofs.YtgkpbokipnfddaaDoor
open Go.RowKit Go.Extern.Stop Go.Stop Go.Extern
set_option linter.unusedVariables false
set_option linter.unusedSimpArgs false
theorem vote_3 (w : World) : Calls Tryd.prog 23 #[.slice (some ⟨w.heap.size, 0, none⟩) 3 3] (w.alloc (.cells #[.int .i64 1, .int .i64 5, .int .i64 4, .int .i64 9, .int .i64 5, .int .i64 7] 24)) fun e w' => e = .returned (.tuple #[.agg #[.int .i64 5, .int .i64 5], .int .i64 3, .nilIface]) ∧ Below (w.alloc (.cells #[.int .i64 1, .int .i64 5, .int .i64 4, .int .i64 9, .int .i64 5, .int .i64 7] 24)).heap.size (w.alloc (.cells #[.int .i64 1, .int .i64 5, .int .i64 4, .int .i64 9, .int .i64 5, .int .i64 7] 24)) w' := by
  have hS : Sps (w.alloc (.cells #[.int .i64 1, .int .i64 5, .int .i64 4, .int .i64 9, .int .i64 5, .int .i64 7] 24)) (some ⟨w.heap.size, 0, none⟩) [(1, 5), (4, 9), (5, 7)] := by
    intro i hi
    have h3 : i < 3 := hi
    rcases i with _ | _ | _ | i
    · exact ⟨_, rfl, by simp, by show (w.alloc _).cell? ⟨w.heap.size, 0, none⟩ = some (.int .i64 1); go_simp, by show (w.alloc _).cell? ⟨w.heap.size, 1, none⟩ = some (.int .i64 5); go_simp⟩
    · exact ⟨_, rfl, by simp, by show (w.alloc _).cell? ⟨w.heap.size, 2, none⟩ = some (.int .i64 4); go_simp, by show (w.alloc _).cell? ⟨w.heap.size, 3, none⟩ = some (.int .i64 9); go_simp⟩
    · exact ⟨_, rfl, by simp, by show (w.alloc _).cell? ⟨w.heap.size, 4, none⟩ = some (.int .i64 5); go_simp, by show (w.alloc _).cell? ⟨w.heap.size, 5, none⟩ = some (.int .i64 7); go_simp⟩
    · omega
  have hv : voF [(1, 5), (4, 9), (5, 7)] [(1, 5), (4, 9), (5, 7)] = ((5, 5), 3) := by decide
  have hc := vote_ok (some ⟨w.heap.size, 0, none⟩) 3 [(1, 5), (4, 9), (5, 7)] (w.alloc (.cells #[.int .i64 1, .int .i64 5, .int .i64 4, .int .i64 9, .int .i64 5, .int .i64 7] 24)) hS (by simp) (by intro x hx; simp at hx; rcases hx with rfl | rfl | rfl <;> decide) (by decide) (by decide) (by decide)
  rw [hv] at hc
  exact hc
theorem mid_c (w : World) : Calls Tryd.prog 16 #[.agg #[.int .i64 (-3), .int .i64 4]] w fun e w' => e = .returned (.tuple #[.int .i64 0, .int .i64 4, .nilIface]) ∧ Below w.heap.size w w' := sp_mid (-3) 4 w (by omega) (by omega) (by omega)
theorem meet_c (w : World) : Calls Tryd.prog 14 #[.agg #[.int .i64 1, .int .i64 5], .agg #[.int .i64 4, .int .i64 9]] w fun e w' => e = .returned (.tuple #[.agg #[.int .i64 4, .int .i64 5], .bool true]) ∧ Below w.heap.size w w' := sp_meet 1 5 4 9 w
theorem vote_nil (w : World) : Calls Tryd.prog 23 #[.slice none 0 0] w fun e w' => e = .returned (.tuple #[.agg #[.int .i64 0, .int .i64 0], .int .i64 0, errV 6]) ∧ Below w.heap.size w w' := vote_none none 0 w
set_option maxRecDepth 100000 in
set_option maxHeartbeats 8000000 in
theorem sure13 (w : World) (hg : w.cell? ⟨0, 0, none⟩ = some asHandle) : Calls Tryd.prog 20 #[] w fun e w' => e = .returned (.bool true) ∧ Below w.heap.size w w' := by
  have hH := Held.start hg
  go_enter Tryd.func20, Tryd.ntmps20
  go_wp2_with (fail)
  go_at_call 23
  (with_reducible refine (vote_3 w).mono ?_)
  rintro e w1 ⟨rfl, HB⟩
  obtain ⟨hc1, hf1⟩ := bcell HB
  obtain ⟨hd1, hh1⟩ := bcell2 (U := w) (by repeat (first | exact Below.refl _ _ | refine Below.setCell ?_ (by simp <;> omega) _ | refine Below.alloc ?_ (by simp <;> omega) _ | refine Below.drew ?_)) HB
  have hz1 := HB.size
  try simp at hz1
  (try (have z1w0 : w.heap.size < w1.heap.size := (by omega)))
  (try (have z1w1 : w.heap.size + 1 < w1.heap.size := (by omega)))
  (try (have z1w2 : w.heap.size + 1 + 1 < w1.heap.size := (by omega)))
  (try (have z1w3 : w.heap.size + 1 + 1 + 1 < w1.heap.size := (by omega)))
  have hH1 := Held.step (w0 := w) (by repeat (first | assumption | refine Held.alloc ?_ _ | refine Held.drew ?_)) HB
  clear HB
  go_wp2_with (fail)
  go_at_call 16
  (with_reducible refine (mid_c _).mono ?_)
  rintro e w2 ⟨rfl, HB⟩
  obtain ⟨hc2, hf2⟩ := bcell HB
  obtain ⟨hd2, hh2⟩ := bcell2 (U := w1) (by repeat (first | exact Below.refl _ _ | refine Below.setCell ?_ (by simp <;> omega) _ | refine Below.alloc ?_ (by simp <;> omega) _ | refine Below.drew ?_)) HB
  have hz2 := HB.size
  try simp at hz2
  (try (have z2w0 : w.heap.size < w2.heap.size := (by omega)))
  (try (have z2w1 : w.heap.size + 1 < w2.heap.size := (by omega)))
  (try (have z2w2 : w.heap.size + 1 + 1 < w2.heap.size := (by omega)))
  (try (have z2w3 : w.heap.size + 1 + 1 + 1 < w2.heap.size := (by omega)))
  (try (have z2w10 : w1.heap.size < w2.heap.size := (by omega)))
  (try (have z2w11 : w1.heap.size + 1 < w2.heap.size := (by omega)))
  (try (have z2w12 : w1.heap.size + 1 + 1 < w2.heap.size := (by omega)))
  (try (have z2w13 : w1.heap.size + 1 + 1 + 1 < w2.heap.size := (by omega)))
  have hH2 := Held.step (w0 := w) (by repeat (first | assumption | refine Held.alloc ?_ _ | refine Held.drew ?_)) HB
  clear HB
  go_wp2_with (fail)
  go_at_call 23
  (with_reducible refine (vote_nil _).mono ?_)
  rintro e w3 ⟨rfl, HB⟩
  obtain ⟨hc3, hf3⟩ := bcell HB
  obtain ⟨hd3, hh3⟩ := bcell2 (U := w2) (by repeat (first | exact Below.refl _ _ | refine Below.setCell ?_ (by simp <;> omega) _ | refine Below.alloc ?_ (by simp <;> omega) _ | refine Below.drew ?_)) HB
  have hz3 := HB.size
  try simp at hz3
  (try (have z3w0 : w.heap.size < w3.heap.size := (by omega)))
  (try (have z3w1 : w.heap.size + 1 < w3.heap.size := (by omega)))
  (try (have z3w2 : w.heap.size + 1 + 1 < w3.heap.size := (by omega)))
  (try (have z3w3 : w.heap.size + 1 + 1 + 1 < w3.heap.size := (by omega)))
  (try (have z3w10 : w1.heap.size < w3.heap.size := (by omega)))
  (try (have z3w11 : w1.heap.size + 1 < w3.heap.size := (by omega)))
  (try (have z3w12 : w1.heap.size + 1 + 1 < w3.heap.size := (by omega)))
  (try (have z3w13 : w1.heap.size + 1 + 1 + 1 < w3.heap.size := (by omega)))
  (try (have z3w20 : w2.heap.size < w3.heap.size := (by omega)))
  (try (have z3w21 : w2.heap.size + 1 < w3.heap.size := (by omega)))
  (try (have z3w22 : w2.heap.size + 1 + 1 < w3.heap.size := (by omega)))
  (try (have z3w23 : w2.heap.size + 1 + 1 + 1 < w3.heap.size := (by omega)))
  have hH3 := Held.step (w0 := w) (by repeat (first | assumption | refine Held.alloc ?_ _ | refine Held.drew ?_)) HB
  clear HB
  go_wp2_with (fail)
  go_at_call 14
  (with_reducible refine (meet_c _).mono ?_)
  rintro e w4 ⟨rfl, HB⟩
  obtain ⟨hc4, hf4⟩ := bcell HB
  obtain ⟨hd4, hh4⟩ := bcell2 (U := w3) (by repeat (first | exact Below.refl _ _ | refine Below.setCell ?_ (by simp <;> omega) _ | refine Below.alloc ?_ (by simp <;> omega) _ | refine Below.drew ?_)) HB
  have hz4 := HB.size
  try simp at hz4
  (try (have z4w0 : w.heap.size < w4.heap.size := (by omega)))
  (try (have z4w1 : w.heap.size + 1 < w4.heap.size := (by omega)))
  (try (have z4w2 : w.heap.size + 1 + 1 < w4.heap.size := (by omega)))
  (try (have z4w3 : w.heap.size + 1 + 1 + 1 < w4.heap.size := (by omega)))
  (try (have z4w10 : w1.heap.size < w4.heap.size := (by omega)))
  (try (have z4w11 : w1.heap.size + 1 < w4.heap.size := (by omega)))
  (try (have z4w12 : w1.heap.size + 1 + 1 < w4.heap.size := (by omega)))
  (try (have z4w13 : w1.heap.size + 1 + 1 + 1 < w4.heap.size := (by omega)))
  (try (have z4w20 : w2.heap.size < w4.heap.size := (by omega)))
  (try (have z4w21 : w2.heap.size + 1 < w4.heap.size := (by omega)))
  (try (have z4w22 : w2.heap.size + 1 + 1 < w4.heap.size := (by omega)))
  (try (have z4w23 : w2.heap.size + 1 + 1 + 1 < w4.heap.size := (by omega)))
  (try (have z4w30 : w3.heap.size < w4.heap.size := (by omega)))
  (try (have z4w31 : w3.heap.size + 1 < w4.heap.size := (by omega)))
  (try (have z4w32 : w3.heap.size + 1 + 1 < w4.heap.size := (by omega)))
  (try (have z4w33 : w3.heap.size + 1 + 1 + 1 < w4.heap.size := (by omega)))
  have hH4 := Held.step (w0 := w) (by repeat (first | assumption | refine Held.alloc ?_ _ | refine Held.drew ?_)) HB
  clear HB
  go_wp2_with (first | (go_at_call 19; (with_reducible refine (num13_nil _).mono ?_); rintro e w' ⟨rfl, hb'⟩; obtain ⟨hc, hf⟩ := bcell hb'; have hz := hb'.size; (try (simp at hz)); have hH' := Held.step (w0 := w) (by repeat (first | assumption | refine Held.alloc ?_ _ | refine Held.drew ?_ | refine Held.set1 ?_ (by first | omega | (simp; done) | (simp; omega)) (handle_lt hg) _)) hb'; clear hb') | (go_at_call 19; (with_reducible refine (num13_err _ _ (Held.handle (w0 := w) (by repeat (first | assumption | refine Held.alloc ?_ _ | refine Held.drew ?_ | refine Held.set1 ?_ (by first | omega | (simp; done) | (simp; omega)) (handle_lt hg) _)))).mono ?_); rintro e w' ⟨rfl, hb'⟩; obtain ⟨hc, hf⟩ := bcell hb'; have hz := hb'.size; (try (simp at hz)); have hH' := Held.step (w0 := w) (by repeat (first | assumption | refine Held.alloc ?_ _ | refine Held.drew ?_ | refine Held.set1 ?_ (by first | omega | (simp; done) | (simp; omega)) (handle_lt hg) _)) hb'; clear hb') | go_in)
  go_ret
  exact ⟨rfl, Held.below (w0 := w) (by assumption)⟩
end Go.Proofs.YtgkpbokipnfddaaDoor
