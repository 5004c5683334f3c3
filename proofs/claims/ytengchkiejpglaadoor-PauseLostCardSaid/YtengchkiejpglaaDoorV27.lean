/-
  Layer 27: functional contracts, and the statements.
-/
import Derived.Test.YtengchkiejpglaaDoorW27
import Derived.Deep.RegionHeld3
namespace Go.Proofs.YtengchkiejpglaaDoor
open Go.RowKit Go.Extern.Stop Go.Stop Go.Extern
set_option linter.unusedVariables false
set_option linter.unusedSimpArgs false
set_option maxRecDepth 100000 in
set_option maxHeartbeats 8000000 in
theorem sure27 (w : World) (hg : w.cell? ⟨0, 0, none⟩ = some asHandle) : Calls Tryd.prog 82 #[] w fun e w' => e = .returned (.bool true) ∧ Below w.heap.size w w' := by
  have hH := Held.start hg
  go_enter Tryd.func82, Tryd.ntmps82
  go_wp2_with (fail)
  go_at_call 73
  (with_reducible refine (pstop_c _ _ _ _ _ (by omega) (by omega) (by omega)).mono ?_)
  rintro e w1 (⟨hQ, rfl, HB⟩ | ⟨hQ, rfl, HB⟩ | ⟨hQ, rfl, HB⟩)
  all_goals (try (first | rw [mayP_f] at hQ | rw [mayP_t] at hQ))
  all_goals try (exfalso; first | omega | (simp at hQ; done) | (simp at hQ; omega))
  obtain ⟨hc1, hf1⟩ := bcell HB
  obtain ⟨hd1, hh1⟩ := bcell2 (U := w) (by repeat (first | exact Below.refl _ _ | refine Below.setCell ?_ (by simp <;> omega) _ | refine Below.alloc ?_ (by simp <;> omega) _ | refine Below.drew ?_)) HB
  have hz1 := HB.size
  try simp at hz1
  (try (have z1w0 : w.heap.size < w1.heap.size := (by omega)))
  (try (have z1w1 : w.heap.size + 1 < w1.heap.size := (by omega)))
  (try (have z1w2 : w.heap.size + 1 + 1 < w1.heap.size := (by omega)))
  (try (have z1w3 : w.heap.size + 1 + 1 + 1 < w1.heap.size := (by omega)))
  have hH1 := Held.step (w0 := w) (by repeat (first | assumption | refine Held.alloc ?_ _ | refine Held.drew ?_)) HB
  clear HB
  go_wp2_with (fail)
  go_at_call 75
  (with_reducible refine (pgo_c _ _ _ _ _ _ (by omega) (by omega) (by omega)).mono ?_)
  rintro e w2 (⟨hQ, rfl, HB⟩ | ⟨hQ, rfl, HB⟩ | ⟨hQ, rfl, HB⟩ | ⟨hQ, rfl, HB⟩ | ⟨hQ, rfl, HB⟩ | ⟨hQ, rfl, HB⟩)
  all_goals (try (first | rw [mayP_f] at hQ | rw [mayP_t] at hQ))
  all_goals try (exfalso; first | omega | (simp at hQ; done) | (simp at hQ; omega))
  obtain ⟨hc2, hf2⟩ := bcell HB
  obtain ⟨hd2, hh2⟩ := bcell2 (U := w1) (by repeat (first | exact Below.refl _ _ | refine Below.setCell ?_ (by simp <;> omega) _ | refine Below.alloc ?_ (by simp <;> omega) _ | refine Below.drew ?_)) HB
  have hz2 := HB.size
  try simp at hz2
  (try (have z2w0 : w.heap.size < w2.heap.size := (by omega)))
  (try (have z2w1 : w.heap.size + 1 < w2.heap.size := (by omega)))
  (try (have z2w2 : w.heap.size + 1 + 1 < w2.heap.size := (by omega)))
  (try (have z2w3 : w.heap.size + 1 + 1 + 1 < w2.heap.size := (by omega)))
  (try (have z2w10 : w1.heap.size < w2.heap.size := (by omega)))
  (try (have z2w11 : w1.heap.size + 1 < w2.heap.size := (by omega)))
  (try (have z2w12 : w1.heap.size + 1 + 1 < w2.heap.size := (by omega)))
  (try (have z2w13 : w1.heap.size + 1 + 1 + 1 < w2.heap.size := (by omega)))
  have hH2 := Held.step (w0 := w) (by repeat (first | assumption | refine Held.alloc ?_ _ | refine Held.drew ?_)) HB
  clear HB
  go_wp2_with (fail)
  go_at_call 75
  (with_reducible refine (pgo_c _ _ _ _ _ _ (by omega) (by omega) (by omega)).mono ?_)
  rintro e w3 (⟨hQ, rfl, HB⟩ | ⟨hQ, rfl, HB⟩ | ⟨hQ, rfl, HB⟩ | ⟨hQ, rfl, HB⟩ | ⟨hQ, rfl, HB⟩ | ⟨hQ, rfl, HB⟩)
  all_goals (try (first | rw [mayP_f] at hQ | rw [mayP_t] at hQ))
  all_goals try (exfalso; first | omega | (simp at hQ; done) | (simp at hQ; omega))
  obtain ⟨hc3, hf3⟩ := bcell HB
  obtain ⟨hd3, hh3⟩ := bcell2 (U := w2) (by repeat (first | exact Below.refl _ _ | refine Below.setCell ?_ (by simp <;> omega) _ | refine Below.alloc ?_ (by simp <;> omega) _ | refine Below.drew ?_)) HB
  have hz3 := HB.size
  try simp at hz3
  (try (have z3w0 : w.heap.size < w3.heap.size := (by omega)))
  (try (have z3w1 : w.heap.size + 1 < w3.heap.size := (by omega)))
  (try (have z3w2 : w.heap.size + 1 + 1 < w3.heap.size := (by omega)))
  (try (have z3w3 : w.heap.size + 1 + 1 + 1 < w3.heap.size := (by omega)))
  (try (have z3w10 : w1.heap.size < w3.heap.size := (by omega)))
  (try (have z3w11 : w1.heap.size + 1 < w3.heap.size := (by omega)))
  (try (have z3w12 : w1.heap.size + 1 + 1 < w3.heap.size := (by omega)))
  (try (have z3w13 : w1.heap.size + 1 + 1 + 1 < w3.heap.size := (by omega)))
  (try (have z3w20 : w2.heap.size < w3.heap.size := (by omega)))
  (try (have z3w21 : w2.heap.size + 1 < w3.heap.size := (by omega)))
  (try (have z3w22 : w2.heap.size + 1 + 1 < w3.heap.size := (by omega)))
  (try (have z3w23 : w2.heap.size + 1 + 1 + 1 < w3.heap.size := (by omega)))
  have hH3 := Held.step (w0 := w) (by repeat (first | assumption | refine Held.alloc ?_ _ | refine Held.drew ?_)) HB
  clear HB
  go_wp2_with (fail)
  go_at_call 77
  (with_reducible refine (pviewf_c _ _ _ _ (by omega) (by omega) (by omega)).mono ?_)
  rintro e w4 (⟨hQ, rfl, HB⟩ | ⟨hQ, rfl, HB⟩ | ⟨hQ, rfl, HB⟩)
  all_goals (try (first | rw [mayP_f] at hQ | rw [mayP_t] at hQ))
  all_goals try (exfalso; first | omega | (simp at hQ; done) | (simp at hQ; omega))
  obtain ⟨hc4, hf4⟩ := bcell HB
  obtain ⟨hd4, hh4⟩ := bcell2 (U := w3) (by repeat (first | exact Below.refl _ _ | refine Below.setCell ?_ (by simp <;> omega) _ | refine Below.alloc ?_ (by simp <;> omega) _ | refine Below.drew ?_)) HB
  have hz4 := HB.size
  try simp at hz4
  (try (have z4w0 : w.heap.size < w4.heap.size := (by omega)))
  (try (have z4w1 : w.heap.size + 1 < w4.heap.size := (by omega)))
  (try (have z4w2 : w.heap.size + 1 + 1 < w4.heap.size := (by omega)))
  (try (have z4w3 : w.heap.size + 1 + 1 + 1 < w4.heap.size := (by omega)))
  (try (have z4w10 : w1.heap.size < w4.heap.size := (by omega)))
  (try (have z4w11 : w1.heap.size + 1 < w4.heap.size := (by omega)))
  (try (have z4w12 : w1.heap.size + 1 + 1 < w4.heap.size := (by omega)))
  (try (have z4w13 : w1.heap.size + 1 + 1 + 1 < w4.heap.size := (by omega)))
  (try (have z4w20 : w2.heap.size < w4.heap.size := (by omega)))
  (try (have z4w21 : w2.heap.size + 1 < w4.heap.size := (by omega)))
  (try (have z4w22 : w2.heap.size + 1 + 1 < w4.heap.size := (by omega)))
  (try (have z4w23 : w2.heap.size + 1 + 1 + 1 < w4.heap.size := (by omega)))
  (try (have z4w30 : w3.heap.size < w4.heap.size := (by omega)))
  (try (have z4w31 : w3.heap.size + 1 < w4.heap.size := (by omega)))
  (try (have z4w32 : w3.heap.size + 1 + 1 < w4.heap.size := (by omega)))
  (try (have z4w33 : w3.heap.size + 1 + 1 + 1 < w4.heap.size := (by omega)))
  have hH4 := Held.step (w0 := w) (by repeat (first | assumption | refine Held.alloc ?_ _ | refine Held.drew ?_)) HB
  clear HB
  go_wp2_with (fail)
  go_at_call 77
  (with_reducible refine (pviewf_c _ _ _ _ (by omega) (by omega) (by omega)).mono ?_)
  rintro e w5 (⟨hQ, rfl, HB⟩ | ⟨hQ, rfl, HB⟩ | ⟨hQ, rfl, HB⟩)
  all_goals (try (first | rw [mayP_f] at hQ | rw [mayP_t] at hQ))
  all_goals try (exfalso; first | omega | (simp at hQ; done) | (simp at hQ; omega))
  obtain ⟨hc5, hf5⟩ := bcell HB
  obtain ⟨hd5, hh5⟩ := bcell2 (U := w4) (by repeat (first | exact Below.refl _ _ | refine Below.setCell ?_ (by simp <;> omega) _ | refine Below.alloc ?_ (by simp <;> omega) _ | refine Below.drew ?_)) HB
  have hz5 := HB.size
  try simp at hz5
  (try (have z5w0 : w.heap.size < w5.heap.size := (by omega)))
  (try (have z5w1 : w.heap.size + 1 < w5.heap.size := (by omega)))
  (try (have z5w2 : w.heap.size + 1 + 1 < w5.heap.size := (by omega)))
  (try (have z5w3 : w.heap.size + 1 + 1 + 1 < w5.heap.size := (by omega)))
  (try (have z5w10 : w1.heap.size < w5.heap.size := (by omega)))
  (try (have z5w11 : w1.heap.size + 1 < w5.heap.size := (by omega)))
  (try (have z5w12 : w1.heap.size + 1 + 1 < w5.heap.size := (by omega)))
  (try (have z5w13 : w1.heap.size + 1 + 1 + 1 < w5.heap.size := (by omega)))
  (try (have z5w20 : w2.heap.size < w5.heap.size := (by omega)))
  (try (have z5w21 : w2.heap.size + 1 < w5.heap.size := (by omega)))
  (try (have z5w22 : w2.heap.size + 1 + 1 < w5.heap.size := (by omega)))
  (try (have z5w23 : w2.heap.size + 1 + 1 + 1 < w5.heap.size := (by omega)))
  (try (have z5w30 : w3.heap.size < w5.heap.size := (by omega)))
  (try (have z5w31 : w3.heap.size + 1 < w5.heap.size := (by omega)))
  (try (have z5w32 : w3.heap.size + 1 + 1 < w5.heap.size := (by omega)))
  (try (have z5w33 : w3.heap.size + 1 + 1 + 1 < w5.heap.size := (by omega)))
  (try (have z5w40 : w4.heap.size < w5.heap.size := (by omega)))
  (try (have z5w41 : w4.heap.size + 1 < w5.heap.size := (by omega)))
  (try (have z5w42 : w4.heap.size + 1 + 1 < w5.heap.size := (by omega)))
  (try (have z5w43 : w4.heap.size + 1 + 1 + 1 < w5.heap.size := (by omega)))
  have hH5 := Held.step (w0 := w) (by repeat (first | assumption | refine Held.alloc ?_ _ | refine Held.drew ?_)) HB
  clear HB
  go_wp2_with (fail)
  go_at_call 77
  (with_reducible refine (pviewt_c _ _ _ _ (by omega) (by omega) (by omega)).mono ?_)
  rintro e w6 (⟨hQ, rfl, HB⟩ | ⟨hQ, rfl, HB⟩ | ⟨hQ, rfl, HB⟩)
  all_goals (try (first | rw [mayP_f] at hQ | rw [mayP_t] at hQ))
  all_goals try (exfalso; first | omega | (simp at hQ; done) | (simp at hQ; omega))
  obtain ⟨hc6, hf6⟩ := bcell HB
  obtain ⟨hd6, hh6⟩ := bcell2 (U := w5) (by repeat (first | exact Below.refl _ _ | refine Below.setCell ?_ (by simp <;> omega) _ | refine Below.alloc ?_ (by simp <;> omega) _ | refine Below.drew ?_)) HB
  have hz6 := HB.size
  try simp at hz6
  (try (have z6w0 : w.heap.size < w6.heap.size := (by omega)))
  (try (have z6w1 : w.heap.size + 1 < w6.heap.size := (by omega)))
  (try (have z6w2 : w.heap.size + 1 + 1 < w6.heap.size := (by omega)))
  (try (have z6w3 : w.heap.size + 1 + 1 + 1 < w6.heap.size := (by omega)))
  (try (have z6w10 : w1.heap.size < w6.heap.size := (by omega)))
  (try (have z6w11 : w1.heap.size + 1 < w6.heap.size := (by omega)))
  (try (have z6w12 : w1.heap.size + 1 + 1 < w6.heap.size := (by omega)))
  (try (have z6w13 : w1.heap.size + 1 + 1 + 1 < w6.heap.size := (by omega)))
  (try (have z6w20 : w2.heap.size < w6.heap.size := (by omega)))
  (try (have z6w21 : w2.heap.size + 1 < w6.heap.size := (by omega)))
  (try (have z6w22 : w2.heap.size + 1 + 1 < w6.heap.size := (by omega)))
  (try (have z6w23 : w2.heap.size + 1 + 1 + 1 < w6.heap.size := (by omega)))
  (try (have z6w30 : w3.heap.size < w6.heap.size := (by omega)))
  (try (have z6w31 : w3.heap.size + 1 < w6.heap.size := (by omega)))
  (try (have z6w32 : w3.heap.size + 1 + 1 < w6.heap.size := (by omega)))
  (try (have z6w33 : w3.heap.size + 1 + 1 + 1 < w6.heap.size := (by omega)))
  (try (have z6w40 : w4.heap.size < w6.heap.size := (by omega)))
  (try (have z6w41 : w4.heap.size + 1 < w6.heap.size := (by omega)))
  (try (have z6w42 : w4.heap.size + 1 + 1 < w6.heap.size := (by omega)))
  (try (have z6w43 : w4.heap.size + 1 + 1 + 1 < w6.heap.size := (by omega)))
  (try (have z6w50 : w5.heap.size < w6.heap.size := (by omega)))
  (try (have z6w51 : w5.heap.size + 1 < w6.heap.size := (by omega)))
  (try (have z6w52 : w5.heap.size + 1 + 1 < w6.heap.size := (by omega)))
  (try (have z6w53 : w5.heap.size + 1 + 1 + 1 < w6.heap.size := (by omega)))
  have hH6 := Held.step (w0 := w) (by repeat (first | assumption | refine Held.alloc ?_ _ | refine Held.drew ?_)) HB
  clear HB
  go_wp2_with (fail)
  go_at_call 73
  (with_reducible refine (pstop_c _ _ _ _ _ (by omega) (by omega) (by omega)).mono ?_)
  rintro e w7 (⟨hQ, rfl, HB⟩ | ⟨hQ, rfl, HB⟩ | ⟨hQ, rfl, HB⟩)
  all_goals (try (first | rw [mayP_f] at hQ | rw [mayP_t] at hQ))
  all_goals try (exfalso; first | omega | (simp at hQ; done) | (simp at hQ; omega))
  obtain ⟨hc7, hf7⟩ := bcell HB
  obtain ⟨hd7, hh7⟩ := bcell2 (U := w6) (by repeat (first | exact Below.refl _ _ | refine Below.setCell ?_ (by simp <;> omega) _ | refine Below.alloc ?_ (by simp <;> omega) _ | refine Below.drew ?_)) HB
  have hz7 := HB.size
  try simp at hz7
  (try (have z7w0 : w.heap.size < w7.heap.size := (by omega)))
  (try (have z7w1 : w.heap.size + 1 < w7.heap.size := (by omega)))
  (try (have z7w2 : w.heap.size + 1 + 1 < w7.heap.size := (by omega)))
  (try (have z7w3 : w.heap.size + 1 + 1 + 1 < w7.heap.size := (by omega)))
  (try (have z7w10 : w1.heap.size < w7.heap.size := (by omega)))
  (try (have z7w11 : w1.heap.size + 1 < w7.heap.size := (by omega)))
  (try (have z7w12 : w1.heap.size + 1 + 1 < w7.heap.size := (by omega)))
  (try (have z7w13 : w1.heap.size + 1 + 1 + 1 < w7.heap.size := (by omega)))
  (try (have z7w20 : w2.heap.size < w7.heap.size := (by omega)))
  (try (have z7w21 : w2.heap.size + 1 < w7.heap.size := (by omega)))
  (try (have z7w22 : w2.heap.size + 1 + 1 < w7.heap.size := (by omega)))
  (try (have z7w23 : w2.heap.size + 1 + 1 + 1 < w7.heap.size := (by omega)))
  (try (have z7w30 : w3.heap.size < w7.heap.size := (by omega)))
  (try (have z7w31 : w3.heap.size + 1 < w7.heap.size := (by omega)))
  (try (have z7w32 : w3.heap.size + 1 + 1 < w7.heap.size := (by omega)))
  (try (have z7w33 : w3.heap.size + 1 + 1 + 1 < w7.heap.size := (by omega)))
  (try (have z7w40 : w4.heap.size < w7.heap.size := (by omega)))
  (try (have z7w41 : w4.heap.size + 1 < w7.heap.size := (by omega)))
  (try (have z7w42 : w4.heap.size + 1 + 1 < w7.heap.size := (by omega)))
  (try (have z7w43 : w4.heap.size + 1 + 1 + 1 < w7.heap.size := (by omega)))
  (try (have z7w50 : w5.heap.size < w7.heap.size := (by omega)))
  (try (have z7w51 : w5.heap.size + 1 < w7.heap.size := (by omega)))
  (try (have z7w52 : w5.heap.size + 1 + 1 < w7.heap.size := (by omega)))
  (try (have z7w53 : w5.heap.size + 1 + 1 + 1 < w7.heap.size := (by omega)))
  (try (have z7w60 : w6.heap.size < w7.heap.size := (by omega)))
  (try (have z7w61 : w6.heap.size + 1 < w7.heap.size := (by omega)))
  (try (have z7w62 : w6.heap.size + 1 + 1 < w7.heap.size := (by omega)))
  (try (have z7w63 : w6.heap.size + 1 + 1 + 1 < w7.heap.size := (by omega)))
  have hH7 := Held.step (w0 := w) (by repeat (first | assumption | refine Held.alloc ?_ _ | refine Held.drew ?_)) HB
  clear HB

  go_wp2_with (first | (go_at_call 79; (with_reducible refine (num27_nil _).mono ?_); rintro e w' ⟨rfl, hb'⟩; obtain ⟨hc, hf⟩ := bcell hb'; have hz := hb'.size; simp at hz; have hH' := Held.step (w0 := w) (by repeat (first | assumption | refine Held.alloc ?_ _ | refine Held.drew ?_)) hb'; clear hb') | (go_at_call 79; (with_reducible refine (num27_err _ _ (Held.handle (w0 := w) (by repeat (first | assumption | refine Held.alloc ?_ _ | refine Held.drew ?_)))).mono ?_); rintro e w' ⟨rfl, hb'⟩; obtain ⟨hc, hf⟩ := bcell hb'; have hz := hb'.size; simp at hz; have hH' := Held.step (w0 := w) (by repeat (first | assumption | refine Held.alloc ?_ _ | refine Held.drew ?_)) hb'; clear hb') | go_in)
  go_ret
  exact ⟨rfl, Held.below (w0 := w) (by assumption)⟩
/-- the error of a number: none of 0 -/
def errOf (n : Int) : Value := if n = 0 then .nilIface else errV n
theorem errOf_zero : errOf 0 = .nilIface := by unfold errOf; rw [if_pos rfl]
theorem errOf_ne {n : Int} (h : ¬ n = 0) : errOf n = errV n := by unfold errOf; rw [if_neg h]
theorem num27_any (n : Int) (w : World) (hg : w.cell? ⟨0, 0, none⟩ = some asHandle) : Calls Tryd.prog 79 #[errOf n] w fun e w' => e = .returned (.int .i64 n) ∧ Below w.heap.size w w' := by
  by_cases h : n = 0
  · subst h; rw [errOf_zero]; exact num27_nil _
  · rw [errOf_ne h]; exact num27_err _ _ hg
structure R27 where
  b : Bool
  x : Int
  y : Int
  n : Int
def stopF (on : Bool) (m k t : Int) : R27 := if MayP on m k ∧ InT t then (if on = true then ⟨false, 0, 0, 19⟩ else ⟨true, t, k, 0⟩) else ⟨false, 0, 0, 1⟩
def goF (on : Bool) (m k t : Int) (jump : Bool) : R27 := if MayP on m k ∧ InT t then (if on = false then ⟨false, 0, 0, 19⟩ else if t < m then ⟨false, 0, 0, 10⟩ else if jump = true then ⟨false, 0, k, 0⟩ else if k + (t - m) ≤ 2305843009213693952 then ⟨false, 0, k + (t - m), 0⟩ else ⟨false, 0, 0, 2⟩) else ⟨false, 0, 0, 1⟩
def viewF (on : Bool) (m k t : Int) : R27 := if MayP on m k ∧ InT t then (if InT ((if on = true then m else t) - k) then ⟨false, (if on = true then m else t) - k, 0, 0⟩ else ⟨false, 0, 0, 2⟩) else ⟨false, 0, 0, 1⟩
theorem pstop_f (on : Bool) (m : Int) (k : Int) (t : Int) (w : World) (hm : InR m) (hk : InR k) (ht : InR t) : Calls Tryd.prog 73 #[.agg #[.bool on, .int .i64 m, .int .i64 k], .int .i64 t] w fun e w' => e = .returned (.tuple #[.agg #[.bool (stopF on m k t).b, .int .i64 (stopF on m k t).x, .int .i64 (stopF on m k t).y], errOf (stopF on m k t).n]) ∧ Below w.heap.size w w' := by
  · refine (pstop_c on m k t w hm hk ht).mono ?_
    intro e w' h
    unfold pstopP at h
    rcases h with ⟨hc, he, hb⟩ | ⟨⟨ha, hb0, hc⟩, he, hb⟩ | ⟨⟨ha, hb0, hc⟩, he, hb⟩ <;> refine ⟨?_, hb⟩ <;> rw [he]
    · simp only [stopF, if_neg hc, errOf_ne (by decide : ¬ (1 : Int) = 0)]
    all_goals (have hab := And.intro ha hb0; simp only [stopF, if_pos hab]; clear hab ha hb0)
    all_goals (repeat' split)
    all_goals first | rfl | (exfalso; omega) | (exfalso; simp_all; done) | (simp_all [errOf_zero, errOf_ne]; done)
theorem rstop_f (on : Bool) (m : Int) (k : Int) (t : Int) (w : World) (hm : InR m) (hk : InR k) (ht : InR t) : Calls Tryd.prog 74 #[.agg #[.bool on, .int .i64 m, .int .i64 k], .int .i64 t] w fun e w' => e = .returned (.tuple #[.agg #[.bool (stopF on m k t).b, .int .i64 (stopF on m k t).x, .int .i64 (stopF on m k t).y], .int .i64 (stopF on m k t).n]) ∧ Below w.heap.size w w' := by
  · refine (rstop_c on m k t w hm hk ht).mono ?_
    intro e w' h
    unfold rstopP at h
    rcases h with ⟨hc, he, hb⟩ | ⟨⟨ha, hb0, hc⟩, he, hb⟩ | ⟨⟨ha, hb0, hc⟩, he, hb⟩ <;> refine ⟨?_, hb⟩ <;> rw [he]
    · simp only [stopF, if_neg hc, errOf_ne (by decide : ¬ (1 : Int) = 0)]
    all_goals (have hab := And.intro ha hb0; simp only [stopF, if_pos hab]; clear hab ha hb0)
    all_goals (repeat' split)
    all_goals first | rfl | (exfalso; omega) | (exfalso; simp_all; done) | (simp_all [errOf_zero, errOf_ne]; done)
theorem pgo_f (on : Bool) (m : Int) (k : Int) (t : Int) (jump : Bool) (w : World) (hm : InR m) (hk : InR k) (ht : InR t) : Calls Tryd.prog 75 #[.agg #[.bool on, .int .i64 m, .int .i64 k], .int .i64 t, .bool jump] w fun e w' => e = .returned (.tuple #[.agg #[.bool (goF on m k t jump).b, .int .i64 (goF on m k t jump).x, .int .i64 (goF on m k t jump).y], errOf (goF on m k t jump).n]) ∧ Below w.heap.size w w' := by
  · refine (pgo_c on m k t jump w hm hk ht).mono ?_
    intro e w' h
    unfold pgoP at h
    rcases h with ⟨hc, he, hb⟩ | ⟨⟨ha, hb0, hc⟩, he, hb⟩ | ⟨⟨ha, hb0, hc⟩, he, hb⟩ | ⟨⟨ha, hb0, hc⟩, he, hb⟩ | ⟨⟨ha, hb0, hc⟩, he, hb⟩ | ⟨⟨ha, hb0, hc⟩, he, hb⟩ <;> refine ⟨?_, hb⟩ <;> rw [he]
    · simp only [goF, if_neg hc, errOf_ne (by decide : ¬ (1 : Int) = 0)]
    all_goals (have hab := And.intro ha hb0; simp only [goF, if_pos hab]; clear hab ha hb0)
    all_goals (repeat' split)
    all_goals first | rfl | (exfalso; omega) | (exfalso; simp_all; done) | (simp_all [errOf_zero, errOf_ne]; done)
theorem rgo_f (on : Bool) (m : Int) (k : Int) (t : Int) (jump : Bool) (w : World) (hm : InR m) (hk : InR k) (ht : InR t) : Calls Tryd.prog 76 #[.agg #[.bool on, .int .i64 m, .int .i64 k], .int .i64 t, .bool jump] w fun e w' => e = .returned (.tuple #[.agg #[.bool (goF on m k t jump).b, .int .i64 (goF on m k t jump).x, .int .i64 (goF on m k t jump).y], .int .i64 (goF on m k t jump).n]) ∧ Below w.heap.size w w' := by
  · refine (rgo_c on m k t jump w hm hk ht).mono ?_
    intro e w' h
    unfold rgoP at h
    rcases h with ⟨hc, he, hb⟩ | ⟨⟨ha, hb0, hc⟩, he, hb⟩ | ⟨⟨ha, hb0, hc⟩, he, hb⟩ | ⟨⟨ha, hb0, hc⟩, he, hb⟩ | ⟨⟨ha, hb0, hc⟩, he, hb⟩ | ⟨⟨ha, hb0, hc⟩, he, hb⟩ <;> refine ⟨?_, hb⟩ <;> rw [he]
    · simp only [goF, if_neg hc, errOf_ne (by decide : ¬ (1 : Int) = 0)]
    all_goals (have hab := And.intro ha hb0; simp only [goF, if_pos hab]; clear hab ha hb0)
    all_goals (repeat' split)
    all_goals first | rfl | (exfalso; omega) | (exfalso; simp_all; done) | (simp_all [errOf_zero, errOf_ne]; done)
theorem pview_f (on : Bool) (m : Int) (k : Int) (t : Int) (w : World) (hm : InR m) (hk : InR k) (ht : InR t) : Calls Tryd.prog 77 #[.agg #[.bool on, .int .i64 m, .int .i64 k], .int .i64 t] w fun e w' => e = .returned (.tuple #[.int .i64 (viewF on m k t).x, errOf (viewF on m k t).n]) ∧ Below w.heap.size w w' := by
  cases on
  · refine (pviewf_c m k t w hm hk ht).mono ?_
    intro e w' h
    unfold pviewfP at h
    rcases h with ⟨hc, he, hb⟩ | ⟨⟨ha, hb0, hc⟩, he, hb⟩ | ⟨⟨ha, hb0, hc⟩, he, hb⟩ <;> refine ⟨?_, hb⟩ <;> rw [he]
    · simp only [viewF, if_neg hc, errOf_ne (by decide : ¬ (1 : Int) = 0)]
    all_goals (have hab := And.intro ha hb0; simp only [viewF, if_pos hab]; clear hab ha hb0)
    all_goals (repeat' split)
    all_goals first | rfl | (exfalso; omega) | (exfalso; simp_all; done) | (simp_all [errOf_zero, errOf_ne]; done)
  · refine (pviewt_c m k t w hm hk ht).mono ?_
    intro e w' h
    unfold pviewtP at h
    rcases h with ⟨hc, he, hb⟩ | ⟨⟨ha, hb0, hc⟩, he, hb⟩ | ⟨⟨ha, hb0, hc⟩, he, hb⟩ <;> refine ⟨?_, hb⟩ <;> rw [he]
    · simp only [viewF, if_neg hc, errOf_ne (by decide : ¬ (1 : Int) = 0)]
    all_goals (have hab := And.intro ha hb0; simp only [viewF, if_pos hab]; clear hab ha hb0)
    all_goals (repeat' split)
    all_goals first | rfl | (exfalso; omega) | (exfalso; simp_all; done) | (simp_all [errOf_zero, errOf_ne]; done)
theorem rview_f (on : Bool) (m : Int) (k : Int) (t : Int) (w : World) (hm : InR m) (hk : InR k) (ht : InR t) : Calls Tryd.prog 78 #[.agg #[.bool on, .int .i64 m, .int .i64 k], .int .i64 t] w fun e w' => e = .returned (.tuple #[.int .i64 (viewF on m k t).x, .int .i64 (viewF on m k t).n]) ∧ Below w.heap.size w w' := by
  cases on
  · refine (rviewf_c m k t w hm hk ht).mono ?_
    intro e w' h
    unfold rviewfP at h
    rcases h with ⟨hc, he, hb⟩ | ⟨⟨ha, hb0, hc⟩, he, hb⟩ | ⟨⟨ha, hb0, hc⟩, he, hb⟩ <;> refine ⟨?_, hb⟩ <;> rw [he]
    · simp only [viewF, if_neg hc, errOf_ne (by decide : ¬ (1 : Int) = 0)]
    all_goals (have hab := And.intro ha hb0; simp only [viewF, if_pos hab]; clear hab ha hb0)
    all_goals (repeat' split)
    all_goals first | rfl | (exfalso; omega) | (exfalso; simp_all; done) | (simp_all [errOf_zero, errOf_ne]; done)
  · refine (rviewt_c m k t w hm hk ht).mono ?_
    intro e w' h
    unfold rviewtP at h
    rcases h with ⟨hc, he, hb⟩ | ⟨⟨ha, hb0, hc⟩, he, hb⟩ | ⟨⟨ha, hb0, hc⟩, he, hb⟩ <;> refine ⟨?_, hb⟩ <;> rw [he]
    · simp only [viewF, if_neg hc, errOf_ne (by decide : ¬ (1 : Int) = 0)]
    all_goals (have hab := And.intro ha hb0; simp only [viewF, if_pos hab]; clear hab ha hb0)
    all_goals (repeat' split)
    all_goals first | rfl | (exfalso; omega) | (exfalso; simp_all; done) | (simp_all [errOf_zero, errOf_ne]; done)
end Go.Proofs.YtengchkiejpglaaDoor
