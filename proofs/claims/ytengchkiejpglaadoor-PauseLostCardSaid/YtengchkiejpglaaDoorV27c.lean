/-
  Layer 27: the statement PauseLost.
-/
import Derived.Test.YtengchkiejpglaaDoorV27b
import Derived.Deep.RegionHeld3
namespace Go.Proofs.YtengchkiejpglaaDoor
open Go.RowKit Go.Extern.Stop Go.Stop Go.Extern
set_option linter.unusedVariables false
set_option linter.unusedSimpArgs false
set_option maxRecDepth 100000 in
set_option maxHeartbeats 8000000 in
theorem lost_no (on : Bool) (m k t b0 b1 : Int) (hm : InR m) (hk : InR k) (ht : -2147483648 ≤ t ∧ t ≤ 2147483647) (hb0 : 0 ≤ b0 ∧ b0 ≤ 4294967295) (hb1 : 0 ≤ b1 ∧ b1 ≤ 4294967295) (hM : ¬ MayP on m k) (w : World) (hg : w.cell? ⟨0, 0, none⟩ = some asHandle) :
    Calls Tryd.prog 17 #[.agg #[.bool on, .int .i64 m, .int .i64 k], .int .i32 t, .agg #[.int .u32 b0, .int .u32 b1]] w fun e w' => e = .returned (.bool true) ∧ Below w.heap.size w w' := by
  have hH := Held.start hg
  go_enter Tryd.func17, Tryd.ntmps17
  go_wp2_with (fail)
  go_at_call 80
  (with_reducible refine (pcheck_no _ _ _ _ (by omega) (by omega) hM).mono ?_)
  rintro e w1 ⟨rfl, HB⟩
  obtain ⟨hc1, hf1⟩ := bcell HB
  obtain ⟨hd1, hh1⟩ := bcell2 (U := w) (by repeat (first | exact Below.refl _ _ | refine Below.setCell ?_ (by simp <;> omega) _ | refine Below.alloc ?_ (by simp <;> omega) _ | refine Below.drew ?_)) HB
  have hz1 := HB.size
  try simp at hz1
  (try (have z1w0 : w.heap.size < w1.heap.size := (by omega)))
  (try (have z1w1 : w.heap.size + 1 < w1.heap.size := (by omega)))
  (try (have z1w2 : w.heap.size + 1 + 1 < w1.heap.size := (by omega)))
  (try (have z1w3 : w.heap.size + 1 + 1 + 1 < w1.heap.size := (by omega)))
  have hH1 := Held.step (w0 := w) (by repeat (first | assumption | refine Held.alloc ?_ _ | refine Held.drew ?_)) HB
  clear HB
  go_wp2_with (first | (go_at_call 82; (with_reducible refine (sure27 _ (Held.handle (w0 := w) (by repeat (first | assumption | refine Held.alloc ?_ _ | refine Held.drew ?_)))).mono ?_); rintro e w' ⟨rfl, hb'⟩; obtain ⟨hc, hf⟩ := bcell hb'; have hz := hb'.size; (try (simp at hz)); have hH' := Held.step (w0 := w) (by repeat (first | assumption | refine Held.alloc ?_ _ | refine Held.drew ?_)) hb'; clear hb') | go_in)
  go_ret
  exact ⟨rfl, Held.below (w0 := w) (by assumption)⟩
set_option maxRecDepth 100000 in
set_option maxHeartbeats 8000000 in
theorem lost_on  (m k t b0 b1 : Int) (hm : InR m) (hk : InR k) (ht : -2147483648 ≤ t ∧ t ≤ 2147483647) (hb0 : 0 ≤ b0 ∧ b0 ≤ 4294967295) (hb1 : 0 ≤ b1 ∧ b1 ≤ 4294967295) (hM : MayP true m k) (w : World) (hg : w.cell? ⟨0, 0, none⟩ = some asHandle) :
    Calls Tryd.prog 17 #[.agg #[.bool true, .int .i64 m, .int .i64 k], .int .i32 t, .agg #[.int .u32 b0, .int .u32 b1]] w fun e w' => e = .returned (.bool true) ∧ Below w.heap.size w w' := by
  have hH := Held.start hg
  go_enter Tryd.func17, Tryd.ntmps17
  go_wp2_with (fail)
  go_at_call 80
  (with_reducible refine (pcheck_ok _ _ _ _ (by omega) (by omega) hM).mono ?_)
  rintro e w1 ⟨rfl, HB⟩
  obtain ⟨hc1, hf1⟩ := bcell HB
  obtain ⟨hd1, hh1⟩ := bcell2 (U := w) (by repeat (first | exact Below.refl _ _ | refine Below.setCell ?_ (by simp <;> omega) _ | refine Below.alloc ?_ (by simp <;> omega) _ | refine Below.drew ?_)) HB
  have hz1 := HB.size
  try simp at hz1
  (try (have z1w0 : w.heap.size < w1.heap.size := (by omega)))
  (try (have z1w1 : w.heap.size + 1 < w1.heap.size := (by omega)))
  (try (have z1w2 : w.heap.size + 1 + 1 < w1.heap.size := (by omega)))
  (try (have z1w3 : w.heap.size + 1 + 1 + 1 < w1.heap.size := (by omega)))
  have hH1 := Held.step (w0 := w) (by repeat (first | assumption | refine Held.alloc ?_ _ | refine Held.drew ?_)) HB
  clear HB
  go_wp2_with (first | (go_at_call 82; (with_reducible refine (sure27 _ (Held.handle (w0 := w) (by repeat (first | assumption | refine Held.alloc ?_ _ | refine Held.drew ?_)))).mono ?_); rintro e w' ⟨rfl, hb'⟩; obtain ⟨hc, hf⟩ := bcell hb'; have hz := hb'.size; (try (simp at hz)); have hH' := Held.step (w0 := w) (by repeat (first | assumption | refine Held.alloc ?_ _ | refine Held.drew ?_)) hb'; clear hb') | go_in)
  go_ret
  exact ⟨rfl, Held.below (w0 := w) (by assumption)⟩
set_option maxRecDepth 100000 in
set_option maxHeartbeats 8000000 in
theorem lost_far  (m k t b0 b1 : Int) (hm : InR m) (hk : InR k) (ht : -2147483648 ≤ t ∧ t ≤ 2147483647) (hb0 : 0 ≤ b0 ∧ b0 ≤ 4294967295) (hb1 : 0 ≤ b1 ∧ b1 ≤ 4294967295) (hM : MayP false m k) (hf : 1152921504606846976 < k) (w : World) (hg : w.cell? ⟨0, 0, none⟩ = some asHandle) :
    Calls Tryd.prog 17 #[.agg #[.bool false, .int .i64 m, .int .i64 k], .int .i32 t, .agg #[.int .u32 b0, .int .u32 b1]] w fun e w' => e = .returned (.bool true) ∧ Below w.heap.size w w' := by
  have hH := Held.start hg
  go_enter Tryd.func17, Tryd.ntmps17
  go_wp2_with (fail)
  go_at_call 80
  (with_reducible refine (pcheck_ok _ _ _ _ (by omega) (by omega) hM).mono ?_)
  rintro e w1 ⟨rfl, HB⟩
  obtain ⟨hc1, hf1⟩ := bcell HB
  obtain ⟨hd1, hh1⟩ := bcell2 (U := w) (by repeat (first | exact Below.refl _ _ | refine Below.setCell ?_ (by simp <;> omega) _ | refine Below.alloc ?_ (by simp <;> omega) _ | refine Below.drew ?_)) HB
  have hz1 := HB.size
  try simp at hz1
  (try (have z1w0 : w.heap.size < w1.heap.size := (by omega)))
  (try (have z1w1 : w.heap.size + 1 < w1.heap.size := (by omega)))
  (try (have z1w2 : w.heap.size + 1 + 1 < w1.heap.size := (by omega)))
  (try (have z1w3 : w.heap.size + 1 + 1 + 1 < w1.heap.size := (by omega)))
  have hH1 := Held.step (w0 := w) (by repeat (first | assumption | refine Held.alloc ?_ _ | refine Held.drew ?_)) HB
  clear HB
  go_wp2_with (first | (go_at_call 82; (with_reducible refine (sure27 _ (Held.handle (w0 := w) (by repeat (first | assumption | refine Held.alloc ?_ _ | refine Held.drew ?_)))).mono ?_); rintro e w' ⟨rfl, hb'⟩; obtain ⟨hc, hf⟩ := bcell hb'; have hz := hb'.size; (try (simp at hz)); have hH' := Held.step (w0 := w) (by repeat (first | assumption | refine Held.alloc ?_ _ | refine Held.drew ?_)) hb'; clear hb') | go_in)
  go_ret
  exact ⟨rfl, Held.below (w0 := w) (by assumption)⟩
set_option maxRecDepth 100000 in
set_option maxHeartbeats 8000000 in
theorem lost_yes  (m k t b0 b1 : Int) (hm : InR m) (hk : InR k) (ht : -2147483648 ≤ t ∧ t ≤ 2147483647) (hb0 : 0 ≤ b0 ∧ b0 ≤ 4294967295) (hb1 : 0 ≤ b1 ∧ b1 ≤ 4294967295) (hM : MayP false m k) (hf : k ≤ 1152921504606846976) (w : World) (hg : w.cell? ⟨0, 0, none⟩ = some asHandle) :
    Calls Tryd.prog 17 #[.agg #[.bool false, .int .i64 m, .int .i64 k], .int .i32 t, .agg #[.int .u32 b0, .int .u32 b1]] w fun e w' => e = .returned (.bool true) ∧ Below w.heap.size w w' := by
  have hH := Held.start hg
  have hM' := mayP_f.1 hM
  obtain rfl : m = 0 := hM'.1
  go_enter Tryd.func17, Tryd.ntmps17
  go_wp2_with (fail)
  go_at_call 80
  (with_reducible refine (pcheck_ok _ _ _ _ (by omega) (by omega) hM).mono ?_)
  rintro e w1 ⟨rfl, HB⟩
  obtain ⟨hc1, hf1⟩ := bcell HB
  obtain ⟨hd1, hh1⟩ := bcell2 (U := w) (by repeat (first | exact Below.refl _ _ | refine Below.setCell ?_ (by simp <;> omega) _ | refine Below.alloc ?_ (by simp <;> omega) _ | refine Below.drew ?_)) HB
  have hz1 := HB.size
  try simp at hz1
  (try (have z1w0 : w.heap.size < w1.heap.size := (by omega)))
  (try (have z1w1 : w.heap.size + 1 < w1.heap.size := (by omega)))
  (try (have z1w2 : w.heap.size + 1 + 1 < w1.heap.size := (by omega)))
  (try (have z1w3 : w.heap.size + 1 + 1 + 1 < w1.heap.size := (by omega)))
  have hH1 := Held.step (w0 := w) (by repeat (first | assumption | refine Held.alloc ?_ _ | refine Held.drew ?_)) HB
  clear HB
  go_wp2_with (fail)
  go_at_call 73
  (with_reducible refine (pstop_c _ _ _ _ _ (by omega) (by omega) (by omega)).mono ?_)
  rintro e w2 (⟨hQ, rfl, HB⟩ | ⟨hQ, rfl, HB⟩ | ⟨hQ, rfl, HB⟩)
  all_goals (try (first | rw [mayP_f] at hQ | rw [mayP_t] at hQ))
  all_goals try (exfalso; first | omega | (simp at hQ; done) | (simp at hQ; omega))
  obtain ⟨hc2, hf2⟩ := bcell HB
  obtain ⟨hd2, hh2⟩ := bcell2 (U := w1) (by repeat (first | exact Below.refl _ _ | refine Below.setCell ?_ (by simp <;> omega) _ | refine Below.alloc ?_ (by simp <;> omega) _ | refine Below.drew ?_)) HB
  have hz2 := HB.size
  try simp at hz2
  (try (have z2w0 : w.heap.size < w2.heap.size := (by omega)))
  (try (have z2w1 : w.heap.size + 1 < w2.heap.size := (by omega)))
  (try (have z2w2 : w.heap.size + 1 + 1 < w2.heap.size := (by omega)))
  (try (have z2w3 : w.heap.size + 1 + 1 + 1 < w2.heap.size := (by omega)))
  (try (have z2w10 : w1.heap.size < w2.heap.size := (by omega)))
  (try (have z2w11 : w1.heap.size + 1 < w2.heap.size := (by omega)))
  (try (have z2w12 : w1.heap.size + 1 + 1 < w2.heap.size := (by omega)))
  (try (have z2w13 : w1.heap.size + 1 + 1 + 1 < w2.heap.size := (by omega)))
  have hH2 := Held.step (w0 := w) (by repeat (first | assumption | refine Held.alloc ?_ _ | refine Held.drew ?_)) HB
  clear HB
  go_wp2_with (fail)
  go_at_call 75
  (with_reducible refine (pgo_c _ _ _ _ _ _ (by omega) (by omega) (by omega)).mono ?_)
  rintro e w3 (⟨hQ, rfl, HB⟩ | ⟨hQ, rfl, HB⟩ | ⟨hQ, rfl, HB⟩ | ⟨hQ, rfl, HB⟩ | ⟨hQ, rfl, HB⟩ | ⟨hQ, rfl, HB⟩)
  all_goals (try (first | rw [mayP_f] at hQ | rw [mayP_t] at hQ))
  all_goals try (exfalso; first | omega | (simp at hQ; done) | (simp at hQ; omega))
  obtain ⟨hc3, hf3⟩ := bcell HB
  obtain ⟨hd3, hh3⟩ := bcell2 (U := w2) (by repeat (first | exact Below.refl _ _ | refine Below.setCell ?_ (by simp <;> omega) _ | refine Below.alloc ?_ (by simp <;> omega) _ | refine Below.drew ?_)) HB
  have hz3 := HB.size
  try simp at hz3
  (try (have z3w0 : w.heap.size < w3.heap.size := (by omega)))
  (try (have z3w1 : w.heap.size + 1 < w3.heap.size := (by omega)))
  (try (have z3w2 : w.heap.size + 1 + 1 < w3.heap.size := (by omega)))
  (try (have z3w3 : w.heap.size + 1 + 1 + 1 < w3.heap.size := (by omega)))
  (try (have z3w10 : w1.heap.size < w3.heap.size := (by omega)))
  (try (have z3w11 : w1.heap.size + 1 < w3.heap.size := (by omega)))
  (try (have z3w12 : w1.heap.size + 1 + 1 < w3.heap.size := (by omega)))
  (try (have z3w13 : w1.heap.size + 1 + 1 + 1 < w3.heap.size := (by omega)))
  (try (have z3w20 : w2.heap.size < w3.heap.size := (by omega)))
  (try (have z3w21 : w2.heap.size + 1 < w3.heap.size := (by omega)))
  (try (have z3w22 : w2.heap.size + 1 + 1 < w3.heap.size := (by omega)))
  (try (have z3w23 : w2.heap.size + 1 + 1 + 1 < w3.heap.size := (by omega)))
  have hH3 := Held.step (w0 := w) (by repeat (first | assumption | refine Held.alloc ?_ _ | refine Held.drew ?_)) HB
  clear HB
  go_wp2_with (fail)
  go_at_call 75
  (with_reducible refine (pgo_c _ _ _ _ _ _ (by omega) (by omega) (by omega)).mono ?_)
  rintro e w4 (⟨hQ, rfl, HB⟩ | ⟨hQ, rfl, HB⟩ | ⟨hQ, rfl, HB⟩ | ⟨hQ, rfl, HB⟩ | ⟨hQ, rfl, HB⟩ | ⟨hQ, rfl, HB⟩)
  all_goals (try (first | rw [mayP_f] at hQ | rw [mayP_t] at hQ))
  all_goals try (exfalso; first | omega | (simp at hQ; done) | (simp at hQ; omega))
  obtain ⟨hc4, hf4⟩ := bcell HB
  obtain ⟨hd4, hh4⟩ := bcell2 (U := w3) (by repeat (first | exact Below.refl _ _ | refine Below.setCell ?_ (by simp <;> omega) _ | refine Below.alloc ?_ (by simp <;> omega) _ | refine Below.drew ?_)) HB
  have hz4 := HB.size
  try simp at hz4
  (try (have z4w0 : w.heap.size < w4.heap.size := (by omega)))
  (try (have z4w1 : w.heap.size + 1 < w4.heap.size := (by omega)))
  (try (have z4w2 : w.heap.size + 1 + 1 < w4.heap.size := (by omega)))
  (try (have z4w3 : w.heap.size + 1 + 1 + 1 < w4.heap.size := (by omega)))
  (try (have z4w10 : w1.heap.size < w4.heap.size := (by omega)))
  (try (have z4w11 : w1.heap.size + 1 < w4.heap.size := (by omega)))
  (try (have z4w12 : w1.heap.size + 1 + 1 < w4.heap.size := (by omega)))
  (try (have z4w13 : w1.heap.size + 1 + 1 + 1 < w4.heap.size := (by omega)))
  (try (have z4w20 : w2.heap.size < w4.heap.size := (by omega)))
  (try (have z4w21 : w2.heap.size + 1 < w4.heap.size := (by omega)))
  (try (have z4w22 : w2.heap.size + 1 + 1 < w4.heap.size := (by omega)))
  (try (have z4w23 : w2.heap.size + 1 + 1 + 1 < w4.heap.size := (by omega)))
  (try (have z4w30 : w3.heap.size < w4.heap.size := (by omega)))
  (try (have z4w31 : w3.heap.size + 1 < w4.heap.size := (by omega)))
  (try (have z4w32 : w3.heap.size + 1 + 1 < w4.heap.size := (by omega)))
  (try (have z4w33 : w3.heap.size + 1 + 1 + 1 < w4.heap.size := (by omega)))
  have hH4 := Held.step (w0 := w) (by repeat (first | assumption | refine Held.alloc ?_ _ | refine Held.drew ?_)) HB
  clear HB
  go_wp2_with (fail)
  go_at_call 77
  (with_reducible refine (pviewf_c _ _ _ _ (by omega) (by omega) (by omega)).mono ?_)
  rintro e w5 (⟨hQ, rfl, HB⟩ | ⟨hQ, rfl, HB⟩ | ⟨hQ, rfl, HB⟩)
  all_goals (try (first | rw [mayP_f] at hQ | rw [mayP_t] at hQ))
  all_goals try (exfalso; first | omega | (simp at hQ; done) | (simp at hQ; omega))
  obtain ⟨hc5, hf5⟩ := bcell HB
  obtain ⟨hd5, hh5⟩ := bcell2 (U := w4) (by repeat (first | exact Below.refl _ _ | refine Below.setCell ?_ (by simp <;> omega) _ | refine Below.alloc ?_ (by simp <;> omega) _ | refine Below.drew ?_)) HB
  have hz5 := HB.size
  try simp at hz5
  (try (have z5w0 : w.heap.size < w5.heap.size := (by omega)))
  (try (have z5w1 : w.heap.size + 1 < w5.heap.size := (by omega)))
  (try (have z5w2 : w.heap.size + 1 + 1 < w5.heap.size := (by omega)))
  (try (have z5w3 : w.heap.size + 1 + 1 + 1 < w5.heap.size := (by omega)))
  (try (have z5w10 : w1.heap.size < w5.heap.size := (by omega)))
  (try (have z5w11 : w1.heap.size + 1 < w5.heap.size := (by omega)))
  (try (have z5w12 : w1.heap.size + 1 + 1 < w5.heap.size := (by omega)))
  (try (have z5w13 : w1.heap.size + 1 + 1 + 1 < w5.heap.size := (by omega)))
  (try (have z5w20 : w2.heap.size < w5.heap.size := (by omega)))
  (try (have z5w21 : w2.heap.size + 1 < w5.heap.size := (by omega)))
  (try (have z5w22 : w2.heap.size + 1 + 1 < w5.heap.size := (by omega)))
  (try (have z5w23 : w2.heap.size + 1 + 1 + 1 < w5.heap.size := (by omega)))
  (try (have z5w30 : w3.heap.size < w5.heap.size := (by omega)))
  (try (have z5w31 : w3.heap.size + 1 < w5.heap.size := (by omega)))
  (try (have z5w32 : w3.heap.size + 1 + 1 < w5.heap.size := (by omega)))
  (try (have z5w33 : w3.heap.size + 1 + 1 + 1 < w5.heap.size := (by omega)))
  (try (have z5w40 : w4.heap.size < w5.heap.size := (by omega)))
  (try (have z5w41 : w4.heap.size + 1 < w5.heap.size := (by omega)))
  (try (have z5w42 : w4.heap.size + 1 + 1 < w5.heap.size := (by omega)))
  (try (have z5w43 : w4.heap.size + 1 + 1 + 1 < w5.heap.size := (by omega)))
  have hH5 := Held.step (w0 := w) (by repeat (first | assumption | refine Held.alloc ?_ _ | refine Held.drew ?_)) HB
  clear HB
  go_wp2_with (fail)
  go_at_call 77
  (with_reducible refine (pviewf_c _ _ _ _ (by omega) (by omega) (by omega)).mono ?_)
  rintro e w6 (⟨hQ, rfl, HB⟩ | ⟨hQ, rfl, HB⟩ | ⟨hQ, rfl, HB⟩)
  all_goals (try (first | rw [mayP_f] at hQ | rw [mayP_t] at hQ))
  all_goals try (exfalso; first | omega | (simp at hQ; done) | (simp at hQ; omega))
  obtain ⟨hc6, hf6⟩ := bcell HB
  obtain ⟨hd6, hh6⟩ := bcell2 (U := w5) (by repeat (first | exact Below.refl _ _ | refine Below.setCell ?_ (by simp <;> omega) _ | refine Below.alloc ?_ (by simp <;> omega) _ | refine Below.drew ?_)) HB
  have hz6 := HB.size
  try simp at hz6
  (try (have z6w0 : w.heap.size < w6.heap.size := (by omega)))
  (try (have z6w1 : w.heap.size + 1 < w6.heap.size := (by omega)))
  (try (have z6w2 : w.heap.size + 1 + 1 < w6.heap.size := (by omega)))
  (try (have z6w3 : w.heap.size + 1 + 1 + 1 < w6.heap.size := (by omega)))
  (try (have z6w10 : w1.heap.size < w6.heap.size := (by omega)))
  (try (have z6w11 : w1.heap.size + 1 < w6.heap.size := (by omega)))
  (try (have z6w12 : w1.heap.size + 1 + 1 < w6.heap.size := (by omega)))
  (try (have z6w13 : w1.heap.size + 1 + 1 + 1 < w6.heap.size := (by omega)))
  (try (have z6w20 : w2.heap.size < w6.heap.size := (by omega)))
  (try (have z6w21 : w2.heap.size + 1 < w6.heap.size := (by omega)))
  (try (have z6w22 : w2.heap.size + 1 + 1 < w6.heap.size := (by omega)))
  (try (have z6w23 : w2.heap.size + 1 + 1 + 1 < w6.heap.size := (by omega)))
  (try (have z6w30 : w3.heap.size < w6.heap.size := (by omega)))
  (try (have z6w31 : w3.heap.size + 1 < w6.heap.size := (by omega)))
  (try (have z6w32 : w3.heap.size + 1 + 1 < w6.heap.size := (by omega)))
  (try (have z6w33 : w3.heap.size + 1 + 1 + 1 < w6.heap.size := (by omega)))
  (try (have z6w40 : w4.heap.size < w6.heap.size := (by omega)))
  (try (have z6w41 : w4.heap.size + 1 < w6.heap.size := (by omega)))
  (try (have z6w42 : w4.heap.size + 1 + 1 < w6.heap.size := (by omega)))
  (try (have z6w43 : w4.heap.size + 1 + 1 + 1 < w6.heap.size := (by omega)))
  (try (have z6w50 : w5.heap.size < w6.heap.size := (by omega)))
  (try (have z6w51 : w5.heap.size + 1 < w6.heap.size := (by omega)))
  (try (have z6w52 : w5.heap.size + 1 + 1 < w6.heap.size := (by omega)))
  (try (have z6w53 : w5.heap.size + 1 + 1 + 1 < w6.heap.size := (by omega)))
  have hH6 := Held.step (w0 := w) (by repeat (first | assumption | refine Held.alloc ?_ _ | refine Held.drew ?_)) HB
  clear HB
  go_wp2_with (fail)
  go_at_call 77
  (with_reducible refine (pviewf_c _ _ _ _ (by omega) (by omega) (by omega)).mono ?_)
  rintro e w7 (⟨hQ, rfl, HB⟩ | ⟨hQ, rfl, HB⟩ | ⟨hQ, rfl, HB⟩)
  all_goals (try (first | rw [mayP_f] at hQ | rw [mayP_t] at hQ))
  all_goals try (exfalso; first | omega | (simp at hQ; done) | (simp at hQ; omega))
  obtain ⟨hc7, hf7⟩ := bcell HB
  obtain ⟨hd7, hh7⟩ := bcell2 (U := w6) (by repeat (first | exact Below.refl _ _ | refine Below.setCell ?_ (by simp <;> omega) _ | refine Below.alloc ?_ (by simp <;> omega) _ | refine Below.drew ?_)) HB
  have hz7 := HB.size
  try simp at hz7
  (try (have z7w0 : w.heap.size < w7.heap.size := (by omega)))
  (try (have z7w1 : w.heap.size + 1 < w7.heap.size := (by omega)))
  (try (have z7w2 : w.heap.size + 1 + 1 < w7.heap.size := (by omega)))
  (try (have z7w3 : w.heap.size + 1 + 1 + 1 < w7.heap.size := (by omega)))
  (try (have z7w10 : w1.heap.size < w7.heap.size := (by omega)))
  (try (have z7w11 : w1.heap.size + 1 < w7.heap.size := (by omega)))
  (try (have z7w12 : w1.heap.size + 1 + 1 < w7.heap.size := (by omega)))
  (try (have z7w13 : w1.heap.size + 1 + 1 + 1 < w7.heap.size := (by omega)))
  (try (have z7w20 : w2.heap.size < w7.heap.size := (by omega)))
  (try (have z7w21 : w2.heap.size + 1 < w7.heap.size := (by omega)))
  (try (have z7w22 : w2.heap.size + 1 + 1 < w7.heap.size := (by omega)))
  (try (have z7w23 : w2.heap.size + 1 + 1 + 1 < w7.heap.size := (by omega)))
  (try (have z7w30 : w3.heap.size < w7.heap.size := (by omega)))
  (try (have z7w31 : w3.heap.size + 1 < w7.heap.size := (by omega)))
  (try (have z7w32 : w3.heap.size + 1 + 1 < w7.heap.size := (by omega)))
  (try (have z7w33 : w3.heap.size + 1 + 1 + 1 < w7.heap.size := (by omega)))
  (try (have z7w40 : w4.heap.size < w7.heap.size := (by omega)))
  (try (have z7w41 : w4.heap.size + 1 < w7.heap.size := (by omega)))
  (try (have z7w42 : w4.heap.size + 1 + 1 < w7.heap.size := (by omega)))
  (try (have z7w43 : w4.heap.size + 1 + 1 + 1 < w7.heap.size := (by omega)))
  (try (have z7w50 : w5.heap.size < w7.heap.size := (by omega)))
  (try (have z7w51 : w5.heap.size + 1 < w7.heap.size := (by omega)))
  (try (have z7w52 : w5.heap.size + 1 + 1 < w7.heap.size := (by omega)))
  (try (have z7w53 : w5.heap.size + 1 + 1 + 1 < w7.heap.size := (by omega)))
  (try (have z7w60 : w6.heap.size < w7.heap.size := (by omega)))
  (try (have z7w61 : w6.heap.size + 1 < w7.heap.size := (by omega)))
  (try (have z7w62 : w6.heap.size + 1 + 1 < w7.heap.size := (by omega)))
  (try (have z7w63 : w6.heap.size + 1 + 1 + 1 < w7.heap.size := (by omega)))
  have hH7 := Held.step (w0 := w) (by repeat (first | assumption | refine Held.alloc ?_ _ | refine Held.drew ?_)) HB
  clear HB
  go_wp2_with (first | (go_at_call 82; (with_reducible refine (sure27 _ (Held.handle (w0 := w) (by repeat (first | assumption | refine Held.alloc ?_ _ | refine Held.drew ?_)))).mono ?_); rintro e w' ⟨rfl, hb'⟩; obtain ⟨hc, hf⟩ := bcell hb'; have hz := hb'.size; (try (simp at hz)); have hH' := Held.step (w0 := w) (by repeat (first | assumption | refine Held.alloc ?_ _ | refine Held.drew ?_)) hb'; clear hb') | go_in)
  go_ret
  exact ⟨rfl, Held.below (w0 := w) (by assumption)⟩
theorem walkPauseLost (on : Bool) (m k t b0 b1 : Int) (hm : InR m) (hk : InR k) (ht : -2147483648 ≤ t ∧ t ≤ 2147483647) (hb0 : 0 ≤ b0 ∧ b0 ≤ 4294967295) (hb1 : 0 ≤ b1 ∧ b1 ≤ 4294967295) (w : World) (hg : w.cell? ⟨0, 0, none⟩ = some asHandle) :
    Calls Tryd.prog 17 #[.agg #[.bool on, .int .i64 m, .int .i64 k], .int .i32 t, .agg #[.int .u32 b0, .int .u32 b1]] w fun e w' => e = .returned (.bool true) ∧ Below w.heap.size w w' := by
  by_cases hM : MayP on m k
  · cases on
    · by_cases hf : k ≤ 1152921504606846976
      · exact lost_yes m k t b0 b1 hm hk ht hb0 hb1 hM hf w hg
      · exact lost_far m k t b0 b1 hm hk ht hb0 hb1 hM (by omega) w hg
    · exact lost_on m k t b0 b1 hm hk ht hb0 hb1 hM w hg
  · exact lost_no on m k t b0 b1 hm hk ht hb0 hb1 hM w hg
end Go.Proofs.YtengchkiejpglaaDoor
