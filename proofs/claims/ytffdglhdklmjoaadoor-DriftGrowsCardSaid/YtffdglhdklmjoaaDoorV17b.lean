/-
  Layer 17: the statement DriftGrows, its walk.
-/
import Derived.Test.YtffdglhdklmjoaaDoorW17b
namespace Go.Proofs.YtffdglhdklmjoaaDoor
open Go.RowKit Go.Extern.Stop Go.Stop Go.Extern
set_option linter.unusedVariables false
set_option linter.unusedSimpArgs false
def OkG (err rho x : Int) : Prop := 0 ≤ err ∧ 0 ≤ rho ∧ rho ≤ 2097152 ∧ 0 ≤ x
instance (err rho x : Int) : Decidable (OkG err rho x) := by unfold OkG; exact inferInstance
def gE (err rho x : Int) : Int := if OkG err rho x then 0 else 1
def gN (err rho x : Int) : Int := if OkG err rho x then sat (err + upK (x * rho)) else 0
def uV (err rho m : Int) : Int := if rho = 0 ∨ m = 9223372036854775807 then 9223372036854775807 else if InR ((m - err) * 1073741824 / rho) then (m - err) * 1073741824 / rho else 9223372036854775807
def uE (err rho m : Int) : Int := if OkG err rho m then (if m < err then 10 else 0) else 1
def uN (err rho m : Int) : Int := if OkG err rho m then (if m < err then 0 else uV err rho m) else 0
theorem grow_any (err rho x : Int) (w : World) (he : InR err) (hr : InR rho) (hx : InR x) : Calls Tryd.prog 93 #[.int .i64 err, .int .i64 rho, .int .i64 x] w fun e w' => e = .returned (.tuple #[.int .i64 (gN err rho x), errOf (gE err rho x)]) ∧ Below w.heap.size w w' := by
  by_cases h : OkG err rho x
  · rw [show gN err rho x = sat (err + upK (x * rho)) from if_pos h, show gE err rho x = 0 from if_pos h]
    exact grow_f err rho x w h.1 (by omega) h.2.1 h.2.2.1 h.2.2.2 (by omega)
  · rw [show gN err rho x = 0 from if_neg h, show gE err rho x = 1 from if_neg h]
    exact grow_no err rho x w h
theorem rgrow_any (err rho x : Int) (w : World) (he : InR err) (hr : InR rho) (hx : InR x) : Calls Tryd.prog 94 #[.int .i64 err, .int .i64 rho, .int .i64 x] w fun e w' => e = .returned (.tuple #[.int .i64 (gN err rho x), .int .i64 (gE err rho x)]) ∧ Below w.heap.size w w' := by
  by_cases h : OkG err rho x
  · rw [show gN err rho x = sat (err + upK (x * rho)) from if_pos h, show gE err rho x = 0 from if_pos h]
    exact rgrow_v err rho x _ w h.1 (by omega) h.2.1 h.2.2.1 h.2.2.2 (by omega) (Lib.hid rfl)
  · rw [show gN err rho x = 0 from if_neg h, show gE err rho x = 1 from if_neg h]
    exact rgrow_no err rho x w h
theorem until_any (err rho x : Int) (w : World) (he : InR err) (hr : InR rho) (hx : InR x) : Calls Tryd.prog 95 #[.int .i64 err, .int .i64 rho, .int .i64 x] w fun e w' => e = .returned (.tuple #[.int .i64 (uN err rho x), errOf (uE err rho x)]) ∧ Below w.heap.size w w' := by
  by_cases h : OkG err rho x
  · by_cases hp : x < err
    · rw [show uN err rho x = 0 by unfold uN; rw [if_pos h, if_pos hp], show uE err rho x = 10 by unfold uE; rw [if_pos h, if_pos hp]]
      exact until_past err rho x w h.1 h.2.1 h.2.2.1 h.2.2.2 hp
    · rw [show uN err rho x = uV err rho x by unfold uN; rw [if_pos h, if_neg hp], show uE err rho x = 0 by unfold uE; rw [if_pos h, if_neg hp]]
      by_cases ha : rho = 0 ∨ x = 9223372036854775807
      · rw [show uV err rho x = 9223372036854775807 from if_pos ha]
        exact until_all err rho x w h.1 h.2.1 h.2.2.1 h.2.2.2 (by omega) ha
      · have hr1 : 1 ≤ rho := by have := h.2.1; omega
        by_cases hq : InR ((x - err) * 1073741824 / rho)
        · rw [show uV err rho x = (x - err) * 1073741824 / rho by unfold uV; rw [if_neg ha, if_pos hq]]
          exact until_in err rho x w h.1 hr1 h.2.2.1 h.2.2.2 (by omega) (by omega) hq
        · rw [show uV err rho x = 9223372036854775807 by unfold uV; rw [if_neg ha, if_neg hq]]
          exact until_big err rho x w h.1 hr1 h.2.2.1 h.2.2.2 (by omega) (by omega) hq
  · rw [show uN err rho x = 0 from if_neg h, show uE err rho x = 1 from if_neg h]
    exact until_no err rho x w h
theorem runtil_any (err rho x : Int) (w : World) (he : InR err) (hr : InR rho) (hx : InR x) : Calls Tryd.prog 96 #[.int .i64 err, .int .i64 rho, .int .i64 x] w fun e w' => e = .returned (.tuple #[.int .i64 (uN err rho x), .int .i64 (uE err rho x)]) ∧ Below w.heap.size w w' := by
  by_cases h : OkG err rho x
  · by_cases hp : x < err
    · rw [show uN err rho x = 0 by unfold uN; rw [if_pos h, if_pos hp], show uE err rho x = 10 by unfold uE; rw [if_pos h, if_pos hp]]
      exact runtil_past err rho x w h.1 h.2.1 h.2.2.1 h.2.2.2 (by omega) hp
    · rw [show uN err rho x = uV err rho x by unfold uN; rw [if_pos h, if_neg hp], show uE err rho x = 0 by unfold uE; rw [if_pos h, if_neg hp]]
      have hmax : ∀ v, uV err rho x = 9223372036854775807 → err + upK (9223372036854775807 * rho) ≤ x ∨ x = 9223372036854775807 → v = uV err rho x → Calls Tryd.prog 96 #[.int .i64 err, .int .i64 rho, .int .i64 x] w fun e w' => e = .returned (.tuple #[.int .i64 v, .int .i64 0]) ∧ Below w.heap.size w w' := by
        intro v hv hle hv2
        rw [hv2, hv]
        refine runtil_max err rho x w h.1 h.2.1 h.2.2.1 h.2.2.2 (by omega) (by omega) _ (Lib.hid rfl) ?_
        rcases hle with hle | hle
        · exact sat_le hle (by have := (upK_rng (g := 9223372036854775807) (rho := rho) (by omega) (by omega) h.2.1 h.2.2.1).1; have := h.1; omega) (by omega)
        · have := (sat_rng (err + upK (9223372036854775807 * rho))).2; omega
      by_cases ha : rho = 0 ∨ x = 9223372036854775807
      · have hv : uV err rho x = 9223372036854775807 := if_pos ha
        refine hmax _ hv ?_ rfl
        rcases ha with ha | ha
        · left; subst ha; have : upK (9223372036854775807 * 0) = 0 := rfl; omega
        · right; exact ha
      · have hr1 : 1 ≤ rho := by have := h.2.1; omega
        have hn := until_nums (o2 := x) h.1 hr1 (by omega)
        by_cases hq : InR ((x - err) * 1073741824 / rho)
        · have hv : uV err rho x = (x - err) * 1073741824 / rho := by unfold uV; rw [if_neg ha, if_pos hq]
          obtain ⟨q, hqe⟩ : ∃ q, (x - err) * 1073741824 / rho = q := ⟨_, rfl⟩
          rw [hqe] at hq hn hv
          by_cases hq2 : q = 9223372036854775807
          · refine hmax _ (by rw [hv, hq2]) (Or.inl ?_) rfl
            have := hn.2.1; rw [hq2] at this; exact this
          · rw [hv]
            exact runtil_q err rho x w h.1 h.2.1 h.2.2.1 h.2.2.2 (by omega) (by omega) (by omega) q hn.1 (by omega) (Lib.hid hn.2.1) (Lib.hid hn.2.2.1)
        · have hv : uV err rho x = 9223372036854775807 := by unfold uV; rw [if_neg ha, if_neg hq]
          exact hmax _ hv (Or.inl (hn.2.2.2 hq)) rfl
  · rw [show uN err rho x = 0 from if_neg h, show uE err rho x = 1 from if_neg h]
    exact runtil_no err rho x w h
theorem bad3 {a b : Int} (h : ¬ (0 ≤ a ∧ a ≤ 1048576 ∧ 0 ≤ b ∧ b ≤ 1048576)) : a < 0 ∨ (0 ≤ a ∧ 1048576 < a) ∨ (0 ≤ a ∧ a ≤ 1048576 ∧ b < 0) ∨ (0 ≤ a ∧ a ≤ 1048576 ∧ 0 ≤ b ∧ 1048576 < b) := by omega
set_option maxRecDepth 100000 in
theorem both_no (a b : Int) (w : World) (h : ¬ (0 ≤ a ∧ a ≤ 1048576 ∧ 0 ≤ b ∧ b ≤ 1048576)) : Calls Tryd.prog 97 #[.int .i64 a, .int .i64 b] w fun e w' => e = .returned (.tuple #[.int .i64 0, errV 1]) ∧ Below w.heap.size w w' := by
  rcases bad3 h with h | h | h | h
  all_goals first | have hd1 : decide (a ≤ 1048576) = true := decide_eq_true (by omega) | have hd1 : decide (a ≤ 1048576) = false := decide_eq_false (by omega) | skip
  all_goals first | have hd2 : decide (b ≤ 1048576) = true := decide_eq_true (by omega) | have hd2 : decide (b ≤ 1048576) = false := decide_eq_false (by omega) | skip
  all_goals
    go_enter Tryd.func97, Tryd.ntmps97
    go_wp2_with (fail)
    go_ret2
    exact ⟨rfl, Below.refl _ _⟩
theorem num17_any (n : Int) (w : World) (hg : w.cell? ⟨0, 0, none⟩ = some asHandle) : Calls Tryd.prog 98 #[errOf n] w fun e w' => e = .returned (.int .i64 n) ∧ Below w.heap.size w w' := by
  by_cases h : n = 0
  · subst h; rw [errOf_zero]; exact num17_nil _
  · rw [errOf_ne h]; exact num17_err _ _ hg
set_option maxRecDepth 100000 in
set_option maxHeartbeats 8000000 in
theorem grows_in (err rho o0 o1 : Int) (he : InR err) (hr : InR rho) (hi0 : InR o0) (hi1 : InR o1) (h : 0 ≤ err ∧ err ≤ 1048576 ∧ 0 ≤ rho ∧ rho ≤ 1048576) (w : World) (hg : w.cell? ⟨0, 0, none⟩ = some asHandle) :
    Calls Tryd.prog 17 #[.int .i64 err, .int .i64 rho, .agg #[.int .i64 o0, .int .i64 o1]] w fun e w' => e = .returned (.bool true) ∧ Below w.heap.size w w' := by
  have hH := Held.start hg
  obtain ⟨b0, b1, b2, b3⟩ := h
  have hd1 : decide (err ≤ 1048576) = true := decide_eq_true b1
  have hd2 : decide (rho ≤ 1048576) = true := decide_eq_true b3
  go_enter Tryd.func17, Tryd.ntmps17
  go_wp2_with (fail)
  go_at_call 93
  (with_reducible refine (grow_any err rho o0 _ he hr hi0).mono ?_)
  rintro e w1 ⟨rfl, HB⟩
  obtain ⟨hc1, hf1⟩ := bcell HB
  obtain ⟨hd1, hh1⟩ := bcell2 (U := w) (by repeat (first | exact Below.refl _ _ | refine Below.setCell ?_ (by simp <;> omega) _ | refine Below.alloc ?_ (by simp <;> omega) _ | refine Below.drew ?_)) HB
  have hz1 := HB.size
  try simp at hz1
  (try (have z1w0 : w.heap.size < w1.heap.size := (by omega)))
  (try (have z1w1 : w.heap.size + 1 < w1.heap.size := (by omega)))
  (try (have z1w2 : w.heap.size + 1 + 1 < w1.heap.size := (by omega)))
  (try (have z1w3 : w.heap.size + 1 + 1 + 1 < w1.heap.size := (by omega)))
  have hH1 := Held.step (w0 := w) (by repeat (first | assumption | refine Held.alloc ?_ _ | refine Held.drew ?_)) HB
  clear HB
  go_wp2_with (fail)
  go_at_call 94
  (with_reducible refine (rgrow_any err rho o0 _ he hr hi0).mono ?_)
  rintro e w2 ⟨rfl, HB⟩
  obtain ⟨hc2, hf2⟩ := bcell HB
  obtain ⟨hd2, hh2⟩ := bcell2 (U := w1) (by repeat (first | exact Below.refl _ _ | refine Below.setCell ?_ (by simp <;> omega) _ | refine Below.alloc ?_ (by simp <;> omega) _ | refine Below.drew ?_)) HB
  have hz2 := HB.size
  try simp at hz2
  (try (have z2w0 : w.heap.size < w2.heap.size := (by omega)))
  (try (have z2w1 : w.heap.size + 1 < w2.heap.size := (by omega)))
  (try (have z2w2 : w.heap.size + 1 + 1 < w2.heap.size := (by omega)))
  (try (have z2w3 : w.heap.size + 1 + 1 + 1 < w2.heap.size := (by omega)))
  (try (have z2w10 : w1.heap.size < w2.heap.size := (by omega)))
  (try (have z2w11 : w1.heap.size + 1 < w2.heap.size := (by omega)))
  (try (have z2w12 : w1.heap.size + 1 + 1 < w2.heap.size := (by omega)))
  (try (have z2w13 : w1.heap.size + 1 + 1 + 1 < w2.heap.size := (by omega)))
  have hH2 := Held.step (w0 := w) (by repeat (first | assumption | refine Held.alloc ?_ _ | refine Held.drew ?_)) HB
  clear HB
  go_wp2_with (fail)
  go_at_call 95
  (with_reducible refine (until_any err rho o1 _ he hr hi1).mono ?_)
  rintro e w3 ⟨rfl, HB⟩
  obtain ⟨hc3, hf3⟩ := bcell HB
  obtain ⟨hd3, hh3⟩ := bcell2 (U := w2) (by repeat (first | exact Below.refl _ _ | refine Below.setCell ?_ (by simp <;> omega) _ | refine Below.alloc ?_ (by simp <;> omega) _ | refine Below.drew ?_)) HB
  have hz3 := HB.size
  try simp at hz3
  (try (have z3w0 : w.heap.size < w3.heap.size := (by omega)))
  (try (have z3w1 : w.heap.size + 1 < w3.heap.size := (by omega)))
  (try (have z3w2 : w.heap.size + 1 + 1 < w3.heap.size := (by omega)))
  (try (have z3w3 : w.heap.size + 1 + 1 + 1 < w3.heap.size := (by omega)))
  (try (have z3w10 : w1.heap.size < w3.heap.size := (by omega)))
  (try (have z3w11 : w1.heap.size + 1 < w3.heap.size := (by omega)))
  (try (have z3w12 : w1.heap.size + 1 + 1 < w3.heap.size := (by omega)))
  (try (have z3w13 : w1.heap.size + 1 + 1 + 1 < w3.heap.size := (by omega)))
  (try (have z3w20 : w2.heap.size < w3.heap.size := (by omega)))
  (try (have z3w21 : w2.heap.size + 1 < w3.heap.size := (by omega)))
  (try (have z3w22 : w2.heap.size + 1 + 1 < w3.heap.size := (by omega)))
  (try (have z3w23 : w2.heap.size + 1 + 1 + 1 < w3.heap.size := (by omega)))
  have hH3 := Held.step (w0 := w) (by repeat (first | assumption | refine Held.alloc ?_ _ | refine Held.drew ?_)) HB
  clear HB
  go_wp2_with (fail)
  go_at_call 96
  (with_reducible refine (runtil_any err rho o1 _ he hr hi1).mono ?_)
  rintro e w4 ⟨rfl, HB⟩
  obtain ⟨hc4, hf4⟩ := bcell HB
  obtain ⟨hd4, hh4⟩ := bcell2 (U := w3) (by repeat (first | exact Below.refl _ _ | refine Below.setCell ?_ (by simp <;> omega) _ | refine Below.alloc ?_ (by simp <;> omega) _ | refine Below.drew ?_)) HB
  have hz4 := HB.size
  try simp at hz4
  (try (have z4w0 : w.heap.size < w4.heap.size := (by omega)))
  (try (have z4w1 : w.heap.size + 1 < w4.heap.size := (by omega)))
  (try (have z4w2 : w.heap.size + 1 + 1 < w4.heap.size := (by omega)))
  (try (have z4w3 : w.heap.size + 1 + 1 + 1 < w4.heap.size := (by omega)))
  (try (have z4w10 : w1.heap.size < w4.heap.size := (by omega)))
  (try (have z4w11 : w1.heap.size + 1 < w4.heap.size := (by omega)))
  (try (have z4w12 : w1.heap.size + 1 + 1 < w4.heap.size := (by omega)))
  (try (have z4w13 : w1.heap.size + 1 + 1 + 1 < w4.heap.size := (by omega)))
  (try (have z4w20 : w2.heap.size < w4.heap.size := (by omega)))
  (try (have z4w21 : w2.heap.size + 1 < w4.heap.size := (by omega)))
  (try (have z4w22 : w2.heap.size + 1 + 1 < w4.heap.size := (by omega)))
  (try (have z4w23 : w2.heap.size + 1 + 1 + 1 < w4.heap.size := (by omega)))
  (try (have z4w30 : w3.heap.size < w4.heap.size := (by omega)))
  (try (have z4w31 : w3.heap.size + 1 < w4.heap.size := (by omega)))
  (try (have z4w32 : w3.heap.size + 1 + 1 < w4.heap.size := (by omega)))
  (try (have z4w33 : w3.heap.size + 1 + 1 + 1 < w4.heap.size := (by omega)))
  have hH4 := Held.step (w0 := w) (by repeat (first | assumption | refine Held.alloc ?_ _ | refine Held.drew ?_)) HB
  clear HB
  go_wp2_with (fail)
  go_at_call 97
  (with_reducible refine (both_ok err rho _ b0 b1 b2 b3).mono ?_)
  rintro e w5 ⟨rfl, HB⟩
  obtain ⟨hc5, hf5⟩ := bcell HB
  obtain ⟨hd5, hh5⟩ := bcell2 (U := w4) (by repeat (first | exact Below.refl _ _ | refine Below.setCell ?_ (by simp <;> omega) _ | refine Below.alloc ?_ (by simp <;> omega) _ | refine Below.drew ?_)) HB
  have hz5 := HB.size
  try simp at hz5
  (try (have z5w0 : w.heap.size < w5.heap.size := (by omega)))
  (try (have z5w1 : w.heap.size + 1 < w5.heap.size := (by omega)))
  (try (have z5w2 : w.heap.size + 1 + 1 < w5.heap.size := (by omega)))
  (try (have z5w3 : w.heap.size + 1 + 1 + 1 < w5.heap.size := (by omega)))
  (try (have z5w10 : w1.heap.size < w5.heap.size := (by omega)))
  (try (have z5w11 : w1.heap.size + 1 < w5.heap.size := (by omega)))
  (try (have z5w12 : w1.heap.size + 1 + 1 < w5.heap.size := (by omega)))
  (try (have z5w13 : w1.heap.size + 1 + 1 + 1 < w5.heap.size := (by omega)))
  (try (have z5w20 : w2.heap.size < w5.heap.size := (by omega)))
  (try (have z5w21 : w2.heap.size + 1 < w5.heap.size := (by omega)))
  (try (have z5w22 : w2.heap.size + 1 + 1 < w5.heap.size := (by omega)))
  (try (have z5w23 : w2.heap.size + 1 + 1 + 1 < w5.heap.size := (by omega)))
  (try (have z5w30 : w3.heap.size < w5.heap.size := (by omega)))
  (try (have z5w31 : w3.heap.size + 1 < w5.heap.size := (by omega)))
  (try (have z5w32 : w3.heap.size + 1 + 1 < w5.heap.size := (by omega)))
  (try (have z5w33 : w3.heap.size + 1 + 1 + 1 < w5.heap.size := (by omega)))
  (try (have z5w40 : w4.heap.size < w5.heap.size := (by omega)))
  (try (have z5w41 : w4.heap.size + 1 < w5.heap.size := (by omega)))
  (try (have z5w42 : w4.heap.size + 1 + 1 < w5.heap.size := (by omega)))
  (try (have z5w43 : w4.heap.size + 1 + 1 + 1 < w5.heap.size := (by omega)))
  have hH5 := Held.step (w0 := w) (by repeat (first | assumption | refine Held.alloc ?_ _ | refine Held.drew ?_)) HB
  clear HB
  go_wp2_with (first | (go_at_call 98; (with_reducible refine (num17_any _ _ (Held.handle (w0 := w) (by repeat (first | assumption | refine Held.alloc ?_ _ | refine Held.drew ?_ | refine Held.set1 ?_ (by first | omega | (simp; done) | (simp; omega)) (handle_lt hg) _)))).mono ?_); rintro e w' ⟨rfl, hb'⟩; obtain ⟨hc, hf⟩ := bcell hb'; have hz := hb'.size; (try (simp at hz)); have hH' := Held.step (w0 := w) (by repeat (first | assumption | refine Held.alloc ?_ _ | refine Held.drew ?_ | refine Held.set1 ?_ (by first | omega | (simp; done) | (simp; omega)) (handle_lt hg) _)) hb'; clear hb') | (go_at_call 98; (with_reducible refine (num17_nil _).mono ?_); rintro e w' ⟨rfl, hb'⟩; obtain ⟨hc, hf⟩ := bcell hb'; have hz := hb'.size; (try (simp at hz)); have hH' := Held.step (w0 := w) (by repeat (first | assumption | refine Held.alloc ?_ _ | refine Held.drew ?_ | refine Held.set1 ?_ (by first | omega | (simp; done) | (simp; omega)) (handle_lt hg) _)) hb'; clear hb') | (go_at_call 98; (with_reducible refine (num17_err _ _ (Held.handle (w0 := w) (by repeat (first | assumption | refine Held.alloc ?_ _ | refine Held.drew ?_ | refine Held.set1 ?_ (by first | omega | (simp; done) | (simp; omega)) (handle_lt hg) _)))).mono ?_); rintro e w' ⟨rfl, hb'⟩; obtain ⟨hc, hf⟩ := bcell hb'; have hz := hb'.size; (try (simp at hz)); have hH' := Held.step (w0 := w) (by repeat (first | assumption | refine Held.alloc ?_ _ | refine Held.drew ?_ | refine Held.set1 ?_ (by first | omega | (simp; done) | (simp; omega)) (handle_lt hg) _)) hb'; clear hb') | (go_at_call 99; (with_reducible refine (sure17 _ (Held.handle (w0 := w) (by repeat (first | assumption | refine Held.alloc ?_ _ | refine Held.drew ?_ | refine Held.set1 ?_ (by first | omega | (simp; done) | (simp; omega)) (handle_lt hg) _)))).mono ?_); rintro e w' ⟨rfl, hb'⟩; obtain ⟨hc, hf⟩ := bcell hb'; have hz := hb'.size; (try (simp at hz)); have hH' := Held.step (w0 := w) (by repeat (first | assumption | refine Held.alloc ?_ _ | refine Held.drew ?_ | refine Held.set1 ?_ (by first | omega | (simp; done) | (simp; omega)) (handle_lt hg) _)) hb'; clear hb') | go_in)
  go_ret
  exact ⟨rfl, Held.below (w0 := w) (by assumption)⟩
set_option maxRecDepth 100000 in
set_option maxHeartbeats 8000000 in
theorem grows_out (err rho o0 o1 : Int) (he : InR err) (hr : InR rho) (hi0 : InR o0) (hi1 : InR o1) (h : err < 0 ∨ (0 ≤ err ∧ 1048576 < err) ∨ (0 ≤ err ∧ err ≤ 1048576 ∧ rho < 0) ∨ (0 ≤ err ∧ err ≤ 1048576 ∧ 0 ≤ rho ∧ 1048576 < rho)) (w : World) (hg : w.cell? ⟨0, 0, none⟩ = some asHandle) :
    Calls Tryd.prog 17 #[.int .i64 err, .int .i64 rho, .agg #[.int .i64 o0, .int .i64 o1]] w fun e w' => e = .returned (.bool true) ∧ Below w.heap.size w w' := by
  have hH := Held.start hg
  have hno : ¬ (0 ≤ err ∧ err ≤ 1048576 ∧ 0 ≤ rho ∧ rho ≤ 1048576) := by omega
  rcases h with h | h | h | h
  all_goals first | have hd1 : decide (err ≤ 1048576) = true := decide_eq_true (by omega) | have hd1 : decide (err ≤ 1048576) = false := decide_eq_false (by omega) | skip
  all_goals first | have hd2 : decide (rho ≤ 1048576) = true := decide_eq_true (by omega) | have hd2 : decide (rho ≤ 1048576) = false := decide_eq_false (by omega) | skip
  all_goals
    have HNO := Lib.hid hno
    clear hno
    go_enter Tryd.func17, Tryd.ntmps17
    go_wp2_with (fail)
    go_at_call 93
    (with_reducible refine (grow_any err rho o0 _ he hr hi0).mono ?_)
    rintro e w1 ⟨rfl, HB⟩
    obtain ⟨hc1, hf1⟩ := bcell HB
    obtain ⟨hd1, hh1⟩ := bcell2 (U := w) (by repeat (first | exact Below.refl _ _ | refine Below.setCell ?_ (by simp <;> omega) _ | refine Below.alloc ?_ (by simp <;> omega) _ | refine Below.drew ?_)) HB
    have hz1 := HB.size
    try simp at hz1
    (try (have z1w0 : w.heap.size < w1.heap.size := (by omega)))
    (try (have z1w1 : w.heap.size + 1 < w1.heap.size := (by omega)))
    (try (have z1w2 : w.heap.size + 1 + 1 < w1.heap.size := (by omega)))
    (try (have z1w3 : w.heap.size + 1 + 1 + 1 < w1.heap.size := (by omega)))
    have hH1 := Held.step (w0 := w) (by repeat (first | assumption | refine Held.alloc ?_ _ | refine Held.drew ?_)) HB
    clear HB
    go_wp2_with (fail)
    go_at_call 94
    (with_reducible refine (rgrow_any err rho o0 _ he hr hi0).mono ?_)
    rintro e w2 ⟨rfl, HB⟩
    obtain ⟨hc2, hf2⟩ := bcell HB
    obtain ⟨hd2, hh2⟩ := bcell2 (U := w1) (by repeat (first | exact Below.refl _ _ | refine Below.setCell ?_ (by simp <;> omega) _ | refine Below.alloc ?_ (by simp <;> omega) _ | refine Below.drew ?_)) HB
    have hz2 := HB.size
    try simp at hz2
    (try (have z2w0 : w.heap.size < w2.heap.size := (by omega)))
    (try (have z2w1 : w.heap.size + 1 < w2.heap.size := (by omega)))
    (try (have z2w2 : w.heap.size + 1 + 1 < w2.heap.size := (by omega)))
    (try (have z2w3 : w.heap.size + 1 + 1 + 1 < w2.heap.size := (by omega)))
    (try (have z2w10 : w1.heap.size < w2.heap.size := (by omega)))
    (try (have z2w11 : w1.heap.size + 1 < w2.heap.size := (by omega)))
    (try (have z2w12 : w1.heap.size + 1 + 1 < w2.heap.size := (by omega)))
    (try (have z2w13 : w1.heap.size + 1 + 1 + 1 < w2.heap.size := (by omega)))
    have hH2 := Held.step (w0 := w) (by repeat (first | assumption | refine Held.alloc ?_ _ | refine Held.drew ?_)) HB
    clear HB
    go_wp2_with (fail)
    go_at_call 95
    (with_reducible refine (until_any err rho o1 _ he hr hi1).mono ?_)
    rintro e w3 ⟨rfl, HB⟩
    obtain ⟨hc3, hf3⟩ := bcell HB
    obtain ⟨hd3, hh3⟩ := bcell2 (U := w2) (by repeat (first | exact Below.refl _ _ | refine Below.setCell ?_ (by simp <;> omega) _ | refine Below.alloc ?_ (by simp <;> omega) _ | refine Below.drew ?_)) HB
    have hz3 := HB.size
    try simp at hz3
    (try (have z3w0 : w.heap.size < w3.heap.size := (by omega)))
    (try (have z3w1 : w.heap.size + 1 < w3.heap.size := (by omega)))
    (try (have z3w2 : w.heap.size + 1 + 1 < w3.heap.size := (by omega)))
    (try (have z3w3 : w.heap.size + 1 + 1 + 1 < w3.heap.size := (by omega)))
    (try (have z3w10 : w1.heap.size < w3.heap.size := (by omega)))
    (try (have z3w11 : w1.heap.size + 1 < w3.heap.size := (by omega)))
    (try (have z3w12 : w1.heap.size + 1 + 1 < w3.heap.size := (by omega)))
    (try (have z3w13 : w1.heap.size + 1 + 1 + 1 < w3.heap.size := (by omega)))
    (try (have z3w20 : w2.heap.size < w3.heap.size := (by omega)))
    (try (have z3w21 : w2.heap.size + 1 < w3.heap.size := (by omega)))
    (try (have z3w22 : w2.heap.size + 1 + 1 < w3.heap.size := (by omega)))
    (try (have z3w23 : w2.heap.size + 1 + 1 + 1 < w3.heap.size := (by omega)))
    have hH3 := Held.step (w0 := w) (by repeat (first | assumption | refine Held.alloc ?_ _ | refine Held.drew ?_)) HB
    clear HB
    go_wp2_with (fail)
    go_at_call 96
    (with_reducible refine (runtil_any err rho o1 _ he hr hi1).mono ?_)
    rintro e w4 ⟨rfl, HB⟩
    obtain ⟨hc4, hf4⟩ := bcell HB
    obtain ⟨hd4, hh4⟩ := bcell2 (U := w3) (by repeat (first | exact Below.refl _ _ | refine Below.setCell ?_ (by simp <;> omega) _ | refine Below.alloc ?_ (by simp <;> omega) _ | refine Below.drew ?_)) HB
    have hz4 := HB.size
    try simp at hz4
    (try (have z4w0 : w.heap.size < w4.heap.size := (by omega)))
    (try (have z4w1 : w.heap.size + 1 < w4.heap.size := (by omega)))
    (try (have z4w2 : w.heap.size + 1 + 1 < w4.heap.size := (by omega)))
    (try (have z4w3 : w.heap.size + 1 + 1 + 1 < w4.heap.size := (by omega)))
    (try (have z4w10 : w1.heap.size < w4.heap.size := (by omega)))
    (try (have z4w11 : w1.heap.size + 1 < w4.heap.size := (by omega)))
    (try (have z4w12 : w1.heap.size + 1 + 1 < w4.heap.size := (by omega)))
    (try (have z4w13 : w1.heap.size + 1 + 1 + 1 < w4.heap.size := (by omega)))
    (try (have z4w20 : w2.heap.size < w4.heap.size := (by omega)))
    (try (have z4w21 : w2.heap.size + 1 < w4.heap.size := (by omega)))
    (try (have z4w22 : w2.heap.size + 1 + 1 < w4.heap.size := (by omega)))
    (try (have z4w23 : w2.heap.size + 1 + 1 + 1 < w4.heap.size := (by omega)))
    (try (have z4w30 : w3.heap.size < w4.heap.size := (by omega)))
    (try (have z4w31 : w3.heap.size + 1 < w4.heap.size := (by omega)))
    (try (have z4w32 : w3.heap.size + 1 + 1 < w4.heap.size := (by omega)))
    (try (have z4w33 : w3.heap.size + 1 + 1 + 1 < w4.heap.size := (by omega)))
    have hH4 := Held.step (w0 := w) (by repeat (first | assumption | refine Held.alloc ?_ _ | refine Held.drew ?_)) HB
    clear HB
    go_wp2_with (fail)
    go_at_call 97
    (with_reducible refine (both_no err rho _ HNO.out).mono ?_)
    rintro e w5 ⟨rfl, HB⟩
    obtain ⟨hc5, hf5⟩ := bcell HB
    obtain ⟨hd5, hh5⟩ := bcell2 (U := w4) (by repeat (first | exact Below.refl _ _ | refine Below.setCell ?_ (by simp <;> omega) _ | refine Below.alloc ?_ (by simp <;> omega) _ | refine Below.drew ?_)) HB
    have hz5 := HB.size
    try simp at hz5
    (try (have z5w0 : w.heap.size < w5.heap.size := (by omega)))
    (try (have z5w1 : w.heap.size + 1 < w5.heap.size := (by omega)))
    (try (have z5w2 : w.heap.size + 1 + 1 < w5.heap.size := (by omega)))
    (try (have z5w3 : w.heap.size + 1 + 1 + 1 < w5.heap.size := (by omega)))
    (try (have z5w10 : w1.heap.size < w5.heap.size := (by omega)))
    (try (have z5w11 : w1.heap.size + 1 < w5.heap.size := (by omega)))
    (try (have z5w12 : w1.heap.size + 1 + 1 < w5.heap.size := (by omega)))
    (try (have z5w13 : w1.heap.size + 1 + 1 + 1 < w5.heap.size := (by omega)))
    (try (have z5w20 : w2.heap.size < w5.heap.size := (by omega)))
    (try (have z5w21 : w2.heap.size + 1 < w5.heap.size := (by omega)))
    (try (have z5w22 : w2.heap.size + 1 + 1 < w5.heap.size := (by omega)))
    (try (have z5w23 : w2.heap.size + 1 + 1 + 1 < w5.heap.size := (by omega)))
    (try (have z5w30 : w3.heap.size < w5.heap.size := (by omega)))
    (try (have z5w31 : w3.heap.size + 1 < w5.heap.size := (by omega)))
    (try (have z5w32 : w3.heap.size + 1 + 1 < w5.heap.size := (by omega)))
    (try (have z5w33 : w3.heap.size + 1 + 1 + 1 < w5.heap.size := (by omega)))
    (try (have z5w40 : w4.heap.size < w5.heap.size := (by omega)))
    (try (have z5w41 : w4.heap.size + 1 < w5.heap.size := (by omega)))
    (try (have z5w42 : w4.heap.size + 1 + 1 < w5.heap.size := (by omega)))
    (try (have z5w43 : w4.heap.size + 1 + 1 + 1 < w5.heap.size := (by omega)))
    have hH5 := Held.step (w0 := w) (by repeat (first | assumption | refine Held.alloc ?_ _ | refine Held.drew ?_)) HB
    clear HB
    go_wp2_with (first | (go_at_call 98; (with_reducible refine (num17_any _ _ (Held.handle (w0 := w) (by repeat (first | assumption | refine Held.alloc ?_ _ | refine Held.drew ?_ | refine Held.set1 ?_ (by first | omega | (simp; done) | (simp; omega)) (handle_lt hg) _)))).mono ?_); rintro e w' ⟨rfl, hb'⟩; obtain ⟨hc, hf⟩ := bcell hb'; have hz := hb'.size; (try (simp at hz)); have hH' := Held.step (w0 := w) (by repeat (first | assumption | refine Held.alloc ?_ _ | refine Held.drew ?_ | refine Held.set1 ?_ (by first | omega | (simp; done) | (simp; omega)) (handle_lt hg) _)) hb'; clear hb') | (go_at_call 98; (with_reducible refine (num17_nil _).mono ?_); rintro e w' ⟨rfl, hb'⟩; obtain ⟨hc, hf⟩ := bcell hb'; have hz := hb'.size; (try (simp at hz)); have hH' := Held.step (w0 := w) (by repeat (first | assumption | refine Held.alloc ?_ _ | refine Held.drew ?_ | refine Held.set1 ?_ (by first | omega | (simp; done) | (simp; omega)) (handle_lt hg) _)) hb'; clear hb') | (go_at_call 98; (with_reducible refine (num17_err _ _ (Held.handle (w0 := w) (by repeat (first | assumption | refine Held.alloc ?_ _ | refine Held.drew ?_ | refine Held.set1 ?_ (by first | omega | (simp; done) | (simp; omega)) (handle_lt hg) _)))).mono ?_); rintro e w' ⟨rfl, hb'⟩; obtain ⟨hc, hf⟩ := bcell hb'; have hz := hb'.size; (try (simp at hz)); have hH' := Held.step (w0 := w) (by repeat (first | assumption | refine Held.alloc ?_ _ | refine Held.drew ?_ | refine Held.set1 ?_ (by first | omega | (simp; done) | (simp; omega)) (handle_lt hg) _)) hb'; clear hb') | (go_at_call 99; (with_reducible refine (sure17 _ (Held.handle (w0 := w) (by repeat (first | assumption | refine Held.alloc ?_ _ | refine Held.drew ?_ | refine Held.set1 ?_ (by first | omega | (simp; done) | (simp; omega)) (handle_lt hg) _)))).mono ?_); rintro e w' ⟨rfl, hb'⟩; obtain ⟨hc, hf⟩ := bcell hb'; have hz := hb'.size; (try (simp at hz)); have hH' := Held.step (w0 := w) (by repeat (first | assumption | refine Held.alloc ?_ _ | refine Held.drew ?_ | refine Held.set1 ?_ (by first | omega | (simp; done) | (simp; omega)) (handle_lt hg) _)) hb'; clear hb') | go_in)
    go_ret
    exact ⟨rfl, Held.below (w0 := w) (by assumption)⟩
theorem walkDriftGrows (err rho o0 o1 : Int) (he : InR err) (hr : InR rho) (hi0 : InR o0) (hi1 : InR o1) (w : World) (hg : w.cell? ⟨0, 0, none⟩ = some asHandle) :
    Calls Tryd.prog 17 #[.int .i64 err, .int .i64 rho, .agg #[.int .i64 o0, .int .i64 o1]] w fun e w' => e = .returned (.bool true) ∧ Below w.heap.size w w' := by
  by_cases h : 0 ≤ err ∧ err ≤ 1048576 ∧ 0 ≤ rho ∧ rho ≤ 1048576
  · exact grows_in err rho o0 o1 he hr hi0 hi1 h w hg
  · exact grows_out err rho o0 o1 he hr hi0 hi1 (bad3 h) w hg
end Go.Proofs.YtffdglhdklmjoaaDoor
