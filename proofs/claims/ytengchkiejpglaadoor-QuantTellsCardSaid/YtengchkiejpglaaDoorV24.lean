/-
  Layer 24: its statements.
-/
import Derived.Test.YtengchkiejpglaaDoorW24
import Derived.Deep.RegionHeld3
namespace Go.Proofs.YtengchkiejpglaaDoor
open Go.RowKit Go.Extern.Stop Go.Stop Go.Extern
set_option linter.unusedVariables false
set_option maxRecDepth 100000 in
set_option maxHeartbeats 4000000 in
theorem sure24 (w : World) (hg : w.cell? ⟨0, 0, none⟩ = some asHandle) : Calls Tryd.prog 63 #[] w fun e w' => e = .returned (.bool true) ∧ Below w.heap.size w w' := by
  have hH := Held.start hg
  go_enter Tryd.func63, Tryd.ntmps63
  go_wp2_with (first | (go_at_call 59; (with_reducible refine (num24_nil _).mono ?_); rintro e w' ⟨rfl, hb'⟩; have hH' := Held.step (w0 := w) (by assumption) hb'; clear hb') | (go_at_call 59; (with_reducible refine (num24_err _ _ (Held.handle (w0 := w) (by assumption))).mono ?_); rintro e w' ⟨rfl, hb'⟩; have hH' := Held.step (w0 := w) (by assumption) hb'; clear hb') | (go_at_call 54; (with_reducible refine (qdown_no _ _ _ (by decide)).mono ?_); rintro e w' ⟨rfl, rfl⟩) | (go_at_call 54; (with_reducible refine (qdown_c _ _ _ (by decide) (by decide)).mono ?_); rintro e w' (⟨h1, rfl, hb'⟩ | ⟨h1, rfl, hb'⟩) <;> first | (exfalso; omega) | (exfalso; revert h1; decide) | (have hH' := Held.step (w0 := w) (by assumption) hb'; clear hb')) | (go_at_call 56; (with_reducible refine (qup_c _ _ _ (by decide) (by decide)).mono ?_); rintro e w' (⟨h1, rfl, hb'⟩ | ⟨h1, rfl, hb'⟩) <;> first | (exfalso; omega) | (exfalso; revert h1; decide) | (have hH' := Held.step (w0 := w) (by assumption) hb'; clear hb')) | (go_at_call 58; (with_reducible refine (qplace_ok _ _ _ (by decide) (by decide)).mono ?_); rintro e w' ⟨rfl, hb'⟩; have hH' := Held.step (w0 := w) (by assumption) hb'; clear hb') | go_in)
  go_ret
  exact ⟨rfl, Held.below (w0 := w) (by assumption)⟩
set_option maxRecDepth 100000 in
set_option maxHeartbeats 8000000 in
theorem walkQuantTells (t : Int) (q : Int) (wt : (Lit.int .i64 t).wf = true) (wq : (Lit.int .i64 q).wf = true) (w : World) (hg : w.cell? ⟨0, 0, none⟩ = some asHandle) :
    Calls Tryd.prog 11 #[.int .i64 t, .int .i64 q] w fun e w' => e = .returned (.bool true) ∧ Below w.heap.size w w' := by
  have ht := bounds_i64 wt
  clear wt
  have hq := bounds_i64 wq
  clear wq
  have hH := Held.start hg
  by_cases hq : MayQ q
  · by_cases hd : InR (t - t % q)
    all_goals by_cases hu : InR (upq t q)
    all_goals by_cases hz : t % q = 0
    all_goals
      first | have hz' : (t % q == 0) = true := beq_iff_eq.2 hz | have hz' : (t % q == 0) = false := beq_false_of_ne hz
      replace hz := Lib.hid hz
      go_enter Tryd.func11, Tryd.ntmps11
      go_wp2_with (first | (go_at_call 60; (with_reducible refine (qcheck_ok _ _ hq).mono ?_); rintro e w' ⟨rfl, rfl⟩) | (go_at_call 61; (with_reducible refine (rmay_ok _ _ hq).mono ?_); rintro e w' ⟨rfl, rfl⟩) | (go_at_call 54; (with_reducible refine (qdown_c _ _ _ ht hq).mono ?_); rintro e w' (⟨h1, rfl, hb'⟩ | ⟨h1, rfl, hb'⟩) <;> first | (exfalso; omega) | (have hH' := Held.step (w0 := w) (by assumption) hb'; clear hb')) | (go_at_call 56; (with_reducible refine (qup_c _ _ _ ht hq).mono ?_); rintro e w' (⟨h1, rfl, hb'⟩ | ⟨h1, rfl, hb'⟩) <;> first | (exfalso; omega) | (have hH' := Held.step (w0 := w) (by assumption) hb'; clear hb')) | (go_at_call 55; (with_reducible refine (rdown_c _ _ _ ht hq).mono ?_); rintro e w' (⟨h1, rfl, hb'⟩ | ⟨h1, rfl, hb'⟩) <;> first | (exfalso; omega) | (have hH' := Held.step (w0 := w) (by assumption) hb'; clear hb')) | (go_at_call 57; (with_reducible refine (rup_c _ _ _ ht hq).mono ?_); rintro e w' (⟨h1, rfl, hb'⟩ | ⟨h1, rfl, hb'⟩) <;> first | (exfalso; omega) | (have hH' := Held.step (w0 := w) (by assumption) hb'; clear hb')) | (go_at_call 58; (with_reducible refine (qplace_ok _ _ _ ht hq).mono ?_); rintro e w' ⟨rfl, hb'⟩; have hH' := Held.step (w0 := w) (by assumption) hb'; clear hb') | (go_at_call 64; (with_reducible refine (rdiv_ok _ _ _ ht (by omega) hq.1).mono ?_); rintro e w' ⟨rfl, hb'⟩; have hH' := Held.step (w0 := w) (by assumption) hb'; clear hb') | (go_at_call 62; (with_reducible refine (qis_yes _ _ _ ht hq hz.out).mono ?_); rintro e w' ⟨rfl, rfl⟩) | (go_at_call 62; (with_reducible refine (qis_not _ _ _ ht hq hz.out).mono ?_); rintro e w' ⟨rfl, rfl⟩) | (go_at_call 59; (with_reducible refine (num24_nil _).mono ?_); rintro e w' ⟨rfl, hb'⟩; have hH' := Held.step (w0 := w) (by assumption) hb'; clear hb') | (go_at_call 59; (with_reducible refine (num24_err _ _ (Held.handle (w0 := w) (by assumption))).mono ?_); rintro e w' ⟨rfl, hb'⟩; have hH' := Held.step (w0 := w) (by assumption) hb'; clear hb') | (go_at_call 63; (with_reducible refine (sure24 _ (Held.handle (w0 := w) (by assumption))).mono ?_); rintro e w' ⟨rfl, hb'⟩; have hH' := Held.step (w0 := w) (by assumption) hb'; clear hb') | go_in)
      go_region_held3 (fun wx => Held w wx) (first | assumption | exact Held.drew (by assumption)) (first | (go_at_call 60; (with_reducible refine (qcheck_ok _ _ hq).mono ?_); rintro e w' ⟨rfl, rfl⟩) | (go_at_call 61; (with_reducible refine (rmay_ok _ _ hq).mono ?_); rintro e w' ⟨rfl, rfl⟩) | (go_at_call 54; (with_reducible refine (qdown_c _ _ _ ht hq).mono ?_); rintro e w' (⟨h1, rfl, hb'⟩ | ⟨h1, rfl, hb'⟩) <;> first | (exfalso; omega) | (have hH' := Held.step (w0 := w) (by assumption) hb'; clear hb')) | (go_at_call 56; (with_reducible refine (qup_c _ _ _ ht hq).mono ?_); rintro e w' (⟨h1, rfl, hb'⟩ | ⟨h1, rfl, hb'⟩) <;> first | (exfalso; omega) | (have hH' := Held.step (w0 := w) (by assumption) hb'; clear hb')) | (go_at_call 55; (with_reducible refine (rdown_c _ _ _ ht hq).mono ?_); rintro e w' (⟨h1, rfl, hb'⟩ | ⟨h1, rfl, hb'⟩) <;> first | (exfalso; omega) | (have hH' := Held.step (w0 := w) (by assumption) hb'; clear hb')) | (go_at_call 57; (with_reducible refine (rup_c _ _ _ ht hq).mono ?_); rintro e w' (⟨h1, rfl, hb'⟩ | ⟨h1, rfl, hb'⟩) <;> first | (exfalso; omega) | (have hH' := Held.step (w0 := w) (by assumption) hb'; clear hb')) | (go_at_call 58; (with_reducible refine (qplace_ok _ _ _ ht hq).mono ?_); rintro e w' ⟨rfl, hb'⟩; have hH' := Held.step (w0 := w) (by assumption) hb'; clear hb') | (go_at_call 64; (with_reducible refine (rdiv_ok _ _ _ ht (by omega) hq.1).mono ?_); rintro e w' ⟨rfl, hb'⟩; have hH' := Held.step (w0 := w) (by assumption) hb'; clear hb') | (go_at_call 62; (with_reducible refine (qis_yes _ _ _ ht hq hz.out).mono ?_); rintro e w' ⟨rfl, rfl⟩) | (go_at_call 62; (with_reducible refine (qis_not _ _ _ ht hq hz.out).mono ?_); rintro e w' ⟨rfl, rfl⟩) | (go_at_call 59; (with_reducible refine (num24_nil _).mono ?_); rintro e w' ⟨rfl, hb'⟩; have hH' := Held.step (w0 := w) (by assumption) hb'; clear hb') | (go_at_call 59; (with_reducible refine (num24_err _ _ (Held.handle (w0 := w) (by assumption))).mono ?_); rintro e w' ⟨rfl, hb'⟩; have hH' := Held.step (w0 := w) (by assumption) hb'; clear hb') | (go_at_call 63; (with_reducible refine (sure24 _ (Held.handle (w0 := w) (by assumption))).mono ?_); rintro e w' ⟨rfl, hb'⟩; have hH' := Held.step (w0 := w) (by assumption) hb'; clear hb') | go_in)
      go_wp2_with (first | (go_at_call 60; (with_reducible refine (qcheck_ok _ _ hq).mono ?_); rintro e w' ⟨rfl, rfl⟩) | (go_at_call 61; (with_reducible refine (rmay_ok _ _ hq).mono ?_); rintro e w' ⟨rfl, rfl⟩) | (go_at_call 54; (with_reducible refine (qdown_c _ _ _ ht hq).mono ?_); rintro e w' (⟨h1, rfl, hb'⟩ | ⟨h1, rfl, hb'⟩) <;> first | (exfalso; omega) | (have hH' := Held.step (w0 := w) (by assumption) hb'; clear hb')) | (go_at_call 56; (with_reducible refine (qup_c _ _ _ ht hq).mono ?_); rintro e w' (⟨h1, rfl, hb'⟩ | ⟨h1, rfl, hb'⟩) <;> first | (exfalso; omega) | (have hH' := Held.step (w0 := w) (by assumption) hb'; clear hb')) | (go_at_call 55; (with_reducible refine (rdown_c _ _ _ ht hq).mono ?_); rintro e w' (⟨h1, rfl, hb'⟩ | ⟨h1, rfl, hb'⟩) <;> first | (exfalso; omega) | (have hH' := Held.step (w0 := w) (by assumption) hb'; clear hb')) | (go_at_call 57; (with_reducible refine (rup_c _ _ _ ht hq).mono ?_); rintro e w' (⟨h1, rfl, hb'⟩ | ⟨h1, rfl, hb'⟩) <;> first | (exfalso; omega) | (have hH' := Held.step (w0 := w) (by assumption) hb'; clear hb')) | (go_at_call 58; (with_reducible refine (qplace_ok _ _ _ ht hq).mono ?_); rintro e w' ⟨rfl, hb'⟩; have hH' := Held.step (w0 := w) (by assumption) hb'; clear hb') | (go_at_call 64; (with_reducible refine (rdiv_ok _ _ _ ht (by omega) hq.1).mono ?_); rintro e w' ⟨rfl, hb'⟩; have hH' := Held.step (w0 := w) (by assumption) hb'; clear hb') | (go_at_call 62; (with_reducible refine (qis_yes _ _ _ ht hq hz.out).mono ?_); rintro e w' ⟨rfl, rfl⟩) | (go_at_call 62; (with_reducible refine (qis_not _ _ _ ht hq hz.out).mono ?_); rintro e w' ⟨rfl, rfl⟩) | (go_at_call 59; (with_reducible refine (num24_nil _).mono ?_); rintro e w' ⟨rfl, hb'⟩; have hH' := Held.step (w0 := w) (by assumption) hb'; clear hb') | (go_at_call 59; (with_reducible refine (num24_err _ _ (Held.handle (w0 := w) (by assumption))).mono ?_); rintro e w' ⟨rfl, hb'⟩; have hH' := Held.step (w0 := w) (by assumption) hb'; clear hb') | (go_at_call 63; (with_reducible refine (sure24 _ (Held.handle (w0 := w) (by assumption))).mono ?_); rintro e w' ⟨rfl, hb'⟩; have hH' := Held.step (w0 := w) (by assumption) hb'; clear hb') | go_in)
      go_ret
      exact ⟨rfl, Held.below (w0 := w) (by assumption)⟩
  · rcases mayq_no q hq with hq1 | hq1
    all_goals first | have hd : decide (q ≤ 68719476736) = true := decide_eq_true (by omega) | have hd : decide (q ≤ 68719476736) = false := decide_eq_false (by omega)
    all_goals
      go_enter Tryd.func11, Tryd.ntmps11
      go_wp2_with (first | (go_at_call 60; (with_reducible refine (qcheck_no _ _ hq).mono ?_); rintro e w' ⟨rfl, rfl⟩) | (go_at_call 61; (with_reducible refine (rmay_no _ _ hq).mono ?_); rintro e w' ⟨rfl, rfl⟩) | (go_at_call 54; (with_reducible refine (qdown_no _ _ _ hq).mono ?_); rintro e w' ⟨rfl, rfl⟩) | (go_at_call 56; (with_reducible refine (qup_no _ _ _ hq).mono ?_); rintro e w' ⟨rfl, rfl⟩) | (go_at_call 58; (with_reducible refine (qplace_no _ _ _ hq).mono ?_); rintro e w' ⟨rfl, rfl⟩) | (go_at_call 62; (with_reducible refine (qis_no _ _ _ hq).mono ?_); rintro e w' ⟨rfl, rfl⟩) | (go_at_call 55; (with_reducible refine (rdown_no _ _ _ hq).mono ?_); rintro e w' ⟨rfl, rfl⟩) | (go_at_call 57; (with_reducible refine (rup_no _ _ _ hq).mono ?_); rintro e w' ⟨rfl, rfl⟩) | (go_at_call 59; (with_reducible refine (num24_nil _).mono ?_); rintro e w' ⟨rfl, hb'⟩; have hH' := Held.step (w0 := w) (by assumption) hb'; clear hb') | (go_at_call 59; (with_reducible refine (num24_err _ _ (Held.handle (w0 := w) (by assumption))).mono ?_); rintro e w' ⟨rfl, hb'⟩; have hH' := Held.step (w0 := w) (by assumption) hb'; clear hb') | (go_at_call 63; (with_reducible refine (sure24 _ (Held.handle (w0 := w) (by assumption))).mono ?_); rintro e w' ⟨rfl, hb'⟩; have hH' := Held.step (w0 := w) (by assumption) hb'; clear hb') | go_in)
      go_region_held3 (fun wx => Held w wx) (first | assumption | exact Held.drew (by assumption)) (first | (go_at_call 60; (with_reducible refine (qcheck_no _ _ hq).mono ?_); rintro e w' ⟨rfl, rfl⟩) | (go_at_call 61; (with_reducible refine (rmay_no _ _ hq).mono ?_); rintro e w' ⟨rfl, rfl⟩) | (go_at_call 54; (with_reducible refine (qdown_no _ _ _ hq).mono ?_); rintro e w' ⟨rfl, rfl⟩) | (go_at_call 56; (with_reducible refine (qup_no _ _ _ hq).mono ?_); rintro e w' ⟨rfl, rfl⟩) | (go_at_call 58; (with_reducible refine (qplace_no _ _ _ hq).mono ?_); rintro e w' ⟨rfl, rfl⟩) | (go_at_call 62; (with_reducible refine (qis_no _ _ _ hq).mono ?_); rintro e w' ⟨rfl, rfl⟩) | (go_at_call 55; (with_reducible refine (rdown_no _ _ _ hq).mono ?_); rintro e w' ⟨rfl, rfl⟩) | (go_at_call 57; (with_reducible refine (rup_no _ _ _ hq).mono ?_); rintro e w' ⟨rfl, rfl⟩) | (go_at_call 59; (with_reducible refine (num24_nil _).mono ?_); rintro e w' ⟨rfl, hb'⟩; have hH' := Held.step (w0 := w) (by assumption) hb'; clear hb') | (go_at_call 59; (with_reducible refine (num24_err _ _ (Held.handle (w0 := w) (by assumption))).mono ?_); rintro e w' ⟨rfl, hb'⟩; have hH' := Held.step (w0 := w) (by assumption) hb'; clear hb') | (go_at_call 63; (with_reducible refine (sure24 _ (Held.handle (w0 := w) (by assumption))).mono ?_); rintro e w' ⟨rfl, hb'⟩; have hH' := Held.step (w0 := w) (by assumption) hb'; clear hb') | go_in)
      go_wp2_with (first | (go_at_call 60; (with_reducible refine (qcheck_no _ _ hq).mono ?_); rintro e w' ⟨rfl, rfl⟩) | (go_at_call 61; (with_reducible refine (rmay_no _ _ hq).mono ?_); rintro e w' ⟨rfl, rfl⟩) | (go_at_call 54; (with_reducible refine (qdown_no _ _ _ hq).mono ?_); rintro e w' ⟨rfl, rfl⟩) | (go_at_call 56; (with_reducible refine (qup_no _ _ _ hq).mono ?_); rintro e w' ⟨rfl, rfl⟩) | (go_at_call 58; (with_reducible refine (qplace_no _ _ _ hq).mono ?_); rintro e w' ⟨rfl, rfl⟩) | (go_at_call 62; (with_reducible refine (qis_no _ _ _ hq).mono ?_); rintro e w' ⟨rfl, rfl⟩) | (go_at_call 55; (with_reducible refine (rdown_no _ _ _ hq).mono ?_); rintro e w' ⟨rfl, rfl⟩) | (go_at_call 57; (with_reducible refine (rup_no _ _ _ hq).mono ?_); rintro e w' ⟨rfl, rfl⟩) | (go_at_call 59; (with_reducible refine (num24_nil _).mono ?_); rintro e w' ⟨rfl, hb'⟩; have hH' := Held.step (w0 := w) (by assumption) hb'; clear hb') | (go_at_call 59; (with_reducible refine (num24_err _ _ (Held.handle (w0 := w) (by assumption))).mono ?_); rintro e w' ⟨rfl, hb'⟩; have hH' := Held.step (w0 := w) (by assumption) hb'; clear hb') | (go_at_call 63; (with_reducible refine (sure24 _ (Held.handle (w0 := w) (by assumption))).mono ?_); rintro e w' ⟨rfl, hb'⟩; have hH' := Held.step (w0 := w) (by assumption) hb'; clear hb') | go_in)
      go_ret
      exact ⟨rfl, Held.below (w0 := w) (by assumption)⟩
theorem down_zero (t q : Int) (h : 1 ≤ q) : (t - t % q) % q = 0 := by
  rw [← down_mul]; exact Int.mul_emod_left _ _
theorem up_zero (t q : Int) (h : 1 ≤ q) : upq t q % q = 0 := by
  rw [← up_mul]; exact Int.mul_emod_left _ _
theorem up_down (t q : Int) (h : 1 ≤ q) : upq (t - t % q) q = t - t % q := if_pos (down_zero t q h)
theorem down_mono (t u q : Int) (h : 1 ≤ q) (htu : t ≤ u) : t - t % q ≤ u - u % q := by
  rw [← down_mul, ← down_mul]
  exact Int.mul_le_mul_of_nonneg_right (Int.ediv_le_ediv (by omega) htu) (by omega)
theorem up_bounds (t q : Int) (h : 1 ≤ q) : t ≤ upq t q ∧ upq t q < t + q := by
  have h0 := Int.emod_nonneg t (b := q) (by omega)
  have h1 := Int.emod_lt_of_pos t (b := q) (by omega)
  unfold upq
  split <;> omega
set_option maxRecDepth 100000 in
set_option maxHeartbeats 8000000 in
theorem walkQuantHolds (t : Int) (u : Int) (q : Int) (wt : (Lit.int .i64 t).wf = true) (wu : (Lit.int .i64 u).wf = true) (wq : (Lit.int .i64 q).wf = true) (w : World) (hg : w.cell? ⟨0, 0, none⟩ = some asHandle) :
    Calls Tryd.prog 12 #[.int .i64 t, .int .i64 u, .int .i64 q] w fun e w' => e = .returned (.bool true) ∧ Below w.heap.size w w' := by
  have ht := bounds_i64 wt
  clear wt
  have hu := bounds_i64 wu
  clear wu
  have hq := bounds_i64 wq
  clear wq
  have hH := Held.start hg
  by_cases hq : MayQ q
  · by_cases hr : -4611686018427387904 ≤ t ∧ t ≤ u ∧ u ≤ 4611686018427387904
    · have hm1 := Int.emod_nonneg t (b := q) (by omega)
      have hm2 := Int.emod_lt_of_pos t (b := q) (by omega)
      have hn1 := Int.emod_nonneg u (b := q) (by omega)
      have hn2 := Int.emod_lt_of_pos u (b := q) (by omega)
      have hmono := down_mono t u q hq.1 hr.2.1
      have hub := up_bounds t q hq.1
      have HA := Lib.hid (down_zero t q hq.1)
      have HB0 := Lib.hid (up_zero t q hq.1)
      have hda : (t - t % q) - (t - t % q) % q = t - t % q := by rw [down_zero t q hq.1]; omega
      have hxa := up_down t q hq.1
      have hd2 : InR ((t - t % q) - (t - t % q) % q) := by rw [hda]; omega
      have hd3 : InR (upq (t - t % q) q) := by rw [hxa]; omega
      by_cases hz : t % q = 0
      · have he : (t - t % q == upq t q) = true := beq_iff_eq.2 (by have : upq t q = t := if_pos hz; omega)
        replace hz := Lib.hid hz
        go_enter Tryd.func12, Tryd.ntmps12
        go_wp2_with (first | (go_at_call 54; (with_reducible refine (qdown_c _ _ _ (by omega) hq).mono ?_); rintro e w' (⟨h1, rfl, hb'⟩ | ⟨h1, rfl, hb'⟩) <;> first | (exfalso; omega) | (have hH' := Held.step (w0 := w) (by assumption) hb'; clear hb')) | (go_at_call 56; (with_reducible refine (qup_c _ _ _ (by omega) hq).mono ?_); rintro e w' (⟨h1, rfl, hb'⟩ | ⟨h1, rfl, hb'⟩) <;> first | (exfalso; omega) | (have hH' := Held.step (w0 := w) (by assumption) hb'; clear hb')) | (go_at_call 62; (with_reducible refine (qis_yes (t - t % q) q _ (by omega) hq HA.out).mono ?_); rintro e w' ⟨rfl, rfl⟩) | (go_at_call 62; (with_reducible refine (qis_yes (upq t q) q _ (by omega) hq HB0.out).mono ?_); rintro e w' ⟨rfl, rfl⟩) | (go_at_call 62; (with_reducible refine (qis_yes t q _ (by omega) hq hz.out).mono ?_); rintro e w' ⟨rfl, rfl⟩) | (go_at_call 62; (with_reducible refine (qis_not t q _ (by omega) hq hz.out).mono ?_); rintro e w' ⟨rfl, rfl⟩) | (go_at_call 63; (with_reducible refine (sure24 _ (Held.handle (w0 := w) (by assumption))).mono ?_); rintro e w' ⟨rfl, hb'⟩; have hH' := Held.step (w0 := w) (by assumption) hb'; clear hb') | go_in)
        all_goals go_ret
        all_goals exact ⟨rfl, Held.below (w0 := w) (by assumption)⟩
      · have he : (t - t % q == upq t q) = false := beq_false_of_ne (by have : upq t q = t + (q - t % q) := if_neg hz; omega)
        replace hz := Lib.hid hz
        go_enter Tryd.func12, Tryd.ntmps12
        go_wp2_with (first | (go_at_call 54; (with_reducible refine (qdown_c _ _ _ (by omega) hq).mono ?_); rintro e w' (⟨h1, rfl, hb'⟩ | ⟨h1, rfl, hb'⟩) <;> first | (exfalso; omega) | (have hH' := Held.step (w0 := w) (by assumption) hb'; clear hb')) | (go_at_call 56; (with_reducible refine (qup_c _ _ _ (by omega) hq).mono ?_); rintro e w' (⟨h1, rfl, hb'⟩ | ⟨h1, rfl, hb'⟩) <;> first | (exfalso; omega) | (have hH' := Held.step (w0 := w) (by assumption) hb'; clear hb')) | (go_at_call 62; (with_reducible refine (qis_yes (t - t % q) q _ (by omega) hq HA.out).mono ?_); rintro e w' ⟨rfl, rfl⟩) | (go_at_call 62; (with_reducible refine (qis_yes (upq t q) q _ (by omega) hq HB0.out).mono ?_); rintro e w' ⟨rfl, rfl⟩) | (go_at_call 62; (with_reducible refine (qis_yes t q _ (by omega) hq hz.out).mono ?_); rintro e w' ⟨rfl, rfl⟩) | (go_at_call 62; (with_reducible refine (qis_not t q _ (by omega) hq hz.out).mono ?_); rintro e w' ⟨rfl, rfl⟩) | (go_at_call 63; (with_reducible refine (sure24 _ (Held.handle (w0 := w) (by assumption))).mono ?_); rintro e w' ⟨rfl, hb'⟩; have hH' := Held.step (w0 := w) (by assumption) hb'; clear hb') | go_in)
        all_goals go_ret
        all_goals exact ⟨rfl, Held.below (w0 := w) (by assumption)⟩
    · go_enter Tryd.func12, Tryd.ntmps12
      go_wp2_with (first | (go_at_call 54; (with_reducible refine (qdown_c _ _ _ (by omega) hq).mono ?_); rintro e w' (⟨h1, rfl, hb'⟩ | ⟨h1, rfl, hb'⟩) <;> first | (exfalso; omega) | (have hH' := Held.step (w0 := w) (by assumption) hb'; clear hb')) | (go_at_call 56; (with_reducible refine (qup_c _ _ _ (by omega) hq).mono ?_); rintro e w' (⟨h1, rfl, hb'⟩ | ⟨h1, rfl, hb'⟩) <;> first | (exfalso; omega) | (have hH' := Held.step (w0 := w) (by assumption) hb'; clear hb')) | (go_at_call 62; (with_reducible refine (qis_yes (t - t % q) q _ (by omega) hq HA.out).mono ?_); rintro e w' ⟨rfl, rfl⟩) | (go_at_call 62; (with_reducible refine (qis_yes (upq t q) q _ (by omega) hq HB0.out).mono ?_); rintro e w' ⟨rfl, rfl⟩) | (go_at_call 62; (with_reducible refine (qis_yes t q _ (by omega) hq hz.out).mono ?_); rintro e w' ⟨rfl, rfl⟩) | (go_at_call 62; (with_reducible refine (qis_not t q _ (by omega) hq hz.out).mono ?_); rintro e w' ⟨rfl, rfl⟩) | (go_at_call 63; (with_reducible refine (sure24 _ (Held.handle (w0 := w) (by assumption))).mono ?_); rintro e w' ⟨rfl, hb'⟩; have hH' := Held.step (w0 := w) (by assumption) hb'; clear hb') | go_in)
      all_goals go_ret
      all_goals exact ⟨rfl, Held.below (w0 := w) (by assumption)⟩
  · rcases mayq_no q hq with hq1 | hq1
    all_goals
      go_enter Tryd.func12, Tryd.ntmps12
      go_wp2_with (first | (go_at_call 63; (with_reducible refine (sure24 _ (Held.handle (w0 := w) (by assumption))).mono ?_); rintro e w' ⟨rfl, hb'⟩; have hH' := Held.step (w0 := w) (by assumption) hb'; clear hb') | go_in)
      go_ret
      exact ⟨rfl, Held.below (w0 := w) (by assumption)⟩
end Go.Proofs.YtengchkiejpglaaDoor
