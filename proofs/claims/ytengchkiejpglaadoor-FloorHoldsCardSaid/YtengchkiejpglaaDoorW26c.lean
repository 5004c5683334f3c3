/-
  Layer 26: margins, functional contracts.
-/
import Derived.Test.YtengchkiejpglaaDoorW26b
import Derived.Deep.RegionHeld3
namespace Go.Proofs.YtengchkiejpglaaDoor
open Go.RowKit Go.Extern.Stop Go.Stop Go.Extern
set_option linter.unusedVariables false
set_option linter.unusedSimpArgs false
/-- the error of a number: none of 0 -/
def errOf (n : Int) : Value := if n = 0 then .nilIface else errV n
theorem errOf_zero : errOf 0 = .nilIface := by unfold errOf; rw [if_pos rfl]
theorem errOf_ne {n : Int} (h : ¬ n = 0) : errOf n = errV n := by unfold errOf; rw [if_neg h]
theorem num26_any (n : Int) (w : World) (hg : w.cell? ⟨0, 0, none⟩ = some asHandle) : Calls Tryd.prog 71 #[errOf n] w fun e w' => e = .returned (.int .i64 n) ∧ Below w.heap.size w w' := by
  by_cases h : n = 0
  · subst h; rw [errOf_zero]; exact num26_nil _
  · rw [errOf_ne h]; exact num26_err _ _ hg
structure R26 where
  b : Bool
  x : Int
  n : Int
def raiseF (st : Bool) (m t : Int) : Int := if st = true ∧ t < m then m else t
def marginF (st : Bool) (m b q : Int) : R26 := if b < 0 ∨ ¬ MayQ q then ⟨false, 0, 1⟩ else if st = false then ⟨false, m, 0⟩ else if InR (upq (sat (m + b)) q) then ⟨true, upq (sat (m + b)) q, 0⟩ else ⟨false, 0, 2⟩
theorem raise_f (st : Bool) (m t : Int) (w : World) (hm : InR m) (ht : InR t) : Calls Tryd.prog 69 #[.agg #[.bool st, .int .i64 (m)], .int .i64 t] w fun e w' => e = .returned (.agg #[.bool true, .int .i64 (raiseF st m t)]) ∧ Below w.heap.size w w' := by
  by_cases h : st = true ∧ t < m
  · obtain ⟨rfl, h2⟩ := h
    refine (raise_keep m t w hm ht h2).mono ?_
    rintro e w' ⟨rfl, hb⟩
    exact ⟨by simp [raiseF, h2], hb⟩
  · refine (raise_set st m t w hm ht (by cases st; exact Or.inl rfl; right; simp at h; exact h)).mono ?_
    rintro e w' ⟨rfl, hb⟩
    exact ⟨by simp only [raiseF, if_neg h]; try (simp [sat]), hb⟩
theorem rraise_f (st : Bool) (m t : Int) (w : World) (hm : InR m) (ht : InR t) : Calls Tryd.prog 70 #[.agg #[.bool st, .int .i64 (m)], .int .i64 t] w fun e w' => e = .returned (.agg #[.bool true, .int .i64 (raiseF st m t)]) ∧ Below w.heap.size w w' := by
  by_cases h : st = true ∧ t < m
  · obtain ⟨rfl, h2⟩ := h
    refine (rraise_keep m t w hm ht h2).mono ?_
    rintro e w' ⟨rfl, hb⟩
    exact ⟨by simp [raiseF, h2], hb⟩
  · refine (rraise_set st m t w hm ht (by cases st; exact Or.inl rfl; right; simp at h; exact h)).mono ?_
    rintro e w' ⟨rfl, hb⟩
    exact ⟨by simp only [raiseF, if_neg h]; try (simp [sat]), hb⟩
theorem take_f (st : Bool) (m t : Int) (w : World) (hm : InR m) (ht : InR t) : Calls Tryd.prog 65 #[.agg #[.bool st, .int .i64 (m)], .int .i64 t] w fun e w' => e = .returned (.tuple #[.int .i64 (raiseF st m t), .int .i64 (sat (raiseF st m t - t)), .agg #[.bool true, .int .i64 (raiseF st m t)]]) ∧ Below w.heap.size w w' := by
  by_cases h : st = true ∧ t < m
  · obtain ⟨rfl, h2⟩ := h
    refine (take_keep m t w hm ht h2).mono ?_
    rintro e w' ⟨rfl, hb⟩
    exact ⟨by simp [raiseF, h2], hb⟩
  · refine (take_set st m t w hm ht (by cases st; exact Or.inl rfl; right; simp at h; exact h)).mono ?_
    rintro e w' ⟨rfl, hb⟩
    exact ⟨by simp only [raiseF, if_neg h]; try (simp [sat]), hb⟩
theorem rtake_f (st : Bool) (m t : Int) (w : World) (hm : InR m) (ht : InR t) : Calls Tryd.prog 66 #[.agg #[.bool st, .int .i64 (m)], .int .i64 t] w fun e w' => e = .returned (.tuple #[.int .i64 (raiseF st m t), .int .i64 (sat (raiseF st m t - t)), .agg #[.bool true, .int .i64 (raiseF st m t)]]) ∧ Below w.heap.size w w' := by
  by_cases h : st = true ∧ t < m
  · obtain ⟨rfl, h2⟩ := h
    refine (rtake_keep m t w hm ht h2).mono ?_
    rintro e w' ⟨rfl, hb⟩
    exact ⟨by simp [raiseF, h2], hb⟩
  · refine (rtake_set st m t w hm ht (by cases st; exact Or.inl rfl; right; simp at h; exact h)).mono ?_
    rintro e w' ⟨rfl, hb⟩
    exact ⟨by simp only [raiseF, if_neg h]; try (simp [sat]), hb⟩
set_option maxHeartbeats 8000000 in
theorem margin_f (st : Bool) (m b q : Int) (w : World) (hm : InR m) (hb : InR b) (hq : InR q) : Calls Tryd.prog 67 #[.agg #[.bool st, .int .i64 (m)], .int .i64 b, .int .i64 q] w fun e w' => e = .returned (.tuple #[.agg #[.bool (marginF st m b q).b, .int .i64 (marginF st m b q).x], errOf (marginF st m b q).n]) ∧ Below w.heap.size w w' := by
  by_cases h1 : b < 0
  · have HE := Lib.hid (show marginF st m b q = ⟨false, 0, 1⟩ from if_pos (Or.inl h1))
    go_enter Tryd.func67, Tryd.ntmps67
    go_wp2_with (first | (go_at_call 60; (with_reducible refine (qcheck_no _ _ (by assumption)).mono ?_); rintro e w' ⟨rfl, rfl⟩) | (go_at_call 60; (with_reducible refine (qcheck_ok _ _ (by assumption)).mono ?_); rintro e w' ⟨rfl, rfl⟩) | (go_at_call 61; (with_reducible refine (rmay_no _ _ (by assumption)).mono ?_); rintro e w' ⟨rfl, rfl⟩) | (go_at_call 61; (with_reducible refine (rmay_ok _ _ (by assumption)).mono ?_); rintro e w' ⟨rfl, rfl⟩) | (go_at_call 100; (with_reducible refine (addsat_s _ _ _ (by omega) (by omega)).mono ?_); rintro e w' ⟨rfl, rfl⟩) | (go_at_call 56; (with_reducible refine (qup_c _ _ _ (by omega) (by assumption)).mono ?_); rintro e w' (⟨hQ, rfl, hb'⟩ | ⟨hQ, rfl, hb'⟩) <;> (obtain ⟨hc, hf⟩ := bcell hb'; have hz := hb'.size; simp at hz; replace hz := Nat.lt_of_succ_le hz)) | go_in)
    rw [HE.out]
    refine bodyPost_ret (v := .tuple #[.agg #[.bool false, .int .i64 (0)], errV 1]) (by first | (simp [results, Tryd.results67, go_sem]; done) | (simp only [results, Tryd.results67]; go_simp; done) | (simp only [results, Tryd.results67]; go_simp; omega)) rfl ⟨?_, by repeat (first | exact Below.refl _ _ | assumption | refine Below.trans ?_ (Below.mono (by assumption) (by simp <;> omega)) | exact Held.below (w0 := w) (by assumption) | refine Below.setCell ?_ (by simp <;> omega) _ | refine Below.alloc ?_ (by simp <;> omega) _ | refine Below.drew ?_ | refine below_drewN ?_ _)⟩
    first | rfl | simp only [errOf_ne (by decide : ¬ (1 : Int) = 0)]
  have h1' : 0 ≤ b := by omega
  have d1 : decide (b < 0) = false := by simpa using h1'
  by_cases h2 : MayQ q
  · cases st
    · have HE := Lib.hid (show marginF false m b q = ⟨false, m, 0⟩ from by unfold marginF; rw [if_neg (by omega), if_pos rfl])
      go_enter Tryd.func67, Tryd.ntmps67
      go_wp2_with (first | (go_at_call 60; (with_reducible refine (qcheck_no _ _ (by assumption)).mono ?_); rintro e w' ⟨rfl, rfl⟩) | (go_at_call 60; (with_reducible refine (qcheck_ok _ _ (by assumption)).mono ?_); rintro e w' ⟨rfl, rfl⟩) | (go_at_call 61; (with_reducible refine (rmay_no _ _ (by assumption)).mono ?_); rintro e w' ⟨rfl, rfl⟩) | (go_at_call 61; (with_reducible refine (rmay_ok _ _ (by assumption)).mono ?_); rintro e w' ⟨rfl, rfl⟩) | (go_at_call 100; (with_reducible refine (addsat_s _ _ _ (by omega) (by omega)).mono ?_); rintro e w' ⟨rfl, rfl⟩) | (go_at_call 56; (with_reducible refine (qup_c _ _ _ (by omega) (by assumption)).mono ?_); rintro e w' (⟨hQ, rfl, hb'⟩ | ⟨hQ, rfl, hb'⟩) <;> (obtain ⟨hc, hf⟩ := bcell hb'; have hz := hb'.size; simp at hz; replace hz := Nat.lt_of_succ_le hz)) | go_in)
      rw [HE.out]
      refine bodyPost_ret (v := .tuple #[.agg #[.bool false, .int .i64 (m)], .nilIface]) (by first | (simp [results, Tryd.results67, go_sem]; done) | (simp only [results, Tryd.results67]; go_simp; done) | (simp only [results, Tryd.results67]; go_simp; omega)) rfl ⟨?_, by repeat (first | exact Below.refl _ _ | assumption | refine Below.trans ?_ (Below.mono (by assumption) (by simp <;> omega)) | exact Held.below (w0 := w) (by assumption) | refine Below.setCell ?_ (by simp <;> omega) _ | refine Below.alloc ?_ (by simp <;> omega) _ | refine Below.drew ?_ | refine below_drewN ?_ _)⟩
      first | rfl | simp only [errOf_zero]
    · have HE := Lib.hid (show marginF true m b q = (if InR (upq (sat (m + b)) q) then ⟨true, upq (sat (m + b)) q, 0⟩ else ⟨false, 0, 2⟩) from by unfold marginF; rw [if_neg (by omega), if_neg (by simp)])
      have hsat := sat_InR (m + b)
      by_cases hs : InR (m + b)
      all_goals (first | have HS := Lib.hid (sat_in hs) | have HS := Lib.hid (sat_hi (n := m + b) (by omega)))
      all_goals
        go_enter Tryd.func67, Tryd.ntmps67
        go_wp2_with (first | (go_at_call 60; (with_reducible refine (qcheck_no _ _ (by assumption)).mono ?_); rintro e w' ⟨rfl, rfl⟩) | (go_at_call 60; (with_reducible refine (qcheck_ok _ _ (by assumption)).mono ?_); rintro e w' ⟨rfl, rfl⟩) | (go_at_call 61; (with_reducible refine (rmay_no _ _ (by assumption)).mono ?_); rintro e w' ⟨rfl, rfl⟩) | (go_at_call 61; (with_reducible refine (rmay_ok _ _ (by assumption)).mono ?_); rintro e w' ⟨rfl, rfl⟩) | (go_at_call 100; (with_reducible refine (addsat_s _ _ _ (by omega) (by omega)).mono ?_); rintro e w' ⟨rfl, rfl⟩) | (go_at_call 56; (with_reducible refine (qup_c _ _ _ (by omega) (by assumption)).mono ?_); rintro e w' (⟨hQ, rfl, hb'⟩ | ⟨hQ, rfl, hb'⟩) <;> (obtain ⟨hc, hf⟩ := bcell hb'; have hz := hb'.size; simp at hz; replace hz := Nat.lt_of_succ_le hz)) | go_in)
        all_goals rw [HE.out]
        all_goals skip
        all_goals first | rw [if_pos hQ] | rw [if_neg hQ]
        all_goals first | (refine bodyPost_ret (v := .tuple #[.agg #[.bool true, .int .i64 (upq (sat (m + b)) q)], .nilIface]) (by first | (simp [results, Tryd.results67, go_sem]; done) | (simp only [results, Tryd.results67]; go_simp; done) | (simp only [results, Tryd.results67]; go_simp; omega)) rfl ⟨?_, by repeat (first | exact Below.refl _ _ | assumption | refine Below.trans ?_ (Below.mono (by assumption) (by simp <;> omega)) | exact Held.below (w0 := w) (by assumption) | refine Below.setCell ?_ (by simp <;> omega) _ | refine Below.alloc ?_ (by simp <;> omega) _ | refine Below.drew ?_ | refine below_drewN ?_ _)⟩; first | rfl | simp only [errOf_zero]) | (refine bodyPost_ret (v := .tuple #[.agg #[.bool false, .int .i64 (0)], errV 2]) (by first | (simp [results, Tryd.results67, go_sem]; done) | (simp only [results, Tryd.results67]; go_simp; done) | (simp only [results, Tryd.results67]; go_simp; omega)) rfl ⟨?_, by repeat (first | exact Below.refl _ _ | assumption | refine Below.trans ?_ (Below.mono (by assumption) (by simp <;> omega)) | exact Held.below (w0 := w) (by assumption) | refine Below.setCell ?_ (by simp <;> omega) _ | refine Below.alloc ?_ (by simp <;> omega) _ | refine Below.drew ?_ | refine below_drewN ?_ _)⟩; first | rfl | simp only [errOf_ne (by decide : ¬ (2 : Int) = 0)])
  · have HE := Lib.hid (show marginF st m b q = ⟨false, 0, 1⟩ from if_pos (Or.inr h2))
    go_enter Tryd.func67, Tryd.ntmps67
    go_wp2_with (first | (go_at_call 60; (with_reducible refine (qcheck_no _ _ (by assumption)).mono ?_); rintro e w' ⟨rfl, rfl⟩) | (go_at_call 60; (with_reducible refine (qcheck_ok _ _ (by assumption)).mono ?_); rintro e w' ⟨rfl, rfl⟩) | (go_at_call 61; (with_reducible refine (rmay_no _ _ (by assumption)).mono ?_); rintro e w' ⟨rfl, rfl⟩) | (go_at_call 61; (with_reducible refine (rmay_ok _ _ (by assumption)).mono ?_); rintro e w' ⟨rfl, rfl⟩) | (go_at_call 100; (with_reducible refine (addsat_s _ _ _ (by omega) (by omega)).mono ?_); rintro e w' ⟨rfl, rfl⟩) | (go_at_call 56; (with_reducible refine (qup_c _ _ _ (by omega) (by assumption)).mono ?_); rintro e w' (⟨hQ, rfl, hb'⟩ | ⟨hQ, rfl, hb'⟩) <;> (obtain ⟨hc, hf⟩ := bcell hb'; have hz := hb'.size; simp at hz; replace hz := Nat.lt_of_succ_le hz)) | go_in)
    rw [HE.out]
    refine bodyPost_ret (v := .tuple #[.agg #[.bool false, .int .i64 (0)], errV 1]) (by first | (simp [results, Tryd.results67, go_sem]; done) | (simp only [results, Tryd.results67]; go_simp; done) | (simp only [results, Tryd.results67]; go_simp; omega)) rfl ⟨?_, by repeat (first | exact Below.refl _ _ | assumption | refine Below.trans ?_ (Below.mono (by assumption) (by simp <;> omega)) | exact Held.below (w0 := w) (by assumption) | refine Below.setCell ?_ (by simp <;> omega) _ | refine Below.alloc ?_ (by simp <;> omega) _ | refine Below.drew ?_ | refine below_drewN ?_ _)⟩
    first | rfl | simp only [errOf_ne (by decide : ¬ (1 : Int) = 0)]
set_option maxHeartbeats 8000000 in
theorem rmargin_f (st : Bool) (m b q : Int) (w : World) (hm : InR m) (hb : InR b) (hq : InR q) : Calls Tryd.prog 68 #[.agg #[.bool st, .int .i64 (m)], .int .i64 b, .int .i64 q] w fun e w' => e = .returned (.tuple #[.agg #[.bool (marginF st m b q).b, .int .i64 (marginF st m b q).x], .int .i64 (marginF st m b q).n]) ∧ Below w.heap.size w w' := by
  by_cases h1 : b < 0
  · have HE := Lib.hid (show marginF st m b q = ⟨false, 0, 1⟩ from if_pos (Or.inl h1))
    go_enter Tryd.func68, Tryd.ntmps68
    go_wp2_with (first | (go_at_call 60; (with_reducible refine (qcheck_no _ _ (by assumption)).mono ?_); rintro e w' ⟨rfl, rfl⟩) | (go_at_call 60; (with_reducible refine (qcheck_ok _ _ (by assumption)).mono ?_); rintro e w' ⟨rfl, rfl⟩) | (go_at_call 61; (with_reducible refine (rmay_no _ _ (by assumption)).mono ?_); rintro e w' ⟨rfl, rfl⟩) | (go_at_call 61; (with_reducible refine (rmay_ok _ _ (by assumption)).mono ?_); rintro e w' ⟨rfl, rfl⟩) | (go_at_call 94; (with_reducible refine (rsum_c _ _ _ (by omega) (by omega)).mono ?_); rintro e w' (⟨h1, rfl, rfl⟩ | ⟨h1, rfl, rfl⟩ | ⟨h1, rfl, rfl⟩) <;> first | (exfalso; omega) | skip) | (go_at_call 96; (with_reducible refine (rbnd _ _ (by omega) _ (by omega)).mono ?_); rintro e w' ⟨rfl, rfl⟩) | (go_at_call 57; (with_reducible refine (rup_c _ _ _ (by omega) (by assumption)).mono ?_); rintro e w' (⟨hQ, rfl, hb'⟩ | ⟨hQ, rfl, hb'⟩) <;> (obtain ⟨hc, hf⟩ := bcell hb'; have hz := hb'.size; simp at hz; replace hz := Nat.lt_of_succ_le hz)) | go_in)
    rw [HE.out]
    refine bodyPost_ret (v := .tuple #[.agg #[.bool false, .int .i64 (0)], .int .i64 1]) (by first | (simp [results, Tryd.results68, go_sem]; done) | (simp only [results, Tryd.results68]; go_simp; done) | (simp only [results, Tryd.results68]; go_simp; omega)) rfl ⟨?_, by repeat (first | exact Below.refl _ _ | assumption | refine Below.trans ?_ (Below.mono (by assumption) (by simp <;> omega)) | exact Held.below (w0 := w) (by assumption) | refine Below.setCell ?_ (by simp <;> omega) _ | refine Below.alloc ?_ (by simp <;> omega) _ | refine Below.drew ?_ | refine below_drewN ?_ _)⟩
    first | rfl | simp only [errOf_ne (by decide : ¬ (1 : Int) = 0)]
  have h1' : 0 ≤ b := by omega
  have d1 : decide (b < 0) = false := by simpa using h1'
  by_cases h2 : MayQ q
  · cases st
    · have HE := Lib.hid (show marginF false m b q = ⟨false, m, 0⟩ from by unfold marginF; rw [if_neg (by omega), if_pos rfl])
      go_enter Tryd.func68, Tryd.ntmps68
      go_wp2_with (first | (go_at_call 60; (with_reducible refine (qcheck_no _ _ (by assumption)).mono ?_); rintro e w' ⟨rfl, rfl⟩) | (go_at_call 60; (with_reducible refine (qcheck_ok _ _ (by assumption)).mono ?_); rintro e w' ⟨rfl, rfl⟩) | (go_at_call 61; (with_reducible refine (rmay_no _ _ (by assumption)).mono ?_); rintro e w' ⟨rfl, rfl⟩) | (go_at_call 61; (with_reducible refine (rmay_ok _ _ (by assumption)).mono ?_); rintro e w' ⟨rfl, rfl⟩) | (go_at_call 94; (with_reducible refine (rsum_c _ _ _ (by omega) (by omega)).mono ?_); rintro e w' (⟨h1, rfl, rfl⟩ | ⟨h1, rfl, rfl⟩ | ⟨h1, rfl, rfl⟩) <;> first | (exfalso; omega) | skip) | (go_at_call 96; (with_reducible refine (rbnd _ _ (by omega) _ (by omega)).mono ?_); rintro e w' ⟨rfl, rfl⟩) | (go_at_call 57; (with_reducible refine (rup_c _ _ _ (by omega) (by assumption)).mono ?_); rintro e w' (⟨hQ, rfl, hb'⟩ | ⟨hQ, rfl, hb'⟩) <;> (obtain ⟨hc, hf⟩ := bcell hb'; have hz := hb'.size; simp at hz; replace hz := Nat.lt_of_succ_le hz)) | go_in)
      rw [HE.out]
      refine bodyPost_ret (v := .tuple #[.agg #[.bool false, .int .i64 (m)], .int .i64 0]) (by first | (simp [results, Tryd.results68, go_sem]; done) | (simp only [results, Tryd.results68]; go_simp; done) | (simp only [results, Tryd.results68]; go_simp; omega)) rfl ⟨?_, by repeat (first | exact Below.refl _ _ | assumption | refine Below.trans ?_ (Below.mono (by assumption) (by simp <;> omega)) | exact Held.below (w0 := w) (by assumption) | refine Below.setCell ?_ (by simp <;> omega) _ | refine Below.alloc ?_ (by simp <;> omega) _ | refine Below.drew ?_ | refine below_drewN ?_ _)⟩
      first | rfl | simp only [errOf_zero]
    · have HE := Lib.hid (show marginF true m b q = (if InR (upq (sat (m + b)) q) then ⟨true, upq (sat (m + b)) q, 0⟩ else ⟨false, 0, 2⟩) from by unfold marginF; rw [if_neg (by omega), if_neg (by simp)])
      have hsat := sat_InR (m + b)
      by_cases hs : InR (m + b)
      all_goals (first | have HS := Lib.hid (sat_in hs) | have HS := Lib.hid (sat_hi (n := m + b) (by omega)))
      all_goals
        go_enter Tryd.func68, Tryd.ntmps68
        go_wp2_with (first | (go_at_call 60; (with_reducible refine (qcheck_no _ _ (by assumption)).mono ?_); rintro e w' ⟨rfl, rfl⟩) | (go_at_call 60; (with_reducible refine (qcheck_ok _ _ (by assumption)).mono ?_); rintro e w' ⟨rfl, rfl⟩) | (go_at_call 61; (with_reducible refine (rmay_no _ _ (by assumption)).mono ?_); rintro e w' ⟨rfl, rfl⟩) | (go_at_call 61; (with_reducible refine (rmay_ok _ _ (by assumption)).mono ?_); rintro e w' ⟨rfl, rfl⟩) | (go_at_call 94; (with_reducible refine (rsum_c _ _ _ (by omega) (by omega)).mono ?_); rintro e w' (⟨h1, rfl, rfl⟩ | ⟨h1, rfl, rfl⟩ | ⟨h1, rfl, rfl⟩) <;> first | (exfalso; omega) | skip) | (go_at_call 96; (with_reducible refine (rbnd _ _ (by omega) _ (by omega)).mono ?_); rintro e w' ⟨rfl, rfl⟩) | (go_at_call 57; (with_reducible refine (rup_c _ _ _ (by omega) (by assumption)).mono ?_); rintro e w' (⟨hQ, rfl, hb'⟩ | ⟨hQ, rfl, hb'⟩) <;> (obtain ⟨hc, hf⟩ := bcell hb'; have hz := hb'.size; simp at hz; replace hz := Nat.lt_of_succ_le hz)) | go_in)
        all_goals rw [HE.out]
        all_goals rw [HS.out]
        all_goals first | rw [if_pos hQ] | rw [if_neg hQ]
        all_goals first | (refine bodyPost_ret (v := .tuple #[.agg #[.bool true, .int .i64 (upq (m + b) q)], .int .i64 0]) (by first | (simp [results, Tryd.results68, go_sem]; done) | (simp only [results, Tryd.results68]; go_simp; done) | (simp only [results, Tryd.results68]; go_simp; omega)) rfl ⟨?_, by repeat (first | exact Below.refl _ _ | assumption | refine Below.trans ?_ (Below.mono (by assumption) (by simp <;> omega)) | exact Held.below (w0 := w) (by assumption) | refine Below.setCell ?_ (by simp <;> omega) _ | refine Below.alloc ?_ (by simp <;> omega) _ | refine Below.drew ?_ | refine below_drewN ?_ _)⟩; first | rfl | simp only [errOf_zero]) | (refine bodyPost_ret (v := .tuple #[.agg #[.bool true, .int .i64 (upq 9223372036854775807 q)], .int .i64 0]) (by first | (simp [results, Tryd.results68, go_sem]; done) | (simp only [results, Tryd.results68]; go_simp; done) | (simp only [results, Tryd.results68]; go_simp; omega)) rfl ⟨?_, by repeat (first | exact Below.refl _ _ | assumption | refine Below.trans ?_ (Below.mono (by assumption) (by simp <;> omega)) | exact Held.below (w0 := w) (by assumption) | refine Below.setCell ?_ (by simp <;> omega) _ | refine Below.alloc ?_ (by simp <;> omega) _ | refine Below.drew ?_ | refine below_drewN ?_ _)⟩; first | rfl | simp only [errOf_zero]) | (refine bodyPost_ret (v := .tuple #[.agg #[.bool false, .int .i64 (0)], .int .i64 2]) (by first | (simp [results, Tryd.results68, go_sem]; done) | (simp only [results, Tryd.results68]; go_simp; done) | (simp only [results, Tryd.results68]; go_simp; omega)) rfl ⟨?_, by repeat (first | exact Below.refl _ _ | assumption | refine Below.trans ?_ (Below.mono (by assumption) (by simp <;> omega)) | exact Held.below (w0 := w) (by assumption) | refine Below.setCell ?_ (by simp <;> omega) _ | refine Below.alloc ?_ (by simp <;> omega) _ | refine Below.drew ?_ | refine below_drewN ?_ _)⟩; first | rfl | simp only [errOf_ne (by decide : ¬ (2 : Int) = 0)])
  · have HE := Lib.hid (show marginF st m b q = ⟨false, 0, 1⟩ from if_pos (Or.inr h2))
    go_enter Tryd.func68, Tryd.ntmps68
    go_wp2_with (first | (go_at_call 60; (with_reducible refine (qcheck_no _ _ (by assumption)).mono ?_); rintro e w' ⟨rfl, rfl⟩) | (go_at_call 60; (with_reducible refine (qcheck_ok _ _ (by assumption)).mono ?_); rintro e w' ⟨rfl, rfl⟩) | (go_at_call 61; (with_reducible refine (rmay_no _ _ (by assumption)).mono ?_); rintro e w' ⟨rfl, rfl⟩) | (go_at_call 61; (with_reducible refine (rmay_ok _ _ (by assumption)).mono ?_); rintro e w' ⟨rfl, rfl⟩) | (go_at_call 94; (with_reducible refine (rsum_c _ _ _ (by omega) (by omega)).mono ?_); rintro e w' (⟨h1, rfl, rfl⟩ | ⟨h1, rfl, rfl⟩ | ⟨h1, rfl, rfl⟩) <;> first | (exfalso; omega) | skip) | (go_at_call 96; (with_reducible refine (rbnd _ _ (by omega) _ (by omega)).mono ?_); rintro e w' ⟨rfl, rfl⟩) | (go_at_call 57; (with_reducible refine (rup_c _ _ _ (by omega) (by assumption)).mono ?_); rintro e w' (⟨hQ, rfl, hb'⟩ | ⟨hQ, rfl, hb'⟩) <;> (obtain ⟨hc, hf⟩ := bcell hb'; have hz := hb'.size; simp at hz; replace hz := Nat.lt_of_succ_le hz)) | go_in)
    rw [HE.out]
    refine bodyPost_ret (v := .tuple #[.agg #[.bool false, .int .i64 (0)], .int .i64 1]) (by first | (simp [results, Tryd.results68, go_sem]; done) | (simp only [results, Tryd.results68]; go_simp; done) | (simp only [results, Tryd.results68]; go_simp; omega)) rfl ⟨?_, by repeat (first | exact Below.refl _ _ | assumption | refine Below.trans ?_ (Below.mono (by assumption) (by simp <;> omega)) | exact Held.below (w0 := w) (by assumption) | refine Below.setCell ?_ (by simp <;> omega) _ | refine Below.alloc ?_ (by simp <;> omega) _ | refine Below.drew ?_ | refine below_drewN ?_ _)⟩
    first | rfl | simp only [errOf_ne (by decide : ¬ (1 : Int) = 0)]
end Go.Proofs.YtengchkiejpglaaDoor
