/-
  Layer 26: the reference Take.
-/
import Derived.Test.YtengchkiejpglaaDoorW26
import Derived.Deep.RegionHeld3
namespace Go.Proofs.YtengchkiejpglaaDoor
open Go.RowKit Go.Extern.Stop Go.Stop Go.Extern
set_option linter.unusedVariables false
set_option linter.unusedSimpArgs false
theorem rbnd (n i : Int) (hi : i = 0 ∨ i = 1 ∨ i = -1) (w : World) (hn : InR n) : Calls Tryd.prog 96 #[.int .i64 n, .int .i64 i] w fun e w' => e = .returned (.int .i64 (if i = 0 then n else if i = 1 then 9223372036854775807 else -9223372036854775808)) ∧ w = w' := by
  rcases hi with rfl | rfl | rfl
  all_goals
    go_enter Tryd.func96, Tryd.ntmps96
    go_wp2
    go_ret
    exact ⟨by simp, rfl⟩
theorem sat_in {n : Int} (h : InR n) : sat n = n := by unfold sat; rw [if_neg (by omega), if_neg (by omega)]
theorem sat_hi {n : Int} (h : 9223372036854775807 < n) : sat n = 9223372036854775807 := by unfold sat; rw [if_pos h]
theorem sat_lo {n : Int} (h : n < -9223372036854775808) : sat n = -9223372036854775808 := by unfold sat; rw [if_neg (by omega), if_pos h]
theorem sat_InR (n : Int) : InR (sat n) := by unfold sat; split; omega; split <;> omega
set_option maxHeartbeats 4000000 in
theorem rtake_keep (m t : Int) (w : World) (ha : InR m) (ht : InR t) (h : t < m) : Calls Tryd.prog 66 #[.agg #[.bool true, .int .i64 (m)], .int .i64 t] w fun e w' => e = .returned (.tuple #[.int .i64 m, .int .i64 (sat (m - t)), .agg #[.bool true, .int .i64 (m)]]) ∧ Below w.heap.size w w' := by
  by_cases hs : InR (m - t)
  · have HS := Lib.hid (sat_in hs)
    go_enter Tryd.func66, Tryd.ntmps66
    go_wp2_with (first | (go_at_call 98; (with_reducible refine (rless_c _ _ _ (by omega) (by omega)).mono ?_); rintro e w' (⟨h1, rfl, rfl⟩ | ⟨h1, rfl, rfl⟩ | ⟨h1, rfl, rfl⟩) <;> first | (exfalso; omega) | skip) | go_in)
    go_region_with (first | (go_at_call 96; (with_reducible refine (rbnd _ _ (by omega) _ (by omega)).mono ?_); rintro e w' ⟨rfl, rfl⟩))
    all_goals go_wp2
    all_goals rw [HS.out]
    all_goals refine bodyPost_ret (v := .tuple #[.int .i64 m, .int .i64 (m - t), .agg #[.bool true, .int .i64 (m)]]) (by first | (simp [results, Tryd.results66, go_sem]; done) | (simp only [results, Tryd.results66]; go_simp; done) | (simp only [results, Tryd.results66]; go_simp; omega)) rfl ⟨rfl, ?_⟩
    all_goals repeat (first | exact Below.refl _ _ | assumption | refine Below.trans ?_ (Below.mono (by assumption) (by simp <;> omega)) | exact Held.below (w0 := w) (by assumption) | refine Below.setCell ?_ (by simp <;> omega) _ | refine Below.alloc ?_ (by simp <;> omega) _ | refine Below.drew ?_ | refine below_drewN ?_ _)
  · have HS := Lib.hid (sat_hi (n := m - t) (by omega))
    go_enter Tryd.func66, Tryd.ntmps66
    go_wp2_with (first | (go_at_call 98; (with_reducible refine (rless_c _ _ _ (by omega) (by omega)).mono ?_); rintro e w' (⟨h1, rfl, rfl⟩ | ⟨h1, rfl, rfl⟩ | ⟨h1, rfl, rfl⟩) <;> first | (exfalso; omega) | skip) | go_in)
    go_region_with (first | (go_at_call 96; (with_reducible refine (rbnd _ _ (by omega) _ (by omega)).mono ?_); rintro e w' ⟨rfl, rfl⟩))
    all_goals go_wp2
    all_goals rw [HS.out]
    all_goals refine bodyPost_ret (v := .tuple #[.int .i64 m, .int .i64 9223372036854775807, .agg #[.bool true, .int .i64 (m)]]) (by first | (simp [results, Tryd.results66, go_sem]; done) | (simp only [results, Tryd.results66]; go_simp; done) | (simp only [results, Tryd.results66]; go_simp; omega)) rfl ⟨rfl, ?_⟩
    all_goals repeat (first | exact Below.refl _ _ | assumption | refine Below.trans ?_ (Below.mono (by assumption) (by simp <;> omega)) | exact Held.below (w0 := w) (by assumption) | refine Below.setCell ?_ (by simp <;> omega) _ | refine Below.alloc ?_ (by simp <;> omega) _ | refine Below.drew ?_ | refine below_drewN ?_ _)
theorem rtake_set (st : Bool) (m t : Int) (w : World) (ha : InR m) (ht : InR t) (h : st = false ∨ m ≤ t) : Calls Tryd.prog 66 #[.agg #[.bool st, .int .i64 (m)], .int .i64 t] w fun e w' => e = .returned (.tuple #[.int .i64 t, .int .i64 0, .agg #[.bool true, .int .i64 (t)]]) ∧ Below w.heap.size w w' := by
  cases st
  · go_enter Tryd.func66, Tryd.ntmps66
    go_wp2_with (fail)
    refine bodyPost_ret (v := .tuple #[.int .i64 t, .int .i64 0, .agg #[.bool true, .int .i64 (t)]]) (by first | (simp [results, Tryd.results66, go_sem]; done) | (simp only [results, Tryd.results66]; go_simp; done) | (simp only [results, Tryd.results66]; go_simp; omega)) rfl ⟨rfl, ?_⟩
    repeat (first | exact Below.refl _ _ | assumption | refine Below.trans ?_ (Below.mono (by assumption) (by simp <;> omega)) | exact Held.below (w0 := w) (by assumption) | refine Below.setCell ?_ (by simp <;> omega) _ | refine Below.alloc ?_ (by simp <;> omega) _ | refine Below.drew ?_ | refine below_drewN ?_ _)
  · replace h : m ≤ t := by simpa using h
    go_enter Tryd.func66, Tryd.ntmps66
    go_wp2_with (fail)
    refine bodyPost_ret (v := .tuple #[.int .i64 t, .int .i64 0, .agg #[.bool true, .int .i64 (t)]]) (by first | (simp [results, Tryd.results66, go_sem]; done) | (simp only [results, Tryd.results66]; go_simp; done) | (simp only [results, Tryd.results66]; go_simp; omega)) rfl ⟨rfl, ?_⟩
    repeat (first | exact Below.refl _ _ | assumption | refine Below.trans ?_ (Below.mono (by assumption) (by simp <;> omega)) | exact Held.below (w0 := w) (by assumption) | refine Below.setCell ?_ (by simp <;> omega) _ | refine Below.alloc ?_ (by simp <;> omega) _ | refine Below.drew ?_ | refine below_drewN ?_ _)
end Go.Proofs.YtengchkiejpglaaDoor
