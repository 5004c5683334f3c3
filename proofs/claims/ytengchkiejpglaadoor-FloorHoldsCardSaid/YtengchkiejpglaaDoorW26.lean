/-
  Layer 26: walks of floor and of its statements.
-/
import Derived.Test.YtengchkiejpglaaDoorW24
import Derived.Deep.RegionHeld3
namespace Go.Proofs.YtengchkiejpglaaDoor
open Go.RowKit Go.Extern.Stop Go.Stop Go.Extern
set_option linter.unusedVariables false
theorem raise_keep (m t : Int) (w : World) (ha : InR m) (ht : InR t) (h : t < m) : Calls Tryd.prog 69 #[.agg #[.bool true, .int .i64 (m)], .int .i64 t] w fun e w' => e = .returned (.agg #[.bool true, .int .i64 (m)]) ∧ Below w.heap.size w w' := by
  go_enter Tryd.func69, Tryd.ntmps69
  go_wp2_with (first | (go_at_call 93; (with_reducible refine (subsat_s _ _ _ (by omega) (by omega)).mono ?_); rintro e w' ⟨rfl, rfl⟩) | (go_at_call 98; (with_reducible refine (rless_c _ _ _ (by omega) (by omega)).mono ?_); rintro e w' (⟨h1, rfl, rfl⟩ | ⟨h1, rfl, rfl⟩ | ⟨h1, rfl, rfl⟩) <;> first | (exfalso; omega) | skip) | go_in)
  all_goals refine bodyPost_ret (v := .agg #[.bool true, .int .i64 (m)]) (by simp [results, Tryd.results69, go_sem]) rfl ⟨rfl, ?_⟩
  all_goals repeat (first | exact Below.refl _ _ | assumption | refine Below.trans ?_ (Below.mono (by assumption) (by simp <;> omega)) | exact Held.below (w0 := w) (by assumption) | refine Below.setCell ?_ (by simp <;> omega) _ | refine Below.alloc ?_ (by simp <;> omega) _ | refine Below.drew ?_ | refine below_drewN ?_ _)
theorem raise_set (st : Bool) (m t : Int) (w : World) (ha : InR m) (ht : InR t) (h : st = false ∨ m ≤ t) : Calls Tryd.prog 69 #[.agg #[.bool st, .int .i64 (m)], .int .i64 t] w fun e w' => e = .returned (.agg #[.bool true, .int .i64 (t)]) ∧ Below w.heap.size w w' := by
  cases st
  · go_enter Tryd.func69, Tryd.ntmps69
    go_wp2_with (first | (go_at_call 93; (with_reducible refine (subsat_s _ _ _ (by omega) (by omega)).mono ?_); rintro e w' ⟨rfl, rfl⟩) | go_in)
    all_goals refine bodyPost_ret (v := .agg #[.bool true, .int .i64 (t)]) (by simp [results, Tryd.results69, go_sem]) rfl ⟨rfl, ?_⟩
    all_goals repeat (first | exact Below.refl _ _ | assumption | refine Below.trans ?_ (Below.mono (by assumption) (by simp <;> omega)) | exact Held.below (w0 := w) (by assumption) | refine Below.setCell ?_ (by simp <;> omega) _ | refine Below.alloc ?_ (by simp <;> omega) _ | refine Below.drew ?_ | refine below_drewN ?_ _)
  · replace h : m ≤ t := by simpa using h
    go_enter Tryd.func69, Tryd.ntmps69
    go_wp2_with (first | (go_at_call 93; (with_reducible refine (subsat_s _ _ _ (by omega) (by omega)).mono ?_); rintro e w' ⟨rfl, rfl⟩) | go_in)
    all_goals refine bodyPost_ret (v := .agg #[.bool true, .int .i64 (t)]) (by simp [results, Tryd.results69, go_sem]) rfl ⟨rfl, ?_⟩
    all_goals repeat (first | exact Below.refl _ _ | assumption | refine Below.trans ?_ (Below.mono (by assumption) (by simp <;> omega)) | exact Held.below (w0 := w) (by assumption) | refine Below.setCell ?_ (by simp <;> omega) _ | refine Below.alloc ?_ (by simp <;> omega) _ | refine Below.drew ?_ | refine below_drewN ?_ _)
theorem rraise_keep (m t : Int) (w : World) (ha : InR m) (ht : InR t) (h : t < m) : Calls Tryd.prog 70 #[.agg #[.bool true, .int .i64 (m)], .int .i64 t] w fun e w' => e = .returned (.agg #[.bool true, .int .i64 (m)]) ∧ Below w.heap.size w w' := by
  go_enter Tryd.func70, Tryd.ntmps70
  go_wp2_with (first | (go_at_call 93; (with_reducible refine (subsat_s _ _ _ (by omega) (by omega)).mono ?_); rintro e w' ⟨rfl, rfl⟩) | (go_at_call 98; (with_reducible refine (rless_c _ _ _ (by omega) (by omega)).mono ?_); rintro e w' (⟨h1, rfl, rfl⟩ | ⟨h1, rfl, rfl⟩ | ⟨h1, rfl, rfl⟩) <;> first | (exfalso; omega) | skip) | go_in)
  all_goals refine bodyPost_ret (v := .agg #[.bool true, .int .i64 (m)]) (by simp [results, Tryd.results70, go_sem]) rfl ⟨rfl, ?_⟩
  all_goals repeat (first | exact Below.refl _ _ | assumption | refine Below.trans ?_ (Below.mono (by assumption) (by simp <;> omega)) | exact Held.below (w0 := w) (by assumption) | refine Below.setCell ?_ (by simp <;> omega) _ | refine Below.alloc ?_ (by simp <;> omega) _ | refine Below.drew ?_ | refine below_drewN ?_ _)
theorem rraise_set (st : Bool) (m t : Int) (w : World) (ha : InR m) (ht : InR t) (h : st = false ∨ m ≤ t) : Calls Tryd.prog 70 #[.agg #[.bool st, .int .i64 (m)], .int .i64 t] w fun e w' => e = .returned (.agg #[.bool true, .int .i64 (t)]) ∧ Below w.heap.size w w' := by
  cases st
  · go_enter Tryd.func70, Tryd.ntmps70
    go_wp2_with (first | (go_at_call 93; (with_reducible refine (subsat_s _ _ _ (by omega) (by omega)).mono ?_); rintro e w' ⟨rfl, rfl⟩) | go_in)
    all_goals refine bodyPost_ret (v := .agg #[.bool true, .int .i64 (t)]) (by simp [results, Tryd.results70, go_sem]) rfl ⟨rfl, ?_⟩
    all_goals repeat (first | exact Below.refl _ _ | assumption | refine Below.trans ?_ (Below.mono (by assumption) (by simp <;> omega)) | exact Held.below (w0 := w) (by assumption) | refine Below.setCell ?_ (by simp <;> omega) _ | refine Below.alloc ?_ (by simp <;> omega) _ | refine Below.drew ?_ | refine below_drewN ?_ _)
  · replace h : m ≤ t := by simpa using h
    go_enter Tryd.func70, Tryd.ntmps70
    go_wp2_with (first | (go_at_call 93; (with_reducible refine (subsat_s _ _ _ (by omega) (by omega)).mono ?_); rintro e w' ⟨rfl, rfl⟩) | go_in)
    all_goals refine bodyPost_ret (v := .agg #[.bool true, .int .i64 (t)]) (by simp [results, Tryd.results70, go_sem]) rfl ⟨rfl, ?_⟩
    all_goals repeat (first | exact Below.refl _ _ | assumption | refine Below.trans ?_ (Below.mono (by assumption) (by simp <;> omega)) | exact Held.below (w0 := w) (by assumption) | refine Below.setCell ?_ (by simp <;> omega) _ | refine Below.alloc ?_ (by simp <;> omega) _ | refine Below.drew ?_ | refine below_drewN ?_ _)
set_option maxHeartbeats 2000000 in
theorem take_keep (m t : Int) (w : World) (ha : InR m) (ht : InR t) (h : t < m) : Calls Tryd.prog 65 #[.agg #[.bool true, .int .i64 (m)], .int .i64 t] w fun e w' => e = .returned (.tuple #[.int .i64 m, .int .i64 (sat (m - t)), .agg #[.bool true, .int .i64 (m)]]) ∧ Below w.heap.size w w' := by
  go_enter Tryd.func65, Tryd.ntmps65
  go_wp2_with (first | (go_at_call 69; (with_reducible refine (raise_keep _ _ _ ha ht h).mono ?_); rintro e w' ⟨rfl, hb'⟩; obtain ⟨hc, hf⟩ := bcell hb'; have hz := hb'.size; simp at hz; replace hz := Nat.lt_of_succ_le hz) | (go_at_call 93; (with_reducible refine (subsat_s _ _ _ (by omega) (by omega)).mono ?_); rintro e w' ⟨rfl, rfl⟩) | (go_at_call 98; (with_reducible refine (rless_c _ _ _ (by omega) (by omega)).mono ?_); rintro e w' (⟨h1, rfl, rfl⟩ | ⟨h1, rfl, rfl⟩ | ⟨h1, rfl, rfl⟩) <;> first | (exfalso; omega) | skip) | go_in)
  go_region_with (first | (go_at_call 93; (with_reducible refine (subsat_s _ _ _ (by omega) (by omega)).mono ?_); rintro e w' ⟨rfl, rfl⟩))
  all_goals go_wp2
  all_goals refine bodyPost_ret (v := .tuple #[.int .i64 m, .int .i64 (sat (m - t)), .agg #[.bool true, .int .i64 (m)]]) (by first | (simp [results, Tryd.results65, go_sem]; done) | (simp only [results, Tryd.results65]; go_simp; done) | (simp only [results, Tryd.results65]; go_simp; omega)) rfl ⟨rfl, ?_⟩
  all_goals repeat (first | exact Below.refl _ _ | assumption | refine Below.trans ?_ (Below.mono (by assumption) (by simp <;> omega)) | exact Held.below (w0 := w) (by assumption) | refine Below.setCell ?_ (by simp <;> omega) _ | refine Below.alloc ?_ (by simp <;> omega) _ | refine Below.drew ?_ | refine below_drewN ?_ _)
set_option maxHeartbeats 2000000 in
theorem take_set (st : Bool) (m t : Int) (w : World) (ha : InR m) (ht : InR t) (h : st = false ∨ m ≤ t) : Calls Tryd.prog 65 #[.agg #[.bool st, .int .i64 (m)], .int .i64 t] w fun e w' => e = .returned (.tuple #[.int .i64 t, .int .i64 (sat (t - t)), .agg #[.bool true, .int .i64 (t)]]) ∧ Below w.heap.size w w' := by
  have HH := Lib.hid h
  clear h
  cases st
  · go_enter Tryd.func65, Tryd.ntmps65
    go_wp2_with (first | (go_at_call 69; (with_reducible refine (raise_set _ _ _ _ ha ht HH.out).mono ?_); rintro e w' ⟨rfl, hb'⟩; obtain ⟨hc, hf⟩ := bcell hb'; have hz := hb'.size; simp at hz; replace hz := Nat.lt_of_succ_le hz) | (go_at_call 93; (with_reducible refine (subsat_s _ _ _ (by omega) (by omega)).mono ?_); rintro e w' ⟨rfl, rfl⟩) | go_in)
    go_region_with (first | (go_at_call 93; (with_reducible refine (subsat_s _ _ _ (by omega) (by omega)).mono ?_); rintro e w' ⟨rfl, rfl⟩))
    all_goals go_wp2
    all_goals refine bodyPost_ret (v := .tuple #[.int .i64 t, .int .i64 (sat (t - t)), .agg #[.bool true, .int .i64 (t)]]) (by first | (simp [results, Tryd.results65, go_sem]; done) | (simp only [results, Tryd.results65]; go_simp; done) | (simp only [results, Tryd.results65]; go_simp; omega)) rfl ⟨rfl, ?_⟩
    all_goals repeat (first | exact Below.refl _ _ | assumption | refine Below.trans ?_ (Below.mono (by assumption) (by simp <;> omega)) | exact Held.below (w0 := w) (by assumption) | refine Below.setCell ?_ (by simp <;> omega) _ | refine Below.alloc ?_ (by simp <;> omega) _ | refine Below.drew ?_ | refine below_drewN ?_ _)
  · skip
    go_enter Tryd.func65, Tryd.ntmps65
    go_wp2_with (first | (go_at_call 69; (with_reducible refine (raise_set _ _ _ _ ha ht HH.out).mono ?_); rintro e w' ⟨rfl, hb'⟩; obtain ⟨hc, hf⟩ := bcell hb'; have hz := hb'.size; simp at hz; replace hz := Nat.lt_of_succ_le hz) | (go_at_call 93; (with_reducible refine (subsat_s _ _ _ (by omega) (by omega)).mono ?_); rintro e w' ⟨rfl, rfl⟩) | go_in)
    go_region_with (first | (go_at_call 93; (with_reducible refine (subsat_s _ _ _ (by omega) (by omega)).mono ?_); rintro e w' ⟨rfl, rfl⟩))
    all_goals go_wp2
    all_goals refine bodyPost_ret (v := .tuple #[.int .i64 t, .int .i64 (sat (t - t)), .agg #[.bool true, .int .i64 (t)]]) (by first | (simp [results, Tryd.results65, go_sem]; done) | (simp only [results, Tryd.results65]; go_simp; done) | (simp only [results, Tryd.results65]; go_simp; omega)) rfl ⟨rfl, ?_⟩
    all_goals repeat (first | exact Below.refl _ _ | assumption | refine Below.trans ?_ (Below.mono (by assumption) (by simp <;> omega)) | exact Held.below (w0 := w) (by assumption) | refine Below.setCell ?_ (by simp <;> omega) _ | refine Below.alloc ?_ (by simp <;> omega) _ | refine Below.drew ?_ | refine below_drewN ?_ _)
end Go.Proofs.YtengchkiejpglaaDoor
