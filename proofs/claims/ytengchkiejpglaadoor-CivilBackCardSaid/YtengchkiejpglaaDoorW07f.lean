/-
  Layer 7: dates out of texts, the reference.
-/
import Derived.Test.YtengchkiejpglaaDoorW07d
import Derived.LoopN
import Derived.BigRegion
import Derived.Deep.RegionHeld3
namespace Go.Proofs.YtengchkiejpglaaDoor
open Go.RowKit Go.Extern.Stop Go.Stop Go.Extern
set_option linter.unusedVariables false
set_option linter.unusedSimpArgs false
set_option maxHeartbeats 2000000 in
theorem rparse_size (s : ByteArray) (w : World) (hm : s.size ≤ 9223372036854775807) (h : s.size ≠ 10) : Calls Tryd.prog 32 #[.string s] w fun e w' => e = .returned (.tuple #[.agg #[.int .i64 0, .int .i64 0, .int .i64 0], .int .i64 3]) ∧ Below w.heap.size w w' := by
  have hn : ((s.size : Int) != 10) = true := by simp; omega
  go_enter Tryd.func32, Tryd.ntmps32
  go_wp2_with (fail)
  refine bodyPost_ret (v := .tuple #[.agg #[.int .i64 0, .int .i64 0, .int .i64 0], .int .i64 3]) (by first | (simp [results, Tryd.results32, go_sem]; done) | (simp only [results, Tryd.results32]; go_simp; done) | (simp only [results, Tryd.results32]; go_simp; omega)) rfl ⟨rfl, by repeat (first | exact Below.refl _ _ | assumption | refine Below.trans ?_ (Below.mono (by assumption) (by simp <;> omega)) | exact Held.below (w0 := w) (by assumption) | refine Below.setCell ?_ (by simp <;> omega) _ | refine Below.alloc ?_ (by simp <;> omega) _ | refine Below.drew ?_ | refine below_drewN ?_ _)⟩
set_option maxHeartbeats 2000000 in
theorem rparse_c4 (s : ByteArray) (w : World) (h : s.size = 10) (h4 : (s[4]'(by omega)).toNat ≠ 45) : Calls Tryd.prog 32 #[.string s] w fun e w' => e = .returned (.tuple #[.agg #[.int .i64 0, .int .i64 0, .int .i64 0], .int .i64 3]) ∧ Below w.heap.size w w' := by
  skip
  go_enter Tryd.func32, Tryd.ntmps32
  go_wp2_with (fail)
  refine bodyPost_ret (v := .tuple #[.agg #[.int .i64 0, .int .i64 0, .int .i64 0], .int .i64 3]) (by first | (simp [results, Tryd.results32, go_sem]; done) | (simp only [results, Tryd.results32]; go_simp; done) | (simp only [results, Tryd.results32]; go_simp; omega)) rfl ⟨rfl, by repeat (first | exact Below.refl _ _ | assumption | refine Below.trans ?_ (Below.mono (by assumption) (by simp <;> omega)) | exact Held.below (w0 := w) (by assumption) | refine Below.setCell ?_ (by simp <;> omega) _ | refine Below.alloc ?_ (by simp <;> omega) _ | refine Below.drew ?_ | refine below_drewN ?_ _)⟩
set_option maxHeartbeats 2000000 in
theorem rparse_c7 (s : ByteArray) (w : World) (h : s.size = 10) (h4 : ((s[4]'(by omega)).toNat : Int) = 45) (h7 : (s[7]'(by omega)).toNat ≠ 45) : Calls Tryd.prog 32 #[.string s] w fun e w' => e = .returned (.tuple #[.agg #[.int .i64 0, .int .i64 0, .int .i64 0], .int .i64 3]) ∧ Below w.heap.size w w' := by
  skip
  go_enter Tryd.func32, Tryd.ntmps32
  go_wp2_with (fail)
  refine bodyPost_ret (v := .tuple #[.agg #[.int .i64 0, .int .i64 0, .int .i64 0], .int .i64 3]) (by first | (simp [results, Tryd.results32, go_sem]; done) | (simp only [results, Tryd.results32]; go_simp; done) | (simp only [results, Tryd.results32]; go_simp; omega)) rfl ⟨rfl, by repeat (first | exact Below.refl _ _ | assumption | refine Below.trans ?_ (Below.mono (by assumption) (by simp <;> omega)) | exact Held.below (w0 := w) (by assumption) | refine Below.setCell ?_ (by simp <;> omega) _ | refine Below.alloc ?_ (by simp <;> omega) _ | refine Below.drew ?_ | refine below_drewN ?_ _)⟩
set_option maxRecDepth 100000 in
set_option maxHeartbeats 8000000 in
theorem rparse_no (s : ByteArray) (w : World) (hg : w.cell? ⟨0, 0, none⟩ = some asHandle) (h : s.size = 10) (h4 : ((s[4]'(by omega)).toNat : Int) = 45) (h7 : ((s[7]'(by omega)).toNat : Int) = 45) (hmay : ¬ Cal.may (Dig.numS (-1) (s.extract 0 4)) (Dig.numS (-1) (s.extract 5 7)) (Dig.numS (-1) (s.extract 8 10))) : Calls Tryd.prog 32 #[.string s] w fun e w' => e = .returned (.tuple #[.agg #[.int .i64 0, .int .i64 0, .int .i64 0], .int .i64 3]) ∧ Below w.heap.size w w' := by
  have b1 := Dig.numS_bd (-1) (s.extract 0 4) (by omega) (by simp [ByteArray.size_extract]; omega)
  have b2 := Dig.numS_bd (-1) (s.extract 5 7) (by omega) (by simp [ByteArray.size_extract]; omega)
  have b3 := Dig.numS_bd (-1) (s.extract 8 10) (by omega) (by simp [ByteArray.size_extract]; omega)
  go_enter Tryd.func32, Tryd.ntmps32
  go_wp2_with (fail)
  go_region_held3 (fun wx => Held w wx) (repeat (first | assumption | exact Held.start hg | refine Held.drew ?_ | refine Held.alloc ?_ _)) (first | (go_at_call 88; (with_reducible refine (digits_r _ _ (by simp [ByteArray.size_extract]; try omega)).mono ?_); rintro e w' ⟨rfl, rfl⟩))
  all_goals go_wp2_with (first | (go_at_call 18; (with_reducible refine (rmay_no _ _ _ _ (Held.handle (w0 := w) (by assumption)) (by omega) (by omega) (by omega) hmay).mono ?_); rintro e w' ⟨rfl, hb'⟩; obtain ⟨hc, hf⟩ := bcell hb'; have hz := hb'.size; (try (simp at hz)); have hz0 : w.heap.size < w'.heap.size := (by omega); have k0 : w'.cell? ⟨w.heap.size, 0, none⟩ = some (.int .i64 0) := (hb'.cell (p := ⟨w.heap.size, 0, none⟩) (by simp <;> omega)).trans (by simp); have k1 : w'.cell? ⟨w.heap.size, 1, none⟩ = some (.int .i64 0) := (hb'.cell (p := ⟨w.heap.size, 1, none⟩) (by simp <;> omega)).trans (by simp); have k2 : w'.cell? ⟨w.heap.size, 2, none⟩ = some (.int .i64 0) := (hb'.cell (p := ⟨w.heap.size, 2, none⟩) (by simp <;> omega)).trans (by simp)))
  all_goals refine bodyPost_ret (v := .tuple #[.agg #[.int .i64 0, .int .i64 0, .int .i64 0], .int .i64 3]) (by first | (simp [results, Tryd.results32, go_sem]; done) | (simp only [results, Tryd.results32]; go_simp; done) | (simp only [results, Tryd.results32]; go_simp; omega)) rfl ⟨rfl, ?_⟩
  all_goals repeat (first | exact Below.refl _ _ | assumption | refine Below.trans ?_ (Below.mono (by assumption) (by simp <;> omega)) | exact Held.below (w0 := w) (by assumption) | refine Below.setCell ?_ (by simp <;> omega) _ | refine Below.alloc ?_ (by simp <;> omega) _ | refine Below.drew ?_ | refine below_drewN ?_ _)
set_option maxRecDepth 100000 in
set_option maxHeartbeats 8000000 in
theorem rparse_ok (s : ByteArray) (w : World) (hg : w.cell? ⟨0, 0, none⟩ = some asHandle) (h : s.size = 10) (h4 : ((s[4]'(by omega)).toNat : Int) = 45) (h7 : ((s[7]'(by omega)).toNat : Int) = 45) (hmay : Cal.may (Dig.numS (-1) (s.extract 0 4)) (Dig.numS (-1) (s.extract 5 7)) (Dig.numS (-1) (s.extract 8 10))) : Calls Tryd.prog 32 #[.string s] w fun e w' => e = .returned (.tuple #[.agg #[.int .i64 (Dig.numS (-1) (s.extract 0 4)), .int .i64 (Dig.numS (-1) (s.extract 5 7)), .int .i64 (Dig.numS (-1) (s.extract 8 10))], .int .i64 0]) ∧ Below w.heap.size w w' := by
  have b1 := Dig.numS_bd (-1) (s.extract 0 4) (by omega) (by simp [ByteArray.size_extract]; omega)
  have b2 := Dig.numS_bd (-1) (s.extract 5 7) (by omega) (by simp [ByteArray.size_extract]; omega)
  have b3 := Dig.numS_bd (-1) (s.extract 8 10) (by omega) (by simp [ByteArray.size_extract]; omega)
  go_enter Tryd.func32, Tryd.ntmps32
  go_wp2_with (fail)
  go_region_held3 (fun wx => Held w wx) (repeat (first | assumption | exact Held.start hg | refine Held.drew ?_ | refine Held.alloc ?_ _)) (first | (go_at_call 88; (with_reducible refine (digits_r _ _ (by simp [ByteArray.size_extract]; try omega)).mono ?_); rintro e w' ⟨rfl, rfl⟩))
  all_goals go_wp2_with (first | (go_at_call 18; (with_reducible refine (rmay_ok _ _ _ _ (Held.handle (w0 := w) (by assumption)) (by omega) (by omega) (by omega) hmay).mono ?_); rintro e w' ⟨rfl, hb'⟩; obtain ⟨hc, hf⟩ := bcell hb'; have hz := hb'.size; (try (simp at hz)); have hz0 : w.heap.size < w'.heap.size := (by omega); have k0 : w'.cell? ⟨w.heap.size, 0, none⟩ = some (.int .i64 0) := (hb'.cell (p := ⟨w.heap.size, 0, none⟩) (by simp <;> omega)).trans (by simp); have k1 : w'.cell? ⟨w.heap.size, 1, none⟩ = some (.int .i64 0) := (hb'.cell (p := ⟨w.heap.size, 1, none⟩) (by simp <;> omega)).trans (by simp); have k2 : w'.cell? ⟨w.heap.size, 2, none⟩ = some (.int .i64 0) := (hb'.cell (p := ⟨w.heap.size, 2, none⟩) (by simp <;> omega)).trans (by simp)))
  all_goals refine bodyPost_ret (v := .tuple #[.agg #[.int .i64 (Dig.numS (-1) (s.extract 0 4)), .int .i64 (Dig.numS (-1) (s.extract 5 7)), .int .i64 (Dig.numS (-1) (s.extract 8 10))], .int .i64 0]) (by first | (simp [results, Tryd.results32, go_sem]; done) | (simp only [results, Tryd.results32]; go_simp; done) | (simp only [results, Tryd.results32]; go_simp; omega)) rfl ⟨rfl, ?_⟩
  all_goals repeat (first | exact Below.refl _ _ | assumption | refine Below.trans ?_ (Below.mono (by assumption) (by simp <;> omega)) | exact Held.below (w0 := w) (by assumption) | refine Below.setCell ?_ (by simp <;> omega) _ | refine Below.alloc ?_ (by simp <;> omega) _ | refine Below.drew ?_ | refine below_drewN ?_ _)
end Go.Proofs.YtengchkiejpglaaDoor
