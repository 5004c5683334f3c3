/-
  Layer 7: dates out of texts.
-/
import Derived.Test.YtengchkiejpglaaDoorW07d
import Derived.LoopN
import Derived.BigRegion
import Derived.Deep.RegionHeld3
namespace Go.Proofs.YtengchkiejpglaaDoor
open Go.RowKit Go.Extern.Stop Go.Stop Go.Extern
set_option linter.unusedVariables false
set_option linter.unusedSimpArgs false
set_option maxHeartbeats 2000000 in
theorem parse_size (s : ByteArray) (w : World) (hm : s.size ≤ 9223372036854775807) (h : s.size ≠ 10) : Calls Tryd.prog 31 #[.string s] w fun e w' => e = .returned (.tuple #[.agg #[.int .i64 0, .int .i64 0, .int .i64 0], errV 3]) ∧ Below w.heap.size w w' := by
  have hn : ((s.size : Int) != 10) = true := by simp; omega
  go_enter Tryd.func31, Tryd.ntmps31
  go_wp2_with (fail)
  refine bodyPost_ret (v := .tuple #[.agg #[.int .i64 0, .int .i64 0, .int .i64 0], errV 3]) (by first | (simp [results, Tryd.results31, go_sem]; done) | (simp only [results, Tryd.results31]; go_simp; done) | (simp only [results, Tryd.results31]; go_simp; omega)) rfl ⟨rfl, by repeat (first | exact Below.refl _ _ | assumption | refine Below.trans ?_ (Below.mono (by assumption) (by simp <;> omega)) | exact Held.below (w0 := w) (by assumption) | refine Below.setCell ?_ (by simp <;> omega) _ | refine Below.alloc ?_ (by simp <;> omega) _ | refine Below.drew ?_ | refine below_drewN ?_ _)⟩
set_option maxHeartbeats 2000000 in
theorem parse_c4 (s : ByteArray) (w : World) (h : s.size = 10) (h4 : (s[4]'(by omega)).toNat ≠ 45) : Calls Tryd.prog 31 #[.string s] w fun e w' => e = .returned (.tuple #[.agg #[.int .i64 0, .int .i64 0, .int .i64 0], errV 3]) ∧ Below w.heap.size w w' := by
  go_enter Tryd.func31, Tryd.ntmps31
  go_wp2_with (fail)
  refine bodyPost_ret (v := .tuple #[.agg #[.int .i64 0, .int .i64 0, .int .i64 0], errV 3]) (by first | (simp [results, Tryd.results31, go_sem]; done) | (simp only [results, Tryd.results31]; go_simp; done) | (simp only [results, Tryd.results31]; go_simp; omega)) rfl ⟨rfl, by repeat (first | exact Below.refl _ _ | assumption | refine Below.trans ?_ (Below.mono (by assumption) (by simp <;> omega)) | exact Held.below (w0 := w) (by assumption) | refine Below.setCell ?_ (by simp <;> omega) _ | refine Below.alloc ?_ (by simp <;> omega) _ | refine Below.drew ?_ | refine below_drewN ?_ _)⟩
set_option maxHeartbeats 2000000 in
theorem parse_c7 (s : ByteArray) (w : World) (h : s.size = 10) (h4 : ((s[4]'(by omega)).toNat : Int) = 45) (h7 : (s[7]'(by omega)).toNat ≠ 45) : Calls Tryd.prog 31 #[.string s] w fun e w' => e = .returned (.tuple #[.agg #[.int .i64 0, .int .i64 0, .int .i64 0], errV 3]) ∧ Below w.heap.size w w' := by
  go_enter Tryd.func31, Tryd.ntmps31
  go_wp2_with (fail)
  refine bodyPost_ret (v := .tuple #[.agg #[.int .i64 0, .int .i64 0, .int .i64 0], errV 3]) (by first | (simp [results, Tryd.results31, go_sem]; done) | (simp only [results, Tryd.results31]; go_simp; done) | (simp only [results, Tryd.results31]; go_simp; omega)) rfl ⟨rfl, by repeat (first | exact Below.refl _ _ | assumption | refine Below.trans ?_ (Below.mono (by assumption) (by simp <;> omega)) | exact Held.below (w0 := w) (by assumption) | refine Below.setCell ?_ (by simp <;> omega) _ | refine Below.alloc ?_ (by simp <;> omega) _ | refine Below.drew ?_ | refine below_drewN ?_ _)⟩
set_option maxRecDepth 100000 in
set_option maxHeartbeats 4000000 in
theorem parse_d1 (s : ByteArray) (w : World) (h : s.size = 10) (h4 : ((s[4]'(by omega)).toNat : Int) = 45) (h7 : ((s[7]'(by omega)).toNat : Int) = 45) (hd1 : Dig.digB (s.extract 0 4) = false) : Calls Tryd.prog 31 #[.string s] w fun e w' => e = .returned (.tuple #[.agg #[.int .i64 0, .int .i64 0, .int .i64 0], errV 3]) ∧ Below w.heap.size w w' := by
  have i0 : ∀ (x0 x1 x2 : Value) (w : World), (Instr.index 127 (.agg #[x0, x1, x2]) (.int .i64 0)).run Tryd.prog w = .ok x0 w := fun _ _ _ _ => by kernel_rfl
  have i1 : ∀ (x0 x1 x2 : Value) (w : World), (Instr.index 127 (.agg #[x0, x1, x2]) (.int .i64 1)).run Tryd.prog w = .ok x1 w := fun _ _ _ _ => by kernel_rfl
  have i2 : ∀ (x0 x1 x2 : Value) (w : World), (Instr.index 127 (.agg #[x0, x1, x2]) (.int .i64 2)).run Tryd.prog w = .ok x2 w := fun _ _ _ _ => by kernel_rfl
  go_enter Tryd.func31, Tryd.ntmps31
  go_wp2_with (fail)
  go_region
  go_wp2_with (fail)
  refine wp_loop_rounds 4 ?_
  rw [rounds_succ]
  go_wp2_with (first | (go_at_call 87; (with_reducible refine (digits_c _ _ (by simp [ByteArray.size_extract]; try omega)).mono ?_); rintro e w' ⟨rfl, rfl⟩))
  refine bodyPost_ret (v := .tuple #[.agg #[.int .i64 0, .int .i64 0, .int .i64 0], errV 3]) (by first | (simp [results, Tryd.results31, go_sem]; done) | (simp only [results, Tryd.results31]; go_simp; done) | (simp only [results, Tryd.results31]; go_simp; omega)) rfl ⟨rfl, by repeat (first | exact Below.refl _ _ | assumption | refine Below.trans ?_ (Below.mono (by assumption) (by simp <;> omega)) | exact Held.below (w0 := w) (by assumption) | refine Below.setCell ?_ (by simp <;> omega) _ | refine Below.alloc ?_ (by simp <;> omega) _ | refine Below.drew ?_ | refine below_drewN ?_ _)⟩
set_option maxRecDepth 100000 in
set_option maxHeartbeats 4000000 in
theorem parse_d2 (s : ByteArray) (w : World) (h : s.size = 10) (h4 : ((s[4]'(by omega)).toNat : Int) = 45) (h7 : ((s[7]'(by omega)).toNat : Int) = 45) (hd1 : Dig.digB (s.extract 0 4) = true) (hd2 : Dig.digB (s.extract 5 7) = false) : Calls Tryd.prog 31 #[.string s] w fun e w' => e = .returned (.tuple #[.agg #[.int .i64 0, .int .i64 0, .int .i64 0], errV 3]) ∧ Below w.heap.size w w' := by
  have i0 : ∀ (x0 x1 x2 : Value) (w : World), (Instr.index 127 (.agg #[x0, x1, x2]) (.int .i64 0)).run Tryd.prog w = .ok x0 w := fun _ _ _ _ => by kernel_rfl
  have i1 : ∀ (x0 x1 x2 : Value) (w : World), (Instr.index 127 (.agg #[x0, x1, x2]) (.int .i64 1)).run Tryd.prog w = .ok x1 w := fun _ _ _ _ => by kernel_rfl
  have i2 : ∀ (x0 x1 x2 : Value) (w : World), (Instr.index 127 (.agg #[x0, x1, x2]) (.int .i64 2)).run Tryd.prog w = .ok x2 w := fun _ _ _ _ => by kernel_rfl
  go_enter Tryd.func31, Tryd.ntmps31
  go_wp2_with (fail)
  go_region
  go_wp2_with (fail)
  refine wp_loop_rounds 4 ?_
  rw [rounds_succ]
  go_wp2_with (first | (go_at_call 87; (with_reducible refine (digits_c _ _ (by simp [ByteArray.size_extract]; try omega)).mono ?_); rintro e w' ⟨rfl, rfl⟩))
  rw [rounds_succ]
  go_wp2_with (first | (go_at_call 87; (with_reducible refine (digits_c _ _ (by simp [ByteArray.size_extract]; try omega)).mono ?_); rintro e w' ⟨rfl, rfl⟩))
  refine bodyPost_ret (v := .tuple #[.agg #[.int .i64 0, .int .i64 0, .int .i64 0], errV 3]) (by first | (simp [results, Tryd.results31, go_sem]; done) | (simp only [results, Tryd.results31]; go_simp; done) | (simp only [results, Tryd.results31]; go_simp; omega)) rfl ⟨rfl, by repeat (first | exact Below.refl _ _ | assumption | refine Below.trans ?_ (Below.mono (by assumption) (by simp <;> omega)) | exact Held.below (w0 := w) (by assumption) | refine Below.setCell ?_ (by simp <;> omega) _ | refine Below.alloc ?_ (by simp <;> omega) _ | refine Below.drew ?_ | refine below_drewN ?_ _)⟩
set_option maxRecDepth 100000 in
set_option maxHeartbeats 4000000 in
theorem parse_d3 (s : ByteArray) (w : World) (h : s.size = 10) (h4 : ((s[4]'(by omega)).toNat : Int) = 45) (h7 : ((s[7]'(by omega)).toNat : Int) = 45) (hd1 : Dig.digB (s.extract 0 4) = true) (hd2 : Dig.digB (s.extract 5 7) = true) (hd3 : Dig.digB (s.extract 8 10) = false) : Calls Tryd.prog 31 #[.string s] w fun e w' => e = .returned (.tuple #[.agg #[.int .i64 0, .int .i64 0, .int .i64 0], errV 3]) ∧ Below w.heap.size w w' := by
  have i0 : ∀ (x0 x1 x2 : Value) (w : World), (Instr.index 127 (.agg #[x0, x1, x2]) (.int .i64 0)).run Tryd.prog w = .ok x0 w := fun _ _ _ _ => by kernel_rfl
  have i1 : ∀ (x0 x1 x2 : Value) (w : World), (Instr.index 127 (.agg #[x0, x1, x2]) (.int .i64 1)).run Tryd.prog w = .ok x1 w := fun _ _ _ _ => by kernel_rfl
  have i2 : ∀ (x0 x1 x2 : Value) (w : World), (Instr.index 127 (.agg #[x0, x1, x2]) (.int .i64 2)).run Tryd.prog w = .ok x2 w := fun _ _ _ _ => by kernel_rfl
  go_enter Tryd.func31, Tryd.ntmps31
  go_wp2_with (fail)
  go_region
  go_wp2_with (fail)
  refine wp_loop_rounds 4 ?_
  rw [rounds_succ]
  go_wp2_with (first | (go_at_call 87; (with_reducible refine (digits_c _ _ (by simp [ByteArray.size_extract]; try omega)).mono ?_); rintro e w' ⟨rfl, rfl⟩))
  rw [rounds_succ]
  go_wp2_with (first | (go_at_call 87; (with_reducible refine (digits_c _ _ (by simp [ByteArray.size_extract]; try omega)).mono ?_); rintro e w' ⟨rfl, rfl⟩))
  rw [rounds_succ]
  go_wp2_with (first | (go_at_call 87; (with_reducible refine (digits_c _ _ (by simp [ByteArray.size_extract]; try omega)).mono ?_); rintro e w' ⟨rfl, rfl⟩))
  refine bodyPost_ret (v := .tuple #[.agg #[.int .i64 0, .int .i64 0, .int .i64 0], errV 3]) (by first | (simp [results, Tryd.results31, go_sem]; done) | (simp only [results, Tryd.results31]; go_simp; done) | (simp only [results, Tryd.results31]; go_simp; omega)) rfl ⟨rfl, by repeat (first | exact Below.refl _ _ | assumption | refine Below.trans ?_ (Below.mono (by assumption) (by simp <;> omega)) | exact Held.below (w0 := w) (by assumption) | refine Below.setCell ?_ (by simp <;> omega) _ | refine Below.alloc ?_ (by simp <;> omega) _ | refine Below.drew ?_ | refine below_drewN ?_ _)⟩
set_option maxRecDepth 100000 in
set_option maxHeartbeats 4000000 in
theorem parse_may_no (s : ByteArray) (w : World) (h : s.size = 10) (h4 : ((s[4]'(by omega)).toNat : Int) = 45) (h7 : ((s[7]'(by omega)).toNat : Int) = 45) (hd1 : Dig.digB (s.extract 0 4) = true) (hd2 : Dig.digB (s.extract 5 7) = true) (hd3 : Dig.digB (s.extract 8 10) = true) (hmay : ¬ Cal.may (Dig.numS 0 (s.extract 0 4)) (Dig.numS 0 (s.extract 5 7)) (Dig.numS 0 (s.extract 8 10))) : Calls Tryd.prog 31 #[.string s] w fun e w' => e = .returned (.tuple #[.agg #[.int .i64 0, .int .i64 0, .int .i64 0], errV 3]) ∧ Below w.heap.size w w' := by
  have b1 := Dig.numS_bd 0 (s.extract 0 4) (by omega) (by simp [ByteArray.size_extract]; omega)
  have b2 := Dig.numS_bd 0 (s.extract 5 7) (by omega) (by simp [ByteArray.size_extract]; omega)
  have b3 := Dig.numS_bd 0 (s.extract 8 10) (by omega) (by simp [ByteArray.size_extract]; omega)
  have i0 : ∀ (x0 x1 x2 : Value) (w : World), (Instr.index 127 (.agg #[x0, x1, x2]) (.int .i64 0)).run Tryd.prog w = .ok x0 w := fun _ _ _ _ => by kernel_rfl
  have i1 : ∀ (x0 x1 x2 : Value) (w : World), (Instr.index 127 (.agg #[x0, x1, x2]) (.int .i64 1)).run Tryd.prog w = .ok x1 w := fun _ _ _ _ => by kernel_rfl
  have i2 : ∀ (x0 x1 x2 : Value) (w : World), (Instr.index 127 (.agg #[x0, x1, x2]) (.int .i64 2)).run Tryd.prog w = .ok x2 w := fun _ _ _ _ => by kernel_rfl
  go_enter Tryd.func31, Tryd.ntmps31
  go_wp2_with (fail)
  go_region
  go_wp2_with (fail)
  refine wp_loop_rounds 4 ?_
  rw [rounds_succ]
  go_wp2_with (first | (go_at_call 87; (with_reducible refine (digits_c _ _ (by simp [ByteArray.size_extract]; try omega)).mono ?_); rintro e w' ⟨rfl, rfl⟩))
  rw [rounds_succ]
  go_wp2_with (first | (go_at_call 87; (with_reducible refine (digits_c _ _ (by simp [ByteArray.size_extract]; try omega)).mono ?_); rintro e w' ⟨rfl, rfl⟩))
  rw [rounds_succ]
  go_wp2_with (first | (go_at_call 87; (with_reducible refine (digits_c _ _ (by simp [ByteArray.size_extract]; try omega)).mono ?_); rintro e w' ⟨rfl, rfl⟩))
  rw [rounds_succ]
  go_wp2_with (first | (go_at_call 87; (with_reducible refine (digits_c _ _ (by simp [ByteArray.size_extract]; try omega)).mono ?_); rintro e w' ⟨rfl, rfl⟩) | (go_at_call 26; (with_reducible refine (check_no _ _ _ _ (by omega) (by omega) (by omega) hmay).mono ?_); rintro e w' ⟨rfl, hb'⟩; obtain ⟨hc, hf⟩ := bcell hb'; have hz := hb'.size; (try (simp at hz)); have hz0 : w.heap.size < w'.heap.size := (by omega); have k0 : w'.cell? ⟨w.heap.size, 0, none⟩ = some (.int .i64 0) := (hb'.cell (p := ⟨w.heap.size, 0, none⟩) (by simp <;> omega)).trans (by have e1 : w.heap.size < w.heap.size + 1 := (by omega); have e2 : w.heap.size < w.heap.size + 1 + 1 := (by omega); have e3 : w.heap.size < w.heap.size + 1 + 1 + 1 := (by omega); first | (go_simp; done) | (rw [World.cell?_drew, World.cell?_alloc_lt _ _ ⟨w.heap.size, _, none⟩ (by simp), World.cell?_alloc_lt _ _ ⟨w.heap.size, _, none⟩ (by simp), World.cell?_alloc_lt _ _ ⟨w.heap.size, _, none⟩ (by simp)]; simp)); have k1 : w'.cell? ⟨w.heap.size, 1, none⟩ = some (.int .i64 0) := (hb'.cell (p := ⟨w.heap.size, 1, none⟩) (by simp <;> omega)).trans (by have e1 : w.heap.size < w.heap.size + 1 := (by omega); have e2 : w.heap.size < w.heap.size + 1 + 1 := (by omega); have e3 : w.heap.size < w.heap.size + 1 + 1 + 1 := (by omega); first | (go_simp; done) | (rw [World.cell?_drew, World.cell?_alloc_lt _ _ ⟨w.heap.size, _, none⟩ (by simp), World.cell?_alloc_lt _ _ ⟨w.heap.size, _, none⟩ (by simp), World.cell?_alloc_lt _ _ ⟨w.heap.size, _, none⟩ (by simp)]; simp)); have k2 : w'.cell? ⟨w.heap.size, 2, none⟩ = some (.int .i64 0) := (hb'.cell (p := ⟨w.heap.size, 2, none⟩) (by simp <;> omega)).trans (by have e1 : w.heap.size < w.heap.size + 1 := (by omega); have e2 : w.heap.size < w.heap.size + 1 + 1 := (by omega); have e3 : w.heap.size < w.heap.size + 1 + 1 + 1 := (by omega); first | (go_simp; done) | (rw [World.cell?_drew, World.cell?_alloc_lt _ _ ⟨w.heap.size, _, none⟩ (by simp), World.cell?_alloc_lt _ _ ⟨w.heap.size, _, none⟩ (by simp), World.cell?_alloc_lt _ _ ⟨w.heap.size, _, none⟩ (by simp)]; simp))))
  refine bodyPost_ret (v := .tuple #[.agg #[.int .i64 0, .int .i64 0, .int .i64 0], errV 3]) (by first | (simp [results, Tryd.results31, go_sem]; done) | (simp only [results, Tryd.results31]; go_simp; done) | (simp only [results, Tryd.results31]; go_simp; omega)) rfl ⟨rfl, ?_⟩
  repeat (first | exact Below.refl _ _ | assumption | refine Below.trans ?_ (Below.mono (by assumption) (by simp <;> omega)) | exact Held.below (w0 := w) (by assumption) | refine Below.setCell ?_ (by simp <;> omega) _ | refine Below.alloc ?_ (by simp <;> omega) _ | refine Below.drew ?_ | refine below_drewN ?_ _)
set_option maxRecDepth 100000 in
set_option maxHeartbeats 4000000 in
theorem parse_may_ok (s : ByteArray) (w : World) (h : s.size = 10) (h4 : ((s[4]'(by omega)).toNat : Int) = 45) (h7 : ((s[7]'(by omega)).toNat : Int) = 45) (hd1 : Dig.digB (s.extract 0 4) = true) (hd2 : Dig.digB (s.extract 5 7) = true) (hd3 : Dig.digB (s.extract 8 10) = true) (hmay : Cal.may (Dig.numS 0 (s.extract 0 4)) (Dig.numS 0 (s.extract 5 7)) (Dig.numS 0 (s.extract 8 10))) : Calls Tryd.prog 31 #[.string s] w fun e w' => e = .returned (.tuple #[.agg #[.int .i64 (Dig.numS 0 (s.extract 0 4)), .int .i64 (Dig.numS 0 (s.extract 5 7)), .int .i64 (Dig.numS 0 (s.extract 8 10))], .nilIface]) ∧ Below w.heap.size w w' := by
  have b1 := Dig.numS_bd 0 (s.extract 0 4) (by omega) (by simp [ByteArray.size_extract]; omega)
  have b2 := Dig.numS_bd 0 (s.extract 5 7) (by omega) (by simp [ByteArray.size_extract]; omega)
  have b3 := Dig.numS_bd 0 (s.extract 8 10) (by omega) (by simp [ByteArray.size_extract]; omega)
  have i0 : ∀ (x0 x1 x2 : Value) (w : World), (Instr.index 127 (.agg #[x0, x1, x2]) (.int .i64 0)).run Tryd.prog w = .ok x0 w := fun _ _ _ _ => by kernel_rfl
  have i1 : ∀ (x0 x1 x2 : Value) (w : World), (Instr.index 127 (.agg #[x0, x1, x2]) (.int .i64 1)).run Tryd.prog w = .ok x1 w := fun _ _ _ _ => by kernel_rfl
  have i2 : ∀ (x0 x1 x2 : Value) (w : World), (Instr.index 127 (.agg #[x0, x1, x2]) (.int .i64 2)).run Tryd.prog w = .ok x2 w := fun _ _ _ _ => by kernel_rfl
  go_enter Tryd.func31, Tryd.ntmps31
  go_wp2_with (fail)
  go_region
  go_wp2_with (fail)
  refine wp_loop_rounds 4 ?_
  rw [rounds_succ]
  go_wp2_with (first | (go_at_call 87; (with_reducible refine (digits_c _ _ (by simp [ByteArray.size_extract]; try omega)).mono ?_); rintro e w' ⟨rfl, rfl⟩))
  rw [rounds_succ]
  go_wp2_with (first | (go_at_call 87; (with_reducible refine (digits_c _ _ (by simp [ByteArray.size_extract]; try omega)).mono ?_); rintro e w' ⟨rfl, rfl⟩))
  rw [rounds_succ]
  go_wp2_with (first | (go_at_call 87; (with_reducible refine (digits_c _ _ (by simp [ByteArray.size_extract]; try omega)).mono ?_); rintro e w' ⟨rfl, rfl⟩))
  rw [rounds_succ]
  go_wp2_with (first | (go_at_call 87; (with_reducible refine (digits_c _ _ (by simp [ByteArray.size_extract]; try omega)).mono ?_); rintro e w' ⟨rfl, rfl⟩) | (go_at_call 26; (with_reducible refine (check_ok _ _ _ _ (by omega) (by omega) (by omega) hmay).mono ?_); rintro e w' ⟨rfl, hb'⟩; obtain ⟨hc, hf⟩ := bcell hb'; have hz := hb'.size; (try (simp at hz)); have hz0 : w.heap.size < w'.heap.size := (by omega); have k0 : w'.cell? ⟨w.heap.size, 0, none⟩ = some (.int .i64 0) := (hb'.cell (p := ⟨w.heap.size, 0, none⟩) (by simp <;> omega)).trans (by have e1 : w.heap.size < w.heap.size + 1 := (by omega); have e2 : w.heap.size < w.heap.size + 1 + 1 := (by omega); have e3 : w.heap.size < w.heap.size + 1 + 1 + 1 := (by omega); first | (go_simp; done) | (rw [World.cell?_drew, World.cell?_alloc_lt _ _ ⟨w.heap.size, _, none⟩ (by simp), World.cell?_alloc_lt _ _ ⟨w.heap.size, _, none⟩ (by simp), World.cell?_alloc_lt _ _ ⟨w.heap.size, _, none⟩ (by simp)]; simp)); have k1 : w'.cell? ⟨w.heap.size, 1, none⟩ = some (.int .i64 0) := (hb'.cell (p := ⟨w.heap.size, 1, none⟩) (by simp <;> omega)).trans (by have e1 : w.heap.size < w.heap.size + 1 := (by omega); have e2 : w.heap.size < w.heap.size + 1 + 1 := (by omega); have e3 : w.heap.size < w.heap.size + 1 + 1 + 1 := (by omega); first | (go_simp; done) | (rw [World.cell?_drew, World.cell?_alloc_lt _ _ ⟨w.heap.size, _, none⟩ (by simp), World.cell?_alloc_lt _ _ ⟨w.heap.size, _, none⟩ (by simp), World.cell?_alloc_lt _ _ ⟨w.heap.size, _, none⟩ (by simp)]; simp)); have k2 : w'.cell? ⟨w.heap.size, 2, none⟩ = some (.int .i64 0) := (hb'.cell (p := ⟨w.heap.size, 2, none⟩) (by simp <;> omega)).trans (by have e1 : w.heap.size < w.heap.size + 1 := (by omega); have e2 : w.heap.size < w.heap.size + 1 + 1 := (by omega); have e3 : w.heap.size < w.heap.size + 1 + 1 + 1 := (by omega); first | (go_simp; done) | (rw [World.cell?_drew, World.cell?_alloc_lt _ _ ⟨w.heap.size, _, none⟩ (by simp), World.cell?_alloc_lt _ _ ⟨w.heap.size, _, none⟩ (by simp), World.cell?_alloc_lt _ _ ⟨w.heap.size, _, none⟩ (by simp)]; simp))))
  refine bodyPost_ret (v := .tuple #[.agg #[.int .i64 (Dig.numS 0 (s.extract 0 4)), .int .i64 (Dig.numS 0 (s.extract 5 7)), .int .i64 (Dig.numS 0 (s.extract 8 10))], .nilIface]) (by first | (simp [results, Tryd.results31, go_sem]; done) | (simp only [results, Tryd.results31]; go_simp; done) | (simp only [results, Tryd.results31]; go_simp; omega)) rfl ⟨rfl, ?_⟩
  repeat (first | exact Below.refl _ _ | assumption | refine Below.trans ?_ (Below.mono (by assumption) (by simp <;> omega)) | exact Held.below (w0 := w) (by assumption) | refine Below.setCell ?_ (by simp <;> omega) _ | refine Below.alloc ?_ (by simp <;> omega) _ | refine Below.drew ?_ | refine below_drewN ?_ _)
end Go.Proofs.YtengchkiejpglaaDoor
