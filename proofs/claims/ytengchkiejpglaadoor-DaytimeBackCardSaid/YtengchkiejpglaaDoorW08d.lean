/-
  Layer 8: parses of the reference.
-/
import Derived.Test.YtengchkiejpglaaDoorW08b
import Derived.Test.YtengchkiejpglaaDoorV07e
import Derived.BigRegion
import Derived.Deep.RegionHeld3
namespace Go.Proofs.YtengchkiejpglaaDoor
open Go.RowKit Go.Extern.Stop Go.Stop Go.Extern
set_option linter.unusedVariables false
set_option linter.unusedSimpArgs false
abbrev SRP (w : World) (b0 : Nat) (v00 v01 v02 : Value) (wx : World) : Prop := Held w wx ∧ B3 b0 v00 v01 v02 wx
theorem SRP.step {w : World} {b0 : Nat} {v00 v01 v02 : Value} {wx w' : World} (h : SRP w b0 v00 v01 v02 wx) (hb : Below wx.heap.size wx w') : SRP w b0 v00 v01 v02 w' := ⟨(h.1).step hb, (h.2).step hb⟩
theorem SRP.drew {w : World} {b0 : Nat} {v00 v01 v02 : Value} {wx : World} (h : SRP w b0 v00 v01 v02 wx) : SRP w b0 v00 v01 v02 wx.drew := h.step (Below.refl _ _).drew
set_option maxRecDepth 100000 in
set_option maxHeartbeats 8000000 in
theorem rdparse_date_t (s : ByteArray) (y m d : Int) (w : World) (hg : w.cell? ⟨0, 0, none⟩ = some asHandle) (h : s.size = 29) (c10 : ((s[10]'(by omega)).toNat : Int) = 84) (c13 : ((s[13]'(by omega)).toNat : Int) = 58) (c16 : ((s[16]'(by omega)).toNat : Int) = 58) (c19 : ((s[19]'(by omega)).toNat : Int) = 46) (hp : IsParse (s.extract 0 10) y m d 3) (ht : TimeOK (Dig.numS (-1) (s.extract 11 13)) (Dig.numS (-1) (s.extract 14 16)) (Dig.numS (-1) (s.extract 17 19))) : Calls Tryd.prog 46 #[.string s] w fun e w' => e = .returned (.tuple #[.int .i64 0, .int .i64 0, .int .i64 0, .int .i64 3]) ∧ Below w.heap.size w w' := by
  have hH := Held.start hg
  have b0 := Dig.numS_bd (-1) (s.extract 11 13) (by omega) (by simp [ByteArray.size_extract]; try omega)
  have b1 := Dig.numS_bd (-1) (s.extract 14 16) (by omega) (by simp [ByteArray.size_extract]; try omega)
  have b2 := Dig.numS_bd (-1) (s.extract 17 19) (by omega) (by simp [ByteArray.size_extract]; try omega)
  have b3 := Dig.numS_bd (-1) (s.extract 20 29) (by omega) (by simp [ByteArray.size_extract]; try omega)
  go_enter Tryd.func46, Tryd.ntmps46
  go_wp2_with (fail)
  go_at_call 32
  (with_reducible refine (rparse_f (s.extract 0 10) y m d 3 _ (Held.handle (w0 := w) (by repeat (first | assumption | refine Held.alloc ?_ _ | refine Held.drew ?_))) (by simp [ByteArray.size_extract]; try omega) hp).mono ?_)
  rintro e w1 ⟨rfl, HB⟩
  obtain ⟨hc1, hf1⟩ := bcell HB
  obtain ⟨hd1, hh1⟩ := bcell2 (U := w) (by repeat (first | exact Below.refl _ _ | refine Below.setCell ?_ (by simp <;> omega) _ | refine Below.alloc ?_ (by simp <;> omega) _ | refine Below.drew ?_)) HB
  have hz1 := HB.size
  try simp at hz1
  (try (have z1w0 : w.heap.size < w1.heap.size := (by omega)))
  have hH1 := Held.step (w0 := w) (by repeat (first | assumption | refine Held.alloc ?_ _ | refine Held.drew ?_)) HB
  clear HB
  go_wp2_with (fail)
  have hS0 : SRP w (w1.heap.size) (.int .i64 y) (.int .i64 m) (.int .i64 d) (w1.alloc (.cells #[.int .i64 y, .int .i64 m, .int .i64 d] 23)) := ⟨Held.alloc hH1 _, ⟨by simp <;> omega, by go_simp, by go_simp, by go_simp⟩⟩
  go_region_held3 (fun wx => SRP w (w1.heap.size) (.int .i64 y) (.int .i64 m) (.int .i64 d) wx) (first | assumption | exact SRP.drew (by assumption)) (first | (go_at_call 88; (with_reducible refine (digits_r _ _ (by simp [ByteArray.size_extract]; try omega)).mono ?_); rintro e w' ⟨rfl, rfl⟩) | (go_at_call 38; (with_reducible refine (rsec_ok _ _ _ _ (by omega) (by omega) (by omega) ht).mono ?_); rintro e w' ⟨rfl, hb'⟩; have hS' := SRP.step (by assumption) hb'; clear hb'))
  all_goals obtain ⟨_, ⟨l0, c00, c01, c02⟩⟩ := id (by assumption : SRP w _ _ _ _ _)
  all_goals go_wp2_with (first | (go_at_call 88; (with_reducible refine (digits_r _ _ (by simp [ByteArray.size_extract]; try omega)).mono ?_); rintro e w' ⟨rfl, rfl⟩))
  all_goals refine bodyPost_ret (v := .tuple #[.int .i64 0, .int .i64 0, .int .i64 0, .int .i64 3]) (by first | (simp [results, Tryd.results46, go_sem]; done) | (simp only [results, Tryd.results46]; go_simp; done)) rfl ⟨rfl, Held.below (w0 := w) (And.left (by assumption))⟩
set_option maxRecDepth 100000 in
set_option maxHeartbeats 8000000 in
theorem rdparse_date_n (s : ByteArray) (y m d : Int) (w : World) (hg : w.cell? ⟨0, 0, none⟩ = some asHandle) (h : s.size = 29) (c10 : ((s[10]'(by omega)).toNat : Int) = 84) (c13 : ((s[13]'(by omega)).toNat : Int) = 58) (c16 : ((s[16]'(by omega)).toNat : Int) = 58) (c19 : ((s[19]'(by omega)).toNat : Int) = 46) (hp : IsParse (s.extract 0 10) y m d 3) (ht : ¬ TimeOK (Dig.numS (-1) (s.extract 11 13)) (Dig.numS (-1) (s.extract 14 16)) (Dig.numS (-1) (s.extract 17 19))) : Calls Tryd.prog 46 #[.string s] w fun e w' => e = .returned (.tuple #[.int .i64 0, .int .i64 0, .int .i64 0, .int .i64 3]) ∧ Below w.heap.size w w' := by
  have hH := Held.start hg
  have b0 := Dig.numS_bd (-1) (s.extract 11 13) (by omega) (by simp [ByteArray.size_extract]; try omega)
  have b1 := Dig.numS_bd (-1) (s.extract 14 16) (by omega) (by simp [ByteArray.size_extract]; try omega)
  have b2 := Dig.numS_bd (-1) (s.extract 17 19) (by omega) (by simp [ByteArray.size_extract]; try omega)
  have b3 := Dig.numS_bd (-1) (s.extract 20 29) (by omega) (by simp [ByteArray.size_extract]; try omega)
  go_enter Tryd.func46, Tryd.ntmps46
  go_wp2_with (fail)
  go_at_call 32
  (with_reducible refine (rparse_f (s.extract 0 10) y m d 3 _ (Held.handle (w0 := w) (by repeat (first | assumption | refine Held.alloc ?_ _ | refine Held.drew ?_))) (by simp [ByteArray.size_extract]; try omega) hp).mono ?_)
  rintro e w1 ⟨rfl, HB⟩
  obtain ⟨hc1, hf1⟩ := bcell HB
  obtain ⟨hd1, hh1⟩ := bcell2 (U := w) (by repeat (first | exact Below.refl _ _ | refine Below.setCell ?_ (by simp <;> omega) _ | refine Below.alloc ?_ (by simp <;> omega) _ | refine Below.drew ?_)) HB
  have hz1 := HB.size
  try simp at hz1
  (try (have z1w0 : w.heap.size < w1.heap.size := (by omega)))
  have hH1 := Held.step (w0 := w) (by repeat (first | assumption | refine Held.alloc ?_ _ | refine Held.drew ?_)) HB
  clear HB
  go_wp2_with (fail)
  have hS0 : SRP w (w1.heap.size) (.int .i64 y) (.int .i64 m) (.int .i64 d) (w1.alloc (.cells #[.int .i64 y, .int .i64 m, .int .i64 d] 23)) := ⟨Held.alloc hH1 _, ⟨by simp <;> omega, by go_simp, by go_simp, by go_simp⟩⟩
  go_region_held3 (fun wx => SRP w (w1.heap.size) (.int .i64 y) (.int .i64 m) (.int .i64 d) wx) (first | assumption | exact SRP.drew (by assumption)) (first | (go_at_call 88; (with_reducible refine (digits_r _ _ (by simp [ByteArray.size_extract]; try omega)).mono ?_); rintro e w' ⟨rfl, rfl⟩) | (go_at_call 38; (with_reducible refine (rsec_no _ _ _ _ (by omega) (by omega) (by omega) ht).mono ?_); rintro e w' ⟨rfl, hb'⟩; have hS' := SRP.step (by assumption) hb'; clear hb'))
  all_goals obtain ⟨_, ⟨l0, c00, c01, c02⟩⟩ := id (by assumption : SRP w _ _ _ _ _)
  all_goals go_wp2_with (first | (go_at_call 88; (with_reducible refine (digits_r _ _ (by simp [ByteArray.size_extract]; try omega)).mono ?_); rintro e w' ⟨rfl, rfl⟩))
  all_goals refine bodyPost_ret (v := .tuple #[.int .i64 0, .int .i64 0, .int .i64 0, .int .i64 3]) (by first | (simp [results, Tryd.results46, go_sem]; done) | (simp only [results, Tryd.results46]; go_simp; done)) rfl ⟨rfl, Held.below (w0 := w) (And.left (by assumption))⟩
set_option maxRecDepth 100000 in
set_option maxHeartbeats 8000000 in
theorem rdparse_tno (s : ByteArray) (y m d : Int) (w : World) (hg : w.cell? ⟨0, 0, none⟩ = some asHandle) (h : s.size = 29) (c10 : ((s[10]'(by omega)).toNat : Int) = 84) (c13 : ((s[13]'(by omega)).toNat : Int) = 58) (c16 : ((s[16]'(by omega)).toNat : Int) = 58) (c19 : ((s[19]'(by omega)).toNat : Int) = 46) (hp : IsParse (s.extract 0 10) y m d 0) (ht : ¬ TimeOK (Dig.numS (-1) (s.extract 11 13)) (Dig.numS (-1) (s.extract 14 16)) (Dig.numS (-1) (s.extract 17 19))) : Calls Tryd.prog 46 #[.string s] w fun e w' => e = .returned (.tuple #[.int .i64 0, .int .i64 0, .int .i64 0, .int .i64 3]) ∧ Below w.heap.size w w' := by
  have hH := Held.start hg
  have b0 := Dig.numS_bd (-1) (s.extract 11 13) (by omega) (by simp [ByteArray.size_extract]; try omega)
  have b1 := Dig.numS_bd (-1) (s.extract 14 16) (by omega) (by simp [ByteArray.size_extract]; try omega)
  have b2 := Dig.numS_bd (-1) (s.extract 17 19) (by omega) (by simp [ByteArray.size_extract]; try omega)
  have b3 := Dig.numS_bd (-1) (s.extract 20 29) (by omega) (by simp [ByteArray.size_extract]; try omega)
  go_enter Tryd.func46, Tryd.ntmps46
  go_wp2_with (fail)
  go_at_call 32
  (with_reducible refine (rparse_f (s.extract 0 10) y m d 0 _ (Held.handle (w0 := w) (by repeat (first | assumption | refine Held.alloc ?_ _ | refine Held.drew ?_))) (by simp [ByteArray.size_extract]; try omega) hp).mono ?_)
  rintro e w1 ⟨rfl, HB⟩
  obtain ⟨hc1, hf1⟩ := bcell HB
  obtain ⟨hd1, hh1⟩ := bcell2 (U := w) (by repeat (first | exact Below.refl _ _ | refine Below.setCell ?_ (by simp <;> omega) _ | refine Below.alloc ?_ (by simp <;> omega) _ | refine Below.drew ?_)) HB
  have hz1 := HB.size
  try simp at hz1
  (try (have z1w0 : w.heap.size < w1.heap.size := (by omega)))
  have hH1 := Held.step (w0 := w) (by repeat (first | assumption | refine Held.alloc ?_ _ | refine Held.drew ?_)) HB
  clear HB
  go_wp2_with (fail)
  have hS0 : SRP w (w1.heap.size) (.int .i64 y) (.int .i64 m) (.int .i64 d) (w1.alloc (.cells #[.int .i64 y, .int .i64 m, .int .i64 d] 23)) := ⟨Held.alloc hH1 _, ⟨by simp <;> omega, by go_simp, by go_simp, by go_simp⟩⟩
  go_region_held3 (fun wx => SRP w (w1.heap.size) (.int .i64 y) (.int .i64 m) (.int .i64 d) wx) (first | assumption | exact SRP.drew (by assumption)) (first | (go_at_call 88; (with_reducible refine (digits_r _ _ (by simp [ByteArray.size_extract]; try omega)).mono ?_); rintro e w' ⟨rfl, rfl⟩) | (go_at_call 38; (with_reducible refine (rsec_no _ _ _ _ (by omega) (by omega) (by omega) ht).mono ?_); rintro e w' ⟨rfl, hb'⟩; have hS' := SRP.step (by assumption) hb'; clear hb'))
  all_goals obtain ⟨_, ⟨l0, c00, c01, c02⟩⟩ := id (by assumption : SRP w _ _ _ _ _)
  all_goals go_wp2_with (first | (go_at_call 88; (with_reducible refine (digits_r _ _ (by simp [ByteArray.size_extract]; try omega)).mono ?_); rintro e w' ⟨rfl, rfl⟩))
  all_goals refine bodyPost_ret (v := .tuple #[.int .i64 0, .int .i64 0, .int .i64 0, .int .i64 3]) (by first | (simp [results, Tryd.results46, go_sem]; done) | (simp only [results, Tryd.results46]; go_simp; done)) rfl ⟨rfl, Held.below (w0 := w) (And.left (by assumption))⟩
set_option maxRecDepth 100000 in
set_option maxHeartbeats 8000000 in
theorem rdparse_nno (s : ByteArray) (y m d : Int) (w : World) (hg : w.cell? ⟨0, 0, none⟩ = some asHandle) (h : s.size = 29) (c10 : ((s[10]'(by omega)).toNat : Int) = 84) (c13 : ((s[13]'(by omega)).toNat : Int) = 58) (c16 : ((s[16]'(by omega)).toNat : Int) = 58) (c19 : ((s[19]'(by omega)).toNat : Int) = 46) (hp : IsParse (s.extract 0 10) y m d 0) (ht : TimeOK (Dig.numS (-1) (s.extract 11 13)) (Dig.numS (-1) (s.extract 14 16)) (Dig.numS (-1) (s.extract 17 19))) (hsb : 0 ≤ secF (Dig.numS (-1) (s.extract 11 13)) (Dig.numS (-1) (s.extract 14 16)) (Dig.numS (-1) (s.extract 17 19))) (hn : (Dig.numS (-1) (s.extract 20 29)) < 0) : Calls Tryd.prog 46 #[.string s] w fun e w' => e = .returned (.tuple #[.int .i64 0, .int .i64 0, .int .i64 0, .int .i64 3]) ∧ Below w.heap.size w w' := by
  have hH := Held.start hg
  have b0 := Dig.numS_bd (-1) (s.extract 11 13) (by omega) (by simp [ByteArray.size_extract]; try omega)
  have b1 := Dig.numS_bd (-1) (s.extract 14 16) (by omega) (by simp [ByteArray.size_extract]; try omega)
  have b2 := Dig.numS_bd (-1) (s.extract 17 19) (by omega) (by simp [ByteArray.size_extract]; try omega)
  have b3 := Dig.numS_bd (-1) (s.extract 20 29) (by omega) (by simp [ByteArray.size_extract]; try omega)
  go_enter Tryd.func46, Tryd.ntmps46
  go_wp2_with (fail)
  go_at_call 32
  (with_reducible refine (rparse_f (s.extract 0 10) y m d 0 _ (Held.handle (w0 := w) (by repeat (first | assumption | refine Held.alloc ?_ _ | refine Held.drew ?_))) (by simp [ByteArray.size_extract]; try omega) hp).mono ?_)
  rintro e w1 ⟨rfl, HB⟩
  obtain ⟨hc1, hf1⟩ := bcell HB
  obtain ⟨hd1, hh1⟩ := bcell2 (U := w) (by repeat (first | exact Below.refl _ _ | refine Below.setCell ?_ (by simp <;> omega) _ | refine Below.alloc ?_ (by simp <;> omega) _ | refine Below.drew ?_)) HB
  have hz1 := HB.size
  try simp at hz1
  (try (have z1w0 : w.heap.size < w1.heap.size := (by omega)))
  have hH1 := Held.step (w0 := w) (by repeat (first | assumption | refine Held.alloc ?_ _ | refine Held.drew ?_)) HB
  clear HB
  go_wp2_with (fail)
  have hS0 : SRP w (w1.heap.size) (.int .i64 y) (.int .i64 m) (.int .i64 d) (w1.alloc (.cells #[.int .i64 y, .int .i64 m, .int .i64 d] 23)) := ⟨Held.alloc hH1 _, ⟨by simp <;> omega, by go_simp, by go_simp, by go_simp⟩⟩
  go_region_held3 (fun wx => SRP w (w1.heap.size) (.int .i64 y) (.int .i64 m) (.int .i64 d) wx) (first | assumption | exact SRP.drew (by assumption)) (first | (go_at_call 88; (with_reducible refine (digits_r _ _ (by simp [ByteArray.size_extract]; try omega)).mono ?_); rintro e w' ⟨rfl, rfl⟩) | (go_at_call 38; (with_reducible refine (rsec_ok _ _ _ _ (by omega) (by omega) (by omega) ht).mono ?_); rintro e w' ⟨rfl, hb'⟩; have hS' := SRP.step (by assumption) hb'; clear hb'))
  all_goals obtain ⟨_, ⟨l0, c00, c01, c02⟩⟩ := id (by assumption : SRP w _ _ _ _ _)
  all_goals go_wp2_with (first | (go_at_call 88; (with_reducible refine (digits_r _ _ (by simp [ByteArray.size_extract]; try omega)).mono ?_); rintro e w' ⟨rfl, rfl⟩))
  all_goals refine bodyPost_ret (v := .tuple #[.int .i64 0, .int .i64 0, .int .i64 0, .int .i64 3]) (by first | (simp [results, Tryd.results46, go_sem]; done) | (simp only [results, Tryd.results46]; go_simp; done)) rfl ⟨rfl, Held.below (w0 := w) (And.left (by assumption))⟩
set_option maxRecDepth 100000 in
set_option maxHeartbeats 8000000 in
theorem rdparse_ok (s : ByteArray) (y m d : Int) (w : World) (hg : w.cell? ⟨0, 0, none⟩ = some asHandle) (h : s.size = 29) (c10 : ((s[10]'(by omega)).toNat : Int) = 84) (c13 : ((s[13]'(by omega)).toNat : Int) = 58) (c16 : ((s[16]'(by omega)).toNat : Int) = 58) (c19 : ((s[19]'(by omega)).toNat : Int) = 46) (hp : IsParse (s.extract 0 10) y m d 0) (ht : TimeOK (Dig.numS (-1) (s.extract 11 13)) (Dig.numS (-1) (s.extract 14 16)) (Dig.numS (-1) (s.extract 17 19))) (hsb : 0 ≤ secF (Dig.numS (-1) (s.extract 11 13)) (Dig.numS (-1) (s.extract 14 16)) (Dig.numS (-1) (s.extract 17 19))) (hn : 0 ≤ (Dig.numS (-1) (s.extract 20 29))) (hM : Cal.may y m d) : Calls Tryd.prog 46 #[.string s] w fun e w' => e = .returned (.tuple #[.int .i64 (Cal.num y m d), .int .i64 (secF (Dig.numS (-1) (s.extract 11 13)) (Dig.numS (-1) (s.extract 14 16)) (Dig.numS (-1) (s.extract 17 19))), .int .i64 (Dig.numS (-1) (s.extract 20 29)), .int .i64 0]) ∧ Below w.heap.size w w' := by
  have hH := Held.start hg
  have b0 := Dig.numS_bd (-1) (s.extract 11 13) (by omega) (by simp [ByteArray.size_extract]; try omega)
  have b1 := Dig.numS_bd (-1) (s.extract 14 16) (by omega) (by simp [ByteArray.size_extract]; try omega)
  have b2 := Dig.numS_bd (-1) (s.extract 17 19) (by omega) (by simp [ByteArray.size_extract]; try omega)
  have b3 := Dig.numS_bd (-1) (s.extract 20 29) (by omega) (by simp [ByteArray.size_extract]; try omega)
  go_enter Tryd.func46, Tryd.ntmps46
  go_wp2_with (fail)
  go_at_call 32
  (with_reducible refine (rparse_f (s.extract 0 10) y m d 0 _ (Held.handle (w0 := w) (by repeat (first | assumption | refine Held.alloc ?_ _ | refine Held.drew ?_))) (by simp [ByteArray.size_extract]; try omega) hp).mono ?_)
  rintro e w1 ⟨rfl, HB⟩
  obtain ⟨hc1, hf1⟩ := bcell HB
  obtain ⟨hd1, hh1⟩ := bcell2 (U := w) (by repeat (first | exact Below.refl _ _ | refine Below.setCell ?_ (by simp <;> omega) _ | refine Below.alloc ?_ (by simp <;> omega) _ | refine Below.drew ?_)) HB
  have hz1 := HB.size
  try simp at hz1
  (try (have z1w0 : w.heap.size < w1.heap.size := (by omega)))
  have hH1 := Held.step (w0 := w) (by repeat (first | assumption | refine Held.alloc ?_ _ | refine Held.drew ?_)) HB
  clear HB
  go_wp2_with (fail)
  have hS0 : SRP w (w1.heap.size) (.int .i64 y) (.int .i64 m) (.int .i64 d) (w1.alloc (.cells #[.int .i64 y, .int .i64 m, .int .i64 d] 23)) := ⟨Held.alloc hH1 _, ⟨by simp <;> omega, by go_simp, by go_simp, by go_simp⟩⟩
  go_region_held3 (fun wx => SRP w (w1.heap.size) (.int .i64 y) (.int .i64 m) (.int .i64 d) wx) (first | assumption | exact SRP.drew (by assumption)) (first | (go_at_call 88; (with_reducible refine (digits_r _ _ (by simp [ByteArray.size_extract]; try omega)).mono ?_); rintro e w' ⟨rfl, rfl⟩) | (go_at_call 38; (with_reducible refine (rsec_ok _ _ _ _ (by omega) (by omega) (by omega) ht).mono ?_); rintro e w' ⟨rfl, hb'⟩; have hS' := SRP.step (by assumption) hb'; clear hb'))
  all_goals obtain ⟨_, ⟨l0, c00, c01, c02⟩⟩ := id (by assumption : SRP w _ _ _ _ _)
  all_goals go_wp2_with (first | (go_at_call 88; (with_reducible refine (digits_r _ _ (by simp [ByteArray.size_extract]; try omega)).mono ?_); rintro e w' ⟨rfl, rfl⟩) | (go_at_call 28; (with_reducible refine (rdays_c _ _ _ _ (Held.handle (w0 := w) (And.left (by assumption))) hM).mono ?_); rintro e w' ⟨rfl, hb'⟩; have hS' := SRP.step (by assumption) hb'; clear hb'))
  all_goals refine bodyPost_ret (v := .tuple #[.int .i64 (Cal.num y m d), .int .i64 (secF (Dig.numS (-1) (s.extract 11 13)) (Dig.numS (-1) (s.extract 14 16)) (Dig.numS (-1) (s.extract 17 19))), .int .i64 (Dig.numS (-1) (s.extract 20 29)), .int .i64 0]) (by first | (simp [results, Tryd.results46, go_sem]; done) | (simp only [results, Tryd.results46]; go_simp; done)) rfl ⟨rfl, Held.below (w0 := w) (And.left (by assumption))⟩
end Go.Proofs.YtengchkiejpglaaDoor
