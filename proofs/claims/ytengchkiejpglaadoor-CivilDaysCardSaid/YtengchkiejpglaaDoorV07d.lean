/-
  Layer 7: the statement CivilDays, d.
-/
import Derived.Test.YtengchkiejpglaaDoorV07
import Derived.Deep.RegionHeld3
namespace Go.Proofs.YtengchkiejpglaaDoor
open Go.RowKit Go.Extern.Stop Go.Stop Go.Extern
set_option linter.unusedVariables false
set_option linter.unusedSimpArgs false
/-- A block of so many cells is there, and holds these. -/
abbrev B1 (b : Nat) (x : Value) (wx : World) : Prop := b < wx.heap.size ∧ wx.cell? ⟨b, 0, none⟩ = some x
abbrev B2 (b : Nat) (x y : Value) (wx : World) : Prop := b < wx.heap.size ∧ wx.cell? ⟨b, 0, none⟩ = some x ∧ wx.cell? ⟨b, 1, none⟩ = some y
abbrev B3 (b : Nat) (x y z : Value) (wx : World) : Prop := b < wx.heap.size ∧ wx.cell? ⟨b, 0, none⟩ = some x ∧ wx.cell? ⟨b, 1, none⟩ = some y ∧ wx.cell? ⟨b, 2, none⟩ = some z
theorem B1.step {b : Nat} {x : Value} {wx w' : World} (h : B1 b x wx) (hb : Below wx.heap.size wx w') : B1 b x w' :=
  ⟨Nat.lt_of_lt_of_le h.1 hb.size, by rw [hb.cell (p := ⟨b, 0, none⟩) h.1]; exact h.2⟩
theorem B2.step {b : Nat} {x y : Value} {wx w' : World} (h : B2 b x y wx) (hb : Below wx.heap.size wx w') : B2 b x y w' :=
  ⟨Nat.lt_of_lt_of_le h.1 hb.size, by rw [hb.cell (p := ⟨b, 0, none⟩) h.1]; exact h.2.1, by rw [hb.cell (p := ⟨b, 1, none⟩) h.1]; exact h.2.2⟩
theorem B3.step {b : Nat} {x y z : Value} {wx w' : World} (h : B3 b x y z wx) (hb : Below wx.heap.size wx w') : B3 b x y z w' :=
  ⟨Nat.lt_of_lt_of_le h.1 hb.size, by rw [hb.cell (p := ⟨b, 0, none⟩) h.1]; exact h.2.1, by rw [hb.cell (p := ⟨b, 1, none⟩) h.1]; exact h.2.2.1, by rw [hb.cell (p := ⟨b, 2, none⟩) h.1]; exact h.2.2.2⟩
abbrev SCD (w : World) (b0 : Nat) (v00 v01 v02 : Value) (b1 : Nat) (v10 v11 v12 : Value) (b2 : Nat) (v20 v21 v22 : Value) (wx : World) : Prop := Held w wx ∧ B3 b0 v00 v01 v02 wx ∧ B3 b1 v10 v11 v12 wx ∧ B3 b2 v20 v21 v22 wx
theorem SCD.step {w : World} {b0 : Nat} {v00 v01 v02 : Value} {b1 : Nat} {v10 v11 v12 : Value} {b2 : Nat} {v20 v21 v22 : Value} {wx w' : World} (h : SCD w b0 v00 v01 v02 b1 v10 v11 v12 b2 v20 v21 v22 wx) (hb : Below wx.heap.size wx w') : SCD w b0 v00 v01 v02 b1 v10 v11 v12 b2 v20 v21 v22 w' := ⟨(h.1).step hb, (h.2.1).step hb, (h.2.2.1).step hb, (h.2.2.2).step hb⟩
theorem SCD.drew {w : World} {b0 : Nat} {v00 v01 v02 : Value} {b1 : Nat} {v10 v11 v12 : Value} {b2 : Nat} {v20 v21 v22 : Value} {wx : World} (h : SCD w b0 v00 v01 v02 b1 v10 v11 v12 b2 v20 v21 v22 wx) : SCD w b0 v00 v01 v02 b1 v10 v11 v12 b2 v20 v21 v22 wx.drew := h.step (Below.refl _ _).drew
set_option maxRecDepth 100000 in
set_option maxHeartbeats 8000000 in
theorem cdays_far (y m d n : Int) (hy : InR y) (hm : InR m) (hd : InR d) (hn : InR n) (hM : Cal.may y m d) (hf : 2600 < y) (w : World) (hg : w.cell? ⟨0, 0, none⟩ = some asHandle) (ht : Tab w) :
    Calls Tryd.prog 3 #[.agg #[.int .i64 y, .int .i64 m, .int .i64 d], .int .i64 n] w fun e w' => e = .returned (.bool true) ∧ Below w.heap.size w w' := by
  have hH := Held.start hg
  go_enter Tryd.func3, Tryd.ntmps3
  go_wp2_with (first | (go_at_call 18; (with_reducible refine (rmay_ok _ _ _ _ (Held.handle (w0 := w) (by repeat (first | assumption | refine Held.alloc ?_ _ | refine Held.drew ?_))) hy hm hd hM).mono ?_); rintro e w' ⟨rfl, hb'⟩; obtain ⟨hc, hf⟩ := bcell hb'; have hz := hb'.size; (try (simp at hz)); have hH' := Held.step (w0 := w) (by repeat (first | assumption | refine Held.alloc ?_ _ | refine Held.drew ?_)) hb'; clear hb') | (go_at_call 19; (with_reducible refine (sure07 _ (Held.handle (w0 := w) (by repeat (first | assumption | refine Held.alloc ?_ _ | refine Held.drew ?_))) (ht.below (Held.below (w0 := w) (by repeat (first | assumption | refine Held.alloc ?_ _ | refine Held.drew ?_))))).mono ?_); rintro e w' ⟨rfl, hb'⟩; obtain ⟨hc, hf⟩ := bcell hb'; have hz := hb'.size; (try (simp at hz)); have hH' := Held.step (w0 := w) (by repeat (first | assumption | refine Held.alloc ?_ _ | refine Held.drew ?_)) hb'; clear hb'))
  go_ret
  exact ⟨rfl, Held.below (w0 := w) (by assumption)⟩
set_option maxRecDepth 100000 in
set_option maxHeartbeats 8000000 in
theorem cdays_may_lo (y m d n : Int) (hy : InR y) (hm : InR m) (hd : InR d) (hn : InR n) (hM : Cal.may y m d) (hf : y ≤ 2600) (oy om od ok : Int) (hof : IsOf n oy om od ok) (ob1 : InR oy) (ob2 : InR om) (ob3 : InR od) (hlo : n ≤ 300000) (w : World) (hg : w.cell? ⟨0, 0, none⟩ = some asHandle) (ht : Tab w) :
    Calls Tryd.prog 3 #[.agg #[.int .i64 y, .int .i64 m, .int .i64 d], .int .i64 n] w fun e w' => e = .returned (.bool true) ∧ Below w.heap.size w w' := by
  have hH := Held.start hg
  go_enter Tryd.func3, Tryd.ntmps3
  go_wp2_with (fail)
  go_at_call 20
  (with_reducible refine (days_ok _ _ _ _ hy hm hd hM).mono ?_)
  rintro e w1 ⟨rfl, HB⟩
  obtain ⟨hc1, hf1⟩ := bcell HB
  obtain ⟨hd1, hh1⟩ := bcell2 (U := w) (by repeat (first | exact Below.refl _ _ | refine Below.setCell ?_ (by simp <;> omega) _ | refine Below.alloc ?_ (by simp <;> omega) _ | refine Below.drew ?_)) HB
  have hz1 := HB.size
  try simp at hz1
  (try (have z1w0 : w.heap.size < w1.heap.size := (by omega)))
  (try (have z1w1 : w.heap.size + 1 < w1.heap.size := (by omega)))
  (try (have z1w2 : w.heap.size + 1 + 1 < w1.heap.size := (by omega)))
  (try (have z1w3 : w.heap.size + 1 + 1 + 1 < w1.heap.size := (by omega)))
  have hH1 := Held.step (w0 := w) (by repeat (first | assumption | refine Held.alloc ?_ _ | refine Held.drew ?_)) HB
  clear HB
  go_wp2_with (fail)
  go_at_call 21
  (with_reducible refine (of_f _ oy om od ok _ hn hof).mono ?_)
  rintro e w2 ⟨rfl, HB⟩
  obtain ⟨hc2, hf2⟩ := bcell HB
  obtain ⟨hd2, hh2⟩ := bcell2 (U := w1) (by repeat (first | exact Below.refl _ _ | refine Below.setCell ?_ (by simp <;> omega) _ | refine Below.alloc ?_ (by simp <;> omega) _ | refine Below.drew ?_)) HB
  have hz2 := HB.size
  try simp at hz2
  (try (have z2w0 : w.heap.size < w2.heap.size := (by omega)))
  (try (have z2w1 : w.heap.size + 1 < w2.heap.size := (by omega)))
  (try (have z2w2 : w.heap.size + 1 + 1 < w2.heap.size := (by omega)))
  (try (have z2w3 : w.heap.size + 1 + 1 + 1 < w2.heap.size := (by omega)))
  (try (have z2w10 : w1.heap.size < w2.heap.size := (by omega)))
  (try (have z2w11 : w1.heap.size + 1 < w2.heap.size := (by omega)))
  (try (have z2w12 : w1.heap.size + 1 + 1 < w2.heap.size := (by omega)))
  (try (have z2w13 : w1.heap.size + 1 + 1 + 1 < w2.heap.size := (by omega)))
  have hH2 := Held.step (w0 := w) (by repeat (first | assumption | refine Held.alloc ?_ _ | refine Held.drew ?_)) HB
  clear HB
  go_wp2_with (fail)
  have hS0 : SCD w (w.heap.size) (.int .i64 y) (.int .i64 m) (.int .i64 d) (w.heap.size + 1) (.int .i64 y) (.int .i64 m) (.int .i64 d) (w2.heap.size) (.int .i64 oy) (.int .i64 om) (.int .i64 od) (w2.alloc (.cells #[.int .i64 oy, .int .i64 om, .int .i64 od] 26)) := ⟨Held.alloc hH2 _, ⟨by simp <;> omega, by go_simp, by go_simp, by go_simp⟩, ⟨by simp <;> omega, by go_simp, by go_simp, by go_simp⟩, ⟨by simp <;> omega, by go_simp, by go_simp, by go_simp⟩⟩
  go_region_held3 (fun wx => SCD w (w.heap.size) (.int .i64 y) (.int .i64 m) (.int .i64 d) (w.heap.size + 1) (.int .i64 y) (.int .i64 m) (.int .i64 d) (w2.heap.size) (.int .i64 oy) (.int .i64 om) (.int .i64 od) wx) (first | assumption | exact SCD.drew (by assumption)) (first | (go_at_call 24; (with_reducible refine (leap_c _ _ (by omega)).mono ?_); rintro e w' ⟨rfl, rfl⟩) | (go_at_call 25; (with_reducible refine (rleap_c _ _ (by omega)).mono ?_); rintro e w' ⟨rfl, rfl⟩) | (go_at_call 22; (with_reducible refine (month_c _ _ _ (by omega) (by omega)).mono ?_); rintro e w' ⟨rfl, rfl⟩) | (go_at_call 23; (with_reducible refine (rmonth_c _ _ _ (by omega) (by omega)).mono ?_); rintro e w' ⟨rfl, hb'⟩; have hS' := SCD.step (by assumption) hb'; clear hb') | (go_at_call 26; (with_reducible refine (check_ok _ _ _ _ hy hm hd hM).mono ?_); rintro e w' ⟨rfl, hb'⟩; have hS' := SCD.step (by assumption) hb'; clear hb') | (go_at_call 18; (with_reducible refine (rmay_ok _ _ _ _ (Held.handle (w0 := w) (by first | exact And.left (by assumption) | exact Held.alloc (And.left (by assumption)) _)) hy hm hd hM).mono ?_); rintro e w' ⟨rfl, hb'⟩; have hS' := SCD.step (by assumption) hb'; clear hb'))
  all_goals obtain ⟨_, ⟨l0, c00, c01, c02⟩, ⟨l1, c10, c11, c12⟩, ⟨l2, c20, c21, c22⟩⟩ := id (by assumption : SCD w _ _ _ _ _ _ _ _ _ _ _ _ _)
  all_goals go_wp2_with (first | (go_at_call 18; (with_reducible refine (rmay_ok _ _ _ _ (Held.handle (w0 := w) (by first | exact And.left (by assumption) | exact Held.alloc (And.left (by assumption)) _)) hy hm hd hM).mono ?_); rintro e w' ⟨rfl, hb'⟩; have hS' := SCD.step (by first | assumption | exact SCD.step (by assumption) ((Below.refl _ _).alloc (Nat.le_refl _) _)) hb'; clear hb'; obtain ⟨_, ⟨l0, c00, c01, c02⟩, ⟨l1, c10, c11, c12⟩, ⟨l2, c20, c21, c22⟩⟩ := id hS') | (go_at_call 27; (with_reducible refine (num07_any _ _ (Held.handle (w0 := w) (by first | exact And.left (by assumption) | exact Held.alloc (And.left (by assumption)) _))).mono ?_); rintro e w' ⟨rfl, hb'⟩; have hS' := SCD.step (by first | assumption | exact SCD.step (by assumption) ((Below.refl _ _).alloc (Nat.le_refl _) _)) hb'; clear hb'; obtain ⟨_, ⟨l0, c00, c01, c02⟩, ⟨l1, c10, c11, c12⟩, ⟨l2, c20, c21, c22⟩⟩ := id hS') | (go_at_call 27; (with_reducible refine (num07_nil _).mono ?_); rintro e w' ⟨rfl, hb'⟩; have hS' := SCD.step (by first | assumption | exact SCD.step (by assumption) ((Below.refl _ _).alloc (Nat.le_refl _) _)) hb'; clear hb'; obtain ⟨_, ⟨l0, c00, c01, c02⟩, ⟨l1, c10, c11, c12⟩, ⟨l2, c20, c21, c22⟩⟩ := id hS') | (go_at_call 27; (with_reducible refine (num07_err _ _ (Held.handle (w0 := w) (by first | exact And.left (by assumption) | exact Held.alloc (And.left (by assumption)) _))).mono ?_); rintro e w' ⟨rfl, hb'⟩; have hS' := SCD.step (by first | assumption | exact SCD.step (by assumption) ((Below.refl _ _).alloc (Nat.le_refl _) _)) hb'; clear hb'; obtain ⟨_, ⟨l0, c00, c01, c02⟩, ⟨l1, c10, c11, c12⟩, ⟨l2, c20, c21, c22⟩⟩ := id hS') | (go_at_call 19; (with_reducible refine (sure07 _ (Held.handle (w0 := w) (by first | exact And.left (by assumption) | exact Held.alloc (And.left (by assumption)) _)) (ht.below (Held.below (w0 := w) (by first | exact And.left (by assumption) | exact Held.alloc (And.left (by assumption)) _)))).mono ?_); rintro e w' ⟨rfl, hb'⟩; have hS' := SCD.step (by first | assumption | exact SCD.step (by assumption) ((Below.refl _ _).alloc (Nat.le_refl _) _)) hb'; clear hb'; obtain ⟨_, ⟨l0, c00, c01, c02⟩, ⟨l1, c10, c11, c12⟩, ⟨l2, c20, c21, c22⟩⟩ := id hS') | (go_at_call 28; (with_reducible refine (rdays_c _ _ _ _ (Held.handle (w0 := w) (by first | exact And.left (by assumption) | exact Held.alloc (And.left (by assumption)) _)) hM).mono ?_); rintro e w' ⟨rfl, hb'⟩; have hS' := SCD.step (by first | assumption | exact SCD.step (by assumption) ((Below.refl _ _).alloc (Nat.le_refl _) _)) hb'; clear hb'; obtain ⟨_, ⟨l0, c00, c01, c02⟩, ⟨l1, c10, c11, c12⟩, ⟨l2, c20, c21, c22⟩⟩ := id hS') | (go_at_call 29; (with_reducible refine (rof_f _ oy om od ok _ hn hof).mono ?_); rintro e w' ⟨rfl, hb'⟩; have hS' := SCD.step (by first | assumption | exact SCD.step (by assumption) ((Below.refl _ _).alloc (Nat.le_refl _) _)) hb'; clear hb'; obtain ⟨_, ⟨l0, c00, c01, c02⟩, ⟨l1, c10, c11, c12⟩, ⟨l2, c20, c21, c22⟩⟩ := id hS'))
  all_goals go_ret
  all_goals exact ⟨rfl, Held.below (w0 := w) (And.left (by assumption))⟩
set_option maxRecDepth 100000 in
set_option maxHeartbeats 8000000 in
theorem cdays_may_hi (y m d n : Int) (hy : InR y) (hm : InR m) (hd : InR d) (hn : InR n) (hM : Cal.may y m d) (hf : y ≤ 2600) (oy om od ok : Int) (hof : IsOf n oy om od ok) (ob1 : InR oy) (ob2 : InR om) (ob3 : InR od) (hhi : 2932896 < n) (w : World) (hg : w.cell? ⟨0, 0, none⟩ = some asHandle) (ht : Tab w) :
    Calls Tryd.prog 3 #[.agg #[.int .i64 y, .int .i64 m, .int .i64 d], .int .i64 n] w fun e w' => e = .returned (.bool true) ∧ Below w.heap.size w w' := by
  have hH := Held.start hg
  go_enter Tryd.func3, Tryd.ntmps3
  go_wp2_with (fail)
  go_at_call 20
  (with_reducible refine (days_ok _ _ _ _ hy hm hd hM).mono ?_)
  rintro e w1 ⟨rfl, HB⟩
  obtain ⟨hc1, hf1⟩ := bcell HB
  obtain ⟨hd1, hh1⟩ := bcell2 (U := w) (by repeat (first | exact Below.refl _ _ | refine Below.setCell ?_ (by simp <;> omega) _ | refine Below.alloc ?_ (by simp <;> omega) _ | refine Below.drew ?_)) HB
  have hz1 := HB.size
  try simp at hz1
  (try (have z1w0 : w.heap.size < w1.heap.size := (by omega)))
  (try (have z1w1 : w.heap.size + 1 < w1.heap.size := (by omega)))
  (try (have z1w2 : w.heap.size + 1 + 1 < w1.heap.size := (by omega)))
  (try (have z1w3 : w.heap.size + 1 + 1 + 1 < w1.heap.size := (by omega)))
  have hH1 := Held.step (w0 := w) (by repeat (first | assumption | refine Held.alloc ?_ _ | refine Held.drew ?_)) HB
  clear HB
  go_wp2_with (fail)
  go_at_call 21
  (with_reducible refine (of_f _ oy om od ok _ hn hof).mono ?_)
  rintro e w2 ⟨rfl, HB⟩
  obtain ⟨hc2, hf2⟩ := bcell HB
  obtain ⟨hd2, hh2⟩ := bcell2 (U := w1) (by repeat (first | exact Below.refl _ _ | refine Below.setCell ?_ (by simp <;> omega) _ | refine Below.alloc ?_ (by simp <;> omega) _ | refine Below.drew ?_)) HB
  have hz2 := HB.size
  try simp at hz2
  (try (have z2w0 : w.heap.size < w2.heap.size := (by omega)))
  (try (have z2w1 : w.heap.size + 1 < w2.heap.size := (by omega)))
  (try (have z2w2 : w.heap.size + 1 + 1 < w2.heap.size := (by omega)))
  (try (have z2w3 : w.heap.size + 1 + 1 + 1 < w2.heap.size := (by omega)))
  (try (have z2w10 : w1.heap.size < w2.heap.size := (by omega)))
  (try (have z2w11 : w1.heap.size + 1 < w2.heap.size := (by omega)))
  (try (have z2w12 : w1.heap.size + 1 + 1 < w2.heap.size := (by omega)))
  (try (have z2w13 : w1.heap.size + 1 + 1 + 1 < w2.heap.size := (by omega)))
  have hH2 := Held.step (w0 := w) (by repeat (first | assumption | refine Held.alloc ?_ _ | refine Held.drew ?_)) HB
  clear HB
  go_wp2_with (fail)
  have hS0 : SCD w (w.heap.size) (.int .i64 y) (.int .i64 m) (.int .i64 d) (w.heap.size + 1) (.int .i64 y) (.int .i64 m) (.int .i64 d) (w2.heap.size) (.int .i64 oy) (.int .i64 om) (.int .i64 od) (w2.alloc (.cells #[.int .i64 oy, .int .i64 om, .int .i64 od] 26)) := ⟨Held.alloc hH2 _, ⟨by simp <;> omega, by go_simp, by go_simp, by go_simp⟩, ⟨by simp <;> omega, by go_simp, by go_simp, by go_simp⟩, ⟨by simp <;> omega, by go_simp, by go_simp, by go_simp⟩⟩
  go_region_held3 (fun wx => SCD w (w.heap.size) (.int .i64 y) (.int .i64 m) (.int .i64 d) (w.heap.size + 1) (.int .i64 y) (.int .i64 m) (.int .i64 d) (w2.heap.size) (.int .i64 oy) (.int .i64 om) (.int .i64 od) wx) (first | assumption | exact SCD.drew (by assumption)) (first | (go_at_call 24; (with_reducible refine (leap_c _ _ (by omega)).mono ?_); rintro e w' ⟨rfl, rfl⟩) | (go_at_call 25; (with_reducible refine (rleap_c _ _ (by omega)).mono ?_); rintro e w' ⟨rfl, rfl⟩) | (go_at_call 22; (with_reducible refine (month_c _ _ _ (by omega) (by omega)).mono ?_); rintro e w' ⟨rfl, rfl⟩) | (go_at_call 23; (with_reducible refine (rmonth_c _ _ _ (by omega) (by omega)).mono ?_); rintro e w' ⟨rfl, hb'⟩; have hS' := SCD.step (by assumption) hb'; clear hb') | (go_at_call 26; (with_reducible refine (check_ok _ _ _ _ hy hm hd hM).mono ?_); rintro e w' ⟨rfl, hb'⟩; have hS' := SCD.step (by assumption) hb'; clear hb') | (go_at_call 18; (with_reducible refine (rmay_ok _ _ _ _ (Held.handle (w0 := w) (by first | exact And.left (by assumption) | exact Held.alloc (And.left (by assumption)) _)) hy hm hd hM).mono ?_); rintro e w' ⟨rfl, hb'⟩; have hS' := SCD.step (by assumption) hb'; clear hb'))
  all_goals obtain ⟨_, ⟨l0, c00, c01, c02⟩, ⟨l1, c10, c11, c12⟩, ⟨l2, c20, c21, c22⟩⟩ := id (by assumption : SCD w _ _ _ _ _ _ _ _ _ _ _ _ _)
  all_goals go_wp2_with (first | (go_at_call 18; (with_reducible refine (rmay_ok _ _ _ _ (Held.handle (w0 := w) (by first | exact And.left (by assumption) | exact Held.alloc (And.left (by assumption)) _)) hy hm hd hM).mono ?_); rintro e w' ⟨rfl, hb'⟩; have hS' := SCD.step (by first | assumption | exact SCD.step (by assumption) ((Below.refl _ _).alloc (Nat.le_refl _) _)) hb'; clear hb'; obtain ⟨_, ⟨l0, c00, c01, c02⟩, ⟨l1, c10, c11, c12⟩, ⟨l2, c20, c21, c22⟩⟩ := id hS') | (go_at_call 27; (with_reducible refine (num07_any _ _ (Held.handle (w0 := w) (by first | exact And.left (by assumption) | exact Held.alloc (And.left (by assumption)) _))).mono ?_); rintro e w' ⟨rfl, hb'⟩; have hS' := SCD.step (by first | assumption | exact SCD.step (by assumption) ((Below.refl _ _).alloc (Nat.le_refl _) _)) hb'; clear hb'; obtain ⟨_, ⟨l0, c00, c01, c02⟩, ⟨l1, c10, c11, c12⟩, ⟨l2, c20, c21, c22⟩⟩ := id hS') | (go_at_call 27; (with_reducible refine (num07_nil _).mono ?_); rintro e w' ⟨rfl, hb'⟩; have hS' := SCD.step (by first | assumption | exact SCD.step (by assumption) ((Below.refl _ _).alloc (Nat.le_refl _) _)) hb'; clear hb'; obtain ⟨_, ⟨l0, c00, c01, c02⟩, ⟨l1, c10, c11, c12⟩, ⟨l2, c20, c21, c22⟩⟩ := id hS') | (go_at_call 27; (with_reducible refine (num07_err _ _ (Held.handle (w0 := w) (by first | exact And.left (by assumption) | exact Held.alloc (And.left (by assumption)) _))).mono ?_); rintro e w' ⟨rfl, hb'⟩; have hS' := SCD.step (by first | assumption | exact SCD.step (by assumption) ((Below.refl _ _).alloc (Nat.le_refl _) _)) hb'; clear hb'; obtain ⟨_, ⟨l0, c00, c01, c02⟩, ⟨l1, c10, c11, c12⟩, ⟨l2, c20, c21, c22⟩⟩ := id hS') | (go_at_call 19; (with_reducible refine (sure07 _ (Held.handle (w0 := w) (by first | exact And.left (by assumption) | exact Held.alloc (And.left (by assumption)) _)) (ht.below (Held.below (w0 := w) (by first | exact And.left (by assumption) | exact Held.alloc (And.left (by assumption)) _)))).mono ?_); rintro e w' ⟨rfl, hb'⟩; have hS' := SCD.step (by first | assumption | exact SCD.step (by assumption) ((Below.refl _ _).alloc (Nat.le_refl _) _)) hb'; clear hb'; obtain ⟨_, ⟨l0, c00, c01, c02⟩, ⟨l1, c10, c11, c12⟩, ⟨l2, c20, c21, c22⟩⟩ := id hS') | (go_at_call 28; (with_reducible refine (rdays_c _ _ _ _ (Held.handle (w0 := w) (by first | exact And.left (by assumption) | exact Held.alloc (And.left (by assumption)) _)) hM).mono ?_); rintro e w' ⟨rfl, hb'⟩; have hS' := SCD.step (by first | assumption | exact SCD.step (by assumption) ((Below.refl _ _).alloc (Nat.le_refl _) _)) hb'; clear hb'; obtain ⟨_, ⟨l0, c00, c01, c02⟩, ⟨l1, c10, c11, c12⟩, ⟨l2, c20, c21, c22⟩⟩ := id hS') | (go_at_call 29; (with_reducible refine (rof_f _ oy om od ok _ hn hof).mono ?_); rintro e w' ⟨rfl, hb'⟩; have hS' := SCD.step (by first | assumption | exact SCD.step (by assumption) ((Below.refl _ _).alloc (Nat.le_refl _) _)) hb'; clear hb'; obtain ⟨_, ⟨l0, c00, c01, c02⟩, ⟨l1, c10, c11, c12⟩, ⟨l2, c20, c21, c22⟩⟩ := id hS'))
  all_goals go_ret
  all_goals exact ⟨rfl, Held.below (w0 := w) (And.left (by assumption))⟩
set_option maxRecDepth 100000 in
set_option maxHeartbeats 8000000 in
theorem cdays_may_mid (y m d n : Int) (hy : InR y) (hm : InR m) (hd : InR d) (hn : InR n) (hM : Cal.may y m d) (hf : y ≤ 2600) (oy om od ok : Int) (hof : IsOf n oy om od ok) (ob1 : InR oy) (ob2 : InR om) (ob3 : InR od) (hlo : 300000 < n) (hhi : n ≤ 2932896) (oM : Cal.may oy om od) (hok : errOf ok = .nilIface) (w : World) (hg : w.cell? ⟨0, 0, none⟩ = some asHandle) (ht : Tab w) :
    Calls Tryd.prog 3 #[.agg #[.int .i64 y, .int .i64 m, .int .i64 d], .int .i64 n] w fun e w' => e = .returned (.bool true) ∧ Below w.heap.size w w' := by
  have hH := Held.start hg
  go_enter Tryd.func3, Tryd.ntmps3
  go_wp2_with (fail)
  go_at_call 20
  (with_reducible refine (days_ok _ _ _ _ hy hm hd hM).mono ?_)
  rintro e w1 ⟨rfl, HB⟩
  obtain ⟨hc1, hf1⟩ := bcell HB
  obtain ⟨hd1, hh1⟩ := bcell2 (U := w) (by repeat (first | exact Below.refl _ _ | refine Below.setCell ?_ (by simp <;> omega) _ | refine Below.alloc ?_ (by simp <;> omega) _ | refine Below.drew ?_)) HB
  have hz1 := HB.size
  try simp at hz1
  (try (have z1w0 : w.heap.size < w1.heap.size := (by omega)))
  (try (have z1w1 : w.heap.size + 1 < w1.heap.size := (by omega)))
  (try (have z1w2 : w.heap.size + 1 + 1 < w1.heap.size := (by omega)))
  (try (have z1w3 : w.heap.size + 1 + 1 + 1 < w1.heap.size := (by omega)))
  have hH1 := Held.step (w0 := w) (by repeat (first | assumption | refine Held.alloc ?_ _ | refine Held.drew ?_)) HB
  clear HB
  go_wp2_with (fail)
  go_at_call 21
  (with_reducible refine (of_f _ oy om od ok _ hn hof).mono ?_)
  rintro e w2 ⟨rfl, HB⟩
  obtain ⟨hc2, hf2⟩ := bcell HB
  obtain ⟨hd2, hh2⟩ := bcell2 (U := w1) (by repeat (first | exact Below.refl _ _ | refine Below.setCell ?_ (by simp <;> omega) _ | refine Below.alloc ?_ (by simp <;> omega) _ | refine Below.drew ?_)) HB
  have hz2 := HB.size
  try simp at hz2
  (try (have z2w0 : w.heap.size < w2.heap.size := (by omega)))
  (try (have z2w1 : w.heap.size + 1 < w2.heap.size := (by omega)))
  (try (have z2w2 : w.heap.size + 1 + 1 < w2.heap.size := (by omega)))
  (try (have z2w3 : w.heap.size + 1 + 1 + 1 < w2.heap.size := (by omega)))
  (try (have z2w10 : w1.heap.size < w2.heap.size := (by omega)))
  (try (have z2w11 : w1.heap.size + 1 < w2.heap.size := (by omega)))
  (try (have z2w12 : w1.heap.size + 1 + 1 < w2.heap.size := (by omega)))
  (try (have z2w13 : w1.heap.size + 1 + 1 + 1 < w2.heap.size := (by omega)))
  have hH2 := Held.step (w0 := w) (by repeat (first | assumption | refine Held.alloc ?_ _ | refine Held.drew ?_)) HB
  clear HB
  go_wp2_with (fail)
  have hS0 : SCD w (w.heap.size) (.int .i64 y) (.int .i64 m) (.int .i64 d) (w.heap.size + 1) (.int .i64 y) (.int .i64 m) (.int .i64 d) (w2.heap.size) (.int .i64 oy) (.int .i64 om) (.int .i64 od) (w2.alloc (.cells #[.int .i64 oy, .int .i64 om, .int .i64 od] 26)) := ⟨Held.alloc hH2 _, ⟨by simp <;> omega, by go_simp, by go_simp, by go_simp⟩, ⟨by simp <;> omega, by go_simp, by go_simp, by go_simp⟩, ⟨by simp <;> omega, by go_simp, by go_simp, by go_simp⟩⟩
  go_region_held3 (fun wx => SCD w (w.heap.size) (.int .i64 y) (.int .i64 m) (.int .i64 d) (w.heap.size + 1) (.int .i64 y) (.int .i64 m) (.int .i64 d) (w2.heap.size) (.int .i64 oy) (.int .i64 om) (.int .i64 od) wx) (first | assumption | exact SCD.drew (by assumption)) (first | (go_at_call 24; (with_reducible refine (leap_c _ _ (by omega)).mono ?_); rintro e w' ⟨rfl, rfl⟩) | (go_at_call 25; (with_reducible refine (rleap_c _ _ (by omega)).mono ?_); rintro e w' ⟨rfl, rfl⟩) | (go_at_call 22; (with_reducible refine (month_c _ _ _ (by omega) (by omega)).mono ?_); rintro e w' ⟨rfl, rfl⟩) | (go_at_call 23; (with_reducible refine (rmonth_c _ _ _ (by omega) (by omega)).mono ?_); rintro e w' ⟨rfl, hb'⟩; have hS' := SCD.step (by assumption) hb'; clear hb') | (go_at_call 26; (with_reducible refine (check_ok _ _ _ _ hy hm hd hM).mono ?_); rintro e w' ⟨rfl, hb'⟩; have hS' := SCD.step (by assumption) hb'; clear hb') | (go_at_call 18; (with_reducible refine (rmay_ok _ _ _ _ (Held.handle (w0 := w) (by first | exact And.left (by assumption) | exact Held.alloc (And.left (by assumption)) _)) hy hm hd hM).mono ?_); rintro e w' ⟨rfl, hb'⟩; have hS' := SCD.step (by assumption) hb'; clear hb'))
  all_goals obtain ⟨_, ⟨l0, c00, c01, c02⟩, ⟨l1, c10, c11, c12⟩, ⟨l2, c20, c21, c22⟩⟩ := id (by assumption : SCD w _ _ _ _ _ _ _ _ _ _ _ _ _)
  all_goals go_wp2_with (first | (go_at_call 18; (with_reducible refine (rmay_ok _ _ _ _ (Held.handle (w0 := w) (by first | exact And.left (by assumption) | exact Held.alloc (And.left (by assumption)) _)) hy hm hd hM).mono ?_); rintro e w' ⟨rfl, hb'⟩; have hS' := SCD.step (by first | assumption | exact SCD.step (by assumption) ((Below.refl _ _).alloc (Nat.le_refl _) _)) hb'; clear hb'; obtain ⟨_, ⟨l0, c00, c01, c02⟩, ⟨l1, c10, c11, c12⟩, ⟨l2, c20, c21, c22⟩⟩ := id hS') | (go_at_call 27; (with_reducible refine (num07_any _ _ (Held.handle (w0 := w) (by first | exact And.left (by assumption) | exact Held.alloc (And.left (by assumption)) _))).mono ?_); rintro e w' ⟨rfl, hb'⟩; have hS' := SCD.step (by first | assumption | exact SCD.step (by assumption) ((Below.refl _ _).alloc (Nat.le_refl _) _)) hb'; clear hb'; obtain ⟨_, ⟨l0, c00, c01, c02⟩, ⟨l1, c10, c11, c12⟩, ⟨l2, c20, c21, c22⟩⟩ := id hS') | (go_at_call 27; (with_reducible refine (num07_nil _).mono ?_); rintro e w' ⟨rfl, hb'⟩; have hS' := SCD.step (by first | assumption | exact SCD.step (by assumption) ((Below.refl _ _).alloc (Nat.le_refl _) _)) hb'; clear hb'; obtain ⟨_, ⟨l0, c00, c01, c02⟩, ⟨l1, c10, c11, c12⟩, ⟨l2, c20, c21, c22⟩⟩ := id hS') | (go_at_call 27; (with_reducible refine (num07_err _ _ (Held.handle (w0 := w) (by first | exact And.left (by assumption) | exact Held.alloc (And.left (by assumption)) _))).mono ?_); rintro e w' ⟨rfl, hb'⟩; have hS' := SCD.step (by first | assumption | exact SCD.step (by assumption) ((Below.refl _ _).alloc (Nat.le_refl _) _)) hb'; clear hb'; obtain ⟨_, ⟨l0, c00, c01, c02⟩, ⟨l1, c10, c11, c12⟩, ⟨l2, c20, c21, c22⟩⟩ := id hS') | (go_at_call 19; (with_reducible refine (sure07 _ (Held.handle (w0 := w) (by first | exact And.left (by assumption) | exact Held.alloc (And.left (by assumption)) _)) (ht.below (Held.below (w0 := w) (by first | exact And.left (by assumption) | exact Held.alloc (And.left (by assumption)) _)))).mono ?_); rintro e w' ⟨rfl, hb'⟩; have hS' := SCD.step (by first | assumption | exact SCD.step (by assumption) ((Below.refl _ _).alloc (Nat.le_refl _) _)) hb'; clear hb'; obtain ⟨_, ⟨l0, c00, c01, c02⟩, ⟨l1, c10, c11, c12⟩, ⟨l2, c20, c21, c22⟩⟩ := id hS') | (go_at_call 28; (with_reducible refine (rdays_c _ _ _ _ (Held.handle (w0 := w) (by first | exact And.left (by assumption) | exact Held.alloc (And.left (by assumption)) _)) hM).mono ?_); rintro e w' ⟨rfl, hb'⟩; have hS' := SCD.step (by first | assumption | exact SCD.step (by assumption) ((Below.refl _ _).alloc (Nat.le_refl _) _)) hb'; clear hb'; obtain ⟨_, ⟨l0, c00, c01, c02⟩, ⟨l1, c10, c11, c12⟩, ⟨l2, c20, c21, c22⟩⟩ := id hS') | (go_at_call 26; (with_reducible refine (check_ok _ _ _ _ ob1 ob2 ob3 oM).mono ?_); rintro e w' ⟨rfl, hb'⟩; have hS' := SCD.step (by first | assumption | exact SCD.step (by assumption) ((Below.refl _ _).alloc (Nat.le_refl _) _)) hb'; clear hb'; obtain ⟨_, ⟨l0, c00, c01, c02⟩, ⟨l1, c10, c11, c12⟩, ⟨l2, c20, c21, c22⟩⟩ := id hS'))
  all_goals go_ret
  all_goals exact ⟨rfl, Held.below (w0 := w) (And.left (by assumption))⟩
set_option maxRecDepth 100000 in
set_option maxHeartbeats 8000000 in
theorem cdays_no_lo (y m d n : Int) (hy : InR y) (hm : InR m) (hd : InR d) (hn : InR n) (hM : ¬ Cal.may y m d) (hf : y ≤ 2600) (oy om od ok : Int) (hof : IsOf n oy om od ok) (ob1 : InR oy) (ob2 : InR om) (ob3 : InR od) (hlo : n ≤ 300000) (w : World) (hg : w.cell? ⟨0, 0, none⟩ = some asHandle) (ht : Tab w) :
    Calls Tryd.prog 3 #[.agg #[.int .i64 y, .int .i64 m, .int .i64 d], .int .i64 n] w fun e w' => e = .returned (.bool true) ∧ Below w.heap.size w w' := by
  have hH := Held.start hg
  go_enter Tryd.func3, Tryd.ntmps3
  go_wp2_with (fail)
  go_at_call 20
  (with_reducible refine (days_no _ _ _ _ hy hm hd hM).mono ?_)
  rintro e w1 ⟨rfl, HB⟩
  obtain ⟨hc1, hf1⟩ := bcell HB
  obtain ⟨hd1, hh1⟩ := bcell2 (U := w) (by repeat (first | exact Below.refl _ _ | refine Below.setCell ?_ (by simp <;> omega) _ | refine Below.alloc ?_ (by simp <;> omega) _ | refine Below.drew ?_)) HB
  have hz1 := HB.size
  try simp at hz1
  (try (have z1w0 : w.heap.size < w1.heap.size := (by omega)))
  (try (have z1w1 : w.heap.size + 1 < w1.heap.size := (by omega)))
  (try (have z1w2 : w.heap.size + 1 + 1 < w1.heap.size := (by omega)))
  (try (have z1w3 : w.heap.size + 1 + 1 + 1 < w1.heap.size := (by omega)))
  have hH1 := Held.step (w0 := w) (by repeat (first | assumption | refine Held.alloc ?_ _ | refine Held.drew ?_)) HB
  clear HB
  go_wp2_with (fail)
  go_at_call 21
  (with_reducible refine (of_f _ oy om od ok _ hn hof).mono ?_)
  rintro e w2 ⟨rfl, HB⟩
  obtain ⟨hc2, hf2⟩ := bcell HB
  obtain ⟨hd2, hh2⟩ := bcell2 (U := w1) (by repeat (first | exact Below.refl _ _ | refine Below.setCell ?_ (by simp <;> omega) _ | refine Below.alloc ?_ (by simp <;> omega) _ | refine Below.drew ?_)) HB
  have hz2 := HB.size
  try simp at hz2
  (try (have z2w0 : w.heap.size < w2.heap.size := (by omega)))
  (try (have z2w1 : w.heap.size + 1 < w2.heap.size := (by omega)))
  (try (have z2w2 : w.heap.size + 1 + 1 < w2.heap.size := (by omega)))
  (try (have z2w3 : w.heap.size + 1 + 1 + 1 < w2.heap.size := (by omega)))
  (try (have z2w10 : w1.heap.size < w2.heap.size := (by omega)))
  (try (have z2w11 : w1.heap.size + 1 < w2.heap.size := (by omega)))
  (try (have z2w12 : w1.heap.size + 1 + 1 < w2.heap.size := (by omega)))
  (try (have z2w13 : w1.heap.size + 1 + 1 + 1 < w2.heap.size := (by omega)))
  have hH2 := Held.step (w0 := w) (by repeat (first | assumption | refine Held.alloc ?_ _ | refine Held.drew ?_)) HB
  clear HB
  go_wp2_with (fail)
  have hS0 : SCD w (w.heap.size) (.int .i64 y) (.int .i64 m) (.int .i64 d) (w.heap.size + 1) (.int .i64 y) (.int .i64 m) (.int .i64 d) (w2.heap.size) (.int .i64 oy) (.int .i64 om) (.int .i64 od) (w2.alloc (.cells #[.int .i64 oy, .int .i64 om, .int .i64 od] 26)) := ⟨Held.alloc hH2 _, ⟨by simp <;> omega, by go_simp, by go_simp, by go_simp⟩, ⟨by simp <;> omega, by go_simp, by go_simp, by go_simp⟩, ⟨by simp <;> omega, by go_simp, by go_simp, by go_simp⟩⟩
  go_region_held3 (fun wx => SCD w (w.heap.size) (.int .i64 y) (.int .i64 m) (.int .i64 d) (w.heap.size + 1) (.int .i64 y) (.int .i64 m) (.int .i64 d) (w2.heap.size) (.int .i64 oy) (.int .i64 om) (.int .i64 od) wx) (first | assumption | exact SCD.drew (by assumption)) (first | (go_at_call 24; (with_reducible refine (leap_c _ _ (by omega)).mono ?_); rintro e w' ⟨rfl, rfl⟩) | (go_at_call 25; (with_reducible refine (rleap_c _ _ (by omega)).mono ?_); rintro e w' ⟨rfl, rfl⟩) | (go_at_call 22; (with_reducible refine (month_c _ _ _ (by omega) (by omega)).mono ?_); rintro e w' ⟨rfl, rfl⟩) | (go_at_call 23; (with_reducible refine (rmonth_c _ _ _ (by omega) (by omega)).mono ?_); rintro e w' ⟨rfl, hb'⟩; have hS' := SCD.step (by assumption) hb'; clear hb') | (go_at_call 26; (with_reducible refine (check_no _ _ _ _ hy hm hd hM).mono ?_); rintro e w' ⟨rfl, hb'⟩; have hS' := SCD.step (by assumption) hb'; clear hb') | (go_at_call 18; (with_reducible refine (rmay_no _ _ _ _ (Held.handle (w0 := w) (by first | exact And.left (by assumption) | exact Held.alloc (And.left (by assumption)) _)) hy hm hd hM).mono ?_); rintro e w' ⟨rfl, hb'⟩; have hS' := SCD.step (by assumption) hb'; clear hb'))
  all_goals obtain ⟨_, ⟨l0, c00, c01, c02⟩, ⟨l1, c10, c11, c12⟩, ⟨l2, c20, c21, c22⟩⟩ := id (by assumption : SCD w _ _ _ _ _ _ _ _ _ _ _ _ _)
  all_goals go_wp2_with (first | (go_at_call 18; (with_reducible refine (rmay_no _ _ _ _ (Held.handle (w0 := w) (by first | exact And.left (by assumption) | exact Held.alloc (And.left (by assumption)) _)) hy hm hd hM).mono ?_); rintro e w' ⟨rfl, hb'⟩; have hS' := SCD.step (by first | assumption | exact SCD.step (by assumption) ((Below.refl _ _).alloc (Nat.le_refl _) _)) hb'; clear hb'; obtain ⟨_, ⟨l0, c00, c01, c02⟩, ⟨l1, c10, c11, c12⟩, ⟨l2, c20, c21, c22⟩⟩ := id hS') | (go_at_call 27; (with_reducible refine (num07_any _ _ (Held.handle (w0 := w) (by first | exact And.left (by assumption) | exact Held.alloc (And.left (by assumption)) _))).mono ?_); rintro e w' ⟨rfl, hb'⟩; have hS' := SCD.step (by first | assumption | exact SCD.step (by assumption) ((Below.refl _ _).alloc (Nat.le_refl _) _)) hb'; clear hb'; obtain ⟨_, ⟨l0, c00, c01, c02⟩, ⟨l1, c10, c11, c12⟩, ⟨l2, c20, c21, c22⟩⟩ := id hS') | (go_at_call 27; (with_reducible refine (num07_nil _).mono ?_); rintro e w' ⟨rfl, hb'⟩; have hS' := SCD.step (by first | assumption | exact SCD.step (by assumption) ((Below.refl _ _).alloc (Nat.le_refl _) _)) hb'; clear hb'; obtain ⟨_, ⟨l0, c00, c01, c02⟩, ⟨l1, c10, c11, c12⟩, ⟨l2, c20, c21, c22⟩⟩ := id hS') | (go_at_call 27; (with_reducible refine (num07_err _ _ (Held.handle (w0 := w) (by first | exact And.left (by assumption) | exact Held.alloc (And.left (by assumption)) _))).mono ?_); rintro e w' ⟨rfl, hb'⟩; have hS' := SCD.step (by first | assumption | exact SCD.step (by assumption) ((Below.refl _ _).alloc (Nat.le_refl _) _)) hb'; clear hb'; obtain ⟨_, ⟨l0, c00, c01, c02⟩, ⟨l1, c10, c11, c12⟩, ⟨l2, c20, c21, c22⟩⟩ := id hS') | (go_at_call 19; (with_reducible refine (sure07 _ (Held.handle (w0 := w) (by first | exact And.left (by assumption) | exact Held.alloc (And.left (by assumption)) _)) (ht.below (Held.below (w0 := w) (by first | exact And.left (by assumption) | exact Held.alloc (And.left (by assumption)) _)))).mono ?_); rintro e w' ⟨rfl, hb'⟩; have hS' := SCD.step (by first | assumption | exact SCD.step (by assumption) ((Below.refl _ _).alloc (Nat.le_refl _) _)) hb'; clear hb'; obtain ⟨_, ⟨l0, c00, c01, c02⟩, ⟨l1, c10, c11, c12⟩, ⟨l2, c20, c21, c22⟩⟩ := id hS') | (go_at_call 29; (with_reducible refine (rof_f _ oy om od ok _ hn hof).mono ?_); rintro e w' ⟨rfl, hb'⟩; have hS' := SCD.step (by first | assumption | exact SCD.step (by assumption) ((Below.refl _ _).alloc (Nat.le_refl _) _)) hb'; clear hb'; obtain ⟨_, ⟨l0, c00, c01, c02⟩, ⟨l1, c10, c11, c12⟩, ⟨l2, c20, c21, c22⟩⟩ := id hS'))
  all_goals go_ret
  all_goals exact ⟨rfl, Held.below (w0 := w) (And.left (by assumption))⟩
set_option maxRecDepth 100000 in
set_option maxHeartbeats 8000000 in
theorem cdays_no_hi (y m d n : Int) (hy : InR y) (hm : InR m) (hd : InR d) (hn : InR n) (hM : ¬ Cal.may y m d) (hf : y ≤ 2600) (oy om od ok : Int) (hof : IsOf n oy om od ok) (ob1 : InR oy) (ob2 : InR om) (ob3 : InR od) (hhi : 2932896 < n) (w : World) (hg : w.cell? ⟨0, 0, none⟩ = some asHandle) (ht : Tab w) :
    Calls Tryd.prog 3 #[.agg #[.int .i64 y, .int .i64 m, .int .i64 d], .int .i64 n] w fun e w' => e = .returned (.bool true) ∧ Below w.heap.size w w' := by
  have hH := Held.start hg
  go_enter Tryd.func3, Tryd.ntmps3
  go_wp2_with (fail)
  go_at_call 20
  (with_reducible refine (days_no _ _ _ _ hy hm hd hM).mono ?_)
  rintro e w1 ⟨rfl, HB⟩
  obtain ⟨hc1, hf1⟩ := bcell HB
  obtain ⟨hd1, hh1⟩ := bcell2 (U := w) (by repeat (first | exact Below.refl _ _ | refine Below.setCell ?_ (by simp <;> omega) _ | refine Below.alloc ?_ (by simp <;> omega) _ | refine Below.drew ?_)) HB
  have hz1 := HB.size
  try simp at hz1
  (try (have z1w0 : w.heap.size < w1.heap.size := (by omega)))
  (try (have z1w1 : w.heap.size + 1 < w1.heap.size := (by omega)))
  (try (have z1w2 : w.heap.size + 1 + 1 < w1.heap.size := (by omega)))
  (try (have z1w3 : w.heap.size + 1 + 1 + 1 < w1.heap.size := (by omega)))
  have hH1 := Held.step (w0 := w) (by repeat (first | assumption | refine Held.alloc ?_ _ | refine Held.drew ?_)) HB
  clear HB
  go_wp2_with (fail)
  go_at_call 21
  (with_reducible refine (of_f _ oy om od ok _ hn hof).mono ?_)
  rintro e w2 ⟨rfl, HB⟩
  obtain ⟨hc2, hf2⟩ := bcell HB
  obtain ⟨hd2, hh2⟩ := bcell2 (U := w1) (by repeat (first | exact Below.refl _ _ | refine Below.setCell ?_ (by simp <;> omega) _ | refine Below.alloc ?_ (by simp <;> omega) _ | refine Below.drew ?_)) HB
  have hz2 := HB.size
  try simp at hz2
  (try (have z2w0 : w.heap.size < w2.heap.size := (by omega)))
  (try (have z2w1 : w.heap.size + 1 < w2.heap.size := (by omega)))
  (try (have z2w2 : w.heap.size + 1 + 1 < w2.heap.size := (by omega)))
  (try (have z2w3 : w.heap.size + 1 + 1 + 1 < w2.heap.size := (by omega)))
  (try (have z2w10 : w1.heap.size < w2.heap.size := (by omega)))
  (try (have z2w11 : w1.heap.size + 1 < w2.heap.size := (by omega)))
  (try (have z2w12 : w1.heap.size + 1 + 1 < w2.heap.size := (by omega)))
  (try (have z2w13 : w1.heap.size + 1 + 1 + 1 < w2.heap.size := (by omega)))
  have hH2 := Held.step (w0 := w) (by repeat (first | assumption | refine Held.alloc ?_ _ | refine Held.drew ?_)) HB
  clear HB
  go_wp2_with (fail)
  have hS0 : SCD w (w.heap.size) (.int .i64 y) (.int .i64 m) (.int .i64 d) (w.heap.size + 1) (.int .i64 y) (.int .i64 m) (.int .i64 d) (w2.heap.size) (.int .i64 oy) (.int .i64 om) (.int .i64 od) (w2.alloc (.cells #[.int .i64 oy, .int .i64 om, .int .i64 od] 26)) := ⟨Held.alloc hH2 _, ⟨by simp <;> omega, by go_simp, by go_simp, by go_simp⟩, ⟨by simp <;> omega, by go_simp, by go_simp, by go_simp⟩, ⟨by simp <;> omega, by go_simp, by go_simp, by go_simp⟩⟩
  go_region_held3 (fun wx => SCD w (w.heap.size) (.int .i64 y) (.int .i64 m) (.int .i64 d) (w.heap.size + 1) (.int .i64 y) (.int .i64 m) (.int .i64 d) (w2.heap.size) (.int .i64 oy) (.int .i64 om) (.int .i64 od) wx) (first | assumption | exact SCD.drew (by assumption)) (first | (go_at_call 24; (with_reducible refine (leap_c _ _ (by omega)).mono ?_); rintro e w' ⟨rfl, rfl⟩) | (go_at_call 25; (with_reducible refine (rleap_c _ _ (by omega)).mono ?_); rintro e w' ⟨rfl, rfl⟩) | (go_at_call 22; (with_reducible refine (month_c _ _ _ (by omega) (by omega)).mono ?_); rintro e w' ⟨rfl, rfl⟩) | (go_at_call 23; (with_reducible refine (rmonth_c _ _ _ (by omega) (by omega)).mono ?_); rintro e w' ⟨rfl, hb'⟩; have hS' := SCD.step (by assumption) hb'; clear hb') | (go_at_call 26; (with_reducible refine (check_no _ _ _ _ hy hm hd hM).mono ?_); rintro e w' ⟨rfl, hb'⟩; have hS' := SCD.step (by assumption) hb'; clear hb') | (go_at_call 18; (with_reducible refine (rmay_no _ _ _ _ (Held.handle (w0 := w) (by first | exact And.left (by assumption) | exact Held.alloc (And.left (by assumption)) _)) hy hm hd hM).mono ?_); rintro e w' ⟨rfl, hb'⟩; have hS' := SCD.step (by assumption) hb'; clear hb'))
  all_goals obtain ⟨_, ⟨l0, c00, c01, c02⟩, ⟨l1, c10, c11, c12⟩, ⟨l2, c20, c21, c22⟩⟩ := id (by assumption : SCD w _ _ _ _ _ _ _ _ _ _ _ _ _)
  all_goals go_wp2_with (first | (go_at_call 18; (with_reducible refine (rmay_no _ _ _ _ (Held.handle (w0 := w) (by first | exact And.left (by assumption) | exact Held.alloc (And.left (by assumption)) _)) hy hm hd hM).mono ?_); rintro e w' ⟨rfl, hb'⟩; have hS' := SCD.step (by first | assumption | exact SCD.step (by assumption) ((Below.refl _ _).alloc (Nat.le_refl _) _)) hb'; clear hb'; obtain ⟨_, ⟨l0, c00, c01, c02⟩, ⟨l1, c10, c11, c12⟩, ⟨l2, c20, c21, c22⟩⟩ := id hS') | (go_at_call 27; (with_reducible refine (num07_any _ _ (Held.handle (w0 := w) (by first | exact And.left (by assumption) | exact Held.alloc (And.left (by assumption)) _))).mono ?_); rintro e w' ⟨rfl, hb'⟩; have hS' := SCD.step (by first | assumption | exact SCD.step (by assumption) ((Below.refl _ _).alloc (Nat.le_refl _) _)) hb'; clear hb'; obtain ⟨_, ⟨l0, c00, c01, c02⟩, ⟨l1, c10, c11, c12⟩, ⟨l2, c20, c21, c22⟩⟩ := id hS') | (go_at_call 27; (with_reducible refine (num07_nil _).mono ?_); rintro e w' ⟨rfl, hb'⟩; have hS' := SCD.step (by first | assumption | exact SCD.step (by assumption) ((Below.refl _ _).alloc (Nat.le_refl _) _)) hb'; clear hb'; obtain ⟨_, ⟨l0, c00, c01, c02⟩, ⟨l1, c10, c11, c12⟩, ⟨l2, c20, c21, c22⟩⟩ := id hS') | (go_at_call 27; (with_reducible refine (num07_err _ _ (Held.handle (w0 := w) (by first | exact And.left (by assumption) | exact Held.alloc (And.left (by assumption)) _))).mono ?_); rintro e w' ⟨rfl, hb'⟩; have hS' := SCD.step (by first | assumption | exact SCD.step (by assumption) ((Below.refl _ _).alloc (Nat.le_refl _) _)) hb'; clear hb'; obtain ⟨_, ⟨l0, c00, c01, c02⟩, ⟨l1, c10, c11, c12⟩, ⟨l2, c20, c21, c22⟩⟩ := id hS') | (go_at_call 19; (with_reducible refine (sure07 _ (Held.handle (w0 := w) (by first | exact And.left (by assumption) | exact Held.alloc (And.left (by assumption)) _)) (ht.below (Held.below (w0 := w) (by first | exact And.left (by assumption) | exact Held.alloc (And.left (by assumption)) _)))).mono ?_); rintro e w' ⟨rfl, hb'⟩; have hS' := SCD.step (by first | assumption | exact SCD.step (by assumption) ((Below.refl _ _).alloc (Nat.le_refl _) _)) hb'; clear hb'; obtain ⟨_, ⟨l0, c00, c01, c02⟩, ⟨l1, c10, c11, c12⟩, ⟨l2, c20, c21, c22⟩⟩ := id hS') | (go_at_call 29; (with_reducible refine (rof_f _ oy om od ok _ hn hof).mono ?_); rintro e w' ⟨rfl, hb'⟩; have hS' := SCD.step (by first | assumption | exact SCD.step (by assumption) ((Below.refl _ _).alloc (Nat.le_refl _) _)) hb'; clear hb'; obtain ⟨_, ⟨l0, c00, c01, c02⟩, ⟨l1, c10, c11, c12⟩, ⟨l2, c20, c21, c22⟩⟩ := id hS'))
  all_goals go_ret
  all_goals exact ⟨rfl, Held.below (w0 := w) (And.left (by assumption))⟩
set_option maxRecDepth 100000 in
set_option maxHeartbeats 8000000 in
theorem cdays_no_mid (y m d n : Int) (hy : InR y) (hm : InR m) (hd : InR d) (hn : InR n) (hM : ¬ Cal.may y m d) (hf : y ≤ 2600) (oy om od ok : Int) (hof : IsOf n oy om od ok) (ob1 : InR oy) (ob2 : InR om) (ob3 : InR od) (hlo : 300000 < n) (hhi : n ≤ 2932896) (oM : Cal.may oy om od) (hok : errOf ok = .nilIface) (w : World) (hg : w.cell? ⟨0, 0, none⟩ = some asHandle) (ht : Tab w) :
    Calls Tryd.prog 3 #[.agg #[.int .i64 y, .int .i64 m, .int .i64 d], .int .i64 n] w fun e w' => e = .returned (.bool true) ∧ Below w.heap.size w w' := by
  have hH := Held.start hg
  go_enter Tryd.func3, Tryd.ntmps3
  go_wp2_with (fail)
  go_at_call 20
  (with_reducible refine (days_no _ _ _ _ hy hm hd hM).mono ?_)
  rintro e w1 ⟨rfl, HB⟩
  obtain ⟨hc1, hf1⟩ := bcell HB
  obtain ⟨hd1, hh1⟩ := bcell2 (U := w) (by repeat (first | exact Below.refl _ _ | refine Below.setCell ?_ (by simp <;> omega) _ | refine Below.alloc ?_ (by simp <;> omega) _ | refine Below.drew ?_)) HB
  have hz1 := HB.size
  try simp at hz1
  (try (have z1w0 : w.heap.size < w1.heap.size := (by omega)))
  (try (have z1w1 : w.heap.size + 1 < w1.heap.size := (by omega)))
  (try (have z1w2 : w.heap.size + 1 + 1 < w1.heap.size := (by omega)))
  (try (have z1w3 : w.heap.size + 1 + 1 + 1 < w1.heap.size := (by omega)))
  have hH1 := Held.step (w0 := w) (by repeat (first | assumption | refine Held.alloc ?_ _ | refine Held.drew ?_)) HB
  clear HB
  go_wp2_with (fail)
  go_at_call 21
  (with_reducible refine (of_f _ oy om od ok _ hn hof).mono ?_)
  rintro e w2 ⟨rfl, HB⟩
  obtain ⟨hc2, hf2⟩ := bcell HB
  obtain ⟨hd2, hh2⟩ := bcell2 (U := w1) (by repeat (first | exact Below.refl _ _ | refine Below.setCell ?_ (by simp <;> omega) _ | refine Below.alloc ?_ (by simp <;> omega) _ | refine Below.drew ?_)) HB
  have hz2 := HB.size
  try simp at hz2
  (try (have z2w0 : w.heap.size < w2.heap.size := (by omega)))
  (try (have z2w1 : w.heap.size + 1 < w2.heap.size := (by omega)))
  (try (have z2w2 : w.heap.size + 1 + 1 < w2.heap.size := (by omega)))
  (try (have z2w3 : w.heap.size + 1 + 1 + 1 < w2.heap.size := (by omega)))
  (try (have z2w10 : w1.heap.size < w2.heap.size := (by omega)))
  (try (have z2w11 : w1.heap.size + 1 < w2.heap.size := (by omega)))
  (try (have z2w12 : w1.heap.size + 1 + 1 < w2.heap.size := (by omega)))
  (try (have z2w13 : w1.heap.size + 1 + 1 + 1 < w2.heap.size := (by omega)))
  have hH2 := Held.step (w0 := w) (by repeat (first | assumption | refine Held.alloc ?_ _ | refine Held.drew ?_)) HB
  clear HB
  go_wp2_with (fail)
  have hS0 : SCD w (w.heap.size) (.int .i64 y) (.int .i64 m) (.int .i64 d) (w.heap.size + 1) (.int .i64 y) (.int .i64 m) (.int .i64 d) (w2.heap.size) (.int .i64 oy) (.int .i64 om) (.int .i64 od) (w2.alloc (.cells #[.int .i64 oy, .int .i64 om, .int .i64 od] 26)) := ⟨Held.alloc hH2 _, ⟨by simp <;> omega, by go_simp, by go_simp, by go_simp⟩, ⟨by simp <;> omega, by go_simp, by go_simp, by go_simp⟩, ⟨by simp <;> omega, by go_simp, by go_simp, by go_simp⟩⟩
  go_region_held3 (fun wx => SCD w (w.heap.size) (.int .i64 y) (.int .i64 m) (.int .i64 d) (w.heap.size + 1) (.int .i64 y) (.int .i64 m) (.int .i64 d) (w2.heap.size) (.int .i64 oy) (.int .i64 om) (.int .i64 od) wx) (first | assumption | exact SCD.drew (by assumption)) (first | (go_at_call 24; (with_reducible refine (leap_c _ _ (by omega)).mono ?_); rintro e w' ⟨rfl, rfl⟩) | (go_at_call 25; (with_reducible refine (rleap_c _ _ (by omega)).mono ?_); rintro e w' ⟨rfl, rfl⟩) | (go_at_call 22; (with_reducible refine (month_c _ _ _ (by omega) (by omega)).mono ?_); rintro e w' ⟨rfl, rfl⟩) | (go_at_call 23; (with_reducible refine (rmonth_c _ _ _ (by omega) (by omega)).mono ?_); rintro e w' ⟨rfl, hb'⟩; have hS' := SCD.step (by assumption) hb'; clear hb') | (go_at_call 26; (with_reducible refine (check_no _ _ _ _ hy hm hd hM).mono ?_); rintro e w' ⟨rfl, hb'⟩; have hS' := SCD.step (by assumption) hb'; clear hb') | (go_at_call 18; (with_reducible refine (rmay_no _ _ _ _ (Held.handle (w0 := w) (by first | exact And.left (by assumption) | exact Held.alloc (And.left (by assumption)) _)) hy hm hd hM).mono ?_); rintro e w' ⟨rfl, hb'⟩; have hS' := SCD.step (by assumption) hb'; clear hb'))
  all_goals obtain ⟨_, ⟨l0, c00, c01, c02⟩, ⟨l1, c10, c11, c12⟩, ⟨l2, c20, c21, c22⟩⟩ := id (by assumption : SCD w _ _ _ _ _ _ _ _ _ _ _ _ _)
  all_goals go_wp2_with (first | (go_at_call 18; (with_reducible refine (rmay_no _ _ _ _ (Held.handle (w0 := w) (by first | exact And.left (by assumption) | exact Held.alloc (And.left (by assumption)) _)) hy hm hd hM).mono ?_); rintro e w' ⟨rfl, hb'⟩; have hS' := SCD.step (by first | assumption | exact SCD.step (by assumption) ((Below.refl _ _).alloc (Nat.le_refl _) _)) hb'; clear hb'; obtain ⟨_, ⟨l0, c00, c01, c02⟩, ⟨l1, c10, c11, c12⟩, ⟨l2, c20, c21, c22⟩⟩ := id hS') | (go_at_call 27; (with_reducible refine (num07_any _ _ (Held.handle (w0 := w) (by first | exact And.left (by assumption) | exact Held.alloc (And.left (by assumption)) _))).mono ?_); rintro e w' ⟨rfl, hb'⟩; have hS' := SCD.step (by first | assumption | exact SCD.step (by assumption) ((Below.refl _ _).alloc (Nat.le_refl _) _)) hb'; clear hb'; obtain ⟨_, ⟨l0, c00, c01, c02⟩, ⟨l1, c10, c11, c12⟩, ⟨l2, c20, c21, c22⟩⟩ := id hS') | (go_at_call 27; (with_reducible refine (num07_nil _).mono ?_); rintro e w' ⟨rfl, hb'⟩; have hS' := SCD.step (by first | assumption | exact SCD.step (by assumption) ((Below.refl _ _).alloc (Nat.le_refl _) _)) hb'; clear hb'; obtain ⟨_, ⟨l0, c00, c01, c02⟩, ⟨l1, c10, c11, c12⟩, ⟨l2, c20, c21, c22⟩⟩ := id hS') | (go_at_call 27; (with_reducible refine (num07_err _ _ (Held.handle (w0 := w) (by first | exact And.left (by assumption) | exact Held.alloc (And.left (by assumption)) _))).mono ?_); rintro e w' ⟨rfl, hb'⟩; have hS' := SCD.step (by first | assumption | exact SCD.step (by assumption) ((Below.refl _ _).alloc (Nat.le_refl _) _)) hb'; clear hb'; obtain ⟨_, ⟨l0, c00, c01, c02⟩, ⟨l1, c10, c11, c12⟩, ⟨l2, c20, c21, c22⟩⟩ := id hS') | (go_at_call 19; (with_reducible refine (sure07 _ (Held.handle (w0 := w) (by first | exact And.left (by assumption) | exact Held.alloc (And.left (by assumption)) _)) (ht.below (Held.below (w0 := w) (by first | exact And.left (by assumption) | exact Held.alloc (And.left (by assumption)) _)))).mono ?_); rintro e w' ⟨rfl, hb'⟩; have hS' := SCD.step (by first | assumption | exact SCD.step (by assumption) ((Below.refl _ _).alloc (Nat.le_refl _) _)) hb'; clear hb'; obtain ⟨_, ⟨l0, c00, c01, c02⟩, ⟨l1, c10, c11, c12⟩, ⟨l2, c20, c21, c22⟩⟩ := id hS') | (go_at_call 26; (with_reducible refine (check_ok _ _ _ _ ob1 ob2 ob3 oM).mono ?_); rintro e w' ⟨rfl, hb'⟩; have hS' := SCD.step (by first | assumption | exact SCD.step (by assumption) ((Below.refl _ _).alloc (Nat.le_refl _) _)) hb'; clear hb'; obtain ⟨_, ⟨l0, c00, c01, c02⟩, ⟨l1, c10, c11, c12⟩, ⟨l2, c20, c21, c22⟩⟩ := id hS'))
  all_goals go_ret
  all_goals exact ⟨rfl, Held.below (w0 := w) (And.left (by assumption))⟩
set_option maxRecDepth 100000 in
set_option maxHeartbeats 8000000 in
theorem cdays_nof_lo (y m d n : Int) (hy : InR y) (hm : InR m) (hd : InR d) (hn : InR n) (hM : ¬ Cal.may y m d) (hf : 2600 < y) (oy om od ok : Int) (hof : IsOf n oy om od ok) (ob1 : InR oy) (ob2 : InR om) (ob3 : InR od) (hlo : n ≤ 300000) (w : World) (hg : w.cell? ⟨0, 0, none⟩ = some asHandle) (ht : Tab w) :
    Calls Tryd.prog 3 #[.agg #[.int .i64 y, .int .i64 m, .int .i64 d], .int .i64 n] w fun e w' => e = .returned (.bool true) ∧ Below w.heap.size w w' := by
  have hH := Held.start hg
  go_enter Tryd.func3, Tryd.ntmps3
  go_wp2_with (fail)
  go_at_call 18
  (with_reducible refine (rmay_no _ _ _ _ (Held.handle (w0 := w) (by repeat (first | assumption | refine Held.alloc ?_ _ | refine Held.drew ?_))) hy hm hd hM).mono ?_)
  rintro e w1 ⟨rfl, HB⟩
  obtain ⟨hc1, hf1⟩ := bcell HB
  obtain ⟨hd1, hh1⟩ := bcell2 (U := w) (by repeat (first | exact Below.refl _ _ | refine Below.setCell ?_ (by simp <;> omega) _ | refine Below.alloc ?_ (by simp <;> omega) _ | refine Below.drew ?_)) HB
  have hz1 := HB.size
  try simp at hz1
  (try (have z1w0 : w.heap.size < w1.heap.size := (by omega)))
  (try (have z1w1 : w.heap.size + 1 < w1.heap.size := (by omega)))
  (try (have z1w2 : w.heap.size + 1 + 1 < w1.heap.size := (by omega)))
  (try (have z1w3 : w.heap.size + 1 + 1 + 1 < w1.heap.size := (by omega)))
  have hH1 := Held.step (w0 := w) (by repeat (first | assumption | refine Held.alloc ?_ _ | refine Held.drew ?_)) HB
  clear HB
  go_wp2_with (fail)
  go_at_call 20
  (with_reducible refine (days_no _ _ _ _ hy hm hd hM).mono ?_)
  rintro e w2 ⟨rfl, HB⟩
  obtain ⟨hc2, hf2⟩ := bcell HB
  obtain ⟨hd2, hh2⟩ := bcell2 (U := w1) (by repeat (first | exact Below.refl _ _ | refine Below.setCell ?_ (by simp <;> omega) _ | refine Below.alloc ?_ (by simp <;> omega) _ | refine Below.drew ?_)) HB
  have hz2 := HB.size
  try simp at hz2
  (try (have z2w0 : w.heap.size < w2.heap.size := (by omega)))
  (try (have z2w1 : w.heap.size + 1 < w2.heap.size := (by omega)))
  (try (have z2w2 : w.heap.size + 1 + 1 < w2.heap.size := (by omega)))
  (try (have z2w3 : w.heap.size + 1 + 1 + 1 < w2.heap.size := (by omega)))
  (try (have z2w10 : w1.heap.size < w2.heap.size := (by omega)))
  (try (have z2w11 : w1.heap.size + 1 < w2.heap.size := (by omega)))
  (try (have z2w12 : w1.heap.size + 1 + 1 < w2.heap.size := (by omega)))
  (try (have z2w13 : w1.heap.size + 1 + 1 + 1 < w2.heap.size := (by omega)))
  have hH2 := Held.step (w0 := w) (by repeat (first | assumption | refine Held.alloc ?_ _ | refine Held.drew ?_)) HB
  clear HB
  go_wp2_with (fail)
  go_at_call 21
  (with_reducible refine (of_f _ oy om od ok _ hn hof).mono ?_)
  rintro e w3 ⟨rfl, HB⟩
  obtain ⟨hc3, hf3⟩ := bcell HB
  obtain ⟨hd3, hh3⟩ := bcell2 (U := w2) (by repeat (first | exact Below.refl _ _ | refine Below.setCell ?_ (by simp <;> omega) _ | refine Below.alloc ?_ (by simp <;> omega) _ | refine Below.drew ?_)) HB
  have hz3 := HB.size
  try simp at hz3
  (try (have z3w0 : w.heap.size < w3.heap.size := (by omega)))
  (try (have z3w1 : w.heap.size + 1 < w3.heap.size := (by omega)))
  (try (have z3w2 : w.heap.size + 1 + 1 < w3.heap.size := (by omega)))
  (try (have z3w3 : w.heap.size + 1 + 1 + 1 < w3.heap.size := (by omega)))
  (try (have z3w10 : w1.heap.size < w3.heap.size := (by omega)))
  (try (have z3w11 : w1.heap.size + 1 < w3.heap.size := (by omega)))
  (try (have z3w12 : w1.heap.size + 1 + 1 < w3.heap.size := (by omega)))
  (try (have z3w13 : w1.heap.size + 1 + 1 + 1 < w3.heap.size := (by omega)))
  (try (have z3w20 : w2.heap.size < w3.heap.size := (by omega)))
  (try (have z3w21 : w2.heap.size + 1 < w3.heap.size := (by omega)))
  (try (have z3w22 : w2.heap.size + 1 + 1 < w3.heap.size := (by omega)))
  (try (have z3w23 : w2.heap.size + 1 + 1 + 1 < w3.heap.size := (by omega)))
  have hH3 := Held.step (w0 := w) (by repeat (first | assumption | refine Held.alloc ?_ _ | refine Held.drew ?_)) HB
  clear HB
  go_wp2_with (fail)
  have hS0 : SCD w (w.heap.size) (.int .i64 y) (.int .i64 m) (.int .i64 d) (w1.heap.size) (.int .i64 y) (.int .i64 m) (.int .i64 d) (w3.heap.size) (.int .i64 oy) (.int .i64 om) (.int .i64 od) (w3.alloc (.cells #[.int .i64 oy, .int .i64 om, .int .i64 od] 26)) := ⟨Held.alloc hH3 _, ⟨by simp <;> omega, by go_simp, by go_simp, by go_simp⟩, ⟨by simp <;> omega, by go_simp, by go_simp, by go_simp⟩, ⟨by simp <;> omega, by go_simp, by go_simp, by go_simp⟩⟩
  go_region_held3 (fun wx => SCD w (w.heap.size) (.int .i64 y) (.int .i64 m) (.int .i64 d) (w1.heap.size) (.int .i64 y) (.int .i64 m) (.int .i64 d) (w3.heap.size) (.int .i64 oy) (.int .i64 om) (.int .i64 od) wx) (first | assumption | exact SCD.drew (by assumption)) (first | (go_at_call 24; (with_reducible refine (leap_c _ _ (by omega)).mono ?_); rintro e w' ⟨rfl, rfl⟩) | (go_at_call 25; (with_reducible refine (rleap_c _ _ (by omega)).mono ?_); rintro e w' ⟨rfl, rfl⟩) | (go_at_call 22; (with_reducible refine (month_c _ _ _ (by omega) (by omega)).mono ?_); rintro e w' ⟨rfl, rfl⟩) | (go_at_call 23; (with_reducible refine (rmonth_c _ _ _ (by omega) (by omega)).mono ?_); rintro e w' ⟨rfl, hb'⟩; have hS' := SCD.step (by assumption) hb'; clear hb') | (go_at_call 26; (with_reducible refine (check_no _ _ _ _ hy hm hd hM).mono ?_); rintro e w' ⟨rfl, hb'⟩; have hS' := SCD.step (by assumption) hb'; clear hb') | (go_at_call 18; (with_reducible refine (rmay_no _ _ _ _ (Held.handle (w0 := w) (by first | exact And.left (by assumption) | exact Held.alloc (And.left (by assumption)) _)) hy hm hd hM).mono ?_); rintro e w' ⟨rfl, hb'⟩; have hS' := SCD.step (by assumption) hb'; clear hb'))
  all_goals obtain ⟨_, ⟨l0, c00, c01, c02⟩, ⟨l1, c10, c11, c12⟩, ⟨l2, c20, c21, c22⟩⟩ := id (by assumption : SCD w _ _ _ _ _ _ _ _ _ _ _ _ _)
  all_goals go_wp2_with (first | (go_at_call 18; (with_reducible refine (rmay_no _ _ _ _ (Held.handle (w0 := w) (by first | exact And.left (by assumption) | exact Held.alloc (And.left (by assumption)) _)) hy hm hd hM).mono ?_); rintro e w' ⟨rfl, hb'⟩; have hS' := SCD.step (by first | assumption | exact SCD.step (by assumption) ((Below.refl _ _).alloc (Nat.le_refl _) _)) hb'; clear hb'; obtain ⟨_, ⟨l0, c00, c01, c02⟩, ⟨l1, c10, c11, c12⟩, ⟨l2, c20, c21, c22⟩⟩ := id hS') | (go_at_call 27; (with_reducible refine (num07_any _ _ (Held.handle (w0 := w) (by first | exact And.left (by assumption) | exact Held.alloc (And.left (by assumption)) _))).mono ?_); rintro e w' ⟨rfl, hb'⟩; have hS' := SCD.step (by first | assumption | exact SCD.step (by assumption) ((Below.refl _ _).alloc (Nat.le_refl _) _)) hb'; clear hb'; obtain ⟨_, ⟨l0, c00, c01, c02⟩, ⟨l1, c10, c11, c12⟩, ⟨l2, c20, c21, c22⟩⟩ := id hS') | (go_at_call 27; (with_reducible refine (num07_nil _).mono ?_); rintro e w' ⟨rfl, hb'⟩; have hS' := SCD.step (by first | assumption | exact SCD.step (by assumption) ((Below.refl _ _).alloc (Nat.le_refl _) _)) hb'; clear hb'; obtain ⟨_, ⟨l0, c00, c01, c02⟩, ⟨l1, c10, c11, c12⟩, ⟨l2, c20, c21, c22⟩⟩ := id hS') | (go_at_call 27; (with_reducible refine (num07_err _ _ (Held.handle (w0 := w) (by first | exact And.left (by assumption) | exact Held.alloc (And.left (by assumption)) _))).mono ?_); rintro e w' ⟨rfl, hb'⟩; have hS' := SCD.step (by first | assumption | exact SCD.step (by assumption) ((Below.refl _ _).alloc (Nat.le_refl _) _)) hb'; clear hb'; obtain ⟨_, ⟨l0, c00, c01, c02⟩, ⟨l1, c10, c11, c12⟩, ⟨l2, c20, c21, c22⟩⟩ := id hS') | (go_at_call 19; (with_reducible refine (sure07 _ (Held.handle (w0 := w) (by first | exact And.left (by assumption) | exact Held.alloc (And.left (by assumption)) _)) (ht.below (Held.below (w0 := w) (by first | exact And.left (by assumption) | exact Held.alloc (And.left (by assumption)) _)))).mono ?_); rintro e w' ⟨rfl, hb'⟩; have hS' := SCD.step (by first | assumption | exact SCD.step (by assumption) ((Below.refl _ _).alloc (Nat.le_refl _) _)) hb'; clear hb'; obtain ⟨_, ⟨l0, c00, c01, c02⟩, ⟨l1, c10, c11, c12⟩, ⟨l2, c20, c21, c22⟩⟩ := id hS') | (go_at_call 29; (with_reducible refine (rof_f _ oy om od ok _ hn hof).mono ?_); rintro e w' ⟨rfl, hb'⟩; have hS' := SCD.step (by first | assumption | exact SCD.step (by assumption) ((Below.refl _ _).alloc (Nat.le_refl _) _)) hb'; clear hb'; obtain ⟨_, ⟨l0, c00, c01, c02⟩, ⟨l1, c10, c11, c12⟩, ⟨l2, c20, c21, c22⟩⟩ := id hS'))
  all_goals go_ret
  all_goals exact ⟨rfl, Held.below (w0 := w) (And.left (by assumption))⟩
set_option maxRecDepth 100000 in
set_option maxHeartbeats 8000000 in
theorem cdays_nof_hi (y m d n : Int) (hy : InR y) (hm : InR m) (hd : InR d) (hn : InR n) (hM : ¬ Cal.may y m d) (hf : 2600 < y) (oy om od ok : Int) (hof : IsOf n oy om od ok) (ob1 : InR oy) (ob2 : InR om) (ob3 : InR od) (hhi : 2932896 < n) (w : World) (hg : w.cell? ⟨0, 0, none⟩ = some asHandle) (ht : Tab w) :
    Calls Tryd.prog 3 #[.agg #[.int .i64 y, .int .i64 m, .int .i64 d], .int .i64 n] w fun e w' => e = .returned (.bool true) ∧ Below w.heap.size w w' := by
  have hH := Held.start hg
  go_enter Tryd.func3, Tryd.ntmps3
  go_wp2_with (fail)
  go_at_call 18
  (with_reducible refine (rmay_no _ _ _ _ (Held.handle (w0 := w) (by repeat (first | assumption | refine Held.alloc ?_ _ | refine Held.drew ?_))) hy hm hd hM).mono ?_)
  rintro e w1 ⟨rfl, HB⟩
  obtain ⟨hc1, hf1⟩ := bcell HB
  obtain ⟨hd1, hh1⟩ := bcell2 (U := w) (by repeat (first | exact Below.refl _ _ | refine Below.setCell ?_ (by simp <;> omega) _ | refine Below.alloc ?_ (by simp <;> omega) _ | refine Below.drew ?_)) HB
  have hz1 := HB.size
  try simp at hz1
  (try (have z1w0 : w.heap.size < w1.heap.size := (by omega)))
  (try (have z1w1 : w.heap.size + 1 < w1.heap.size := (by omega)))
  (try (have z1w2 : w.heap.size + 1 + 1 < w1.heap.size := (by omega)))
  (try (have z1w3 : w.heap.size + 1 + 1 + 1 < w1.heap.size := (by omega)))
  have hH1 := Held.step (w0 := w) (by repeat (first | assumption | refine Held.alloc ?_ _ | refine Held.drew ?_)) HB
  clear HB
  go_wp2_with (fail)
  go_at_call 20
  (with_reducible refine (days_no _ _ _ _ hy hm hd hM).mono ?_)
  rintro e w2 ⟨rfl, HB⟩
  obtain ⟨hc2, hf2⟩ := bcell HB
  obtain ⟨hd2, hh2⟩ := bcell2 (U := w1) (by repeat (first | exact Below.refl _ _ | refine Below.setCell ?_ (by simp <;> omega) _ | refine Below.alloc ?_ (by simp <;> omega) _ | refine Below.drew ?_)) HB
  have hz2 := HB.size
  try simp at hz2
  (try (have z2w0 : w.heap.size < w2.heap.size := (by omega)))
  (try (have z2w1 : w.heap.size + 1 < w2.heap.size := (by omega)))
  (try (have z2w2 : w.heap.size + 1 + 1 < w2.heap.size := (by omega)))
  (try (have z2w3 : w.heap.size + 1 + 1 + 1 < w2.heap.size := (by omega)))
  (try (have z2w10 : w1.heap.size < w2.heap.size := (by omega)))
  (try (have z2w11 : w1.heap.size + 1 < w2.heap.size := (by omega)))
  (try (have z2w12 : w1.heap.size + 1 + 1 < w2.heap.size := (by omega)))
  (try (have z2w13 : w1.heap.size + 1 + 1 + 1 < w2.heap.size := (by omega)))
  have hH2 := Held.step (w0 := w) (by repeat (first | assumption | refine Held.alloc ?_ _ | refine Held.drew ?_)) HB
  clear HB
  go_wp2_with (fail)
  go_at_call 21
  (with_reducible refine (of_f _ oy om od ok _ hn hof).mono ?_)
  rintro e w3 ⟨rfl, HB⟩
  obtain ⟨hc3, hf3⟩ := bcell HB
  obtain ⟨hd3, hh3⟩ := bcell2 (U := w2) (by repeat (first | exact Below.refl _ _ | refine Below.setCell ?_ (by simp <;> omega) _ | refine Below.alloc ?_ (by simp <;> omega) _ | refine Below.drew ?_)) HB
  have hz3 := HB.size
  try simp at hz3
  (try (have z3w0 : w.heap.size < w3.heap.size := (by omega)))
  (try (have z3w1 : w.heap.size + 1 < w3.heap.size := (by omega)))
  (try (have z3w2 : w.heap.size + 1 + 1 < w3.heap.size := (by omega)))
  (try (have z3w3 : w.heap.size + 1 + 1 + 1 < w3.heap.size := (by omega)))
  (try (have z3w10 : w1.heap.size < w3.heap.size := (by omega)))
  (try (have z3w11 : w1.heap.size + 1 < w3.heap.size := (by omega)))
  (try (have z3w12 : w1.heap.size + 1 + 1 < w3.heap.size := (by omega)))
  (try (have z3w13 : w1.heap.size + 1 + 1 + 1 < w3.heap.size := (by omega)))
  (try (have z3w20 : w2.heap.size < w3.heap.size := (by omega)))
  (try (have z3w21 : w2.heap.size + 1 < w3.heap.size := (by omega)))
  (try (have z3w22 : w2.heap.size + 1 + 1 < w3.heap.size := (by omega)))
  (try (have z3w23 : w2.heap.size + 1 + 1 + 1 < w3.heap.size := (by omega)))
  have hH3 := Held.step (w0 := w) (by repeat (first | assumption | refine Held.alloc ?_ _ | refine Held.drew ?_)) HB
  clear HB
  go_wp2_with (fail)
  have hS0 : SCD w (w.heap.size) (.int .i64 y) (.int .i64 m) (.int .i64 d) (w1.heap.size) (.int .i64 y) (.int .i64 m) (.int .i64 d) (w3.heap.size) (.int .i64 oy) (.int .i64 om) (.int .i64 od) (w3.alloc (.cells #[.int .i64 oy, .int .i64 om, .int .i64 od] 26)) := ⟨Held.alloc hH3 _, ⟨by simp <;> omega, by go_simp, by go_simp, by go_simp⟩, ⟨by simp <;> omega, by go_simp, by go_simp, by go_simp⟩, ⟨by simp <;> omega, by go_simp, by go_simp, by go_simp⟩⟩
  go_region_held3 (fun wx => SCD w (w.heap.size) (.int .i64 y) (.int .i64 m) (.int .i64 d) (w1.heap.size) (.int .i64 y) (.int .i64 m) (.int .i64 d) (w3.heap.size) (.int .i64 oy) (.int .i64 om) (.int .i64 od) wx) (first | assumption | exact SCD.drew (by assumption)) (first | (go_at_call 24; (with_reducible refine (leap_c _ _ (by omega)).mono ?_); rintro e w' ⟨rfl, rfl⟩) | (go_at_call 25; (with_reducible refine (rleap_c _ _ (by omega)).mono ?_); rintro e w' ⟨rfl, rfl⟩) | (go_at_call 22; (with_reducible refine (month_c _ _ _ (by omega) (by omega)).mono ?_); rintro e w' ⟨rfl, rfl⟩) | (go_at_call 23; (with_reducible refine (rmonth_c _ _ _ (by omega) (by omega)).mono ?_); rintro e w' ⟨rfl, hb'⟩; have hS' := SCD.step (by assumption) hb'; clear hb') | (go_at_call 26; (with_reducible refine (check_no _ _ _ _ hy hm hd hM).mono ?_); rintro e w' ⟨rfl, hb'⟩; have hS' := SCD.step (by assumption) hb'; clear hb') | (go_at_call 18; (with_reducible refine (rmay_no _ _ _ _ (Held.handle (w0 := w) (by first | exact And.left (by assumption) | exact Held.alloc (And.left (by assumption)) _)) hy hm hd hM).mono ?_); rintro e w' ⟨rfl, hb'⟩; have hS' := SCD.step (by assumption) hb'; clear hb'))
  all_goals obtain ⟨_, ⟨l0, c00, c01, c02⟩, ⟨l1, c10, c11, c12⟩, ⟨l2, c20, c21, c22⟩⟩ := id (by assumption : SCD w _ _ _ _ _ _ _ _ _ _ _ _ _)
  all_goals go_wp2_with (first | (go_at_call 18; (with_reducible refine (rmay_no _ _ _ _ (Held.handle (w0 := w) (by first | exact And.left (by assumption) | exact Held.alloc (And.left (by assumption)) _)) hy hm hd hM).mono ?_); rintro e w' ⟨rfl, hb'⟩; have hS' := SCD.step (by first | assumption | exact SCD.step (by assumption) ((Below.refl _ _).alloc (Nat.le_refl _) _)) hb'; clear hb'; obtain ⟨_, ⟨l0, c00, c01, c02⟩, ⟨l1, c10, c11, c12⟩, ⟨l2, c20, c21, c22⟩⟩ := id hS') | (go_at_call 27; (with_reducible refine (num07_any _ _ (Held.handle (w0 := w) (by first | exact And.left (by assumption) | exact Held.alloc (And.left (by assumption)) _))).mono ?_); rintro e w' ⟨rfl, hb'⟩; have hS' := SCD.step (by first | assumption | exact SCD.step (by assumption) ((Below.refl _ _).alloc (Nat.le_refl _) _)) hb'; clear hb'; obtain ⟨_, ⟨l0, c00, c01, c02⟩, ⟨l1, c10, c11, c12⟩, ⟨l2, c20, c21, c22⟩⟩ := id hS') | (go_at_call 27; (with_reducible refine (num07_nil _).mono ?_); rintro e w' ⟨rfl, hb'⟩; have hS' := SCD.step (by first | assumption | exact SCD.step (by assumption) ((Below.refl _ _).alloc (Nat.le_refl _) _)) hb'; clear hb'; obtain ⟨_, ⟨l0, c00, c01, c02⟩, ⟨l1, c10, c11, c12⟩, ⟨l2, c20, c21, c22⟩⟩ := id hS') | (go_at_call 27; (with_reducible refine (num07_err _ _ (Held.handle (w0 := w) (by first | exact And.left (by assumption) | exact Held.alloc (And.left (by assumption)) _))).mono ?_); rintro e w' ⟨rfl, hb'⟩; have hS' := SCD.step (by first | assumption | exact SCD.step (by assumption) ((Below.refl _ _).alloc (Nat.le_refl _) _)) hb'; clear hb'; obtain ⟨_, ⟨l0, c00, c01, c02⟩, ⟨l1, c10, c11, c12⟩, ⟨l2, c20, c21, c22⟩⟩ := id hS') | (go_at_call 19; (with_reducible refine (sure07 _ (Held.handle (w0 := w) (by first | exact And.left (by assumption) | exact Held.alloc (And.left (by assumption)) _)) (ht.below (Held.below (w0 := w) (by first | exact And.left (by assumption) | exact Held.alloc (And.left (by assumption)) _)))).mono ?_); rintro e w' ⟨rfl, hb'⟩; have hS' := SCD.step (by first | assumption | exact SCD.step (by assumption) ((Below.refl _ _).alloc (Nat.le_refl _) _)) hb'; clear hb'; obtain ⟨_, ⟨l0, c00, c01, c02⟩, ⟨l1, c10, c11, c12⟩, ⟨l2, c20, c21, c22⟩⟩ := id hS') | (go_at_call 29; (with_reducible refine (rof_f _ oy om od ok _ hn hof).mono ?_); rintro e w' ⟨rfl, hb'⟩; have hS' := SCD.step (by first | assumption | exact SCD.step (by assumption) ((Below.refl _ _).alloc (Nat.le_refl _) _)) hb'; clear hb'; obtain ⟨_, ⟨l0, c00, c01, c02⟩, ⟨l1, c10, c11, c12⟩, ⟨l2, c20, c21, c22⟩⟩ := id hS'))
  all_goals go_ret
  all_goals exact ⟨rfl, Held.below (w0 := w) (And.left (by assumption))⟩
set_option maxRecDepth 100000 in
set_option maxHeartbeats 8000000 in
theorem cdays_nof_mid (y m d n : Int) (hy : InR y) (hm : InR m) (hd : InR d) (hn : InR n) (hM : ¬ Cal.may y m d) (hf : 2600 < y) (oy om od ok : Int) (hof : IsOf n oy om od ok) (ob1 : InR oy) (ob2 : InR om) (ob3 : InR od) (hlo : 300000 < n) (hhi : n ≤ 2932896) (oM : Cal.may oy om od) (hok : errOf ok = .nilIface) (w : World) (hg : w.cell? ⟨0, 0, none⟩ = some asHandle) (ht : Tab w) :
    Calls Tryd.prog 3 #[.agg #[.int .i64 y, .int .i64 m, .int .i64 d], .int .i64 n] w fun e w' => e = .returned (.bool true) ∧ Below w.heap.size w w' := by
  have hH := Held.start hg
  go_enter Tryd.func3, Tryd.ntmps3
  go_wp2_with (fail)
  go_at_call 18
  (with_reducible refine (rmay_no _ _ _ _ (Held.handle (w0 := w) (by repeat (first | assumption | refine Held.alloc ?_ _ | refine Held.drew ?_))) hy hm hd hM).mono ?_)
  rintro e w1 ⟨rfl, HB⟩
  obtain ⟨hc1, hf1⟩ := bcell HB
  obtain ⟨hd1, hh1⟩ := bcell2 (U := w) (by repeat (first | exact Below.refl _ _ | refine Below.setCell ?_ (by simp <;> omega) _ | refine Below.alloc ?_ (by simp <;> omega) _ | refine Below.drew ?_)) HB
  have hz1 := HB.size
  try simp at hz1
  (try (have z1w0 : w.heap.size < w1.heap.size := (by omega)))
  (try (have z1w1 : w.heap.size + 1 < w1.heap.size := (by omega)))
  (try (have z1w2 : w.heap.size + 1 + 1 < w1.heap.size := (by omega)))
  (try (have z1w3 : w.heap.size + 1 + 1 + 1 < w1.heap.size := (by omega)))
  have hH1 := Held.step (w0 := w) (by repeat (first | assumption | refine Held.alloc ?_ _ | refine Held.drew ?_)) HB
  clear HB
  go_wp2_with (fail)
  go_at_call 20
  (with_reducible refine (days_no _ _ _ _ hy hm hd hM).mono ?_)
  rintro e w2 ⟨rfl, HB⟩
  obtain ⟨hc2, hf2⟩ := bcell HB
  obtain ⟨hd2, hh2⟩ := bcell2 (U := w1) (by repeat (first | exact Below.refl _ _ | refine Below.setCell ?_ (by simp <;> omega) _ | refine Below.alloc ?_ (by simp <;> omega) _ | refine Below.drew ?_)) HB
  have hz2 := HB.size
  try simp at hz2
  (try (have z2w0 : w.heap.size < w2.heap.size := (by omega)))
  (try (have z2w1 : w.heap.size + 1 < w2.heap.size := (by omega)))
  (try (have z2w2 : w.heap.size + 1 + 1 < w2.heap.size := (by omega)))
  (try (have z2w3 : w.heap.size + 1 + 1 + 1 < w2.heap.size := (by omega)))
  (try (have z2w10 : w1.heap.size < w2.heap.size := (by omega)))
  (try (have z2w11 : w1.heap.size + 1 < w2.heap.size := (by omega)))
  (try (have z2w12 : w1.heap.size + 1 + 1 < w2.heap.size := (by omega)))
  (try (have z2w13 : w1.heap.size + 1 + 1 + 1 < w2.heap.size := (by omega)))
  have hH2 := Held.step (w0 := w) (by repeat (first | assumption | refine Held.alloc ?_ _ | refine Held.drew ?_)) HB
  clear HB
  go_wp2_with (fail)
  go_at_call 21
  (with_reducible refine (of_f _ oy om od ok _ hn hof).mono ?_)
  rintro e w3 ⟨rfl, HB⟩
  obtain ⟨hc3, hf3⟩ := bcell HB
  obtain ⟨hd3, hh3⟩ := bcell2 (U := w2) (by repeat (first | exact Below.refl _ _ | refine Below.setCell ?_ (by simp <;> omega) _ | refine Below.alloc ?_ (by simp <;> omega) _ | refine Below.drew ?_)) HB
  have hz3 := HB.size
  try simp at hz3
  (try (have z3w0 : w.heap.size < w3.heap.size := (by omega)))
  (try (have z3w1 : w.heap.size + 1 < w3.heap.size := (by omega)))
  (try (have z3w2 : w.heap.size + 1 + 1 < w3.heap.size := (by omega)))
  (try (have z3w3 : w.heap.size + 1 + 1 + 1 < w3.heap.size := (by omega)))
  (try (have z3w10 : w1.heap.size < w3.heap.size := (by omega)))
  (try (have z3w11 : w1.heap.size + 1 < w3.heap.size := (by omega)))
  (try (have z3w12 : w1.heap.size + 1 + 1 < w3.heap.size := (by omega)))
  (try (have z3w13 : w1.heap.size + 1 + 1 + 1 < w3.heap.size := (by omega)))
  (try (have z3w20 : w2.heap.size < w3.heap.size := (by omega)))
  (try (have z3w21 : w2.heap.size + 1 < w3.heap.size := (by omega)))
  (try (have z3w22 : w2.heap.size + 1 + 1 < w3.heap.size := (by omega)))
  (try (have z3w23 : w2.heap.size + 1 + 1 + 1 < w3.heap.size := (by omega)))
  have hH3 := Held.step (w0 := w) (by repeat (first | assumption | refine Held.alloc ?_ _ | refine Held.drew ?_)) HB
  clear HB
  go_wp2_with (fail)
  have hS0 : SCD w (w.heap.size) (.int .i64 y) (.int .i64 m) (.int .i64 d) (w1.heap.size) (.int .i64 y) (.int .i64 m) (.int .i64 d) (w3.heap.size) (.int .i64 oy) (.int .i64 om) (.int .i64 od) (w3.alloc (.cells #[.int .i64 oy, .int .i64 om, .int .i64 od] 26)) := ⟨Held.alloc hH3 _, ⟨by simp <;> omega, by go_simp, by go_simp, by go_simp⟩, ⟨by simp <;> omega, by go_simp, by go_simp, by go_simp⟩, ⟨by simp <;> omega, by go_simp, by go_simp, by go_simp⟩⟩
  go_region_held3 (fun wx => SCD w (w.heap.size) (.int .i64 y) (.int .i64 m) (.int .i64 d) (w1.heap.size) (.int .i64 y) (.int .i64 m) (.int .i64 d) (w3.heap.size) (.int .i64 oy) (.int .i64 om) (.int .i64 od) wx) (first | assumption | exact SCD.drew (by assumption)) (first | (go_at_call 24; (with_reducible refine (leap_c _ _ (by omega)).mono ?_); rintro e w' ⟨rfl, rfl⟩) | (go_at_call 25; (with_reducible refine (rleap_c _ _ (by omega)).mono ?_); rintro e w' ⟨rfl, rfl⟩) | (go_at_call 22; (with_reducible refine (month_c _ _ _ (by omega) (by omega)).mono ?_); rintro e w' ⟨rfl, rfl⟩) | (go_at_call 23; (with_reducible refine (rmonth_c _ _ _ (by omega) (by omega)).mono ?_); rintro e w' ⟨rfl, hb'⟩; have hS' := SCD.step (by assumption) hb'; clear hb') | (go_at_call 26; (with_reducible refine (check_no _ _ _ _ hy hm hd hM).mono ?_); rintro e w' ⟨rfl, hb'⟩; have hS' := SCD.step (by assumption) hb'; clear hb') | (go_at_call 18; (with_reducible refine (rmay_no _ _ _ _ (Held.handle (w0 := w) (by first | exact And.left (by assumption) | exact Held.alloc (And.left (by assumption)) _)) hy hm hd hM).mono ?_); rintro e w' ⟨rfl, hb'⟩; have hS' := SCD.step (by assumption) hb'; clear hb'))
  all_goals obtain ⟨_, ⟨l0, c00, c01, c02⟩, ⟨l1, c10, c11, c12⟩, ⟨l2, c20, c21, c22⟩⟩ := id (by assumption : SCD w _ _ _ _ _ _ _ _ _ _ _ _ _)
  all_goals go_wp2_with (first | (go_at_call 18; (with_reducible refine (rmay_no _ _ _ _ (Held.handle (w0 := w) (by first | exact And.left (by assumption) | exact Held.alloc (And.left (by assumption)) _)) hy hm hd hM).mono ?_); rintro e w' ⟨rfl, hb'⟩; have hS' := SCD.step (by first | assumption | exact SCD.step (by assumption) ((Below.refl _ _).alloc (Nat.le_refl _) _)) hb'; clear hb'; obtain ⟨_, ⟨l0, c00, c01, c02⟩, ⟨l1, c10, c11, c12⟩, ⟨l2, c20, c21, c22⟩⟩ := id hS') | (go_at_call 27; (with_reducible refine (num07_any _ _ (Held.handle (w0 := w) (by first | exact And.left (by assumption) | exact Held.alloc (And.left (by assumption)) _))).mono ?_); rintro e w' ⟨rfl, hb'⟩; have hS' := SCD.step (by first | assumption | exact SCD.step (by assumption) ((Below.refl _ _).alloc (Nat.le_refl _) _)) hb'; clear hb'; obtain ⟨_, ⟨l0, c00, c01, c02⟩, ⟨l1, c10, c11, c12⟩, ⟨l2, c20, c21, c22⟩⟩ := id hS') | (go_at_call 27; (with_reducible refine (num07_nil _).mono ?_); rintro e w' ⟨rfl, hb'⟩; have hS' := SCD.step (by first | assumption | exact SCD.step (by assumption) ((Below.refl _ _).alloc (Nat.le_refl _) _)) hb'; clear hb'; obtain ⟨_, ⟨l0, c00, c01, c02⟩, ⟨l1, c10, c11, c12⟩, ⟨l2, c20, c21, c22⟩⟩ := id hS') | (go_at_call 27; (with_reducible refine (num07_err _ _ (Held.handle (w0 := w) (by first | exact And.left (by assumption) | exact Held.alloc (And.left (by assumption)) _))).mono ?_); rintro e w' ⟨rfl, hb'⟩; have hS' := SCD.step (by first | assumption | exact SCD.step (by assumption) ((Below.refl _ _).alloc (Nat.le_refl _) _)) hb'; clear hb'; obtain ⟨_, ⟨l0, c00, c01, c02⟩, ⟨l1, c10, c11, c12⟩, ⟨l2, c20, c21, c22⟩⟩ := id hS') | (go_at_call 19; (with_reducible refine (sure07 _ (Held.handle (w0 := w) (by first | exact And.left (by assumption) | exact Held.alloc (And.left (by assumption)) _)) (ht.below (Held.below (w0 := w) (by first | exact And.left (by assumption) | exact Held.alloc (And.left (by assumption)) _)))).mono ?_); rintro e w' ⟨rfl, hb'⟩; have hS' := SCD.step (by first | assumption | exact SCD.step (by assumption) ((Below.refl _ _).alloc (Nat.le_refl _) _)) hb'; clear hb'; obtain ⟨_, ⟨l0, c00, c01, c02⟩, ⟨l1, c10, c11, c12⟩, ⟨l2, c20, c21, c22⟩⟩ := id hS') | (go_at_call 26; (with_reducible refine (check_ok _ _ _ _ ob1 ob2 ob3 oM).mono ?_); rintro e w' ⟨rfl, hb'⟩; have hS' := SCD.step (by first | assumption | exact SCD.step (by assumption) ((Below.refl _ _).alloc (Nat.le_refl _) _)) hb'; clear hb'; obtain ⟨_, ⟨l0, c00, c01, c02⟩, ⟨l1, c10, c11, c12⟩, ⟨l2, c20, c21, c22⟩⟩ := id hS'))
  all_goals go_ret
  all_goals exact ⟨rfl, Held.below (w0 := w) (And.left (by assumption))⟩
theorem walkCivilDays (y m d n : Int) (hy : InR y) (hm : InR m) (hd : InR d) (hn : InR n) (w : World) (hg : w.cell? ⟨0, 0, none⟩ = some asHandle) (ht : Tab w) :
    Calls Tryd.prog 3 #[.agg #[.int .i64 y, .int .i64 m, .int .i64 d], .int .i64 n] w fun e w' => e = .returned (.bool true) ∧ Below w.heap.size w w' := by
  obtain ⟨oy, om, od, ok, hof⟩ := isOf_ex n
  obtain ⟨b1, b2, b3⟩ := isOf_bd hof
  have hmid : 300000 < n → n ≤ 2932896 → Cal.may oy om od ∧ errOf ok = .nilIface := by
    intro h1 h2
    rcases hof with ⟨rfl, hM, _⟩ | ⟨_, _, _, _, h⟩
    · exact ⟨hM, errOf_zero⟩
    · omega
  by_cases hM : Cal.may y m d
  · by_cases hf : y ≤ 2600
    · by_cases h1 : n ≤ 300000
      · exact cdays_may_lo y m d n hy hm hd hn hM hf oy om od ok hof b1 b2 b3 h1 w hg ht
      · by_cases h2 : n ≤ 2932896
        · exact cdays_may_mid y m d n hy hm hd hn hM hf oy om od ok hof b1 b2 b3 (by omega) h2 (hmid (by omega) h2).1 (hmid (by omega) h2).2 w hg ht
        · exact cdays_may_hi y m d n hy hm hd hn hM hf oy om od ok hof b1 b2 b3 (by omega) w hg ht
    · exact cdays_far y m d n hy hm hd hn hM (by omega) w hg ht
  · by_cases hf : y ≤ 2600
    · by_cases h1 : n ≤ 300000
      · exact cdays_no_lo y m d n hy hm hd hn hM hf oy om od ok hof b1 b2 b3 h1 w hg ht
      · by_cases h2 : n ≤ 2932896
        · exact cdays_no_mid y m d n hy hm hd hn hM hf oy om od ok hof b1 b2 b3 (by omega) h2 (hmid (by omega) h2).1 (hmid (by omega) h2).2 w hg ht
        · exact cdays_no_hi y m d n hy hm hd hn hM hf oy om od ok hof b1 b2 b3 (by omega) w hg ht
    · by_cases h1 : n ≤ 300000
      · exact cdays_nof_lo y m d n hy hm hd hn hM (by omega) oy om od ok hof b1 b2 b3 h1 w hg ht
      · by_cases h2 : n ≤ 2932896
        · exact cdays_nof_mid y m d n hy hm hd hn hM (by omega) oy om od ok hof b1 b2 b3 (by omega) h2 (hmid (by omega) h2).1 (hmid (by omega) h2).2 w hg ht
        · exact cdays_nof_hi y m d n hy hm hd hn hM (by omega) oy om od ok hof b1 b2 b3 (by omega) w hg ht
end Go.Proofs.YtengchkiejpglaaDoor
