/-
  Layer 26: the statement FloorTells.
-/
import Derived.Test.YtengchkiejpglaaDoorW26c
import Derived.Deep.RegionHeld3
namespace Go.Proofs.YtengchkiejpglaaDoor
open Go.RowKit Go.Extern.Stop Go.Stop Go.Extern
set_option linter.unusedVariables false
set_option linter.unusedSimpArgs false
set_option maxRecDepth 100000 in
set_option maxHeartbeats 8000000 in
theorem sure26 (w : World) (hg : w.cell? ⟨0, 0, none⟩ = some asHandle) : Calls Tryd.prog 72 #[] w fun e w' => e = .returned (.bool true) ∧ Below w.heap.size w w' := by
  have hH := Held.start hg
  have s1 : sat (5 - 5) = 0 := by decide
  have s2 : sat (5 - 3) = 2 := by decide
  have s3 : sat 0 = 0 := by decide
  have s4 : sat 2 = 2 := by decide
  have k1 : marginF true 5 4 10 = ⟨true, 10, 0⟩ := by rfl
  have k2 : marginF true 5 (-1) 10 = ⟨false, 0, 1⟩ := by rfl
  have e1 := errOf_zero
  go_enter Tryd.func72, Tryd.ntmps72
  go_wp2_with (fail)
  go_at_call 65
  (with_reducible refine (take_set false 0 5 _ (by omega) (by omega) (Or.inl rfl)).mono ?_)
  rintro e w1 ⟨rfl, HB⟩
  obtain ⟨hc1, hf1⟩ := bcell HB
  obtain ⟨hd1, hh1⟩ := bcell2 (U := w) (by repeat (first | exact Below.refl _ _ | refine Below.setCell ?_ (by simp <;> omega) _ | refine Below.alloc ?_ (by simp <;> omega) _ | refine Below.drew ?_)) HB
  have hz1 := HB.size
  try simp at hz1
  (try (have z1w0 : w.heap.size < w1.heap.size := (by omega)))
  (try (have z1w1 : w.heap.size + 1 < w1.heap.size := (by omega)))
  (try (have z1w2 : w.heap.size + 1 + 1 < w1.heap.size := (by omega)))
  (try (have z1w3 : w.heap.size + 1 + 1 + 1 < w1.heap.size := (by omega)))
  have hH1 := Held.step (w0 := w) (by repeat (first | assumption | refine Held.alloc ?_ _ | refine Held.drew ?_)) HB
  clear HB
  go_wp2_with (fail)
  go_at_call 65
  (with_reducible refine (take_keep 5 3 _ (by omega) (by omega) (by omega)).mono ?_)
  rintro e w2 ⟨rfl, HB⟩
  obtain ⟨hc2, hf2⟩ := bcell HB
  obtain ⟨hd2, hh2⟩ := bcell2 (U := w1) (by repeat (first | exact Below.refl _ _ | refine Below.setCell ?_ (by simp <;> omega) _ | refine Below.alloc ?_ (by simp <;> omega) _ | refine Below.drew ?_)) HB
  have hz2 := HB.size
  try simp at hz2
  (try (have z2w0 : w.heap.size < w2.heap.size := (by omega)))
  (try (have z2w1 : w.heap.size + 1 < w2.heap.size := (by omega)))
  (try (have z2w2 : w.heap.size + 1 + 1 < w2.heap.size := (by omega)))
  (try (have z2w3 : w.heap.size + 1 + 1 + 1 < w2.heap.size := (by omega)))
  (try (have z2w10 : w1.heap.size < w2.heap.size := (by omega)))
  (try (have z2w11 : w1.heap.size + 1 < w2.heap.size := (by omega)))
  (try (have z2w12 : w1.heap.size + 1 + 1 < w2.heap.size := (by omega)))
  (try (have z2w13 : w1.heap.size + 1 + 1 + 1 < w2.heap.size := (by omega)))
  have hH2 := Held.step (w0 := w) (by repeat (first | assumption | refine Held.alloc ?_ _ | refine Held.drew ?_)) HB
  clear HB
  go_wp2_with (fail)
  go_at_call 67
  (with_reducible refine (margin_f true 5 4 10 _ (by omega) (by omega) (by omega)).mono ?_)
  rintro e w3 ⟨rfl, HB⟩
  obtain ⟨hc3, hf3⟩ := bcell HB
  obtain ⟨hd3, hh3⟩ := bcell2 (U := w2) (by repeat (first | exact Below.refl _ _ | refine Below.setCell ?_ (by simp <;> omega) _ | refine Below.alloc ?_ (by simp <;> omega) _ | refine Below.drew ?_)) HB
  have hz3 := HB.size
  try simp at hz3
  (try (have z3w0 : w.heap.size < w3.heap.size := (by omega)))
  (try (have z3w1 : w.heap.size + 1 < w3.heap.size := (by omega)))
  (try (have z3w2 : w.heap.size + 1 + 1 < w3.heap.size := (by omega)))
  (try (have z3w3 : w.heap.size + 1 + 1 + 1 < w3.heap.size := (by omega)))
  (try (have z3w10 : w1.heap.size < w3.heap.size := (by omega)))
  (try (have z3w11 : w1.heap.size + 1 < w3.heap.size := (by omega)))
  (try (have z3w12 : w1.heap.size + 1 + 1 < w3.heap.size := (by omega)))
  (try (have z3w13 : w1.heap.size + 1 + 1 + 1 < w3.heap.size := (by omega)))
  (try (have z3w20 : w2.heap.size < w3.heap.size := (by omega)))
  (try (have z3w21 : w2.heap.size + 1 < w3.heap.size := (by omega)))
  (try (have z3w22 : w2.heap.size + 1 + 1 < w3.heap.size := (by omega)))
  (try (have z3w23 : w2.heap.size + 1 + 1 + 1 < w3.heap.size := (by omega)))
  have hH3 := Held.step (w0 := w) (by repeat (first | assumption | refine Held.alloc ?_ _ | refine Held.drew ?_)) HB
  clear HB
  rw [k1]
  go_wp2_with (fail)
  go_at_call 67
  (with_reducible refine (margin_f true 5 (-1) 10 _ (by omega) (by omega) (by omega)).mono ?_)
  rintro e w4 ⟨rfl, HB⟩
  obtain ⟨hc4, hf4⟩ := bcell HB
  obtain ⟨hd4, hh4⟩ := bcell2 (U := w3) (by repeat (first | exact Below.refl _ _ | refine Below.setCell ?_ (by simp <;> omega) _ | refine Below.alloc ?_ (by simp <;> omega) _ | refine Below.drew ?_)) HB
  have hz4 := HB.size
  try simp at hz4
  (try (have z4w0 : w.heap.size < w4.heap.size := (by omega)))
  (try (have z4w1 : w.heap.size + 1 < w4.heap.size := (by omega)))
  (try (have z4w2 : w.heap.size + 1 + 1 < w4.heap.size := (by omega)))
  (try (have z4w3 : w.heap.size + 1 + 1 + 1 < w4.heap.size := (by omega)))
  (try (have z4w10 : w1.heap.size < w4.heap.size := (by omega)))
  (try (have z4w11 : w1.heap.size + 1 < w4.heap.size := (by omega)))
  (try (have z4w12 : w1.heap.size + 1 + 1 < w4.heap.size := (by omega)))
  (try (have z4w13 : w1.heap.size + 1 + 1 + 1 < w4.heap.size := (by omega)))
  (try (have z4w20 : w2.heap.size < w4.heap.size := (by omega)))
  (try (have z4w21 : w2.heap.size + 1 < w4.heap.size := (by omega)))
  (try (have z4w22 : w2.heap.size + 1 + 1 < w4.heap.size := (by omega)))
  (try (have z4w23 : w2.heap.size + 1 + 1 + 1 < w4.heap.size := (by omega)))
  (try (have z4w30 : w3.heap.size < w4.heap.size := (by omega)))
  (try (have z4w31 : w3.heap.size + 1 < w4.heap.size := (by omega)))
  (try (have z4w32 : w3.heap.size + 1 + 1 < w4.heap.size := (by omega)))
  (try (have z4w33 : w3.heap.size + 1 + 1 + 1 < w4.heap.size := (by omega)))
  have hH4 := Held.step (w0 := w) (by repeat (first | assumption | refine Held.alloc ?_ _ | refine Held.drew ?_)) HB
  clear HB
  rw [k2]
  go_wp2_with (first | (go_at_call 71; (with_reducible refine (num26_any _ _ (Held.handle (w0 := w) (by repeat (first | assumption | refine Held.alloc ?_ _ | refine Held.drew ?_)))).mono ?_); rintro e w' ⟨rfl, hb'⟩; obtain ⟨hc, hf⟩ := bcell hb'; have hz := hb'.size; (try (simp at hz)); have hH' := Held.step (w0 := w) (by repeat (first | assumption | refine Held.alloc ?_ _ | refine Held.drew ?_)) hb'; clear hb'))
  go_ret
  exact ⟨rfl, Held.below (w0 := w) (by assumption)⟩
/-- A block of so many cells is there, and holds these. -/
abbrev B1 (b : Nat) (x : Value) (wx : World) : Prop := b < wx.heap.size ∧ wx.cell? ⟨b, 0, none⟩ = some x
abbrev B2 (b : Nat) (x y : Value) (wx : World) : Prop := b < wx.heap.size ∧ wx.cell? ⟨b, 0, none⟩ = some x ∧ wx.cell? ⟨b, 1, none⟩ = some y
abbrev B3 (b : Nat) (x y z : Value) (wx : World) : Prop := b < wx.heap.size ∧ wx.cell? ⟨b, 0, none⟩ = some x ∧ wx.cell? ⟨b, 1, none⟩ = some y ∧ wx.cell? ⟨b, 2, none⟩ = some z
theorem B1.step {b : Nat} {x : Value} {wx w' : World} (h : B1 b x wx) (hb : Below wx.heap.size wx w') : B1 b x w' :=
  ⟨Nat.lt_of_lt_of_le h.1 hb.size, by rw [hb.cell (p := ⟨b, 0, none⟩) h.1]; exact h.2⟩
theorem B2.step {b : Nat} {x y : Value} {wx w' : World} (h : B2 b x y wx) (hb : Below wx.heap.size wx w') : B2 b x y w' :=
  ⟨Nat.lt_of_lt_of_le h.1 hb.size, by rw [hb.cell (p := ⟨b, 0, none⟩) h.1]; exact h.2.1, by rw [hb.cell (p := ⟨b, 1, none⟩) h.1]; exact h.2.2⟩
theorem B3.step {b : Nat} {x y z : Value} {wx w' : World} (h : B3 b x y z wx) (hb : Below wx.heap.size wx w') : B3 b x y z w' :=
  ⟨Nat.lt_of_lt_of_le h.1 hb.size, by rw [hb.cell (p := ⟨b, 0, none⟩) h.1]; exact h.2.1, by rw [hb.cell (p := ⟨b, 1, none⟩) h.1]; exact h.2.2.1, by rw [hb.cell (p := ⟨b, 2, none⟩) h.1]; exact h.2.2.2⟩
abbrev SFT (w : World) (b0 : Nat) (v00 v01 : Value) (b1 : Nat) (v10 v11 : Value) (b2 : Nat) (v20 v21 : Value) (b3 : Nat) (v30 v31 : Value) (b4 : Nat) (v40 v41 : Value) (b5 : Nat) (v50 v51 : Value) (wx : World) : Prop := Held w wx ∧ B2 b0 v00 v01 wx ∧ B2 b1 v10 v11 wx ∧ B2 b2 v20 v21 wx ∧ B2 b3 v30 v31 wx ∧ B2 b4 v40 v41 wx ∧ B2 b5 v50 v51 wx
theorem SFT.step {w : World} {b0 : Nat} {v00 v01 : Value} {b1 : Nat} {v10 v11 : Value} {b2 : Nat} {v20 v21 : Value} {b3 : Nat} {v30 v31 : Value} {b4 : Nat} {v40 v41 : Value} {b5 : Nat} {v50 v51 : Value} {wx w' : World} (h : SFT w b0 v00 v01 b1 v10 v11 b2 v20 v21 b3 v30 v31 b4 v40 v41 b5 v50 v51 wx) (hb : Below wx.heap.size wx w') : SFT w b0 v00 v01 b1 v10 v11 b2 v20 v21 b3 v30 v31 b4 v40 v41 b5 v50 v51 w' := ⟨(h.1).step hb, (h.2.1).step hb, (h.2.2.1).step hb, (h.2.2.2.1).step hb, (h.2.2.2.2.1).step hb, (h.2.2.2.2.2.1).step hb, (h.2.2.2.2.2.2).step hb⟩
theorem SFT.drew {w : World} {b0 : Nat} {v00 v01 : Value} {b1 : Nat} {v10 v11 : Value} {b2 : Nat} {v20 v21 : Value} {b3 : Nat} {v30 v31 : Value} {b4 : Nat} {v40 v41 : Value} {b5 : Nat} {v50 v51 : Value} {wx : World} (h : SFT w b0 v00 v01 b1 v10 v11 b2 v20 v21 b3 v30 v31 b4 v40 v41 b5 v50 v51 wx) : SFT w b0 v00 v01 b1 v10 v11 b2 v20 v21 b3 v30 v31 b4 v40 v41 b5 v50 v51 wx.drew := h.step (Below.refl _ _).drew
set_option maxRecDepth 100000 in
set_option maxHeartbeats 16000000 in
theorem walkFloorTells (st : Bool) (m t b q : Int) (hm : InR m) (ht : InR t) (hb0 : InR b) (hq : InR q) (w : World) (hg : w.cell? ⟨0, 0, none⟩ = some asHandle) :
    Calls Tryd.prog 13 #[.agg #[.bool st, .int .i64 (m)], .int .i64 t, .agg #[.int .i64 b, .int .i64 q]] w fun e w' => e = .returned (.bool true) ∧ Below w.heap.size w w' := by
  have hH := Held.start hg
  go_enter Tryd.func13, Tryd.ntmps13
  go_wp2_with (fail)
  go_at_call 65
  (with_reducible refine (take_f _ _ _ _ hm ht).mono ?_)
  rintro e w1 ⟨rfl, HB⟩
  obtain ⟨hc1, hf1⟩ := bcell HB
  obtain ⟨hd1, hh1⟩ := bcell2 (U := w) (by repeat (first | exact Below.refl _ _ | refine Below.setCell ?_ (by simp <;> omega) _ | refine Below.alloc ?_ (by simp <;> omega) _ | refine Below.drew ?_)) HB
  have hz1 := HB.size
  try simp at hz1
  (try (have z1w0 : w.heap.size < w1.heap.size := (by omega)))
  (try (have z1w1 : w.heap.size + 1 < w1.heap.size := (by omega)))
  (try (have z1w2 : w.heap.size + 1 + 1 < w1.heap.size := (by omega)))
  (try (have z1w3 : w.heap.size + 1 + 1 + 1 < w1.heap.size := (by omega)))
  have hH1 := Held.step (w0 := w) (by repeat (first | assumption | refine Held.alloc ?_ _ | refine Held.drew ?_)) HB
  clear HB
  go_wp2_with (fail)
  go_at_call 66
  (with_reducible refine (rtake_f _ _ _ _ hm ht).mono ?_)
  rintro e w2 ⟨rfl, HB⟩
  obtain ⟨hc2, hf2⟩ := bcell HB
  obtain ⟨hd2, hh2⟩ := bcell2 (U := w1) (by repeat (first | exact Below.refl _ _ | refine Below.setCell ?_ (by simp <;> omega) _ | refine Below.alloc ?_ (by simp <;> omega) _ | refine Below.drew ?_)) HB
  have hz2 := HB.size
  try simp at hz2
  (try (have z2w0 : w.heap.size < w2.heap.size := (by omega)))
  (try (have z2w1 : w.heap.size + 1 < w2.heap.size := (by omega)))
  (try (have z2w2 : w.heap.size + 1 + 1 < w2.heap.size := (by omega)))
  (try (have z2w3 : w.heap.size + 1 + 1 + 1 < w2.heap.size := (by omega)))
  (try (have z2w10 : w1.heap.size < w2.heap.size := (by omega)))
  (try (have z2w11 : w1.heap.size + 1 < w2.heap.size := (by omega)))
  (try (have z2w12 : w1.heap.size + 1 + 1 < w2.heap.size := (by omega)))
  (try (have z2w13 : w1.heap.size + 1 + 1 + 1 < w2.heap.size := (by omega)))
  have hH2 := Held.step (w0 := w) (by repeat (first | assumption | refine Held.alloc ?_ _ | refine Held.drew ?_)) HB
  clear HB
  go_wp2_with (fail)
  go_at_call 67
  (with_reducible refine (margin_f _ _ _ _ _ hm hb0 hq).mono ?_)
  rintro e w3 ⟨rfl, HB⟩
  obtain ⟨hc3, hf3⟩ := bcell HB
  obtain ⟨hd3, hh3⟩ := bcell2 (U := w2) (by repeat (first | exact Below.refl _ _ | refine Below.setCell ?_ (by simp <;> omega) _ | refine Below.alloc ?_ (by simp <;> omega) _ | refine Below.drew ?_)) HB
  have hz3 := HB.size
  try simp at hz3
  (try (have z3w0 : w.heap.size < w3.heap.size := (by omega)))
  (try (have z3w1 : w.heap.size + 1 < w3.heap.size := (by omega)))
  (try (have z3w2 : w.heap.size + 1 + 1 < w3.heap.size := (by omega)))
  (try (have z3w3 : w.heap.size + 1 + 1 + 1 < w3.heap.size := (by omega)))
  (try (have z3w10 : w1.heap.size < w3.heap.size := (by omega)))
  (try (have z3w11 : w1.heap.size + 1 < w3.heap.size := (by omega)))
  (try (have z3w12 : w1.heap.size + 1 + 1 < w3.heap.size := (by omega)))
  (try (have z3w13 : w1.heap.size + 1 + 1 + 1 < w3.heap.size := (by omega)))
  (try (have z3w20 : w2.heap.size < w3.heap.size := (by omega)))
  (try (have z3w21 : w2.heap.size + 1 < w3.heap.size := (by omega)))
  (try (have z3w22 : w2.heap.size + 1 + 1 < w3.heap.size := (by omega)))
  (try (have z3w23 : w2.heap.size + 1 + 1 + 1 < w3.heap.size := (by omega)))
  have hH3 := Held.step (w0 := w) (by repeat (first | assumption | refine Held.alloc ?_ _ | refine Held.drew ?_)) HB
  clear HB
  go_wp2_with (fail)
  go_at_call 68
  (with_reducible refine (rmargin_f _ _ _ _ _ hm hb0 hq).mono ?_)
  rintro e w4 ⟨rfl, HB⟩
  obtain ⟨hc4, hf4⟩ := bcell HB
  obtain ⟨hd4, hh4⟩ := bcell2 (U := w3) (by repeat (first | exact Below.refl _ _ | refine Below.setCell ?_ (by simp <;> omega) _ | refine Below.alloc ?_ (by simp <;> omega) _ | refine Below.drew ?_)) HB
  have hz4 := HB.size
  try simp at hz4
  (try (have z4w0 : w.heap.size < w4.heap.size := (by omega)))
  (try (have z4w1 : w.heap.size + 1 < w4.heap.size := (by omega)))
  (try (have z4w2 : w.heap.size + 1 + 1 < w4.heap.size := (by omega)))
  (try (have z4w3 : w.heap.size + 1 + 1 + 1 < w4.heap.size := (by omega)))
  (try (have z4w10 : w1.heap.size < w4.heap.size := (by omega)))
  (try (have z4w11 : w1.heap.size + 1 < w4.heap.size := (by omega)))
  (try (have z4w12 : w1.heap.size + 1 + 1 < w4.heap.size := (by omega)))
  (try (have z4w13 : w1.heap.size + 1 + 1 + 1 < w4.heap.size := (by omega)))
  (try (have z4w20 : w2.heap.size < w4.heap.size := (by omega)))
  (try (have z4w21 : w2.heap.size + 1 < w4.heap.size := (by omega)))
  (try (have z4w22 : w2.heap.size + 1 + 1 < w4.heap.size := (by omega)))
  (try (have z4w23 : w2.heap.size + 1 + 1 + 1 < w4.heap.size := (by omega)))
  (try (have z4w30 : w3.heap.size < w4.heap.size := (by omega)))
  (try (have z4w31 : w3.heap.size + 1 < w4.heap.size := (by omega)))
  (try (have z4w32 : w3.heap.size + 1 + 1 < w4.heap.size := (by omega)))
  (try (have z4w33 : w3.heap.size + 1 + 1 + 1 < w4.heap.size := (by omega)))
  have hH4 := Held.step (w0 := w) (by repeat (first | assumption | refine Held.alloc ?_ _ | refine Held.drew ?_)) HB
  clear HB
  go_wp2_with (fail)
  have hS0 : SFT w (w.heap.size) (.bool st) (.int .i64 m) (w.heap.size + 1 + 1) (.bool st) (.int .i64 m) (w1.heap.size) (.bool true) (.int .i64 (raiseF st m t)) (w2.heap.size) (.bool true) (.int .i64 (raiseF st m t)) (w3.heap.size) (.bool (marginF st m b q).b) (.int .i64 (marginF st m b q).x) (w4.heap.size) (.bool (marginF st m b q).b) (.int .i64 (marginF st m b q).x) (w4.alloc (.cells #[.bool (marginF st m b q).b, .int .i64 (marginF st m b q).x] 83)) := ⟨Held.alloc hH4 _, ⟨by simp <;> omega, by go_simp, by go_simp⟩, ⟨by simp <;> omega, by go_simp, by go_simp⟩, ⟨by simp <;> omega, by go_simp, by go_simp⟩, ⟨by simp <;> omega, by go_simp, by go_simp⟩, ⟨by simp <;> omega, by go_simp, by go_simp⟩, ⟨by simp <;> omega, by go_simp, by go_simp⟩⟩
  go_region_held3 (fun wx => SFT w (w.heap.size) (.bool st) (.int .i64 m) (w.heap.size + 1 + 1) (.bool st) (.int .i64 m) (w1.heap.size) (.bool true) (.int .i64 (raiseF st m t)) (w2.heap.size) (.bool true) (.int .i64 (raiseF st m t)) (w3.heap.size) (.bool (marginF st m b q).b) (.int .i64 (marginF st m b q).x) (w4.heap.size) (.bool (marginF st m b q).b) (.int .i64 (marginF st m b q).x) wx) (first | assumption | exact SFT.drew (by assumption)) (first | (go_at_call 71; (with_reducible refine (num26_any _ _ (Held.handle (w0 := w) (And.left (by assumption)))).mono ?_); rintro e w' ⟨rfl, hb'⟩; have hS' := SFT.step (by assumption) hb'; clear hb') | (go_at_call 69; (with_reducible refine (raise_f _ _ _ _ hm ht).mono ?_); rintro e w' ⟨rfl, hb'⟩; have hS' := SFT.step (by assumption) hb'; clear hb') | (go_at_call 70; (with_reducible refine (rraise_f _ _ _ _ hm ht).mono ?_); rintro e w' ⟨rfl, hb'⟩; have hS' := SFT.step (by assumption) hb'; clear hb') | (go_at_call 72; (with_reducible refine (sure26 _ (Held.handle (w0 := w) (And.left (by assumption)))).mono ?_); rintro e w' ⟨rfl, hb'⟩; have hS' := SFT.step (by assumption) hb'; clear hb'))
  go_wp2_with (fail)
  go_ret
  exact ⟨rfl, Held.below (w0 := w) (And.left (by assumption))⟩
end Go.Proofs.YtengchkiejpglaaDoor
