/-
  Layer 8: the statements DaytimeSeconds, DaytimeStamps.
-/
import Derived.Test.YtengchkiejpglaaDoorV08
import Derived.Deep.RegionHeld3
namespace Go.Proofs.YtengchkiejpglaaDoor
open Go.RowKit Go.Extern.Stop Go.Stop Go.Extern
set_option linter.unusedVariables false
set_option linter.unusedSimpArgs false
abbrev SDS (w : World) (b0 : Nat) (v00 v01 v02 : Value) (wx : World) : Prop := Held w wx ∧ B3 b0 v00 v01 v02 wx
theorem SDS.step {w : World} {b0 : Nat} {v00 v01 v02 : Value} {wx w' : World} (h : SDS w b0 v00 v01 v02 wx) (hb : Below wx.heap.size wx w') : SDS w b0 v00 v01 v02 w' := ⟨(h.1).step hb, (h.2).step hb⟩
theorem SDS.drew {w : World} {b0 : Nat} {v00 v01 v02 : Value} {wx : World} (h : SDS w b0 v00 v01 v02 wx) : SDS w b0 v00 v01 v02 wx.drew := h.step (Below.refl _ _).drew
set_option maxRecDepth 100000 in
set_option maxHeartbeats 8000000 in
theorem dsecs_ok_lo (h m s n : Int) (hh : InR h) (hm : InR m) (hs : InR s) (hn : InR n) (hT : TimeOK h m s) (hx : n < 0) (oh om os : Int) (g : OfT n oh om os 1) (z1 : oh = 0) (z2 : om = 0) (z3 : os = 0) (w : World) (hg : w.cell? ⟨0, 0, none⟩ = some asHandle) (ht : Tab w) :
    Calls Tryd.prog 6 #[.agg #[.int .i64 h, .int .i64 m, .int .i64 s], .int .i64 n] w fun e w' => e = .returned (.bool true) ∧ Below w.heap.size w w' := by
  have hH := Held.start hg
  subst z1 z2 z3
  have hsn := secF_nonneg hT
  go_enter Tryd.func6, Tryd.ntmps6
  go_wp2_with (fail)
  go_at_call 36
  (with_reducible refine (dsec_ok _ _ _ _ (Held.handle (w0 := w) (by repeat (first | assumption | refine Held.alloc ?_ _ | refine Held.drew ?_))) hh hm hs hT).mono ?_)
  rintro e w1 ⟨rfl, HB⟩
  obtain ⟨hc1, hf1⟩ := bcell HB
  obtain ⟨hd1, hh1⟩ := bcell2 (U := w) (by repeat (first | exact Below.refl _ _ | refine Below.setCell ?_ (by simp <;> omega) _ | refine Below.alloc ?_ (by simp <;> omega) _ | refine Below.drew ?_)) HB
  have hz1 := HB.size
  try simp at hz1
  (try (have z1w0 : w.heap.size < w1.heap.size := (by omega)))
  (try (have z1w1 : w.heap.size + 1 < w1.heap.size := (by omega)))
  have hH1 := Held.step (w0 := w) (by repeat (first | assumption | refine Held.alloc ?_ _ | refine Held.drew ?_)) HB
  clear HB
  go_wp2_with (fail)
  go_at_call 37
  (with_reducible refine (dof_f _ 0 0 0 1 _ (Held.handle (w0 := w) (by repeat (first | assumption | refine Held.alloc ?_ _ | refine Held.drew ?_))) hn g).mono ?_)
  rintro e w2 ⟨rfl, HB⟩
  obtain ⟨hc2, hf2⟩ := bcell HB
  obtain ⟨hd2, hh2⟩ := bcell2 (U := w1) (by repeat (first | exact Below.refl _ _ | refine Below.setCell ?_ (by simp <;> omega) _ | refine Below.alloc ?_ (by simp <;> omega) _ | refine Below.drew ?_)) HB
  have hz2 := HB.size
  try simp at hz2
  (try (have z2w0 : w.heap.size < w2.heap.size := (by omega)))
  (try (have z2w1 : w.heap.size + 1 < w2.heap.size := (by omega)))
  (try (have z2w10 : w1.heap.size < w2.heap.size := (by omega)))
  (try (have z2w11 : w1.heap.size + 1 < w2.heap.size := (by omega)))
  have hH2 := Held.step (w0 := w) (by repeat (first | assumption | refine Held.alloc ?_ _ | refine Held.drew ?_)) HB
  clear HB
  rw [errOf_ne (by decide : ¬ (1 : Int) = 0)]
  go_wp2_with (fail)
  go_at_call 38
  (with_reducible refine (rsec_ok _ _ _ _ hh hm hs hT).mono ?_)
  rintro e w3 ⟨rfl, HB⟩
  obtain ⟨hc3, hf3⟩ := bcell HB
  obtain ⟨hd3, hh3⟩ := bcell2 (U := w2) (by repeat (first | exact Below.refl _ _ | refine Below.setCell ?_ (by simp <;> omega) _ | refine Below.alloc ?_ (by simp <;> omega) _ | refine Below.drew ?_)) HB
  have hz3 := HB.size
  try simp at hz3
  (try (have z3w0 : w.heap.size < w3.heap.size := (by omega)))
  (try (have z3w1 : w.heap.size + 1 < w3.heap.size := (by omega)))
  (try (have z3w10 : w1.heap.size < w3.heap.size := (by omega)))
  (try (have z3w11 : w1.heap.size + 1 < w3.heap.size := (by omega)))
  (try (have z3w20 : w2.heap.size < w3.heap.size := (by omega)))
  (try (have z3w21 : w2.heap.size + 1 < w3.heap.size := (by omega)))
  have hH3 := Held.step (w0 := w) (by repeat (first | assumption | refine Held.alloc ?_ _ | refine Held.drew ?_)) HB
  clear HB
  go_wp2_with (fail)
  go_at_call 39
  (with_reducible refine (dcheck_ok _ _ _ _ (Held.handle (w0 := w) (by repeat (first | assumption | refine Held.alloc ?_ _ | refine Held.drew ?_))) hh hm hs hT).mono ?_)
  rintro e w4 ⟨rfl, HB⟩
  obtain ⟨hc4, hf4⟩ := bcell HB
  obtain ⟨hd4, hh4⟩ := bcell2 (U := w3) (by repeat (first | exact Below.refl _ _ | refine Below.setCell ?_ (by simp <;> omega) _ | refine Below.alloc ?_ (by simp <;> omega) _ | refine Below.drew ?_)) HB
  have hz4 := HB.size
  try simp at hz4
  (try (have z4w0 : w.heap.size < w4.heap.size := (by omega)))
  (try (have z4w1 : w.heap.size + 1 < w4.heap.size := (by omega)))
  (try (have z4w10 : w1.heap.size < w4.heap.size := (by omega)))
  (try (have z4w11 : w1.heap.size + 1 < w4.heap.size := (by omega)))
  (try (have z4w20 : w2.heap.size < w4.heap.size := (by omega)))
  (try (have z4w21 : w2.heap.size + 1 < w4.heap.size := (by omega)))
  (try (have z4w30 : w3.heap.size < w4.heap.size := (by omega)))
  (try (have z4w31 : w3.heap.size + 1 < w4.heap.size := (by omega)))
  have hH4 := Held.step (w0 := w) (by repeat (first | assumption | refine Held.alloc ?_ _ | refine Held.drew ?_)) HB
  clear HB
  have hS0 : SDS w (w2.heap.size) (.int .i64 0) (.int .i64 0) (.int .i64 0) w4 := ⟨hH4, ⟨by omega, by go_simp, by go_simp, by go_simp⟩⟩
  obtain ⟨_, ⟨l0, c00, c01, c02⟩⟩ := id hS0
  go_wp2_with (first | (go_at_call 40; (with_reducible refine (num08_err _ _ (Held.handle (w0 := w) (by first | exact And.left (by assumption) | exact Held.drew (And.left (by assumption))))).mono ?_); rintro e w' ⟨rfl, hb'⟩; have hS' := SDS.step (by first | assumption | exact SDS.step (by assumption) ((Below.refl _ _).alloc (Nat.le_refl _) _)) hb'; clear hb'; obtain ⟨_, ⟨l0, c00, c01, c02⟩⟩ := id hS') | (go_at_call 41; (with_reducible refine (sure08 _ (Held.handle (w0 := w) (by first | exact And.left (by assumption) | exact Held.drew (And.left (by assumption)))) (ht.below (Held.below (w0 := w) (by first | exact And.left (by assumption) | exact Held.drew (And.left (by assumption)))))).mono ?_); rintro e w' ⟨rfl, hb'⟩; have hS' := SDS.step (by first | assumption | exact SDS.step (by assumption) ((Below.refl _ _).alloc (Nat.le_refl _) _)) hb'; clear hb'; obtain ⟨_, ⟨l0, c00, c01, c02⟩⟩ := id hS'))
  all_goals go_ret
  all_goals exact ⟨rfl, Held.below (w0 := w) (And.left (by assumption))⟩
set_option maxRecDepth 100000 in
set_option maxHeartbeats 8000000 in
theorem dsecs_ok_hi (h m s n : Int) (hh : InR h) (hm : InR m) (hs : InR s) (hn : InR n) (hT : TimeOK h m s) (hx : 86400 < n) (oh om os : Int) (g : OfT n oh om os 1) (z1 : oh = 0) (z2 : om = 0) (z3 : os = 0) (w : World) (hg : w.cell? ⟨0, 0, none⟩ = some asHandle) (ht : Tab w) :
    Calls Tryd.prog 6 #[.agg #[.int .i64 h, .int .i64 m, .int .i64 s], .int .i64 n] w fun e w' => e = .returned (.bool true) ∧ Below w.heap.size w w' := by
  have hH := Held.start hg
  subst z1 z2 z3
  have hsn := secF_nonneg hT
  go_enter Tryd.func6, Tryd.ntmps6
  go_wp2_with (fail)
  go_at_call 36
  (with_reducible refine (dsec_ok _ _ _ _ (Held.handle (w0 := w) (by repeat (first | assumption | refine Held.alloc ?_ _ | refine Held.drew ?_))) hh hm hs hT).mono ?_)
  rintro e w1 ⟨rfl, HB⟩
  obtain ⟨hc1, hf1⟩ := bcell HB
  obtain ⟨hd1, hh1⟩ := bcell2 (U := w) (by repeat (first | exact Below.refl _ _ | refine Below.setCell ?_ (by simp <;> omega) _ | refine Below.alloc ?_ (by simp <;> omega) _ | refine Below.drew ?_)) HB
  have hz1 := HB.size
  try simp at hz1
  (try (have z1w0 : w.heap.size < w1.heap.size := (by omega)))
  (try (have z1w1 : w.heap.size + 1 < w1.heap.size := (by omega)))
  have hH1 := Held.step (w0 := w) (by repeat (first | assumption | refine Held.alloc ?_ _ | refine Held.drew ?_)) HB
  clear HB
  go_wp2_with (fail)
  go_at_call 37
  (with_reducible refine (dof_f _ 0 0 0 1 _ (Held.handle (w0 := w) (by repeat (first | assumption | refine Held.alloc ?_ _ | refine Held.drew ?_))) hn g).mono ?_)
  rintro e w2 ⟨rfl, HB⟩
  obtain ⟨hc2, hf2⟩ := bcell HB
  obtain ⟨hd2, hh2⟩ := bcell2 (U := w1) (by repeat (first | exact Below.refl _ _ | refine Below.setCell ?_ (by simp <;> omega) _ | refine Below.alloc ?_ (by simp <;> omega) _ | refine Below.drew ?_)) HB
  have hz2 := HB.size
  try simp at hz2
  (try (have z2w0 : w.heap.size < w2.heap.size := (by omega)))
  (try (have z2w1 : w.heap.size + 1 < w2.heap.size := (by omega)))
  (try (have z2w10 : w1.heap.size < w2.heap.size := (by omega)))
  (try (have z2w11 : w1.heap.size + 1 < w2.heap.size := (by omega)))
  have hH2 := Held.step (w0 := w) (by repeat (first | assumption | refine Held.alloc ?_ _ | refine Held.drew ?_)) HB
  clear HB
  rw [errOf_ne (by decide : ¬ (1 : Int) = 0)]
  go_wp2_with (fail)
  go_at_call 38
  (with_reducible refine (rsec_ok _ _ _ _ hh hm hs hT).mono ?_)
  rintro e w3 ⟨rfl, HB⟩
  obtain ⟨hc3, hf3⟩ := bcell HB
  obtain ⟨hd3, hh3⟩ := bcell2 (U := w2) (by repeat (first | exact Below.refl _ _ | refine Below.setCell ?_ (by simp <;> omega) _ | refine Below.alloc ?_ (by simp <;> omega) _ | refine Below.drew ?_)) HB
  have hz3 := HB.size
  try simp at hz3
  (try (have z3w0 : w.heap.size < w3.heap.size := (by omega)))
  (try (have z3w1 : w.heap.size + 1 < w3.heap.size := (by omega)))
  (try (have z3w10 : w1.heap.size < w3.heap.size := (by omega)))
  (try (have z3w11 : w1.heap.size + 1 < w3.heap.size := (by omega)))
  (try (have z3w20 : w2.heap.size < w3.heap.size := (by omega)))
  (try (have z3w21 : w2.heap.size + 1 < w3.heap.size := (by omega)))
  have hH3 := Held.step (w0 := w) (by repeat (first | assumption | refine Held.alloc ?_ _ | refine Held.drew ?_)) HB
  clear HB
  go_wp2_with (fail)
  go_at_call 39
  (with_reducible refine (dcheck_ok _ _ _ _ (Held.handle (w0 := w) (by repeat (first | assumption | refine Held.alloc ?_ _ | refine Held.drew ?_))) hh hm hs hT).mono ?_)
  rintro e w4 ⟨rfl, HB⟩
  obtain ⟨hc4, hf4⟩ := bcell HB
  obtain ⟨hd4, hh4⟩ := bcell2 (U := w3) (by repeat (first | exact Below.refl _ _ | refine Below.setCell ?_ (by simp <;> omega) _ | refine Below.alloc ?_ (by simp <;> omega) _ | refine Below.drew ?_)) HB
  have hz4 := HB.size
  try simp at hz4
  (try (have z4w0 : w.heap.size < w4.heap.size := (by omega)))
  (try (have z4w1 : w.heap.size + 1 < w4.heap.size := (by omega)))
  (try (have z4w10 : w1.heap.size < w4.heap.size := (by omega)))
  (try (have z4w11 : w1.heap.size + 1 < w4.heap.size := (by omega)))
  (try (have z4w20 : w2.heap.size < w4.heap.size := (by omega)))
  (try (have z4w21 : w2.heap.size + 1 < w4.heap.size := (by omega)))
  (try (have z4w30 : w3.heap.size < w4.heap.size := (by omega)))
  (try (have z4w31 : w3.heap.size + 1 < w4.heap.size := (by omega)))
  have hH4 := Held.step (w0 := w) (by repeat (first | assumption | refine Held.alloc ?_ _ | refine Held.drew ?_)) HB
  clear HB
  have hS0 : SDS w (w2.heap.size) (.int .i64 0) (.int .i64 0) (.int .i64 0) w4 := ⟨hH4, ⟨by omega, by go_simp, by go_simp, by go_simp⟩⟩
  obtain ⟨_, ⟨l0, c00, c01, c02⟩⟩ := id hS0
  go_wp2_with (first | (go_at_call 40; (with_reducible refine (num08_err _ _ (Held.handle (w0 := w) (by first | exact And.left (by assumption) | exact Held.drew (And.left (by assumption))))).mono ?_); rintro e w' ⟨rfl, hb'⟩; have hS' := SDS.step (by first | assumption | exact SDS.step (by assumption) ((Below.refl _ _).alloc (Nat.le_refl _) _)) hb'; clear hb'; obtain ⟨_, ⟨l0, c00, c01, c02⟩⟩ := id hS') | (go_at_call 41; (with_reducible refine (sure08 _ (Held.handle (w0 := w) (by first | exact And.left (by assumption) | exact Held.drew (And.left (by assumption)))) (ht.below (Held.below (w0 := w) (by first | exact And.left (by assumption) | exact Held.drew (And.left (by assumption)))))).mono ?_); rintro e w' ⟨rfl, hb'⟩; have hS' := SDS.step (by first | assumption | exact SDS.step (by assumption) ((Below.refl _ _).alloc (Nat.le_refl _) _)) hb'; clear hb'; obtain ⟨_, ⟨l0, c00, c01, c02⟩⟩ := id hS'))
  all_goals go_ret
  all_goals exact ⟨rfl, Held.below (w0 := w) (And.left (by assumption))⟩
set_option maxRecDepth 100000 in
set_option maxHeartbeats 8000000 in
theorem dsecs_ok_in (h m s n : Int) (hh : InR h) (hm : InR m) (hs : InR s) (hn : InR n) (hT : TimeOK h m s) (hx0 : 0 ≤ n) (hx1 : n ≤ 86400) (oh om os : Int) (g : OfT n oh om os 0) (w : World) (hg : w.cell? ⟨0, 0, none⟩ = some asHandle) (ht : Tab w) :
    Calls Tryd.prog 6 #[.agg #[.int .i64 h, .int .i64 m, .int .i64 s], .int .i64 n] w fun e w' => e = .returned (.bool true) ∧ Below w.heap.size w w' := by
  have hH := Held.start hg
  have hsn := secF_nonneg hT
  go_enter Tryd.func6, Tryd.ntmps6
  go_wp2_with (fail)
  go_at_call 36
  (with_reducible refine (dsec_ok _ _ _ _ (Held.handle (w0 := w) (by repeat (first | assumption | refine Held.alloc ?_ _ | refine Held.drew ?_))) hh hm hs hT).mono ?_)
  rintro e w1 ⟨rfl, HB⟩
  obtain ⟨hc1, hf1⟩ := bcell HB
  obtain ⟨hd1, hh1⟩ := bcell2 (U := w) (by repeat (first | exact Below.refl _ _ | refine Below.setCell ?_ (by simp <;> omega) _ | refine Below.alloc ?_ (by simp <;> omega) _ | refine Below.drew ?_)) HB
  have hz1 := HB.size
  try simp at hz1
  (try (have z1w0 : w.heap.size < w1.heap.size := (by omega)))
  (try (have z1w1 : w.heap.size + 1 < w1.heap.size := (by omega)))
  have hH1 := Held.step (w0 := w) (by repeat (first | assumption | refine Held.alloc ?_ _ | refine Held.drew ?_)) HB
  clear HB
  go_wp2_with (fail)
  go_at_call 37
  (with_reducible refine (dof_f _ oh om os 0 _ (Held.handle (w0 := w) (by repeat (first | assumption | refine Held.alloc ?_ _ | refine Held.drew ?_))) hn g).mono ?_)
  rintro e w2 ⟨rfl, HB⟩
  obtain ⟨hc2, hf2⟩ := bcell HB
  obtain ⟨hd2, hh2⟩ := bcell2 (U := w1) (by repeat (first | exact Below.refl _ _ | refine Below.setCell ?_ (by simp <;> omega) _ | refine Below.alloc ?_ (by simp <;> omega) _ | refine Below.drew ?_)) HB
  have hz2 := HB.size
  try simp at hz2
  (try (have z2w0 : w.heap.size < w2.heap.size := (by omega)))
  (try (have z2w1 : w.heap.size + 1 < w2.heap.size := (by omega)))
  (try (have z2w10 : w1.heap.size < w2.heap.size := (by omega)))
  (try (have z2w11 : w1.heap.size + 1 < w2.heap.size := (by omega)))
  have hH2 := Held.step (w0 := w) (by repeat (first | assumption | refine Held.alloc ?_ _ | refine Held.drew ?_)) HB
  clear HB
  rw [errOf_zero]
  go_wp2_with (fail)
  go_at_call 38
  (with_reducible refine (rsec_ok _ _ _ _ hh hm hs hT).mono ?_)
  rintro e w3 ⟨rfl, HB⟩
  obtain ⟨hc3, hf3⟩ := bcell HB
  obtain ⟨hd3, hh3⟩ := bcell2 (U := w2) (by repeat (first | exact Below.refl _ _ | refine Below.setCell ?_ (by simp <;> omega) _ | refine Below.alloc ?_ (by simp <;> omega) _ | refine Below.drew ?_)) HB
  have hz3 := HB.size
  try simp at hz3
  (try (have z3w0 : w.heap.size < w3.heap.size := (by omega)))
  (try (have z3w1 : w.heap.size + 1 < w3.heap.size := (by omega)))
  (try (have z3w10 : w1.heap.size < w3.heap.size := (by omega)))
  (try (have z3w11 : w1.heap.size + 1 < w3.heap.size := (by omega)))
  (try (have z3w20 : w2.heap.size < w3.heap.size := (by omega)))
  (try (have z3w21 : w2.heap.size + 1 < w3.heap.size := (by omega)))
  have hH3 := Held.step (w0 := w) (by repeat (first | assumption | refine Held.alloc ?_ _ | refine Held.drew ?_)) HB
  clear HB
  go_wp2_with (fail)
  go_at_call 39
  (with_reducible refine (dcheck_ok _ _ _ _ (Held.handle (w0 := w) (by repeat (first | assumption | refine Held.alloc ?_ _ | refine Held.drew ?_))) hh hm hs hT).mono ?_)
  rintro e w4 ⟨rfl, HB⟩
  obtain ⟨hc4, hf4⟩ := bcell HB
  obtain ⟨hd4, hh4⟩ := bcell2 (U := w3) (by repeat (first | exact Below.refl _ _ | refine Below.setCell ?_ (by simp <;> omega) _ | refine Below.alloc ?_ (by simp <;> omega) _ | refine Below.drew ?_)) HB
  have hz4 := HB.size
  try simp at hz4
  (try (have z4w0 : w.heap.size < w4.heap.size := (by omega)))
  (try (have z4w1 : w.heap.size + 1 < w4.heap.size := (by omega)))
  (try (have z4w10 : w1.heap.size < w4.heap.size := (by omega)))
  (try (have z4w11 : w1.heap.size + 1 < w4.heap.size := (by omega)))
  (try (have z4w20 : w2.heap.size < w4.heap.size := (by omega)))
  (try (have z4w21 : w2.heap.size + 1 < w4.heap.size := (by omega)))
  (try (have z4w30 : w3.heap.size < w4.heap.size := (by omega)))
  (try (have z4w31 : w3.heap.size + 1 < w4.heap.size := (by omega)))
  have hH4 := Held.step (w0 := w) (by repeat (first | assumption | refine Held.alloc ?_ _ | refine Held.drew ?_)) HB
  clear HB
  have hS0 : SDS w (w2.heap.size) (.int .i64 oh) (.int .i64 om) (.int .i64 os) w4 := ⟨hH4, ⟨by omega, by go_simp, by go_simp, by go_simp⟩⟩
  obtain ⟨_, ⟨l0, c00, c01, c02⟩⟩ := id hS0
  go_wp2_with (first | (go_at_call 40; (with_reducible refine (num08_err _ _ (Held.handle (w0 := w) (by first | exact And.left (by assumption) | exact Held.drew (And.left (by assumption))))).mono ?_); rintro e w' ⟨rfl, hb'⟩; have hS' := SDS.step (by first | assumption | exact SDS.step (by assumption) ((Below.refl _ _).alloc (Nat.le_refl _) _)) hb'; clear hb'; obtain ⟨_, ⟨l0, c00, c01, c02⟩⟩ := id hS') | (go_at_call 41; (with_reducible refine (sure08 _ (Held.handle (w0 := w) (by first | exact And.left (by assumption) | exact Held.drew (And.left (by assumption)))) (ht.below (Held.below (w0 := w) (by first | exact And.left (by assumption) | exact Held.drew (And.left (by assumption)))))).mono ?_); rintro e w' ⟨rfl, hb'⟩; have hS' := SDS.step (by first | assumption | exact SDS.step (by assumption) ((Below.refl _ _).alloc (Nat.le_refl _) _)) hb'; clear hb'; obtain ⟨_, ⟨l0, c00, c01, c02⟩⟩ := id hS'))
  go_region_held3 (fun wx => SDS w (w2.heap.size) (.int .i64 oh) (.int .i64 om) (.int .i64 os) wx) (first | assumption | exact SDS.drew (by assumption)) (first | (go_at_call 42; (with_reducible refine (rdof_f _ oh om os _ hn g).mono ?_); rintro e w' ⟨rfl, hb'⟩; have hS' := SDS.step (by assumption) hb'; clear hb') | (go_at_call 41; (with_reducible refine (sure08 _ (Held.handle (w0 := w) (And.left (by assumption))) (ht.below (Held.below (w0 := w) (And.left (by assumption))))).mono ?_); rintro e w' ⟨rfl, hb'⟩; have hS' := SDS.step (by assumption) hb'; clear hb'))
  all_goals go_wp2_with (fail)
  all_goals go_ret
  all_goals exact ⟨rfl, Held.below (w0 := w) (And.left (by assumption))⟩
set_option maxRecDepth 100000 in
set_option maxHeartbeats 8000000 in
theorem dsecs_no_lo (h m s n : Int) (hh : InR h) (hm : InR m) (hs : InR s) (hn : InR n) (hT : ¬ TimeOK h m s) (hx : n < 0) (oh om os : Int) (g : OfT n oh om os 1) (z1 : oh = 0) (z2 : om = 0) (z3 : os = 0) (w : World) (hg : w.cell? ⟨0, 0, none⟩ = some asHandle) (ht : Tab w) :
    Calls Tryd.prog 6 #[.agg #[.int .i64 h, .int .i64 m, .int .i64 s], .int .i64 n] w fun e w' => e = .returned (.bool true) ∧ Below w.heap.size w w' := by
  have hH := Held.start hg
  subst z1 z2 z3
  go_enter Tryd.func6, Tryd.ntmps6
  go_wp2_with (fail)
  go_at_call 36
  (with_reducible refine (dsec_no _ _ _ _ (Held.handle (w0 := w) (by repeat (first | assumption | refine Held.alloc ?_ _ | refine Held.drew ?_))) hh hm hs hT).mono ?_)
  rintro e w1 ⟨rfl, HB⟩
  obtain ⟨hc1, hf1⟩ := bcell HB
  obtain ⟨hd1, hh1⟩ := bcell2 (U := w) (by repeat (first | exact Below.refl _ _ | refine Below.setCell ?_ (by simp <;> omega) _ | refine Below.alloc ?_ (by simp <;> omega) _ | refine Below.drew ?_)) HB
  have hz1 := HB.size
  try simp at hz1
  (try (have z1w0 : w.heap.size < w1.heap.size := (by omega)))
  (try (have z1w1 : w.heap.size + 1 < w1.heap.size := (by omega)))
  have hH1 := Held.step (w0 := w) (by repeat (first | assumption | refine Held.alloc ?_ _ | refine Held.drew ?_)) HB
  clear HB
  go_wp2_with (fail)
  go_at_call 37
  (with_reducible refine (dof_f _ 0 0 0 1 _ (Held.handle (w0 := w) (by repeat (first | assumption | refine Held.alloc ?_ _ | refine Held.drew ?_))) hn g).mono ?_)
  rintro e w2 ⟨rfl, HB⟩
  obtain ⟨hc2, hf2⟩ := bcell HB
  obtain ⟨hd2, hh2⟩ := bcell2 (U := w1) (by repeat (first | exact Below.refl _ _ | refine Below.setCell ?_ (by simp <;> omega) _ | refine Below.alloc ?_ (by simp <;> omega) _ | refine Below.drew ?_)) HB
  have hz2 := HB.size
  try simp at hz2
  (try (have z2w0 : w.heap.size < w2.heap.size := (by omega)))
  (try (have z2w1 : w.heap.size + 1 < w2.heap.size := (by omega)))
  (try (have z2w10 : w1.heap.size < w2.heap.size := (by omega)))
  (try (have z2w11 : w1.heap.size + 1 < w2.heap.size := (by omega)))
  have hH2 := Held.step (w0 := w) (by repeat (first | assumption | refine Held.alloc ?_ _ | refine Held.drew ?_)) HB
  clear HB
  rw [errOf_ne (by decide : ¬ (1 : Int) = 0)]
  go_wp2_with (fail)
  go_at_call 38
  (with_reducible refine (rsec_no _ _ _ _ hh hm hs hT).mono ?_)
  rintro e w3 ⟨rfl, HB⟩
  obtain ⟨hc3, hf3⟩ := bcell HB
  obtain ⟨hd3, hh3⟩ := bcell2 (U := w2) (by repeat (first | exact Below.refl _ _ | refine Below.setCell ?_ (by simp <;> omega) _ | refine Below.alloc ?_ (by simp <;> omega) _ | refine Below.drew ?_)) HB
  have hz3 := HB.size
  try simp at hz3
  (try (have z3w0 : w.heap.size < w3.heap.size := (by omega)))
  (try (have z3w1 : w.heap.size + 1 < w3.heap.size := (by omega)))
  (try (have z3w10 : w1.heap.size < w3.heap.size := (by omega)))
  (try (have z3w11 : w1.heap.size + 1 < w3.heap.size := (by omega)))
  (try (have z3w20 : w2.heap.size < w3.heap.size := (by omega)))
  (try (have z3w21 : w2.heap.size + 1 < w3.heap.size := (by omega)))
  have hH3 := Held.step (w0 := w) (by repeat (first | assumption | refine Held.alloc ?_ _ | refine Held.drew ?_)) HB
  clear HB
  go_wp2_with (fail)
  go_at_call 39
  (with_reducible refine (dcheck_no _ _ _ _ (Held.handle (w0 := w) (by repeat (first | assumption | refine Held.alloc ?_ _ | refine Held.drew ?_))) hh hm hs hT).mono ?_)
  rintro e w4 ⟨rfl, HB⟩
  obtain ⟨hc4, hf4⟩ := bcell HB
  obtain ⟨hd4, hh4⟩ := bcell2 (U := w3) (by repeat (first | exact Below.refl _ _ | refine Below.setCell ?_ (by simp <;> omega) _ | refine Below.alloc ?_ (by simp <;> omega) _ | refine Below.drew ?_)) HB
  have hz4 := HB.size
  try simp at hz4
  (try (have z4w0 : w.heap.size < w4.heap.size := (by omega)))
  (try (have z4w1 : w.heap.size + 1 < w4.heap.size := (by omega)))
  (try (have z4w10 : w1.heap.size < w4.heap.size := (by omega)))
  (try (have z4w11 : w1.heap.size + 1 < w4.heap.size := (by omega)))
  (try (have z4w20 : w2.heap.size < w4.heap.size := (by omega)))
  (try (have z4w21 : w2.heap.size + 1 < w4.heap.size := (by omega)))
  (try (have z4w30 : w3.heap.size < w4.heap.size := (by omega)))
  (try (have z4w31 : w3.heap.size + 1 < w4.heap.size := (by omega)))
  have hH4 := Held.step (w0 := w) (by repeat (first | assumption | refine Held.alloc ?_ _ | refine Held.drew ?_)) HB
  clear HB
  have hS0 : SDS w (w2.heap.size) (.int .i64 0) (.int .i64 0) (.int .i64 0) w4 := ⟨hH4, ⟨by omega, by go_simp, by go_simp, by go_simp⟩⟩
  obtain ⟨_, ⟨l0, c00, c01, c02⟩⟩ := id hS0
  go_wp2_with (first | (go_at_call 40; (with_reducible refine (num08_err _ _ (Held.handle (w0 := w) (by first | exact And.left (by assumption) | exact Held.drew (And.left (by assumption))))).mono ?_); rintro e w' ⟨rfl, hb'⟩; have hS' := SDS.step (by first | assumption | exact SDS.step (by assumption) ((Below.refl _ _).alloc (Nat.le_refl _) _)) hb'; clear hb'; obtain ⟨_, ⟨l0, c00, c01, c02⟩⟩ := id hS') | (go_at_call 41; (with_reducible refine (sure08 _ (Held.handle (w0 := w) (by first | exact And.left (by assumption) | exact Held.drew (And.left (by assumption)))) (ht.below (Held.below (w0 := w) (by first | exact And.left (by assumption) | exact Held.drew (And.left (by assumption)))))).mono ?_); rintro e w' ⟨rfl, hb'⟩; have hS' := SDS.step (by first | assumption | exact SDS.step (by assumption) ((Below.refl _ _).alloc (Nat.le_refl _) _)) hb'; clear hb'; obtain ⟨_, ⟨l0, c00, c01, c02⟩⟩ := id hS'))
  all_goals go_ret
  all_goals exact ⟨rfl, Held.below (w0 := w) (And.left (by assumption))⟩
set_option maxRecDepth 100000 in
set_option maxHeartbeats 8000000 in
theorem dsecs_no_hi (h m s n : Int) (hh : InR h) (hm : InR m) (hs : InR s) (hn : InR n) (hT : ¬ TimeOK h m s) (hx : 86400 < n) (oh om os : Int) (g : OfT n oh om os 1) (z1 : oh = 0) (z2 : om = 0) (z3 : os = 0) (w : World) (hg : w.cell? ⟨0, 0, none⟩ = some asHandle) (ht : Tab w) :
    Calls Tryd.prog 6 #[.agg #[.int .i64 h, .int .i64 m, .int .i64 s], .int .i64 n] w fun e w' => e = .returned (.bool true) ∧ Below w.heap.size w w' := by
  have hH := Held.start hg
  subst z1 z2 z3
  go_enter Tryd.func6, Tryd.ntmps6
  go_wp2_with (fail)
  go_at_call 36
  (with_reducible refine (dsec_no _ _ _ _ (Held.handle (w0 := w) (by repeat (first | assumption | refine Held.alloc ?_ _ | refine Held.drew ?_))) hh hm hs hT).mono ?_)
  rintro e w1 ⟨rfl, HB⟩
  obtain ⟨hc1, hf1⟩ := bcell HB
  obtain ⟨hd1, hh1⟩ := bcell2 (U := w) (by repeat (first | exact Below.refl _ _ | refine Below.setCell ?_ (by simp <;> omega) _ | refine Below.alloc ?_ (by simp <;> omega) _ | refine Below.drew ?_)) HB
  have hz1 := HB.size
  try simp at hz1
  (try (have z1w0 : w.heap.size < w1.heap.size := (by omega)))
  (try (have z1w1 : w.heap.size + 1 < w1.heap.size := (by omega)))
  have hH1 := Held.step (w0 := w) (by repeat (first | assumption | refine Held.alloc ?_ _ | refine Held.drew ?_)) HB
  clear HB
  go_wp2_with (fail)
  go_at_call 37
  (with_reducible refine (dof_f _ 0 0 0 1 _ (Held.handle (w0 := w) (by repeat (first | assumption | refine Held.alloc ?_ _ | refine Held.drew ?_))) hn g).mono ?_)
  rintro e w2 ⟨rfl, HB⟩
  obtain ⟨hc2, hf2⟩ := bcell HB
  obtain ⟨hd2, hh2⟩ := bcell2 (U := w1) (by repeat (first | exact Below.refl _ _ | refine Below.setCell ?_ (by simp <;> omega) _ | refine Below.alloc ?_ (by simp <;> omega) _ | refine Below.drew ?_)) HB
  have hz2 := HB.size
  try simp at hz2
  (try (have z2w0 : w.heap.size < w2.heap.size := (by omega)))
  (try (have z2w1 : w.heap.size + 1 < w2.heap.size := (by omega)))
  (try (have z2w10 : w1.heap.size < w2.heap.size := (by omega)))
  (try (have z2w11 : w1.heap.size + 1 < w2.heap.size := (by omega)))
  have hH2 := Held.step (w0 := w) (by repeat (first | assumption | refine Held.alloc ?_ _ | refine Held.drew ?_)) HB
  clear HB
  rw [errOf_ne (by decide : ¬ (1 : Int) = 0)]
  go_wp2_with (fail)
  go_at_call 38
  (with_reducible refine (rsec_no _ _ _ _ hh hm hs hT).mono ?_)
  rintro e w3 ⟨rfl, HB⟩
  obtain ⟨hc3, hf3⟩ := bcell HB
  obtain ⟨hd3, hh3⟩ := bcell2 (U := w2) (by repeat (first | exact Below.refl _ _ | refine Below.setCell ?_ (by simp <;> omega) _ | refine Below.alloc ?_ (by simp <;> omega) _ | refine Below.drew ?_)) HB
  have hz3 := HB.size
  try simp at hz3
  (try (have z3w0 : w.heap.size < w3.heap.size := (by omega)))
  (try (have z3w1 : w.heap.size + 1 < w3.heap.size := (by omega)))
  (try (have z3w10 : w1.heap.size < w3.heap.size := (by omega)))
  (try (have z3w11 : w1.heap.size + 1 < w3.heap.size := (by omega)))
  (try (have z3w20 : w2.heap.size < w3.heap.size := (by omega)))
  (try (have z3w21 : w2.heap.size + 1 < w3.heap.size := (by omega)))
  have hH3 := Held.step (w0 := w) (by repeat (first | assumption | refine Held.alloc ?_ _ | refine Held.drew ?_)) HB
  clear HB
  go_wp2_with (fail)
  go_at_call 39
  (with_reducible refine (dcheck_no _ _ _ _ (Held.handle (w0 := w) (by repeat (first | assumption | refine Held.alloc ?_ _ | refine Held.drew ?_))) hh hm hs hT).mono ?_)
  rintro e w4 ⟨rfl, HB⟩
  obtain ⟨hc4, hf4⟩ := bcell HB
  obtain ⟨hd4, hh4⟩ := bcell2 (U := w3) (by repeat (first | exact Below.refl _ _ | refine Below.setCell ?_ (by simp <;> omega) _ | refine Below.alloc ?_ (by simp <;> omega) _ | refine Below.drew ?_)) HB
  have hz4 := HB.size
  try simp at hz4
  (try (have z4w0 : w.heap.size < w4.heap.size := (by omega)))
  (try (have z4w1 : w.heap.size + 1 < w4.heap.size := (by omega)))
  (try (have z4w10 : w1.heap.size < w4.heap.size := (by omega)))
  (try (have z4w11 : w1.heap.size + 1 < w4.heap.size := (by omega)))
  (try (have z4w20 : w2.heap.size < w4.heap.size := (by omega)))
  (try (have z4w21 : w2.heap.size + 1 < w4.heap.size := (by omega)))
  (try (have z4w30 : w3.heap.size < w4.heap.size := (by omega)))
  (try (have z4w31 : w3.heap.size + 1 < w4.heap.size := (by omega)))
  have hH4 := Held.step (w0 := w) (by repeat (first | assumption | refine Held.alloc ?_ _ | refine Held.drew ?_)) HB
  clear HB
  have hS0 : SDS w (w2.heap.size) (.int .i64 0) (.int .i64 0) (.int .i64 0) w4 := ⟨hH4, ⟨by omega, by go_simp, by go_simp, by go_simp⟩⟩
  obtain ⟨_, ⟨l0, c00, c01, c02⟩⟩ := id hS0
  go_wp2_with (first | (go_at_call 40; (with_reducible refine (num08_err _ _ (Held.handle (w0 := w) (by first | exact And.left (by assumption) | exact Held.drew (And.left (by assumption))))).mono ?_); rintro e w' ⟨rfl, hb'⟩; have hS' := SDS.step (by first | assumption | exact SDS.step (by assumption) ((Below.refl _ _).alloc (Nat.le_refl _) _)) hb'; clear hb'; obtain ⟨_, ⟨l0, c00, c01, c02⟩⟩ := id hS') | (go_at_call 41; (with_reducible refine (sure08 _ (Held.handle (w0 := w) (by first | exact And.left (by assumption) | exact Held.drew (And.left (by assumption)))) (ht.below (Held.below (w0 := w) (by first | exact And.left (by assumption) | exact Held.drew (And.left (by assumption)))))).mono ?_); rintro e w' ⟨rfl, hb'⟩; have hS' := SDS.step (by first | assumption | exact SDS.step (by assumption) ((Below.refl _ _).alloc (Nat.le_refl _) _)) hb'; clear hb'; obtain ⟨_, ⟨l0, c00, c01, c02⟩⟩ := id hS'))
  all_goals go_ret
  all_goals exact ⟨rfl, Held.below (w0 := w) (And.left (by assumption))⟩
set_option maxRecDepth 100000 in
set_option maxHeartbeats 8000000 in
theorem dsecs_no_in (h m s n : Int) (hh : InR h) (hm : InR m) (hs : InR s) (hn : InR n) (hT : ¬ TimeOK h m s) (hx0 : 0 ≤ n) (hx1 : n ≤ 86400) (oh om os : Int) (g : OfT n oh om os 0) (w : World) (hg : w.cell? ⟨0, 0, none⟩ = some asHandle) (ht : Tab w) :
    Calls Tryd.prog 6 #[.agg #[.int .i64 h, .int .i64 m, .int .i64 s], .int .i64 n] w fun e w' => e = .returned (.bool true) ∧ Below w.heap.size w w' := by
  have hH := Held.start hg
  go_enter Tryd.func6, Tryd.ntmps6
  go_wp2_with (fail)
  go_at_call 36
  (with_reducible refine (dsec_no _ _ _ _ (Held.handle (w0 := w) (by repeat (first | assumption | refine Held.alloc ?_ _ | refine Held.drew ?_))) hh hm hs hT).mono ?_)
  rintro e w1 ⟨rfl, HB⟩
  obtain ⟨hc1, hf1⟩ := bcell HB
  obtain ⟨hd1, hh1⟩ := bcell2 (U := w) (by repeat (first | exact Below.refl _ _ | refine Below.setCell ?_ (by simp <;> omega) _ | refine Below.alloc ?_ (by simp <;> omega) _ | refine Below.drew ?_)) HB
  have hz1 := HB.size
  try simp at hz1
  (try (have z1w0 : w.heap.size < w1.heap.size := (by omega)))
  (try (have z1w1 : w.heap.size + 1 < w1.heap.size := (by omega)))
  have hH1 := Held.step (w0 := w) (by repeat (first | assumption | refine Held.alloc ?_ _ | refine Held.drew ?_)) HB
  clear HB
  go_wp2_with (fail)
  go_at_call 37
  (with_reducible refine (dof_f _ oh om os 0 _ (Held.handle (w0 := w) (by repeat (first | assumption | refine Held.alloc ?_ _ | refine Held.drew ?_))) hn g).mono ?_)
  rintro e w2 ⟨rfl, HB⟩
  obtain ⟨hc2, hf2⟩ := bcell HB
  obtain ⟨hd2, hh2⟩ := bcell2 (U := w1) (by repeat (first | exact Below.refl _ _ | refine Below.setCell ?_ (by simp <;> omega) _ | refine Below.alloc ?_ (by simp <;> omega) _ | refine Below.drew ?_)) HB
  have hz2 := HB.size
  try simp at hz2
  (try (have z2w0 : w.heap.size < w2.heap.size := (by omega)))
  (try (have z2w1 : w.heap.size + 1 < w2.heap.size := (by omega)))
  (try (have z2w10 : w1.heap.size < w2.heap.size := (by omega)))
  (try (have z2w11 : w1.heap.size + 1 < w2.heap.size := (by omega)))
  have hH2 := Held.step (w0 := w) (by repeat (first | assumption | refine Held.alloc ?_ _ | refine Held.drew ?_)) HB
  clear HB
  rw [errOf_zero]
  go_wp2_with (fail)
  go_at_call 38
  (with_reducible refine (rsec_no _ _ _ _ hh hm hs hT).mono ?_)
  rintro e w3 ⟨rfl, HB⟩
  obtain ⟨hc3, hf3⟩ := bcell HB
  obtain ⟨hd3, hh3⟩ := bcell2 (U := w2) (by repeat (first | exact Below.refl _ _ | refine Below.setCell ?_ (by simp <;> omega) _ | refine Below.alloc ?_ (by simp <;> omega) _ | refine Below.drew ?_)) HB
  have hz3 := HB.size
  try simp at hz3
  (try (have z3w0 : w.heap.size < w3.heap.size := (by omega)))
  (try (have z3w1 : w.heap.size + 1 < w3.heap.size := (by omega)))
  (try (have z3w10 : w1.heap.size < w3.heap.size := (by omega)))
  (try (have z3w11 : w1.heap.size + 1 < w3.heap.size := (by omega)))
  (try (have z3w20 : w2.heap.size < w3.heap.size := (by omega)))
  (try (have z3w21 : w2.heap.size + 1 < w3.heap.size := (by omega)))
  have hH3 := Held.step (w0 := w) (by repeat (first | assumption | refine Held.alloc ?_ _ | refine Held.drew ?_)) HB
  clear HB
  go_wp2_with (fail)
  go_at_call 39
  (with_reducible refine (dcheck_no _ _ _ _ (Held.handle (w0 := w) (by repeat (first | assumption | refine Held.alloc ?_ _ | refine Held.drew ?_))) hh hm hs hT).mono ?_)
  rintro e w4 ⟨rfl, HB⟩
  obtain ⟨hc4, hf4⟩ := bcell HB
  obtain ⟨hd4, hh4⟩ := bcell2 (U := w3) (by repeat (first | exact Below.refl _ _ | refine Below.setCell ?_ (by simp <;> omega) _ | refine Below.alloc ?_ (by simp <;> omega) _ | refine Below.drew ?_)) HB
  have hz4 := HB.size
  try simp at hz4
  (try (have z4w0 : w.heap.size < w4.heap.size := (by omega)))
  (try (have z4w1 : w.heap.size + 1 < w4.heap.size := (by omega)))
  (try (have z4w10 : w1.heap.size < w4.heap.size := (by omega)))
  (try (have z4w11 : w1.heap.size + 1 < w4.heap.size := (by omega)))
  (try (have z4w20 : w2.heap.size < w4.heap.size := (by omega)))
  (try (have z4w21 : w2.heap.size + 1 < w4.heap.size := (by omega)))
  (try (have z4w30 : w3.heap.size < w4.heap.size := (by omega)))
  (try (have z4w31 : w3.heap.size + 1 < w4.heap.size := (by omega)))
  have hH4 := Held.step (w0 := w) (by repeat (first | assumption | refine Held.alloc ?_ _ | refine Held.drew ?_)) HB
  clear HB
  have hS0 : SDS w (w2.heap.size) (.int .i64 oh) (.int .i64 om) (.int .i64 os) w4 := ⟨hH4, ⟨by omega, by go_simp, by go_simp, by go_simp⟩⟩
  obtain ⟨_, ⟨l0, c00, c01, c02⟩⟩ := id hS0
  go_wp2_with (first | (go_at_call 40; (with_reducible refine (num08_err _ _ (Held.handle (w0 := w) (by first | exact And.left (by assumption) | exact Held.drew (And.left (by assumption))))).mono ?_); rintro e w' ⟨rfl, hb'⟩; have hS' := SDS.step (by first | assumption | exact SDS.step (by assumption) ((Below.refl _ _).alloc (Nat.le_refl _) _)) hb'; clear hb'; obtain ⟨_, ⟨l0, c00, c01, c02⟩⟩ := id hS') | (go_at_call 41; (with_reducible refine (sure08 _ (Held.handle (w0 := w) (by first | exact And.left (by assumption) | exact Held.drew (And.left (by assumption)))) (ht.below (Held.below (w0 := w) (by first | exact And.left (by assumption) | exact Held.drew (And.left (by assumption)))))).mono ?_); rintro e w' ⟨rfl, hb'⟩; have hS' := SDS.step (by first | assumption | exact SDS.step (by assumption) ((Below.refl _ _).alloc (Nat.le_refl _) _)) hb'; clear hb'; obtain ⟨_, ⟨l0, c00, c01, c02⟩⟩ := id hS'))
  go_region_held3 (fun wx => SDS w (w2.heap.size) (.int .i64 oh) (.int .i64 om) (.int .i64 os) wx) (first | assumption | exact SDS.drew (by assumption)) (first | (go_at_call 42; (with_reducible refine (rdof_f _ oh om os _ hn g).mono ?_); rintro e w' ⟨rfl, hb'⟩; have hS' := SDS.step (by assumption) hb'; clear hb') | (go_at_call 41; (with_reducible refine (sure08 _ (Held.handle (w0 := w) (And.left (by assumption))) (ht.below (Held.below (w0 := w) (And.left (by assumption))))).mono ?_); rintro e w' ⟨rfl, hb'⟩; have hS' := SDS.step (by assumption) hb'; clear hb'))
  all_goals go_wp2_with (fail)
  all_goals go_ret
  all_goals exact ⟨rfl, Held.below (w0 := w) (And.left (by assumption))⟩
theorem ofT_out {n : Int} (a : n < 0 ∨ 86400 < n) : OfT n 0 0 0 1 := Or.inr (Or.inr ⟨rfl, a, rfl, rfl, rfl⟩)
theorem walkDaytimeSeconds (h m s n : Int) (hh : InR h) (hm : InR m) (hs : InR s) (hn : InR n) (w : World) (hg : w.cell? ⟨0, 0, none⟩ = some asHandle) (ht : Tab w) :
    Calls Tryd.prog 6 #[.agg #[.int .i64 h, .int .i64 m, .int .i64 s], .int .i64 n] w fun e w' => e = .returned (.bool true) ∧ Below w.heap.size w w' := by
  by_cases hT : TimeOK h m s
  · by_cases a : n < 0
    · exact dsecs_ok_lo h m s n hh hm hs hn hT a 0 0 0 (ofT_out (Or.inl a)) rfl rfl rfl w hg ht
    · by_cases b : 86400 < n
      · exact dsecs_ok_hi h m s n hh hm hs hn hT b 0 0 0 (ofT_out (Or.inr b)) rfl rfl rfl w hg ht
      · obtain ⟨oh, om, os, g⟩ := ofT_in (n := n) (by omega) (by omega)
        exact dsecs_ok_in h m s n hh hm hs hn hT (by omega) (by omega) oh om os g w hg ht
  · by_cases a : n < 0
    · exact dsecs_no_lo h m s n hh hm hs hn hT a 0 0 0 (ofT_out (Or.inl a)) rfl rfl rfl w hg ht
    · by_cases b : 86400 < n
      · exact dsecs_no_hi h m s n hh hm hs hn hT b 0 0 0 (ofT_out (Or.inr b)) rfl rfl rfl w hg ht
      · obtain ⟨oh, om, os, g⟩ := ofT_in (n := n) (by omega) (by omega)
        exact dsecs_no_in h m s n hh hm hs hn hT (by omega) (by omega) oh om os g w hg ht
abbrev SDT (w : World) (b0 : Nat) (v00 v01 : Value) (wx : World) : Prop := Held w wx ∧ B2 b0 v00 v01 wx
theorem SDT.step {w : World} {b0 : Nat} {v00 v01 : Value} {wx w' : World} (h : SDT w b0 v00 v01 wx) (hb : Below wx.heap.size wx w') : SDT w b0 v00 v01 w' := ⟨(h.1).step hb, (h.2).step hb⟩
theorem SDT.drew {w : World} {b0 : Nat} {v00 v01 : Value} {wx : World} (h : SDT w b0 v00 v01 wx) : SDT w b0 v00 v01 wx.drew := h.step (Below.refl _ _).drew
set_option maxRecDepth 100000 in
set_option maxHeartbeats 8000000 in
theorem dst_long (day sec nano : Int) (s : ByteArray) (hdy : InR day) (hsc : InR sec) (hnn : InR nano) (hs : s.size ≤ 9223372036854775807) (hl : 100 < s.size) (w : World) (hg : w.cell? ⟨0, 0, none⟩ = some asHandle) (ht : Tab w) :
    Calls Tryd.prog 7 #[.int .i64 day, .agg #[.int .i64 sec, .int .i64 nano], .string s] w fun e w' => e = .returned (.bool true) ∧ Below w.heap.size w w' := by
  have hH := Held.start hg
  go_enter Tryd.func7, Tryd.ntmps7
  go_wp2_with (first | (go_at_call 41; (with_reducible refine (sure08 _ (Held.handle (w0 := w) (by repeat (first | assumption | refine Held.alloc ?_ _ | refine Held.drew ?_))) (ht.below (Held.below (w0 := w) (by repeat (first | assumption | refine Held.alloc ?_ _ | refine Held.drew ?_))))).mono ?_); rintro e w' ⟨rfl, hb'⟩; obtain ⟨hc, hf⟩ := bcell hb'; have hz := hb'.size; (try (simp at hz)); have hH' := Held.step (w0 := w) (by repeat (first | assumption | refine Held.alloc ?_ _ | refine Held.drew ?_)) hb'; clear hb'))
  go_ret
  exact ⟨rfl, Held.below (w0 := w) (by assumption)⟩
set_option maxRecDepth 100000 in
set_option maxHeartbeats 8000000 in
theorem dst_far (day sec nano : Int) (s : ByteArray) (hdy : InR day) (hsc : InR sec) (hnn : InR nano) (hs : s.size ≤ 9223372036854775807) (hl : s.size ≤ 100) (h1 : 300000 < day) (h2 : day ≤ 2932896) (w : World) (hg : w.cell? ⟨0, 0, none⟩ = some asHandle) (ht : Tab w) :
    Calls Tryd.prog 7 #[.int .i64 day, .agg #[.int .i64 sec, .int .i64 nano], .string s] w fun e w' => e = .returned (.bool true) ∧ Below w.heap.size w w' := by
  have hH := Held.start hg
  go_enter Tryd.func7, Tryd.ntmps7
  go_wp2_with (first | (go_at_call 41; (with_reducible refine (sure08 _ (Held.handle (w0 := w) (by repeat (first | assumption | refine Held.alloc ?_ _ | refine Held.drew ?_))) (ht.below (Held.below (w0 := w) (by repeat (first | assumption | refine Held.alloc ?_ _ | refine Held.drew ?_))))).mono ?_); rintro e w' ⟨rfl, hb'⟩; obtain ⟨hc, hf⟩ := bcell hb'; have hz := hb'.size; (try (simp at hz)); have hH' := Held.step (w0 := w) (by repeat (first | assumption | refine Held.alloc ?_ _ | refine Held.drew ?_)) hb'; clear hb'))
  go_ret
  exact ⟨rfl, Held.below (w0 := w) (by assumption)⟩
set_option maxRecDepth 100000 in
set_option maxHeartbeats 8000000 in
theorem dst_lo (day sec nano : Int) (s : ByteArray) (hdy : InR day) (hsc : InR sec) (hnn : InR nano) (hs : s.size ≤ 9223372036854775807) (hl : s.size ≤ 100) (h1 : day ≤ 300000) (t : List UInt8) (k : Int) (g : IsStamp day sec nano t k) (a b c j : Int) (p : IsP8 s a b c j) (w : World) (hg : w.cell? ⟨0, 0, none⟩ = some asHandle) (ht : Tab w) :
    Calls Tryd.prog 7 #[.int .i64 day, .agg #[.int .i64 sec, .int .i64 nano], .string s] w fun e w' => e = .returned (.bool true) ∧ Below w.heap.size w w' := by
  have hH := Held.start hg
  go_enter Tryd.func7, Tryd.ntmps7
  go_wp2_with (fail)
  go_at_call 43
  (with_reducible refine (stamp_f day sec nano t k _ (Held.handle (w0 := w) (by repeat (first | assumption | refine Held.alloc ?_ _ | refine Held.drew ?_))) (ht.below (Held.below (w0 := w) (by repeat (first | assumption | refine Held.alloc ?_ _ | refine Held.drew ?_)))) hdy hsc hnn g).mono ?_)
  rintro e w1 ⟨rfl, HB⟩
  obtain ⟨hc1, hf1⟩ := bcell HB
  obtain ⟨hd1, hh1⟩ := bcell2 (U := w) (by repeat (first | exact Below.refl _ _ | refine Below.setCell ?_ (by simp <;> omega) _ | refine Below.alloc ?_ (by simp <;> omega) _ | refine Below.drew ?_)) HB
  have hz1 := HB.size
  try simp at hz1
  (try (have z1w0 : w.heap.size < w1.heap.size := (by omega)))
  (try (have z1w1 : w.heap.size + 1 < w1.heap.size := (by omega)))
  have hH1 := Held.step (w0 := w) (by repeat (first | assumption | refine Held.alloc ?_ _ | refine Held.drew ?_)) HB
  clear HB
  go_wp2_with (fail)
  go_at_call 44
  (with_reducible refine (rstamp_f day sec nano t k _ (Held.handle (w0 := w) (by repeat (first | assumption | refine Held.alloc ?_ _ | refine Held.drew ?_))) hdy hsc hnn g).mono ?_)
  rintro e w2 ⟨rfl, HB⟩
  obtain ⟨hc2, hf2⟩ := bcell HB
  obtain ⟨hd2, hh2⟩ := bcell2 (U := w1) (by repeat (first | exact Below.refl _ _ | refine Below.setCell ?_ (by simp <;> omega) _ | refine Below.alloc ?_ (by simp <;> omega) _ | refine Below.drew ?_)) HB
  have hz2 := HB.size
  try simp at hz2
  (try (have z2w0 : w.heap.size < w2.heap.size := (by omega)))
  (try (have z2w1 : w.heap.size + 1 < w2.heap.size := (by omega)))
  (try (have z2w10 : w1.heap.size < w2.heap.size := (by omega)))
  (try (have z2w11 : w1.heap.size + 1 < w2.heap.size := (by omega)))
  have hH2 := Held.step (w0 := w) (by repeat (first | assumption | refine Held.alloc ?_ _ | refine Held.drew ?_)) HB
  clear HB
  go_wp2_with (fail)
  go_at_call 45
  (with_reducible refine (dparse_f s a b c j _ (Held.handle (w0 := w) (by repeat (first | assumption | refine Held.alloc ?_ _ | refine Held.drew ?_))) hs p).mono ?_)
  rintro e w3 ⟨rfl, HB⟩
  obtain ⟨hc3, hf3⟩ := bcell HB
  obtain ⟨hd3, hh3⟩ := bcell2 (U := w2) (by repeat (first | exact Below.refl _ _ | refine Below.setCell ?_ (by simp <;> omega) _ | refine Below.alloc ?_ (by simp <;> omega) _ | refine Below.drew ?_)) HB
  have hz3 := HB.size
  try simp at hz3
  (try (have z3w0 : w.heap.size < w3.heap.size := (by omega)))
  (try (have z3w1 : w.heap.size + 1 < w3.heap.size := (by omega)))
  (try (have z3w10 : w1.heap.size < w3.heap.size := (by omega)))
  (try (have z3w11 : w1.heap.size + 1 < w3.heap.size := (by omega)))
  (try (have z3w20 : w2.heap.size < w3.heap.size := (by omega)))
  (try (have z3w21 : w2.heap.size + 1 < w3.heap.size := (by omega)))
  have hH3 := Held.step (w0 := w) (by repeat (first | assumption | refine Held.alloc ?_ _ | refine Held.drew ?_)) HB
  clear HB
  go_wp2_with (fail)
  go_at_call 46
  (with_reducible refine (rdparse_f s a b c j _ (Held.handle (w0 := w) (by repeat (first | assumption | refine Held.alloc ?_ _ | refine Held.drew ?_))) hs p).mono ?_)
  rintro e w4 ⟨rfl, HB⟩
  obtain ⟨hc4, hf4⟩ := bcell HB
  obtain ⟨hd4, hh4⟩ := bcell2 (U := w3) (by repeat (first | exact Below.refl _ _ | refine Below.setCell ?_ (by simp <;> omega) _ | refine Below.alloc ?_ (by simp <;> omega) _ | refine Below.drew ?_)) HB
  have hz4 := HB.size
  try simp at hz4
  (try (have z4w0 : w.heap.size < w4.heap.size := (by omega)))
  (try (have z4w1 : w.heap.size + 1 < w4.heap.size := (by omega)))
  (try (have z4w10 : w1.heap.size < w4.heap.size := (by omega)))
  (try (have z4w11 : w1.heap.size + 1 < w4.heap.size := (by omega)))
  (try (have z4w20 : w2.heap.size < w4.heap.size := (by omega)))
  (try (have z4w21 : w2.heap.size + 1 < w4.heap.size := (by omega)))
  (try (have z4w30 : w3.heap.size < w4.heap.size := (by omega)))
  (try (have z4w31 : w3.heap.size + 1 < w4.heap.size := (by omega)))
  have hH4 := Held.step (w0 := w) (by repeat (first | assumption | refine Held.alloc ?_ _ | refine Held.drew ?_)) HB
  clear HB
  go_wp2_with (first | (go_at_call 40; (with_reducible refine (num08_any _ _ (Held.handle (w0 := w) (by repeat (first | assumption | refine Held.alloc ?_ _ | refine Held.drew ?_)))).mono ?_); rintro e w' ⟨rfl, hb'⟩; obtain ⟨hc, hf⟩ := bcell hb'; have hz := hb'.size; (try (simp at hz)); have hH' := Held.step (w0 := w) (by repeat (first | assumption | refine Held.alloc ?_ _ | refine Held.drew ?_)) hb'; clear hb') | (go_at_call 41; (with_reducible refine (sure08 _ (Held.handle (w0 := w) (by repeat (first | assumption | refine Held.alloc ?_ _ | refine Held.drew ?_))) (ht.below (Held.below (w0 := w) (by repeat (first | assumption | refine Held.alloc ?_ _ | refine Held.drew ?_))))).mono ?_); rintro e w' ⟨rfl, hb'⟩; obtain ⟨hc, hf⟩ := bcell hb'; have hz := hb'.size; (try (simp at hz)); have hH' := Held.step (w0 := w) (by repeat (first | assumption | refine Held.alloc ?_ _ | refine Held.drew ?_)) hb'; clear hb'))
  go_ret
  exact ⟨rfl, Held.below (w0 := w) (by assumption)⟩
set_option maxRecDepth 100000 in
set_option maxHeartbeats 8000000 in
theorem dst_hi (day sec nano : Int) (s : ByteArray) (hdy : InR day) (hsc : InR sec) (hnn : InR nano) (hs : s.size ≤ 9223372036854775807) (hl : s.size ≤ 100) (h1 : 2932896 < day) (t : List UInt8) (k : Int) (g : IsStamp day sec nano t k) (a b c j : Int) (p : IsP8 s a b c j) (w : World) (hg : w.cell? ⟨0, 0, none⟩ = some asHandle) (ht : Tab w) :
    Calls Tryd.prog 7 #[.int .i64 day, .agg #[.int .i64 sec, .int .i64 nano], .string s] w fun e w' => e = .returned (.bool true) ∧ Below w.heap.size w w' := by
  have hH := Held.start hg
  go_enter Tryd.func7, Tryd.ntmps7
  go_wp2_with (fail)
  go_at_call 43
  (with_reducible refine (stamp_f day sec nano t k _ (Held.handle (w0 := w) (by repeat (first | assumption | refine Held.alloc ?_ _ | refine Held.drew ?_))) (ht.below (Held.below (w0 := w) (by repeat (first | assumption | refine Held.alloc ?_ _ | refine Held.drew ?_)))) hdy hsc hnn g).mono ?_)
  rintro e w1 ⟨rfl, HB⟩
  obtain ⟨hc1, hf1⟩ := bcell HB
  obtain ⟨hd1, hh1⟩ := bcell2 (U := w) (by repeat (first | exact Below.refl _ _ | refine Below.setCell ?_ (by simp <;> omega) _ | refine Below.alloc ?_ (by simp <;> omega) _ | refine Below.drew ?_)) HB
  have hz1 := HB.size
  try simp at hz1
  (try (have z1w0 : w.heap.size < w1.heap.size := (by omega)))
  (try (have z1w1 : w.heap.size + 1 < w1.heap.size := (by omega)))
  have hH1 := Held.step (w0 := w) (by repeat (first | assumption | refine Held.alloc ?_ _ | refine Held.drew ?_)) HB
  clear HB
  go_wp2_with (fail)
  go_at_call 44
  (with_reducible refine (rstamp_f day sec nano t k _ (Held.handle (w0 := w) (by repeat (first | assumption | refine Held.alloc ?_ _ | refine Held.drew ?_))) hdy hsc hnn g).mono ?_)
  rintro e w2 ⟨rfl, HB⟩
  obtain ⟨hc2, hf2⟩ := bcell HB
  obtain ⟨hd2, hh2⟩ := bcell2 (U := w1) (by repeat (first | exact Below.refl _ _ | refine Below.setCell ?_ (by simp <;> omega) _ | refine Below.alloc ?_ (by simp <;> omega) _ | refine Below.drew ?_)) HB
  have hz2 := HB.size
  try simp at hz2
  (try (have z2w0 : w.heap.size < w2.heap.size := (by omega)))
  (try (have z2w1 : w.heap.size + 1 < w2.heap.size := (by omega)))
  (try (have z2w10 : w1.heap.size < w2.heap.size := (by omega)))
  (try (have z2w11 : w1.heap.size + 1 < w2.heap.size := (by omega)))
  have hH2 := Held.step (w0 := w) (by repeat (first | assumption | refine Held.alloc ?_ _ | refine Held.drew ?_)) HB
  clear HB
  go_wp2_with (fail)
  go_at_call 45
  (with_reducible refine (dparse_f s a b c j _ (Held.handle (w0 := w) (by repeat (first | assumption | refine Held.alloc ?_ _ | refine Held.drew ?_))) hs p).mono ?_)
  rintro e w3 ⟨rfl, HB⟩
  obtain ⟨hc3, hf3⟩ := bcell HB
  obtain ⟨hd3, hh3⟩ := bcell2 (U := w2) (by repeat (first | exact Below.refl _ _ | refine Below.setCell ?_ (by simp <;> omega) _ | refine Below.alloc ?_ (by simp <;> omega) _ | refine Below.drew ?_)) HB
  have hz3 := HB.size
  try simp at hz3
  (try (have z3w0 : w.heap.size < w3.heap.size := (by omega)))
  (try (have z3w1 : w.heap.size + 1 < w3.heap.size := (by omega)))
  (try (have z3w10 : w1.heap.size < w3.heap.size := (by omega)))
  (try (have z3w11 : w1.heap.size + 1 < w3.heap.size := (by omega)))
  (try (have z3w20 : w2.heap.size < w3.heap.size := (by omega)))
  (try (have z3w21 : w2.heap.size + 1 < w3.heap.size := (by omega)))
  have hH3 := Held.step (w0 := w) (by repeat (first | assumption | refine Held.alloc ?_ _ | refine Held.drew ?_)) HB
  clear HB
  go_wp2_with (fail)
  go_at_call 46
  (with_reducible refine (rdparse_f s a b c j _ (Held.handle (w0 := w) (by repeat (first | assumption | refine Held.alloc ?_ _ | refine Held.drew ?_))) hs p).mono ?_)
  rintro e w4 ⟨rfl, HB⟩
  obtain ⟨hc4, hf4⟩ := bcell HB
  obtain ⟨hd4, hh4⟩ := bcell2 (U := w3) (by repeat (first | exact Below.refl _ _ | refine Below.setCell ?_ (by simp <;> omega) _ | refine Below.alloc ?_ (by simp <;> omega) _ | refine Below.drew ?_)) HB
  have hz4 := HB.size
  try simp at hz4
  (try (have z4w0 : w.heap.size < w4.heap.size := (by omega)))
  (try (have z4w1 : w.heap.size + 1 < w4.heap.size := (by omega)))
  (try (have z4w10 : w1.heap.size < w4.heap.size := (by omega)))
  (try (have z4w11 : w1.heap.size + 1 < w4.heap.size := (by omega)))
  (try (have z4w20 : w2.heap.size < w4.heap.size := (by omega)))
  (try (have z4w21 : w2.heap.size + 1 < w4.heap.size := (by omega)))
  (try (have z4w30 : w3.heap.size < w4.heap.size := (by omega)))
  (try (have z4w31 : w3.heap.size + 1 < w4.heap.size := (by omega)))
  have hH4 := Held.step (w0 := w) (by repeat (first | assumption | refine Held.alloc ?_ _ | refine Held.drew ?_)) HB
  clear HB
  go_wp2_with (first | (go_at_call 40; (with_reducible refine (num08_any _ _ (Held.handle (w0 := w) (by repeat (first | assumption | refine Held.alloc ?_ _ | refine Held.drew ?_)))).mono ?_); rintro e w' ⟨rfl, hb'⟩; obtain ⟨hc, hf⟩ := bcell hb'; have hz := hb'.size; (try (simp at hz)); have hH' := Held.step (w0 := w) (by repeat (first | assumption | refine Held.alloc ?_ _ | refine Held.drew ?_)) hb'; clear hb') | (go_at_call 41; (with_reducible refine (sure08 _ (Held.handle (w0 := w) (by repeat (first | assumption | refine Held.alloc ?_ _ | refine Held.drew ?_))) (ht.below (Held.below (w0 := w) (by repeat (first | assumption | refine Held.alloc ?_ _ | refine Held.drew ?_))))).mono ?_); rintro e w' ⟨rfl, hb'⟩; obtain ⟨hc, hf⟩ := bcell hb'; have hz := hb'.size; (try (simp at hz)); have hH' := Held.step (w0 := w) (by repeat (first | assumption | refine Held.alloc ?_ _ | refine Held.drew ?_)) hb'; clear hb'))
  go_ret
  exact ⟨rfl, Held.below (w0 := w) (by assumption)⟩
theorem walkDaytimeStamps (day sec nano : Int) (s : ByteArray) (hdy : InR day) (hsc : InR sec) (hnn : InR nano) (hs : s.size ≤ 9223372036854775807) (w : World) (hg : w.cell? ⟨0, 0, none⟩ = some asHandle) (ht : Tab w) :
    Calls Tryd.prog 7 #[.int .i64 day, .agg #[.int .i64 sec, .int .i64 nano], .string s] w fun e w' => e = .returned (.bool true) ∧ Below w.heap.size w w' := by
  obtain ⟨t, k, g⟩ := isStamp_ex day sec nano
  obtain ⟨a, b, c, j, p⟩ := isP8_ex s
  by_cases hl : s.size ≤ 100
  · by_cases h1 : day ≤ 300000
    · exact dst_lo day sec nano s hdy hsc hnn hs hl h1 t k g a b c j p w hg ht
    · by_cases h2 : day ≤ 2932896
      · exact dst_far day sec nano s hdy hsc hnn hs hl (by omega) h2 w hg ht
      · exact dst_hi day sec nano s hdy hsc hnn hs hl (by omega) t k g a b c j p w hg ht
  · exact dst_long day sec nano s hdy hsc hnn hs (by omega) w hg ht
end Go.Proofs.YtengchkiejpglaaDoor
