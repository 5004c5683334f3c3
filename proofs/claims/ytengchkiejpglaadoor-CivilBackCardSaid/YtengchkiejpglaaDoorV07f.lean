/-
  Layer 7: the statement CivilBack.
-/
import Derived.Test.YtengchkiejpglaaDoorV07e
import Derived.Deep.DeepCutAuto
import Derived.Deep.RegionHeld3
namespace Go.Proofs.YtengchkiejpglaaDoor
open Go.RowKit Go.Extern.Stop Go.Stop Go.Extern
set_option linter.unusedVariables false
set_option linter.unusedSimpArgs false
theorem digs4 (n : Nat) : ∃ a b c d, Dig.digs 4 n = [a, b, c, d] := ⟨_, _, _, _, rfl⟩
theorem digs2 (n : Nat) : ∃ a b, Dig.digs 2 n = [a, b] := ⟨_, _, rfl⟩
theorem numS_digs (k n : Nat) (h : n < 10 ^ k) : Dig.numS 0 ⟨(Dig.digs k n).toArray⟩ = n := by
  unfold Dig.numS Dig.numOr
  rw [if_pos (Dig.allD_digs k n)]
  exact Dig.val_digs k n h
theorem digB_digs (k n : Nat) (h : 1 ≤ k) : Dig.digB ⟨(Dig.digs k n).toArray⟩ = true := by
  rw [digB_eq]
  have : (Dig.digs k n).isEmpty = false := by
    have hl := Dig.digs_length k n
    cases h : Dig.digs k n with
    | nil => rw [h] at hl; simp at hl; omega
    | cons a b => rfl
  show (Dig.allD (Dig.digs k n) && !(Dig.digs k n).isEmpty) = true
  rw [Dig.allD_digs, this]; rfl
theorem isParse_date {y m d : Int} (h : Cal.may y m d) : IsParse ⟨(dateL y m d).toArray⟩ y m d 0 := by
  have h' := h
  obtain ⟨y1, y2, m1, m2, d1, d2⟩ := h'
  have dl := Cal.dim_lo y m
  have e1 : (⟨(dateL y m d).toArray⟩ : ByteArray).extract 0 4 = ⟨(Dig.digs 4 y.toNat).toArray⟩ := by
    obtain ⟨a, b, c, e, h4⟩ := digs4 y.toNat
    obtain ⟨f, g, h2⟩ := digs2 m.toNat
    obtain ⟨i, j, h2'⟩ := digs2 d.toNat
    unfold dateL; rw [h4, h2, h2']; rfl
  have e2 : (⟨(dateL y m d).toArray⟩ : ByteArray).extract 5 7 = ⟨(Dig.digs 2 m.toNat).toArray⟩ := by
    obtain ⟨a, b, c, e, h4⟩ := digs4 y.toNat
    obtain ⟨f, g, h2⟩ := digs2 m.toNat
    obtain ⟨i, j, h2'⟩ := digs2 d.toNat
    unfold dateL; rw [h4, h2, h2']; rfl
  have e3 : (⟨(dateL y m d).toArray⟩ : ByteArray).extract 8 10 = ⟨(Dig.digs 2 d.toNat).toArray⟩ := by
    obtain ⟨a, b, c, e, h4⟩ := digs4 y.toNat
    obtain ⟨f, g, h2⟩ := digs2 m.toNat
    obtain ⟨i, j, h2'⟩ := digs2 d.toNat
    unfold dateL; rw [h4, h2, h2']; rfl
  have v1 : Dig.numS 0 ((⟨(dateL y m d).toArray⟩ : ByteArray).extract 0 4) = y := by rw [e1, numS_digs 4 _ (by show y.toNat < 10000; omega)]; omega
  have v2 : Dig.numS 0 ((⟨(dateL y m d).toArray⟩ : ByteArray).extract 5 7) = m := by rw [e2, numS_digs 2 _ (by show m.toNat < 100; omega)]; omega
  have v3 : Dig.numS 0 ((⟨(dateL y m d).toArray⟩ : ByteArray).extract 8 10) = d := by rw [e3, numS_digs 2 _ (by show d.toNat < 100; omega)]; omega
  left
  refine ⟨⟨?_, ?_, ?_, by rw [e1]; exact digB_digs _ _ (by omega), by rw [e2]; exact digB_digs _ _ (by omega), by rw [e3]; exact digB_digs _ _ (by omega), by rw [v1, v2, v3]; exact h⟩, rfl, v1.symm, v2.symm, v3.symm⟩
  · show (dateL y m d).length = 10
    unfold dateL; simp [Dig.digs_length]
  · obtain ⟨a, b, c, e, h4⟩ := digs4 y.toNat
    obtain ⟨f, g, h2⟩ := digs2 m.toNat
    obtain ⟨i, j, h2'⟩ := digs2 d.toNat
    simp only [dateL, h4, h2, h2']; rfl
  · obtain ⟨a, b, c, e, h4⟩ := digs4 y.toNat
    obtain ⟨f, g, h2⟩ := digs2 m.toNat
    obtain ⟨i, j, h2'⟩ := digs2 d.toNat
    simp only [dateL, h4, h2, h2']; rfl
theorem wd_next (n : Int) : wd (n + 1) = wd n % 7 + 1 := by unfold wd; omega
theorem wd_far (n : Int) : wd (n + 146097) = wd n := by unfold wd; omega
theorem wd_bd (n : Int) : 1 ≤ wd n ∧ wd n ≤ 7 := by unfold wd; omega
theorem R3.set {b : Nat} {x y z : Value} {wx : World} (h : R3 b x y z wx) (x' y' z' : Value) : R3 b x' y' z' (((wx.setCell ⟨b, 0, none⟩ x').setCell ⟨b, 1, none⟩ y').setCell ⟨b, 2, none⟩ z') := by
  obtain ⟨h0, h1, h2, h3, h4, h5, h6⟩ := h
  exact ⟨by simp; exact h0, by go_simp, by go_simp, by go_simp, by go_simp, by go_simp, by go_simp⟩
theorem B3.set {c b : Nat} {x y z : Value} {wx : World} (h : B3 c x y z wx) (hne : c ≠ b) (p q r : Value) : B3 c x y z (((wx.setCell ⟨b, 0, none⟩ p).setCell ⟨b, 1, none⟩ q).setCell ⟨b, 2, none⟩ r) := by
  obtain ⟨h0, h1, h2, h3⟩ := h
  exact ⟨by simp; exact h0, by go_simp, by go_simp, by go_simp⟩
theorem Held.set3 {w wx : World} {b : Nat} (h : Held w wx) (hb : w.heap.size ≤ b) (hg : 0 < w.heap.size) (p q r : Value) : Held w (((wx.setCell ⟨b, 0, none⟩ p).setCell ⟨b, 1, none⟩ q).setCell ⟨b, 2, none⟩ r) := by
  have hbe : Below w.heap.size w (((wx.setCell ⟨b, 0, none⟩ p).setCell ⟨b, 1, none⟩ q).setCell ⟨b, 2, none⟩ r) := ((h.2.setCell hb _).setCell hb _).setCell hb _
  have h0 := h.1
  rw [h.2.cell (p := ⟨0, 0, none⟩) hg] at h0
  exact ⟨by rw [hbe.cell (p := ⟨0, 0, none⟩) hg]; exact h0, hbe⟩
abbrev SCB (w : World) (b0 : Nat) (v00 v01 v02 : Value) (wx : World) : Prop := Held w wx ∧ B3 b0 v00 v01 v02 wx
theorem SCB.step {w : World} {b0 : Nat} {v00 v01 v02 : Value} {wx w' : World} (h : SCB w b0 v00 v01 v02 wx) (hb : Below wx.heap.size wx w') : SCB w b0 v00 v01 v02 w' := ⟨(h.1).step hb, (h.2).step hb⟩
theorem SCB.drew {w : World} {b0 : Nat} {v00 v01 v02 : Value} {wx : World} (h : SCB w b0 v00 v01 v02 wx) : SCB w b0 v00 v01 v02 wx.drew := h.step (Below.refl _ _).drew
set_option maxRecDepth 100000 in
set_option maxHeartbeats 16000000 in
theorem cback_no_11 (y m d n : Int) (hy : InR y) (hm : InR m) (hd : InR d) (hn : InR n) (hM : ¬ Cal.may y m d) (py pm pd : Int) (pM : Cal.may py pm pd) (pN : Cal.num py pm pd = n) (hx : pd < Cal.dim py pm) (hQ : IsOf (n + 1) py pm (pd + 1) 0) (hF : IsOf (n + 146097) (py + 400) pm pd 0) (w : World) (hg : w.cell? ⟨0, 0, none⟩ = some asHandle) (ht : Tab w) :
    Calls Tryd.prog 5 #[.agg #[.int .i64 y, .int .i64 m, .int .i64 d], .int .i64 n] w fun e w' => e = .returned (.bool true) ∧ Below w.heap.size w w' := by
  have hH := Held.start hg
  have pb := Cal.may_num _ _ _ pM
  rw [pN] at pb
  have hP : IsOf n py pm pd 0 := Or.inl ⟨rfl, pM, pN⟩
  have hn1 : InR (n + 1) := by omega
  have hn2 : InR (n + 146097) := by omega
  obtain ⟨p1, p2, p3, p4, p5, p6⟩ := id pM
  have pdl := Cal.dim_lo py pm
  have pb1 : InR py := by omega
  have pb2 : InR pm := by omega
  have pb3 : InR pd := by omega
  have k1 := wd_next n
  have k2 := wd_far n
  have k3 := wd_bd n
  have e0 := errOf_zero
  have e2 := errOf_ne (by decide : ¬ (2 : Int) = 0)
  go_enter Tryd.func5, Tryd.ntmps5
  go_wp2_with (fail)
  go_at_call 26
  (with_reducible refine (check_no _ _ _ _ hy hm hd hM).mono ?_)
  rintro e w1 ⟨rfl, HB⟩
  obtain ⟨hc1, hf1⟩ := bcell HB
  obtain ⟨hd1, hh1⟩ := bcell2 (U := w) (by repeat (first | exact Below.refl _ _ | refine Below.setCell ?_ (by simp <;> omega) _ | refine Below.alloc ?_ (by simp <;> omega) _ | refine Below.drew ?_)) HB
  have hz1 := HB.size
  try simp at hz1
  (try (have z1w0 : w.heap.size < w1.heap.size := (by omega)))
  (try (have z1w1 : w.heap.size + 1 < w1.heap.size := (by omega)))
  have hH1 := Held.step (w0 := w) (by repeat (first | assumption | refine Held.alloc ?_ _ | refine Held.drew ?_)) HB
  clear HB
  go_wp2_with (fail)
  go_at_call 21
  (with_reducible refine (of_f _ py pm pd 0 _ hn hP).mono ?_)
  rintro e w2 ⟨rfl, HB⟩
  obtain ⟨hc2, hf2⟩ := bcell HB
  obtain ⟨hd2, hh2⟩ := bcell2 (U := w1) (by repeat (first | exact Below.refl _ _ | refine Below.setCell ?_ (by simp <;> omega) _ | refine Below.alloc ?_ (by simp <;> omega) _ | refine Below.drew ?_)) HB
  have hz2 := HB.size
  try simp at hz2
  (try (have z2w0 : w.heap.size < w2.heap.size := (by omega)))
  (try (have z2w1 : w.heap.size + 1 < w2.heap.size := (by omega)))
  (try (have z2w10 : w1.heap.size < w2.heap.size := (by omega)))
  (try (have z2w11 : w1.heap.size + 1 < w2.heap.size := (by omega)))
  have hH2 := Held.step (w0 := w) (by repeat (first | assumption | refine Held.alloc ?_ _ | refine Held.drew ?_)) HB
  clear HB
  rw [errOf_zero]
  have hS0 : SCB w (w2.heap.size) (.int .i64 py) (.int .i64 pm) (.int .i64 pd) (w2.alloc (.cells #[.int .i64 py, .int .i64 pm, .int .i64 pd] 26)) := ⟨Held.alloc hH2 _, ⟨by simp <;> omega, by go_simp, by go_simp, by go_simp⟩⟩
  go_wp2_with (first | (go_at_call 20; (with_reducible refine (days_ok _ _ _ _ pb1 pb2 pb3 pM).mono ?_); rintro e w' ⟨rfl, hb'⟩; have hS' := SCB.step (by first | assumption | (refine SCB.step (by assumption) ?_; (repeat (first | exact Below.refl _ _ | refine Below.setCell ?_ (by simp <;> omega) _ | refine Below.alloc ?_ (by simp <;> omega) _ | refine Below.drew ?_ | refine below_drewN ?_ _)))) hb'; clear hb'; obtain ⟨_, ⟨l0, c00, c01, c02⟩⟩ := id hS') | (go_at_call 21; (with_reducible refine (of_f (n + 1) py pm (pd + 1) 0 _ hn1 hQ).mono ?_); rintro e w' ⟨rfl, hb'⟩; have hS' := SCB.step (by first | assumption | (refine SCB.step (by assumption) ?_; (repeat (first | exact Below.refl _ _ | refine Below.setCell ?_ (by simp <;> omega) _ | refine Below.alloc ?_ (by simp <;> omega) _ | refine Below.drew ?_ | refine below_drewN ?_ _)))) hb'; clear hb'; obtain ⟨_, ⟨l0, c00, c01, c02⟩⟩ := id hS') | (go_at_call 21; (with_reducible refine (of_f (n + 146097) (py + 400) pm pd 0 _ hn2 hF).mono ?_); rintro e w' ⟨rfl, hb'⟩; have hS' := SCB.step (by first | assumption | (refine SCB.step (by assumption) ?_; (repeat (first | exact Below.refl _ _ | refine Below.setCell ?_ (by simp <;> omega) _ | refine Below.alloc ?_ (by simp <;> omega) _ | refine Below.drew ?_ | refine below_drewN ?_ _)))) hb'; clear hb'; obtain ⟨_, ⟨l0, c00, c01, c02⟩⟩ := id hS') | (go_at_call 34; (with_reducible refine (week_c _ _ (by omega)).mono ?_); rintro e w' ⟨rfl, hb'⟩; have hS' := SCB.step (by first | assumption | (refine SCB.step (by assumption) ?_; (repeat (first | exact Below.refl _ _ | refine Below.setCell ?_ (by simp <;> omega) _ | refine Below.alloc ?_ (by simp <;> omega) _ | refine Below.drew ?_ | refine below_drewN ?_ _)))) hb'; clear hb'; obtain ⟨_, ⟨l0, c00, c01, c02⟩⟩ := id hS') | (go_at_call 19; (with_reducible refine (sure07 _ (Held.handle (w0 := w) (by first | exact And.left (by assumption) | (refine Held.step (And.left (by assumption)) ?_; (repeat (first | exact Below.refl _ _ | refine Below.setCell ?_ (by simp <;> omega) _ | refine Below.alloc ?_ (by simp <;> omega) _ | refine Below.drew ?_ | refine below_drewN ?_ _))))) (ht.below (Held.below (w0 := w) (by first | exact And.left (by assumption) | (refine Held.step (And.left (by assumption)) ?_; (repeat (first | exact Below.refl _ _ | refine Below.setCell ?_ (by simp <;> omega) _ | refine Below.alloc ?_ (by simp <;> omega) _ | refine Below.drew ?_ | refine below_drewN ?_ _))))))).mono ?_); rintro e w' ⟨rfl, hb'⟩; have hS' := SCB.step (by first | assumption | (refine SCB.step (by assumption) ?_; (repeat (first | exact Below.refl _ _ | refine Below.setCell ?_ (by simp <;> omega) _ | refine Below.alloc ?_ (by simp <;> omega) _ | refine Below.drew ?_ | refine below_drewN ?_ _)))) hb'; clear hb'; obtain ⟨_, ⟨l0, c00, c01, c02⟩⟩ := id hS'))
  go_quiet ((go_at_call 22; exact Calls.quiet_of_same ((month_c _ _ _ (by omega) (by omega)).mono fun _ _ ⟨a, b⟩ => ⟨a, b.symm⟩)))
  all_goals go_wp2_with (first | (go_at_call 20; (with_reducible refine (days_ok _ _ _ _ pb1 pb2 pb3 pM).mono ?_); rintro e w' ⟨rfl, hb'⟩; have hS' := SCB.step (by first | assumption | (refine SCB.step (by assumption) ?_; (repeat (first | exact Below.refl _ _ | refine Below.setCell ?_ (by simp <;> omega) _ | refine Below.alloc ?_ (by simp <;> omega) _ | refine Below.drew ?_ | refine below_drewN ?_ _)))) hb'; clear hb'; obtain ⟨_, ⟨l0, c00, c01, c02⟩⟩ := id hS') | (go_at_call 21; (with_reducible refine (of_f (n + 1) py pm (pd + 1) 0 _ hn1 hQ).mono ?_); rintro e w' ⟨rfl, hb'⟩; have hS' := SCB.step (by first | assumption | (refine SCB.step (by assumption) ?_; (repeat (first | exact Below.refl _ _ | refine Below.setCell ?_ (by simp <;> omega) _ | refine Below.alloc ?_ (by simp <;> omega) _ | refine Below.drew ?_ | refine below_drewN ?_ _)))) hb'; clear hb'; obtain ⟨_, ⟨l0, c00, c01, c02⟩⟩ := id hS') | (go_at_call 21; (with_reducible refine (of_f (n + 146097) (py + 400) pm pd 0 _ hn2 hF).mono ?_); rintro e w' ⟨rfl, hb'⟩; have hS' := SCB.step (by first | assumption | (refine SCB.step (by assumption) ?_; (repeat (first | exact Below.refl _ _ | refine Below.setCell ?_ (by simp <;> omega) _ | refine Below.alloc ?_ (by simp <;> omega) _ | refine Below.drew ?_ | refine below_drewN ?_ _)))) hb'; clear hb'; obtain ⟨_, ⟨l0, c00, c01, c02⟩⟩ := id hS') | (go_at_call 34; (with_reducible refine (week_c _ _ (by omega)).mono ?_); rintro e w' ⟨rfl, hb'⟩; have hS' := SCB.step (by first | assumption | (refine SCB.step (by assumption) ?_; (repeat (first | exact Below.refl _ _ | refine Below.setCell ?_ (by simp <;> omega) _ | refine Below.alloc ?_ (by simp <;> omega) _ | refine Below.drew ?_ | refine below_drewN ?_ _)))) hb'; clear hb'; obtain ⟨_, ⟨l0, c00, c01, c02⟩⟩ := id hS') | (go_at_call 19; (with_reducible refine (sure07 _ (Held.handle (w0 := w) (by first | exact And.left (by assumption) | (refine Held.step (And.left (by assumption)) ?_; (repeat (first | exact Below.refl _ _ | refine Below.setCell ?_ (by simp <;> omega) _ | refine Below.alloc ?_ (by simp <;> omega) _ | refine Below.drew ?_ | refine below_drewN ?_ _))))) (ht.below (Held.below (w0 := w) (by first | exact And.left (by assumption) | (refine Held.step (And.left (by assumption)) ?_; (repeat (first | exact Below.refl _ _ | refine Below.setCell ?_ (by simp <;> omega) _ | refine Below.alloc ?_ (by simp <;> omega) _ | refine Below.drew ?_ | refine below_drewN ?_ _))))))).mono ?_); rintro e w' ⟨rfl, hb'⟩; have hS' := SCB.step (by first | assumption | (refine SCB.step (by assumption) ?_; (repeat (first | exact Below.refl _ _ | refine Below.setCell ?_ (by simp <;> omega) _ | refine Below.alloc ?_ (by simp <;> omega) _ | refine Below.drew ?_ | refine below_drewN ?_ _)))) hb'; clear hb'; obtain ⟨_, ⟨l0, c00, c01, c02⟩⟩ := id hS'))
  all_goals go_ret
  all_goals exact ⟨rfl, Held.below (w0 := w) (And.left (by assumption))⟩
set_option maxRecDepth 100000 in
set_option maxHeartbeats 16000000 in
theorem cback_no_12 (y m d n : Int) (hy : InR y) (hm : InR m) (hd : InR d) (hn : InR n) (hM : ¬ Cal.may y m d) (py pm pd : Int) (pM : Cal.may py pm pd) (pN : Cal.num py pm pd = n) (hx : pd < Cal.dim py pm) (hQ : IsOf (n + 1) py pm (pd + 1) 0) (hF : IsOf (n + 146097) 0 0 0 2) (w : World) (hg : w.cell? ⟨0, 0, none⟩ = some asHandle) (ht : Tab w) :
    Calls Tryd.prog 5 #[.agg #[.int .i64 y, .int .i64 m, .int .i64 d], .int .i64 n] w fun e w' => e = .returned (.bool true) ∧ Below w.heap.size w w' := by
  have hH := Held.start hg
  have pb := Cal.may_num _ _ _ pM
  rw [pN] at pb
  have hP : IsOf n py pm pd 0 := Or.inl ⟨rfl, pM, pN⟩
  have hn1 : InR (n + 1) := by omega
  have hn2 : InR (n + 146097) := by omega
  obtain ⟨p1, p2, p3, p4, p5, p6⟩ := id pM
  have pdl := Cal.dim_lo py pm
  have pb1 : InR py := by omega
  have pb2 : InR pm := by omega
  have pb3 : InR pd := by omega
  have k1 := wd_next n
  have k2 := wd_far n
  have k3 := wd_bd n
  have e0 := errOf_zero
  have e2 := errOf_ne (by decide : ¬ (2 : Int) = 0)
  go_enter Tryd.func5, Tryd.ntmps5
  go_wp2_with (fail)
  go_at_call 26
  (with_reducible refine (check_no _ _ _ _ hy hm hd hM).mono ?_)
  rintro e w1 ⟨rfl, HB⟩
  obtain ⟨hc1, hf1⟩ := bcell HB
  obtain ⟨hd1, hh1⟩ := bcell2 (U := w) (by repeat (first | exact Below.refl _ _ | refine Below.setCell ?_ (by simp <;> omega) _ | refine Below.alloc ?_ (by simp <;> omega) _ | refine Below.drew ?_)) HB
  have hz1 := HB.size
  try simp at hz1
  (try (have z1w0 : w.heap.size < w1.heap.size := (by omega)))
  (try (have z1w1 : w.heap.size + 1 < w1.heap.size := (by omega)))
  have hH1 := Held.step (w0 := w) (by repeat (first | assumption | refine Held.alloc ?_ _ | refine Held.drew ?_)) HB
  clear HB
  go_wp2_with (fail)
  go_at_call 21
  (with_reducible refine (of_f _ py pm pd 0 _ hn hP).mono ?_)
  rintro e w2 ⟨rfl, HB⟩
  obtain ⟨hc2, hf2⟩ := bcell HB
  obtain ⟨hd2, hh2⟩ := bcell2 (U := w1) (by repeat (first | exact Below.refl _ _ | refine Below.setCell ?_ (by simp <;> omega) _ | refine Below.alloc ?_ (by simp <;> omega) _ | refine Below.drew ?_)) HB
  have hz2 := HB.size
  try simp at hz2
  (try (have z2w0 : w.heap.size < w2.heap.size := (by omega)))
  (try (have z2w1 : w.heap.size + 1 < w2.heap.size := (by omega)))
  (try (have z2w10 : w1.heap.size < w2.heap.size := (by omega)))
  (try (have z2w11 : w1.heap.size + 1 < w2.heap.size := (by omega)))
  have hH2 := Held.step (w0 := w) (by repeat (first | assumption | refine Held.alloc ?_ _ | refine Held.drew ?_)) HB
  clear HB
  rw [errOf_zero]
  have hS0 : SCB w (w2.heap.size) (.int .i64 py) (.int .i64 pm) (.int .i64 pd) (w2.alloc (.cells #[.int .i64 py, .int .i64 pm, .int .i64 pd] 26)) := ⟨Held.alloc hH2 _, ⟨by simp <;> omega, by go_simp, by go_simp, by go_simp⟩⟩
  go_wp2_with (first | (go_at_call 20; (with_reducible refine (days_ok _ _ _ _ pb1 pb2 pb3 pM).mono ?_); rintro e w' ⟨rfl, hb'⟩; have hS' := SCB.step (by first | assumption | (refine SCB.step (by assumption) ?_; (repeat (first | exact Below.refl _ _ | refine Below.setCell ?_ (by simp <;> omega) _ | refine Below.alloc ?_ (by simp <;> omega) _ | refine Below.drew ?_ | refine below_drewN ?_ _)))) hb'; clear hb'; obtain ⟨_, ⟨l0, c00, c01, c02⟩⟩ := id hS') | (go_at_call 21; (with_reducible refine (of_f (n + 1) py pm (pd + 1) 0 _ hn1 hQ).mono ?_); rintro e w' ⟨rfl, hb'⟩; have hS' := SCB.step (by first | assumption | (refine SCB.step (by assumption) ?_; (repeat (first | exact Below.refl _ _ | refine Below.setCell ?_ (by simp <;> omega) _ | refine Below.alloc ?_ (by simp <;> omega) _ | refine Below.drew ?_ | refine below_drewN ?_ _)))) hb'; clear hb'; obtain ⟨_, ⟨l0, c00, c01, c02⟩⟩ := id hS') | (go_at_call 21; (with_reducible refine (of_f (n + 146097) 0 0 0 2 _ hn2 hF).mono ?_); rintro e w' ⟨rfl, hb'⟩; have hS' := SCB.step (by first | assumption | (refine SCB.step (by assumption) ?_; (repeat (first | exact Below.refl _ _ | refine Below.setCell ?_ (by simp <;> omega) _ | refine Below.alloc ?_ (by simp <;> omega) _ | refine Below.drew ?_ | refine below_drewN ?_ _)))) hb'; clear hb'; obtain ⟨_, ⟨l0, c00, c01, c02⟩⟩ := id hS') | (go_at_call 34; (with_reducible refine (week_c _ _ (by omega)).mono ?_); rintro e w' ⟨rfl, hb'⟩; have hS' := SCB.step (by first | assumption | (refine SCB.step (by assumption) ?_; (repeat (first | exact Below.refl _ _ | refine Below.setCell ?_ (by simp <;> omega) _ | refine Below.alloc ?_ (by simp <;> omega) _ | refine Below.drew ?_ | refine below_drewN ?_ _)))) hb'; clear hb'; obtain ⟨_, ⟨l0, c00, c01, c02⟩⟩ := id hS') | (go_at_call 19; (with_reducible refine (sure07 _ (Held.handle (w0 := w) (by first | exact And.left (by assumption) | (refine Held.step (And.left (by assumption)) ?_; (repeat (first | exact Below.refl _ _ | refine Below.setCell ?_ (by simp <;> omega) _ | refine Below.alloc ?_ (by simp <;> omega) _ | refine Below.drew ?_ | refine below_drewN ?_ _))))) (ht.below (Held.below (w0 := w) (by first | exact And.left (by assumption) | (refine Held.step (And.left (by assumption)) ?_; (repeat (first | exact Below.refl _ _ | refine Below.setCell ?_ (by simp <;> omega) _ | refine Below.alloc ?_ (by simp <;> omega) _ | refine Below.drew ?_ | refine below_drewN ?_ _))))))).mono ?_); rintro e w' ⟨rfl, hb'⟩; have hS' := SCB.step (by first | assumption | (refine SCB.step (by assumption) ?_; (repeat (first | exact Below.refl _ _ | refine Below.setCell ?_ (by simp <;> omega) _ | refine Below.alloc ?_ (by simp <;> omega) _ | refine Below.drew ?_ | refine below_drewN ?_ _)))) hb'; clear hb'; obtain ⟨_, ⟨l0, c00, c01, c02⟩⟩ := id hS'))
  go_quiet ((go_at_call 22; exact Calls.quiet_of_same ((month_c _ _ _ (by omega) (by omega)).mono fun _ _ ⟨a, b⟩ => ⟨a, b.symm⟩)))
  all_goals go_wp2_with (first | (go_at_call 20; (with_reducible refine (days_ok _ _ _ _ pb1 pb2 pb3 pM).mono ?_); rintro e w' ⟨rfl, hb'⟩; have hS' := SCB.step (by first | assumption | (refine SCB.step (by assumption) ?_; (repeat (first | exact Below.refl _ _ | refine Below.setCell ?_ (by simp <;> omega) _ | refine Below.alloc ?_ (by simp <;> omega) _ | refine Below.drew ?_ | refine below_drewN ?_ _)))) hb'; clear hb'; obtain ⟨_, ⟨l0, c00, c01, c02⟩⟩ := id hS') | (go_at_call 21; (with_reducible refine (of_f (n + 1) py pm (pd + 1) 0 _ hn1 hQ).mono ?_); rintro e w' ⟨rfl, hb'⟩; have hS' := SCB.step (by first | assumption | (refine SCB.step (by assumption) ?_; (repeat (first | exact Below.refl _ _ | refine Below.setCell ?_ (by simp <;> omega) _ | refine Below.alloc ?_ (by simp <;> omega) _ | refine Below.drew ?_ | refine below_drewN ?_ _)))) hb'; clear hb'; obtain ⟨_, ⟨l0, c00, c01, c02⟩⟩ := id hS') | (go_at_call 21; (with_reducible refine (of_f (n + 146097) 0 0 0 2 _ hn2 hF).mono ?_); rintro e w' ⟨rfl, hb'⟩; have hS' := SCB.step (by first | assumption | (refine SCB.step (by assumption) ?_; (repeat (first | exact Below.refl _ _ | refine Below.setCell ?_ (by simp <;> omega) _ | refine Below.alloc ?_ (by simp <;> omega) _ | refine Below.drew ?_ | refine below_drewN ?_ _)))) hb'; clear hb'; obtain ⟨_, ⟨l0, c00, c01, c02⟩⟩ := id hS') | (go_at_call 34; (with_reducible refine (week_c _ _ (by omega)).mono ?_); rintro e w' ⟨rfl, hb'⟩; have hS' := SCB.step (by first | assumption | (refine SCB.step (by assumption) ?_; (repeat (first | exact Below.refl _ _ | refine Below.setCell ?_ (by simp <;> omega) _ | refine Below.alloc ?_ (by simp <;> omega) _ | refine Below.drew ?_ | refine below_drewN ?_ _)))) hb'; clear hb'; obtain ⟨_, ⟨l0, c00, c01, c02⟩⟩ := id hS') | (go_at_call 19; (with_reducible refine (sure07 _ (Held.handle (w0 := w) (by first | exact And.left (by assumption) | (refine Held.step (And.left (by assumption)) ?_; (repeat (first | exact Below.refl _ _ | refine Below.setCell ?_ (by simp <;> omega) _ | refine Below.alloc ?_ (by simp <;> omega) _ | refine Below.drew ?_ | refine below_drewN ?_ _))))) (ht.below (Held.below (w0 := w) (by first | exact And.left (by assumption) | (refine Held.step (And.left (by assumption)) ?_; (repeat (first | exact Below.refl _ _ | refine Below.setCell ?_ (by simp <;> omega) _ | refine Below.alloc ?_ (by simp <;> omega) _ | refine Below.drew ?_ | refine below_drewN ?_ _))))))).mono ?_); rintro e w' ⟨rfl, hb'⟩; have hS' := SCB.step (by first | assumption | (refine SCB.step (by assumption) ?_; (repeat (first | exact Below.refl _ _ | refine Below.setCell ?_ (by simp <;> omega) _ | refine Below.alloc ?_ (by simp <;> omega) _ | refine Below.drew ?_ | refine below_drewN ?_ _)))) hb'; clear hb'; obtain ⟨_, ⟨l0, c00, c01, c02⟩⟩ := id hS'))
  all_goals go_ret
  all_goals exact ⟨rfl, Held.below (w0 := w) (And.left (by assumption))⟩
set_option maxRecDepth 100000 in
set_option maxHeartbeats 16000000 in
theorem cback_no_21 (y m d n : Int) (hy : InR y) (hm : InR m) (hd : InR d) (hn : InR n) (hM : ¬ Cal.may y m d) (py pm pd : Int) (pM : Cal.may py pm pd) (pN : Cal.num py pm pd = n) (hx : pd = Cal.dim py pm) (hx2 : pm < 12) (hQ : IsOf (n + 1) py (pm + 1) 1 0) (hF : IsOf (n + 146097) (py + 400) pm pd 0) (w : World) (hg : w.cell? ⟨0, 0, none⟩ = some asHandle) (ht : Tab w) :
    Calls Tryd.prog 5 #[.agg #[.int .i64 y, .int .i64 m, .int .i64 d], .int .i64 n] w fun e w' => e = .returned (.bool true) ∧ Below w.heap.size w w' := by
  have hH := Held.start hg
  have pb := Cal.may_num _ _ _ pM
  rw [pN] at pb
  have hP : IsOf n py pm pd 0 := Or.inl ⟨rfl, pM, pN⟩
  have hn1 : InR (n + 1) := by omega
  have hn2 : InR (n + 146097) := by omega
  obtain ⟨p1, p2, p3, p4, p5, p6⟩ := id pM
  have pdl := Cal.dim_lo py pm
  have pb1 : InR py := by omega
  have pb2 : InR pm := by omega
  have pb3 : InR pd := by omega
  have k1 := wd_next n
  have k2 := wd_far n
  have k3 := wd_bd n
  have e0 := errOf_zero
  have e2 := errOf_ne (by decide : ¬ (2 : Int) = 0)
  have hx0 : pd ≤ Cal.dim py pm ∧ Cal.dim py pm ≤ pd := by omega
  clear hx
  go_enter Tryd.func5, Tryd.ntmps5
  go_wp2_with (fail)
  go_at_call 26
  (with_reducible refine (check_no _ _ _ _ hy hm hd hM).mono ?_)
  rintro e w1 ⟨rfl, HB⟩
  obtain ⟨hc1, hf1⟩ := bcell HB
  obtain ⟨hd1, hh1⟩ := bcell2 (U := w) (by repeat (first | exact Below.refl _ _ | refine Below.setCell ?_ (by simp <;> omega) _ | refine Below.alloc ?_ (by simp <;> omega) _ | refine Below.drew ?_)) HB
  have hz1 := HB.size
  try simp at hz1
  (try (have z1w0 : w.heap.size < w1.heap.size := (by omega)))
  (try (have z1w1 : w.heap.size + 1 < w1.heap.size := (by omega)))
  have hH1 := Held.step (w0 := w) (by repeat (first | assumption | refine Held.alloc ?_ _ | refine Held.drew ?_)) HB
  clear HB
  go_wp2_with (fail)
  go_at_call 21
  (with_reducible refine (of_f _ py pm pd 0 _ hn hP).mono ?_)
  rintro e w2 ⟨rfl, HB⟩
  obtain ⟨hc2, hf2⟩ := bcell HB
  obtain ⟨hd2, hh2⟩ := bcell2 (U := w1) (by repeat (first | exact Below.refl _ _ | refine Below.setCell ?_ (by simp <;> omega) _ | refine Below.alloc ?_ (by simp <;> omega) _ | refine Below.drew ?_)) HB
  have hz2 := HB.size
  try simp at hz2
  (try (have z2w0 : w.heap.size < w2.heap.size := (by omega)))
  (try (have z2w1 : w.heap.size + 1 < w2.heap.size := (by omega)))
  (try (have z2w10 : w1.heap.size < w2.heap.size := (by omega)))
  (try (have z2w11 : w1.heap.size + 1 < w2.heap.size := (by omega)))
  have hH2 := Held.step (w0 := w) (by repeat (first | assumption | refine Held.alloc ?_ _ | refine Held.drew ?_)) HB
  clear HB
  rw [errOf_zero]
  have hS0 : SCB w (w2.heap.size) (.int .i64 py) (.int .i64 pm) (.int .i64 pd) (w2.alloc (.cells #[.int .i64 py, .int .i64 pm, .int .i64 pd] 26)) := ⟨Held.alloc hH2 _, ⟨by simp <;> omega, by go_simp, by go_simp, by go_simp⟩⟩
  go_wp2_with (first | (go_at_call 20; (with_reducible refine (days_ok _ _ _ _ pb1 pb2 pb3 pM).mono ?_); rintro e w' ⟨rfl, hb'⟩; have hS' := SCB.step (by first | assumption | (refine SCB.step (by assumption) ?_; (repeat (first | exact Below.refl _ _ | refine Below.setCell ?_ (by simp <;> omega) _ | refine Below.alloc ?_ (by simp <;> omega) _ | refine Below.drew ?_ | refine below_drewN ?_ _)))) hb'; clear hb'; obtain ⟨_, ⟨l0, c00, c01, c02⟩⟩ := id hS') | (go_at_call 21; (with_reducible refine (of_f (n + 1) py (pm + 1) 1 0 _ hn1 hQ).mono ?_); rintro e w' ⟨rfl, hb'⟩; have hS' := SCB.step (by first | assumption | (refine SCB.step (by assumption) ?_; (repeat (first | exact Below.refl _ _ | refine Below.setCell ?_ (by simp <;> omega) _ | refine Below.alloc ?_ (by simp <;> omega) _ | refine Below.drew ?_ | refine below_drewN ?_ _)))) hb'; clear hb'; obtain ⟨_, ⟨l0, c00, c01, c02⟩⟩ := id hS') | (go_at_call 21; (with_reducible refine (of_f (n + 146097) (py + 400) pm pd 0 _ hn2 hF).mono ?_); rintro e w' ⟨rfl, hb'⟩; have hS' := SCB.step (by first | assumption | (refine SCB.step (by assumption) ?_; (repeat (first | exact Below.refl _ _ | refine Below.setCell ?_ (by simp <;> omega) _ | refine Below.alloc ?_ (by simp <;> omega) _ | refine Below.drew ?_ | refine below_drewN ?_ _)))) hb'; clear hb'; obtain ⟨_, ⟨l0, c00, c01, c02⟩⟩ := id hS') | (go_at_call 34; (with_reducible refine (week_c _ _ (by omega)).mono ?_); rintro e w' ⟨rfl, hb'⟩; have hS' := SCB.step (by first | assumption | (refine SCB.step (by assumption) ?_; (repeat (first | exact Below.refl _ _ | refine Below.setCell ?_ (by simp <;> omega) _ | refine Below.alloc ?_ (by simp <;> omega) _ | refine Below.drew ?_ | refine below_drewN ?_ _)))) hb'; clear hb'; obtain ⟨_, ⟨l0, c00, c01, c02⟩⟩ := id hS') | (go_at_call 19; (with_reducible refine (sure07 _ (Held.handle (w0 := w) (by first | exact And.left (by assumption) | (refine Held.step (And.left (by assumption)) ?_; (repeat (first | exact Below.refl _ _ | refine Below.setCell ?_ (by simp <;> omega) _ | refine Below.alloc ?_ (by simp <;> omega) _ | refine Below.drew ?_ | refine below_drewN ?_ _))))) (ht.below (Held.below (w0 := w) (by first | exact And.left (by assumption) | (refine Held.step (And.left (by assumption)) ?_; (repeat (first | exact Below.refl _ _ | refine Below.setCell ?_ (by simp <;> omega) _ | refine Below.alloc ?_ (by simp <;> omega) _ | refine Below.drew ?_ | refine below_drewN ?_ _))))))).mono ?_); rintro e w' ⟨rfl, hb'⟩; have hS' := SCB.step (by first | assumption | (refine SCB.step (by assumption) ?_; (repeat (first | exact Below.refl _ _ | refine Below.setCell ?_ (by simp <;> omega) _ | refine Below.alloc ?_ (by simp <;> omega) _ | refine Below.drew ?_ | refine below_drewN ?_ _)))) hb'; clear hb'; obtain ⟨_, ⟨l0, c00, c01, c02⟩⟩ := id hS'))
  go_quiet ((go_at_call 22; exact Calls.quiet_of_same ((month_c _ _ _ (by omega) (by omega)).mono fun _ _ ⟨a, b⟩ => ⟨a, b.symm⟩)))
  all_goals go_wp2_with (first | (go_at_call 20; (with_reducible refine (days_ok _ _ _ _ pb1 pb2 pb3 pM).mono ?_); rintro e w' ⟨rfl, hb'⟩; have hS' := SCB.step (by first | assumption | (refine SCB.step (by assumption) ?_; (repeat (first | exact Below.refl _ _ | refine Below.setCell ?_ (by simp <;> omega) _ | refine Below.alloc ?_ (by simp <;> omega) _ | refine Below.drew ?_ | refine below_drewN ?_ _)))) hb'; clear hb'; obtain ⟨_, ⟨l0, c00, c01, c02⟩⟩ := id hS') | (go_at_call 21; (with_reducible refine (of_f (n + 1) py (pm + 1) 1 0 _ hn1 hQ).mono ?_); rintro e w' ⟨rfl, hb'⟩; have hS' := SCB.step (by first | assumption | (refine SCB.step (by assumption) ?_; (repeat (first | exact Below.refl _ _ | refine Below.setCell ?_ (by simp <;> omega) _ | refine Below.alloc ?_ (by simp <;> omega) _ | refine Below.drew ?_ | refine below_drewN ?_ _)))) hb'; clear hb'; obtain ⟨_, ⟨l0, c00, c01, c02⟩⟩ := id hS') | (go_at_call 21; (with_reducible refine (of_f (n + 146097) (py + 400) pm pd 0 _ hn2 hF).mono ?_); rintro e w' ⟨rfl, hb'⟩; have hS' := SCB.step (by first | assumption | (refine SCB.step (by assumption) ?_; (repeat (first | exact Below.refl _ _ | refine Below.setCell ?_ (by simp <;> omega) _ | refine Below.alloc ?_ (by simp <;> omega) _ | refine Below.drew ?_ | refine below_drewN ?_ _)))) hb'; clear hb'; obtain ⟨_, ⟨l0, c00, c01, c02⟩⟩ := id hS') | (go_at_call 34; (with_reducible refine (week_c _ _ (by omega)).mono ?_); rintro e w' ⟨rfl, hb'⟩; have hS' := SCB.step (by first | assumption | (refine SCB.step (by assumption) ?_; (repeat (first | exact Below.refl _ _ | refine Below.setCell ?_ (by simp <;> omega) _ | refine Below.alloc ?_ (by simp <;> omega) _ | refine Below.drew ?_ | refine below_drewN ?_ _)))) hb'; clear hb'; obtain ⟨_, ⟨l0, c00, c01, c02⟩⟩ := id hS') | (go_at_call 19; (with_reducible refine (sure07 _ (Held.handle (w0 := w) (by first | exact And.left (by assumption) | (refine Held.step (And.left (by assumption)) ?_; (repeat (first | exact Below.refl _ _ | refine Below.setCell ?_ (by simp <;> omega) _ | refine Below.alloc ?_ (by simp <;> omega) _ | refine Below.drew ?_ | refine below_drewN ?_ _))))) (ht.below (Held.below (w0 := w) (by first | exact And.left (by assumption) | (refine Held.step (And.left (by assumption)) ?_; (repeat (first | exact Below.refl _ _ | refine Below.setCell ?_ (by simp <;> omega) _ | refine Below.alloc ?_ (by simp <;> omega) _ | refine Below.drew ?_ | refine below_drewN ?_ _))))))).mono ?_); rintro e w' ⟨rfl, hb'⟩; have hS' := SCB.step (by first | assumption | (refine SCB.step (by assumption) ?_; (repeat (first | exact Below.refl _ _ | refine Below.setCell ?_ (by simp <;> omega) _ | refine Below.alloc ?_ (by simp <;> omega) _ | refine Below.drew ?_ | refine below_drewN ?_ _)))) hb'; clear hb'; obtain ⟨_, ⟨l0, c00, c01, c02⟩⟩ := id hS'))
  all_goals go_ret
  all_goals exact ⟨rfl, Held.below (w0 := w) (And.left (by assumption))⟩
set_option maxRecDepth 100000 in
set_option maxHeartbeats 16000000 in
theorem cback_no_22 (y m d n : Int) (hy : InR y) (hm : InR m) (hd : InR d) (hn : InR n) (hM : ¬ Cal.may y m d) (py pm pd : Int) (pM : Cal.may py pm pd) (pN : Cal.num py pm pd = n) (hx : pd = Cal.dim py pm) (hx2 : pm < 12) (hQ : IsOf (n + 1) py (pm + 1) 1 0) (hF : IsOf (n + 146097) 0 0 0 2) (w : World) (hg : w.cell? ⟨0, 0, none⟩ = some asHandle) (ht : Tab w) :
    Calls Tryd.prog 5 #[.agg #[.int .i64 y, .int .i64 m, .int .i64 d], .int .i64 n] w fun e w' => e = .returned (.bool true) ∧ Below w.heap.size w w' := by
  have hH := Held.start hg
  have pb := Cal.may_num _ _ _ pM
  rw [pN] at pb
  have hP : IsOf n py pm pd 0 := Or.inl ⟨rfl, pM, pN⟩
  have hn1 : InR (n + 1) := by omega
  have hn2 : InR (n + 146097) := by omega
  obtain ⟨p1, p2, p3, p4, p5, p6⟩ := id pM
  have pdl := Cal.dim_lo py pm
  have pb1 : InR py := by omega
  have pb2 : InR pm := by omega
  have pb3 : InR pd := by omega
  have k1 := wd_next n
  have k2 := wd_far n
  have k3 := wd_bd n
  have e0 := errOf_zero
  have e2 := errOf_ne (by decide : ¬ (2 : Int) = 0)
  have hx0 : pd ≤ Cal.dim py pm ∧ Cal.dim py pm ≤ pd := by omega
  clear hx
  go_enter Tryd.func5, Tryd.ntmps5
  go_wp2_with (fail)
  go_at_call 26
  (with_reducible refine (check_no _ _ _ _ hy hm hd hM).mono ?_)
  rintro e w1 ⟨rfl, HB⟩
  obtain ⟨hc1, hf1⟩ := bcell HB
  obtain ⟨hd1, hh1⟩ := bcell2 (U := w) (by repeat (first | exact Below.refl _ _ | refine Below.setCell ?_ (by simp <;> omega) _ | refine Below.alloc ?_ (by simp <;> omega) _ | refine Below.drew ?_)) HB
  have hz1 := HB.size
  try simp at hz1
  (try (have z1w0 : w.heap.size < w1.heap.size := (by omega)))
  (try (have z1w1 : w.heap.size + 1 < w1.heap.size := (by omega)))
  have hH1 := Held.step (w0 := w) (by repeat (first | assumption | refine Held.alloc ?_ _ | refine Held.drew ?_)) HB
  clear HB
  go_wp2_with (fail)
  go_at_call 21
  (with_reducible refine (of_f _ py pm pd 0 _ hn hP).mono ?_)
  rintro e w2 ⟨rfl, HB⟩
  obtain ⟨hc2, hf2⟩ := bcell HB
  obtain ⟨hd2, hh2⟩ := bcell2 (U := w1) (by repeat (first | exact Below.refl _ _ | refine Below.setCell ?_ (by simp <;> omega) _ | refine Below.alloc ?_ (by simp <;> omega) _ | refine Below.drew ?_)) HB
  have hz2 := HB.size
  try simp at hz2
  (try (have z2w0 : w.heap.size < w2.heap.size := (by omega)))
  (try (have z2w1 : w.heap.size + 1 < w2.heap.size := (by omega)))
  (try (have z2w10 : w1.heap.size < w2.heap.size := (by omega)))
  (try (have z2w11 : w1.heap.size + 1 < w2.heap.size := (by omega)))
  have hH2 := Held.step (w0 := w) (by repeat (first | assumption | refine Held.alloc ?_ _ | refine Held.drew ?_)) HB
  clear HB
  rw [errOf_zero]
  have hS0 : SCB w (w2.heap.size) (.int .i64 py) (.int .i64 pm) (.int .i64 pd) (w2.alloc (.cells #[.int .i64 py, .int .i64 pm, .int .i64 pd] 26)) := ⟨Held.alloc hH2 _, ⟨by simp <;> omega, by go_simp, by go_simp, by go_simp⟩⟩
  go_wp2_with (first | (go_at_call 20; (with_reducible refine (days_ok _ _ _ _ pb1 pb2 pb3 pM).mono ?_); rintro e w' ⟨rfl, hb'⟩; have hS' := SCB.step (by first | assumption | (refine SCB.step (by assumption) ?_; (repeat (first | exact Below.refl _ _ | refine Below.setCell ?_ (by simp <;> omega) _ | refine Below.alloc ?_ (by simp <;> omega) _ | refine Below.drew ?_ | refine below_drewN ?_ _)))) hb'; clear hb'; obtain ⟨_, ⟨l0, c00, c01, c02⟩⟩ := id hS') | (go_at_call 21; (with_reducible refine (of_f (n + 1) py (pm + 1) 1 0 _ hn1 hQ).mono ?_); rintro e w' ⟨rfl, hb'⟩; have hS' := SCB.step (by first | assumption | (refine SCB.step (by assumption) ?_; (repeat (first | exact Below.refl _ _ | refine Below.setCell ?_ (by simp <;> omega) _ | refine Below.alloc ?_ (by simp <;> omega) _ | refine Below.drew ?_ | refine below_drewN ?_ _)))) hb'; clear hb'; obtain ⟨_, ⟨l0, c00, c01, c02⟩⟩ := id hS') | (go_at_call 21; (with_reducible refine (of_f (n + 146097) 0 0 0 2 _ hn2 hF).mono ?_); rintro e w' ⟨rfl, hb'⟩; have hS' := SCB.step (by first | assumption | (refine SCB.step (by assumption) ?_; (repeat (first | exact Below.refl _ _ | refine Below.setCell ?_ (by simp <;> omega) _ | refine Below.alloc ?_ (by simp <;> omega) _ | refine Below.drew ?_ | refine below_drewN ?_ _)))) hb'; clear hb'; obtain ⟨_, ⟨l0, c00, c01, c02⟩⟩ := id hS') | (go_at_call 34; (with_reducible refine (week_c _ _ (by omega)).mono ?_); rintro e w' ⟨rfl, hb'⟩; have hS' := SCB.step (by first | assumption | (refine SCB.step (by assumption) ?_; (repeat (first | exact Below.refl _ _ | refine Below.setCell ?_ (by simp <;> omega) _ | refine Below.alloc ?_ (by simp <;> omega) _ | refine Below.drew ?_ | refine below_drewN ?_ _)))) hb'; clear hb'; obtain ⟨_, ⟨l0, c00, c01, c02⟩⟩ := id hS') | (go_at_call 19; (with_reducible refine (sure07 _ (Held.handle (w0 := w) (by first | exact And.left (by assumption) | (refine Held.step (And.left (by assumption)) ?_; (repeat (first | exact Below.refl _ _ | refine Below.setCell ?_ (by simp <;> omega) _ | refine Below.alloc ?_ (by simp <;> omega) _ | refine Below.drew ?_ | refine below_drewN ?_ _))))) (ht.below (Held.below (w0 := w) (by first | exact And.left (by assumption) | (refine Held.step (And.left (by assumption)) ?_; (repeat (first | exact Below.refl _ _ | refine Below.setCell ?_ (by simp <;> omega) _ | refine Below.alloc ?_ (by simp <;> omega) _ | refine Below.drew ?_ | refine below_drewN ?_ _))))))).mono ?_); rintro e w' ⟨rfl, hb'⟩; have hS' := SCB.step (by first | assumption | (refine SCB.step (by assumption) ?_; (repeat (first | exact Below.refl _ _ | refine Below.setCell ?_ (by simp <;> omega) _ | refine Below.alloc ?_ (by simp <;> omega) _ | refine Below.drew ?_ | refine below_drewN ?_ _)))) hb'; clear hb'; obtain ⟨_, ⟨l0, c00, c01, c02⟩⟩ := id hS'))
  go_quiet ((go_at_call 22; exact Calls.quiet_of_same ((month_c _ _ _ (by omega) (by omega)).mono fun _ _ ⟨a, b⟩ => ⟨a, b.symm⟩)))
  all_goals go_wp2_with (first | (go_at_call 20; (with_reducible refine (days_ok _ _ _ _ pb1 pb2 pb3 pM).mono ?_); rintro e w' ⟨rfl, hb'⟩; have hS' := SCB.step (by first | assumption | (refine SCB.step (by assumption) ?_; (repeat (first | exact Below.refl _ _ | refine Below.setCell ?_ (by simp <;> omega) _ | refine Below.alloc ?_ (by simp <;> omega) _ | refine Below.drew ?_ | refine below_drewN ?_ _)))) hb'; clear hb'; obtain ⟨_, ⟨l0, c00, c01, c02⟩⟩ := id hS') | (go_at_call 21; (with_reducible refine (of_f (n + 1) py (pm + 1) 1 0 _ hn1 hQ).mono ?_); rintro e w' ⟨rfl, hb'⟩; have hS' := SCB.step (by first | assumption | (refine SCB.step (by assumption) ?_; (repeat (first | exact Below.refl _ _ | refine Below.setCell ?_ (by simp <;> omega) _ | refine Below.alloc ?_ (by simp <;> omega) _ | refine Below.drew ?_ | refine below_drewN ?_ _)))) hb'; clear hb'; obtain ⟨_, ⟨l0, c00, c01, c02⟩⟩ := id hS') | (go_at_call 21; (with_reducible refine (of_f (n + 146097) 0 0 0 2 _ hn2 hF).mono ?_); rintro e w' ⟨rfl, hb'⟩; have hS' := SCB.step (by first | assumption | (refine SCB.step (by assumption) ?_; (repeat (first | exact Below.refl _ _ | refine Below.setCell ?_ (by simp <;> omega) _ | refine Below.alloc ?_ (by simp <;> omega) _ | refine Below.drew ?_ | refine below_drewN ?_ _)))) hb'; clear hb'; obtain ⟨_, ⟨l0, c00, c01, c02⟩⟩ := id hS') | (go_at_call 34; (with_reducible refine (week_c _ _ (by omega)).mono ?_); rintro e w' ⟨rfl, hb'⟩; have hS' := SCB.step (by first | assumption | (refine SCB.step (by assumption) ?_; (repeat (first | exact Below.refl _ _ | refine Below.setCell ?_ (by simp <;> omega) _ | refine Below.alloc ?_ (by simp <;> omega) _ | refine Below.drew ?_ | refine below_drewN ?_ _)))) hb'; clear hb'; obtain ⟨_, ⟨l0, c00, c01, c02⟩⟩ := id hS') | (go_at_call 19; (with_reducible refine (sure07 _ (Held.handle (w0 := w) (by first | exact And.left (by assumption) | (refine Held.step (And.left (by assumption)) ?_; (repeat (first | exact Below.refl _ _ | refine Below.setCell ?_ (by simp <;> omega) _ | refine Below.alloc ?_ (by simp <;> omega) _ | refine Below.drew ?_ | refine below_drewN ?_ _))))) (ht.below (Held.below (w0 := w) (by first | exact And.left (by assumption) | (refine Held.step (And.left (by assumption)) ?_; (repeat (first | exact Below.refl _ _ | refine Below.setCell ?_ (by simp <;> omega) _ | refine Below.alloc ?_ (by simp <;> omega) _ | refine Below.drew ?_ | refine below_drewN ?_ _))))))).mono ?_); rintro e w' ⟨rfl, hb'⟩; have hS' := SCB.step (by first | assumption | (refine SCB.step (by assumption) ?_; (repeat (first | exact Below.refl _ _ | refine Below.setCell ?_ (by simp <;> omega) _ | refine Below.alloc ?_ (by simp <;> omega) _ | refine Below.drew ?_ | refine below_drewN ?_ _)))) hb'; clear hb'; obtain ⟨_, ⟨l0, c00, c01, c02⟩⟩ := id hS'))
  all_goals go_ret
  all_goals exact ⟨rfl, Held.below (w0 := w) (And.left (by assumption))⟩
set_option maxRecDepth 100000 in
set_option maxHeartbeats 16000000 in
theorem cback_no_31 (y m d n : Int) (hy : InR y) (hm : InR m) (hd : InR d) (hn : InR n) (hM : ¬ Cal.may y m d) (py pd : Int) (pM : Cal.may py 12 pd) (pN : Cal.num py 12 pd = n) (hx : pd = Cal.dim py 12) (hQ : IsOf (n + 1) (py + 1) 1 1 0) (hF : IsOf (n + 146097) (py + 400) 12 pd 0) (w : World) (hg : w.cell? ⟨0, 0, none⟩ = some asHandle) (ht : Tab w) :
    Calls Tryd.prog 5 #[.agg #[.int .i64 y, .int .i64 m, .int .i64 d], .int .i64 n] w fun e w' => e = .returned (.bool true) ∧ Below w.heap.size w w' := by
  have hH := Held.start hg
  have pb := Cal.may_num _ _ _ pM
  rw [pN] at pb
  have hP : IsOf n py 12 pd 0 := Or.inl ⟨rfl, pM, pN⟩
  have hn1 : InR (n + 1) := by omega
  have hn2 : InR (n + 146097) := by omega
  obtain ⟨p1, p2, p3, p4, p5, p6⟩ := id pM
  have pdl := Cal.dim_lo py 12
  have pb1 : InR py := by omega
  have pb2 : InR 12 := by omega
  have pb3 : InR pd := by omega
  have k1 := wd_next n
  have k2 := wd_far n
  have k3 := wd_bd n
  have e0 := errOf_zero
  have e2 := errOf_ne (by decide : ¬ (2 : Int) = 0)
  have hx0 : pd ≤ Cal.dim py 12 ∧ Cal.dim py 12 ≤ pd := by omega
  clear hx
  go_enter Tryd.func5, Tryd.ntmps5
  go_wp2_with (fail)
  go_at_call 26
  (with_reducible refine (check_no _ _ _ _ hy hm hd hM).mono ?_)
  rintro e w1 ⟨rfl, HB⟩
  obtain ⟨hc1, hf1⟩ := bcell HB
  obtain ⟨hd1, hh1⟩ := bcell2 (U := w) (by repeat (first | exact Below.refl _ _ | refine Below.setCell ?_ (by simp <;> omega) _ | refine Below.alloc ?_ (by simp <;> omega) _ | refine Below.drew ?_)) HB
  have hz1 := HB.size
  try simp at hz1
  (try (have z1w0 : w.heap.size < w1.heap.size := (by omega)))
  (try (have z1w1 : w.heap.size + 1 < w1.heap.size := (by omega)))
  have hH1 := Held.step (w0 := w) (by repeat (first | assumption | refine Held.alloc ?_ _ | refine Held.drew ?_)) HB
  clear HB
  go_wp2_with (fail)
  go_at_call 21
  (with_reducible refine (of_f _ py 12 pd 0 _ hn hP).mono ?_)
  rintro e w2 ⟨rfl, HB⟩
  obtain ⟨hc2, hf2⟩ := bcell HB
  obtain ⟨hd2, hh2⟩ := bcell2 (U := w1) (by repeat (first | exact Below.refl _ _ | refine Below.setCell ?_ (by simp <;> omega) _ | refine Below.alloc ?_ (by simp <;> omega) _ | refine Below.drew ?_)) HB
  have hz2 := HB.size
  try simp at hz2
  (try (have z2w0 : w.heap.size < w2.heap.size := (by omega)))
  (try (have z2w1 : w.heap.size + 1 < w2.heap.size := (by omega)))
  (try (have z2w10 : w1.heap.size < w2.heap.size := (by omega)))
  (try (have z2w11 : w1.heap.size + 1 < w2.heap.size := (by omega)))
  have hH2 := Held.step (w0 := w) (by repeat (first | assumption | refine Held.alloc ?_ _ | refine Held.drew ?_)) HB
  clear HB
  rw [errOf_zero]
  have hS0 : SCB w (w2.heap.size) (.int .i64 py) (.int .i64 12) (.int .i64 pd) (w2.alloc (.cells #[.int .i64 py, .int .i64 12, .int .i64 pd] 26)) := ⟨Held.alloc hH2 _, ⟨by simp <;> omega, by go_simp, by go_simp, by go_simp⟩⟩
  go_wp2_with (first | (go_at_call 20; (with_reducible refine (days_ok _ _ _ _ pb1 pb2 pb3 pM).mono ?_); rintro e w' ⟨rfl, hb'⟩; have hS' := SCB.step (by first | assumption | (refine SCB.step (by assumption) ?_; (repeat (first | exact Below.refl _ _ | refine Below.setCell ?_ (by simp <;> omega) _ | refine Below.alloc ?_ (by simp <;> omega) _ | refine Below.drew ?_ | refine below_drewN ?_ _)))) hb'; clear hb'; obtain ⟨_, ⟨l0, c00, c01, c02⟩⟩ := id hS') | (go_at_call 21; (with_reducible refine (of_f (n + 1) (py + 1) 1 1 0 _ hn1 hQ).mono ?_); rintro e w' ⟨rfl, hb'⟩; have hS' := SCB.step (by first | assumption | (refine SCB.step (by assumption) ?_; (repeat (first | exact Below.refl _ _ | refine Below.setCell ?_ (by simp <;> omega) _ | refine Below.alloc ?_ (by simp <;> omega) _ | refine Below.drew ?_ | refine below_drewN ?_ _)))) hb'; clear hb'; obtain ⟨_, ⟨l0, c00, c01, c02⟩⟩ := id hS') | (go_at_call 21; (with_reducible refine (of_f (n + 146097) (py + 400) 12 pd 0 _ hn2 hF).mono ?_); rintro e w' ⟨rfl, hb'⟩; have hS' := SCB.step (by first | assumption | (refine SCB.step (by assumption) ?_; (repeat (first | exact Below.refl _ _ | refine Below.setCell ?_ (by simp <;> omega) _ | refine Below.alloc ?_ (by simp <;> omega) _ | refine Below.drew ?_ | refine below_drewN ?_ _)))) hb'; clear hb'; obtain ⟨_, ⟨l0, c00, c01, c02⟩⟩ := id hS') | (go_at_call 34; (with_reducible refine (week_c _ _ (by omega)).mono ?_); rintro e w' ⟨rfl, hb'⟩; have hS' := SCB.step (by first | assumption | (refine SCB.step (by assumption) ?_; (repeat (first | exact Below.refl _ _ | refine Below.setCell ?_ (by simp <;> omega) _ | refine Below.alloc ?_ (by simp <;> omega) _ | refine Below.drew ?_ | refine below_drewN ?_ _)))) hb'; clear hb'; obtain ⟨_, ⟨l0, c00, c01, c02⟩⟩ := id hS') | (go_at_call 19; (with_reducible refine (sure07 _ (Held.handle (w0 := w) (by first | exact And.left (by assumption) | (refine Held.step (And.left (by assumption)) ?_; (repeat (first | exact Below.refl _ _ | refine Below.setCell ?_ (by simp <;> omega) _ | refine Below.alloc ?_ (by simp <;> omega) _ | refine Below.drew ?_ | refine below_drewN ?_ _))))) (ht.below (Held.below (w0 := w) (by first | exact And.left (by assumption) | (refine Held.step (And.left (by assumption)) ?_; (repeat (first | exact Below.refl _ _ | refine Below.setCell ?_ (by simp <;> omega) _ | refine Below.alloc ?_ (by simp <;> omega) _ | refine Below.drew ?_ | refine below_drewN ?_ _))))))).mono ?_); rintro e w' ⟨rfl, hb'⟩; have hS' := SCB.step (by first | assumption | (refine SCB.step (by assumption) ?_; (repeat (first | exact Below.refl _ _ | refine Below.setCell ?_ (by simp <;> omega) _ | refine Below.alloc ?_ (by simp <;> omega) _ | refine Below.drew ?_ | refine below_drewN ?_ _)))) hb'; clear hb'; obtain ⟨_, ⟨l0, c00, c01, c02⟩⟩ := id hS'))
  go_quiet ((go_at_call 22; exact Calls.quiet_of_same ((month_c _ _ _ (by omega) (by omega)).mono fun _ _ ⟨a, b⟩ => ⟨a, b.symm⟩)))
  go_upto_region 22 with (fail)
  have hw9 : w.heap.size ≤ w'.heap.size := (Held.below (And.left hS')).size
  have hRN : R3 (w'.heap.size + 1) (.int .i64 py) (.int .i64 12) (.int .i64 (pd + 1)) (((w'.alloc (.cells #[.int .i64 (py + 1), .int .i64 1, .int .i64 1] 26)).alloc (.cells #[.int .i64 py, .int .i64 12, .int .i64 (pd + 1)] 26)).drewN nq) := ⟨by simp, by go_simp, by go_simp, by go_simp, by go_simp, by go_simp, by go_simp⟩
  have hRP : B3 w2.heap.size (.int .i64 py) (.int .i64 12) (.int .i64 pd) (((w'.alloc (.cells #[.int .i64 (py + 1), .int .i64 1, .int .i64 1] 26)).alloc (.cells #[.int .i64 py, .int .i64 12, .int .i64 (pd + 1)] 26)).drewN nq) := ⟨by simp; omega, by go_simp, by go_simp, by go_simp⟩
  have hRQ : B3 w'.heap.size (.int .i64 (py + 1)) (.int .i64 1) (.int .i64 1) (((w'.alloc (.cells #[.int .i64 (py + 1), .int .i64 1, .int .i64 1] 26)).alloc (.cells #[.int .i64 py, .int .i64 12, .int .i64 (pd + 1)] 26)).drewN nq) := ⟨by simp; try omega, by go_simp, by go_simp, by go_simp⟩
  have hHX : Held w (((w'.alloc (.cells #[.int .i64 (py + 1), .int .i64 1, .int .i64 1] 26)).alloc (.cells #[.int .i64 py, .int .i64 12, .int .i64 (pd + 1)] 26)).drewN nq) := Held.drewN (Held.alloc (Held.alloc (And.left hS') _) _) nq
  have h9N := (hRN.set (.int .i64 py) (.int .i64 13) (.int .i64 1)).set (.int .i64 (py + 1)) (.int .i64 1) (.int .i64 1)
  have h9P := (hRP.set (b := w'.heap.size + 1) (by omega) (.int .i64 py) (.int .i64 13) (.int .i64 1)).set (b := w'.heap.size + 1) (by omega) (.int .i64 (py + 1)) (.int .i64 1) (.int .i64 1)
  have h9Q := (hRQ.set (b := w'.heap.size + 1) (by omega) (.int .i64 py) (.int .i64 13) (.int .i64 1)).set (b := w'.heap.size + 1) (by omega) (.int .i64 (py + 1)) (.int .i64 1) (.int .i64 1)
  have h9H := (hHX.set3 (b := w'.heap.size + 1) (by omega) (handle_lt hg) (.int .i64 py) (.int .i64 13) (.int .i64 1)).set3 (b := w'.heap.size + 1) (by omega) (handle_lt hg) (.int .i64 (py + 1)) (.int .i64 1) (.int .i64 1)
  obtain ⟨w9, hw9e⟩ : ∃ w9, w9 = ((((((((w'.alloc (.cells #[.int .i64 (py + 1), .int .i64 1, .int .i64 1] 26)).alloc (.cells #[.int .i64 py, .int .i64 12, .int .i64 (pd + 1)] 26)).drewN nq).setCell ⟨w'.heap.size + 1, 0, none⟩ (.int .i64 py)).setCell ⟨w'.heap.size + 1, 1, none⟩ (.int .i64 13)).setCell ⟨w'.heap.size + 1, 2, none⟩ (.int .i64 1)).setCell ⟨w'.heap.size + 1, 0, none⟩ (.int .i64 (py + 1))).setCell ⟨w'.heap.size + 1, 1, none⟩ (.int .i64 1)).setCell ⟨w'.heap.size + 1, 2, none⟩ (.int .i64 1) := ⟨_, rfl⟩
  rw [← hw9e] at h9N h9P h9Q h9H ⊢
  clear hw9e hRN hRP hRQ hHX
  have hS' : SCB w w2.heap.size (.int .i64 py) (.int .i64 12) (.int .i64 pd) w9 := ⟨h9H, h9P⟩
  obtain ⟨n0, n1, n2, n3, n4, n5, n6⟩ := h9N
  obtain ⟨m0, m1, m2, m3⟩ := h9P
  obtain ⟨o0, o1, o2, o3⟩ := h9Q
  all_goals go_wp2_with (first | (go_at_call 20; (with_reducible refine (days_ok _ _ _ _ pb1 pb2 pb3 pM).mono ?_); rintro e w' ⟨rfl, hb'⟩; have hS' := SCB.step (by first | assumption | (refine SCB.step (by assumption) ?_; (repeat (first | exact Below.refl _ _ | refine Below.setCell ?_ (by simp <;> omega) _ | refine Below.alloc ?_ (by simp <;> omega) _ | refine Below.drew ?_ | refine below_drewN ?_ _)))) hb'; clear hb'; obtain ⟨_, ⟨l0, c00, c01, c02⟩⟩ := id hS') | (go_at_call 21; (with_reducible refine (of_f (n + 1) (py + 1) 1 1 0 _ hn1 hQ).mono ?_); rintro e w' ⟨rfl, hb'⟩; have hS' := SCB.step (by first | assumption | (refine SCB.step (by assumption) ?_; (repeat (first | exact Below.refl _ _ | refine Below.setCell ?_ (by simp <;> omega) _ | refine Below.alloc ?_ (by simp <;> omega) _ | refine Below.drew ?_ | refine below_drewN ?_ _)))) hb'; clear hb'; obtain ⟨_, ⟨l0, c00, c01, c02⟩⟩ := id hS') | (go_at_call 21; (with_reducible refine (of_f (n + 146097) (py + 400) 12 pd 0 _ hn2 hF).mono ?_); rintro e w' ⟨rfl, hb'⟩; have hS' := SCB.step (by first | assumption | (refine SCB.step (by assumption) ?_; (repeat (first | exact Below.refl _ _ | refine Below.setCell ?_ (by simp <;> omega) _ | refine Below.alloc ?_ (by simp <;> omega) _ | refine Below.drew ?_ | refine below_drewN ?_ _)))) hb'; clear hb'; obtain ⟨_, ⟨l0, c00, c01, c02⟩⟩ := id hS') | (go_at_call 34; (with_reducible refine (week_c _ _ (by omega)).mono ?_); rintro e w' ⟨rfl, hb'⟩; have hS' := SCB.step (by first | assumption | (refine SCB.step (by assumption) ?_; (repeat (first | exact Below.refl _ _ | refine Below.setCell ?_ (by simp <;> omega) _ | refine Below.alloc ?_ (by simp <;> omega) _ | refine Below.drew ?_ | refine below_drewN ?_ _)))) hb'; clear hb'; obtain ⟨_, ⟨l0, c00, c01, c02⟩⟩ := id hS') | (go_at_call 19; (with_reducible refine (sure07 _ (Held.handle (w0 := w) (by first | exact And.left (by assumption) | (refine Held.step (And.left (by assumption)) ?_; (repeat (first | exact Below.refl _ _ | refine Below.setCell ?_ (by simp <;> omega) _ | refine Below.alloc ?_ (by simp <;> omega) _ | refine Below.drew ?_ | refine below_drewN ?_ _))))) (ht.below (Held.below (w0 := w) (by first | exact And.left (by assumption) | (refine Held.step (And.left (by assumption)) ?_; (repeat (first | exact Below.refl _ _ | refine Below.setCell ?_ (by simp <;> omega) _ | refine Below.alloc ?_ (by simp <;> omega) _ | refine Below.drew ?_ | refine below_drewN ?_ _))))))).mono ?_); rintro e w' ⟨rfl, hb'⟩; have hS' := SCB.step (by first | assumption | (refine SCB.step (by assumption) ?_; (repeat (first | exact Below.refl _ _ | refine Below.setCell ?_ (by simp <;> omega) _ | refine Below.alloc ?_ (by simp <;> omega) _ | refine Below.drew ?_ | refine below_drewN ?_ _)))) hb'; clear hb'; obtain ⟨_, ⟨l0, c00, c01, c02⟩⟩ := id hS'))
  all_goals go_ret
  all_goals exact ⟨rfl, Held.below (w0 := w) (And.left (by assumption))⟩
set_option maxRecDepth 100000 in
set_option maxHeartbeats 16000000 in
theorem cback_no_32 (y m d n : Int) (hy : InR y) (hm : InR m) (hd : InR d) (hn : InR n) (hM : ¬ Cal.may y m d) (py pd : Int) (pM : Cal.may py 12 pd) (pN : Cal.num py 12 pd = n) (hx : pd = Cal.dim py 12) (hQ : IsOf (n + 1) (py + 1) 1 1 0) (hF : IsOf (n + 146097) 0 0 0 2) (w : World) (hg : w.cell? ⟨0, 0, none⟩ = some asHandle) (ht : Tab w) :
    Calls Tryd.prog 5 #[.agg #[.int .i64 y, .int .i64 m, .int .i64 d], .int .i64 n] w fun e w' => e = .returned (.bool true) ∧ Below w.heap.size w w' := by
  have hH := Held.start hg
  have pb := Cal.may_num _ _ _ pM
  rw [pN] at pb
  have hP : IsOf n py 12 pd 0 := Or.inl ⟨rfl, pM, pN⟩
  have hn1 : InR (n + 1) := by omega
  have hn2 : InR (n + 146097) := by omega
  obtain ⟨p1, p2, p3, p4, p5, p6⟩ := id pM
  have pdl := Cal.dim_lo py 12
  have pb1 : InR py := by omega
  have pb2 : InR 12 := by omega
  have pb3 : InR pd := by omega
  have k1 := wd_next n
  have k2 := wd_far n
  have k3 := wd_bd n
  have e0 := errOf_zero
  have e2 := errOf_ne (by decide : ¬ (2 : Int) = 0)
  have hx0 : pd ≤ Cal.dim py 12 ∧ Cal.dim py 12 ≤ pd := by omega
  clear hx
  go_enter Tryd.func5, Tryd.ntmps5
  go_wp2_with (fail)
  go_at_call 26
  (with_reducible refine (check_no _ _ _ _ hy hm hd hM).mono ?_)
  rintro e w1 ⟨rfl, HB⟩
  obtain ⟨hc1, hf1⟩ := bcell HB
  obtain ⟨hd1, hh1⟩ := bcell2 (U := w) (by repeat (first | exact Below.refl _ _ | refine Below.setCell ?_ (by simp <;> omega) _ | refine Below.alloc ?_ (by simp <;> omega) _ | refine Below.drew ?_)) HB
  have hz1 := HB.size
  try simp at hz1
  (try (have z1w0 : w.heap.size < w1.heap.size := (by omega)))
  (try (have z1w1 : w.heap.size + 1 < w1.heap.size := (by omega)))
  have hH1 := Held.step (w0 := w) (by repeat (first | assumption | refine Held.alloc ?_ _ | refine Held.drew ?_)) HB
  clear HB
  go_wp2_with (fail)
  go_at_call 21
  (with_reducible refine (of_f _ py 12 pd 0 _ hn hP).mono ?_)
  rintro e w2 ⟨rfl, HB⟩
  obtain ⟨hc2, hf2⟩ := bcell HB
  obtain ⟨hd2, hh2⟩ := bcell2 (U := w1) (by repeat (first | exact Below.refl _ _ | refine Below.setCell ?_ (by simp <;> omega) _ | refine Below.alloc ?_ (by simp <;> omega) _ | refine Below.drew ?_)) HB
  have hz2 := HB.size
  try simp at hz2
  (try (have z2w0 : w.heap.size < w2.heap.size := (by omega)))
  (try (have z2w1 : w.heap.size + 1 < w2.heap.size := (by omega)))
  (try (have z2w10 : w1.heap.size < w2.heap.size := (by omega)))
  (try (have z2w11 : w1.heap.size + 1 < w2.heap.size := (by omega)))
  have hH2 := Held.step (w0 := w) (by repeat (first | assumption | refine Held.alloc ?_ _ | refine Held.drew ?_)) HB
  clear HB
  rw [errOf_zero]
  have hS0 : SCB w (w2.heap.size) (.int .i64 py) (.int .i64 12) (.int .i64 pd) (w2.alloc (.cells #[.int .i64 py, .int .i64 12, .int .i64 pd] 26)) := ⟨Held.alloc hH2 _, ⟨by simp <;> omega, by go_simp, by go_simp, by go_simp⟩⟩
  go_wp2_with (first | (go_at_call 20; (with_reducible refine (days_ok _ _ _ _ pb1 pb2 pb3 pM).mono ?_); rintro e w' ⟨rfl, hb'⟩; have hS' := SCB.step (by first | assumption | (refine SCB.step (by assumption) ?_; (repeat (first | exact Below.refl _ _ | refine Below.setCell ?_ (by simp <;> omega) _ | refine Below.alloc ?_ (by simp <;> omega) _ | refine Below.drew ?_ | refine below_drewN ?_ _)))) hb'; clear hb'; obtain ⟨_, ⟨l0, c00, c01, c02⟩⟩ := id hS') | (go_at_call 21; (with_reducible refine (of_f (n + 1) (py + 1) 1 1 0 _ hn1 hQ).mono ?_); rintro e w' ⟨rfl, hb'⟩; have hS' := SCB.step (by first | assumption | (refine SCB.step (by assumption) ?_; (repeat (first | exact Below.refl _ _ | refine Below.setCell ?_ (by simp <;> omega) _ | refine Below.alloc ?_ (by simp <;> omega) _ | refine Below.drew ?_ | refine below_drewN ?_ _)))) hb'; clear hb'; obtain ⟨_, ⟨l0, c00, c01, c02⟩⟩ := id hS') | (go_at_call 21; (with_reducible refine (of_f (n + 146097) 0 0 0 2 _ hn2 hF).mono ?_); rintro e w' ⟨rfl, hb'⟩; have hS' := SCB.step (by first | assumption | (refine SCB.step (by assumption) ?_; (repeat (first | exact Below.refl _ _ | refine Below.setCell ?_ (by simp <;> omega) _ | refine Below.alloc ?_ (by simp <;> omega) _ | refine Below.drew ?_ | refine below_drewN ?_ _)))) hb'; clear hb'; obtain ⟨_, ⟨l0, c00, c01, c02⟩⟩ := id hS') | (go_at_call 34; (with_reducible refine (week_c _ _ (by omega)).mono ?_); rintro e w' ⟨rfl, hb'⟩; have hS' := SCB.step (by first | assumption | (refine SCB.step (by assumption) ?_; (repeat (first | exact Below.refl _ _ | refine Below.setCell ?_ (by simp <;> omega) _ | refine Below.alloc ?_ (by simp <;> omega) _ | refine Below.drew ?_ | refine below_drewN ?_ _)))) hb'; clear hb'; obtain ⟨_, ⟨l0, c00, c01, c02⟩⟩ := id hS') | (go_at_call 19; (with_reducible refine (sure07 _ (Held.handle (w0 := w) (by first | exact And.left (by assumption) | (refine Held.step (And.left (by assumption)) ?_; (repeat (first | exact Below.refl _ _ | refine Below.setCell ?_ (by simp <;> omega) _ | refine Below.alloc ?_ (by simp <;> omega) _ | refine Below.drew ?_ | refine below_drewN ?_ _))))) (ht.below (Held.below (w0 := w) (by first | exact And.left (by assumption) | (refine Held.step (And.left (by assumption)) ?_; (repeat (first | exact Below.refl _ _ | refine Below.setCell ?_ (by simp <;> omega) _ | refine Below.alloc ?_ (by simp <;> omega) _ | refine Below.drew ?_ | refine below_drewN ?_ _))))))).mono ?_); rintro e w' ⟨rfl, hb'⟩; have hS' := SCB.step (by first | assumption | (refine SCB.step (by assumption) ?_; (repeat (first | exact Below.refl _ _ | refine Below.setCell ?_ (by simp <;> omega) _ | refine Below.alloc ?_ (by simp <;> omega) _ | refine Below.drew ?_ | refine below_drewN ?_ _)))) hb'; clear hb'; obtain ⟨_, ⟨l0, c00, c01, c02⟩⟩ := id hS'))
  go_quiet ((go_at_call 22; exact Calls.quiet_of_same ((month_c _ _ _ (by omega) (by omega)).mono fun _ _ ⟨a, b⟩ => ⟨a, b.symm⟩)))
  go_upto_region 22 with (fail)
  have hw9 : w.heap.size ≤ w'.heap.size := (Held.below (And.left hS')).size
  have hRN : R3 (w'.heap.size + 1) (.int .i64 py) (.int .i64 12) (.int .i64 (pd + 1)) (((w'.alloc (.cells #[.int .i64 (py + 1), .int .i64 1, .int .i64 1] 26)).alloc (.cells #[.int .i64 py, .int .i64 12, .int .i64 (pd + 1)] 26)).drewN nq) := ⟨by simp, by go_simp, by go_simp, by go_simp, by go_simp, by go_simp, by go_simp⟩
  have hRP : B3 w2.heap.size (.int .i64 py) (.int .i64 12) (.int .i64 pd) (((w'.alloc (.cells #[.int .i64 (py + 1), .int .i64 1, .int .i64 1] 26)).alloc (.cells #[.int .i64 py, .int .i64 12, .int .i64 (pd + 1)] 26)).drewN nq) := ⟨by simp; omega, by go_simp, by go_simp, by go_simp⟩
  have hRQ : B3 w'.heap.size (.int .i64 (py + 1)) (.int .i64 1) (.int .i64 1) (((w'.alloc (.cells #[.int .i64 (py + 1), .int .i64 1, .int .i64 1] 26)).alloc (.cells #[.int .i64 py, .int .i64 12, .int .i64 (pd + 1)] 26)).drewN nq) := ⟨by simp; try omega, by go_simp, by go_simp, by go_simp⟩
  have hHX : Held w (((w'.alloc (.cells #[.int .i64 (py + 1), .int .i64 1, .int .i64 1] 26)).alloc (.cells #[.int .i64 py, .int .i64 12, .int .i64 (pd + 1)] 26)).drewN nq) := Held.drewN (Held.alloc (Held.alloc (And.left hS') _) _) nq
  have h9N := (hRN.set (.int .i64 py) (.int .i64 13) (.int .i64 1)).set (.int .i64 (py + 1)) (.int .i64 1) (.int .i64 1)
  have h9P := (hRP.set (b := w'.heap.size + 1) (by omega) (.int .i64 py) (.int .i64 13) (.int .i64 1)).set (b := w'.heap.size + 1) (by omega) (.int .i64 (py + 1)) (.int .i64 1) (.int .i64 1)
  have h9Q := (hRQ.set (b := w'.heap.size + 1) (by omega) (.int .i64 py) (.int .i64 13) (.int .i64 1)).set (b := w'.heap.size + 1) (by omega) (.int .i64 (py + 1)) (.int .i64 1) (.int .i64 1)
  have h9H := (hHX.set3 (b := w'.heap.size + 1) (by omega) (handle_lt hg) (.int .i64 py) (.int .i64 13) (.int .i64 1)).set3 (b := w'.heap.size + 1) (by omega) (handle_lt hg) (.int .i64 (py + 1)) (.int .i64 1) (.int .i64 1)
  obtain ⟨w9, hw9e⟩ : ∃ w9, w9 = ((((((((w'.alloc (.cells #[.int .i64 (py + 1), .int .i64 1, .int .i64 1] 26)).alloc (.cells #[.int .i64 py, .int .i64 12, .int .i64 (pd + 1)] 26)).drewN nq).setCell ⟨w'.heap.size + 1, 0, none⟩ (.int .i64 py)).setCell ⟨w'.heap.size + 1, 1, none⟩ (.int .i64 13)).setCell ⟨w'.heap.size + 1, 2, none⟩ (.int .i64 1)).setCell ⟨w'.heap.size + 1, 0, none⟩ (.int .i64 (py + 1))).setCell ⟨w'.heap.size + 1, 1, none⟩ (.int .i64 1)).setCell ⟨w'.heap.size + 1, 2, none⟩ (.int .i64 1) := ⟨_, rfl⟩
  rw [← hw9e] at h9N h9P h9Q h9H ⊢
  clear hw9e hRN hRP hRQ hHX
  have hS' : SCB w w2.heap.size (.int .i64 py) (.int .i64 12) (.int .i64 pd) w9 := ⟨h9H, h9P⟩
  obtain ⟨n0, n1, n2, n3, n4, n5, n6⟩ := h9N
  obtain ⟨m0, m1, m2, m3⟩ := h9P
  obtain ⟨o0, o1, o2, o3⟩ := h9Q
  all_goals go_wp2_with (first | (go_at_call 20; (with_reducible refine (days_ok _ _ _ _ pb1 pb2 pb3 pM).mono ?_); rintro e w' ⟨rfl, hb'⟩; have hS' := SCB.step (by first | assumption | (refine SCB.step (by assumption) ?_; (repeat (first | exact Below.refl _ _ | refine Below.setCell ?_ (by simp <;> omega) _ | refine Below.alloc ?_ (by simp <;> omega) _ | refine Below.drew ?_ | refine below_drewN ?_ _)))) hb'; clear hb'; obtain ⟨_, ⟨l0, c00, c01, c02⟩⟩ := id hS') | (go_at_call 21; (with_reducible refine (of_f (n + 1) (py + 1) 1 1 0 _ hn1 hQ).mono ?_); rintro e w' ⟨rfl, hb'⟩; have hS' := SCB.step (by first | assumption | (refine SCB.step (by assumption) ?_; (repeat (first | exact Below.refl _ _ | refine Below.setCell ?_ (by simp <;> omega) _ | refine Below.alloc ?_ (by simp <;> omega) _ | refine Below.drew ?_ | refine below_drewN ?_ _)))) hb'; clear hb'; obtain ⟨_, ⟨l0, c00, c01, c02⟩⟩ := id hS') | (go_at_call 21; (with_reducible refine (of_f (n + 146097) 0 0 0 2 _ hn2 hF).mono ?_); rintro e w' ⟨rfl, hb'⟩; have hS' := SCB.step (by first | assumption | (refine SCB.step (by assumption) ?_; (repeat (first | exact Below.refl _ _ | refine Below.setCell ?_ (by simp <;> omega) _ | refine Below.alloc ?_ (by simp <;> omega) _ | refine Below.drew ?_ | refine below_drewN ?_ _)))) hb'; clear hb'; obtain ⟨_, ⟨l0, c00, c01, c02⟩⟩ := id hS') | (go_at_call 34; (with_reducible refine (week_c _ _ (by omega)).mono ?_); rintro e w' ⟨rfl, hb'⟩; have hS' := SCB.step (by first | assumption | (refine SCB.step (by assumption) ?_; (repeat (first | exact Below.refl _ _ | refine Below.setCell ?_ (by simp <;> omega) _ | refine Below.alloc ?_ (by simp <;> omega) _ | refine Below.drew ?_ | refine below_drewN ?_ _)))) hb'; clear hb'; obtain ⟨_, ⟨l0, c00, c01, c02⟩⟩ := id hS') | (go_at_call 19; (with_reducible refine (sure07 _ (Held.handle (w0 := w) (by first | exact And.left (by assumption) | (refine Held.step (And.left (by assumption)) ?_; (repeat (first | exact Below.refl _ _ | refine Below.setCell ?_ (by simp <;> omega) _ | refine Below.alloc ?_ (by simp <;> omega) _ | refine Below.drew ?_ | refine below_drewN ?_ _))))) (ht.below (Held.below (w0 := w) (by first | exact And.left (by assumption) | (refine Held.step (And.left (by assumption)) ?_; (repeat (first | exact Below.refl _ _ | refine Below.setCell ?_ (by simp <;> omega) _ | refine Below.alloc ?_ (by simp <;> omega) _ | refine Below.drew ?_ | refine below_drewN ?_ _))))))).mono ?_); rintro e w' ⟨rfl, hb'⟩; have hS' := SCB.step (by first | assumption | (refine SCB.step (by assumption) ?_; (repeat (first | exact Below.refl _ _ | refine Below.setCell ?_ (by simp <;> omega) _ | refine Below.alloc ?_ (by simp <;> omega) _ | refine Below.drew ?_ | refine below_drewN ?_ _)))) hb'; clear hb'; obtain ⟨_, ⟨l0, c00, c01, c02⟩⟩ := id hS'))
  all_goals go_ret
  all_goals exact ⟨rfl, Held.below (w0 := w) (And.left (by assumption))⟩
set_option maxRecDepth 100000 in
set_option maxHeartbeats 16000000 in
theorem cback_no_42 (y m d n : Int) (hy : InR y) (hm : InR m) (hd : InR d) (hn : InR n) (hM : ¬ Cal.may y m d) (py pm pd : Int) (pM : Cal.may py pm pd) (pN : Cal.num py pm pd = n) (hQ : IsOf (n + 1) 0 0 0 2) (hF : IsOf (n + 146097) 0 0 0 2) (w : World) (hg : w.cell? ⟨0, 0, none⟩ = some asHandle) (ht : Tab w) :
    Calls Tryd.prog 5 #[.agg #[.int .i64 y, .int .i64 m, .int .i64 d], .int .i64 n] w fun e w' => e = .returned (.bool true) ∧ Below w.heap.size w w' := by
  have hH := Held.start hg
  have pb := Cal.may_num _ _ _ pM
  rw [pN] at pb
  have hP : IsOf n py pm pd 0 := Or.inl ⟨rfl, pM, pN⟩
  have hn1 : InR (n + 1) := by omega
  have hn2 : InR (n + 146097) := by omega
  obtain ⟨p1, p2, p3, p4, p5, p6⟩ := id pM
  have pdl := Cal.dim_lo py pm
  have pb1 : InR py := by omega
  have pb2 : InR pm := by omega
  have pb3 : InR pd := by omega
  have k1 := wd_next n
  have k2 := wd_far n
  have k3 := wd_bd n
  have e0 := errOf_zero
  have e2 := errOf_ne (by decide : ¬ (2 : Int) = 0)
  go_enter Tryd.func5, Tryd.ntmps5
  go_wp2_with (fail)
  go_at_call 26
  (with_reducible refine (check_no _ _ _ _ hy hm hd hM).mono ?_)
  rintro e w1 ⟨rfl, HB⟩
  obtain ⟨hc1, hf1⟩ := bcell HB
  obtain ⟨hd1, hh1⟩ := bcell2 (U := w) (by repeat (first | exact Below.refl _ _ | refine Below.setCell ?_ (by simp <;> omega) _ | refine Below.alloc ?_ (by simp <;> omega) _ | refine Below.drew ?_)) HB
  have hz1 := HB.size
  try simp at hz1
  (try (have z1w0 : w.heap.size < w1.heap.size := (by omega)))
  (try (have z1w1 : w.heap.size + 1 < w1.heap.size := (by omega)))
  have hH1 := Held.step (w0 := w) (by repeat (first | assumption | refine Held.alloc ?_ _ | refine Held.drew ?_)) HB
  clear HB
  go_wp2_with (fail)
  go_at_call 21
  (with_reducible refine (of_f _ py pm pd 0 _ hn hP).mono ?_)
  rintro e w2 ⟨rfl, HB⟩
  obtain ⟨hc2, hf2⟩ := bcell HB
  obtain ⟨hd2, hh2⟩ := bcell2 (U := w1) (by repeat (first | exact Below.refl _ _ | refine Below.setCell ?_ (by simp <;> omega) _ | refine Below.alloc ?_ (by simp <;> omega) _ | refine Below.drew ?_)) HB
  have hz2 := HB.size
  try simp at hz2
  (try (have z2w0 : w.heap.size < w2.heap.size := (by omega)))
  (try (have z2w1 : w.heap.size + 1 < w2.heap.size := (by omega)))
  (try (have z2w10 : w1.heap.size < w2.heap.size := (by omega)))
  (try (have z2w11 : w1.heap.size + 1 < w2.heap.size := (by omega)))
  have hH2 := Held.step (w0 := w) (by repeat (first | assumption | refine Held.alloc ?_ _ | refine Held.drew ?_)) HB
  clear HB
  rw [errOf_zero]
  have hS0 : SCB w (w2.heap.size) (.int .i64 py) (.int .i64 pm) (.int .i64 pd) (w2.alloc (.cells #[.int .i64 py, .int .i64 pm, .int .i64 pd] 26)) := ⟨Held.alloc hH2 _, ⟨by simp <;> omega, by go_simp, by go_simp, by go_simp⟩⟩
  go_wp2_with (first | (go_at_call 20; (with_reducible refine (days_ok _ _ _ _ pb1 pb2 pb3 pM).mono ?_); rintro e w' ⟨rfl, hb'⟩; have hS' := SCB.step (by first | assumption | (refine SCB.step (by assumption) ?_; (repeat (first | exact Below.refl _ _ | refine Below.setCell ?_ (by simp <;> omega) _ | refine Below.alloc ?_ (by simp <;> omega) _ | refine Below.drew ?_ | refine below_drewN ?_ _)))) hb'; clear hb'; obtain ⟨_, ⟨l0, c00, c01, c02⟩⟩ := id hS') | (go_at_call 21; (with_reducible refine (of_f (n + 1) 0 0 0 2 _ hn1 hQ).mono ?_); rintro e w' ⟨rfl, hb'⟩; have hS' := SCB.step (by first | assumption | (refine SCB.step (by assumption) ?_; (repeat (first | exact Below.refl _ _ | refine Below.setCell ?_ (by simp <;> omega) _ | refine Below.alloc ?_ (by simp <;> omega) _ | refine Below.drew ?_ | refine below_drewN ?_ _)))) hb'; clear hb'; obtain ⟨_, ⟨l0, c00, c01, c02⟩⟩ := id hS') | (go_at_call 21; (with_reducible refine (of_f (n + 146097) 0 0 0 2 _ hn2 hF).mono ?_); rintro e w' ⟨rfl, hb'⟩; have hS' := SCB.step (by first | assumption | (refine SCB.step (by assumption) ?_; (repeat (first | exact Below.refl _ _ | refine Below.setCell ?_ (by simp <;> omega) _ | refine Below.alloc ?_ (by simp <;> omega) _ | refine Below.drew ?_ | refine below_drewN ?_ _)))) hb'; clear hb'; obtain ⟨_, ⟨l0, c00, c01, c02⟩⟩ := id hS') | (go_at_call 34; (with_reducible refine (week_c _ _ (by omega)).mono ?_); rintro e w' ⟨rfl, hb'⟩; have hS' := SCB.step (by first | assumption | (refine SCB.step (by assumption) ?_; (repeat (first | exact Below.refl _ _ | refine Below.setCell ?_ (by simp <;> omega) _ | refine Below.alloc ?_ (by simp <;> omega) _ | refine Below.drew ?_ | refine below_drewN ?_ _)))) hb'; clear hb'; obtain ⟨_, ⟨l0, c00, c01, c02⟩⟩ := id hS') | (go_at_call 19; (with_reducible refine (sure07 _ (Held.handle (w0 := w) (by first | exact And.left (by assumption) | (refine Held.step (And.left (by assumption)) ?_; (repeat (first | exact Below.refl _ _ | refine Below.setCell ?_ (by simp <;> omega) _ | refine Below.alloc ?_ (by simp <;> omega) _ | refine Below.drew ?_ | refine below_drewN ?_ _))))) (ht.below (Held.below (w0 := w) (by first | exact And.left (by assumption) | (refine Held.step (And.left (by assumption)) ?_; (repeat (first | exact Below.refl _ _ | refine Below.setCell ?_ (by simp <;> omega) _ | refine Below.alloc ?_ (by simp <;> omega) _ | refine Below.drew ?_ | refine below_drewN ?_ _))))))).mono ?_); rintro e w' ⟨rfl, hb'⟩; have hS' := SCB.step (by first | assumption | (refine SCB.step (by assumption) ?_; (repeat (first | exact Below.refl _ _ | refine Below.setCell ?_ (by simp <;> omega) _ | refine Below.alloc ?_ (by simp <;> omega) _ | refine Below.drew ?_ | refine below_drewN ?_ _)))) hb'; clear hb'; obtain ⟨_, ⟨l0, c00, c01, c02⟩⟩ := id hS'))
  all_goals go_ret
  all_goals exact ⟨rfl, Held.below (w0 := w) (And.left (by assumption))⟩
set_option maxRecDepth 100000 in
set_option maxHeartbeats 16000000 in
theorem cback_no_out (y m d n : Int) (hy : InR y) (hm : InR m) (hd : InR d) (hn : InR n) (hM : ¬ Cal.may y m d) (hP : IsOf n 0 0 0 2) (w : World) (hg : w.cell? ⟨0, 0, none⟩ = some asHandle) (ht : Tab w) :
    Calls Tryd.prog 5 #[.agg #[.int .i64 y, .int .i64 m, .int .i64 d], .int .i64 n] w fun e w' => e = .returned (.bool true) ∧ Below w.heap.size w w' := by
  have hH := Held.start hg
  go_enter Tryd.func5, Tryd.ntmps5
  go_wp2_with (fail)
  go_at_call 26
  (with_reducible refine (check_no _ _ _ _ hy hm hd hM).mono ?_)
  rintro e w1 ⟨rfl, HB⟩
  obtain ⟨hc1, hf1⟩ := bcell HB
  obtain ⟨hd1, hh1⟩ := bcell2 (U := w) (by repeat (first | exact Below.refl _ _ | refine Below.setCell ?_ (by simp <;> omega) _ | refine Below.alloc ?_ (by simp <;> omega) _ | refine Below.drew ?_)) HB
  have hz1 := HB.size
  try simp at hz1
  (try (have z1w0 : w.heap.size < w1.heap.size := (by omega)))
  (try (have z1w1 : w.heap.size + 1 < w1.heap.size := (by omega)))
  have hH1 := Held.step (w0 := w) (by repeat (first | assumption | refine Held.alloc ?_ _ | refine Held.drew ?_)) HB
  clear HB
  go_wp2_with (fail)
  go_at_call 21
  (with_reducible refine (of_f _ 0 0 0 2 _ hn hP).mono ?_)
  rintro e w2 ⟨rfl, HB⟩
  obtain ⟨hc2, hf2⟩ := bcell HB
  obtain ⟨hd2, hh2⟩ := bcell2 (U := w1) (by repeat (first | exact Below.refl _ _ | refine Below.setCell ?_ (by simp <;> omega) _ | refine Below.alloc ?_ (by simp <;> omega) _ | refine Below.drew ?_)) HB
  have hz2 := HB.size
  try simp at hz2
  (try (have z2w0 : w.heap.size < w2.heap.size := (by omega)))
  (try (have z2w1 : w.heap.size + 1 < w2.heap.size := (by omega)))
  (try (have z2w10 : w1.heap.size < w2.heap.size := (by omega)))
  (try (have z2w11 : w1.heap.size + 1 < w2.heap.size := (by omega)))
  have hH2 := Held.step (w0 := w) (by repeat (first | assumption | refine Held.alloc ?_ _ | refine Held.drew ?_)) HB
  clear HB
  rw [errOf_ne (by decide : ¬ (2 : Int) = 0)]
  go_wp2_with (first | (go_at_call 27; (with_reducible refine (num07_err _ _ (Held.handle (w0 := w) (by repeat (first | assumption | refine Held.alloc ?_ _ | refine Held.drew ?_)))).mono ?_); rintro e w' ⟨rfl, hb'⟩; obtain ⟨hc, hf⟩ := bcell hb'; have hz := hb'.size; (try (simp at hz)); have hH' := Held.step (w0 := w) (by repeat (first | assumption | refine Held.alloc ?_ _ | refine Held.drew ?_)) hb'; clear hb') | (go_at_call 19; (with_reducible refine (sure07 _ (Held.handle (w0 := w) (by repeat (first | assumption | refine Held.alloc ?_ _ | refine Held.drew ?_))) (ht.below (Held.below (w0 := w) (by repeat (first | assumption | refine Held.alloc ?_ _ | refine Held.drew ?_))))).mono ?_); rintro e w' ⟨rfl, hb'⟩; obtain ⟨hc, hf⟩ := bcell hb'; have hz := hb'.size; (try (simp at hz)); have hH' := Held.step (w0 := w) (by repeat (first | assumption | refine Held.alloc ?_ _ | refine Held.drew ?_)) hb'; clear hb'))
  go_ret
  exact ⟨rfl, Held.below (w0 := w) (by assumption)⟩
end Go.Proofs.YtengchkiejpglaaDoor
