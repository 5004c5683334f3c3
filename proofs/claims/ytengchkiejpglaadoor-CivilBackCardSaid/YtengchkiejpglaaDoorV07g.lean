/-
  Layer 7: the statement CivilBack, of dates that may be, and whole.
-/
import Derived.Test.YtengchkiejpglaaDoorV07f
namespace Go.Proofs.YtengchkiejpglaaDoor
open Go.RowKit Go.Extern.Stop Go.Stop Go.Extern
set_option linter.unusedVariables false
set_option linter.unusedSimpArgs false
set_option maxRecDepth 100000 in
set_option maxHeartbeats 16000000 in
theorem cback_may_11 (y m d n : Int) (hy : InR y) (hm : InR m) (hd : InR d) (hn : InR n) (hM : Cal.may y m d) (py pm pd : Int) (pM : Cal.may py pm pd) (pN : Cal.num py pm pd = n) (hx : pd < Cal.dim py pm) (hQ : IsOf (n + 1) py pm (pd + 1) 0) (hF : IsOf (n + 146097) (py + 400) pm pd 0) (w : World) (hg : w.cell? ⟨0, 0, none⟩ = some asHandle) (ht : Tab w) :
    Calls Tryd.prog 5 #[.agg #[.int .i64 y, .int .i64 m, .int .i64 d], .int .i64 n] w fun e w' => e = .returned (.bool true) ∧ Below w.heap.size w w' := by
  have hH := Held.start hg
  have hO : IsOf (Cal.num y m d) y m d 0 := Or.inl ⟨rfl, hM, rfl⟩
  have hb0 := Cal.may_num _ _ _ hM
  have hnum : InR (Cal.num y m d) := by omega
  have hsz : (⟨(dateL y m d).toArray⟩ : ByteArray).size ≤ 9223372036854775807 := by show (dateL y m d).length ≤ _; unfold dateL; simp [Dig.digs_length]
  have pb := Cal.may_num _ _ _ pM
  rw [pN] at pb
  have hP : IsOf n py pm pd 0 := Or.inl ⟨rfl, pM, pN⟩
  have hn1 : InR (n + 1) := by omega
  have hn2 : InR (n + 146097) := by omega
  obtain ⟨p1, p2, p3, p4, p5, p6⟩ := id pM
  have pdl := Cal.dim_lo py pm
  have pb1 : InR py := by omega
  have pb2 : InR pm := by omega
  have pb3 : InR pd := by omega
  have k1 := wd_next n
  have k2 := wd_far n
  have k3 := wd_bd n
  have e0 := errOf_zero
  have e2 := errOf_ne (by decide : ¬ (2 : Int) = 0)
  go_enter Tryd.func5, Tryd.ntmps5
  go_wp2_with (fail)
  go_at_call 26
  (with_reducible refine (check_ok _ _ _ _ hy hm hd hM).mono ?_)
  rintro e w1 ⟨rfl, HB⟩
  obtain ⟨hc1, hf1⟩ := bcell HB
  obtain ⟨hd1, hh1⟩ := bcell2 (U := w) (by repeat (first | exact Below.refl _ _ | refine Below.setCell ?_ (by simp <;> omega) _ | refine Below.alloc ?_ (by simp <;> omega) _ | refine Below.drew ?_)) HB
  have hz1 := HB.size
  try simp at hz1
  (try (have z1w0 : w.heap.size < w1.heap.size := (by omega)))
  (try (have z1w1 : w.heap.size + 1 < w1.heap.size := (by omega)))
  have hH1 := Held.step (w0 := w) (by repeat (first | assumption | refine Held.alloc ?_ _ | refine Held.drew ?_)) HB
  clear HB
  go_wp2_with (fail)
  go_at_call 20
  (with_reducible refine (days_ok _ _ _ _ hy hm hd hM).mono ?_)
  rintro e w2 ⟨rfl, HB⟩
  obtain ⟨hc2, hf2⟩ := bcell HB
  obtain ⟨hd2, hh2⟩ := bcell2 (U := w1) (by repeat (first | exact Below.refl _ _ | refine Below.setCell ?_ (by simp <;> omega) _ | refine Below.alloc ?_ (by simp <;> omega) _ | refine Below.drew ?_)) HB
  have hz2 := HB.size
  try simp at hz2
  (try (have z2w0 : w.heap.size < w2.heap.size := (by omega)))
  (try (have z2w1 : w.heap.size + 1 < w2.heap.size := (by omega)))
  (try (have z2w10 : w1.heap.size < w2.heap.size := (by omega)))
  (try (have z2w11 : w1.heap.size + 1 < w2.heap.size := (by omega)))
  have hH2 := Held.step (w0 := w) (by repeat (first | assumption | refine Held.alloc ?_ _ | refine Held.drew ?_)) HB
  clear HB
  go_wp2_with (fail)
  go_at_call 21
  (with_reducible refine (of_f _ y m d 0 _ hnum hO).mono ?_)
  rintro e w3 ⟨rfl, HB⟩
  obtain ⟨hc3, hf3⟩ := bcell HB
  obtain ⟨hd3, hh3⟩ := bcell2 (U := w2) (by repeat (first | exact Below.refl _ _ | refine Below.setCell ?_ (by simp <;> omega) _ | refine Below.alloc ?_ (by simp <;> omega) _ | refine Below.drew ?_)) HB
  have hz3 := HB.size
  try simp at hz3
  (try (have z3w0 : w.heap.size < w3.heap.size := (by omega)))
  (try (have z3w1 : w.heap.size + 1 < w3.heap.size := (by omega)))
  (try (have z3w10 : w1.heap.size < w3.heap.size := (by omega)))
  (try (have z3w11 : w1.heap.size + 1 < w3.heap.size := (by omega)))
  (try (have z3w20 : w2.heap.size < w3.heap.size := (by omega)))
  (try (have z3w21 : w2.heap.size + 1 < w3.heap.size := (by omega)))
  have hH3 := Held.step (w0 := w) (by repeat (first | assumption | refine Held.alloc ?_ _ | refine Held.drew ?_)) HB
  clear HB
  rw [errOf_zero]
  have t3 : Tab w3 := ht.below (Held.below hH3)
  go_wp2_with (fail)
  go_at_call 30
  (with_reducible refine (text_ok _ _ _ _ (Held.handle (w0 := w) (by repeat (first | assumption | refine Held.alloc ?_ _ | refine Held.drew ?_))) (t3.below ((Below.refl _ _).alloc (Nat.le_refl _) _)) hM).mono ?_)
  rintro e w4 ⟨rfl, HB⟩
  obtain ⟨hc4, hf4⟩ := bcell HB
  obtain ⟨hd4, hh4⟩ := bcell2 (U := w3) (by repeat (first | exact Below.refl _ _ | refine Below.setCell ?_ (by simp <;> omega) _ | refine Below.alloc ?_ (by simp <;> omega) _ | refine Below.drew ?_)) HB
  have hz4 := HB.size
  try simp at hz4
  (try (have z4w0 : w.heap.size < w4.heap.size := (by omega)))
  (try (have z4w1 : w.heap.size + 1 < w4.heap.size := (by omega)))
  (try (have z4w10 : w1.heap.size < w4.heap.size := (by omega)))
  (try (have z4w11 : w1.heap.size + 1 < w4.heap.size := (by omega)))
  (try (have z4w20 : w2.heap.size < w4.heap.size := (by omega)))
  (try (have z4w21 : w2.heap.size + 1 < w4.heap.size := (by omega)))
  (try (have z4w30 : w3.heap.size < w4.heap.size := (by omega)))
  (try (have z4w31 : w3.heap.size + 1 < w4.heap.size := (by omega)))
  have hH4 := Held.step (w0 := w) (by repeat (first | assumption | refine Held.alloc ?_ _ | refine Held.drew ?_)) HB
  clear HB
  go_wp2_with (fail)
  go_at_call 31
  (with_reducible refine (parse_f _ y m d 0 _ hsz (isParse_date hM)).mono ?_)
  rintro e w5 ⟨rfl, HB⟩
  obtain ⟨hc5, hf5⟩ := bcell HB
  obtain ⟨hd5, hh5⟩ := bcell2 (U := w4) (by repeat (first | exact Below.refl _ _ | refine Below.setCell ?_ (by simp <;> omega) _ | refine Below.alloc ?_ (by simp <;> omega) _ | refine Below.drew ?_)) HB
  have hz5 := HB.size
  try simp at hz5
  (try (have z5w0 : w.heap.size < w5.heap.size := (by omega)))
  (try (have z5w1 : w.heap.size + 1 < w5.heap.size := (by omega)))
  (try (have z5w10 : w1.heap.size < w5.heap.size := (by omega)))
  (try (have z5w11 : w1.heap.size + 1 < w5.heap.size := (by omega)))
  (try (have z5w20 : w2.heap.size < w5.heap.size := (by omega)))
  (try (have z5w21 : w2.heap.size + 1 < w5.heap.size := (by omega)))
  (try (have z5w30 : w3.heap.size < w5.heap.size := (by omega)))
  (try (have z5w31 : w3.heap.size + 1 < w5.heap.size := (by omega)))
  (try (have z5w40 : w4.heap.size < w5.heap.size := (by omega)))
  (try (have z5w41 : w4.heap.size + 1 < w5.heap.size := (by omega)))
  have hH5 := Held.step (w0 := w) (by repeat (first | assumption | refine Held.alloc ?_ _ | refine Held.drew ?_)) HB
  clear HB
  rw [errOf_zero]
  go_wp2_with (fail)
  go_at_call 21
  (with_reducible refine (of_f _ py pm pd 0 _ hn hP).mono ?_)
  rintro e w6 ⟨rfl, HB⟩
  obtain ⟨hc6, hf6⟩ := bcell HB
  obtain ⟨hd6, hh6⟩ := bcell2 (U := w5) (by repeat (first | exact Below.refl _ _ | refine Below.setCell ?_ (by simp <;> omega) _ | refine Below.alloc ?_ (by simp <;> omega) _ | refine Below.drew ?_)) HB
  have hz6 := HB.size
  try simp at hz6
  (try (have z6w0 : w.heap.size < w6.heap.size := (by omega)))
  (try (have z6w1 : w.heap.size + 1 < w6.heap.size := (by omega)))
  (try (have z6w10 : w1.heap.size < w6.heap.size := (by omega)))
  (try (have z6w11 : w1.heap.size + 1 < w6.heap.size := (by omega)))
  (try (have z6w20 : w2.heap.size < w6.heap.size := (by omega)))
  (try (have z6w21 : w2.heap.size + 1 < w6.heap.size := (by omega)))
  (try (have z6w30 : w3.heap.size < w6.heap.size := (by omega)))
  (try (have z6w31 : w3.heap.size + 1 < w6.heap.size := (by omega)))
  (try (have z6w40 : w4.heap.size < w6.heap.size := (by omega)))
  (try (have z6w41 : w4.heap.size + 1 < w6.heap.size := (by omega)))
  (try (have z6w50 : w5.heap.size < w6.heap.size := (by omega)))
  (try (have z6w51 : w5.heap.size + 1 < w6.heap.size := (by omega)))
  have hH6 := Held.step (w0 := w) (by repeat (first | assumption | refine Held.alloc ?_ _ | refine Held.drew ?_)) HB
  clear HB
  rw [errOf_zero]
  have hS0 : SCB w (w6.heap.size) (.int .i64 py) (.int .i64 pm) (.int .i64 pd) (w6.alloc (.cells #[.int .i64 py, .int .i64 pm, .int .i64 pd] 26)) := ⟨Held.alloc hH6 _, ⟨by simp <;> omega, by go_simp, by go_simp, by go_simp⟩⟩
  go_wp2_with (first | (go_at_call 20; (with_reducible refine (days_ok _ _ _ _ pb1 pb2 pb3 pM).mono ?_); rintro e w' ⟨rfl, hb'⟩; have hS' := SCB.step (by first | assumption | (refine SCB.step (by assumption) ?_; (repeat (first | exact Below.refl _ _ | refine Below.setCell ?_ (by simp <;> omega) _ | refine Below.alloc ?_ (by simp <;> omega) _ | refine Below.drew ?_ | refine below_drewN ?_ _)))) hb'; clear hb'; obtain ⟨_, ⟨l0, c00, c01, c02⟩⟩ := id hS') | (go_at_call 21; (with_reducible refine (of_f (n + 1) py pm (pd + 1) 0 _ hn1 hQ).mono ?_); rintro e w' ⟨rfl, hb'⟩; have hS' := SCB.step (by first | assumption | (refine SCB.step (by assumption) ?_; (repeat (first | exact Below.refl _ _ | refine Below.setCell ?_ (by simp <;> omega) _ | refine Below.alloc ?_ (by simp <;> omega) _ | refine Below.drew ?_ | refine below_drewN ?_ _)))) hb'; clear hb'; obtain ⟨_, ⟨l0, c00, c01, c02⟩⟩ := id hS') | (go_at_call 21; (with_reducible refine (of_f (n + 146097) (py + 400) pm pd 0 _ hn2 hF).mono ?_); rintro e w' ⟨rfl, hb'⟩; have hS' := SCB.step (by first | assumption | (refine SCB.step (by assumption) ?_; (repeat (first | exact Below.refl _ _ | refine Below.setCell ?_ (by simp <;> omega) _ | refine Below.alloc ?_ (by simp <;> omega) _ | refine Below.drew ?_ | refine below_drewN ?_ _)))) hb'; clear hb'; obtain ⟨_, ⟨l0, c00, c01, c02⟩⟩ := id hS') | (go_at_call 34; (with_reducible refine (week_c _ _ (by omega)).mono ?_); rintro e w' ⟨rfl, hb'⟩; have hS' := SCB.step (by first | assumption | (refine SCB.step (by assumption) ?_; (repeat (first | exact Below.refl _ _ | refine Below.setCell ?_ (by simp <;> omega) _ | refine Below.alloc ?_ (by simp <;> omega) _ | refine Below.drew ?_ | refine below_drewN ?_ _)))) hb'; clear hb'; obtain ⟨_, ⟨l0, c00, c01, c02⟩⟩ := id hS') | (go_at_call 19; (with_reducible refine (sure07 _ (Held.handle (w0 := w) (by first | exact And.left (by assumption) | (refine Held.step (And.left (by assumption)) ?_; (repeat (first | exact Below.refl _ _ | refine Below.setCell ?_ (by simp <;> omega) _ | refine Below.alloc ?_ (by simp <;> omega) _ | refine Below.drew ?_ | refine below_drewN ?_ _))))) (ht.below (Held.below (w0 := w) (by first | exact And.left (by assumption) | (refine Held.step (And.left (by assumption)) ?_; (repeat (first | exact Below.refl _ _ | refine Below.setCell ?_ (by simp <;> omega) _ | refine Below.alloc ?_ (by simp <;> omega) _ | refine Below.drew ?_ | refine below_drewN ?_ _))))))).mono ?_); rintro e w' ⟨rfl, hb'⟩; have hS' := SCB.step (by first | assumption | (refine SCB.step (by assumption) ?_; (repeat (first | exact Below.refl _ _ | refine Below.setCell ?_ (by simp <;> omega) _ | refine Below.alloc ?_ (by simp <;> omega) _ | refine Below.drew ?_ | refine below_drewN ?_ _)))) hb'; clear hb'; obtain ⟨_, ⟨l0, c00, c01, c02⟩⟩ := id hS'))
  go_quiet ((go_at_call 22; exact Calls.quiet_of_same ((month_c _ _ _ (by omega) (by omega)).mono fun _ _ ⟨a, b⟩ => ⟨a, b.symm⟩)))
  all_goals go_wp2_with (first | (go_at_call 20; (with_reducible refine (days_ok _ _ _ _ pb1 pb2 pb3 pM).mono ?_); rintro e w' ⟨rfl, hb'⟩; have hS' := SCB.step (by first | assumption | (refine SCB.step (by assumption) ?_; (repeat (first | exact Below.refl _ _ | refine Below.setCell ?_ (by simp <;> omega) _ | refine Below.alloc ?_ (by simp <;> omega) _ | refine Below.drew ?_ | refine below_drewN ?_ _)))) hb'; clear hb'; obtain ⟨_, ⟨l0, c00, c01, c02⟩⟩ := id hS') | (go_at_call 21; (with_reducible refine (of_f (n + 1) py pm (pd + 1) 0 _ hn1 hQ).mono ?_); rintro e w' ⟨rfl, hb'⟩; have hS' := SCB.step (by first | assumption | (refine SCB.step (by assumption) ?_; (repeat (first | exact Below.refl _ _ | refine Below.setCell ?_ (by simp <;> omega) _ | refine Below.alloc ?_ (by simp <;> omega) _ | refine Below.drew ?_ | refine below_drewN ?_ _)))) hb'; clear hb'; obtain ⟨_, ⟨l0, c00, c01, c02⟩⟩ := id hS') | (go_at_call 21; (with_reducible refine (of_f (n + 146097) (py + 400) pm pd 0 _ hn2 hF).mono ?_); rintro e w' ⟨rfl, hb'⟩; have hS' := SCB.step (by first | assumption | (refine SCB.step (by assumption) ?_; (repeat (first | exact Below.refl _ _ | refine Below.setCell ?_ (by simp <;> omega) _ | refine Below.alloc ?_ (by simp <;> omega) _ | refine Below.drew ?_ | refine below_drewN ?_ _)))) hb'; clear hb'; obtain ⟨_, ⟨l0, c00, c01, c02⟩⟩ := id hS') | (go_at_call 34; (with_reducible refine (week_c _ _ (by omega)).mono ?_); rintro e w' ⟨rfl, hb'⟩; have hS' := SCB.step (by first | assumption | (refine SCB.step (by assumption) ?_; (repeat (first | exact Below.refl _ _ | refine Below.setCell ?_ (by simp <;> omega) _ | refine Below.alloc ?_ (by simp <;> omega) _ | refine Below.drew ?_ | refine below_drewN ?_ _)))) hb'; clear hb'; obtain ⟨_, ⟨l0, c00, c01, c02⟩⟩ := id hS') | (go_at_call 19; (with_reducible refine (sure07 _ (Held.handle (w0 := w) (by first | exact And.left (by assumption) | (refine Held.step (And.left (by assumption)) ?_; (repeat (first | exact Below.refl _ _ | refine Below.setCell ?_ (by simp <;> omega) _ | refine Below.alloc ?_ (by simp <;> omega) _ | refine Below.drew ?_ | refine below_drewN ?_ _))))) (ht.below (Held.below (w0 := w) (by first | exact And.left (by assumption) | (refine Held.step (And.left (by assumption)) ?_; (repeat (first | exact Below.refl _ _ | refine Below.setCell ?_ (by simp <;> omega) _ | refine Below.alloc ?_ (by simp <;> omega) _ | refine Below.drew ?_ | refine below_drewN ?_ _))))))).mono ?_); rintro e w' ⟨rfl, hb'⟩; have hS' := SCB.step (by first | assumption | (refine SCB.step (by assumption) ?_; (repeat (first | exact Below.refl _ _ | refine Below.setCell ?_ (by simp <;> omega) _ | refine Below.alloc ?_ (by simp <;> omega) _ | refine Below.drew ?_ | refine below_drewN ?_ _)))) hb'; clear hb'; obtain ⟨_, ⟨l0, c00, c01, c02⟩⟩ := id hS'))
  all_goals go_ret
  all_goals exact ⟨rfl, Held.below (w0 := w) (And.left (by assumption))⟩
set_option maxRecDepth 100000 in
set_option maxHeartbeats 16000000 in
theorem cback_may_12 (y m d n : Int) (hy : InR y) (hm : InR m) (hd : InR d) (hn : InR n) (hM : Cal.may y m d) (py pm pd : Int) (pM : Cal.may py pm pd) (pN : Cal.num py pm pd = n) (hx : pd < Cal.dim py pm) (hQ : IsOf (n + 1) py pm (pd + 1) 0) (hF : IsOf (n + 146097) 0 0 0 2) (w : World) (hg : w.cell? ⟨0, 0, none⟩ = some asHandle) (ht : Tab w) :
    Calls Tryd.prog 5 #[.agg #[.int .i64 y, .int .i64 m, .int .i64 d], .int .i64 n] w fun e w' => e = .returned (.bool true) ∧ Below w.heap.size w w' := by
  have hH := Held.start hg
  have hO : IsOf (Cal.num y m d) y m d 0 := Or.inl ⟨rfl, hM, rfl⟩
  have hb0 := Cal.may_num _ _ _ hM
  have hnum : InR (Cal.num y m d) := by omega
  have hsz : (⟨(dateL y m d).toArray⟩ : ByteArray).size ≤ 9223372036854775807 := by show (dateL y m d).length ≤ _; unfold dateL; simp [Dig.digs_length]
  have pb := Cal.may_num _ _ _ pM
  rw [pN] at pb
  have hP : IsOf n py pm pd 0 := Or.inl ⟨rfl, pM, pN⟩
  have hn1 : InR (n + 1) := by omega
  have hn2 : InR (n + 146097) := by omega
  obtain ⟨p1, p2, p3, p4, p5, p6⟩ := id pM
  have pdl := Cal.dim_lo py pm
  have pb1 : InR py := by omega
  have pb2 : InR pm := by omega
  have pb3 : InR pd := by omega
  have k1 := wd_next n
  have k2 := wd_far n
  have k3 := wd_bd n
  have e0 := errOf_zero
  have e2 := errOf_ne (by decide : ¬ (2 : Int) = 0)
  go_enter Tryd.func5, Tryd.ntmps5
  go_wp2_with (fail)
  go_at_call 26
  (with_reducible refine (check_ok _ _ _ _ hy hm hd hM).mono ?_)
  rintro e w1 ⟨rfl, HB⟩
  obtain ⟨hc1, hf1⟩ := bcell HB
  obtain ⟨hd1, hh1⟩ := bcell2 (U := w) (by repeat (first | exact Below.refl _ _ | refine Below.setCell ?_ (by simp <;> omega) _ | refine Below.alloc ?_ (by simp <;> omega) _ | refine Below.drew ?_)) HB
  have hz1 := HB.size
  try simp at hz1
  (try (have z1w0 : w.heap.size < w1.heap.size := (by omega)))
  (try (have z1w1 : w.heap.size + 1 < w1.heap.size := (by omega)))
  have hH1 := Held.step (w0 := w) (by repeat (first | assumption | refine Held.alloc ?_ _ | refine Held.drew ?_)) HB
  clear HB
  go_wp2_with (fail)
  go_at_call 20
  (with_reducible refine (days_ok _ _ _ _ hy hm hd hM).mono ?_)
  rintro e w2 ⟨rfl, HB⟩
  obtain ⟨hc2, hf2⟩ := bcell HB
  obtain ⟨hd2, hh2⟩ := bcell2 (U := w1) (by repeat (first | exact Below.refl _ _ | refine Below.setCell ?_ (by simp <;> omega) _ | refine Below.alloc ?_ (by simp <;> omega) _ | refine Below.drew ?_)) HB
  have hz2 := HB.size
  try simp at hz2
  (try (have z2w0 : w.heap.size < w2.heap.size := (by omega)))
  (try (have z2w1 : w.heap.size + 1 < w2.heap.size := (by omega)))
  (try (have z2w10 : w1.heap.size < w2.heap.size := (by omega)))
  (try (have z2w11 : w1.heap.size + 1 < w2.heap.size := (by omega)))
  have hH2 := Held.step (w0 := w) (by repeat (first | assumption | refine Held.alloc ?_ _ | refine Held.drew ?_)) HB
  clear HB
  go_wp2_with (fail)
  go_at_call 21
  (with_reducible refine (of_f _ y m d 0 _ hnum hO).mono ?_)
  rintro e w3 ⟨rfl, HB⟩
  obtain ⟨hc3, hf3⟩ := bcell HB
  obtain ⟨hd3, hh3⟩ := bcell2 (U := w2) (by repeat (first | exact Below.refl _ _ | refine Below.setCell ?_ (by simp <;> omega) _ | refine Below.alloc ?_ (by simp <;> omega) _ | refine Below.drew ?_)) HB
  have hz3 := HB.size
  try simp at hz3
  (try (have z3w0 : w.heap.size < w3.heap.size := (by omega)))
  (try (have z3w1 : w.heap.size + 1 < w3.heap.size := (by omega)))
  (try (have z3w10 : w1.heap.size < w3.heap.size := (by omega)))
  (try (have z3w11 : w1.heap.size + 1 < w3.heap.size := (by omega)))
  (try (have z3w20 : w2.heap.size < w3.heap.size := (by omega)))
  (try (have z3w21 : w2.heap.size + 1 < w3.heap.size := (by omega)))
  have hH3 := Held.step (w0 := w) (by repeat (first | assumption | refine Held.alloc ?_ _ | refine Held.drew ?_)) HB
  clear HB
  rw [errOf_zero]
  have t3 : Tab w3 := ht.below (Held.below hH3)
  go_wp2_with (fail)
  go_at_call 30
  (with_reducible refine (text_ok _ _ _ _ (Held.handle (w0 := w) (by repeat (first | assumption | refine Held.alloc ?_ _ | refine Held.drew ?_))) (t3.below ((Below.refl _ _).alloc (Nat.le_refl _) _)) hM).mono ?_)
  rintro e w4 ⟨rfl, HB⟩
  obtain ⟨hc4, hf4⟩ := bcell HB
  obtain ⟨hd4, hh4⟩ := bcell2 (U := w3) (by repeat (first | exact Below.refl _ _ | refine Below.setCell ?_ (by simp <;> omega) _ | refine Below.alloc ?_ (by simp <;> omega) _ | refine Below.drew ?_)) HB
  have hz4 := HB.size
  try simp at hz4
  (try (have z4w0 : w.heap.size < w4.heap.size := (by omega)))
  (try (have z4w1 : w.heap.size + 1 < w4.heap.size := (by omega)))
  (try (have z4w10 : w1.heap.size < w4.heap.size := (by omega)))
  (try (have z4w11 : w1.heap.size + 1 < w4.heap.size := (by omega)))
  (try (have z4w20 : w2.heap.size < w4.heap.size := (by omega)))
  (try (have z4w21 : w2.heap.size + 1 < w4.heap.size := (by omega)))
  (try (have z4w30 : w3.heap.size < w4.heap.size := (by omega)))
  (try (have z4w31 : w3.heap.size + 1 < w4.heap.size := (by omega)))
  have hH4 := Held.step (w0 := w) (by repeat (first | assumption | refine Held.alloc ?_ _ | refine Held.drew ?_)) HB
  clear HB
  go_wp2_with (fail)
  go_at_call 31
  (with_reducible refine (parse_f _ y m d 0 _ hsz (isParse_date hM)).mono ?_)
  rintro e w5 ⟨rfl, HB⟩
  obtain ⟨hc5, hf5⟩ := bcell HB
  obtain ⟨hd5, hh5⟩ := bcell2 (U := w4) (by repeat (first | exact Below.refl _ _ | refine Below.setCell ?_ (by simp <;> omega) _ | refine Below.alloc ?_ (by simp <;> omega) _ | refine Below.drew ?_)) HB
  have hz5 := HB.size
  try simp at hz5
  (try (have z5w0 : w.heap.size < w5.heap.size := (by omega)))
  (try (have z5w1 : w.heap.size + 1 < w5.heap.size := (by omega)))
  (try (have z5w10 : w1.heap.size < w5.heap.size := (by omega)))
  (try (have z5w11 : w1.heap.size + 1 < w5.heap.size := (by omega)))
  (try (have z5w20 : w2.heap.size < w5.heap.size := (by omega)))
  (try (have z5w21 : w2.heap.size + 1 < w5.heap.size := (by omega)))
  (try (have z5w30 : w3.heap.size < w5.heap.size := (by omega)))
  (try (have z5w31 : w3.heap.size + 1 < w5.heap.size := (by omega)))
  (try (have z5w40 : w4.heap.size < w5.heap.size := (by omega)))
  (try (have z5w41 : w4.heap.size + 1 < w5.heap.size := (by omega)))
  have hH5 := Held.step (w0 := w) (by repeat (first | assumption | refine Held.alloc ?_ _ | refine Held.drew ?_)) HB
  clear HB
  rw [errOf_zero]
  go_wp2_with (fail)
  go_at_call 21
  (with_reducible refine (of_f _ py pm pd 0 _ hn hP).mono ?_)
  rintro e w6 ⟨rfl, HB⟩
  obtain ⟨hc6, hf6⟩ := bcell HB
  obtain ⟨hd6, hh6⟩ := bcell2 (U := w5) (by repeat (first | exact Below.refl _ _ | refine Below.setCell ?_ (by simp <;> omega) _ | refine Below.alloc ?_ (by simp <;> omega) _ | refine Below.drew ?_)) HB
  have hz6 := HB.size
  try simp at hz6
  (try (have z6w0 : w.heap.size < w6.heap.size := (by omega)))
  (try (have z6w1 : w.heap.size + 1 < w6.heap.size := (by omega)))
  (try (have z6w10 : w1.heap.size < w6.heap.size := (by omega)))
  (try (have z6w11 : w1.heap.size + 1 < w6.heap.size := (by omega)))
  (try (have z6w20 : w2.heap.size < w6.heap.size := (by omega)))
  (try (have z6w21 : w2.heap.size + 1 < w6.heap.size := (by omega)))
  (try (have z6w30 : w3.heap.size < w6.heap.size := (by omega)))
  (try (have z6w31 : w3.heap.size + 1 < w6.heap.size := (by omega)))
  (try (have z6w40 : w4.heap.size < w6.heap.size := (by omega)))
  (try (have z6w41 : w4.heap.size + 1 < w6.heap.size := (by omega)))
  (try (have z6w50 : w5.heap.size < w6.heap.size := (by omega)))
  (try (have z6w51 : w5.heap.size + 1 < w6.heap.size := (by omega)))
  have hH6 := Held.step (w0 := w) (by repeat (first | assumption | refine Held.alloc ?_ _ | refine Held.drew ?_)) HB
  clear HB
  rw [errOf_zero]
  have hS0 : SCB w (w6.heap.size) (.int .i64 py) (.int .i64 pm) (.int .i64 pd) (w6.alloc (.cells #[.int .i64 py, .int .i64 pm, .int .i64 pd] 26)) := ⟨Held.alloc hH6 _, ⟨by simp <;> omega, by go_simp, by go_simp, by go_simp⟩⟩
  go_wp2_with (first | (go_at_call 20; (with_reducible refine (days_ok _ _ _ _ pb1 pb2 pb3 pM).mono ?_); rintro e w' ⟨rfl, hb'⟩; have hS' := SCB.step (by first | assumption | (refine SCB.step (by assumption) ?_; (repeat (first | exact Below.refl _ _ | refine Below.setCell ?_ (by simp <;> omega) _ | refine Below.alloc ?_ (by simp <;> omega) _ | refine Below.drew ?_ | refine below_drewN ?_ _)))) hb'; clear hb'; obtain ⟨_, ⟨l0, c00, c01, c02⟩⟩ := id hS') | (go_at_call 21; (with_reducible refine (of_f (n + 1) py pm (pd + 1) 0 _ hn1 hQ).mono ?_); rintro e w' ⟨rfl, hb'⟩; have hS' := SCB.step (by first | assumption | (refine SCB.step (by assumption) ?_; (repeat (first | exact Below.refl _ _ | refine Below.setCell ?_ (by simp <;> omega) _ | refine Below.alloc ?_ (by simp <;> omega) _ | refine Below.drew ?_ | refine below_drewN ?_ _)))) hb'; clear hb'; obtain ⟨_, ⟨l0, c00, c01, c02⟩⟩ := id hS') | (go_at_call 21; (with_reducible refine (of_f (n + 146097) 0 0 0 2 _ hn2 hF).mono ?_); rintro e w' ⟨rfl, hb'⟩; have hS' := SCB.step (by first | assumption | (refine SCB.step (by assumption) ?_; (repeat (first | exact Below.refl _ _ | refine Below.setCell ?_ (by simp <;> omega) _ | refine Below.alloc ?_ (by simp <;> omega) _ | refine Below.drew ?_ | refine below_drewN ?_ _)))) hb'; clear hb'; obtain ⟨_, ⟨l0, c00, c01, c02⟩⟩ := id hS') | (go_at_call 34; (with_reducible refine (week_c _ _ (by omega)).mono ?_); rintro e w' ⟨rfl, hb'⟩; have hS' := SCB.step (by first | assumption | (refine SCB.step (by assumption) ?_; (repeat (first | exact Below.refl _ _ | refine Below.setCell ?_ (by simp <;> omega) _ | refine Below.alloc ?_ (by simp <;> omega) _ | refine Below.drew ?_ | refine below_drewN ?_ _)))) hb'; clear hb'; obtain ⟨_, ⟨l0, c00, c01, c02⟩⟩ := id hS') | (go_at_call 19; (with_reducible refine (sure07 _ (Held.handle (w0 := w) (by first | exact And.left (by assumption) | (refine Held.step (And.left (by assumption)) ?_; (repeat (first | exact Below.refl _ _ | refine Below.setCell ?_ (by simp <;> omega) _ | refine Below.alloc ?_ (by simp <;> omega) _ | refine Below.drew ?_ | refine below_drewN ?_ _))))) (ht.below (Held.below (w0 := w) (by first | exact And.left (by assumption) | (refine Held.step (And.left (by assumption)) ?_; (repeat (first | exact Below.refl _ _ | refine Below.setCell ?_ (by simp <;> omega) _ | refine Below.alloc ?_ (by simp <;> omega) _ | refine Below.drew ?_ | refine below_drewN ?_ _))))))).mono ?_); rintro e w' ⟨rfl, hb'⟩; have hS' := SCB.step (by first | assumption | (refine SCB.step (by assumption) ?_; (repeat (first | exact Below.refl _ _ | refine Below.setCell ?_ (by simp <;> omega) _ | refine Below.alloc ?_ (by simp <;> omega) _ | refine Below.drew ?_ | refine below_drewN ?_ _)))) hb'; clear hb'; obtain ⟨_, ⟨l0, c00, c01, c02⟩⟩ := id hS'))
  go_quiet ((go_at_call 22; exact Calls.quiet_of_same ((month_c _ _ _ (by omega) (by omega)).mono fun _ _ ⟨a, b⟩ => ⟨a, b.symm⟩)))
  all_goals go_wp2_with (first | (go_at_call 20; (with_reducible refine (days_ok _ _ _ _ pb1 pb2 pb3 pM).mono ?_); rintro e w' ⟨rfl, hb'⟩; have hS' := SCB.step (by first | assumption | (refine SCB.step (by assumption) ?_; (repeat (first | exact Below.refl _ _ | refine Below.setCell ?_ (by simp <;> omega) _ | refine Below.alloc ?_ (by simp <;> omega) _ | refine Below.drew ?_ | refine below_drewN ?_ _)))) hb'; clear hb'; obtain ⟨_, ⟨l0, c00, c01, c02⟩⟩ := id hS') | (go_at_call 21; (with_reducible refine (of_f (n + 1) py pm (pd + 1) 0 _ hn1 hQ).mono ?_); rintro e w' ⟨rfl, hb'⟩; have hS' := SCB.step (by first | assumption | (refine SCB.step (by assumption) ?_; (repeat (first | exact Below.refl _ _ | refine Below.setCell ?_ (by simp <;> omega) _ | refine Below.alloc ?_ (by simp <;> omega) _ | refine Below.drew ?_ | refine below_drewN ?_ _)))) hb'; clear hb'; obtain ⟨_, ⟨l0, c00, c01, c02⟩⟩ := id hS') | (go_at_call 21; (with_reducible refine (of_f (n + 146097) 0 0 0 2 _ hn2 hF).mono ?_); rintro e w' ⟨rfl, hb'⟩; have hS' := SCB.step (by first | assumption | (refine SCB.step (by assumption) ?_; (repeat (first | exact Below.refl _ _ | refine Below.setCell ?_ (by simp <;> omega) _ | refine Below.alloc ?_ (by simp <;> omega) _ | refine Below.drew ?_ | refine below_drewN ?_ _)))) hb'; clear hb'; obtain ⟨_, ⟨l0, c00, c01, c02⟩⟩ := id hS') | (go_at_call 34; (with_reducible refine (week_c _ _ (by omega)).mono ?_); rintro e w' ⟨rfl, hb'⟩; have hS' := SCB.step (by first | assumption | (refine SCB.step (by assumption) ?_; (repeat (first | exact Below.refl _ _ | refine Below.setCell ?_ (by simp <;> omega) _ | refine Below.alloc ?_ (by simp <;> omega) _ | refine Below.drew ?_ | refine below_drewN ?_ _)))) hb'; clear hb'; obtain ⟨_, ⟨l0, c00, c01, c02⟩⟩ := id hS') | (go_at_call 19; (with_reducible refine (sure07 _ (Held.handle (w0 := w) (by first | exact And.left (by assumption) | (refine Held.step (And.left (by assumption)) ?_; (repeat (first | exact Below.refl _ _ | refine Below.setCell ?_ (by simp <;> omega) _ | refine Below.alloc ?_ (by simp <;> omega) _ | refine Below.drew ?_ | refine below_drewN ?_ _))))) (ht.below (Held.below (w0 := w) (by first | exact And.left (by assumption) | (refine Held.step (And.left (by assumption)) ?_; (repeat (first | exact Below.refl _ _ | refine Below.setCell ?_ (by simp <;> omega) _ | refine Below.alloc ?_ (by simp <;> omega) _ | refine Below.drew ?_ | refine below_drewN ?_ _))))))).mono ?_); rintro e w' ⟨rfl, hb'⟩; have hS' := SCB.step (by first | assumption | (refine SCB.step (by assumption) ?_; (repeat (first | exact Below.refl _ _ | refine Below.setCell ?_ (by simp <;> omega) _ | refine Below.alloc ?_ (by simp <;> omega) _ | refine Below.drew ?_ | refine below_drewN ?_ _)))) hb'; clear hb'; obtain ⟨_, ⟨l0, c00, c01, c02⟩⟩ := id hS'))
  all_goals go_ret
  all_goals exact ⟨rfl, Held.below (w0 := w) (And.left (by assumption))⟩
set_option maxRecDepth 100000 in
set_option maxHeartbeats 16000000 in
theorem cback_may_21 (y m d n : Int) (hy : InR y) (hm : InR m) (hd : InR d) (hn : InR n) (hM : Cal.may y m d) (py pm pd : Int) (pM : Cal.may py pm pd) (pN : Cal.num py pm pd = n) (hx : pd = Cal.dim py pm) (hx2 : pm < 12) (hQ : IsOf (n + 1) py (pm + 1) 1 0) (hF : IsOf (n + 146097) (py + 400) pm pd 0) (w : World) (hg : w.cell? ⟨0, 0, none⟩ = some asHandle) (ht : Tab w) :
    Calls Tryd.prog 5 #[.agg #[.int .i64 y, .int .i64 m, .int .i64 d], .int .i64 n] w fun e w' => e = .returned (.bool true) ∧ Below w.heap.size w w' := by
  have hH := Held.start hg
  have hO : IsOf (Cal.num y m d) y m d 0 := Or.inl ⟨rfl, hM, rfl⟩
  have hb0 := Cal.may_num _ _ _ hM
  have hnum : InR (Cal.num y m d) := by omega
  have hsz : (⟨(dateL y m d).toArray⟩ : ByteArray).size ≤ 9223372036854775807 := by show (dateL y m d).length ≤ _; unfold dateL; simp [Dig.digs_length]
  have pb := Cal.may_num _ _ _ pM
  rw [pN] at pb
  have hP : IsOf n py pm pd 0 := Or.inl ⟨rfl, pM, pN⟩
  have hn1 : InR (n + 1) := by omega
  have hn2 : InR (n + 146097) := by omega
  obtain ⟨p1, p2, p3, p4, p5, p6⟩ := id pM
  have pdl := Cal.dim_lo py pm
  have pb1 : InR py := by omega
  have pb2 : InR pm := by omega
  have pb3 : InR pd := by omega
  have k1 := wd_next n
  have k2 := wd_far n
  have k3 := wd_bd n
  have e0 := errOf_zero
  have e2 := errOf_ne (by decide : ¬ (2 : Int) = 0)
  have hx0 : pd ≤ Cal.dim py pm ∧ Cal.dim py pm ≤ pd := by omega
  clear hx
  go_enter Tryd.func5, Tryd.ntmps5
  go_wp2_with (fail)
  go_at_call 26
  (with_reducible refine (check_ok _ _ _ _ hy hm hd hM).mono ?_)
  rintro e w1 ⟨rfl, HB⟩
  obtain ⟨hc1, hf1⟩ := bcell HB
  obtain ⟨hd1, hh1⟩ := bcell2 (U := w) (by repeat (first | exact Below.refl _ _ | refine Below.setCell ?_ (by simp <;> omega) _ | refine Below.alloc ?_ (by simp <;> omega) _ | refine Below.drew ?_)) HB
  have hz1 := HB.size
  try simp at hz1
  (try (have z1w0 : w.heap.size < w1.heap.size := (by omega)))
  (try (have z1w1 : w.heap.size + 1 < w1.heap.size := (by omega)))
  have hH1 := Held.step (w0 := w) (by repeat (first | assumption | refine Held.alloc ?_ _ | refine Held.drew ?_)) HB
  clear HB
  go_wp2_with (fail)
  go_at_call 20
  (with_reducible refine (days_ok _ _ _ _ hy hm hd hM).mono ?_)
  rintro e w2 ⟨rfl, HB⟩
  obtain ⟨hc2, hf2⟩ := bcell HB
  obtain ⟨hd2, hh2⟩ := bcell2 (U := w1) (by repeat (first | exact Below.refl _ _ | refine Below.setCell ?_ (by simp <;> omega) _ | refine Below.alloc ?_ (by simp <;> omega) _ | refine Below.drew ?_)) HB
  have hz2 := HB.size
  try simp at hz2
  (try (have z2w0 : w.heap.size < w2.heap.size := (by omega)))
  (try (have z2w1 : w.heap.size + 1 < w2.heap.size := (by omega)))
  (try (have z2w10 : w1.heap.size < w2.heap.size := (by omega)))
  (try (have z2w11 : w1.heap.size + 1 < w2.heap.size := (by omega)))
  have hH2 := Held.step (w0 := w) (by repeat (first | assumption | refine Held.alloc ?_ _ | refine Held.drew ?_)) HB
  clear HB
  go_wp2_with (fail)
  go_at_call 21
  (with_reducible refine (of_f _ y m d 0 _ hnum hO).mono ?_)
  rintro e w3 ⟨rfl, HB⟩
  obtain ⟨hc3, hf3⟩ := bcell HB
  obtain ⟨hd3, hh3⟩ := bcell2 (U := w2) (by repeat (first | exact Below.refl _ _ | refine Below.setCell ?_ (by simp <;> omega) _ | refine Below.alloc ?_ (by simp <;> omega) _ | refine Below.drew ?_)) HB
  have hz3 := HB.size
  try simp at hz3
  (try (have z3w0 : w.heap.size < w3.heap.size := (by omega)))
  (try (have z3w1 : w.heap.size + 1 < w3.heap.size := (by omega)))
  (try (have z3w10 : w1.heap.size < w3.heap.size := (by omega)))
  (try (have z3w11 : w1.heap.size + 1 < w3.heap.size := (by omega)))
  (try (have z3w20 : w2.heap.size < w3.heap.size := (by omega)))
  (try (have z3w21 : w2.heap.size + 1 < w3.heap.size := (by omega)))
  have hH3 := Held.step (w0 := w) (by repeat (first | assumption | refine Held.alloc ?_ _ | refine Held.drew ?_)) HB
  clear HB
  rw [errOf_zero]
  have t3 : Tab w3 := ht.below (Held.below hH3)
  go_wp2_with (fail)
  go_at_call 30
  (with_reducible refine (text_ok _ _ _ _ (Held.handle (w0 := w) (by repeat (first | assumption | refine Held.alloc ?_ _ | refine Held.drew ?_))) (t3.below ((Below.refl _ _).alloc (Nat.le_refl _) _)) hM).mono ?_)
  rintro e w4 ⟨rfl, HB⟩
  obtain ⟨hc4, hf4⟩ := bcell HB
  obtain ⟨hd4, hh4⟩ := bcell2 (U := w3) (by repeat (first | exact Below.refl _ _ | refine Below.setCell ?_ (by simp <;> omega) _ | refine Below.alloc ?_ (by simp <;> omega) _ | refine Below.drew ?_)) HB
  have hz4 := HB.size
  try simp at hz4
  (try (have z4w0 : w.heap.size < w4.heap.size := (by omega)))
  (try (have z4w1 : w.heap.size + 1 < w4.heap.size := (by omega)))
  (try (have z4w10 : w1.heap.size < w4.heap.size := (by omega)))
  (try (have z4w11 : w1.heap.size + 1 < w4.heap.size := (by omega)))
  (try (have z4w20 : w2.heap.size < w4.heap.size := (by omega)))
  (try (have z4w21 : w2.heap.size + 1 < w4.heap.size := (by omega)))
  (try (have z4w30 : w3.heap.size < w4.heap.size := (by omega)))
  (try (have z4w31 : w3.heap.size + 1 < w4.heap.size := (by omega)))
  have hH4 := Held.step (w0 := w) (by repeat (first | assumption | refine Held.alloc ?_ _ | refine Held.drew ?_)) HB
  clear HB
  go_wp2_with (fail)
  go_at_call 31
  (with_reducible refine (parse_f _ y m d 0 _ hsz (isParse_date hM)).mono ?_)
  rintro e w5 ⟨rfl, HB⟩
  obtain ⟨hc5, hf5⟩ := bcell HB
  obtain ⟨hd5, hh5⟩ := bcell2 (U := w4) (by repeat (first | exact Below.refl _ _ | refine Below.setCell ?_ (by simp <;> omega) _ | refine Below.alloc ?_ (by simp <;> omega) _ | refine Below.drew ?_)) HB
  have hz5 := HB.size
  try simp at hz5
  (try (have z5w0 : w.heap.size < w5.heap.size := (by omega)))
  (try (have z5w1 : w.heap.size + 1 < w5.heap.size := (by omega)))
  (try (have z5w10 : w1.heap.size < w5.heap.size := (by omega)))
  (try (have z5w11 : w1.heap.size + 1 < w5.heap.size := (by omega)))
  (try (have z5w20 : w2.heap.size < w5.heap.size := (by omega)))
  (try (have z5w21 : w2.heap.size + 1 < w5.heap.size := (by omega)))
  (try (have z5w30 : w3.heap.size < w5.heap.size := (by omega)))
  (try (have z5w31 : w3.heap.size + 1 < w5.heap.size := (by omega)))
  (try (have z5w40 : w4.heap.size < w5.heap.size := (by omega)))
  (try (have z5w41 : w4.heap.size + 1 < w5.heap.size := (by omega)))
  have hH5 := Held.step (w0 := w) (by repeat (first | assumption | refine Held.alloc ?_ _ | refine Held.drew ?_)) HB
  clear HB
  rw [errOf_zero]
  go_wp2_with (fail)
  go_at_call 21
  (with_reducible refine (of_f _ py pm pd 0 _ hn hP).mono ?_)
  rintro e w6 ⟨rfl, HB⟩
  obtain ⟨hc6, hf6⟩ := bcell HB
  obtain ⟨hd6, hh6⟩ := bcell2 (U := w5) (by repeat (first | exact Below.refl _ _ | refine Below.setCell ?_ (by simp <;> omega) _ | refine Below.alloc ?_ (by simp <;> omega) _ | refine Below.drew ?_)) HB
  have hz6 := HB.size
  try simp at hz6
  (try (have z6w0 : w.heap.size < w6.heap.size := (by omega)))
  (try (have z6w1 : w.heap.size + 1 < w6.heap.size := (by omega)))
  (try (have z6w10 : w1.heap.size < w6.heap.size := (by omega)))
  (try (have z6w11 : w1.heap.size + 1 < w6.heap.size := (by omega)))
  (try (have z6w20 : w2.heap.size < w6.heap.size := (by omega)))
  (try (have z6w21 : w2.heap.size + 1 < w6.heap.size := (by omega)))
  (try (have z6w30 : w3.heap.size < w6.heap.size := (by omega)))
  (try (have z6w31 : w3.heap.size + 1 < w6.heap.size := (by omega)))
  (try (have z6w40 : w4.heap.size < w6.heap.size := (by omega)))
  (try (have z6w41 : w4.heap.size + 1 < w6.heap.size := (by omega)))
  (try (have z6w50 : w5.heap.size < w6.heap.size := (by omega)))
  (try (have z6w51 : w5.heap.size + 1 < w6.heap.size := (by omega)))
  have hH6 := Held.step (w0 := w) (by repeat (first | assumption | refine Held.alloc ?_ _ | refine Held.drew ?_)) HB
  clear HB
  rw [errOf_zero]
  have hS0 : SCB w (w6.heap.size) (.int .i64 py) (.int .i64 pm) (.int .i64 pd) (w6.alloc (.cells #[.int .i64 py, .int .i64 pm, .int .i64 pd] 26)) := ⟨Held.alloc hH6 _, ⟨by simp <;> omega, by go_simp, by go_simp, by go_simp⟩⟩
  go_wp2_with (first | (go_at_call 20; (with_reducible refine (days_ok _ _ _ _ pb1 pb2 pb3 pM).mono ?_); rintro e w' ⟨rfl, hb'⟩; have hS' := SCB.step (by first | assumption | (refine SCB.step (by assumption) ?_; (repeat (first | exact Below.refl _ _ | refine Below.setCell ?_ (by simp <;> omega) _ | refine Below.alloc ?_ (by simp <;> omega) _ | refine Below.drew ?_ | refine below_drewN ?_ _)))) hb'; clear hb'; obtain ⟨_, ⟨l0, c00, c01, c02⟩⟩ := id hS') | (go_at_call 21; (with_reducible refine (of_f (n + 1) py (pm + 1) 1 0 _ hn1 hQ).mono ?_); rintro e w' ⟨rfl, hb'⟩; have hS' := SCB.step (by first | assumption | (refine SCB.step (by assumption) ?_; (repeat (first | exact Below.refl _ _ | refine Below.setCell ?_ (by simp <;> omega) _ | refine Below.alloc ?_ (by simp <;> omega) _ | refine Below.drew ?_ | refine below_drewN ?_ _)))) hb'; clear hb'; obtain ⟨_, ⟨l0, c00, c01, c02⟩⟩ := id hS') | (go_at_call 21; (with_reducible refine (of_f (n + 146097) (py + 400) pm pd 0 _ hn2 hF).mono ?_); rintro e w' ⟨rfl, hb'⟩; have hS' := SCB.step (by first | assumption | (refine SCB.step (by assumption) ?_; (repeat (first | exact Below.refl _ _ | refine Below.setCell ?_ (by simp <;> omega) _ | refine Below.alloc ?_ (by simp <;> omega) _ | refine Below.drew ?_ | refine below_drewN ?_ _)))) hb'; clear hb'; obtain ⟨_, ⟨l0, c00, c01, c02⟩⟩ := id hS') | (go_at_call 34; (with_reducible refine (week_c _ _ (by omega)).mono ?_); rintro e w' ⟨rfl, hb'⟩; have hS' := SCB.step (by first | assumption | (refine SCB.step (by assumption) ?_; (repeat (first | exact Below.refl _ _ | refine Below.setCell ?_ (by simp <;> omega) _ | refine Below.alloc ?_ (by simp <;> omega) _ | refine Below.drew ?_ | refine below_drewN ?_ _)))) hb'; clear hb'; obtain ⟨_, ⟨l0, c00, c01, c02⟩⟩ := id hS') | (go_at_call 19; (with_reducible refine (sure07 _ (Held.handle (w0 := w) (by first | exact And.left (by assumption) | (refine Held.step (And.left (by assumption)) ?_; (repeat (first | exact Below.refl _ _ | refine Below.setCell ?_ (by simp <;> omega) _ | refine Below.alloc ?_ (by simp <;> omega) _ | refine Below.drew ?_ | refine below_drewN ?_ _))))) (ht.below (Held.below (w0 := w) (by first | exact And.left (by assumption) | (refine Held.step (And.left (by assumption)) ?_; (repeat (first | exact Below.refl _ _ | refine Below.setCell ?_ (by simp <;> omega) _ | refine Below.alloc ?_ (by simp <;> omega) _ | refine Below.drew ?_ | refine below_drewN ?_ _))))))).mono ?_); rintro e w' ⟨rfl, hb'⟩; have hS' := SCB.step (by first | assumption | (refine SCB.step (by assumption) ?_; (repeat (first | exact Below.refl _ _ | refine Below.setCell ?_ (by simp <;> omega) _ | refine Below.alloc ?_ (by simp <;> omega) _ | refine Below.drew ?_ | refine below_drewN ?_ _)))) hb'; clear hb'; obtain ⟨_, ⟨l0, c00, c01, c02⟩⟩ := id hS'))
  go_quiet ((go_at_call 22; exact Calls.quiet_of_same ((month_c _ _ _ (by omega) (by omega)).mono fun _ _ ⟨a, b⟩ => ⟨a, b.symm⟩)))
  all_goals go_wp2_with (first | (go_at_call 20; (with_reducible refine (days_ok _ _ _ _ pb1 pb2 pb3 pM).mono ?_); rintro e w' ⟨rfl, hb'⟩; have hS' := SCB.step (by first | assumption | (refine SCB.step (by assumption) ?_; (repeat (first | exact Below.refl _ _ | refine Below.setCell ?_ (by simp <;> omega) _ | refine Below.alloc ?_ (by simp <;> omega) _ | refine Below.drew ?_ | refine below_drewN ?_ _)))) hb'; clear hb'; obtain ⟨_, ⟨l0, c00, c01, c02⟩⟩ := id hS') | (go_at_call 21; (with_reducible refine (of_f (n + 1) py (pm + 1) 1 0 _ hn1 hQ).mono ?_); rintro e w' ⟨rfl, hb'⟩; have hS' := SCB.step (by first | assumption | (refine SCB.step (by assumption) ?_; (repeat (first | exact Below.refl _ _ | refine Below.setCell ?_ (by simp <;> omega) _ | refine Below.alloc ?_ (by simp <;> omega) _ | refine Below.drew ?_ | refine below_drewN ?_ _)))) hb'; clear hb'; obtain ⟨_, ⟨l0, c00, c01, c02⟩⟩ := id hS') | (go_at_call 21; (with_reducible refine (of_f (n + 146097) (py + 400) pm pd 0 _ hn2 hF).mono ?_); rintro e w' ⟨rfl, hb'⟩; have hS' := SCB.step (by first | assumption | (refine SCB.step (by assumption) ?_; (repeat (first | exact Below.refl _ _ | refine Below.setCell ?_ (by simp <;> omega) _ | refine Below.alloc ?_ (by simp <;> omega) _ | refine Below.drew ?_ | refine below_drewN ?_ _)))) hb'; clear hb'; obtain ⟨_, ⟨l0, c00, c01, c02⟩⟩ := id hS') | (go_at_call 34; (with_reducible refine (week_c _ _ (by omega)).mono ?_); rintro e w' ⟨rfl, hb'⟩; have hS' := SCB.step (by first | assumption | (refine SCB.step (by assumption) ?_; (repeat (first | exact Below.refl _ _ | refine Below.setCell ?_ (by simp <;> omega) _ | refine Below.alloc ?_ (by simp <;> omega) _ | refine Below.drew ?_ | refine below_drewN ?_ _)))) hb'; clear hb'; obtain ⟨_, ⟨l0, c00, c01, c02⟩⟩ := id hS') | (go_at_call 19; (with_reducible refine (sure07 _ (Held.handle (w0 := w) (by first | exact And.left (by assumption) | (refine Held.step (And.left (by assumption)) ?_; (repeat (first | exact Below.refl _ _ | refine Below.setCell ?_ (by simp <;> omega) _ | refine Below.alloc ?_ (by simp <;> omega) _ | refine Below.drew ?_ | refine below_drewN ?_ _))))) (ht.below (Held.below (w0 := w) (by first | exact And.left (by assumption) | (refine Held.step (And.left (by assumption)) ?_; (repeat (first | exact Below.refl _ _ | refine Below.setCell ?_ (by simp <;> omega) _ | refine Below.alloc ?_ (by simp <;> omega) _ | refine Below.drew ?_ | refine below_drewN ?_ _))))))).mono ?_); rintro e w' ⟨rfl, hb'⟩; have hS' := SCB.step (by first | assumption | (refine SCB.step (by assumption) ?_; (repeat (first | exact Below.refl _ _ | refine Below.setCell ?_ (by simp <;> omega) _ | refine Below.alloc ?_ (by simp <;> omega) _ | refine Below.drew ?_ | refine below_drewN ?_ _)))) hb'; clear hb'; obtain ⟨_, ⟨l0, c00, c01, c02⟩⟩ := id hS'))
  all_goals go_ret
  all_goals exact ⟨rfl, Held.below (w0 := w) (And.left (by assumption))⟩
set_option maxRecDepth 100000 in
set_option maxHeartbeats 16000000 in
theorem cback_may_22 (y m d n : Int) (hy : InR y) (hm : InR m) (hd : InR d) (hn : InR n) (hM : Cal.may y m d) (py pm pd : Int) (pM : Cal.may py pm pd) (pN : Cal.num py pm pd = n) (hx : pd = Cal.dim py pm) (hx2 : pm < 12) (hQ : IsOf (n + 1) py (pm + 1) 1 0) (hF : IsOf (n + 146097) 0 0 0 2) (w : World) (hg : w.cell? ⟨0, 0, none⟩ = some asHandle) (ht : Tab w) :
    Calls Tryd.prog 5 #[.agg #[.int .i64 y, .int .i64 m, .int .i64 d], .int .i64 n] w fun e w' => e = .returned (.bool true) ∧ Below w.heap.size w w' := by
  have hH := Held.start hg
  have hO : IsOf (Cal.num y m d) y m d 0 := Or.inl ⟨rfl, hM, rfl⟩
  have hb0 := Cal.may_num _ _ _ hM
  have hnum : InR (Cal.num y m d) := by omega
  have hsz : (⟨(dateL y m d).toArray⟩ : ByteArray).size ≤ 9223372036854775807 := by show (dateL y m d).length ≤ _; unfold dateL; simp [Dig.digs_length]
  have pb := Cal.may_num _ _ _ pM
  rw [pN] at pb
  have hP : IsOf n py pm pd 0 := Or.inl ⟨rfl, pM, pN⟩
  have hn1 : InR (n + 1) := by omega
  have hn2 : InR (n + 146097) := by omega
  obtain ⟨p1, p2, p3, p4, p5, p6⟩ := id pM
  have pdl := Cal.dim_lo py pm
  have pb1 : InR py := by omega
  have pb2 : InR pm := by omega
  have pb3 : InR pd := by omega
  have k1 := wd_next n
  have k2 := wd_far n
  have k3 := wd_bd n
  have e0 := errOf_zero
  have e2 := errOf_ne (by decide : ¬ (2 : Int) = 0)
  have hx0 : pd ≤ Cal.dim py pm ∧ Cal.dim py pm ≤ pd := by omega
  clear hx
  go_enter Tryd.func5, Tryd.ntmps5
  go_wp2_with (fail)
  go_at_call 26
  (with_reducible refine (check_ok _ _ _ _ hy hm hd hM).mono ?_)
  rintro e w1 ⟨rfl, HB⟩
  obtain ⟨hc1, hf1⟩ := bcell HB
  obtain ⟨hd1, hh1⟩ := bcell2 (U := w) (by repeat (first | exact Below.refl _ _ | refine Below.setCell ?_ (by simp <;> omega) _ | refine Below.alloc ?_ (by simp <;> omega) _ | refine Below.drew ?_)) HB
  have hz1 := HB.size
  try simp at hz1
  (try (have z1w0 : w.heap.size < w1.heap.size := (by omega)))
  (try (have z1w1 : w.heap.size + 1 < w1.heap.size := (by omega)))
  have hH1 := Held.step (w0 := w) (by repeat (first | assumption | refine Held.alloc ?_ _ | refine Held.drew ?_)) HB
  clear HB
  go_wp2_with (fail)
  go_at_call 20
  (with_reducible refine (days_ok _ _ _ _ hy hm hd hM).mono ?_)
  rintro e w2 ⟨rfl, HB⟩
  obtain ⟨hc2, hf2⟩ := bcell HB
  obtain ⟨hd2, hh2⟩ := bcell2 (U := w1) (by repeat (first | exact Below.refl _ _ | refine Below.setCell ?_ (by simp <;> omega) _ | refine Below.alloc ?_ (by simp <;> omega) _ | refine Below.drew ?_)) HB
  have hz2 := HB.size
  try simp at hz2
  (try (have z2w0 : w.heap.size < w2.heap.size := (by omega)))
  (try (have z2w1 : w.heap.size + 1 < w2.heap.size := (by omega)))
  (try (have z2w10 : w1.heap.size < w2.heap.size := (by omega)))
  (try (have z2w11 : w1.heap.size + 1 < w2.heap.size := (by omega)))
  have hH2 := Held.step (w0 := w) (by repeat (first | assumption | refine Held.alloc ?_ _ | refine Held.drew ?_)) HB
  clear HB
  go_wp2_with (fail)
  go_at_call 21
  (with_reducible refine (of_f _ y m d 0 _ hnum hO).mono ?_)
  rintro e w3 ⟨rfl, HB⟩
  obtain ⟨hc3, hf3⟩ := bcell HB
  obtain ⟨hd3, hh3⟩ := bcell2 (U := w2) (by repeat (first | exact Below.refl _ _ | refine Below.setCell ?_ (by simp <;> omega) _ | refine Below.alloc ?_ (by simp <;> omega) _ | refine Below.drew ?_)) HB
  have hz3 := HB.size
  try simp at hz3
  (try (have z3w0 : w.heap.size < w3.heap.size := (by omega)))
  (try (have z3w1 : w.heap.size + 1 < w3.heap.size := (by omega)))
  (try (have z3w10 : w1.heap.size < w3.heap.size := (by omega)))
  (try (have z3w11 : w1.heap.size + 1 < w3.heap.size := (by omega)))
  (try (have z3w20 : w2.heap.size < w3.heap.size := (by omega)))
  (try (have z3w21 : w2.heap.size + 1 < w3.heap.size := (by omega)))
  have hH3 := Held.step (w0 := w) (by repeat (first | assumption | refine Held.alloc ?_ _ | refine Held.drew ?_)) HB
  clear HB
  rw [errOf_zero]
  have t3 : Tab w3 := ht.below (Held.below hH3)
  go_wp2_with (fail)
  go_at_call 30
  (with_reducible refine (text_ok _ _ _ _ (Held.handle (w0 := w) (by repeat (first | assumption | refine Held.alloc ?_ _ | refine Held.drew ?_))) (t3.below ((Below.refl _ _).alloc (Nat.le_refl _) _)) hM).mono ?_)
  rintro e w4 ⟨rfl, HB⟩
  obtain ⟨hc4, hf4⟩ := bcell HB
  obtain ⟨hd4, hh4⟩ := bcell2 (U := w3) (by repeat (first | exact Below.refl _ _ | refine Below.setCell ?_ (by simp <;> omega) _ | refine Below.alloc ?_ (by simp <;> omega) _ | refine Below.drew ?_)) HB
  have hz4 := HB.size
  try simp at hz4
  (try (have z4w0 : w.heap.size < w4.heap.size := (by omega)))
  (try (have z4w1 : w.heap.size + 1 < w4.heap.size := (by omega)))
  (try (have z4w10 : w1.heap.size < w4.heap.size := (by omega)))
  (try (have z4w11 : w1.heap.size + 1 < w4.heap.size := (by omega)))
  (try (have z4w20 : w2.heap.size < w4.heap.size := (by omega)))
  (try (have z4w21 : w2.heap.size + 1 < w4.heap.size := (by omega)))
  (try (have z4w30 : w3.heap.size < w4.heap.size := (by omega)))
  (try (have z4w31 : w3.heap.size + 1 < w4.heap.size := (by omega)))
  have hH4 := Held.step (w0 := w) (by repeat (first | assumption | refine Held.alloc ?_ _ | refine Held.drew ?_)) HB
  clear HB
  go_wp2_with (fail)
  go_at_call 31
  (with_reducible refine (parse_f _ y m d 0 _ hsz (isParse_date hM)).mono ?_)
  rintro e w5 ⟨rfl, HB⟩
  obtain ⟨hc5, hf5⟩ := bcell HB
  obtain ⟨hd5, hh5⟩ := bcell2 (U := w4) (by repeat (first | exact Below.refl _ _ | refine Below.setCell ?_ (by simp <;> omega) _ | refine Below.alloc ?_ (by simp <;> omega) _ | refine Below.drew ?_)) HB
  have hz5 := HB.size
  try simp at hz5
  (try (have z5w0 : w.heap.size < w5.heap.size := (by omega)))
  (try (have z5w1 : w.heap.size + 1 < w5.heap.size := (by omega)))
  (try (have z5w10 : w1.heap.size < w5.heap.size := (by omega)))
  (try (have z5w11 : w1.heap.size + 1 < w5.heap.size := (by omega)))
  (try (have z5w20 : w2.heap.size < w5.heap.size := (by omega)))
  (try (have z5w21 : w2.heap.size + 1 < w5.heap.size := (by omega)))
  (try (have z5w30 : w3.heap.size < w5.heap.size := (by omega)))
  (try (have z5w31 : w3.heap.size + 1 < w5.heap.size := (by omega)))
  (try (have z5w40 : w4.heap.size < w5.heap.size := (by omega)))
  (try (have z5w41 : w4.heap.size + 1 < w5.heap.size := (by omega)))
  have hH5 := Held.step (w0 := w) (by repeat (first | assumption | refine Held.alloc ?_ _ | refine Held.drew ?_)) HB
  clear HB
  rw [errOf_zero]
  go_wp2_with (fail)
  go_at_call 21
  (with_reducible refine (of_f _ py pm pd 0 _ hn hP).mono ?_)
  rintro e w6 ⟨rfl, HB⟩
  obtain ⟨hc6, hf6⟩ := bcell HB
  obtain ⟨hd6, hh6⟩ := bcell2 (U := w5) (by repeat (first | exact Below.refl _ _ | refine Below.setCell ?_ (by simp <;> omega) _ | refine Below.alloc ?_ (by simp <;> omega) _ | refine Below.drew ?_)) HB
  have hz6 := HB.size
  try simp at hz6
  (try (have z6w0 : w.heap.size < w6.heap.size := (by omega)))
  (try (have z6w1 : w.heap.size + 1 < w6.heap.size := (by omega)))
  (try (have z6w10 : w1.heap.size < w6.heap.size := (by omega)))
  (try (have z6w11 : w1.heap.size + 1 < w6.heap.size := (by omega)))
  (try (have z6w20 : w2.heap.size < w6.heap.size := (by omega)))
  (try (have z6w21 : w2.heap.size + 1 < w6.heap.size := (by omega)))
  (try (have z6w30 : w3.heap.size < w6.heap.size := (by omega)))
  (try (have z6w31 : w3.heap.size + 1 < w6.heap.size := (by omega)))
  (try (have z6w40 : w4.heap.size < w6.heap.size := (by omega)))
  (try (have z6w41 : w4.heap.size + 1 < w6.heap.size := (by omega)))
  (try (have z6w50 : w5.heap.size < w6.heap.size := (by omega)))
  (try (have z6w51 : w5.heap.size + 1 < w6.heap.size := (by omega)))
  have hH6 := Held.step (w0 := w) (by repeat (first | assumption | refine Held.alloc ?_ _ | refine Held.drew ?_)) HB
  clear HB
  rw [errOf_zero]
  have hS0 : SCB w (w6.heap.size) (.int .i64 py) (.int .i64 pm) (.int .i64 pd) (w6.alloc (.cells #[.int .i64 py, .int .i64 pm, .int .i64 pd] 26)) := ⟨Held.alloc hH6 _, ⟨by simp <;> omega, by go_simp, by go_simp, by go_simp⟩⟩
  go_wp2_with (first | (go_at_call 20; (with_reducible refine (days_ok _ _ _ _ pb1 pb2 pb3 pM).mono ?_); rintro e w' ⟨rfl, hb'⟩; have hS' := SCB.step (by first | assumption | (refine SCB.step (by assumption) ?_; (repeat (first | exact Below.refl _ _ | refine Below.setCell ?_ (by simp <;> omega) _ | refine Below.alloc ?_ (by simp <;> omega) _ | refine Below.drew ?_ | refine below_drewN ?_ _)))) hb'; clear hb'; obtain ⟨_, ⟨l0, c00, c01, c02⟩⟩ := id hS') | (go_at_call 21; (with_reducible refine (of_f (n + 1) py (pm + 1) 1 0 _ hn1 hQ).mono ?_); rintro e w' ⟨rfl, hb'⟩; have hS' := SCB.step (by first | assumption | (refine SCB.step (by assumption) ?_; (repeat (first | exact Below.refl _ _ | refine Below.setCell ?_ (by simp <;> omega) _ | refine Below.alloc ?_ (by simp <;> omega) _ | refine Below.drew ?_ | refine below_drewN ?_ _)))) hb'; clear hb'; obtain ⟨_, ⟨l0, c00, c01, c02⟩⟩ := id hS') | (go_at_call 21; (with_reducible refine (of_f (n + 146097) 0 0 0 2 _ hn2 hF).mono ?_); rintro e w' ⟨rfl, hb'⟩; have hS' := SCB.step (by first | assumption | (refine SCB.step (by assumption) ?_; (repeat (first | exact Below.refl _ _ | refine Below.setCell ?_ (by simp <;> omega) _ | refine Below.alloc ?_ (by simp <;> omega) _ | refine Below.drew ?_ | refine below_drewN ?_ _)))) hb'; clear hb'; obtain ⟨_, ⟨l0, c00, c01, c02⟩⟩ := id hS') | (go_at_call 34; (with_reducible refine (week_c _ _ (by omega)).mono ?_); rintro e w' ⟨rfl, hb'⟩; have hS' := SCB.step (by first | assumption | (refine SCB.step (by assumption) ?_; (repeat (first | exact Below.refl _ _ | refine Below.setCell ?_ (by simp <;> omega) _ | refine Below.alloc ?_ (by simp <;> omega) _ | refine Below.drew ?_ | refine below_drewN ?_ _)))) hb'; clear hb'; obtain ⟨_, ⟨l0, c00, c01, c02⟩⟩ := id hS') | (go_at_call 19; (with_reducible refine (sure07 _ (Held.handle (w0 := w) (by first | exact And.left (by assumption) | (refine Held.step (And.left (by assumption)) ?_; (repeat (first | exact Below.refl _ _ | refine Below.setCell ?_ (by simp <;> omega) _ | refine Below.alloc ?_ (by simp <;> omega) _ | refine Below.drew ?_ | refine below_drewN ?_ _))))) (ht.below (Held.below (w0 := w) (by first | exact And.left (by assumption) | (refine Held.step (And.left (by assumption)) ?_; (repeat (first | exact Below.refl _ _ | refine Below.setCell ?_ (by simp <;> omega) _ | refine Below.alloc ?_ (by simp <;> omega) _ | refine Below.drew ?_ | refine below_drewN ?_ _))))))).mono ?_); rintro e w' ⟨rfl, hb'⟩; have hS' := SCB.step (by first | assumption | (refine SCB.step (by assumption) ?_; (repeat (first | exact Below.refl _ _ | refine Below.setCell ?_ (by simp <;> omega) _ | refine Below.alloc ?_ (by simp <;> omega) _ | refine Below.drew ?_ | refine below_drewN ?_ _)))) hb'; clear hb'; obtain ⟨_, ⟨l0, c00, c01, c02⟩⟩ := id hS'))
  go_quiet ((go_at_call 22; exact Calls.quiet_of_same ((month_c _ _ _ (by omega) (by omega)).mono fun _ _ ⟨a, b⟩ => ⟨a, b.symm⟩)))
  all_goals go_wp2_with (first | (go_at_call 20; (with_reducible refine (days_ok _ _ _ _ pb1 pb2 pb3 pM).mono ?_); rintro e w' ⟨rfl, hb'⟩; have hS' := SCB.step (by first | assumption | (refine SCB.step (by assumption) ?_; (repeat (first | exact Below.refl _ _ | refine Below.setCell ?_ (by simp <;> omega) _ | refine Below.alloc ?_ (by simp <;> omega) _ | refine Below.drew ?_ | refine below_drewN ?_ _)))) hb'; clear hb'; obtain ⟨_, ⟨l0, c00, c01, c02⟩⟩ := id hS') | (go_at_call 21; (with_reducible refine (of_f (n + 1) py (pm + 1) 1 0 _ hn1 hQ).mono ?_); rintro e w' ⟨rfl, hb'⟩; have hS' := SCB.step (by first | assumption | (refine SCB.step (by assumption) ?_; (repeat (first | exact Below.refl _ _ | refine Below.setCell ?_ (by simp <;> omega) _ | refine Below.alloc ?_ (by simp <;> omega) _ | refine Below.drew ?_ | refine below_drewN ?_ _)))) hb'; clear hb'; obtain ⟨_, ⟨l0, c00, c01, c02⟩⟩ := id hS') | (go_at_call 21; (with_reducible refine (of_f (n + 146097) 0 0 0 2 _ hn2 hF).mono ?_); rintro e w' ⟨rfl, hb'⟩; have hS' := SCB.step (by first | assumption | (refine SCB.step (by assumption) ?_; (repeat (first | exact Below.refl _ _ | refine Below.setCell ?_ (by simp <;> omega) _ | refine Below.alloc ?_ (by simp <;> omega) _ | refine Below.drew ?_ | refine below_drewN ?_ _)))) hb'; clear hb'; obtain ⟨_, ⟨l0, c00, c01, c02⟩⟩ := id hS') | (go_at_call 34; (with_reducible refine (week_c _ _ (by omega)).mono ?_); rintro e w' ⟨rfl, hb'⟩; have hS' := SCB.step (by first | assumption | (refine SCB.step (by assumption) ?_; (repeat (first | exact Below.refl _ _ | refine Below.setCell ?_ (by simp <;> omega) _ | refine Below.alloc ?_ (by simp <;> omega) _ | refine Below.drew ?_ | refine below_drewN ?_ _)))) hb'; clear hb'; obtain ⟨_, ⟨l0, c00, c01, c02⟩⟩ := id hS') | (go_at_call 19; (with_reducible refine (sure07 _ (Held.handle (w0 := w) (by first | exact And.left (by assumption) | (refine Held.step (And.left (by assumption)) ?_; (repeat (first | exact Below.refl _ _ | refine Below.setCell ?_ (by simp <;> omega) _ | refine Below.alloc ?_ (by simp <;> omega) _ | refine Below.drew ?_ | refine below_drewN ?_ _))))) (ht.below (Held.below (w0 := w) (by first | exact And.left (by assumption) | (refine Held.step (And.left (by assumption)) ?_; (repeat (first | exact Below.refl _ _ | refine Below.setCell ?_ (by simp <;> omega) _ | refine Below.alloc ?_ (by simp <;> omega) _ | refine Below.drew ?_ | refine below_drewN ?_ _))))))).mono ?_); rintro e w' ⟨rfl, hb'⟩; have hS' := SCB.step (by first | assumption | (refine SCB.step (by assumption) ?_; (repeat (first | exact Below.refl _ _ | refine Below.setCell ?_ (by simp <;> omega) _ | refine Below.alloc ?_ (by simp <;> omega) _ | refine Below.drew ?_ | refine below_drewN ?_ _)))) hb'; clear hb'; obtain ⟨_, ⟨l0, c00, c01, c02⟩⟩ := id hS'))
  all_goals go_ret
  all_goals exact ⟨rfl, Held.below (w0 := w) (And.left (by assumption))⟩
set_option maxRecDepth 100000 in
set_option maxHeartbeats 16000000 in
theorem cback_may_31 (y m d n : Int) (hy : InR y) (hm : InR m) (hd : InR d) (hn : InR n) (hM : Cal.may y m d) (py pd : Int) (pM : Cal.may py 12 pd) (pN : Cal.num py 12 pd = n) (hx : pd = Cal.dim py 12) (hQ : IsOf (n + 1) (py + 1) 1 1 0) (hF : IsOf (n + 146097) (py + 400) 12 pd 0) (w : World) (hg : w.cell? ⟨0, 0, none⟩ = some asHandle) (ht : Tab w) :
    Calls Tryd.prog 5 #[.agg #[.int .i64 y, .int .i64 m, .int .i64 d], .int .i64 n] w fun e w' => e = .returned (.bool true) ∧ Below w.heap.size w w' := by
  have hH := Held.start hg
  have hO : IsOf (Cal.num y m d) y m d 0 := Or.inl ⟨rfl, hM, rfl⟩
  have hb0 := Cal.may_num _ _ _ hM
  have hnum : InR (Cal.num y m d) := by omega
  have hsz : (⟨(dateL y m d).toArray⟩ : ByteArray).size ≤ 9223372036854775807 := by show (dateL y m d).length ≤ _; unfold dateL; simp [Dig.digs_length]
  have pb := Cal.may_num _ _ _ pM
  rw [pN] at pb
  have hP : IsOf n py 12 pd 0 := Or.inl ⟨rfl, pM, pN⟩
  have hn1 : InR (n + 1) := by omega
  have hn2 : InR (n + 146097) := by omega
  obtain ⟨p1, p2, p3, p4, p5, p6⟩ := id pM
  have pdl := Cal.dim_lo py 12
  have pb1 : InR py := by omega
  have pb2 : InR 12 := by omega
  have pb3 : InR pd := by omega
  have k1 := wd_next n
  have k2 := wd_far n
  have k3 := wd_bd n
  have e0 := errOf_zero
  have e2 := errOf_ne (by decide : ¬ (2 : Int) = 0)
  have hx0 : pd ≤ Cal.dim py 12 ∧ Cal.dim py 12 ≤ pd := by omega
  clear hx
  go_enter Tryd.func5, Tryd.ntmps5
  go_wp2_with (fail)
  go_at_call 26
  (with_reducible refine (check_ok _ _ _ _ hy hm hd hM).mono ?_)
  rintro e w1 ⟨rfl, HB⟩
  obtain ⟨hc1, hf1⟩ := bcell HB
  obtain ⟨hd1, hh1⟩ := bcell2 (U := w) (by repeat (first | exact Below.refl _ _ | refine Below.setCell ?_ (by simp <;> omega) _ | refine Below.alloc ?_ (by simp <;> omega) _ | refine Below.drew ?_)) HB
  have hz1 := HB.size
  try simp at hz1
  (try (have z1w0 : w.heap.size < w1.heap.size := (by omega)))
  (try (have z1w1 : w.heap.size + 1 < w1.heap.size := (by omega)))
  have hH1 := Held.step (w0 := w) (by repeat (first | assumption | refine Held.alloc ?_ _ | refine Held.drew ?_)) HB
  clear HB
  go_wp2_with (fail)
  go_at_call 20
  (with_reducible refine (days_ok _ _ _ _ hy hm hd hM).mono ?_)
  rintro e w2 ⟨rfl, HB⟩
  obtain ⟨hc2, hf2⟩ := bcell HB
  obtain ⟨hd2, hh2⟩ := bcell2 (U := w1) (by repeat (first | exact Below.refl _ _ | refine Below.setCell ?_ (by simp <;> omega) _ | refine Below.alloc ?_ (by simp <;> omega) _ | refine Below.drew ?_)) HB
  have hz2 := HB.size
  try simp at hz2
  (try (have z2w0 : w.heap.size < w2.heap.size := (by omega)))
  (try (have z2w1 : w.heap.size + 1 < w2.heap.size := (by omega)))
  (try (have z2w10 : w1.heap.size < w2.heap.size := (by omega)))
  (try (have z2w11 : w1.heap.size + 1 < w2.heap.size := (by omega)))
  have hH2 := Held.step (w0 := w) (by repeat (first | assumption | refine Held.alloc ?_ _ | refine Held.drew ?_)) HB
  clear HB
  go_wp2_with (fail)
  go_at_call 21
  (with_reducible refine (of_f _ y m d 0 _ hnum hO).mono ?_)
  rintro e w3 ⟨rfl, HB⟩
  obtain ⟨hc3, hf3⟩ := bcell HB
  obtain ⟨hd3, hh3⟩ := bcell2 (U := w2) (by repeat (first | exact Below.refl _ _ | refine Below.setCell ?_ (by simp <;> omega) _ | refine Below.alloc ?_ (by simp <;> omega) _ | refine Below.drew ?_)) HB
  have hz3 := HB.size
  try simp at hz3
  (try (have z3w0 : w.heap.size < w3.heap.size := (by omega)))
  (try (have z3w1 : w.heap.size + 1 < w3.heap.size := (by omega)))
  (try (have z3w10 : w1.heap.size < w3.heap.size := (by omega)))
  (try (have z3w11 : w1.heap.size + 1 < w3.heap.size := (by omega)))
  (try (have z3w20 : w2.heap.size < w3.heap.size := (by omega)))
  (try (have z3w21 : w2.heap.size + 1 < w3.heap.size := (by omega)))
  have hH3 := Held.step (w0 := w) (by repeat (first | assumption | refine Held.alloc ?_ _ | refine Held.drew ?_)) HB
  clear HB
  rw [errOf_zero]
  have t3 : Tab w3 := ht.below (Held.below hH3)
  go_wp2_with (fail)
  go_at_call 30
  (with_reducible refine (text_ok _ _ _ _ (Held.handle (w0 := w) (by repeat (first | assumption | refine Held.alloc ?_ _ | refine Held.drew ?_))) (t3.below ((Below.refl _ _).alloc (Nat.le_refl _) _)) hM).mono ?_)
  rintro e w4 ⟨rfl, HB⟩
  obtain ⟨hc4, hf4⟩ := bcell HB
  obtain ⟨hd4, hh4⟩ := bcell2 (U := w3) (by repeat (first | exact Below.refl _ _ | refine Below.setCell ?_ (by simp <;> omega) _ | refine Below.alloc ?_ (by simp <;> omega) _ | refine Below.drew ?_)) HB
  have hz4 := HB.size
  try simp at hz4
  (try (have z4w0 : w.heap.size < w4.heap.size := (by omega)))
  (try (have z4w1 : w.heap.size + 1 < w4.heap.size := (by omega)))
  (try (have z4w10 : w1.heap.size < w4.heap.size := (by omega)))
  (try (have z4w11 : w1.heap.size + 1 < w4.heap.size := (by omega)))
  (try (have z4w20 : w2.heap.size < w4.heap.size := (by omega)))
  (try (have z4w21 : w2.heap.size + 1 < w4.heap.size := (by omega)))
  (try (have z4w30 : w3.heap.size < w4.heap.size := (by omega)))
  (try (have z4w31 : w3.heap.size + 1 < w4.heap.size := (by omega)))
  have hH4 := Held.step (w0 := w) (by repeat (first | assumption | refine Held.alloc ?_ _ | refine Held.drew ?_)) HB
  clear HB
  go_wp2_with (fail)
  go_at_call 31
  (with_reducible refine (parse_f _ y m d 0 _ hsz (isParse_date hM)).mono ?_)
  rintro e w5 ⟨rfl, HB⟩
  obtain ⟨hc5, hf5⟩ := bcell HB
  obtain ⟨hd5, hh5⟩ := bcell2 (U := w4) (by repeat (first | exact Below.refl _ _ | refine Below.setCell ?_ (by simp <;> omega) _ | refine Below.alloc ?_ (by simp <;> omega) _ | refine Below.drew ?_)) HB
  have hz5 := HB.size
  try simp at hz5
  (try (have z5w0 : w.heap.size < w5.heap.size := (by omega)))
  (try (have z5w1 : w.heap.size + 1 < w5.heap.size := (by omega)))
  (try (have z5w10 : w1.heap.size < w5.heap.size := (by omega)))
  (try (have z5w11 : w1.heap.size + 1 < w5.heap.size := (by omega)))
  (try (have z5w20 : w2.heap.size < w5.heap.size := (by omega)))
  (try (have z5w21 : w2.heap.size + 1 < w5.heap.size := (by omega)))
  (try (have z5w30 : w3.heap.size < w5.heap.size := (by omega)))
  (try (have z5w31 : w3.heap.size + 1 < w5.heap.size := (by omega)))
  (try (have z5w40 : w4.heap.size < w5.heap.size := (by omega)))
  (try (have z5w41 : w4.heap.size + 1 < w5.heap.size := (by omega)))
  have hH5 := Held.step (w0 := w) (by repeat (first | assumption | refine Held.alloc ?_ _ | refine Held.drew ?_)) HB
  clear HB
  rw [errOf_zero]
  go_wp2_with (fail)
  go_at_call 21
  (with_reducible refine (of_f _ py 12 pd 0 _ hn hP).mono ?_)
  rintro e w6 ⟨rfl, HB⟩
  obtain ⟨hc6, hf6⟩ := bcell HB
  obtain ⟨hd6, hh6⟩ := bcell2 (U := w5) (by repeat (first | exact Below.refl _ _ | refine Below.setCell ?_ (by simp <;> omega) _ | refine Below.alloc ?_ (by simp <;> omega) _ | refine Below.drew ?_)) HB
  have hz6 := HB.size
  try simp at hz6
  (try (have z6w0 : w.heap.size < w6.heap.size := (by omega)))
  (try (have z6w1 : w.heap.size + 1 < w6.heap.size := (by omega)))
  (try (have z6w10 : w1.heap.size < w6.heap.size := (by omega)))
  (try (have z6w11 : w1.heap.size + 1 < w6.heap.size := (by omega)))
  (try (have z6w20 : w2.heap.size < w6.heap.size := (by omega)))
  (try (have z6w21 : w2.heap.size + 1 < w6.heap.size := (by omega)))
  (try (have z6w30 : w3.heap.size < w6.heap.size := (by omega)))
  (try (have z6w31 : w3.heap.size + 1 < w6.heap.size := (by omega)))
  (try (have z6w40 : w4.heap.size < w6.heap.size := (by omega)))
  (try (have z6w41 : w4.heap.size + 1 < w6.heap.size := (by omega)))
  (try (have z6w50 : w5.heap.size < w6.heap.size := (by omega)))
  (try (have z6w51 : w5.heap.size + 1 < w6.heap.size := (by omega)))
  have hH6 := Held.step (w0 := w) (by repeat (first | assumption | refine Held.alloc ?_ _ | refine Held.drew ?_)) HB
  clear HB
  rw [errOf_zero]
  have hS0 : SCB w (w6.heap.size) (.int .i64 py) (.int .i64 12) (.int .i64 pd) (w6.alloc (.cells #[.int .i64 py, .int .i64 12, .int .i64 pd] 26)) := ⟨Held.alloc hH6 _, ⟨by simp <;> omega, by go_simp, by go_simp, by go_simp⟩⟩
  go_wp2_with (first | (go_at_call 20; (with_reducible refine (days_ok _ _ _ _ pb1 pb2 pb3 pM).mono ?_); rintro e w' ⟨rfl, hb'⟩; have hS' := SCB.step (by first | assumption | (refine SCB.step (by assumption) ?_; (repeat (first | exact Below.refl _ _ | refine Below.setCell ?_ (by simp <;> omega) _ | refine Below.alloc ?_ (by simp <;> omega) _ | refine Below.drew ?_ | refine below_drewN ?_ _)))) hb'; clear hb'; obtain ⟨_, ⟨l0, c00, c01, c02⟩⟩ := id hS') | (go_at_call 21; (with_reducible refine (of_f (n + 1) (py + 1) 1 1 0 _ hn1 hQ).mono ?_); rintro e w' ⟨rfl, hb'⟩; have hS' := SCB.step (by first | assumption | (refine SCB.step (by assumption) ?_; (repeat (first | exact Below.refl _ _ | refine Below.setCell ?_ (by simp <;> omega) _ | refine Below.alloc ?_ (by simp <;> omega) _ | refine Below.drew ?_ | refine below_drewN ?_ _)))) hb'; clear hb'; obtain ⟨_, ⟨l0, c00, c01, c02⟩⟩ := id hS') | (go_at_call 21; (with_reducible refine (of_f (n + 146097) (py + 400) 12 pd 0 _ hn2 hF).mono ?_); rintro e w' ⟨rfl, hb'⟩; have hS' := SCB.step (by first | assumption | (refine SCB.step (by assumption) ?_; (repeat (first | exact Below.refl _ _ | refine Below.setCell ?_ (by simp <;> omega) _ | refine Below.alloc ?_ (by simp <;> omega) _ | refine Below.drew ?_ | refine below_drewN ?_ _)))) hb'; clear hb'; obtain ⟨_, ⟨l0, c00, c01, c02⟩⟩ := id hS') | (go_at_call 34; (with_reducible refine (week_c _ _ (by omega)).mono ?_); rintro e w' ⟨rfl, hb'⟩; have hS' := SCB.step (by first | assumption | (refine SCB.step (by assumption) ?_; (repeat (first | exact Below.refl _ _ | refine Below.setCell ?_ (by simp <;> omega) _ | refine Below.alloc ?_ (by simp <;> omega) _ | refine Below.drew ?_ | refine below_drewN ?_ _)))) hb'; clear hb'; obtain ⟨_, ⟨l0, c00, c01, c02⟩⟩ := id hS') | (go_at_call 19; (with_reducible refine (sure07 _ (Held.handle (w0 := w) (by first | exact And.left (by assumption) | (refine Held.step (And.left (by assumption)) ?_; (repeat (first | exact Below.refl _ _ | refine Below.setCell ?_ (by simp <;> omega) _ | refine Below.alloc ?_ (by simp <;> omega) _ | refine Below.drew ?_ | refine below_drewN ?_ _))))) (ht.below (Held.below (w0 := w) (by first | exact And.left (by assumption) | (refine Held.step (And.left (by assumption)) ?_; (repeat (first | exact Below.refl _ _ | refine Below.setCell ?_ (by simp <;> omega) _ | refine Below.alloc ?_ (by simp <;> omega) _ | refine Below.drew ?_ | refine below_drewN ?_ _))))))).mono ?_); rintro e w' ⟨rfl, hb'⟩; have hS' := SCB.step (by first | assumption | (refine SCB.step (by assumption) ?_; (repeat (first | exact Below.refl _ _ | refine Below.setCell ?_ (by simp <;> omega) _ | refine Below.alloc ?_ (by simp <;> omega) _ | refine Below.drew ?_ | refine below_drewN ?_ _)))) hb'; clear hb'; obtain ⟨_, ⟨l0, c00, c01, c02⟩⟩ := id hS'))
  go_quiet ((go_at_call 22; exact Calls.quiet_of_same ((month_c _ _ _ (by omega) (by omega)).mono fun _ _ ⟨a, b⟩ => ⟨a, b.symm⟩)))
  go_upto_region 22 with (fail)
  have hw9 : w.heap.size ≤ w'.heap.size := (Held.below (And.left hS')).size
  have hRN : R3 (w'.heap.size + 1) (.int .i64 py) (.int .i64 12) (.int .i64 (pd + 1)) (((w'.alloc (.cells #[.int .i64 (py + 1), .int .i64 1, .int .i64 1] 26)).alloc (.cells #[.int .i64 py, .int .i64 12, .int .i64 (pd + 1)] 26)).drewN nq) := ⟨by simp, by go_simp, by go_simp, by go_simp, by go_simp, by go_simp, by go_simp⟩
  have hRP : B3 w6.heap.size (.int .i64 py) (.int .i64 12) (.int .i64 pd) (((w'.alloc (.cells #[.int .i64 (py + 1), .int .i64 1, .int .i64 1] 26)).alloc (.cells #[.int .i64 py, .int .i64 12, .int .i64 (pd + 1)] 26)).drewN nq) := ⟨by simp; omega, by go_simp, by go_simp, by go_simp⟩
  have hRQ : B3 w'.heap.size (.int .i64 (py + 1)) (.int .i64 1) (.int .i64 1) (((w'.alloc (.cells #[.int .i64 (py + 1), .int .i64 1, .int .i64 1] 26)).alloc (.cells #[.int .i64 py, .int .i64 12, .int .i64 (pd + 1)] 26)).drewN nq) := ⟨by simp; try omega, by go_simp, by go_simp, by go_simp⟩
  have hHX : Held w (((w'.alloc (.cells #[.int .i64 (py + 1), .int .i64 1, .int .i64 1] 26)).alloc (.cells #[.int .i64 py, .int .i64 12, .int .i64 (pd + 1)] 26)).drewN nq) := Held.drewN (Held.alloc (Held.alloc (And.left hS') _) _) nq
  have h9N := (hRN.set (.int .i64 py) (.int .i64 13) (.int .i64 1)).set (.int .i64 (py + 1)) (.int .i64 1) (.int .i64 1)
  have h9P := (hRP.set (b := w'.heap.size + 1) (by omega) (.int .i64 py) (.int .i64 13) (.int .i64 1)).set (b := w'.heap.size + 1) (by omega) (.int .i64 (py + 1)) (.int .i64 1) (.int .i64 1)
  have h9Q := (hRQ.set (b := w'.heap.size + 1) (by omega) (.int .i64 py) (.int .i64 13) (.int .i64 1)).set (b := w'.heap.size + 1) (by omega) (.int .i64 (py + 1)) (.int .i64 1) (.int .i64 1)
  have h9H := (hHX.set3 (b := w'.heap.size + 1) (by omega) (handle_lt hg) (.int .i64 py) (.int .i64 13) (.int .i64 1)).set3 (b := w'.heap.size + 1) (by omega) (handle_lt hg) (.int .i64 (py + 1)) (.int .i64 1) (.int .i64 1)
  obtain ⟨w9, hw9e⟩ : ∃ w9, w9 = ((((((((w'.alloc (.cells #[.int .i64 (py + 1), .int .i64 1, .int .i64 1] 26)).alloc (.cells #[.int .i64 py, .int .i64 12, .int .i64 (pd + 1)] 26)).drewN nq).setCell ⟨w'.heap.size + 1, 0, none⟩ (.int .i64 py)).setCell ⟨w'.heap.size + 1, 1, none⟩ (.int .i64 13)).setCell ⟨w'.heap.size + 1, 2, none⟩ (.int .i64 1)).setCell ⟨w'.heap.size + 1, 0, none⟩ (.int .i64 (py + 1))).setCell ⟨w'.heap.size + 1, 1, none⟩ (.int .i64 1)).setCell ⟨w'.heap.size + 1, 2, none⟩ (.int .i64 1) := ⟨_, rfl⟩
  rw [← hw9e] at h9N h9P h9Q h9H ⊢
  clear hw9e hRN hRP hRQ hHX
  have hS' : SCB w w6.heap.size (.int .i64 py) (.int .i64 12) (.int .i64 pd) w9 := ⟨h9H, h9P⟩
  obtain ⟨n0, n1, n2, n3, n4, n5, n6⟩ := h9N
  obtain ⟨m0, m1, m2, m3⟩ := h9P
  obtain ⟨o0, o1, o2, o3⟩ := h9Q
  all_goals go_wp2_with (first | (go_at_call 20; (with_reducible refine (days_ok _ _ _ _ pb1 pb2 pb3 pM).mono ?_); rintro e w' ⟨rfl, hb'⟩; have hS' := SCB.step (by first | assumption | (refine SCB.step (by assumption) ?_; (repeat (first | exact Below.refl _ _ | refine Below.setCell ?_ (by simp <;> omega) _ | refine Below.alloc ?_ (by simp <;> omega) _ | refine Below.drew ?_ | refine below_drewN ?_ _)))) hb'; clear hb'; obtain ⟨_, ⟨l0, c00, c01, c02⟩⟩ := id hS') | (go_at_call 21; (with_reducible refine (of_f (n + 1) (py + 1) 1 1 0 _ hn1 hQ).mono ?_); rintro e w' ⟨rfl, hb'⟩; have hS' := SCB.step (by first | assumption | (refine SCB.step (by assumption) ?_; (repeat (first | exact Below.refl _ _ | refine Below.setCell ?_ (by simp <;> omega) _ | refine Below.alloc ?_ (by simp <;> omega) _ | refine Below.drew ?_ | refine below_drewN ?_ _)))) hb'; clear hb'; obtain ⟨_, ⟨l0, c00, c01, c02⟩⟩ := id hS') | (go_at_call 21; (with_reducible refine (of_f (n + 146097) (py + 400) 12 pd 0 _ hn2 hF).mono ?_); rintro e w' ⟨rfl, hb'⟩; have hS' := SCB.step (by first | assumption | (refine SCB.step (by assumption) ?_; (repeat (first | exact Below.refl _ _ | refine Below.setCell ?_ (by simp <;> omega) _ | refine Below.alloc ?_ (by simp <;> omega) _ | refine Below.drew ?_ | refine below_drewN ?_ _)))) hb'; clear hb'; obtain ⟨_, ⟨l0, c00, c01, c02⟩⟩ := id hS') | (go_at_call 34; (with_reducible refine (week_c _ _ (by omega)).mono ?_); rintro e w' ⟨rfl, hb'⟩; have hS' := SCB.step (by first | assumption | (refine SCB.step (by assumption) ?_; (repeat (first | exact Below.refl _ _ | refine Below.setCell ?_ (by simp <;> omega) _ | refine Below.alloc ?_ (by simp <;> omega) _ | refine Below.drew ?_ | refine below_drewN ?_ _)))) hb'; clear hb'; obtain ⟨_, ⟨l0, c00, c01, c02⟩⟩ := id hS') | (go_at_call 19; (with_reducible refine (sure07 _ (Held.handle (w0 := w) (by first | exact And.left (by assumption) | (refine Held.step (And.left (by assumption)) ?_; (repeat (first | exact Below.refl _ _ | refine Below.setCell ?_ (by simp <;> omega) _ | refine Below.alloc ?_ (by simp <;> omega) _ | refine Below.drew ?_ | refine below_drewN ?_ _))))) (ht.below (Held.below (w0 := w) (by first | exact And.left (by assumption) | (refine Held.step (And.left (by assumption)) ?_; (repeat (first | exact Below.refl _ _ | refine Below.setCell ?_ (by simp <;> omega) _ | refine Below.alloc ?_ (by simp <;> omega) _ | refine Below.drew ?_ | refine below_drewN ?_ _))))))).mono ?_); rintro e w' ⟨rfl, hb'⟩; have hS' := SCB.step (by first | assumption | (refine SCB.step (by assumption) ?_; (repeat (first | exact Below.refl _ _ | refine Below.setCell ?_ (by simp <;> omega) _ | refine Below.alloc ?_ (by simp <;> omega) _ | refine Below.drew ?_ | refine below_drewN ?_ _)))) hb'; clear hb'; obtain ⟨_, ⟨l0, c00, c01, c02⟩⟩ := id hS'))
  all_goals go_ret
  all_goals exact ⟨rfl, Held.below (w0 := w) (And.left (by assumption))⟩
set_option maxRecDepth 100000 in
set_option maxHeartbeats 16000000 in
theorem cback_may_32 (y m d n : Int) (hy : InR y) (hm : InR m) (hd : InR d) (hn : InR n) (hM : Cal.may y m d) (py pd : Int) (pM : Cal.may py 12 pd) (pN : Cal.num py 12 pd = n) (hx : pd = Cal.dim py 12) (hQ : IsOf (n + 1) (py + 1) 1 1 0) (hF : IsOf (n + 146097) 0 0 0 2) (w : World) (hg : w.cell? ⟨0, 0, none⟩ = some asHandle) (ht : Tab w) :
    Calls Tryd.prog 5 #[.agg #[.int .i64 y, .int .i64 m, .int .i64 d], .int .i64 n] w fun e w' => e = .returned (.bool true) ∧ Below w.heap.size w w' := by
  have hH := Held.start hg
  have hO : IsOf (Cal.num y m d) y m d 0 := Or.inl ⟨rfl, hM, rfl⟩
  have hb0 := Cal.may_num _ _ _ hM
  have hnum : InR (Cal.num y m d) := by omega
  have hsz : (⟨(dateL y m d).toArray⟩ : ByteArray).size ≤ 9223372036854775807 := by show (dateL y m d).length ≤ _; unfold dateL; simp [Dig.digs_length]
  have pb := Cal.may_num _ _ _ pM
  rw [pN] at pb
  have hP : IsOf n py 12 pd 0 := Or.inl ⟨rfl, pM, pN⟩
  have hn1 : InR (n + 1) := by omega
  have hn2 : InR (n + 146097) := by omega
  obtain ⟨p1, p2, p3, p4, p5, p6⟩ := id pM
  have pdl := Cal.dim_lo py 12
  have pb1 : InR py := by omega
  have pb2 : InR 12 := by omega
  have pb3 : InR pd := by omega
  have k1 := wd_next n
  have k2 := wd_far n
  have k3 := wd_bd n
  have e0 := errOf_zero
  have e2 := errOf_ne (by decide : ¬ (2 : Int) = 0)
  have hx0 : pd ≤ Cal.dim py 12 ∧ Cal.dim py 12 ≤ pd := by omega
  clear hx
  go_enter Tryd.func5, Tryd.ntmps5
  go_wp2_with (fail)
  go_at_call 26
  (with_reducible refine (check_ok _ _ _ _ hy hm hd hM).mono ?_)
  rintro e w1 ⟨rfl, HB⟩
  obtain ⟨hc1, hf1⟩ := bcell HB
  obtain ⟨hd1, hh1⟩ := bcell2 (U := w) (by repeat (first | exact Below.refl _ _ | refine Below.setCell ?_ (by simp <;> omega) _ | refine Below.alloc ?_ (by simp <;> omega) _ | refine Below.drew ?_)) HB
  have hz1 := HB.size
  try simp at hz1
  (try (have z1w0 : w.heap.size < w1.heap.size := (by omega)))
  (try (have z1w1 : w.heap.size + 1 < w1.heap.size := (by omega)))
  have hH1 := Held.step (w0 := w) (by repeat (first | assumption | refine Held.alloc ?_ _ | refine Held.drew ?_)) HB
  clear HB
  go_wp2_with (fail)
  go_at_call 20
  (with_reducible refine (days_ok _ _ _ _ hy hm hd hM).mono ?_)
  rintro e w2 ⟨rfl, HB⟩
  obtain ⟨hc2, hf2⟩ := bcell HB
  obtain ⟨hd2, hh2⟩ := bcell2 (U := w1) (by repeat (first | exact Below.refl _ _ | refine Below.setCell ?_ (by simp <;> omega) _ | refine Below.alloc ?_ (by simp <;> omega) _ | refine Below.drew ?_)) HB
  have hz2 := HB.size
  try simp at hz2
  (try (have z2w0 : w.heap.size < w2.heap.size := (by omega)))
  (try (have z2w1 : w.heap.size + 1 < w2.heap.size := (by omega)))
  (try (have z2w10 : w1.heap.size < w2.heap.size := (by omega)))
  (try (have z2w11 : w1.heap.size + 1 < w2.heap.size := (by omega)))
  have hH2 := Held.step (w0 := w) (by repeat (first | assumption | refine Held.alloc ?_ _ | refine Held.drew ?_)) HB
  clear HB
  go_wp2_with (fail)
  go_at_call 21
  (with_reducible refine (of_f _ y m d 0 _ hnum hO).mono ?_)
  rintro e w3 ⟨rfl, HB⟩
  obtain ⟨hc3, hf3⟩ := bcell HB
  obtain ⟨hd3, hh3⟩ := bcell2 (U := w2) (by repeat (first | exact Below.refl _ _ | refine Below.setCell ?_ (by simp <;> omega) _ | refine Below.alloc ?_ (by simp <;> omega) _ | refine Below.drew ?_)) HB
  have hz3 := HB.size
  try simp at hz3
  (try (have z3w0 : w.heap.size < w3.heap.size := (by omega)))
  (try (have z3w1 : w.heap.size + 1 < w3.heap.size := (by omega)))
  (try (have z3w10 : w1.heap.size < w3.heap.size := (by omega)))
  (try (have z3w11 : w1.heap.size + 1 < w3.heap.size := (by omega)))
  (try (have z3w20 : w2.heap.size < w3.heap.size := (by omega)))
  (try (have z3w21 : w2.heap.size + 1 < w3.heap.size := (by omega)))
  have hH3 := Held.step (w0 := w) (by repeat (first | assumption | refine Held.alloc ?_ _ | refine Held.drew ?_)) HB
  clear HB
  rw [errOf_zero]
  have t3 : Tab w3 := ht.below (Held.below hH3)
  go_wp2_with (fail)
  go_at_call 30
  (with_reducible refine (text_ok _ _ _ _ (Held.handle (w0 := w) (by repeat (first | assumption | refine Held.alloc ?_ _ | refine Held.drew ?_))) (t3.below ((Below.refl _ _).alloc (Nat.le_refl _) _)) hM).mono ?_)
  rintro e w4 ⟨rfl, HB⟩
  obtain ⟨hc4, hf4⟩ := bcell HB
  obtain ⟨hd4, hh4⟩ := bcell2 (U := w3) (by repeat (first | exact Below.refl _ _ | refine Below.setCell ?_ (by simp <;> omega) _ | refine Below.alloc ?_ (by simp <;> omega) _ | refine Below.drew ?_)) HB
  have hz4 := HB.size
  try simp at hz4
  (try (have z4w0 : w.heap.size < w4.heap.size := (by omega)))
  (try (have z4w1 : w.heap.size + 1 < w4.heap.size := (by omega)))
  (try (have z4w10 : w1.heap.size < w4.heap.size := (by omega)))
  (try (have z4w11 : w1.heap.size + 1 < w4.heap.size := (by omega)))
  (try (have z4w20 : w2.heap.size < w4.heap.size := (by omega)))
  (try (have z4w21 : w2.heap.size + 1 < w4.heap.size := (by omega)))
  (try (have z4w30 : w3.heap.size < w4.heap.size := (by omega)))
  (try (have z4w31 : w3.heap.size + 1 < w4.heap.size := (by omega)))
  have hH4 := Held.step (w0 := w) (by repeat (first | assumption | refine Held.alloc ?_ _ | refine Held.drew ?_)) HB
  clear HB
  go_wp2_with (fail)
  go_at_call 31
  (with_reducible refine (parse_f _ y m d 0 _ hsz (isParse_date hM)).mono ?_)
  rintro e w5 ⟨rfl, HB⟩
  obtain ⟨hc5, hf5⟩ := bcell HB
  obtain ⟨hd5, hh5⟩ := bcell2 (U := w4) (by repeat (first | exact Below.refl _ _ | refine Below.setCell ?_ (by simp <;> omega) _ | refine Below.alloc ?_ (by simp <;> omega) _ | refine Below.drew ?_)) HB
  have hz5 := HB.size
  try simp at hz5
  (try (have z5w0 : w.heap.size < w5.heap.size := (by omega)))
  (try (have z5w1 : w.heap.size + 1 < w5.heap.size := (by omega)))
  (try (have z5w10 : w1.heap.size < w5.heap.size := (by omega)))
  (try (have z5w11 : w1.heap.size + 1 < w5.heap.size := (by omega)))
  (try (have z5w20 : w2.heap.size < w5.heap.size := (by omega)))
  (try (have z5w21 : w2.heap.size + 1 < w5.heap.size := (by omega)))
  (try (have z5w30 : w3.heap.size < w5.heap.size := (by omega)))
  (try (have z5w31 : w3.heap.size + 1 < w5.heap.size := (by omega)))
  (try (have z5w40 : w4.heap.size < w5.heap.size := (by omega)))
  (try (have z5w41 : w4.heap.size + 1 < w5.heap.size := (by omega)))
  have hH5 := Held.step (w0 := w) (by repeat (first | assumption | refine Held.alloc ?_ _ | refine Held.drew ?_)) HB
  clear HB
  rw [errOf_zero]
  go_wp2_with (fail)
  go_at_call 21
  (with_reducible refine (of_f _ py 12 pd 0 _ hn hP).mono ?_)
  rintro e w6 ⟨rfl, HB⟩
  obtain ⟨hc6, hf6⟩ := bcell HB
  obtain ⟨hd6, hh6⟩ := bcell2 (U := w5) (by repeat (first | exact Below.refl _ _ | refine Below.setCell ?_ (by simp <;> omega) _ | refine Below.alloc ?_ (by simp <;> omega) _ | refine Below.drew ?_)) HB
  have hz6 := HB.size
  try simp at hz6
  (try (have z6w0 : w.heap.size < w6.heap.size := (by omega)))
  (try (have z6w1 : w.heap.size + 1 < w6.heap.size := (by omega)))
  (try (have z6w10 : w1.heap.size < w6.heap.size := (by omega)))
  (try (have z6w11 : w1.heap.size + 1 < w6.heap.size := (by omega)))
  (try (have z6w20 : w2.heap.size < w6.heap.size := (by omega)))
  (try (have z6w21 : w2.heap.size + 1 < w6.heap.size := (by omega)))
  (try (have z6w30 : w3.heap.size < w6.heap.size := (by omega)))
  (try (have z6w31 : w3.heap.size + 1 < w6.heap.size := (by omega)))
  (try (have z6w40 : w4.heap.size < w6.heap.size := (by omega)))
  (try (have z6w41 : w4.heap.size + 1 < w6.heap.size := (by omega)))
  (try (have z6w50 : w5.heap.size < w6.heap.size := (by omega)))
  (try (have z6w51 : w5.heap.size + 1 < w6.heap.size := (by omega)))
  have hH6 := Held.step (w0 := w) (by repeat (first | assumption | refine Held.alloc ?_ _ | refine Held.drew ?_)) HB
  clear HB
  rw [errOf_zero]
  have hS0 : SCB w (w6.heap.size) (.int .i64 py) (.int .i64 12) (.int .i64 pd) (w6.alloc (.cells #[.int .i64 py, .int .i64 12, .int .i64 pd] 26)) := ⟨Held.alloc hH6 _, ⟨by simp <;> omega, by go_simp, by go_simp, by go_simp⟩⟩
  go_wp2_with (first | (go_at_call 20; (with_reducible refine (days_ok _ _ _ _ pb1 pb2 pb3 pM).mono ?_); rintro e w' ⟨rfl, hb'⟩; have hS' := SCB.step (by first | assumption | (refine SCB.step (by assumption) ?_; (repeat (first | exact Below.refl _ _ | refine Below.setCell ?_ (by simp <;> omega) _ | refine Below.alloc ?_ (by simp <;> omega) _ | refine Below.drew ?_ | refine below_drewN ?_ _)))) hb'; clear hb'; obtain ⟨_, ⟨l0, c00, c01, c02⟩⟩ := id hS') | (go_at_call 21; (with_reducible refine (of_f (n + 1) (py + 1) 1 1 0 _ hn1 hQ).mono ?_); rintro e w' ⟨rfl, hb'⟩; have hS' := SCB.step (by first | assumption | (refine SCB.step (by assumption) ?_; (repeat (first | exact Below.refl _ _ | refine Below.setCell ?_ (by simp <;> omega) _ | refine Below.alloc ?_ (by simp <;> omega) _ | refine Below.drew ?_ | refine below_drewN ?_ _)))) hb'; clear hb'; obtain ⟨_, ⟨l0, c00, c01, c02⟩⟩ := id hS') | (go_at_call 21; (with_reducible refine (of_f (n + 146097) 0 0 0 2 _ hn2 hF).mono ?_); rintro e w' ⟨rfl, hb'⟩; have hS' := SCB.step (by first | assumption | (refine SCB.step (by assumption) ?_; (repeat (first | exact Below.refl _ _ | refine Below.setCell ?_ (by simp <;> omega) _ | refine Below.alloc ?_ (by simp <;> omega) _ | refine Below.drew ?_ | refine below_drewN ?_ _)))) hb'; clear hb'; obtain ⟨_, ⟨l0, c00, c01, c02⟩⟩ := id hS') | (go_at_call 34; (with_reducible refine (week_c _ _ (by omega)).mono ?_); rintro e w' ⟨rfl, hb'⟩; have hS' := SCB.step (by first | assumption | (refine SCB.step (by assumption) ?_; (repeat (first | exact Below.refl _ _ | refine Below.setCell ?_ (by simp <;> omega) _ | refine Below.alloc ?_ (by simp <;> omega) _ | refine Below.drew ?_ | refine below_drewN ?_ _)))) hb'; clear hb'; obtain ⟨_, ⟨l0, c00, c01, c02⟩⟩ := id hS') | (go_at_call 19; (with_reducible refine (sure07 _ (Held.handle (w0 := w) (by first | exact And.left (by assumption) | (refine Held.step (And.left (by assumption)) ?_; (repeat (first | exact Below.refl _ _ | refine Below.setCell ?_ (by simp <;> omega) _ | refine Below.alloc ?_ (by simp <;> omega) _ | refine Below.drew ?_ | refine below_drewN ?_ _))))) (ht.below (Held.below (w0 := w) (by first | exact And.left (by assumption) | (refine Held.step (And.left (by assumption)) ?_; (repeat (first | exact Below.refl _ _ | refine Below.setCell ?_ (by simp <;> omega) _ | refine Below.alloc ?_ (by simp <;> omega) _ | refine Below.drew ?_ | refine below_drewN ?_ _))))))).mono ?_); rintro e w' ⟨rfl, hb'⟩; have hS' := SCB.step (by first | assumption | (refine SCB.step (by assumption) ?_; (repeat (first | exact Below.refl _ _ | refine Below.setCell ?_ (by simp <;> omega) _ | refine Below.alloc ?_ (by simp <;> omega) _ | refine Below.drew ?_ | refine below_drewN ?_ _)))) hb'; clear hb'; obtain ⟨_, ⟨l0, c00, c01, c02⟩⟩ := id hS'))
  go_quiet ((go_at_call 22; exact Calls.quiet_of_same ((month_c _ _ _ (by omega) (by omega)).mono fun _ _ ⟨a, b⟩ => ⟨a, b.symm⟩)))
  go_upto_region 22 with (fail)
  have hw9 : w.heap.size ≤ w'.heap.size := (Held.below (And.left hS')).size
  have hRN : R3 (w'.heap.size + 1) (.int .i64 py) (.int .i64 12) (.int .i64 (pd + 1)) (((w'.alloc (.cells #[.int .i64 (py + 1), .int .i64 1, .int .i64 1] 26)).alloc (.cells #[.int .i64 py, .int .i64 12, .int .i64 (pd + 1)] 26)).drewN nq) := ⟨by simp, by go_simp, by go_simp, by go_simp, by go_simp, by go_simp, by go_simp⟩
  have hRP : B3 w6.heap.size (.int .i64 py) (.int .i64 12) (.int .i64 pd) (((w'.alloc (.cells #[.int .i64 (py + 1), .int .i64 1, .int .i64 1] 26)).alloc (.cells #[.int .i64 py, .int .i64 12, .int .i64 (pd + 1)] 26)).drewN nq) := ⟨by simp; omega, by go_simp, by go_simp, by go_simp⟩
  have hRQ : B3 w'.heap.size (.int .i64 (py + 1)) (.int .i64 1) (.int .i64 1) (((w'.alloc (.cells #[.int .i64 (py + 1), .int .i64 1, .int .i64 1] 26)).alloc (.cells #[.int .i64 py, .int .i64 12, .int .i64 (pd + 1)] 26)).drewN nq) := ⟨by simp; try omega, by go_simp, by go_simp, by go_simp⟩
  have hHX : Held w (((w'.alloc (.cells #[.int .i64 (py + 1), .int .i64 1, .int .i64 1] 26)).alloc (.cells #[.int .i64 py, .int .i64 12, .int .i64 (pd + 1)] 26)).drewN nq) := Held.drewN (Held.alloc (Held.alloc (And.left hS') _) _) nq
  have h9N := (hRN.set (.int .i64 py) (.int .i64 13) (.int .i64 1)).set (.int .i64 (py + 1)) (.int .i64 1) (.int .i64 1)
  have h9P := (hRP.set (b := w'.heap.size + 1) (by omega) (.int .i64 py) (.int .i64 13) (.int .i64 1)).set (b := w'.heap.size + 1) (by omega) (.int .i64 (py + 1)) (.int .i64 1) (.int .i64 1)
  have h9Q := (hRQ.set (b := w'.heap.size + 1) (by omega) (.int .i64 py) (.int .i64 13) (.int .i64 1)).set (b := w'.heap.size + 1) (by omega) (.int .i64 (py + 1)) (.int .i64 1) (.int .i64 1)
  have h9H := (hHX.set3 (b := w'.heap.size + 1) (by omega) (handle_lt hg) (.int .i64 py) (.int .i64 13) (.int .i64 1)).set3 (b := w'.heap.size + 1) (by omega) (handle_lt hg) (.int .i64 (py + 1)) (.int .i64 1) (.int .i64 1)
  obtain ⟨w9, hw9e⟩ : ∃ w9, w9 = ((((((((w'.alloc (.cells #[.int .i64 (py + 1), .int .i64 1, .int .i64 1] 26)).alloc (.cells #[.int .i64 py, .int .i64 12, .int .i64 (pd + 1)] 26)).drewN nq).setCell ⟨w'.heap.size + 1, 0, none⟩ (.int .i64 py)).setCell ⟨w'.heap.size + 1, 1, none⟩ (.int .i64 13)).setCell ⟨w'.heap.size + 1, 2, none⟩ (.int .i64 1)).setCell ⟨w'.heap.size + 1, 0, none⟩ (.int .i64 (py + 1))).setCell ⟨w'.heap.size + 1, 1, none⟩ (.int .i64 1)).setCell ⟨w'.heap.size + 1, 2, none⟩ (.int .i64 1) := ⟨_, rfl⟩
  rw [← hw9e] at h9N h9P h9Q h9H ⊢
  clear hw9e hRN hRP hRQ hHX
  have hS' : SCB w w6.heap.size (.int .i64 py) (.int .i64 12) (.int .i64 pd) w9 := ⟨h9H, h9P⟩
  obtain ⟨n0, n1, n2, n3, n4, n5, n6⟩ := h9N
  obtain ⟨m0, m1, m2, m3⟩ := h9P
  obtain ⟨o0, o1, o2, o3⟩ := h9Q
  all_goals go_wp2_with (first | (go_at_call 20; (with_reducible refine (days_ok _ _ _ _ pb1 pb2 pb3 pM).mono ?_); rintro e w' ⟨rfl, hb'⟩; have hS' := SCB.step (by first | assumption | (refine SCB.step (by assumption) ?_; (repeat (first | exact Below.refl _ _ | refine Below.setCell ?_ (by simp <;> omega) _ | refine Below.alloc ?_ (by simp <;> omega) _ | refine Below.drew ?_ | refine below_drewN ?_ _)))) hb'; clear hb'; obtain ⟨_, ⟨l0, c00, c01, c02⟩⟩ := id hS') | (go_at_call 21; (with_reducible refine (of_f (n + 1) (py + 1) 1 1 0 _ hn1 hQ).mono ?_); rintro e w' ⟨rfl, hb'⟩; have hS' := SCB.step (by first | assumption | (refine SCB.step (by assumption) ?_; (repeat (first | exact Below.refl _ _ | refine Below.setCell ?_ (by simp <;> omega) _ | refine Below.alloc ?_ (by simp <;> omega) _ | refine Below.drew ?_ | refine below_drewN ?_ _)))) hb'; clear hb'; obtain ⟨_, ⟨l0, c00, c01, c02⟩⟩ := id hS') | (go_at_call 21; (with_reducible refine (of_f (n + 146097) 0 0 0 2 _ hn2 hF).mono ?_); rintro e w' ⟨rfl, hb'⟩; have hS' := SCB.step (by first | assumption | (refine SCB.step (by assumption) ?_; (repeat (first | exact Below.refl _ _ | refine Below.setCell ?_ (by simp <;> omega) _ | refine Below.alloc ?_ (by simp <;> omega) _ | refine Below.drew ?_ | refine below_drewN ?_ _)))) hb'; clear hb'; obtain ⟨_, ⟨l0, c00, c01, c02⟩⟩ := id hS') | (go_at_call 34; (with_reducible refine (week_c _ _ (by omega)).mono ?_); rintro e w' ⟨rfl, hb'⟩; have hS' := SCB.step (by first | assumption | (refine SCB.step (by assumption) ?_; (repeat (first | exact Below.refl _ _ | refine Below.setCell ?_ (by simp <;> omega) _ | refine Below.alloc ?_ (by simp <;> omega) _ | refine Below.drew ?_ | refine below_drewN ?_ _)))) hb'; clear hb'; obtain ⟨_, ⟨l0, c00, c01, c02⟩⟩ := id hS') | (go_at_call 19; (with_reducible refine (sure07 _ (Held.handle (w0 := w) (by first | exact And.left (by assumption) | (refine Held.step (And.left (by assumption)) ?_; (repeat (first | exact Below.refl _ _ | refine Below.setCell ?_ (by simp <;> omega) _ | refine Below.alloc ?_ (by simp <;> omega) _ | refine Below.drew ?_ | refine below_drewN ?_ _))))) (ht.below (Held.below (w0 := w) (by first | exact And.left (by assumption) | (refine Held.step (And.left (by assumption)) ?_; (repeat (first | exact Below.refl _ _ | refine Below.setCell ?_ (by simp <;> omega) _ | refine Below.alloc ?_ (by simp <;> omega) _ | refine Below.drew ?_ | refine below_drewN ?_ _))))))).mono ?_); rintro e w' ⟨rfl, hb'⟩; have hS' := SCB.step (by first | assumption | (refine SCB.step (by assumption) ?_; (repeat (first | exact Below.refl _ _ | refine Below.setCell ?_ (by simp <;> omega) _ | refine Below.alloc ?_ (by simp <;> omega) _ | refine Below.drew ?_ | refine below_drewN ?_ _)))) hb'; clear hb'; obtain ⟨_, ⟨l0, c00, c01, c02⟩⟩ := id hS'))
  all_goals go_ret
  all_goals exact ⟨rfl, Held.below (w0 := w) (And.left (by assumption))⟩
set_option maxRecDepth 100000 in
set_option maxHeartbeats 16000000 in
theorem cback_may_42 (y m d n : Int) (hy : InR y) (hm : InR m) (hd : InR d) (hn : InR n) (hM : Cal.may y m d) (py pm pd : Int) (pM : Cal.may py pm pd) (pN : Cal.num py pm pd = n) (hQ : IsOf (n + 1) 0 0 0 2) (hF : IsOf (n + 146097) 0 0 0 2) (w : World) (hg : w.cell? ⟨0, 0, none⟩ = some asHandle) (ht : Tab w) :
    Calls Tryd.prog 5 #[.agg #[.int .i64 y, .int .i64 m, .int .i64 d], .int .i64 n] w fun e w' => e = .returned (.bool true) ∧ Below w.heap.size w w' := by
  have hH := Held.start hg
  have hO : IsOf (Cal.num y m d) y m d 0 := Or.inl ⟨rfl, hM, rfl⟩
  have hb0 := Cal.may_num _ _ _ hM
  have hnum : InR (Cal.num y m d) := by omega
  have hsz : (⟨(dateL y m d).toArray⟩ : ByteArray).size ≤ 9223372036854775807 := by show (dateL y m d).length ≤ _; unfold dateL; simp [Dig.digs_length]
  have pb := Cal.may_num _ _ _ pM
  rw [pN] at pb
  have hP : IsOf n py pm pd 0 := Or.inl ⟨rfl, pM, pN⟩
  have hn1 : InR (n + 1) := by omega
  have hn2 : InR (n + 146097) := by omega
  obtain ⟨p1, p2, p3, p4, p5, p6⟩ := id pM
  have pdl := Cal.dim_lo py pm
  have pb1 : InR py := by omega
  have pb2 : InR pm := by omega
  have pb3 : InR pd := by omega
  have k1 := wd_next n
  have k2 := wd_far n
  have k3 := wd_bd n
  have e0 := errOf_zero
  have e2 := errOf_ne (by decide : ¬ (2 : Int) = 0)
  go_enter Tryd.func5, Tryd.ntmps5
  go_wp2_with (fail)
  go_at_call 26
  (with_reducible refine (check_ok _ _ _ _ hy hm hd hM).mono ?_)
  rintro e w1 ⟨rfl, HB⟩
  obtain ⟨hc1, hf1⟩ := bcell HB
  obtain ⟨hd1, hh1⟩ := bcell2 (U := w) (by repeat (first | exact Below.refl _ _ | refine Below.setCell ?_ (by simp <;> omega) _ | refine Below.alloc ?_ (by simp <;> omega) _ | refine Below.drew ?_)) HB
  have hz1 := HB.size
  try simp at hz1
  (try (have z1w0 : w.heap.size < w1.heap.size := (by omega)))
  (try (have z1w1 : w.heap.size + 1 < w1.heap.size := (by omega)))
  have hH1 := Held.step (w0 := w) (by repeat (first | assumption | refine Held.alloc ?_ _ | refine Held.drew ?_)) HB
  clear HB
  go_wp2_with (fail)
  go_at_call 20
  (with_reducible refine (days_ok _ _ _ _ hy hm hd hM).mono ?_)
  rintro e w2 ⟨rfl, HB⟩
  obtain ⟨hc2, hf2⟩ := bcell HB
  obtain ⟨hd2, hh2⟩ := bcell2 (U := w1) (by repeat (first | exact Below.refl _ _ | refine Below.setCell ?_ (by simp <;> omega) _ | refine Below.alloc ?_ (by simp <;> omega) _ | refine Below.drew ?_)) HB
  have hz2 := HB.size
  try simp at hz2
  (try (have z2w0 : w.heap.size < w2.heap.size := (by omega)))
  (try (have z2w1 : w.heap.size + 1 < w2.heap.size := (by omega)))
  (try (have z2w10 : w1.heap.size < w2.heap.size := (by omega)))
  (try (have z2w11 : w1.heap.size + 1 < w2.heap.size := (by omega)))
  have hH2 := Held.step (w0 := w) (by repeat (first | assumption | refine Held.alloc ?_ _ | refine Held.drew ?_)) HB
  clear HB
  go_wp2_with (fail)
  go_at_call 21
  (with_reducible refine (of_f _ y m d 0 _ hnum hO).mono ?_)
  rintro e w3 ⟨rfl, HB⟩
  obtain ⟨hc3, hf3⟩ := bcell HB
  obtain ⟨hd3, hh3⟩ := bcell2 (U := w2) (by repeat (first | exact Below.refl _ _ | refine Below.setCell ?_ (by simp <;> omega) _ | refine Below.alloc ?_ (by simp <;> omega) _ | refine Below.drew ?_)) HB
  have hz3 := HB.size
  try simp at hz3
  (try (have z3w0 : w.heap.size < w3.heap.size := (by omega)))
  (try (have z3w1 : w.heap.size + 1 < w3.heap.size := (by omega)))
  (try (have z3w10 : w1.heap.size < w3.heap.size := (by omega)))
  (try (have z3w11 : w1.heap.size + 1 < w3.heap.size := (by omega)))
  (try (have z3w20 : w2.heap.size < w3.heap.size := (by omega)))
  (try (have z3w21 : w2.heap.size + 1 < w3.heap.size := (by omega)))
  have hH3 := Held.step (w0 := w) (by repeat (first | assumption | refine Held.alloc ?_ _ | refine Held.drew ?_)) HB
  clear HB
  rw [errOf_zero]
  have t3 : Tab w3 := ht.below (Held.below hH3)
  go_wp2_with (fail)
  go_at_call 30
  (with_reducible refine (text_ok _ _ _ _ (Held.handle (w0 := w) (by repeat (first | assumption | refine Held.alloc ?_ _ | refine Held.drew ?_))) (t3.below ((Below.refl _ _).alloc (Nat.le_refl _) _)) hM).mono ?_)
  rintro e w4 ⟨rfl, HB⟩
  obtain ⟨hc4, hf4⟩ := bcell HB
  obtain ⟨hd4, hh4⟩ := bcell2 (U := w3) (by repeat (first | exact Below.refl _ _ | refine Below.setCell ?_ (by simp <;> omega) _ | refine Below.alloc ?_ (by simp <;> omega) _ | refine Below.drew ?_)) HB
  have hz4 := HB.size
  try simp at hz4
  (try (have z4w0 : w.heap.size < w4.heap.size := (by omega)))
  (try (have z4w1 : w.heap.size + 1 < w4.heap.size := (by omega)))
  (try (have z4w10 : w1.heap.size < w4.heap.size := (by omega)))
  (try (have z4w11 : w1.heap.size + 1 < w4.heap.size := (by omega)))
  (try (have z4w20 : w2.heap.size < w4.heap.size := (by omega)))
  (try (have z4w21 : w2.heap.size + 1 < w4.heap.size := (by omega)))
  (try (have z4w30 : w3.heap.size < w4.heap.size := (by omega)))
  (try (have z4w31 : w3.heap.size + 1 < w4.heap.size := (by omega)))
  have hH4 := Held.step (w0 := w) (by repeat (first | assumption | refine Held.alloc ?_ _ | refine Held.drew ?_)) HB
  clear HB
  go_wp2_with (fail)
  go_at_call 31
  (with_reducible refine (parse_f _ y m d 0 _ hsz (isParse_date hM)).mono ?_)
  rintro e w5 ⟨rfl, HB⟩
  obtain ⟨hc5, hf5⟩ := bcell HB
  obtain ⟨hd5, hh5⟩ := bcell2 (U := w4) (by repeat (first | exact Below.refl _ _ | refine Below.setCell ?_ (by simp <;> omega) _ | refine Below.alloc ?_ (by simp <;> omega) _ | refine Below.drew ?_)) HB
  have hz5 := HB.size
  try simp at hz5
  (try (have z5w0 : w.heap.size < w5.heap.size := (by omega)))
  (try (have z5w1 : w.heap.size + 1 < w5.heap.size := (by omega)))
  (try (have z5w10 : w1.heap.size < w5.heap.size := (by omega)))
  (try (have z5w11 : w1.heap.size + 1 < w5.heap.size := (by omega)))
  (try (have z5w20 : w2.heap.size < w5.heap.size := (by omega)))
  (try (have z5w21 : w2.heap.size + 1 < w5.heap.size := (by omega)))
  (try (have z5w30 : w3.heap.size < w5.heap.size := (by omega)))
  (try (have z5w31 : w3.heap.size + 1 < w5.heap.size := (by omega)))
  (try (have z5w40 : w4.heap.size < w5.heap.size := (by omega)))
  (try (have z5w41 : w4.heap.size + 1 < w5.heap.size := (by omega)))
  have hH5 := Held.step (w0 := w) (by repeat (first | assumption | refine Held.alloc ?_ _ | refine Held.drew ?_)) HB
  clear HB
  rw [errOf_zero]
  go_wp2_with (fail)
  go_at_call 21
  (with_reducible refine (of_f _ py pm pd 0 _ hn hP).mono ?_)
  rintro e w6 ⟨rfl, HB⟩
  obtain ⟨hc6, hf6⟩ := bcell HB
  obtain ⟨hd6, hh6⟩ := bcell2 (U := w5) (by repeat (first | exact Below.refl _ _ | refine Below.setCell ?_ (by simp <;> omega) _ | refine Below.alloc ?_ (by simp <;> omega) _ | refine Below.drew ?_)) HB
  have hz6 := HB.size
  try simp at hz6
  (try (have z6w0 : w.heap.size < w6.heap.size := (by omega)))
  (try (have z6w1 : w.heap.size + 1 < w6.heap.size := (by omega)))
  (try (have z6w10 : w1.heap.size < w6.heap.size := (by omega)))
  (try (have z6w11 : w1.heap.size + 1 < w6.heap.size := (by omega)))
  (try (have z6w20 : w2.heap.size < w6.heap.size := (by omega)))
  (try (have z6w21 : w2.heap.size + 1 < w6.heap.size := (by omega)))
  (try (have z6w30 : w3.heap.size < w6.heap.size := (by omega)))
  (try (have z6w31 : w3.heap.size + 1 < w6.heap.size := (by omega)))
  (try (have z6w40 : w4.heap.size < w6.heap.size := (by omega)))
  (try (have z6w41 : w4.heap.size + 1 < w6.heap.size := (by omega)))
  (try (have z6w50 : w5.heap.size < w6.heap.size := (by omega)))
  (try (have z6w51 : w5.heap.size + 1 < w6.heap.size := (by omega)))
  have hH6 := Held.step (w0 := w) (by repeat (first | assumption | refine Held.alloc ?_ _ | refine Held.drew ?_)) HB
  clear HB
  rw [errOf_zero]
  have hS0 : SCB w (w6.heap.size) (.int .i64 py) (.int .i64 pm) (.int .i64 pd) (w6.alloc (.cells #[.int .i64 py, .int .i64 pm, .int .i64 pd] 26)) := ⟨Held.alloc hH6 _, ⟨by simp <;> omega, by go_simp, by go_simp, by go_simp⟩⟩
  go_wp2_with (first | (go_at_call 20; (with_reducible refine (days_ok _ _ _ _ pb1 pb2 pb3 pM).mono ?_); rintro e w' ⟨rfl, hb'⟩; have hS' := SCB.step (by first | assumption | (refine SCB.step (by assumption) ?_; (repeat (first | exact Below.refl _ _ | refine Below.setCell ?_ (by simp <;> omega) _ | refine Below.alloc ?_ (by simp <;> omega) _ | refine Below.drew ?_ | refine below_drewN ?_ _)))) hb'; clear hb'; obtain ⟨_, ⟨l0, c00, c01, c02⟩⟩ := id hS') | (go_at_call 21; (with_reducible refine (of_f (n + 1) 0 0 0 2 _ hn1 hQ).mono ?_); rintro e w' ⟨rfl, hb'⟩; have hS' := SCB.step (by first | assumption | (refine SCB.step (by assumption) ?_; (repeat (first | exact Below.refl _ _ | refine Below.setCell ?_ (by simp <;> omega) _ | refine Below.alloc ?_ (by simp <;> omega) _ | refine Below.drew ?_ | refine below_drewN ?_ _)))) hb'; clear hb'; obtain ⟨_, ⟨l0, c00, c01, c02⟩⟩ := id hS') | (go_at_call 21; (with_reducible refine (of_f (n + 146097) 0 0 0 2 _ hn2 hF).mono ?_); rintro e w' ⟨rfl, hb'⟩; have hS' := SCB.step (by first | assumption | (refine SCB.step (by assumption) ?_; (repeat (first | exact Below.refl _ _ | refine Below.setCell ?_ (by simp <;> omega) _ | refine Below.alloc ?_ (by simp <;> omega) _ | refine Below.drew ?_ | refine below_drewN ?_ _)))) hb'; clear hb'; obtain ⟨_, ⟨l0, c00, c01, c02⟩⟩ := id hS') | (go_at_call 34; (with_reducible refine (week_c _ _ (by omega)).mono ?_); rintro e w' ⟨rfl, hb'⟩; have hS' := SCB.step (by first | assumption | (refine SCB.step (by assumption) ?_; (repeat (first | exact Below.refl _ _ | refine Below.setCell ?_ (by simp <;> omega) _ | refine Below.alloc ?_ (by simp <;> omega) _ | refine Below.drew ?_ | refine below_drewN ?_ _)))) hb'; clear hb'; obtain ⟨_, ⟨l0, c00, c01, c02⟩⟩ := id hS') | (go_at_call 19; (with_reducible refine (sure07 _ (Held.handle (w0 := w) (by first | exact And.left (by assumption) | (refine Held.step (And.left (by assumption)) ?_; (repeat (first | exact Below.refl _ _ | refine Below.setCell ?_ (by simp <;> omega) _ | refine Below.alloc ?_ (by simp <;> omega) _ | refine Below.drew ?_ | refine below_drewN ?_ _))))) (ht.below (Held.below (w0 := w) (by first | exact And.left (by assumption) | (refine Held.step (And.left (by assumption)) ?_; (repeat (first | exact Below.refl _ _ | refine Below.setCell ?_ (by simp <;> omega) _ | refine Below.alloc ?_ (by simp <;> omega) _ | refine Below.drew ?_ | refine below_drewN ?_ _))))))).mono ?_); rintro e w' ⟨rfl, hb'⟩; have hS' := SCB.step (by first | assumption | (refine SCB.step (by assumption) ?_; (repeat (first | exact Below.refl _ _ | refine Below.setCell ?_ (by simp <;> omega) _ | refine Below.alloc ?_ (by simp <;> omega) _ | refine Below.drew ?_ | refine below_drewN ?_ _)))) hb'; clear hb'; obtain ⟨_, ⟨l0, c00, c01, c02⟩⟩ := id hS'))
  all_goals go_ret
  all_goals exact ⟨rfl, Held.below (w0 := w) (And.left (by assumption))⟩
set_option maxRecDepth 100000 in
set_option maxHeartbeats 16000000 in
theorem cback_may_out (y m d n : Int) (hy : InR y) (hm : InR m) (hd : InR d) (hn : InR n) (hM : Cal.may y m d) (hP : IsOf n 0 0 0 2) (w : World) (hg : w.cell? ⟨0, 0, none⟩ = some asHandle) (ht : Tab w) :
    Calls Tryd.prog 5 #[.agg #[.int .i64 y, .int .i64 m, .int .i64 d], .int .i64 n] w fun e w' => e = .returned (.bool true) ∧ Below w.heap.size w w' := by
  have hH := Held.start hg
  have hO : IsOf (Cal.num y m d) y m d 0 := Or.inl ⟨rfl, hM, rfl⟩
  have hb0 := Cal.may_num _ _ _ hM
  have hnum : InR (Cal.num y m d) := by omega
  have hsz : (⟨(dateL y m d).toArray⟩ : ByteArray).size ≤ 9223372036854775807 := by show (dateL y m d).length ≤ _; unfold dateL; simp [Dig.digs_length]
  go_enter Tryd.func5, Tryd.ntmps5
  go_wp2_with (fail)
  go_at_call 26
  (with_reducible refine (check_ok _ _ _ _ hy hm hd hM).mono ?_)
  rintro e w1 ⟨rfl, HB⟩
  obtain ⟨hc1, hf1⟩ := bcell HB
  obtain ⟨hd1, hh1⟩ := bcell2 (U := w) (by repeat (first | exact Below.refl _ _ | refine Below.setCell ?_ (by simp <;> omega) _ | refine Below.alloc ?_ (by simp <;> omega) _ | refine Below.drew ?_)) HB
  have hz1 := HB.size
  try simp at hz1
  (try (have z1w0 : w.heap.size < w1.heap.size := (by omega)))
  (try (have z1w1 : w.heap.size + 1 < w1.heap.size := (by omega)))
  have hH1 := Held.step (w0 := w) (by repeat (first | assumption | refine Held.alloc ?_ _ | refine Held.drew ?_)) HB
  clear HB
  go_wp2_with (fail)
  go_at_call 20
  (with_reducible refine (days_ok _ _ _ _ hy hm hd hM).mono ?_)
  rintro e w2 ⟨rfl, HB⟩
  obtain ⟨hc2, hf2⟩ := bcell HB
  obtain ⟨hd2, hh2⟩ := bcell2 (U := w1) (by repeat (first | exact Below.refl _ _ | refine Below.setCell ?_ (by simp <;> omega) _ | refine Below.alloc ?_ (by simp <;> omega) _ | refine Below.drew ?_)) HB
  have hz2 := HB.size
  try simp at hz2
  (try (have z2w0 : w.heap.size < w2.heap.size := (by omega)))
  (try (have z2w1 : w.heap.size + 1 < w2.heap.size := (by omega)))
  (try (have z2w10 : w1.heap.size < w2.heap.size := (by omega)))
  (try (have z2w11 : w1.heap.size + 1 < w2.heap.size := (by omega)))
  have hH2 := Held.step (w0 := w) (by repeat (first | assumption | refine Held.alloc ?_ _ | refine Held.drew ?_)) HB
  clear HB
  go_wp2_with (fail)
  go_at_call 21
  (with_reducible refine (of_f _ y m d 0 _ hnum hO).mono ?_)
  rintro e w3 ⟨rfl, HB⟩
  obtain ⟨hc3, hf3⟩ := bcell HB
  obtain ⟨hd3, hh3⟩ := bcell2 (U := w2) (by repeat (first | exact Below.refl _ _ | refine Below.setCell ?_ (by simp <;> omega) _ | refine Below.alloc ?_ (by simp <;> omega) _ | refine Below.drew ?_)) HB
  have hz3 := HB.size
  try simp at hz3
  (try (have z3w0 : w.heap.size < w3.heap.size := (by omega)))
  (try (have z3w1 : w.heap.size + 1 < w3.heap.size := (by omega)))
  (try (have z3w10 : w1.heap.size < w3.heap.size := (by omega)))
  (try (have z3w11 : w1.heap.size + 1 < w3.heap.size := (by omega)))
  (try (have z3w20 : w2.heap.size < w3.heap.size := (by omega)))
  (try (have z3w21 : w2.heap.size + 1 < w3.heap.size := (by omega)))
  have hH3 := Held.step (w0 := w) (by repeat (first | assumption | refine Held.alloc ?_ _ | refine Held.drew ?_)) HB
  clear HB
  rw [errOf_zero]
  have t3 : Tab w3 := ht.below (Held.below hH3)
  go_wp2_with (fail)
  go_at_call 30
  (with_reducible refine (text_ok _ _ _ _ (Held.handle (w0 := w) (by repeat (first | assumption | refine Held.alloc ?_ _ | refine Held.drew ?_))) (t3.below ((Below.refl _ _).alloc (Nat.le_refl _) _)) hM).mono ?_)
  rintro e w4 ⟨rfl, HB⟩
  obtain ⟨hc4, hf4⟩ := bcell HB
  obtain ⟨hd4, hh4⟩ := bcell2 (U := w3) (by repeat (first | exact Below.refl _ _ | refine Below.setCell ?_ (by simp <;> omega) _ | refine Below.alloc ?_ (by simp <;> omega) _ | refine Below.drew ?_)) HB
  have hz4 := HB.size
  try simp at hz4
  (try (have z4w0 : w.heap.size < w4.heap.size := (by omega)))
  (try (have z4w1 : w.heap.size + 1 < w4.heap.size := (by omega)))
  (try (have z4w10 : w1.heap.size < w4.heap.size := (by omega)))
  (try (have z4w11 : w1.heap.size + 1 < w4.heap.size := (by omega)))
  (try (have z4w20 : w2.heap.size < w4.heap.size := (by omega)))
  (try (have z4w21 : w2.heap.size + 1 < w4.heap.size := (by omega)))
  (try (have z4w30 : w3.heap.size < w4.heap.size := (by omega)))
  (try (have z4w31 : w3.heap.size + 1 < w4.heap.size := (by omega)))
  have hH4 := Held.step (w0 := w) (by repeat (first | assumption | refine Held.alloc ?_ _ | refine Held.drew ?_)) HB
  clear HB
  go_wp2_with (fail)
  go_at_call 31
  (with_reducible refine (parse_f _ y m d 0 _ hsz (isParse_date hM)).mono ?_)
  rintro e w5 ⟨rfl, HB⟩
  obtain ⟨hc5, hf5⟩ := bcell HB
  obtain ⟨hd5, hh5⟩ := bcell2 (U := w4) (by repeat (first | exact Below.refl _ _ | refine Below.setCell ?_ (by simp <;> omega) _ | refine Below.alloc ?_ (by simp <;> omega) _ | refine Below.drew ?_)) HB
  have hz5 := HB.size
  try simp at hz5
  (try (have z5w0 : w.heap.size < w5.heap.size := (by omega)))
  (try (have z5w1 : w.heap.size + 1 < w5.heap.size := (by omega)))
  (try (have z5w10 : w1.heap.size < w5.heap.size := (by omega)))
  (try (have z5w11 : w1.heap.size + 1 < w5.heap.size := (by omega)))
  (try (have z5w20 : w2.heap.size < w5.heap.size := (by omega)))
  (try (have z5w21 : w2.heap.size + 1 < w5.heap.size := (by omega)))
  (try (have z5w30 : w3.heap.size < w5.heap.size := (by omega)))
  (try (have z5w31 : w3.heap.size + 1 < w5.heap.size := (by omega)))
  (try (have z5w40 : w4.heap.size < w5.heap.size := (by omega)))
  (try (have z5w41 : w4.heap.size + 1 < w5.heap.size := (by omega)))
  have hH5 := Held.step (w0 := w) (by repeat (first | assumption | refine Held.alloc ?_ _ | refine Held.drew ?_)) HB
  clear HB
  rw [errOf_zero]
  go_wp2_with (fail)
  go_at_call 21
  (with_reducible refine (of_f _ 0 0 0 2 _ hn hP).mono ?_)
  rintro e w6 ⟨rfl, HB⟩
  obtain ⟨hc6, hf6⟩ := bcell HB
  obtain ⟨hd6, hh6⟩ := bcell2 (U := w5) (by repeat (first | exact Below.refl _ _ | refine Below.setCell ?_ (by simp <;> omega) _ | refine Below.alloc ?_ (by simp <;> omega) _ | refine Below.drew ?_)) HB
  have hz6 := HB.size
  try simp at hz6
  (try (have z6w0 : w.heap.size < w6.heap.size := (by omega)))
  (try (have z6w1 : w.heap.size + 1 < w6.heap.size := (by omega)))
  (try (have z6w10 : w1.heap.size < w6.heap.size := (by omega)))
  (try (have z6w11 : w1.heap.size + 1 < w6.heap.size := (by omega)))
  (try (have z6w20 : w2.heap.size < w6.heap.size := (by omega)))
  (try (have z6w21 : w2.heap.size + 1 < w6.heap.size := (by omega)))
  (try (have z6w30 : w3.heap.size < w6.heap.size := (by omega)))
  (try (have z6w31 : w3.heap.size + 1 < w6.heap.size := (by omega)))
  (try (have z6w40 : w4.heap.size < w6.heap.size := (by omega)))
  (try (have z6w41 : w4.heap.size + 1 < w6.heap.size := (by omega)))
  (try (have z6w50 : w5.heap.size < w6.heap.size := (by omega)))
  (try (have z6w51 : w5.heap.size + 1 < w6.heap.size := (by omega)))
  have hH6 := Held.step (w0 := w) (by repeat (first | assumption | refine Held.alloc ?_ _ | refine Held.drew ?_)) HB
  clear HB
  rw [errOf_ne (by decide : ¬ (2 : Int) = 0)]
  go_wp2_with (first | (go_at_call 27; (with_reducible refine (num07_err _ _ (Held.handle (w0 := w) (by repeat (first | assumption | refine Held.alloc ?_ _ | refine Held.drew ?_)))).mono ?_); rintro e w' ⟨rfl, hb'⟩; obtain ⟨hc, hf⟩ := bcell hb'; have hz := hb'.size; (try (simp at hz)); have hH' := Held.step (w0 := w) (by repeat (first | assumption | refine Held.alloc ?_ _ | refine Held.drew ?_)) hb'; clear hb') | (go_at_call 19; (with_reducible refine (sure07 _ (Held.handle (w0 := w) (by repeat (first | assumption | refine Held.alloc ?_ _ | refine Held.drew ?_))) (ht.below (Held.below (w0 := w) (by repeat (first | assumption | refine Held.alloc ?_ _ | refine Held.drew ?_))))).mono ?_); rintro e w' ⟨rfl, hb'⟩; obtain ⟨hc, hf⟩ := bcell hb'; have hz := hb'.size; (try (simp at hz)); have hH' := Held.step (w0 := w) (by repeat (first | assumption | refine Held.alloc ?_ _ | refine Held.drew ?_)) hb'; clear hb'))
  go_ret
  exact ⟨rfl, Held.below (w0 := w) (by assumption)⟩
theorem far_of {n py pm pd : Int} (pM : Cal.may py pm pd) (pN : Cal.num py pm pd = n) : IsOf (n + 146097) (py + 400) pm pd 0 ∨ IsOf (n + 146097) 0 0 0 2 := by
  have h400 := Cal.num_400 py pm pd
  by_cases h : py + 400 ≤ 9999
  · left
    obtain ⟨h1, h2, h3, h4, h5, h6⟩ := pM
    exact Or.inl ⟨rfl, ⟨by omega, h, h3, h4, h5, by rw [Cal.dim_400]; exact h6⟩, by omega⟩
  · right
    have hm := Cal.dby_mono 10000 (py + 400) (by omega)
    have hx := Cal.dby_max
    have hc := Cal.cum_bd (py + 400) pm
    have h5 := pM.2.2.2.2.1
    exact Or.inr ⟨rfl, rfl, rfl, rfl, Or.inr (by unfold Cal.num at h400 pN; omega)⟩
theorem walkCivilBack (y m d n : Int) (hy : InR y) (hm : InR m) (hd : InR d) (hn : InR n) (w : World) (hg : w.cell? ⟨0, 0, none⟩ = some asHandle) (ht : Tab w) :
    Calls Tryd.prog 5 #[.agg #[.int .i64 y, .int .i64 m, .int .i64 d], .int .i64 n] w fun e w' => e = .returned (.bool true) ∧ Below w.heap.size w w' := by
  by_cases hout : n < -719162 ∨ 2932896 < n
  · have hP : IsOf n 0 0 0 2 := Or.inr ⟨rfl, rfl, rfl, rfl, hout⟩
    by_cases hM : Cal.may y m d
    · exact cback_may_out y m d n hy hm hd hn hM hP w hg ht
    · exact cback_no_out y m d n hy hm hd hn hM hP w hg ht
  · obtain ⟨py, pm, pd, pM, pN⟩ := Cal.exists_date n (by omega) (by omega)
    have far := far_of pM pN
    by_cases hM : Cal.may y m d
    · by_cases hx : pd < Cal.dim py pm
      · have h1 := Cal.next_day pM hx
        have hQ : IsOf (n + 1) py pm (pd + 1) 0 := Or.inl ⟨rfl, h1.1, by omega⟩
        rcases far with hF | hF
        · exact cback_may_11 y m d n hy hm hd hn hM py pm pd pM pN hx hQ hF w hg ht
        · exact cback_may_12 y m d n hy hm hd hn hM py pm pd pM pN hx hQ hF w hg ht
      · have hx : pd = Cal.dim py pm := by have := pM.2.2.2.2.2; omega
        by_cases hx2 : pm < 12
        · have h1 := Cal.next_month pM hx hx2
          have hQ : IsOf (n + 1) py (pm + 1) 1 0 := Or.inl ⟨rfl, h1.1, by omega⟩
          rcases far with hF | hF
          · exact cback_may_21 y m d n hy hm hd hn hM py pm pd pM pN hx hx2 hQ hF w hg ht
          · exact cback_may_22 y m d n hy hm hd hn hM py pm pd pM pN hx hx2 hQ hF w hg ht
        · have hx2 : pm = 12 := by have := pM.2.2.2.1; omega
          by_cases hy9 : py < 9999
          · have h1 := Cal.next_year pM hx hx2 hy9
            subst hx2
            have hQ : IsOf (n + 1) (py + 1) 1 1 0 := Or.inl ⟨rfl, h1.1, by omega⟩
            rcases far with hF | hF
            · exact cback_may_31 y m d n hy hm hd hn hM py pd pM pN hx hQ hF w hg ht
            · exact cback_may_32 y m d n hy hm hd hn hM py pd pM pN hx hQ hF w hg ht
          · have hl := Cal.last_day pM hx hx2 (by have := pM.2.1; omega)
            have hQ : IsOf (n + 1) 0 0 0 2 := Or.inr ⟨rfl, rfl, rfl, rfl, by omega⟩
            have hF : IsOf (n + 146097) 0 0 0 2 := Or.inr ⟨rfl, rfl, rfl, rfl, by omega⟩
            exact cback_may_42 y m d n hy hm hd hn hM py pm pd pM pN hQ hF w hg ht
    · by_cases hx : pd < Cal.dim py pm
      · have h1 := Cal.next_day pM hx
        have hQ : IsOf (n + 1) py pm (pd + 1) 0 := Or.inl ⟨rfl, h1.1, by omega⟩
        rcases far with hF | hF
        · exact cback_no_11 y m d n hy hm hd hn hM py pm pd pM pN hx hQ hF w hg ht
        · exact cback_no_12 y m d n hy hm hd hn hM py pm pd pM pN hx hQ hF w hg ht
      · have hx : pd = Cal.dim py pm := by have := pM.2.2.2.2.2; omega
        by_cases hx2 : pm < 12
        · have h1 := Cal.next_month pM hx hx2
          have hQ : IsOf (n + 1) py (pm + 1) 1 0 := Or.inl ⟨rfl, h1.1, by omega⟩
          rcases far with hF | hF
          · exact cback_no_21 y m d n hy hm hd hn hM py pm pd pM pN hx hx2 hQ hF w hg ht
          · exact cback_no_22 y m d n hy hm hd hn hM py pm pd pM pN hx hx2 hQ hF w hg ht
        · have hx2 : pm = 12 := by have := pM.2.2.2.1; omega
          by_cases hy9 : py < 9999
          · have h1 := Cal.next_year pM hx hx2 hy9
            subst hx2
            have hQ : IsOf (n + 1) (py + 1) 1 1 0 := Or.inl ⟨rfl, h1.1, by omega⟩
            rcases far with hF | hF
            · exact cback_no_31 y m d n hy hm hd hn hM py pd pM pN hx hQ hF w hg ht
            · exact cback_no_32 y m d n hy hm hd hn hM py pd pM pN hx hQ hF w hg ht
          · have hl := Cal.last_day pM hx hx2 (by have := pM.2.1; omega)
            have hQ : IsOf (n + 1) 0 0 0 2 := Or.inr ⟨rfl, rfl, rfl, rfl, by omega⟩
            have hF : IsOf (n + 146097) 0 0 0 2 := Or.inr ⟨rfl, rfl, rfl, rfl, by omega⟩
            exact cback_no_42 y m d n hy hm hd hn hM py pm pd pM pN hQ hF w hg ht
end Go.Proofs.YtengchkiejpglaaDoor
