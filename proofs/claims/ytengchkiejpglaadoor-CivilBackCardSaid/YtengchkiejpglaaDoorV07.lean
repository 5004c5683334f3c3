/-
  Layer 7: weekdays, and what must come whatever the input is.
-/
import Derived.Test.YtengchkiejpglaaDoorW07e
import Derived.Test.YtengchkiejpglaaDoorW07f
namespace Go.Proofs.YtengchkiejpglaaDoor
open Go.RowKit Go.Extern.Stop Go.Stop Go.Extern
set_option linter.unusedVariables false
set_option linter.unusedSimpArgs false
def wd (n : Int) : Int := (n % 7 + 3) % 7 + 1
theorem week_c (n : Int) (w : World) (hn : InR n) : Calls Tryd.prog 34 #[.int .i64 n] w fun e w' => e = .returned (.int .i64 (wd n)) ∧ Below w.heap.size w w' := by
  go_enter Tryd.func34, Tryd.ntmps34
  go_wp2_with (first | (go_at_call 90; (with_reducible refine (div_ok _ _ _ (by omega) (by omega) (by omega)).mono ?_); rintro e w' ⟨rfl, hb'⟩))
  go_ret
  exact ⟨ret_i (by unfold wd; omega), hb'⟩
theorem tmod7 (n : Int) : (n.tmod 7 = n % 7 ∧ 0 ≤ n) ∨ (n.tmod 7 = n % 7 ∧ n % 7 = 0) ∨ (n.tmod 7 = n % 7 - 7 ∧ n < 0 ∧ n % 7 ≠ 0) := by
  by_cases h : 0 ≤ n
  · left; exact ⟨Int.tmod_eq_emod_of_nonneg h, h⟩
  · right
    have h1 := Int.tmod_eq_emod (a := n) (b := 7)
    by_cases h2 : (7 : Int) ∣ n
    · left; rw [h1, if_pos (Or.inr h2)]; exact ⟨by omega, by omega⟩
    · right; rw [h1, if_neg (by intro g; rcases g with g | g; omega; exact h2 g)]; exact ⟨by simp, by omega, by omega⟩
theorem rweek_c (n : Int) (w : World) (hn : InR n) : Calls Tryd.prog 35 #[.int .i64 n] w fun e w' => e = .returned (.int .i64 (wd n)) ∧ w = w' := by
  have h := tmod7 n
  have hb : -7 < n.tmod 7 ∧ n.tmod 7 < 7 := by omega
  by_cases h0 : 0 ≤ n
  · go_enter Tryd.func35, Tryd.ntmps35
    go_wp2_with (fail)
    go_ret
    exact ⟨ret_i (by unfold wd; omega), rfl⟩
  · go_enter Tryd.func35, Tryd.ntmps35
    go_wp2_with (fail)
    go_ret
    exact ⟨ret_i (by unfold wd; omega), rfl⟩
/-- the error of a number: none of 0 -/
def errOf (n : Int) : Value := if n = 0 then .nilIface else errV n
theorem errOf_zero : errOf 0 = .nilIface := by unfold errOf; rw [if_pos rfl]
theorem errOf_ne {n : Int} (h : ¬ n = 0) : errOf n = errV n := by unfold errOf; rw [if_neg h]
theorem num07_any (n : Int) (w : World) (hg : w.cell? ⟨0, 0, none⟩ = some asHandle) : Calls Tryd.prog 27 #[errOf n] w fun e w' => e = .returned (.int .i64 n) ∧ Below w.heap.size w w' := by
  by_cases h : n = 0
  · subst h; rw [errOf_zero]; exact num07_nil _
  · rw [errOf_ne h]; exact num07_err _ _ hg
theorem digB_eq (s : ByteArray) : Dig.digB s = (Dig.allD s.data.toList && !s.data.toList.isEmpty) := by unfold Dig.digB; rw [ByteArray.toList_eq]
abbrev badS : ByteArray := ⟨#[50, 48, 48, 49, 45, 48, 50, 45, 50, 57]⟩
theorem bad1 : Dig.digB (badS.extract 0 4) = true := by rw [digB_eq]; decide
theorem bad2 : Dig.digB (badS.extract 5 7) = true := by rw [digB_eq]; decide
theorem bad3 : Dig.digB (badS.extract 8 10) = true := by rw [digB_eq]; decide
theorem bad4 : ¬ Cal.may (Dig.numS 0 (badS.extract 0 4)) (Dig.numS 0 (badS.extract 5 7)) (Dig.numS 0 (badS.extract 8 10)) := by
  rw [show Dig.numS 0 (badS.extract 0 4) = 2001 by decide, show Dig.numS 0 (badS.extract 5 7) = 2 by decide, show Dig.numS 0 (badS.extract 8 10) = 29 by decide]
  unfold Cal.may; rw [show Cal.dim 2001 2 = 28 by decide]; omega
theorem may_29 : Cal.may 2000 2 29 := by unfold Cal.may; rw [show Cal.dim 2000 2 = 29 by decide]; omega
theorem may_70 : Cal.may 1970 1 1 := by unfold Cal.may; rw [show Cal.dim 1970 1 = 31 by decide]; omega
set_option maxRecDepth 100000 in
set_option maxHeartbeats 8000000 in
theorem sure07 (w : World) (hg : w.cell? ⟨0, 0, none⟩ = some asHandle) (ht : Tab w) : Calls Tryd.prog 19 #[] w fun e w' => e = .returned (.bool true) ∧ Below w.heap.size w w' := by
  have hH := Held.start hg
  have k1 : Cal.num 2000 2 29 = 11016 := by decide
  have k2 : wd 11016 = 2 := by decide
  have k3 : dateL 1970 1 1 = [49, 57, 55, 48, 45, 48, 49, 45, 48, 49] := by decide
  have k4 : Cal.leapB 2000 = true := by decide
  have k5 : Cal.dim 1900 2 = 28 := by decide
  go_enter Tryd.func19, Tryd.ntmps19
  go_wp2_with (fail)
  go_at_call 20
  (with_reducible refine (days_ok _ _ _ _ (by omega) (by omega) (by omega) may_29).mono ?_)
  rintro e w1 ⟨rfl, HB⟩
  obtain ⟨hc1, hf1⟩ := bcell HB
  obtain ⟨hd1, hh1⟩ := bcell2 (U := w) (by repeat (first | exact Below.refl _ _ | refine Below.setCell ?_ (by simp <;> omega) _ | refine Below.alloc ?_ (by simp <;> omega) _ | refine Below.drew ?_)) HB
  have hz1 := HB.size
  try simp at hz1
  (try (have z1w0 : w.heap.size < w1.heap.size := (by omega)))
  (try (have z1w1 : w.heap.size + 1 < w1.heap.size := (by omega)))
  (try (have z1w2 : w.heap.size + 1 + 1 < w1.heap.size := (by omega)))
  (try (have z1w3 : w.heap.size + 1 + 1 + 1 < w1.heap.size := (by omega)))
  have hH1 := Held.step (w0 := w) (by repeat (first | assumption | refine Held.alloc ?_ _ | refine Held.drew ?_)) HB
  clear HB
  have t1 : Tab w1 := ht.below (Held.below hH1)
  go_wp2_with (fail)
  go_at_call 21
  (with_reducible refine (of_yes _ _ (by omega) (by omega)).mono ?_)
  rintro e w2 ⟨y, m, d, hM, hN, rfl, HB⟩
  obtain ⟨hc2, hf2⟩ := bcell HB
  obtain ⟨hd2, hh2⟩ := bcell2 (U := w1) (by repeat (first | exact Below.refl _ _ | refine Below.setCell ?_ (by simp <;> omega) _ | refine Below.alloc ?_ (by simp <;> omega) _ | refine Below.drew ?_)) HB
  have hz2 := HB.size
  try simp at hz2
  (try (have z2w0 : w.heap.size < w2.heap.size := (by omega)))
  (try (have z2w1 : w.heap.size + 1 < w2.heap.size := (by omega)))
  (try (have z2w2 : w.heap.size + 1 + 1 < w2.heap.size := (by omega)))
  (try (have z2w3 : w.heap.size + 1 + 1 + 1 < w2.heap.size := (by omega)))
  (try (have z2w10 : w1.heap.size < w2.heap.size := (by omega)))
  (try (have z2w11 : w1.heap.size + 1 < w2.heap.size := (by omega)))
  (try (have z2w12 : w1.heap.size + 1 + 1 < w2.heap.size := (by omega)))
  (try (have z2w13 : w1.heap.size + 1 + 1 + 1 < w2.heap.size := (by omega)))
  have hH2 := Held.step (w0 := w) (by repeat (first | assumption | refine Held.alloc ?_ _ | refine Held.drew ?_)) HB
  clear HB
  have hu := Cal.num_inj hM may_70 (hN.trans (by decide : (0 : Int) = Cal.num 1970 1 1))
  obtain ⟨rfl, rfl, rfl⟩ := hu
  clear hN
  have t2 : Tab w2 := ht.below (Held.below hH2)
  go_wp2_with (fail)
  go_at_call 30
  (with_reducible refine (text_ok _ _ _ _ (Held.handle (w0 := w) (Held.alloc hH2 _)) (t2.below ((Below.refl _ _).alloc (Nat.le_refl _) _)) may_70).mono ?_)
  rintro e w3 ⟨rfl, HB⟩
  obtain ⟨hc3, hf3⟩ := bcell HB
  obtain ⟨hd3, hh3⟩ := bcell2 (U := w2) (by repeat (first | exact Below.refl _ _ | refine Below.setCell ?_ (by simp <;> omega) _ | refine Below.alloc ?_ (by simp <;> omega) _ | refine Below.drew ?_)) HB
  have hz3 := HB.size
  try simp at hz3
  (try (have z3w0 : w.heap.size < w3.heap.size := (by omega)))
  (try (have z3w1 : w.heap.size + 1 < w3.heap.size := (by omega)))
  (try (have z3w2 : w.heap.size + 1 + 1 < w3.heap.size := (by omega)))
  (try (have z3w3 : w.heap.size + 1 + 1 + 1 < w3.heap.size := (by omega)))
  (try (have z3w10 : w1.heap.size < w3.heap.size := (by omega)))
  (try (have z3w11 : w1.heap.size + 1 < w3.heap.size := (by omega)))
  (try (have z3w12 : w1.heap.size + 1 + 1 < w3.heap.size := (by omega)))
  (try (have z3w13 : w1.heap.size + 1 + 1 + 1 < w3.heap.size := (by omega)))
  (try (have z3w20 : w2.heap.size < w3.heap.size := (by omega)))
  (try (have z3w21 : w2.heap.size + 1 < w3.heap.size := (by omega)))
  (try (have z3w22 : w2.heap.size + 1 + 1 < w3.heap.size := (by omega)))
  (try (have z3w23 : w2.heap.size + 1 + 1 + 1 < w3.heap.size := (by omega)))
  have hH3 := Held.step (w0 := w) (by repeat (first | assumption | refine Held.alloc ?_ _ | refine Held.drew ?_)) HB
  clear HB
  go_wp2_with (fail)
  go_at_call 31
  (with_reducible refine (parse_may_no badS _ rfl rfl rfl bad1 bad2 bad3 bad4).mono ?_)
  rintro e w4 ⟨rfl, HB⟩
  obtain ⟨hc4, hf4⟩ := bcell HB
  obtain ⟨hd4, hh4⟩ := bcell2 (U := w3) (by repeat (first | exact Below.refl _ _ | refine Below.setCell ?_ (by simp <;> omega) _ | refine Below.alloc ?_ (by simp <;> omega) _ | refine Below.drew ?_)) HB
  have hz4 := HB.size
  try simp at hz4
  (try (have z4w0 : w.heap.size < w4.heap.size := (by omega)))
  (try (have z4w1 : w.heap.size + 1 < w4.heap.size := (by omega)))
  (try (have z4w2 : w.heap.size + 1 + 1 < w4.heap.size := (by omega)))
  (try (have z4w3 : w.heap.size + 1 + 1 + 1 < w4.heap.size := (by omega)))
  (try (have z4w10 : w1.heap.size < w4.heap.size := (by omega)))
  (try (have z4w11 : w1.heap.size + 1 < w4.heap.size := (by omega)))
  (try (have z4w12 : w1.heap.size + 1 + 1 < w4.heap.size := (by omega)))
  (try (have z4w13 : w1.heap.size + 1 + 1 + 1 < w4.heap.size := (by omega)))
  (try (have z4w20 : w2.heap.size < w4.heap.size := (by omega)))
  (try (have z4w21 : w2.heap.size + 1 < w4.heap.size := (by omega)))
  (try (have z4w22 : w2.heap.size + 1 + 1 < w4.heap.size := (by omega)))
  (try (have z4w23 : w2.heap.size + 1 + 1 + 1 < w4.heap.size := (by omega)))
  (try (have z4w30 : w3.heap.size < w4.heap.size := (by omega)))
  (try (have z4w31 : w3.heap.size + 1 < w4.heap.size := (by omega)))
  (try (have z4w32 : w3.heap.size + 1 + 1 < w4.heap.size := (by omega)))
  (try (have z4w33 : w3.heap.size + 1 + 1 + 1 < w4.heap.size := (by omega)))
  have hH4 := Held.step (w0 := w) (by repeat (first | assumption | refine Held.alloc ?_ _ | refine Held.drew ?_)) HB
  clear HB
  go_wp2_with (first | (go_at_call 27; (with_reducible refine (num07_nil _).mono ?_); rintro e w' ⟨rfl, hb'⟩; obtain ⟨hc, hf⟩ := bcell hb'; have hz := hb'.size; (try (simp at hz)); have hH' := Held.step (w0 := w) (by repeat (first | assumption | refine Held.alloc ?_ _ | refine Held.drew ?_)) hb'; clear hb') | (go_at_call 27; (with_reducible refine (num07_err _ _ (Held.handle (w0 := w) (by repeat (first | assumption | refine Held.alloc ?_ _ | refine Held.drew ?_)))).mono ?_); rintro e w' ⟨rfl, hb'⟩; obtain ⟨hc, hf⟩ := bcell hb'; have hz := hb'.size; (try (simp at hz)); have hH' := Held.step (w0 := w) (by repeat (first | assumption | refine Held.alloc ?_ _ | refine Held.drew ?_)) hb'; clear hb') | (go_at_call 34; (with_reducible refine (week_c _ _ (by omega)).mono ?_); rintro e w' ⟨rfl, hb'⟩; obtain ⟨hc, hf⟩ := bcell hb'; have hz := hb'.size; (try (simp at hz)); have hH' := Held.step (w0 := w) (by repeat (first | assumption | refine Held.alloc ?_ _ | refine Held.drew ?_)) hb'; clear hb') | (go_at_call 35; (with_reducible refine (rweek_c _ _ (by omega)).mono ?_); rintro e w' ⟨rfl, rfl⟩) | (go_at_call 24; (with_reducible refine (leap_c _ _ (by omega)).mono ?_); rintro e w' ⟨rfl, rfl⟩) | (go_at_call 22; (with_reducible refine (month_c _ _ _ (by omega) (by omega)).mono ?_); rintro e w' ⟨rfl, rfl⟩) | go_in)
  go_ret
  exact ⟨rfl, Held.below (w0 := w) (by assumption)⟩
/-- what there is so many days behind 1970-01-01: a date, or the error -/
def IsOf (n y m d k : Int) : Prop := (k = 0 ∧ Cal.may y m d ∧ Cal.num y m d = n) ∨ (k = 2 ∧ y = 0 ∧ m = 0 ∧ d = 0 ∧ (n < -719162 ∨ 2932896 < n))
theorem isOf_ex (n : Int) : ∃ y m d k : Int, IsOf n y m d k := by
  by_cases h : n < -719162 ∨ 2932896 < n
  · exact ⟨0, 0, 0, 2, Or.inr ⟨rfl, rfl, rfl, rfl, h⟩⟩
  · obtain ⟨y, m, d, hM, hN⟩ := Cal.exists_date n (by omega) (by omega)
    exact ⟨y, m, d, 0, Or.inl ⟨rfl, hM, hN⟩⟩
theorem isOf_bd {n y m d k : Int} (h : IsOf n y m d k) : InR y ∧ InR m ∧ InR d := by
  rcases h with ⟨_, ⟨h1, h2, h3, h4, h5, h6⟩, _⟩ | ⟨_, rfl, rfl, rfl, _⟩
  · have := Cal.dim_lo y m; omega
  · omega
theorem of_f (n y m d k : Int) (w : World) (hn : InR n) (h : IsOf n y m d k) : Calls Tryd.prog 21 #[.int .i64 n] w fun e w' => e = .returned (.tuple #[.agg #[.int .i64 y, .int .i64 m, .int .i64 d], errOf k]) ∧ Below w.heap.size w w' := by
  rcases h with ⟨rfl, hM, hN⟩ | ⟨rfl, rfl, rfl, rfl, hout⟩
  · have hb := Cal.may_num _ _ _ hM
    refine (of_yes n w (by omega) (by omega)).mono ?_
    rintro e w' ⟨y', m', d', hM', hN', rfl, hb⟩
    obtain ⟨rfl, rfl, rfl⟩ := Cal.num_inj hM hM' (hN.trans hN'.symm)
    exact ⟨by first | rfl | simp only [errOf_zero], hb⟩
  · refine (of_no n w hn hout).mono ?_
    rintro e w' ⟨rfl, hb⟩
    exact ⟨by first | rfl | simp only [errOf_ne (by decide : ¬ (2 : Int) = 0)], hb⟩
theorem rof_f (n y m d k : Int) (w : World) (hn : InR n) (h : IsOf n y m d k) : Calls Tryd.prog 29 #[.int .i64 n] w fun e w' => e = .returned (.tuple #[.agg #[.int .i64 y, .int .i64 m, .int .i64 d], .int .i64 k]) ∧ Below w.heap.size w w' := by
  rcases h with ⟨rfl, hM, hN⟩ | ⟨rfl, rfl, rfl, rfl, hout⟩
  · have hb := Cal.may_num _ _ _ hM
    refine (rof_yes n w (by omega) (by omega)).mono ?_
    rintro e w' ⟨y', m', d', hM', hN', rfl, hb⟩
    obtain ⟨rfl, rfl, rfl⟩ := Cal.num_inj hM hM' (hN.trans hN'.symm)
    exact ⟨by first | rfl | simp only [errOf_zero], hb⟩
  · refine (rof_no n w hn hout).mono ?_
    rintro e w' ⟨rfl, hb⟩
    exact ⟨by first | rfl | simp only [errOf_ne (by decide : ¬ (2 : Int) = 0)], hb⟩
end Go.Proofs.YtengchkiejpglaaDoor
