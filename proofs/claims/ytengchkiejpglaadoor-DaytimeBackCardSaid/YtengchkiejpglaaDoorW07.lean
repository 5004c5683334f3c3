/-
  Layer 7: contracts of civil and of its reference.
-/
import Derived.Test.YtengchkiejpglaaDoorV01
import Derived.Test.YtengchkiejpglaaDoorCal
import Derived.Deep.RegionHeld3
namespace Go.Proofs.YtengchkiejpglaaDoor
open Go.RowKit Go.Extern.Stop Go.Stop Go.Extern
set_option linter.unusedVariables false
theorem leap_c (y : Int) (w : World) (hy : InR y) : Calls Tryd.prog 24 #[.int .i64 y] w fun e w' => e = .returned (.bool (Cal.leapB y)) ∧ w = w' := by
  by_cases h4 : y % 4 = 0
  all_goals by_cases h100 : y % 100 = 0
  all_goals by_cases h400 : y % 400 = 0
  all_goals try (exfalso; omega)
  all_goals cases hr : Cal.leapB y
  all_goals try (exfalso; simp [Cal.leapB, h4, h100, h400] at hr; done)
  all_goals (first | have a1 := tmod0 y 4 h4 | have a1 := tmod1 y 4 h4)
  all_goals (first | have a2 := tmod0 y 100 h100 | have a2 := tmod1 y 100 h100)
  all_goals (first | have a2' := tmod0' y 100 h100 | have a2' := tmod1' y 100 h100)
  all_goals (first | have a3 := tmod0 y 400 h400 | have a3 := tmod1 y 400 h400)
  all_goals have HR := Lib.hid hr
  all_goals clear hr h4 h100 h400
  all_goals
    go_enter Tryd.func24, Tryd.ntmps24
    go_wp2
    go_ret
    exact ⟨rfl, rfl⟩
theorem rleap_c (y : Int) (w : World) (hy : InR y) : Calls Tryd.prog 25 #[.int .i64 y] w fun e w' => e = .returned (.bool (Cal.leapB y)) ∧ w = w' := by
  by_cases h4 : y % 4 = 0
  all_goals by_cases h100 : y % 100 = 0
  all_goals by_cases h400 : y % 400 = 0
  all_goals try (exfalso; omega)
  all_goals cases hr : Cal.leapB y
  all_goals try (exfalso; simp [Cal.leapB, h4, h100, h400] at hr; done)
  all_goals (first | have a1 := tmod0 y 4 h4 | have a1 := tmod1 y 4 h4)
  all_goals (first | have a2 := tmod0 y 100 h100 | have a2 := tmod1 y 100 h100)
  all_goals (first | have a2' := tmod0' y 100 h100 | have a2' := tmod1' y 100 h100)
  all_goals (first | have a3 := tmod0 y 400 h400 | have a3 := tmod1 y 400 h400)
  all_goals have HR := Lib.hid hr
  all_goals clear hr h4 h100 h400
  all_goals
    go_enter Tryd.func25, Tryd.ntmps25
    go_wp2
    go_ret
    exact ⟨rfl, rfl⟩
set_option maxHeartbeats 4000000 in
theorem month_c (y m : Int) (w : World) (hy : InR y) (hm : InR m) : Calls Tryd.prog 22 #[.int .i64 y, .int .i64 m] w fun e w' => e = .returned (.int .i64 (Cal.dim y m)) ∧ w = w' := by
  have hl := Cal.leapB_lp y
  by_cases hin : 1 ≤ m ∧ m ≤ 12
  · have : m = 1 ∨ m = 2 ∨ m = 3 ∨ m = 4 ∨ m = 5 ∨ m = 6 ∨ m = 7 ∨ m = 8 ∨ m = 9 ∨ m = 10 ∨ m = 11 ∨ m = 12 := by omega
    clear hin
    rcases hl with ⟨hb, hp⟩ | ⟨hb, hp⟩ <;> rcases this with rfl | rfl | rfl | rfl | rfl | rfl | rfl | rfl | rfl | rfl | rfl | rfl
    all_goals have HP := Lib.hid hp
    all_goals clear hp
    all_goals
      go_enter Tryd.func22, Tryd.ntmps22
      go_wp2_with (first | (go_at_call 24; (with_reducible refine (leap_c _ _ (by omega)).mono ?_); rintro e w' ⟨rfl, rfl⟩) | go_in)
      go_ret
      exact ⟨by simp [Cal.dim, HP.out], rfl⟩
  · have HD := Lib.hid (Cal.dim_out y m (by omega))
    clear hl
    have n1 : (m == 1) = false := beq_false_of_ne (by omega)
    have n2 : (m == 2) = false := beq_false_of_ne (by omega)
    have n3 : (m == 3) = false := beq_false_of_ne (by omega)
    have n4 : (m == 4) = false := beq_false_of_ne (by omega)
    have n5 : (m == 5) = false := beq_false_of_ne (by omega)
    have n6 : (m == 6) = false := beq_false_of_ne (by omega)
    have n7 : (m == 7) = false := beq_false_of_ne (by omega)
    have n8 : (m == 8) = false := beq_false_of_ne (by omega)
    have n9 : (m == 9) = false := beq_false_of_ne (by omega)
    have n10 : (m == 10) = false := beq_false_of_ne (by omega)
    have n11 : (m == 11) = false := beq_false_of_ne (by omega)
    have n12 : (m == 12) = false := beq_false_of_ne (by omega)
    have hlt : m < 1 ∨ 12 < m := by omega
    clear hin
    rcases hlt with hlt | hlt
    all_goals
      go_enter Tryd.func22, Tryd.ntmps22
      go_wp2_with (first | (go_at_call 24; (with_reducible refine (leap_c _ _ (by omega)).mono ?_); rintro e w' ⟨rfl, rfl⟩) | go_in)
      go_ret
      exact ⟨by rw [HD.out]; rfl, rfl⟩
set_option maxHeartbeats 4000000 in
theorem rmonth_c (y m : Int) (w : World) (hy : InR y) (hm : InR m) : Calls Tryd.prog 23 #[.int .i64 y, .int .i64 m] w fun e w' => e = .returned (.int .i64 (Cal.dim y m)) ∧ Below w.heap.size w w' := by
  have hl := Cal.leapB_lp y
  by_cases hin : 1 ≤ m ∧ m ≤ 12
  · have : m = 1 ∨ m = 2 ∨ m = 3 ∨ m = 4 ∨ m = 5 ∨ m = 6 ∨ m = 7 ∨ m = 8 ∨ m = 9 ∨ m = 10 ∨ m = 11 ∨ m = 12 := by omega
    clear hin
    rcases hl with ⟨hb, hp⟩ | ⟨hb, hp⟩ <;> rcases this with rfl | rfl | rfl | rfl | rfl | rfl | rfl | rfl | rfl | rfl | rfl | rfl
    all_goals have HP := Lib.hid hp
    all_goals clear hp
    all_goals
      go_enter Tryd.func23, Tryd.ntmps23
      go_wp2_with (first | (go_at_call 25; (with_reducible refine (rleap_c _ _ (by omega)).mono ?_); rintro e w' ⟨rfl, rfl⟩) | go_in)
      go_ret
      exact ⟨by simp [Cal.dim, HP.out], by repeat (first | exact Below.refl _ _ | assumption | refine Below.trans ?_ (Below.mono (by assumption) (by simp <;> omega)) | exact Held.below (w0 := w) (by assumption) | refine Below.setCell ?_ (by simp <;> omega) _ | refine Below.alloc ?_ (by simp <;> omega) _ | refine Below.drew ?_ | refine below_drewN ?_ _)⟩
  · have HD := Lib.hid (Cal.dim_out y m (by omega))
    clear hl
    have n1 : (m == 1) = false := beq_false_of_ne (by omega)
    have n2 : (m == 2) = false := beq_false_of_ne (by omega)
    have n3 : (m == 3) = false := beq_false_of_ne (by omega)
    have n4 : (m == 4) = false := beq_false_of_ne (by omega)
    have n5 : (m == 5) = false := beq_false_of_ne (by omega)
    have n6 : (m == 6) = false := beq_false_of_ne (by omega)
    have n7 : (m == 7) = false := beq_false_of_ne (by omega)
    have n8 : (m == 8) = false := beq_false_of_ne (by omega)
    have n9 : (m == 9) = false := beq_false_of_ne (by omega)
    have n10 : (m == 10) = false := beq_false_of_ne (by omega)
    have n11 : (m == 11) = false := beq_false_of_ne (by omega)
    have n12 : (m == 12) = false := beq_false_of_ne (by omega)
    have hlt : m < 1 ∨ 12 < m := by omega
    clear hin
    rcases hlt with hlt | hlt
    all_goals
      go_enter Tryd.func23, Tryd.ntmps23
      go_wp2_with (first | (go_at_call 25; (with_reducible refine (rleap_c _ _ (by omega)).mono ?_); rintro e w' ⟨rfl, rfl⟩) | go_in)
      go_ret
      exact ⟨by rw [HD.out]; rfl, by repeat (first | exact Below.refl _ _ | assumption | refine Below.trans ?_ (Below.mono (by assumption) (by simp <;> omega)) | exact Held.below (w0 := w) (by assumption) | refine Below.setCell ?_ (by simp <;> omega) _ | refine Below.alloc ?_ (by simp <;> omega) _ | refine Below.drew ?_ | refine below_drewN ?_ _)⟩
end Go.Proofs.YtengchkiejpglaaDoor
