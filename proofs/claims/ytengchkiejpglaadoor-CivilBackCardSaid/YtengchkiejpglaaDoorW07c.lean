/-
  Layer 7: days, years, dates by days.
-/
import Derived.Test.YtengchkiejpglaaDoorW07b
import Derived.Deep.RegionHeld3
import Derived.LoopTactic
namespace Go.Proofs.YtengchkiejpglaaDoor
open Go.RowKit Go.Extern.Stop Go.Stop Go.Extern
set_option linter.unusedVariables false
set_option linter.unusedSimpArgs false
theorem ret_i {a b : Int} (h : a = b) : Ending.returned (.int .i64 a) = Ending.returned (.int .i64 b) := by rw [h]
theorem ahead_c (y : Int) (w : World) (h1 : 1 ≤ y) (h2 : y ≤ 10000) : Calls Tryd.prog 83 #[.int .i64 y] w fun e w' => e = .returned (.int .i64 (Cal.dby y)) ∧ w = w' := by
  go_enter Tryd.func83, Tryd.ntmps83
  go_wp2
  go_ret
  exact ⟨ret_i (by unfold Cal.dby; omega), rfl⟩
theorem days_no (y m d : Int) (w : World) (hy : InR y) (hm : InR m) (hd : InR d) (h : ¬ Cal.may y m d) : Calls Tryd.prog 20 #[.agg #[.int .i64 y, .int .i64 m, .int .i64 d]] w fun e w' => e = .returned (.tuple #[.int .i64 0, errV 1]) ∧ Below w.heap.size w w' := by
  go_enter Tryd.func20, Tryd.ntmps20
  go_wp2_with (first | (go_at_call 26; (with_reducible refine (check_no _ _ _ _ hy hm hd h).mono ?_); rintro e w' ⟨rfl, hb'⟩))
  go_ret2
  exact ⟨rfl, by repeat (first | exact Below.refl _ _ | assumption | refine Below.trans ?_ (Below.mono (by assumption) (by simp <;> omega)) | exact Held.below (w0 := w) (by assumption) | refine Below.setCell ?_ (by simp <;> omega) _ | refine Below.alloc ?_ (by simp <;> omega) _ | refine Below.drew ?_ | refine below_drewN ?_ _)⟩
set_option maxHeartbeats 2000000 in
theorem days_ok (y m d : Int) (w : World) (hy : InR y) (hm : InR m) (hd : InR d) (h : Cal.may y m d) : Calls Tryd.prog 20 #[.agg #[.int .i64 y, .int .i64 m, .int .i64 d]] w fun e w' => e = .returned (.tuple #[.int .i64 (Cal.num y m d), .nilIface]) ∧ Below w.heap.size w w' := by
  have h' := h
  obtain ⟨y1, y2, m1, m2, d1, d2⟩ := h'
  have yb := Cal.dby_bd y (by omega) (by omega)
  have dl := Cal.dim_lo y m
  go_enter Tryd.func20, Tryd.ntmps20
  go_wp2_with (first | (go_at_call 26; (with_reducible refine (check_ok _ _ _ _ hy hm hd h).mono ?_); rintro e w' ⟨rfl, hb'⟩; obtain ⟨hc, hf⟩ := bcell hb'; have hz := hb'.size; simp at hz; replace hz := Nat.lt_of_succ_le hz))
  go_quiet ((go_at_call 83; exact Calls.quiet_of_same ((ahead_c _ _ (by omega) (by omega)).mono fun _ _ ⟨a, b⟩ => ⟨a, b.symm⟩)))
  go_wp2_with (fail)
  go_loop [5, 6] (fun n k => ∃ j : Int, 1 ≤ j ∧ j ≤ m ∧ k = .int .i64 j ∧ n = .int .i64 (Cal.dby y + d - 1 + Cal.cum y j)) (fun _ k => (m - intOf k).toNat)
  case atStart => exact ⟨1, by omega, by omega, rfl, by simp [Cal.cum_one]⟩
  case round =>
    obtain ⟨j, hj1, hj2, rfl, rfl⟩ := hrel
    have cb := Cal.cum_bd y j
    have db := Cal.dim_lo y j
    have cs := Lib.hid (Cal.cum_succ y j hj1 (by omega))
    by_cases hlt : j < m
    · go_wp2_with (first | (go_at_call 22; (with_reducible refine (month_c _ _ _ (by omega) (by omega)).mono ?_); rintro e w' ⟨rfl, rfl⟩))
      go_round
      case rel => exact ⟨j + 1, by omega, by omega, rfl, by rw [cs.out]; go_num⟩
      case measure => simp [intOf]; omega
    · obtain rfl : j = m := by omega
      go_wp2_with (fail)
      go_ret2
      exact ⟨by unfold Cal.num; exact congrArg (fun z : Int => Ending.returned (.tuple #[.int .i64 z, .nilIface])) (by omega), by repeat (first | exact Below.refl _ _ | assumption | refine Below.trans ?_ (Below.mono (by assumption) (by simp <;> omega)) | exact Held.below (w0 := w) (by assumption) | refine Below.setCell ?_ (by simp <;> omega) _ | refine Below.alloc ?_ (by simp <;> omega) _ | refine Below.drew ?_ | refine below_drewN ?_ _)⟩
set_option maxHeartbeats 2000000 in
theorem year_c (y : Int) (w : World) (h1 : 1 ≤ y) (h2 : y ≤ 9999) : Calls Tryd.prog 85 #[.int .i64 y] w fun e w' => e = .returned (.int .i64 (Cal.dby y)) ∧ w = w' := by
  go_enter Tryd.func85, Tryd.ntmps85
  go_wp2_with (fail)
  go_loop [3, 4] (fun n k => ∃ j : Int, 1 ≤ j ∧ j ≤ y ∧ k = .int .i64 j ∧ n = .int .i64 (Cal.dby j)) (fun _ k => (y - intOf k).toNat)
  case atStart => exact ⟨1, by omega, by omega, rfl, by rw [Cal.dby_one]⟩
  case round =>
    obtain ⟨j, hj1, hj2, rfl, rfl⟩ := hrel
    have jb := Cal.dby_bd j (by omega) (by omega)
    have js := Cal.dby_succ j
    by_cases hlt : j < y
    · rcases Cal.leapB_lp j with ⟨hb, hp⟩ | ⟨hb, hp⟩
      all_goals
        rw [hp] at js
        have JS := Lib.hid js
        clear js hp
        go_wp2_with (first | (go_at_call 25; (with_reducible refine (rleap_c _ _ (by omega)).mono ?_); rintro e w' ⟨rfl, rfl⟩))
        go_round
        case rel => exact ⟨j + 1, by omega, by omega, rfl, by rw [JS.out] <;> go_num⟩
        case measure => simp [intOf]; omega
    · obtain rfl : j = y := by omega
      clear js
      go_wp2_with (fail)
      go_ret
      exact ⟨rfl, rfl⟩
set_option maxHeartbeats 2000000 in
theorem rdays_c (y m d : Int) (w : World) (hg : w.cell? ⟨0, 0, none⟩ = some asHandle) (h : Cal.may y m d) : Calls Tryd.prog 28 #[.agg #[.int .i64 y, .int .i64 m, .int .i64 d]] w fun e w' => e = .returned (.int .i64 (Cal.num y m d)) ∧ Below w.heap.size w w' := by
  have hH := Held.start hg
  obtain ⟨y1, y2, m1, m2, d1, d2⟩ := h
  have yb := Cal.dby_bd y (by omega) (by omega)
  have dl := Cal.dim_lo y m
  go_enter Tryd.func28, Tryd.ntmps28
  go_wp2_with (first | (go_at_call 85; (with_reducible refine (year_c _ _ (by omega) (by omega)).mono ?_); rintro e w' ⟨rfl, rfl⟩))
  go_loopw [3, 4] (fun n k wr => ∃ j : Int, 1 ≤ j ∧ j ≤ m ∧ k = .int .i64 j ∧ n = .int .i64 (Cal.dby y + Cal.cum y j) ∧ S3 w w.heap.size (.int .i64 y) (.int .i64 m) (.int .i64 d) wr) (fun _ k _ => (m - intOf k).toNat)
  case atStart => exact ⟨1, by omega, by omega, rfl, by simp [Cal.cum_one], ⟨Held.alloc hH _, by simp, by simp, by simp, by simp⟩⟩
  case round =>
    obtain ⟨j, hj1, hj2, rfl, rfl, hS⟩ := hrel
    have cb := Cal.cum_bd y j
    have db := Cal.dim_lo y j
    have cs := Lib.hid (Cal.cum_succ y j hj1 (by omega))
    have k0 := hS.2.2.1
    have k1 := hS.2.2.2.1
    have k2 := hS.2.2.2.2
    by_cases hlt : j < m
    · go_wp2_with (first | (go_at_call 23; (with_reducible refine (rmonth_c _ _ _ (by omega) (by omega)).mono ?_); rintro e w1 ⟨rfl, hb1⟩; have hS1 := S3.step hS hb1))
      go_roundw
      case rel => exact ⟨j + 1, by omega, by omega, rfl, by rw [cs.out]; go_num, hS1⟩
      case measure => simp [intOf]; omega
    · obtain rfl : j = m := by omega
      go_wp2_with (fail)
      go_ret
      exact ⟨ret_i (by unfold Cal.num; omega), hS.1.below⟩
set_option maxHeartbeats 1000000 in
theorem of_no (n : Int) (w : World) (hn : InR n) (h : n < -719162 ∨ 2932896 < n) : Calls Tryd.prog 21 #[.int .i64 n] w fun e w' => e = .returned (.tuple #[.agg #[.int .i64 0, .int .i64 0, .int .i64 0], errV 2]) ∧ Below w.heap.size w w' := by
  have hx := Cal.dby_max
  rcases h with h | h
  · go_enter Tryd.func21, Tryd.ntmps21
    go_wp2_with (first | (go_at_call 83; (with_reducible refine (ahead_c _ _ (by omega) (by omega)).mono ?_); rintro e w' ⟨rfl, rfl⟩))
    refine bodyPost_ret (v := .tuple #[.agg #[.int .i64 0, .int .i64 0, .int .i64 0], errV 2]) (by simp [results, Tryd.results21, go_sem]) rfl ⟨rfl, ?_⟩
    repeat (first | exact Below.refl _ _ | assumption | refine Below.trans ?_ (Below.mono (by assumption) (by simp <;> omega)) | exact Held.below (w0 := w) (by assumption) | refine Below.setCell ?_ (by simp <;> omega) _ | refine Below.alloc ?_ (by simp <;> omega) _ | refine Below.drew ?_ | refine below_drewN ?_ _)
  · have h' : ¬ n < -719162 := by omega
    go_enter Tryd.func21, Tryd.ntmps21
    go_wp2_with (first | (go_at_call 83; (with_reducible refine (ahead_c _ _ (by omega) (by omega)).mono ?_); rintro e w' ⟨rfl, rfl⟩))
    refine bodyPost_ret (v := .tuple #[.agg #[.int .i64 0, .int .i64 0, .int .i64 0], errV 2]) (by simp [results, Tryd.results21, go_sem]) rfl ⟨rfl, ?_⟩
    repeat (first | exact Below.refl _ _ | assumption | refine Below.trans ?_ (Below.mono (by assumption) (by simp <;> omega)) | exact Held.below (w0 := w) (by assumption) | refine Below.setCell ?_ (by simp <;> omega) _ | refine Below.alloc ?_ (by simp <;> omega) _ | refine Below.drew ?_ | refine below_drewN ?_ _)
def ofP (n : Int) (err : Value) (w : World) (e : Ending) (w' : World) : Prop := ∃ y m d : Int, Cal.may y m d ∧ Cal.num y m d = n ∧ e = .returned (.tuple #[.agg #[.int .i64 y, .int .i64 m, .int .i64 d], err]) ∧ Below w.heap.size w w'
theorem num_of (n y k : Int) : Cal.num y k (n + 719162 - Cal.dby y - Cal.cum y k + 1) = n := by unfold Cal.num; omega
set_option maxHeartbeats 4000000 in
theorem of_yes (n : Int) (w : World) (h1 : -719162 ≤ n) (h2 : n ≤ 2932896) : Calls Tryd.prog 21 #[.int .i64 n] w (ofP n .nilIface w) := by
  have hx := Cal.dby_max
  have g0 := Lib.hid (Cal.dby_guess (n + 719162) (by omega))
  have g1 := Cal.dby_guess_hi (n + 719162) (by omega) (by omega)
  go_enter Tryd.func21, Tryd.ntmps21
  go_wp2_with (first | (go_at_call 83; (with_reducible refine (ahead_c _ _ (by omega) (by omega)).mono ?_); rintro e w' ⟨rfl, rfl⟩))
  go_loop [4] (fun t => ∃ y : Int, 1 ≤ y ∧ y ≤ 9999 ∧ Cal.dby y ≤ n + 719162 ∧ t = .int .i64 y) (fun t => (9999 - intOf t).toNat)
  case atStart => exact ⟨_, g1.1, g1.2, g0.out, rfl⟩
  case round =>
    obtain ⟨y, hy1, hy2, hy3, rfl⟩ := hrel
    have yb := Cal.dby_bd (y + 1) (by omega) (by omega)
    have yb0 := Cal.dby_bd y (by omega) (by omega)
    by_cases hd : Cal.dby (y + 1) ≤ n + 719162
    · have hlt : y < 9999 := by
        by_cases e : y = 9999
        · subst e; have hxx : Cal.dby (9999 + 1) = 3652059 := hx; omega
        · omega
      clear hx
      go_wp2_with (first | (go_at_call 83; (with_reducible refine (ahead_c _ _ (by omega) (by omega)).mono ?_); rintro e w' ⟨rfl, rfl⟩))
      go_round
      case rel => exact ⟨y + 1, by omega, by omega, hd, rfl⟩
      case measure => simp [intOf]; omega
    · have hs := Lib.hid (Cal.dby_succ y)
      have hl := Cal.lp_01 y
      have hz : n + 719162 - Cal.dby y < 365 + Cal.lp y := by have := hs.out; omega
      clear hx
      go_wp2_with (first | (go_at_call 83; (with_reducible refine (ahead_c _ _ (by omega) (by omega)).mono ?_); rintro e w' ⟨rfl, rfl⟩))
      go_loop [5, 6] (fun r k => ∃ m : Int, 1 ≤ m ∧ m ≤ 12 ∧ k = .int .i64 m ∧ 0 ≤ n + 719162 - Cal.dby y - Cal.cum y m ∧ r = .int .i64 (n + 719162 - Cal.dby y - Cal.cum y m)) (fun _ k => (12 - intOf k).toNat)
      case atStart => exact ⟨1, by omega, by omega, rfl, by rw [Cal.cum_one]; omega, by rw [Cal.cum_one]; go_num⟩
      case round =>
        obtain ⟨m, hm1, hm2, rfl, hr, rfl⟩ := hrel
        have cb := Cal.cum_bd y m
        have db := Cal.dim_lo y m
        have cs := Lib.hid (Cal.cum_succ y m hm1 hm2)
        by_cases hc : Cal.dim y m ≤ n + 719162 - Cal.dby y - Cal.cum y m
        · have hm : m < 12 := by
            by_cases e : m = 12
            · subst e; have c1 := cs.out; have c2 := Cal.cum_last y; have c3 : Cal.cum y (12 + 1) = Cal.cum y 13 := rfl; omega
            · omega
          go_wp2_with (first | (go_at_call 22; (with_reducible refine (month_c _ _ _ (by omega) (by omega)).mono ?_); rintro e w' ⟨rfl, rfl⟩))
          go_round
          case rel => exact ⟨m + 1, by omega, by omega, rfl, by rw [cs.out]; omega, by rw [cs.out]; go_num⟩
          case measure => simp [intOf]; omega
        · go_wp2_with (first | (go_at_call 22; (with_reducible refine (month_c _ _ _ (by omega) (by omega)).mono ?_); rintro e w' ⟨rfl, rfl⟩))
          refine bodyPost_ret (v := .tuple #[.agg #[.int .i64 y, .int .i64 m, .int .i64 (n + 719162 - Cal.dby y - Cal.cum y m + 1)], .nilIface]) (by simp [results, Tryd.results21, go_sem]) rfl ⟨y, m, _, ⟨hy1, hy2, hm1, hm2, by omega, by omega⟩, num_of n y m, rfl, ?_⟩
          repeat (first | exact Below.refl _ _ | assumption | refine Below.trans ?_ (Below.mono (by assumption) (by simp <;> omega)) | exact Held.below (w0 := w) (by assumption) | refine Below.setCell ?_ (by simp <;> omega) _ | refine Below.alloc ?_ (by simp <;> omega) _ | refine Below.drew ?_ | refine below_drewN ?_ _)
set_option maxHeartbeats 1000000 in
theorem rof_no (n : Int) (w : World) (hn : InR n) (h : n < -719162 ∨ 2932896 < n) : Calls Tryd.prog 29 #[.int .i64 n] w fun e w' => e = .returned (.tuple #[.agg #[.int .i64 0, .int .i64 0, .int .i64 0], .int .i64 2]) ∧ Below w.heap.size w w' := by
  rcases h with h | h
  all_goals
    go_enter Tryd.func29, Tryd.ntmps29
    go_wp2_with (fail)
    refine bodyPost_ret (v := .tuple #[.agg #[.int .i64 0, .int .i64 0, .int .i64 0], .int .i64 2]) (by simp [results, Tryd.results29, go_sem]) rfl ⟨rfl, ?_⟩
    repeat (first | exact Below.refl _ _ | assumption | refine Below.trans ?_ (Below.mono (by assumption) (by simp <;> omega)) | exact Held.below (w0 := w) (by assumption) | refine Below.setCell ?_ (by simp <;> omega) _ | refine Below.alloc ?_ (by simp <;> omega) _ | refine Below.drew ?_ | refine below_drewN ?_ _)
/-- A block of three cells that may be written. -/
abbrev R3 (b : Nat) (x y z : Value) (wx : World) : Prop := b < wx.heap.size ∧ wx.cell? ⟨b, 0, none⟩ = some x ∧ wx.cell? ⟨b, 1, none⟩ = some y ∧ wx.cell? ⟨b, 2, none⟩ = some z ∧ wx.frozen? ⟨b, 0, none⟩ = false ∧ wx.frozen? ⟨b, 1, none⟩ = false ∧ wx.frozen? ⟨b, 2, none⟩ = false
theorem R3.step {b : Nat} {x y z : Value} {wx w' : World} (h : R3 b x y z wx) (hb : Below wx.heap.size wx w') : R3 b x y z w' :=
  ⟨Nat.lt_of_lt_of_le h.1 hb.size, by rw [hb.cell (p := ⟨b, 0, none⟩) h.1]; exact h.2.1, by rw [hb.cell (p := ⟨b, 1, none⟩) h.1]; exact h.2.2.1, by rw [hb.cell (p := ⟨b, 2, none⟩) h.1]; exact h.2.2.2.1, by rw [hb.frozen (p := ⟨b, 0, none⟩) h.1]; exact h.2.2.2.2.1, by rw [hb.frozen (p := ⟨b, 1, none⟩) h.1]; exact h.2.2.2.2.2.1, by rw [hb.frozen (p := ⟨b, 2, none⟩) h.1]; exact h.2.2.2.2.2.2⟩
set_option maxHeartbeats 4000000 in
theorem rof_yes (n : Int) (w : World) (h1 : -719162 ≤ n) (h2 : n ≤ 2932896) : Calls Tryd.prog 29 #[.int .i64 n] w (ofP n (.int .i64 0) w) := by
  have hx := Cal.dby_max
  go_enter Tryd.func29, Tryd.ntmps29
  go_wp2_with (fail)
  go_loopw [4, 6] (fun t u wr => ∃ y : Int, 1 ≤ y ∧ y ≤ 9999 ∧ Cal.dby y ≤ n + 719162 ∧ t = .int .i64 (n + 719162 - Cal.dby y) ∧ (∃ z, u = z) ∧ wr = (w.alloc (.cells #[.int .i64 0, .int .i64 0, .int .i64 0] 23)).alloc (.cells #[.int .i64 y, .int .i64 1, .int .i64 1] 23)) (fun t _ _ => (intOf t).toNat)
  case atStart => exact ⟨1, by omega, by omega, by rw [Cal.dby_one]; omega, by rw [Cal.dby_one]; go_num, ⟨_, rfl⟩, rfl⟩
  case round =>
    obtain ⟨y, hy1, hy2, hy3, rfl, ⟨z, rfl⟩, rfl⟩ := hrel
    have yb := Cal.dby_bd (y + 1) (by omega) (by omega)
    have yb0 := Cal.dby_bd y (by omega) (by omega)
    have hs := Lib.hid (Cal.dby_succ y)
    by_cases hd : Cal.dby (y + 1) ≤ n + 719162
    · have hlt : y < 9999 := by
        by_cases e : y = 9999
        · subst e; have hxx : Cal.dby (9999 + 1) = 3652059 := hx; omega
        · omega
      clear hx
      rcases Cal.leapB_lp y with ⟨hb, hp⟩ | ⟨hb, hp⟩
      all_goals
        have hs' : Cal.dby (y + 1) ≤ Cal.dby y + 365 + Cal.lp y ∧ Cal.dby y + 365 + Cal.lp y ≤ Cal.dby (y + 1) := by have := hs.out; omega
        rw [hp] at hs'
        clear hp
        go_wp2_with (first | (go_at_call 25; (with_reducible refine (rleap_c _ _ (by omega)).mono ?_); rintro e w' ⟨rfl, rfl⟩))
        go_roundw
        case rel => exact ⟨y + 1, by omega, by omega, hd, by go_num, ⟨_, rfl⟩, rfl⟩
        case measure => simp [intOf]; omega
    · rcases Cal.leapB_lp y with ⟨hb, hp⟩ | ⟨hb, hp⟩
      all_goals
        have hl := Cal.lp_01 y
        have hz : n + 719162 - Cal.dby y < 365 + Cal.lp y := by have := hs.out; omega
        have hz' := hz
        rw [hp] at hz'
        (first | have hdz : decide (n + 719162 - Cal.dby y < 366) = true := okDec hz' | have hdz : decide (n + 719162 - Cal.dby y < 365) = true := okDec hz')
        have HP := Lib.hid hp
        clear hx hp
        go_wp2_with (first | (go_at_call 25; (with_reducible refine (rleap_c _ _ (by omega)).mono ?_); rintro e w' ⟨rfl, rfl⟩))
        go_loopw [4] (fun t wr => ∃ m : Int, 1 ≤ m ∧ m ≤ 12 ∧ 0 ≤ n + 719162 - Cal.dby y - Cal.cum y m ∧ t = .int .i64 (n + 719162 - Cal.dby y - Cal.cum y m) ∧ Below w.heap.size w wr ∧ R3 w.heap.size (.int .i64 0) (.int .i64 0) (.int .i64 0) wr ∧ R3 (w.heap.size + 1) (.int .i64 y) (.int .i64 m) (.int .i64 1) wr) (fun t _ => (intOf t).toNat)
        case atStart => exact ⟨1, by omega, by omega, by rw [Cal.cum_one]; omega, by simp [Cal.cum_one], by repeat (first | exact Below.refl _ _ | assumption | refine Below.trans ?_ (Below.mono (by assumption) (by simp <;> omega)) | exact Held.below (w0 := w) (by assumption) | refine Below.setCell ?_ (by simp <;> omega) _ | refine Below.alloc ?_ (by simp <;> omega) _ | refine Below.drew ?_ | refine below_drewN ?_ _), ⟨by simp <;> omega, by simp, by simp, by simp, by simp, by simp, by simp⟩, ⟨by simp, by simp, by simp, by simp, by simp, by simp, by simp⟩⟩
        case round =>
          obtain ⟨m, hm1, hm2, hr, rfl, hB, hA, hD⟩ := hrel
          have cb := Cal.cum_bd y m
          have db := Cal.dim_lo y m
          have di := Cal.dim_in y m hm1 hm2
          have cs := Lib.hid (Cal.cum_succ y m hm1 hm2)
          obtain ⟨a0, a1, a2, a3, a4, a5, a6⟩ := id hA
          obtain ⟨b0, b1, b2, b3, b4, b5, b6⟩ := id hD
          by_cases hc : Cal.dim y m ≤ n + 719162 - Cal.dby y - Cal.cum y m
          · have hm : m < 12 := by
              by_cases e : m = 12
              · subst e; have c1 := cs.out; have c2 := Cal.cum_last y; have c3 : Cal.cum y (12 + 1) = Cal.cum y 13 := rfl; have := HP.out; omega
              · omega
            go_wp2_with (first | (go_at_call 23; (with_reducible refine (rmonth_c _ _ _ (by omega) (by omega)).mono ?_); rintro e w' ⟨rfl, hb'⟩; replace hA := R3.step hA hb'; replace hD := R3.step hD hb'; replace hB := hB.trans (hb'.mono hB.size); clear hb' a0 a1 a2 a3 a4 a5 a6 b0 b1 b2 b3 b4 b5 b6; obtain ⟨a0, a1, a2, a3, a4, a5, a6⟩ := id hA; obtain ⟨b0, b1, b2, b3, b4, b5, b6⟩ := id hD))
            go_roundw
            case rel => exact ⟨m + 1, by omega, by omega, by rw [cs.out]; omega, by rw [cs.out]; go_num, by repeat (first | exact Below.refl _ _ | assumption | refine Below.trans ?_ (Below.mono (by assumption) (by simp <;> omega)) | exact Held.below (w0 := w) (by assumption) | refine Below.setCell ?_ (by simp <;> omega) _ | refine Below.alloc ?_ (by simp <;> omega) _ | refine Below.drew ?_ | refine below_drewN ?_ _), ⟨by simp; omega, by go_simp, by go_simp, by go_simp, by go_simp, by go_simp, by go_simp⟩, ⟨by simp; omega, by go_simp, by go_simp, by go_simp, by go_simp, by go_simp, by go_simp⟩⟩
            case measure => simp [intOf]; omega
          · go_wp2_with (first | (go_at_call 23; (with_reducible refine (rmonth_c _ _ _ (by omega) (by omega)).mono ?_); rintro e w' ⟨rfl, hb'⟩; replace hA := R3.step hA hb'; replace hD := R3.step hD hb'; replace hB := hB.trans (hb'.mono hB.size); clear hb' a0 a1 a2 a3 a4 a5 a6 b0 b1 b2 b3 b4 b5 b6; obtain ⟨a0, a1, a2, a3, a4, a5, a6⟩ := id hA; obtain ⟨b0, b1, b2, b3, b4, b5, b6⟩ := id hD))
            refine bodyPost_ret (v := .tuple #[.agg #[.int .i64 y, .int .i64 m, .int .i64 (n + 719162 - Cal.dby y - Cal.cum y m + 1)], .int .i64 0]) (by first | (simp [results, Tryd.results29, go_sem]; done) | (simp only [results, Tryd.results29]; go_simp; done) | (simp only [results, Tryd.results29]; go_simp; omega)) rfl ⟨y, m, _, ⟨hy1, hy2, hm1, hm2, by omega, by omega⟩, num_of n y m, rfl, ?_⟩
            repeat (first | exact Below.refl _ _ | assumption | refine Below.trans ?_ (Below.mono (by assumption) (by simp <;> omega)) | exact Held.below (w0 := w) (by assumption) | refine Below.setCell ?_ (by simp <;> omega) _ | refine Below.alloc ?_ (by simp <;> omega) _ | refine Below.drew ?_ | refine below_drewN ?_ _)
end Go.Proofs.YtengchkiejpglaaDoor
