/-
  Layer 24: walks of quant and of its statements.
-/
import Derived.Test.YtengchkiejpglaaDoorV01
namespace Go.Proofs.YtengchkiejpglaaDoor
open Go.RowKit Go.Extern.Stop Go.Stop Go.Extern
set_option linter.unusedVariables false
abbrev MayQ (q : Int) : Prop := 1 ≤ q ∧ q ≤ 68719476736
def upq (t q : Int) : Int := if t % q = 0 then t else t + (q - t % q)
theorem down_mul (t q : Int) : t / q * q = t - t % q := by have := Int.ediv_mul_add_emod t q; omega
theorem up_mul (t q : Int) : cdiv t q * q = upq t q := by
  have h := Int.ediv_mul_add_emod t q
  unfold cdiv upq
  split
  · omega
  · rw [Int.add_mul]; omega
theorem mayq_no (q : Int) (h : ¬ MayQ q) : q < 1 ∨ 68719476736 < q := by omega
theorem qdown_no (t q : Int) (w : World) (h : ¬ MayQ q) : Calls Tryd.prog 54 #[.int .i64 t, .int .i64 q] w fun e w' => e = .returned (.tuple #[.int .i64 0, errV 1]) ∧ w = w' := by
  rcases mayq_no q h with h | h
  all_goals first | have hd : decide (q ≤ 68719476736) = true := decide_eq_true (by omega) | have hd : decide (q ≤ 68719476736) = false := decide_eq_false (by omega)
  all_goals
    go_enter Tryd.func54, Tryd.ntmps54
    go_wp2
    go_ret2
    exact ⟨rfl, rfl⟩
theorem qup_no (t q : Int) (w : World) (h : ¬ MayQ q) : Calls Tryd.prog 56 #[.int .i64 t, .int .i64 q] w fun e w' => e = .returned (.tuple #[.int .i64 0, errV 1]) ∧ w = w' := by
  rcases mayq_no q h with h | h
  all_goals first | have hd : decide (q ≤ 68719476736) = true := decide_eq_true (by omega) | have hd : decide (q ≤ 68719476736) = false := decide_eq_false (by omega)
  all_goals
    go_enter Tryd.func56, Tryd.ntmps56
    go_wp2
    go_ret2
    exact ⟨rfl, rfl⟩
theorem qplace_no (t q : Int) (w : World) (h : ¬ MayQ q) : Calls Tryd.prog 58 #[.int .i64 t, .int .i64 q] w fun e w' => e = .returned (.tuple #[.int .i64 0, errV 1]) ∧ w = w' := by
  rcases mayq_no q h with h | h
  all_goals first | have hd : decide (q ≤ 68719476736) = true := decide_eq_true (by omega) | have hd : decide (q ≤ 68719476736) = false := decide_eq_false (by omega)
  all_goals
    go_enter Tryd.func58, Tryd.ntmps58
    go_wp2
    go_ret2
    exact ⟨rfl, rfl⟩
theorem qis_no (t q : Int) (w : World) (h : ¬ MayQ q) : Calls Tryd.prog 62 #[.int .i64 t, .int .i64 q] w fun e w' => e = .returned (.bool false) ∧ w = w' := by
  rcases mayq_no q h with h | h
  all_goals first | have hd : decide (q ≤ 68719476736) = true := decide_eq_true (by omega) | have hd : decide (q ≤ 68719476736) = false := decide_eq_false (by omega)
  all_goals
    go_enter Tryd.func62, Tryd.ntmps62
    go_wp2
    go_ret
    exact ⟨rfl, rfl⟩
theorem rdown_no (t q : Int) (w : World) (h : ¬ MayQ q) : Calls Tryd.prog 55 #[.int .i64 t, .int .i64 q] w fun e w' => e = .returned (.tuple #[.int .i64 0, .int .i64 1]) ∧ w = w' := by
  rcases mayq_no q h with h | h
  all_goals first | have hd : decide (q ≤ 68719476736) = true := decide_eq_true (by omega) | have hd : decide (q ≤ 68719476736) = false := decide_eq_false (by omega)
  all_goals
    go_enter Tryd.func55, Tryd.ntmps55
    go_wp2
    go_ret2
    exact ⟨rfl, rfl⟩
theorem qcheck_no (q : Int) (w : World) (h : ¬ MayQ q) : Calls Tryd.prog 60 #[.int .i64 q] w fun e w' => e = .returned (errV 1) ∧ w = w' := by
  rcases mayq_no q h with h | h
  all_goals first | have hd : decide (q ≤ 68719476736) = true := decide_eq_true (by omega) | have hd : decide (q ≤ 68719476736) = false := decide_eq_false (by omega)
  all_goals
    go_enter Tryd.func60, Tryd.ntmps60
    go_wp2
    go_ret
    exact ⟨rfl, rfl⟩
theorem rmay_no (q : Int) (w : World) (h : ¬ MayQ q) : Calls Tryd.prog 61 #[.int .i64 q] w fun e w' => e = .returned (.bool false) ∧ w = w' := by
  rcases mayq_no q h with h | h
  all_goals first | have hd : decide (q ≤ 68719476736) = true := decide_eq_true (by omega) | have hd : decide (q ≤ 68719476736) = false := decide_eq_false (by omega)
  all_goals
    go_enter Tryd.func61, Tryd.ntmps61
    go_wp2
    go_ret
    exact ⟨rfl, rfl⟩
theorem qcheck_ok (q : Int) (w : World) (h : MayQ q) : Calls Tryd.prog 60 #[.int .i64 q] w fun e w' => e = .returned (.nilIface) ∧ w = w' := by
  go_enter Tryd.func60, Tryd.ntmps60
  go_wp2
  go_ret
  exact ⟨rfl, rfl⟩
theorem rmay_ok (q : Int) (w : World) (h : MayQ q) : Calls Tryd.prog 61 #[.int .i64 q] w fun e w' => e = .returned (.bool true) ∧ w = w' := by
  go_enter Tryd.func61, Tryd.ntmps61
  go_wp2
  go_ret
  exact ⟨rfl, rfl⟩
theorem rup_no (t q : Int) (w : World) (h : ¬ MayQ q) : Calls Tryd.prog 57 #[.int .i64 t, .int .i64 q] w fun e w' => e = .returned (.tuple #[.int .i64 0, .int .i64 1]) ∧ w = w' := by
  rcases mayq_no q h with h | h
  all_goals first | have hd : decide (q ≤ 68719476736) = true := decide_eq_true (by omega) | have hd : decide (q ≤ 68719476736) = false := decide_eq_false (by omega)
  all_goals
    go_enter Tryd.func57, Tryd.ntmps57
    go_wp2
    go_ret2
    exact ⟨rfl, rfl⟩
theorem qplace_ok (t q : Int) (w : World) (ht : InR t) (h : MayQ q) : Calls Tryd.prog 58 #[.int .i64 t, .int .i64 q] w fun e w' => e = .returned (.tuple #[.int .i64 (t / q), .nilIface]) ∧ Below w.heap.size w w' := by
  have hq : InR q := by omega
  go_enter Tryd.func58, Tryd.ntmps58
  go_wp2_with (first | (go_at_call 90; refine (div_ok _ _ _ ht hq h.1).mono ?_; rintro e w' ⟨rfl, hb'⟩) | go_in)
  go_ret2
  exact ⟨rfl, hb'⟩
theorem qis_yes (t q : Int) (w : World) (ht : InR t) (h : MayQ q) (hz : t % q = 0) : Calls Tryd.prog 62 #[.int .i64 t, .int .i64 q] w fun e w' => e = .returned (.bool true) ∧ w = w' := by
  have h2 : (t.tmod q == 0) = true := beq_iff_eq.2 (Int.tmod_eq_zero_of_dvd (Int.dvd_of_emod_eq_zero hz))
  clear hz
  go_enter Tryd.func62, Tryd.ntmps62
  go_wp2
  go_ret
  exact ⟨rfl, rfl⟩
theorem qis_not (t q : Int) (w : World) (ht : InR t) (h : MayQ q) (hz : t % q ≠ 0) : Calls Tryd.prog 62 #[.int .i64 t, .int .i64 q] w fun e w' => e = .returned (.bool false) ∧ w = w' := by
  have h2 : (t.tmod q == 0) = false := beq_false_of_ne fun hc => hz (Int.emod_eq_zero_of_dvd (Int.dvd_of_tmod_eq_zero hc))
  clear hz
  go_enter Tryd.func62, Tryd.ntmps62
  go_wp2
  go_ret
  exact ⟨rfl, rfl⟩
def qdownP (t q : Int) (w : World) (e : Ending) (w' : World) : Prop := (InR (t - t % q) ∧ e = .returned (.tuple #[.int .i64 (t - t % q), .nilIface]) ∧ Below w.heap.size w w') ∨ (¬ InR (t - t % q) ∧ e = .returned (.tuple #[.int .i64 0, errV 2]) ∧ Below w.heap.size w w')
def qupP (t q : Int) (w : World) (e : Ending) (w' : World) : Prop := (InR (upq t q) ∧ e = .returned (.tuple #[.int .i64 (upq t q), .nilIface]) ∧ Below w.heap.size w w') ∨ (¬ InR (upq t q) ∧ e = .returned (.tuple #[.int .i64 0, errV 2]) ∧ Below w.heap.size w w')
def rdownP (t q : Int) (w : World) (e : Ending) (w' : World) : Prop := (InR (t - t % q) ∧ e = .returned (.tuple #[.int .i64 (t - t % q), .int .i64 0]) ∧ Below w.heap.size w w') ∨ (¬ InR (t - t % q) ∧ e = .returned (.tuple #[.int .i64 0, .int .i64 2]) ∧ Below w.heap.size w w')
def rupP (t q : Int) (w : World) (e : Ending) (w' : World) : Prop := (InR (upq t q) ∧ e = .returned (.tuple #[.int .i64 (upq t q), .int .i64 0]) ∧ Below w.heap.size w w') ∨ (¬ InR (upq t q) ∧ e = .returned (.tuple #[.int .i64 0, .int .i64 2]) ∧ Below w.heap.size w w')
theorem qdown_c (t q : Int) (w : World) (ht : InR t) (h : MayQ q) : Calls Tryd.prog 54 #[.int .i64 t, .int .i64 q] w (qdownP t q w) := by
  have hq : InR q := by omega
  have hd := div_rng t q ht h.1
  have HM := Lib.hid (down_mul t q)
  go_enter Tryd.func54, Tryd.ntmps54
  go_wp2_with (first | (go_at_call 58; refine (qplace_ok _ _ _ ht h).mono ?_; rintro e w' ⟨rfl, hb'⟩) | (go_at_call 97; refine (mul_c _ _ _ hd hq).mono ?_; rintro e w' (⟨h1, rfl, rfl⟩ | ⟨h1, rfl, rfl⟩)) | go_in)
  all_goals go_ret2
  · exact Or.inl ⟨HM.out ▸ h1, retT2 (intV HM.out) rfl, hb'⟩
  · exact Or.inr ⟨HM.out ▸ h1, rfl, hb'⟩
theorem cdiv_in (t q : Int) (ht : InR t) (h : 1 ≤ q) : InR (cdiv t q) := by
  unfold cdiv
  split
  · exact div_rng t q ht h
  · exact cdiv_rng t q ht h (by assumption)
theorem qup_c (t q : Int) (w : World) (ht : InR t) (h : MayQ q) : Calls Tryd.prog 56 #[.int .i64 t, .int .i64 q] w (qupP t q w) := by
  have hq : InR q := by omega
  have hd := cdiv_in t q ht h.1
  have HM := Lib.hid (up_mul t q)
  go_enter Tryd.func56, Tryd.ntmps56
  go_wp2_with (first | (go_at_call 99; refine (ceil_ok _ _ _ ht hq h.1).mono ?_; rintro e w' ⟨rfl, rfl⟩) | (go_at_call 97; refine (mul_c _ _ _ hd hq).mono ?_; rintro e w' (⟨h1, rfl, rfl⟩ | ⟨h1, rfl, rfl⟩)) | go_in)
  all_goals go_ret2
  · exact Or.inl ⟨HM.out ▸ h1, retT2 (intV HM.out) rfl, Below.refl _ _⟩
  · exact Or.inr ⟨HM.out ▸ h1, rfl, Below.refl _ _⟩
theorem rdown_c (t q : Int) (w : World) (ht : InR t) (h : MayQ q) : Calls Tryd.prog 55 #[.int .i64 t, .int .i64 q] w (rdownP t q w) := by
  have hq : InR q := by omega
  have hr0 := Int.emod_nonneg t (b := q) (by omega)
  have hr1 := Int.emod_lt_of_pos t (b := q) (by omega)
  go_enter Tryd.func55, Tryd.ntmps55
  go_wp2_with (first | (go_at_call 64; refine (rdiv_ok _ _ _ ht hq h.1).mono ?_; rintro e w' ⟨rfl, hb'⟩) | (go_at_call 98; refine (rless_c _ _ _ (by omega) (by omega)).mono ?_; rintro e w' (⟨h1, rfl, rfl⟩ | ⟨h1, rfl, rfl⟩ | ⟨h1, rfl, rfl⟩)) | go_in)
  all_goals go_ret2
  · exact Or.inl ⟨h1, rfl, hb'⟩
  · exact Or.inr ⟨by omega, rfl, hb'⟩
  · exact Or.inr ⟨by omega, rfl, hb'⟩
theorem rup_c (t q : Int) (w : World) (ht : InR t) (h : MayQ q) : Calls Tryd.prog 57 #[.int .i64 t, .int .i64 q] w (rupP t q w) := by
  have hq : InR q := by omega
  have hr0 := Int.emod_nonneg t (b := q) (by omega)
  have hr1 := Int.emod_lt_of_pos t (b := q) (by omega)
  by_cases hz : t % q = 0
  · have HU := Lib.hid (show upq t q = t from if_pos hz)
    have hz' : (t % q == 0) = true := beq_iff_eq.2 hz
    clear hz
    go_enter Tryd.func57, Tryd.ntmps57
    go_wp2_with (first | (go_at_call 64; refine (rdiv_ok _ _ _ ht hq h.1).mono ?_; rintro e w' ⟨rfl, hb'⟩) | go_in)
    go_ret2
    exact Or.inl ⟨HU.out.symm ▸ ht, retT2 (intV HU.out.symm) rfl, hb'⟩
  · have HU := Lib.hid (show upq t q = t + (q - t % q) from if_neg hz)
    have hz' : (t % q == 0) = false := beq_false_of_ne hz
    clear hz
    go_enter Tryd.func57, Tryd.ntmps57
    go_wp2_with (first | (go_at_call 64; refine (rdiv_ok _ _ _ ht hq h.1).mono ?_; rintro e w' ⟨rfl, hb'⟩) | (go_at_call 94; refine (rsum_c _ _ _ (by omega) (by omega)).mono ?_; rintro e w' (⟨h1, rfl, rfl⟩ | ⟨h1, rfl, rfl⟩ | ⟨h1, rfl, rfl⟩)) | go_in)
    all_goals go_ret2
    · exact Or.inl ⟨HU.out.symm ▸ h1, retT2 (intV HU.out.symm) rfl, hb'⟩
    · exact Or.inr ⟨fun hc => by rw [HU.out] at hc; omega, rfl, hb'⟩
    · exact Or.inr ⟨fun hc => by rw [HU.out] at hc; omega, rfl, hb'⟩
end Go.Proofs.YtengchkiejpglaaDoor
