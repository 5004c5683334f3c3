/-
  Layer 17: the statement DriftGrows.
-/
import Derived.Test.YtffdglhdklmjoaaDoorW02u
import Derived.Test.YtffdglhdklmjoaaDoorW17
namespace Go.Proofs.YtffdglhdklmjoaaDoor
open Go.RowKit Go.Extern.Stop Go.Stop Go.Extern
set_option linter.unusedVariables false
set_option linter.unusedSimpArgs false
theorem rsum_in (a b : Int) (w : World) (ha : InR a) (hb : InR b) (h : InR (a + b)) : Calls Tryd.prog 121 #[.int .i64 a, .int .i64 b] w fun e w' => e = .returned (.tuple #[.int .i64 (a + b), .int .i64 0]) ∧ w = w' := by
  refine (rsum_c a b w ha hb).mono ?_
  rintro e w' (⟨_, rfl, rfl⟩ | ⟨h', rfl, rfl⟩ | ⟨h', rfl, rfl⟩)
  · exact ⟨rfl, rfl⟩
  · exfalso; omega
  · exfalso; omega
theorem rsum_hi (a b : Int) (w : World) (ha : InR a) (hb : InR b) (h : 9223372036854775807 < a + b) : Calls Tryd.prog 121 #[.int .i64 a, .int .i64 b] w fun e w' => e = .returned (.tuple #[.int .i64 0, .int .i64 1]) ∧ w = w' := by
  refine (rsum_c a b w ha hb).mono ?_
  rintro e w' (⟨h', rfl, rfl⟩ | ⟨h', rfl, rfl⟩ | ⟨h', rfl, rfl⟩)
  · exfalso; omega
  · exact ⟨rfl, rfl⟩
  · exfalso; omega
theorem upK_rng {g rho : Int} (g0 : 0 ≤ g) (g1 : g ≤ 9223372036854775807) (r0 : 0 ≤ rho) (r1 : rho ≤ 2097152) : 0 ≤ upK (g * rho) ∧ upK (g * rho) ≤ 18014398509481984 := by
  have := mul_rho g0 g1 r0 r1
  unfold upK; omega
set_option maxRecDepth 100000 in
theorem rgrow_v (err rho gone v : Int) (w : World) (h0 : 0 ≤ err) (h1 : err ≤ 9223372036854775807) (r0 : 0 ≤ rho) (r1 : rho ≤ 2097152) (g0 : 0 ≤ gone) (g1 : gone ≤ 9223372036854775807) (hv : Hid (sat (err + upK (gone * rho)) = v)) :
    Calls Tryd.prog 94 #[.int .i64 err, .int .i64 rho, .int .i64 gone] w fun e w' => e = .returned (.tuple #[.int .i64 v, .int .i64 0]) ∧ Below w.heap.size w w' := by
  have hu := upK_rng g0 g1 r0 r1
  obtain ⟨U, hU⟩ : ∃ U, upK (gone * rho) = U := ⟨_, rfl⟩
  have hM : ∀ w : World, Calls Tryd.prog 126 #[.int .i64 rho, .int .i64 gone] w fun e w' => e = .returned (.int .i64 U) ∧ Below w.heap.size w w' := fun w => by rw [← hU]; exact rmore17 rho gone w r0 r1 g0 g1
  rw [hU] at hu hv
  clear hU
  have hd1 : decide (rho ≤ 2097152) = true := decide_eq_true r1
  by_cases h : err + U ≤ 9223372036854775807
  · obtain rfl : v = err + U := by rw [← hv.out]; exact sat_in (by omega)
    clear hv
    go_enter Tryd.func94, Tryd.ntmps94
    go_wp2_with (first | (go_at_call 126; (with_reducible refine (hM _).mono ?_); rintro e w1 ⟨rfl, hb1⟩) | (go_at_call 121; (with_reducible refine (rsum_in _ _ _ (by omega) (by omega) (by omega)).mono ?_); rintro e w2 ⟨rfl, rfl⟩) | go_in)
    go_ret2
    exact ⟨rfl, hb1⟩
  · obtain rfl : v = 9223372036854775807 := by rw [← hv.out]; exact sat_hi (by omega)
    clear hv
    go_enter Tryd.func94, Tryd.ntmps94
    go_wp2_with (first | (go_at_call 126; (with_reducible refine (hM _).mono ?_); rintro e w1 ⟨rfl, hb1⟩) | (go_at_call 121; (with_reducible refine (rsum_hi _ _ _ (by omega) (by omega) (by omega)).mono ?_); rintro e w2 ⟨rfl, rfl⟩) | go_in)
    go_ret2
    exact ⟨rfl, hb1⟩
/-- what keeps the parts within what may be -/
theorem bad4 {err rho x : Int} (h : ¬ (0 ≤ err ∧ 0 ≤ rho ∧ rho ≤ 2097152 ∧ 0 ≤ x)) : err < 0 ∨ (0 ≤ err ∧ rho < 0) ∨ (0 ≤ err ∧ 0 ≤ rho ∧ 2097152 < rho) ∨ (0 ≤ err ∧ 0 ≤ rho ∧ rho ≤ 2097152 ∧ x < 0) := by omega
set_option maxRecDepth 100000 in
theorem rgrow_no (err rho x : Int) (w : World) (h : ¬ (0 ≤ err ∧ 0 ≤ rho ∧ rho ≤ 2097152 ∧ 0 ≤ x)) :
    Calls Tryd.prog 94 #[.int .i64 err, .int .i64 rho, .int .i64 x] w fun e w' => e = .returned (.tuple #[.int .i64 0, .int .i64 1]) ∧ Below w.heap.size w w' := by
  rcases bad4 h with h | h | h | h
  all_goals first | have hd1 : decide (rho ≤ 2097152) = true := decide_eq_true (by omega) | have hd1 : decide (rho ≤ 2097152) = false := decide_eq_false (by omega) | skip
  all_goals
    go_enter Tryd.func94, Tryd.ntmps94
    go_wp2_with (fail)
    go_ret2
    exact ⟨rfl, Below.refl _ _⟩
set_option maxRecDepth 100000 in
theorem runtil_no (err rho x : Int) (w : World) (h : ¬ (0 ≤ err ∧ 0 ≤ rho ∧ rho ≤ 2097152 ∧ 0 ≤ x)) :
    Calls Tryd.prog 96 #[.int .i64 err, .int .i64 rho, .int .i64 x] w fun e w' => e = .returned (.tuple #[.int .i64 0, .int .i64 1]) ∧ Below w.heap.size w w' := by
  rcases bad4 h with h | h | h | h
  all_goals first | have hd1 : decide (rho ≤ 2097152) = true := decide_eq_true (by omega) | have hd1 : decide (rho ≤ 2097152) = false := decide_eq_false (by omega) | skip
  all_goals
    go_enter Tryd.func96, Tryd.ntmps96
    go_wp2_with (fail)
    go_ret2
    exact ⟨rfl, Below.refl _ _⟩
set_option maxRecDepth 100000 in
theorem grow_no (err rho x : Int) (w : World) (h : ¬ (0 ≤ err ∧ 0 ≤ rho ∧ rho ≤ 2097152 ∧ 0 ≤ x)) :
    Calls Tryd.prog 93 #[.int .i64 err, .int .i64 rho, .int .i64 x] w fun e w' => e = .returned (.tuple #[.int .i64 0, errV 1]) ∧ Below w.heap.size w w' := by
  rcases bad4 h with h | h | h | h
  all_goals first | have hd1 : decide (rho ≤ 2097152) = true := decide_eq_true (by omega) | have hd1 : decide (rho ≤ 2097152) = false := decide_eq_false (by omega) | skip
  all_goals
    go_enter Tryd.func93, Tryd.ntmps93
    go_wp2_with (fail)
    go_ret2
    exact ⟨rfl, Below.refl _ _⟩
set_option maxRecDepth 100000 in
theorem until_no (err rho x : Int) (w : World) (h : ¬ (0 ≤ err ∧ 0 ≤ rho ∧ rho ≤ 2097152 ∧ 0 ≤ x)) :
    Calls Tryd.prog 95 #[.int .i64 err, .int .i64 rho, .int .i64 x] w fun e w' => e = .returned (.tuple #[.int .i64 0, errV 1]) ∧ Below w.heap.size w w' := by
  rcases bad4 h with h | h | h | h
  all_goals first | have hd1 : decide (rho ≤ 2097152) = true := decide_eq_true (by omega) | have hd1 : decide (rho ≤ 2097152) = false := decide_eq_false (by omega) | skip
  all_goals
    go_enter Tryd.func95, Tryd.ntmps95
    go_wp2_with (fail)
    go_ret2
    exact ⟨rfl, Below.refl _ _⟩
set_option maxRecDepth 100000 in
theorem runtil_past (err rho m : Int) (w : World) (h0 : 0 ≤ err) (r0 : 0 ≤ rho) (r1 : rho ≤ 2097152) (m0 : 0 ≤ m) (m1 : m ≤ 9223372036854775807) (h : m < err) : Calls Tryd.prog 96 #[.int .i64 err, .int .i64 rho, .int .i64 m] w fun e w' => e = .returned (.tuple #[.int .i64 0, .int .i64 10]) ∧ Below w.heap.size w w' := by
  have hd1 : decide (rho ≤ 2097152) = true := decide_eq_true r1
  go_enter Tryd.func96, Tryd.ntmps96
  go_wp2_with (fail)
  go_ret2
  exact ⟨rfl, Below.refl _ _⟩
set_option maxRecDepth 100000 in
theorem runtil_max (err rho m : Int) (w : World) (h0 : 0 ≤ err) (r0 : 0 ≤ rho) (r1 : rho ≤ 2097152) (m0 : 0 ≤ m) (m1 : m ≤ 9223372036854775807) (h : err ≤ m) (V : Int) (HV : Hid (sat (err + upK (9223372036854775807 * rho)) = V)) (hv : V ≤ m) : Calls Tryd.prog 96 #[.int .i64 err, .int .i64 rho, .int .i64 m] w fun e w' => e = .returned (.tuple #[.int .i64 9223372036854775807, .int .i64 0]) ∧ Below w.heap.size w w' := by
  have hd1 : decide (rho ≤ 2097152) = true := decide_eq_true r1
  go_enter Tryd.func96, Tryd.ntmps96
  go_wp2_with (go_at_call 94; (with_reducible refine (rgrow_v err rho _ V _ h0 (by omega) r0 r1 (by omega) (by omega) HV).mono ?_); rintro e w1 ⟨rfl, hb1⟩)
  go_ret2
  exact ⟨rfl, hb1⟩
theorem up_mono {a b rho : Int} (r0 : 0 ≤ rho) (h : a ≤ b) : upK (a * rho) ≤ upK (b * rho) := by
  have := Int.mul_le_mul_of_nonneg_right h r0
  unfold upK; omega
set_option maxRecDepth 100000 in
set_option maxHeartbeats 1000000 in
theorem runtil_q (err rho m : Int) (w : World) (h0 : 0 ≤ err) (r0 : 0 ≤ rho) (r1 : rho ≤ 2097152) (m0 : 0 ≤ m) (m1 : m ≤ 9223372036854775807) (h : err ≤ m) (hm2 : m < 9223372036854775807) (q : Int) (q0 : 0 ≤ q) (q1 : q < 9223372036854775807) (HA : Hid (err + upK (q * rho) ≤ m)) (HB : Hid (m < err + upK ((q + 1) * rho))) : Calls Tryd.prog 96 #[.int .i64 err, .int .i64 rho, .int .i64 m] w fun e w' => e = .returned (.tuple #[.int .i64 q, .int .i64 0]) ∧ Below w.heap.size w w' := by
  have hd1 : decide (rho ≤ 2097152) = true := decide_eq_true r1
  have hlo : ∀ g : Int, 0 ≤ g → g ≤ q → sat (err + upK (g * rho)) ≤ m := fun g g0 g1 => sat_le (by have := up_mono r0 g1; have := HA.out; omega) (by have := (upK_rng (g := g) (rho := rho) g0 (by omega) r0 r1).1; omega) m1
  have hhi : ∀ g : Int, q < g → g ≤ 9223372036854775807 → m < sat (err + upK (g * rho)) := fun g g0 g1 => sat_gt (by have := up_mono r0 (show q + 1 ≤ g by omega); have := HB.out; omega) hm2 (by have := (upK_rng (g := g) (rho := rho) (by omega) g1 r0 r1).1; omega)
  have HLO := Lib.hid hlo
  have HHI := Lib.hid hhi
  clear hlo hhi
  obtain ⟨V, hV⟩ : ∃ V, sat (err + upK (9223372036854775807 * rho)) = V := ⟨_, rfl⟩
  have hVm : m < V := by rw [← hV]; exact HHI.out _ q1 (by omega)
  have HV := Lib.hid hV
  clear hV
  go_enter Tryd.func96, Tryd.ntmps96
  go_wp2_with (go_at_call 94; (with_reducible refine (rgrow_v err rho _ V _ h0 (by omega) r0 r1 (by omega) (by omega) HV).mono ?_); rintro e w1 ⟨rfl, hb1⟩)
  go_loopw [8, 9] (fun lo hi wr => ∃ l g : Int, lo = .int .i64 l ∧ hi = .int .i64 g ∧ 0 ≤ l ∧ l ≤ q ∧ q < g ∧ g ≤ 9223372036854775807 ∧ Below w.heap.size w wr) (fun lo hi _ => (intOf hi - intOf lo).toNat)
  case atStart => exact ⟨0, 9223372036854775807, rfl, rfl, by omega, q0, q1, by omega, hb1⟩
  case round =>
    obtain ⟨l, g, rfl, rfl, l0, l1, g0, g1, hB⟩ := hrel
    by_cases hd : 1 < g - l
    · obtain ⟨M, hM⟩ : ∃ M, l + (g - l) / 2 = M := ⟨_, rfl⟩
      have hM0 : l < M := by omega
      have hM1 : M < g := by omega
      obtain ⟨V2, hV2⟩ : ∃ V2, sat (err + upK (M * rho)) = V2 := ⟨_, rfl⟩
      by_cases hc : M ≤ q
      · have hv2 : V2 ≤ m := by rw [← hV2]; exact HLO.out M (by omega) hc
        have HV2 := Lib.hid hV2
        clear hV2
        go_wp2_with (go_at_call 94; (with_reducible refine (rgrow_v err rho M V2 _ h0 (by omega) r0 r1 (by omega) (by omega) HV2).mono ?_); rintro e w2 ⟨rfl, hb2⟩)
        go_roundw
        case rel => exact ⟨M, g, rfl, rfl, by omega, hc, g0, g1, hB.trans (hb2.mono hB.size)⟩
        case measure => simp [intOf]; omega
      · have hv2 : m < V2 := by rw [← hV2]; exact HHI.out M (by omega) (by omega)
        have HV2 := Lib.hid hV2
        clear hV2
        go_wp2_with (go_at_call 94; (with_reducible refine (rgrow_v err rho M V2 _ h0 (by omega) r0 r1 (by omega) (by omega) HV2).mono ?_); rintro e w2 ⟨rfl, hb2⟩)
        go_roundw
        case rel => exact ⟨l, M, rfl, rfl, l0, l1, by omega, by omega, hB.trans (hb2.mono hB.size)⟩
        case measure => simp [intOf]; omega
    · obtain rfl : q = l := by omega
      go_wp2_with (fail)
      go_ret2
      exact ⟨rfl, hB⟩
end Go.Proofs.YtffdglhdklmjoaaDoor
