/-
 What grows, rounded up, by the references of the layers 14 and 17.
-/
import Derived.Test.YtgondiedehjkhaaGreatDoorW02sbnd
import Derived.Test.YtgondiedehjkhaaGreatDoorW02kbnd
import Derived.Test.YtgondiedehjkhaaGreatDoorW17bnd
namespace Go.Proofs.YtgondiedehjkhaaGreatDoor
open Go.RowKit Go.Extern.Stop Go.Stop Go.Extern
set_option linter.unusedVariables false
set_option linter.unusedSimpArgs false
theorem upK_z (p : Int) (h : p % 1073741824 = 0) : p / 1073741824 = upK p := by unfold upK; omega
theorem upK_p (p : Int) (h : p % 1073741824 ≠ 0) : p / 1073741824 + 1 = upK p := by unfold upK; omega
theorem power_i (n z : Int) (w : World) (h0 : 0 ≤ n) (hn : n ≤ 200) (hz : z = 2 ^ n.toNat) : Calls Tryz.prog 72 #[.int .i64 n] w fun e w' => e = .returned (bigV z) ∧ Below w.heap.size w w' := by
 obtain ⟨k, rfl⟩ := Int.eq_ofNat_of_zero_le h0
 exact power_b k z w (by omega) hz
theorem ret_iv {a b : Int} (h : a = b) : Ending.returned (.int .i64 a) = Ending.returned (.int .i64 b) := by rw [h]
set_option maxRecDepth 100000 in
set_option maxHeartbeats 4000000 in
theorem rmore17_z (rho gone : Int) (w : World) (r0 : 0 ≤ rho) (r1 : rho ≤ 2097152) (g0 : 0 ≤ gone) (g1 : gone ≤ 9223372036854775807) (HM : Hid (gone * rho % 1073741824 = 0)) :
   Calls Tryz.prog 155 #[.int .i64 rho, .int .i64 gone] w fun e w' => e = .returned (.int .i64 (upK (gone * rho))) ∧ Below w.heap.size w w' := by
 have hm := mul_rho g0 g1 r0 r1
 obtain ⟨p, hp⟩ : ∃ p, gone * rho = p := ⟨_, rfl⟩
 rw [hp] at hm HM ⊢
 have hp2 : rho * gone = p := by rw [Int.mul_comm]; exact hp
 have HP := Lib.hid hp2
 clear hp hp2
 obtain ⟨q, hq⟩ : ∃ q, p / 1073741824 = q := ⟨_, rfl⟩
 obtain ⟨r, hr⟩ : ∃ r, p % 1073741824 = r := ⟨_, rfl⟩
 have hq0 : 0 ≤ q := by omega
 have hq1 : q < 9223372036854775808 := by omega
 have hq2 : q + 1 ≤ 9223372036854775807 := by omega
 have hrr : 0 ≤ r ∧ r < 1073741824 := by omega
 have HQ := Lib.hid hq
 have HR := Lib.hid hr
 have HRR : Hid (0 ≤ r ∧ r < B8) := Lib.hid ⟨by omega, by unfold B8; omega⟩
 have HRN : Hid (r = 0) := Lib.hid (by rw [← hr]; exact HM.out)
 have HE : Hid ((q) = upK p) := Lib.hid (by rw [← hq]; exact upK_z p HM.out)
 clear hq hr hrr
 have hA : -BS ^ 4 < rho ∧ rho < BS ^ 4 := by rw [show BS ^ 4 = 340282366920938463463374607431768211456 by decide]; omega
 have hB : -BS ^ 4 < gone ∧ gone < BS ^ 4 := by rw [show BS ^ 4 = 340282366920938463463374607431768211456 by decide]; omega
 have hrr1 : InR rho := by omega
 have hgg1 : InR gone := by omega
 go_enter Tryz.func155, Tryz.ntmps155
 go_wp2_with (fail)
 go_at_call 70
 (with_reducible refine (int_c rho _ hrr1).mono ?_)
 rintro e w1 ⟨rfl, hb1⟩
 obtain ⟨hc1, hf1⟩ := bcell hb1
 have hz1 := hb1.size
 try simp at hz1
 go_wp2_with (fail)
 go_at_call 70
 (with_reducible refine (int_c gone _ hgg1).mono ?_)
 rintro e w2 ⟨rfl, hb2⟩
 obtain ⟨hc2, hf2⟩ := bcell hb2
 have hz2 := hb2.size
 try simp at hz2
 go_wp2_with (fail)
 go_at_call 69
 (with_reducible refine (mul_c rho gone p _ hA hB HP.out).mono ?_)
 rintro e w3 ⟨rfl, hb3⟩
 obtain ⟨hc3, hf3⟩ := bcell hb3
 have hz3 := hb3.size
 try simp at hz3
 go_wp2_with (fail)
 go_at_call 72
 (with_reducible refine (power_i 30 1073741824 _ (by omega) (by omega) (by decide)).mono ?_)
 rintro e w4 ⟨rfl, hb4⟩
 obtain ⟨hc4, hf4⟩ := bcell hb4
 have hz4 := hb4.size
 try simp at hz4
 go_wp2_with (fail)
 go_at_call 68
 (with_reducible refine (div_qp p 1073741824 q 0 _ (by omega) (by omega) (by omega) (by omega) HQ.out (HR.out.trans HRN.out) hq0).mono ?_)
 rintro e w5 ⟨rfl, hb5⟩
 obtain ⟨hc5, hf5⟩ := bcell hb5
 have hz5 := hb5.size
 try simp at hz5
 have HB5 : Below w.heap.size w w5 := ((((hb1.trans (hb2.mono (by omega))).trans (hb3.mono (by omega))).trans (hb4.mono (by omega))).trans (hb5.mono (by omega)))
 clear hc1 hf1 hc2 hf2 hc3 hf3 hc4 hf4 hc5 hf5
 go_wp2_with (fail)
 go_at_call 73
 (with_reducible refine (number_p0 q _ hq0 hq1).mono ?_)
 rintro e w6 ⟨rfl, hb6⟩
 obtain ⟨hc6, hf6⟩ := bcell hb6
 have hz6 := hb6.size
 try simp at hz6
 go_wp2_with (fail)
 go_at_call 74
 (with_reducible refine (zero_yes _).mono ?_)
 rintro e w7 ⟨rfl, hb7⟩
 obtain ⟨hc7, hf7⟩ := bcell hb7
 have hz7 := hb7.size
 try simp at hz7
 go_wp2_with (fail)
 go_ret
 exact ⟨ret_iv HE.out, by repeat (first | with_reducible assumption | exact HB5 | with_reducible exact Below.refl _ _ | (with_reducible refine Below.setCell ?_ (by first | omega | (simp; done) | (simp; omega)) _) | (with_reducible refine Below.alloc ?_ (by first | omega | (simp; done) | (simp; omega)) _) | (with_reducible refine Below.drew ?_) | (with_reducible refine Below.trans ?_ (Below.mono hb7 (by first | omega | (simp; done) | (simp; omega)))) | (with_reducible refine Below.trans ?_ (Below.mono hb6 (by first | omega | (simp; done) | (simp; omega)))) | (with_reducible refine below_drewN ?_ _))⟩
set_option maxRecDepth 100000 in
set_option maxHeartbeats 4000000 in
theorem rmore17_p (rho gone : Int) (w : World) (r0 : 0 ≤ rho) (r1 : rho ≤ 2097152) (g0 : 0 ≤ gone) (g1 : gone ≤ 9223372036854775807) (HM : Hid (gone * rho % 1073741824 ≠ 0)) :
   Calls Tryz.prog 155 #[.int .i64 rho, .int .i64 gone] w fun e w' => e = .returned (.int .i64 (upK (gone * rho))) ∧ Below w.heap.size w w' := by
 have hm := mul_rho g0 g1 r0 r1
 obtain ⟨p, hp⟩ : ∃ p, gone * rho = p := ⟨_, rfl⟩
 rw [hp] at hm HM ⊢
 have hp2 : rho * gone = p := by rw [Int.mul_comm]; exact hp
 have HP := Lib.hid hp2
 clear hp hp2
 obtain ⟨q, hq⟩ : ∃ q, p / 1073741824 = q := ⟨_, rfl⟩
 obtain ⟨r, hr⟩ : ∃ r, p % 1073741824 = r := ⟨_, rfl⟩
 have hq0 : 0 ≤ q := by omega
 have hq1 : q < 9223372036854775808 := by omega
 have hq2 : q + 1 ≤ 9223372036854775807 := by omega
 have hrr : 0 ≤ r ∧ r < 1073741824 := by omega
 have HQ := Lib.hid hq
 have HR := Lib.hid hr
 have HRR : Hid (0 ≤ r ∧ r < B8) := Lib.hid ⟨by omega, by unfold B8; omega⟩
 have HRN : Hid (r ≠ 0) := Lib.hid (by rw [← hr]; exact HM.out)
 have HE : Hid ((q + 1) = upK p) := Lib.hid (by rw [← hq]; exact upK_p p HM.out)
 clear hq hr hrr
 have hA : -BS ^ 4 < rho ∧ rho < BS ^ 4 := by rw [show BS ^ 4 = 340282366920938463463374607431768211456 by decide]; omega
 have hB : -BS ^ 4 < gone ∧ gone < BS ^ 4 := by rw [show BS ^ 4 = 340282366920938463463374607431768211456 by decide]; omega
 have hrr1 : InR rho := by omega
 have hgg1 : InR gone := by omega
 go_enter Tryz.func155, Tryz.ntmps155
 go_wp2_with (fail)
 go_at_call 70
 (with_reducible refine (int_c rho _ hrr1).mono ?_)
 rintro e w1 ⟨rfl, hb1⟩
 obtain ⟨hc1, hf1⟩ := bcell hb1
 have hz1 := hb1.size
 try simp at hz1
 go_wp2_with (fail)
 go_at_call 70
 (with_reducible refine (int_c gone _ hgg1).mono ?_)
 rintro e w2 ⟨rfl, hb2⟩
 obtain ⟨hc2, hf2⟩ := bcell hb2
 have hz2 := hb2.size
 try simp at hz2
 go_wp2_with (fail)
 go_at_call 69
 (with_reducible refine (mul_c rho gone p _ hA hB HP.out).mono ?_)
 rintro e w3 ⟨rfl, hb3⟩
 obtain ⟨hc3, hf3⟩ := bcell hb3
 have hz3 := hb3.size
 try simp at hz3
 go_wp2_with (fail)
 go_at_call 72
 (with_reducible refine (power_i 30 1073741824 _ (by omega) (by omega) (by decide)).mono ?_)
 rintro e w4 ⟨rfl, hb4⟩
 obtain ⟨hc4, hf4⟩ := bcell hb4
 have hz4 := hb4.size
 try simp at hz4
 go_wp2_with (fail)
 go_at_call 68
 (with_reducible refine (div_qp p 1073741824 q r _ (by omega) (by omega) (by omega) (by omega) HQ.out HR.out hq0).mono ?_)
 rintro e w5 ⟨rfl, hb5⟩
 obtain ⟨hc5, hf5⟩ := bcell hb5
 have hz5 := hb5.size
 try simp at hz5
 have HB5 : Below w.heap.size w w5 := ((((hb1.trans (hb2.mono (by omega))).trans (hb3.mono (by omega))).trans (hb4.mono (by omega))).trans (hb5.mono (by omega)))
 clear hc1 hf1 hc2 hf2 hc3 hf3 hc4 hf4 hc5 hf5
 go_wp2_with (fail)
 go_at_call 73
 (with_reducible refine (number_p0 q _ hq0 hq1).mono ?_)
 rintro e w6 ⟨rfl, hb6⟩
 obtain ⟨hc6, hf6⟩ := bcell hb6
 have hz6 := hb6.size
 try simp at hz6
 go_wp2_with (fail)
 go_at_call 74
 (with_reducible refine (zero_no r _ HRR HRN).mono ?_)
 rintro e w7 ⟨rfl, hb7⟩
 obtain ⟨hc7, hf7⟩ := bcell hb7
 have hz7 := hb7.size
 try simp at hz7
 go_wp2_with (fail)
 go_ret
 exact ⟨ret_iv HE.out, by repeat (first | with_reducible assumption | exact HB5 | with_reducible exact Below.refl _ _ | (with_reducible refine Below.setCell ?_ (by first | omega | (simp; done) | (simp; omega)) _) | (with_reducible refine Below.alloc ?_ (by first | omega | (simp; done) | (simp; omega)) _) | (with_reducible refine Below.drew ?_) | (with_reducible refine Below.trans ?_ (Below.mono hb7 (by first | omega | (simp; done) | (simp; omega)))) | (with_reducible refine Below.trans ?_ (Below.mono hb6 (by first | omega | (simp; done) | (simp; omega)))) | (with_reducible refine below_drewN ?_ _))⟩
theorem rmore17 (rho gone : Int) (w : World) (r0 : 0 ≤ rho) (r1 : rho ≤ 2097152) (g0 : 0 ≤ gone) (g1 : gone ≤ 9223372036854775807) :
   Calls Tryz.prog 155 #[.int .i64 rho, .int .i64 gone] w fun e w' => e = .returned (.int .i64 (upK (gone * rho))) ∧ Below w.heap.size w w' := by
 by_cases h : gone * rho % 1073741824 = 0
 · exact rmore17_z rho gone w r0 r1 g0 g1 (Lib.hid h)
 · exact rmore17_p rho gone w r0 r1 g0 g1 (Lib.hid h)
end Go.Proofs.YtgondiedehjkhaaGreatDoor
