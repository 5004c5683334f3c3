/-
 Numbers of digits: a product divided.
-/
import Derived.Test.YtgondiedehjkhaaGreatDoorW02rbnd
import Derived.Test.YtgondiedehjkhaaGreatDoorW02nbnd
import Derived.Test.YtgondiedehjkhaaGreatDoorW02jbnd
import Derived.Test.YtgondiedehjkhaaGreatDoorW02ebnd
namespace Go.Proofs.YtgondiedehjkhaaGreatDoor
open Go.RowKit Go.Extern.Stop Go.Stop Go.Extern
set_option linter.unusedVariables false
set_option linter.unusedSimpArgs false
theorem div_qp (x d q r : Int) (w : World) (hx0 : -170141183460469231731687303715884105728 ≤ x) (hx1 : x ≤ 170141183460469231731687303715884105728) (hd0 : 1 ≤ d) (hd1 : d ≤ 170141183460469231731687303715884105728) (hq : x / d = q) (hr : x % d = r) (h0 : 0 ≤ q) :
   Calls Tryz.prog 68 #[bigV x, bigV d] w fun e w' => e = .returned (.tuple #[.agg #[.bool false, .int .u64 (dg (q) 0), .int .u64 (dg (q) 1), .int .u64 (dg (q) 2), .int .u64 (dg (q) 3), .int .u64 (dg (q) 4), .int .u64 (dg (q) 5), .int .u64 (dg (q) 6), .int .u64 (dg (q) 7)], .agg #[.bool false, .int .u64 (dg (r) 0), .int .u64 (dg (r) 1), .int .u64 (dg (r) 2), .int .u64 (dg (r) 3), .int .u64 (dg (r) 4), .int .u64 (dg (r) 5), .int .u64 (dg (r) 6), .int .u64 (dg (r) 7)]]) ∧ Below w.heap.size w w' := by
 have hx : 0 ≤ x := by
   by_cases h : 0 ≤ x
   · exact h
   · exact absurd (Int.ediv_neg_of_neg_of_pos (show x < 0 by omega) (show 0 < d by omega)) (by omega)
 rw [bigV_pos x hx, bigV_pos d (by omega), ← hq, ← hr]
 exact div_pos_raw x d w hx (by unfold B8; omega) (by omega) (by omega)
theorem rmd_no (a b c : Int) (w : World) (ha : InR a) (hb : InR b) (hc : c < 1) :
   Calls Tryz.prog 84 #[.int .i64 a, .int .i64 b, .int .i64 c] w fun e w' => e = .returned (.tuple #[.int .i64 0, .int .i64 1]) ∧ Below w.heap.size w w' := by
 go_enter Tryz.func84, Tryz.ntmps84
 go_wp2_with (fail)
 go_ret2
 exact ⟨rfl, Below.refl _ _⟩
set_option maxRecDepth 100000 in
set_option maxHeartbeats 4000000 in
theorem rmd_p0 (a b c : Int) (w : World) (ha : InR a) (hb : InR b) (hcl : 1 ≤ c) (hcr : InR c) (q : Int) (HQ : Hid (a * b / c = q)) (hq0 : 0 ≤ q) (hq1 : q < 9223372036854775808) :
   Calls Tryz.prog 84 #[.int .i64 a, .int .i64 b, .int .i64 c] w fun e w' => e = .returned (.tuple #[.int .i64 (q), .int .i64 0]) ∧ Below w.heap.size w w' := by
 have hp := mul_rng ha hb
 obtain ⟨r, hr⟩ : ∃ r, a * b % c = r := ⟨_, rfl⟩
 have HR := Lib.hid hr
 clear hr
 have hp0 : -170141183460469231731687303715884105728 ≤ a * b := by omega
 have hp1 : a * b ≤ 170141183460469231731687303715884105728 := by omega
 have hch : c ≤ 170141183460469231731687303715884105728 := by omega
 have hA : -BS ^ 4 < a ∧ a < BS ^ 4 := by rw [show BS ^ 4 = 340282366920938463463374607431768211456 by decide]; omega
 have hB : -BS ^ 4 < b ∧ b < BS ^ 4 := by rw [show BS ^ 4 = 340282366920938463463374607431768211456 by decide]; omega
 go_enter Tryz.func84, Tryz.ntmps84
 go_wp2_with (fail)
 go_at_call 70
 (with_reducible refine (int_c a _ ha).mono ?_)
 rintro e w1 ⟨rfl, hb1⟩
 obtain ⟨hc1, hf1⟩ := bcell hb1
 have hz1 := hb1.size
 try simp at hz1
 go_wp2_with (fail)
 go_at_call 70
 (with_reducible refine (int_c b _ hb).mono ?_)
 rintro e w2 ⟨rfl, hb2⟩
 obtain ⟨hc2, hf2⟩ := bcell hb2
 have hz2 := hb2.size
 try simp at hz2
 go_wp2_with (fail)
 go_at_call 69
 (with_reducible refine (mul_c a b (a * b) _ hA hB rfl).mono ?_)
 rintro e w3 ⟨rfl, hb3⟩
 obtain ⟨hc3, hf3⟩ := bcell hb3
 have hz3 := hb3.size
 try simp at hz3
 go_wp2_with (fail)
 go_at_call 70
 (with_reducible refine (int_c c _ hcr).mono ?_)
 rintro e w4 ⟨rfl, hb4⟩
 obtain ⟨hc4, hf4⟩ := bcell hb4
 have hz4 := hb4.size
 try simp at hz4
 go_wp2_with (fail)
 go_at_call 68
 (with_reducible refine (div_qp (a * b) c q r _ hp0 hp1 hcl hch HQ.out HR.out hq0).mono ?_)
 rintro e w5 ⟨rfl, hb5⟩
 obtain ⟨hc5, hf5⟩ := bcell hb5
 have hz5 := hb5.size
 try simp at hz5
 have HB5 : Below w.heap.size w w5 := ((((hb1.trans (hb2.mono (by omega))).trans (hb3.mono (by omega))).trans (hb4.mono (by omega))).trans (hb5.mono (by omega)))
 clear hc1 hf1 hc2 hf2 hc3 hf3 hc4 hf4 hc5 hf5
 go_wp2_with (fail)
 go_at_call 73
 (with_reducible refine (number_p0 q _ hq0 hq1).mono ?_)
 rintro e w6 ⟨rfl, hb6⟩
 obtain ⟨hc6, hf6⟩ := bcell hb6
 have hz6 := hb6.size
 try simp at hz6
 go_wp2_with (fail)
 go_ret2
 exact ⟨rfl, by repeat (first | with_reducible assumption | exact HB5 | with_reducible exact Below.refl _ _ | (with_reducible refine Below.setCell ?_ (by first | omega | (simp; done) | (simp; omega)) _) | (with_reducible refine Below.alloc ?_ (by first | omega | (simp; done) | (simp; omega)) _) | (with_reducible refine Below.drew ?_) | (with_reducible refine Below.trans ?_ (Below.mono hb6 (by first | omega | (simp; done) | (simp; omega)))) | (with_reducible refine below_drewN ?_ _))⟩
set_option maxRecDepth 100000 in
set_option maxHeartbeats 4000000 in
theorem rmd_p1 (a b c : Int) (w : World) (ha : InR a) (hb : InR b) (hcl : 1 ≤ c) (hcr : InR c) (q : Int) (HQ : Hid (a * b / c = q)) (hq0 : 0 ≤ q) (hq1 : 9223372036854775808 ≤ q) :
   Calls Tryz.prog 84 #[.int .i64 a, .int .i64 b, .int .i64 c] w fun e w' => e = .returned (.tuple #[.int .i64 (0), .int .i64 2]) ∧ Below w.heap.size w w' := by
 have hp := mul_rng ha hb
 obtain ⟨r, hr⟩ : ∃ r, a * b % c = r := ⟨_, rfl⟩
 have HR := Lib.hid hr
 clear hr
 have hp0 : -170141183460469231731687303715884105728 ≤ a * b := by omega
 have hp1 : a * b ≤ 170141183460469231731687303715884105728 := by omega
 have hch : c ≤ 170141183460469231731687303715884105728 := by omega
 have hA : -BS ^ 4 < a ∧ a < BS ^ 4 := by rw [show BS ^ 4 = 340282366920938463463374607431768211456 by decide]; omega
 have hB : -BS ^ 4 < b ∧ b < BS ^ 4 := by rw [show BS ^ 4 = 340282366920938463463374607431768211456 by decide]; omega
 have hqb : q < B8 := by rw [← HQ.out]; unfold B8; exact Int.lt_of_le_of_lt (Int.ediv_le_self c (by by_cases h : 0 ≤ a * b; exact h; exact absurd (Int.ediv_neg_of_neg_of_pos (show a * b < 0 by omega) (show 0 < c by omega)) (by have := HQ.out; omega))) (by omega)
 go_enter Tryz.func84, Tryz.ntmps84
 go_wp2_with (fail)
 go_at_call 70
 (with_reducible refine (int_c a _ ha).mono ?_)
 rintro e w1 ⟨rfl, hb1⟩
 obtain ⟨hc1, hf1⟩ := bcell hb1
 have hz1 := hb1.size
 try simp at hz1
 go_wp2_with (fail)
 go_at_call 70
 (with_reducible refine (int_c b _ hb).mono ?_)
 rintro e w2 ⟨rfl, hb2⟩
 obtain ⟨hc2, hf2⟩ := bcell hb2
 have hz2 := hb2.size
 try simp at hz2
 go_wp2_with (fail)
 go_at_call 69
 (with_reducible refine (mul_c a b (a * b) _ hA hB rfl).mono ?_)
 rintro e w3 ⟨rfl, hb3⟩
 obtain ⟨hc3, hf3⟩ := bcell hb3
 have hz3 := hb3.size
 try simp at hz3
 go_wp2_with (fail)
 go_at_call 70
 (with_reducible refine (int_c c _ hcr).mono ?_)
 rintro e w4 ⟨rfl, hb4⟩
 obtain ⟨hc4, hf4⟩ := bcell hb4
 have hz4 := hb4.size
 try simp at hz4
 go_wp2_with (fail)
 go_at_call 68
 (with_reducible refine (div_qp (a * b) c q r _ hp0 hp1 hcl hch HQ.out HR.out hq0).mono ?_)
 rintro e w5 ⟨rfl, hb5⟩
 obtain ⟨hc5, hf5⟩ := bcell hb5
 have hz5 := hb5.size
 try simp at hz5
 have HB5 : Below w.heap.size w w5 := ((((hb1.trans (hb2.mono (by omega))).trans (hb3.mono (by omega))).trans (hb4.mono (by omega))).trans (hb5.mono (by omega)))
 clear hc1 hf1 hc2 hf2 hc3 hf3 hc4 hf4 hc5 hf5
 go_wp2_with (fail)
 go_at_call 73
 (with_reducible refine (number_pos_no q _ hq1 hqb).mono ?_)
 rintro e w6 ⟨rfl, hb6⟩
 obtain ⟨hc6, hf6⟩ := bcell hb6
 have hz6 := hb6.size
 try simp at hz6
 go_wp2_with (fail)
 go_ret2
 exact ⟨rfl, by repeat (first | with_reducible assumption | exact HB5 | with_reducible exact Below.refl _ _ | (with_reducible refine Below.setCell ?_ (by first | omega | (simp; done) | (simp; omega)) _) | (with_reducible refine Below.alloc ?_ (by first | omega | (simp; done) | (simp; omega)) _) | (with_reducible refine Below.drew ?_) | (with_reducible refine Below.trans ?_ (Below.mono hb6 (by first | omega | (simp; done) | (simp; omega)))) | (with_reducible refine below_drewN ?_ _))⟩
def mdE (a b c : Int) : Int := if c < 1 then 1 else if InR (a * b / c) then 0 else 2
def mdN (a b c : Int) : Int := if c < 1 then 0 else if InR (a * b / c) then a * b / c else 0
def errOf (n : Int) : Value := if n = 0 then .nilIface else errV n
theorem wmuldiv_any (a b c : Int) (w : World) (ha : InR a) (hb : InR b) (hc : InR c) : Calls Tryz.prog 111 #[.int .i64 a, .int .i64 b, .int .i64 c] w fun e w' => e = .returned (.tuple #[.int .i64 (mdN a b c), errOf (mdE a b c)]) ∧ Below w.heap.size w w' := by
 by_cases h : c < 1
 · have e1 : mdN a b c = 0 := by unfold mdN; rw [if_pos h]
   have e2 : mdE a b c = 1 := by unfold mdE; rw [if_pos h]
   rw [e1, e2]; exact wmuldiv_no a b c w ha hb h
 · by_cases hq : InR (a * b / c)
   · have e1 : mdN a b c = a * b / c := by unfold mdN; rw [if_neg h, if_pos hq]
     have e2 : mdE a b c = 0 := by unfold mdE; rw [if_neg h, if_pos hq]
     rw [e1, e2]
     exact wmuldiv a b c w ha hb (by omega) hc hq
   · have e1 : mdN a b c = 0 := by unfold mdN; rw [if_neg h, if_neg hq]
     have e2 : mdE a b c = 2 := by unfold mdE; rw [if_neg h, if_neg hq]
     rw [e1, e2]
     exact wmuldiv_big a b c w ha hb (by omega) hc hq
def msE (a m n : Int) : Int := if n < 0 ∨ 31 < n then 1 else mdE a m (2 ^ n.toNat)
def msN (a m n : Int) : Int := if n < 0 ∨ 31 < n then 0 else mdN a m (2 ^ n.toNat)
theorem pow_rng {n : Int} (h0 : 0 ≤ n) (h1 : n ≤ 31) : 1 ≤ (2 : Int) ^ n.toNat ∧ (2 : Int) ^ n.toNat ≤ 2147483648 := by
 have h : n.toNat ≤ 31 := by omega
 refine ⟨Int.pow_pos (by decide), ?_⟩
 have := Nat.pow_le_pow_right (show 0 < 2 by decide) h
 have h2 : ((2 ^ n.toNat : Nat) : Int) ≤ ((2 ^ 31 : Nat) : Int) := by exact_mod_cast this
 simpa using h2
theorem wmulshift_any (a m n : Int) (w : World) (ha : InR a) (hm0 : 0 ≤ m) (hm1 : m < 4294967296) (hn : InR n) : Calls Tryz.prog 147 #[.int .i64 a, .int .u32 m, .int .i64 n] w fun e w' => e = .returned (.tuple #[.int .i64 (msN a m n), errOf (msE a m n)]) ∧ Below w.heap.size w w' := by
 by_cases h : n < 0 ∨ 31 < n
 · have e1 : msN a m n = 0 := by unfold msN; rw [if_pos h]
   have e2 : msE a m n = 1 := by unfold msE; rw [if_pos h]
   rw [e1, e2]; exact wmulshift_no a m n w h
 · have hp := pow_rng (n := n) (by omega) (by omega)
   have h1 : ¬ (2 : Int) ^ n.toNat < 1 := by omega
   by_cases hq : InR (a * m / 2 ^ n.toNat)
   · have e1 : msN a m n = a * m / 2 ^ n.toNat := by unfold msN mdN; rw [if_neg h, if_neg h1, if_pos hq]
     have e2 : msE a m n = 0 := by unfold msE mdE; rw [if_neg h, if_neg h1, if_pos hq]
     rw [e1, e2]
     exact wmulshift_i a m n w ha hm0 hm1 (by omega) (by omega) hq
   · have e1 : msN a m n = 0 := by unfold msN mdN; rw [if_neg h, if_neg h1, if_neg hq]
     have e2 : msE a m n = 2 := by unfold msE mdE; rw [if_neg h, if_neg h1, if_neg hq]
     rw [e1, e2]
     exact wmulshift_i_big a m n w ha hm0 hm1 (by omega) (by omega) hq
theorem rms_no (a m n : Int) (w : World) (hn : n < 0 ∨ 31 < n) : Calls Tryz.prog 121 #[.int .i64 a, .int .u32 m, .int .i64 n] w fun e w' => e = .returned (.tuple #[.int .i64 0, .int .i64 1]) ∧ Below w.heap.size w w' := by
 rcases hn with hn | hn
 all_goals first | have hd : decide (0 ≤ n) = true := decide_eq_true (by omega) | have hd : decide (0 ≤ n) = false := decide_eq_false (by omega)
 all_goals
   go_enter Tryz.func121, Tryz.ntmps121
   go_wp2_with (fail)
   go_ret2
   exact ⟨rfl, Below.refl _ _⟩
end Go.Proofs.YtgondiedehjkhaaGreatDoor
