/-
 Numbers of 128 bits: the program, products divided and halved.
-/
import Derived.Test.YtgondiedehjkhaaGreatDoorW02dbnd
namespace Go.Proofs.YtgondiedehjkhaaGreatDoor
open Go.RowKit Go.Extern.Stop Go.Stop Go.Extern
set_option linter.unusedVariables false
set_option linter.unusedSimpArgs false
set_option maxHeartbeats 1000000 in
theorem wmuldiv_no (a b c : Int) (w : World) (ha : InR a) (hb : InR b) (hc : c < 1) : Calls Tryz.prog 111 #[.int .i64 a, .int .i64 b, .int .i64 c] w fun e w' => e = .returned (.tuple #[.int .i64 0, errV 1]) ∧ Below w.heap.size w w' := by
 have hB := Below.refl w.heap.size w
 have hr := mul_rng ha hb
 go_enter Tryz.func111, Tryz.ntmps111
 go_wp2_with (fail)
 go_at_call 149
 (with_reducible refine (wmul _ _ _ ha hb).mono ?_)
 rintro e w1 ⟨rfl, HB⟩
 obtain ⟨hc1, hf1⟩ := bcell HB
 have hz1 := HB.size
 try simp at hz1
 replace hB := Below.trans (show Below w.heap.size w _ from by repeat (first | with_reducible assumption | exact Below.refl _ _ | refine Below.drew ?_ | refine Below.setCell ?_ (by first | omega | (simp; done) | (simp; omega)) _ | refine Below.alloc ?_ (by first | omega | (simp; done) | (simp; omega)) _)) (Below.mono (B' := w.heap.size) HB (by first | omega | (simp; done) | (simp; omega)))
 try (have z1w0 : w.heap.size < w1.heap.size := (by omega))
 try (have z1w1 : w.heap.size + 1 < w1.heap.size := (by omega))
 try (have z1w2 : w.heap.size + 1 + 1 < w1.heap.size := (by omega))
 clear HB
 go_wp2_with (fail)
 go_at_call 148
 (with_reducible refine (wdiv_no _ _ _ hc).mono ?_)
 rintro e w2 ⟨rfl, HB⟩
 obtain ⟨hc2, hf2⟩ := bcell HB
 have hz2 := HB.size
 try simp at hz2
 replace hB := Below.trans (show Below w.heap.size w _ from by repeat (first | with_reducible assumption | exact Below.refl _ _ | refine Below.drew ?_ | refine Below.setCell ?_ (by first | omega | (simp; done) | (simp; omega)) _ | refine Below.alloc ?_ (by first | omega | (simp; done) | (simp; omega)) _)) (Below.mono (B' := w.heap.size) HB (by first | omega | (simp; done) | (simp; omega)))
 try (have z2w0 : w.heap.size < w2.heap.size := (by omega))
 try (have z2w1 : w.heap.size + 1 < w2.heap.size := (by omega))
 try (have z2w2 : w.heap.size + 1 + 1 < w2.heap.size := (by omega))
 try (have z2w10 : w1.heap.size < w2.heap.size := (by omega))
 try (have z2w11 : w1.heap.size + 1 < w2.heap.size := (by omega))
 try (have z2w12 : w1.heap.size + 1 + 1 < w2.heap.size := (by omega))
 clear HB
 go_wp2_with (fail)
 go_ret2
 exact ⟨rfl, by repeat (first | with_reducible assumption | exact Below.refl _ _ | refine Below.drew ?_ | refine Below.setCell ?_ (by first | omega | (simp; done) | (simp; omega)) _ | refine Below.alloc ?_ (by first | omega | (simp; done) | (simp; omega)) _)⟩
set_option maxHeartbeats 1000000 in
theorem wmuldiv (a b c : Int) (w : World) (ha : InR a) (hb : InR b) (hq1 : 1 ≤ c) (hq2 : InR c) (hq : InR (a * b / c)) : Calls Tryz.prog 111 #[.int .i64 a, .int .i64 b, .int .i64 c] w fun e w' => e = .returned (.tuple #[.int .i64 (a * b / c), .nilIface]) ∧ Below w.heap.size w w' := by
 have hB := Below.refl w.heap.size w
 have hr := mul_rng ha hb
 go_enter Tryz.func111, Tryz.ntmps111
 go_wp2_with (fail)
 go_at_call 149
 (with_reducible refine (wmul _ _ _ ha hb).mono ?_)
 rintro e w1 ⟨rfl, HB⟩
 obtain ⟨hc1, hf1⟩ := bcell HB
 have hz1 := HB.size
 try simp at hz1
 replace hB := Below.trans (show Below w.heap.size w _ from by repeat (first | with_reducible assumption | exact Below.refl _ _ | refine Below.drew ?_ | refine Below.setCell ?_ (by first | omega | (simp; done) | (simp; omega)) _ | refine Below.alloc ?_ (by first | omega | (simp; done) | (simp; omega)) _)) (Below.mono (B' := w.heap.size) HB (by first | omega | (simp; done) | (simp; omega)))
 try (have z1w0 : w.heap.size < w1.heap.size := (by omega))
 try (have z1w1 : w.heap.size + 1 < w1.heap.size := (by omega))
 try (have z1w2 : w.heap.size + 1 + 1 < w1.heap.size := (by omega))
 clear HB
 go_wp2_with (fail)
 go_at_call 148
 (with_reducible refine (wdiv _ _ _ (by omega) hq1 hq2).mono ?_)
 rintro e w2 ⟨rfl, HB⟩
 obtain ⟨hc2, hf2⟩ := bcell HB
 have hz2 := HB.size
 try simp at hz2
 replace hB := Below.trans (show Below w.heap.size w _ from by repeat (first | with_reducible assumption | exact Below.refl _ _ | refine Below.drew ?_ | refine Below.setCell ?_ (by first | omega | (simp; done) | (simp; omega)) _ | refine Below.alloc ?_ (by first | omega | (simp; done) | (simp; omega)) _)) (Below.mono (B' := w.heap.size) HB (by first | omega | (simp; done) | (simp; omega)))
 try (have z2w0 : w.heap.size < w2.heap.size := (by omega))
 try (have z2w1 : w.heap.size + 1 < w2.heap.size := (by omega))
 try (have z2w2 : w.heap.size + 1 + 1 < w2.heap.size := (by omega))
 try (have z2w10 : w1.heap.size < w2.heap.size := (by omega))
 try (have z2w11 : w1.heap.size + 1 < w2.heap.size := (by omega))
 try (have z2w12 : w1.heap.size + 1 + 1 < w2.heap.size := (by omega))
 clear HB
 go_wp2_with (fail)
 go_at_call 150
 (with_reducible refine (wint _ _ hq).mono ?_)
 rintro e w3 ⟨rfl, HB⟩
 obtain ⟨hc3, hf3⟩ := bcell HB
 have hz3 := HB.size
 try simp at hz3
 replace hB := Below.trans (show Below w.heap.size w _ from by repeat (first | with_reducible assumption | exact Below.refl _ _ | refine Below.drew ?_ | refine Below.setCell ?_ (by first | omega | (simp; done) | (simp; omega)) _ | refine Below.alloc ?_ (by first | omega | (simp; done) | (simp; omega)) _)) (Below.mono (B' := w.heap.size) HB (by first | omega | (simp; done) | (simp; omega)))
 try (have z3w0 : w.heap.size < w3.heap.size := (by omega))
 try (have z3w1 : w.heap.size + 1 < w3.heap.size := (by omega))
 try (have z3w2 : w.heap.size + 1 + 1 < w3.heap.size := (by omega))
 try (have z3w10 : w1.heap.size < w3.heap.size := (by omega))
 try (have z3w11 : w1.heap.size + 1 < w3.heap.size := (by omega))
 try (have z3w12 : w1.heap.size + 1 + 1 < w3.heap.size := (by omega))
 try (have z3w20 : w2.heap.size < w3.heap.size := (by omega))
 try (have z3w21 : w2.heap.size + 1 < w3.heap.size := (by omega))
 try (have z3w22 : w2.heap.size + 1 + 1 < w3.heap.size := (by omega))
 clear HB
 go_wp2_with (fail)
 go_ret2
 exact ⟨rfl, by repeat (first | with_reducible assumption | exact Below.refl _ _ | refine Below.drew ?_ | refine Below.setCell ?_ (by first | omega | (simp; done) | (simp; omega)) _ | refine Below.alloc ?_ (by first | omega | (simp; done) | (simp; omega)) _)⟩
set_option maxHeartbeats 1000000 in
theorem wmuldiv_big (a b c : Int) (w : World) (ha : InR a) (hb : InR b) (hq1 : 1 ≤ c) (hq2 : InR c) (hq : ¬ InR (a * b / c)) : Calls Tryz.prog 111 #[.int .i64 a, .int .i64 b, .int .i64 c] w fun e w' => e = .returned (.tuple #[.int .i64 0, errV 2]) ∧ Below w.heap.size w w' := by
 have hB := Below.refl w.heap.size w
 have hr := mul_rng ha hb
 have hd := wdiv_rng (x := a * b) (d := c) (by omega) hq1
 go_enter Tryz.func111, Tryz.ntmps111
 go_wp2_with (fail)
 go_at_call 149
 (with_reducible refine (wmul _ _ _ ha hb).mono ?_)
 rintro e w1 ⟨rfl, HB⟩
 obtain ⟨hc1, hf1⟩ := bcell HB
 have hz1 := HB.size
 try simp at hz1
 replace hB := Below.trans (show Below w.heap.size w _ from by repeat (first | with_reducible assumption | exact Below.refl _ _ | refine Below.drew ?_ | refine Below.setCell ?_ (by first | omega | (simp; done) | (simp; omega)) _ | refine Below.alloc ?_ (by first | omega | (simp; done) | (simp; omega)) _)) (Below.mono (B' := w.heap.size) HB (by first | omega | (simp; done) | (simp; omega)))
 try (have z1w0 : w.heap.size < w1.heap.size := (by omega))
 try (have z1w1 : w.heap.size + 1 < w1.heap.size := (by omega))
 try (have z1w2 : w.heap.size + 1 + 1 < w1.heap.size := (by omega))
 clear HB
 go_wp2_with (fail)
 go_at_call 148
 (with_reducible refine (wdiv _ _ _ (by omega) hq1 hq2).mono ?_)
 rintro e w2 ⟨rfl, HB⟩
 obtain ⟨hc2, hf2⟩ := bcell HB
 have hz2 := HB.size
 try simp at hz2
 replace hB := Below.trans (show Below w.heap.size w _ from by repeat (first | with_reducible assumption | exact Below.refl _ _ | refine Below.drew ?_ | refine Below.setCell ?_ (by first | omega | (simp; done) | (simp; omega)) _ | refine Below.alloc ?_ (by first | omega | (simp; done) | (simp; omega)) _)) (Below.mono (B' := w.heap.size) HB (by first | omega | (simp; done) | (simp; omega)))
 try (have z2w0 : w.heap.size < w2.heap.size := (by omega))
 try (have z2w1 : w.heap.size + 1 < w2.heap.size := (by omega))
 try (have z2w2 : w.heap.size + 1 + 1 < w2.heap.size := (by omega))
 try (have z2w10 : w1.heap.size < w2.heap.size := (by omega))
 try (have z2w11 : w1.heap.size + 1 < w2.heap.size := (by omega))
 try (have z2w12 : w1.heap.size + 1 + 1 < w2.heap.size := (by omega))
 clear HB
 go_wp2_with (fail)
 go_at_call 150
 (with_reducible refine (wint_no _ _ (by omega) hq).mono ?_)
 rintro e w3 ⟨rfl, HB⟩
 obtain ⟨hc3, hf3⟩ := bcell HB
 have hz3 := HB.size
 try simp at hz3
 replace hB := Below.trans (show Below w.heap.size w _ from by repeat (first | with_reducible assumption | exact Below.refl _ _ | refine Below.drew ?_ | refine Below.setCell ?_ (by first | omega | (simp; done) | (simp; omega)) _ | refine Below.alloc ?_ (by first | omega | (simp; done) | (simp; omega)) _)) (Below.mono (B' := w.heap.size) HB (by first | omega | (simp; done) | (simp; omega)))
 try (have z3w0 : w.heap.size < w3.heap.size := (by omega))
 try (have z3w1 : w.heap.size + 1 < w3.heap.size := (by omega))
 try (have z3w2 : w.heap.size + 1 + 1 < w3.heap.size := (by omega))
 try (have z3w10 : w1.heap.size < w3.heap.size := (by omega))
 try (have z3w11 : w1.heap.size + 1 < w3.heap.size := (by omega))
 try (have z3w12 : w1.heap.size + 1 + 1 < w3.heap.size := (by omega))
 try (have z3w20 : w2.heap.size < w3.heap.size := (by omega))
 try (have z3w21 : w2.heap.size + 1 < w3.heap.size := (by omega))
 try (have z3w22 : w2.heap.size + 1 + 1 < w3.heap.size := (by omega))
 clear HB
 go_wp2_with (fail)
 go_ret2
 exact ⟨rfl, by repeat (first | with_reducible assumption | exact Below.refl _ _ | refine Below.drew ?_ | refine Below.setCell ?_ (by first | omega | (simp; done) | (simp; omega)) _ | refine Below.alloc ?_ (by first | omega | (simp; done) | (simp; omega)) _)⟩
theorem bits_or_comm (a b : Int) : bits BinOp.or IntKind.u64 a b = bits BinOp.or IntKind.u64 b a := by
 show IntKind.u64.wrap ((BitVec.ofInt 64 a ||| BitVec.ofInt 64 b).toNat : Int) = IntKind.u64.wrap ((BitVec.ofInt 64 b ||| BitVec.ofInt 64 a).toNat : Int)
 rw [BitVec.or_comm]
theorem wshr_nd {n : Nat} (hn : n ≤ 63) : (2 : Int) ^ n * 2 ^ (64 - n) = 18446744073709551616 := by rw [← Int.pow_add, show n + (64 - n) = 64 by omega]; rfl
set_option maxHeartbeats 1000000 in
theorem wshr_low (x : Int) (n : Nat) (w : World) (hx1 : In128 x) (hn : n ≤ 63) : Calls Tryz.prog 165 #[WV x, .int .i64 n] w fun e w' => e = .returned (.tuple #[WV (x / 2 ^ n), .nilIface]) ∧ Below w.heap.size w w' := by
 have hB := Below.refl w.heap.size w
 have p0 : (0 : Int) < 2 ^ n := Int.pow_pos (by omega)
 have q0 : (0 : Int) < 2 ^ (64 - n) := Int.pow_pos (by omega)
 have pq := wshr_nd hn
 obtain ⟨h1, h2, h3⟩ := shr_lo (x := x) p0 q0 pq
 have h4 := shr_hi (x := x) p0
 have H1 := Lib.hid h1
 have H2 := Lib.hid h2
 have H3 := Lib.hid h3
 have H4 := Lib.hid h4
 have K1 : bits BinOp.or IntKind.u64 (x % 18446744073709551616 / 2 ^ n) (IntKind.u64.wrap (IntKind.u64.wrap (x / 18446744073709551616) * 2 ^ (64 - n))) = (x / 2 ^ n) % 18446744073709551616 := by
   have z0 : 0 ≤ x % 18446744073709551616 := by omega
   have r1 : 0 ≤ x / 18446744073709551616 % 2 ^ n := Int.emod_nonneg _ (by omega)
   have r2 : 0 ≤ x / 18446744073709551616 % 18446744073709551616 * 2 ^ (64 - n) % 18446744073709551616 := Int.emod_nonneg _ (by omega)
   have r3 : x / 18446744073709551616 % 18446744073709551616 * 2 ^ (64 - n) % 18446744073709551616 < 18446744073709551616 := Int.emod_lt_of_pos _ (by omega)
   rw [u64_is, u64_is, bits_or_comm]
   rw [h3] at r2 r3 ⊢
   rw [Int.mul_comm] at r2 r3 ⊢
   rw [or_add (by omega) r1 (Int.ediv_nonneg z0 (by omega)) h2 r3, ← h1, h3]
   rw [Int.mul_comm (2 ^ (64 - n))]; omega
 replace K1 := Lib.hid K1
 clear h1 h2 h3 h4
 go_enter Tryz.func165, Tryz.ntmps165
 go_wp2_with (fail)
 go_region
 go_wp2_with (fail)
 refine bodyPost_ret (v := .tuple #[.agg #[.int .i64 (x / 18446744073709551616 / 2 ^ n), .int .u64 (bits BinOp.or IntKind.u64 (x % 18446744073709551616 / 2 ^ n) (IntKind.u64.wrap (IntKind.u64.wrap (x / 18446744073709551616) * 2 ^ (64 - n))))], .nilIface]) (by first | (simp [results, Tryz.results165, go_sem]; done) | (simp only [results, Tryz.results165]; go_simp; done) | (simp only [results, Tryz.results165]; go_simp; omega)) rfl (⟨by rw [K1.out, ← H4.out], by repeat (first | with_reducible assumption | exact Below.refl _ _ | refine Below.drew ?_ | refine Below.setCell ?_ (by first | omega | (simp; done) | (simp; omega)) _ | refine Below.alloc ?_ (by first | omega | (simp; done) | (simp; omega)) _)⟩)
set_option maxHeartbeats 1000000 in
theorem wshr_high (x : Int) (n : Nat) (w : World) (hx1 : In128 x) (hn : 64 ≤ n) (hn1 : n ≤ 127) : Calls Tryz.prog 165 #[WV x, .int .i64 n] w fun e w' => e = .returned (.tuple #[WV (x / 2 ^ n), .nilIface]) ∧ Below w.heap.size w w' := by
 have hB := Below.refl w.heap.size w
 have p0 : (0 : Int) < 2 ^ (n - 64) := Int.pow_pos (by omega)
 have e1 : x / 2 ^ n = x / 18446744073709551616 / 2 ^ (n - 64) := by
   rw [Int.ediv_ediv_of_nonneg (by omega), show n = 64 + (n - 64) by omega, Int.pow_add, show 64 + (n - 64) - 64 = n - 64 by omega]; rfl
 have E1 := Lib.hid e1
 clear e1
 have hr : InR (x / 18446744073709551616 / 2 ^ (n - 64)) := by
   have h0 : (1 : Int) ≤ 2 ^ (n - 64) := p0
   have h1 : -9223372036854775808 ≤ x / 18446744073709551616 / 2 ^ (n - 64) := by
     refine Int.le_ediv_of_mul_le p0 ?_
     have := Int.mul_le_mul_of_nonneg_left h0 (by omega : (0 : Int) ≤ 9223372036854775808)
     omega
   have h2 : x / 18446744073709551616 / 2 ^ (n - 64) < 9223372036854775808 := by
     refine Int.ediv_lt_of_lt_mul p0 ?_
     have := Int.mul_le_mul_of_nonneg_left h0 (by omega : (0 : Int) ≤ 9223372036854775808)
     omega
   omega
 go_enter Tryz.func165, Tryz.ntmps165
 go_wp2_with (fail)
 go_at_call 169
 (with_reducible refine (wof _ _ hr).mono ?_)
 rintro e w1 ⟨rfl, HB⟩
 obtain ⟨hc1, hf1⟩ := bcell HB
 have hz1 := HB.size
 try simp at hz1
 replace hB := Below.trans (show Below w.heap.size w _ from by repeat (first | with_reducible assumption | exact Below.refl _ _ | refine Below.drew ?_ | refine Below.setCell ?_ (by first | omega | (simp; done) | (simp; omega)) _ | refine Below.alloc ?_ (by first | omega | (simp; done) | (simp; omega)) _)) (Below.mono (B' := w.heap.size) HB (by first | omega | (simp; done) | (simp; omega)))
 try (have z1w0 : w.heap.size < w1.heap.size := (by omega))
 try (have z1w1 : w.heap.size + 1 < w1.heap.size := (by omega))
 try (have z1w2 : w.heap.size + 1 + 1 < w1.heap.size := (by omega))
 clear HB
 go_wp2_with (fail)
 refine bodyPost_ret (v := .tuple #[.agg #[.int .i64 ((x / 18446744073709551616 / 2 ^ (n - 64)) / 18446744073709551616), .int .u64 ((x / 18446744073709551616 / 2 ^ (n - 64)) % 18446744073709551616)], .nilIface]) (by first | (simp [results, Tryz.results165, go_sem]; done) | (simp only [results, Tryz.results165]; go_simp; done) | (simp only [results, Tryz.results165]; go_simp; omega)) rfl (⟨by rw [E1.out], by repeat (first | with_reducible assumption | exact Below.refl _ _ | refine Below.drew ?_ | refine Below.setCell ?_ (by first | omega | (simp; done) | (simp; omega)) _ | refine Below.alloc ?_ (by first | omega | (simp; done) | (simp; omega)) _)⟩)
theorem wshr (x : Int) (n : Nat) (w : World) (hx1 : In128 x) (hn : n ≤ 127) : Calls Tryz.prog 165 #[WV x, .int .i64 n] w fun e w' => e = .returned (.tuple #[WV (x / 2 ^ n), .nilIface]) ∧ Below w.heap.size w w' := by
 rcases Nat.lt_or_ge n 64 with h | h
 · exact wshr_low x n w hx1 (by omega)
 · exact wshr_high x n w hx1 h hn
theorem shr_rng {x : Int} (n : Nat) (hx : In128 x) : In128 (x / 2 ^ n) := wdiv_rng hx (by have : (0 : Int) < 2 ^ n := Int.pow_pos (by omega); omega)
set_option maxHeartbeats 1000000 in
theorem wmulshift_no (a m n : Int) (w : World) (hn : n < 0 ∨ 31 < n) : Calls Tryz.prog 147 #[.int .i64 a, .int .u32 m, .int .i64 n] w fun e w' => e = .returned (.tuple #[.int .i64 0, errV 1]) ∧ Below w.heap.size w w' := by
 have hB := Below.refl w.heap.size w
 rcases hn with hn | hn
 all_goals
   go_enter Tryz.func147, Tryz.ntmps147
   go_wp2_with (fail)
   go_ret2
   exact ⟨rfl, by repeat (first | with_reducible assumption | exact Below.refl _ _ | refine Below.drew ?_ | refine Below.setCell ?_ (by first | omega | (simp; done) | (simp; omega)) _ | refine Below.alloc ?_ (by first | omega | (simp; done) | (simp; omega)) _)⟩
set_option maxHeartbeats 1000000 in
theorem wmulshift (a m : Int) (n : Nat) (w : World) (ha : InR a) (hm0 : 0 ≤ m) (hm1 : m < 4294967296) (hn : n ≤ 31) (hq : InR (a * m / 2 ^ n)) : Calls Tryz.prog 147 #[.int .i64 a, .int .u32 m, .int .i64 n] w fun e w' => e = .returned (.tuple #[.int .i64 (a * m / 2 ^ n), .nilIface]) ∧ Below w.heap.size w w' := by
 have hB := Below.refl w.heap.size w
 have hm : InR m := by omega
 have hr := mul_rng ha hm
 have hp := shr_rng (x := a * m) n (by omega)
 go_enter Tryz.func147, Tryz.ntmps147
 go_wp2_with (fail)
 go_at_call 149
 (with_reducible refine (wmul _ _ _ ha hm).mono ?_)
 rintro e w1 ⟨rfl, HB⟩
 obtain ⟨hc1, hf1⟩ := bcell HB
 have hz1 := HB.size
 try simp at hz1
 replace hB := Below.trans (show Below w.heap.size w _ from by repeat (first | with_reducible assumption | exact Below.refl _ _ | refine Below.drew ?_ | refine Below.setCell ?_ (by first | omega | (simp; done) | (simp; omega)) _ | refine Below.alloc ?_ (by first | omega | (simp; done) | (simp; omega)) _)) (Below.mono (B' := w.heap.size) HB (by first | omega | (simp; done) | (simp; omega)))
 try (have z1w0 : w.heap.size < w1.heap.size := (by omega))
 try (have z1w1 : w.heap.size + 1 < w1.heap.size := (by omega))
 try (have z1w2 : w.heap.size + 1 + 1 < w1.heap.size := (by omega))
 clear HB
 go_wp2_with (fail)
 go_at_call 165
 (with_reducible refine (wshr _ _ _ (by omega) (by omega)).mono ?_)
 rintro e w2 ⟨rfl, HB⟩
 obtain ⟨hc2, hf2⟩ := bcell HB
 have hz2 := HB.size
 try simp at hz2
 replace hB := Below.trans (show Below w.heap.size w _ from by repeat (first | with_reducible assumption | exact Below.refl _ _ | refine Below.drew ?_ | refine Below.setCell ?_ (by first | omega | (simp; done) | (simp; omega)) _ | refine Below.alloc ?_ (by first | omega | (simp; done) | (simp; omega)) _)) (Below.mono (B' := w.heap.size) HB (by first | omega | (simp; done) | (simp; omega)))
 try (have z2w0 : w.heap.size < w2.heap.size := (by omega))
 try (have z2w1 : w.heap.size + 1 < w2.heap.size := (by omega))
 try (have z2w2 : w.heap.size + 1 + 1 < w2.heap.size := (by omega))
 try (have z2w10 : w1.heap.size < w2.heap.size := (by omega))
 try (have z2w11 : w1.heap.size + 1 < w2.heap.size := (by omega))
 try (have z2w12 : w1.heap.size + 1 + 1 < w2.heap.size := (by omega))
 clear HB
 go_wp2_with (fail)
 go_at_call 150
 (with_reducible refine (wint _ _ hq).mono ?_)
 rintro e w3 ⟨rfl, HB⟩
 obtain ⟨hc3, hf3⟩ := bcell HB
 have hz3 := HB.size
 try simp at hz3
 replace hB := Below.trans (show Below w.heap.size w _ from by repeat (first | with_reducible assumption | exact Below.refl _ _ | refine Below.drew ?_ | refine Below.setCell ?_ (by first | omega | (simp; done) | (simp; omega)) _ | refine Below.alloc ?_ (by first | omega | (simp; done) | (simp; omega)) _)) (Below.mono (B' := w.heap.size) HB (by first | omega | (simp; done) | (simp; omega)))
 try (have z3w0 : w.heap.size < w3.heap.size := (by omega))
 try (have z3w1 : w.heap.size + 1 < w3.heap.size := (by omega))
 try (have z3w2 : w.heap.size + 1 + 1 < w3.heap.size := (by omega))
 try (have z3w10 : w1.heap.size < w3.heap.size := (by omega))
 try (have z3w11 : w1.heap.size + 1 < w3.heap.size := (by omega))
 try (have z3w12 : w1.heap.size + 1 + 1 < w3.heap.size := (by omega))
 try (have z3w20 : w2.heap.size < w3.heap.size := (by omega))
 try (have z3w21 : w2.heap.size + 1 < w3.heap.size := (by omega))
 try (have z3w22 : w2.heap.size + 1 + 1 < w3.heap.size := (by omega))
 clear HB
 go_wp2_with (fail)
 go_ret2
 exact ⟨rfl, by repeat (first | with_reducible assumption | exact Below.refl _ _ | refine Below.drew ?_ | refine Below.setCell ?_ (by first | omega | (simp; done) | (simp; omega)) _ | refine Below.alloc ?_ (by first | omega | (simp; done) | (simp; omega)) _)⟩
set_option maxHeartbeats 1000000 in
theorem wmulshift_big (a m : Int) (n : Nat) (w : World) (ha : InR a) (hm0 : 0 ≤ m) (hm1 : m < 4294967296) (hn : n ≤ 31) (hq : ¬ InR (a * m / 2 ^ n)) : Calls Tryz.prog 147 #[.int .i64 a, .int .u32 m, .int .i64 n] w fun e w' => e = .returned (.tuple #[.int .i64 0, errV 2]) ∧ Below w.heap.size w w' := by
 have hB := Below.refl w.heap.size w
 have hm : InR m := by omega
 have hr := mul_rng ha hm
 have hp := shr_rng (x := a * m) n (by omega)
 go_enter Tryz.func147, Tryz.ntmps147
 go_wp2_with (fail)
 go_at_call 149
 (with_reducible refine (wmul _ _ _ ha hm).mono ?_)
 rintro e w1 ⟨rfl, HB⟩
 obtain ⟨hc1, hf1⟩ := bcell HB
 have hz1 := HB.size
 try simp at hz1
 replace hB := Below.trans (show Below w.heap.size w _ from by repeat (first | with_reducible assumption | exact Below.refl _ _ | refine Below.drew ?_ | refine Below.setCell ?_ (by first | omega | (simp; done) | (simp; omega)) _ | refine Below.alloc ?_ (by first | omega | (simp; done) | (simp; omega)) _)) (Below.mono (B' := w.heap.size) HB (by first | omega | (simp; done) | (simp; omega)))
 try (have z1w0 : w.heap.size < w1.heap.size := (by omega))
 try (have z1w1 : w.heap.size + 1 < w1.heap.size := (by omega))
 try (have z1w2 : w.heap.size + 1 + 1 < w1.heap.size := (by omega))
 clear HB
 go_wp2_with (fail)
 go_at_call 165
 (with_reducible refine (wshr _ _ _ (by omega) (by omega)).mono ?_)
 rintro e w2 ⟨rfl, HB⟩
 obtain ⟨hc2, hf2⟩ := bcell HB
 have hz2 := HB.size
 try simp at hz2
 replace hB := Below.trans (show Below w.heap.size w _ from by repeat (first | with_reducible assumption | exact Below.refl _ _ | refine Below.drew ?_ | refine Below.setCell ?_ (by first | omega | (simp; done) | (simp; omega)) _ | refine Below.alloc ?_ (by first | omega | (simp; done) | (simp; omega)) _)) (Below.mono (B' := w.heap.size) HB (by first | omega | (simp; done) | (simp; omega)))
 try (have z2w0 : w.heap.size < w2.heap.size := (by omega))
 try (have z2w1 : w.heap.size + 1 < w2.heap.size := (by omega))
 try (have z2w2 : w.heap.size + 1 + 1 < w2.heap.size := (by omega))
 try (have z2w10 : w1.heap.size < w2.heap.size := (by omega))
 try (have z2w11 : w1.heap.size + 1 < w2.heap.size := (by omega))
 try (have z2w12 : w1.heap.size + 1 + 1 < w2.heap.size := (by omega))
 clear HB
 go_wp2_with (fail)
 go_at_call 150
 (with_reducible refine (wint_no _ _ hp hq).mono ?_)
 rintro e w3 ⟨rfl, HB⟩
 obtain ⟨hc3, hf3⟩ := bcell HB
 have hz3 := HB.size
 try simp at hz3
 replace hB := Below.trans (show Below w.heap.size w _ from by repeat (first | with_reducible assumption | exact Below.refl _ _ | refine Below.drew ?_ | refine Below.setCell ?_ (by first | omega | (simp; done) | (simp; omega)) _ | refine Below.alloc ?_ (by first | omega | (simp; done) | (simp; omega)) _)) (Below.mono (B' := w.heap.size) HB (by first | omega | (simp; done) | (simp; omega)))
 try (have z3w0 : w.heap.size < w3.heap.size := (by omega))
 try (have z3w1 : w.heap.size + 1 < w3.heap.size := (by omega))
 try (have z3w2 : w.heap.size + 1 + 1 < w3.heap.size := (by omega))
 try (have z3w10 : w1.heap.size < w3.heap.size := (by omega))
 try (have z3w11 : w1.heap.size + 1 < w3.heap.size := (by omega))
 try (have z3w12 : w1.heap.size + 1 + 1 < w3.heap.size := (by omega))
 try (have z3w20 : w2.heap.size < w3.heap.size := (by omega))
 try (have z3w21 : w2.heap.size + 1 < w3.heap.size := (by omega))
 try (have z3w22 : w2.heap.size + 1 + 1 < w3.heap.size := (by omega))
 clear HB
 go_wp2_with (fail)
 go_ret2
 exact ⟨rfl, by repeat (first | with_reducible assumption | exact Below.refl _ _ | refine Below.drew ?_ | refine Below.setCell ?_ (by first | omega | (simp; done) | (simp; omega)) _ | refine Below.alloc ?_ (by first | omega | (simp; done) | (simp; omega)) _)⟩
theorem wmulshift_i (a m n : Int) (w : World) (ha : InR a) (hm0 : 0 ≤ m) (hm1 : m < 4294967296) (hn0 : 0 ≤ n) (hn : n ≤ 31) (hq : InR (a * m / 2 ^ n.toNat)) : Calls Tryz.prog 147 #[.int .i64 a, .int .u32 m, .int .i64 n] w fun e w' => e = .returned (.tuple #[.int .i64 (a * m / 2 ^ n.toNat), .nilIface]) ∧ Below w.heap.size w w' := by
 obtain ⟨k, rfl⟩ := Int.eq_ofNat_of_zero_le hn0
 exact wmulshift a m k w ha hm0 hm1 (by omega) hq
theorem wmulshift_i_big (a m n : Int) (w : World) (ha : InR a) (hm0 : 0 ≤ m) (hm1 : m < 4294967296) (hn0 : 0 ≤ n) (hn : n ≤ 31) (hq : ¬ InR (a * m / 2 ^ n.toNat)) : Calls Tryz.prog 147 #[.int .i64 a, .int .u32 m, .int .i64 n] w fun e w' => e = .returned (.tuple #[.int .i64 0, errV 2]) ∧ Below w.heap.size w w' := by
 obtain ⟨k, rfl⟩ := Int.eq_ofNat_of_zero_le hn0
 exact wmulshift_big a m k w ha hm0 hm1 (by omega) hq
abbrev R2 (b : Nat) (x y : Value) (wx : World) : Prop := b < wx.heap.size ∧ wx.cell? ⟨b, 0, none⟩ = some x ∧ wx.cell? ⟨b, 1, none⟩ = some y ∧ wx.frozen? ⟨b, 0, none⟩ = false ∧ wx.frozen? ⟨b, 1, none⟩ = false
theorem R2.step {b : Nat} {x y : Value} {wx w' : World} (h : R2 b x y wx) (hb : Below wx.heap.size wx w') : R2 b x y w' :=
 ⟨Nat.lt_of_lt_of_le h.1 hb.size, by rw [hb.cell (p := ⟨b, 0, none⟩) h.1]; exact h.2.1, by rw [hb.cell (p := ⟨b, 1, none⟩) h.1]; exact h.2.2.1, by rw [hb.frozen (p := ⟨b, 0, none⟩) h.1]; exact h.2.2.2.1, by rw [hb.frozen (p := ⟨b, 1, none⟩) h.1]; exact h.2.2.2.2⟩
end Go.Proofs.YtgondiedehjkhaaGreatDoor
