/-
 Numbers of 128 bits: the program, products divided and halved.
-/
import Derived.Test.YtgondiedehjkhaaDoorW02dsums
namespace Go.Proofs.YtgondiedehjkhaaDoor
open Go.RowKit Go.Extern.Stop Go.Stop Go.Extern
set_option linter.unusedVariables false
set_option linter.unusedSimpArgs false
set_option maxHeartbeats 1000000 in
theorem wmuldiv (a b c : Int) (w : World) (ha : InR a) (hb : InR b) (hq1 : 1 ≤ c) (hq2 : InR c) (hq : InR (a * b / c)) : Calls Tryd.prog 75 #[.int .i64 a, .int .i64 b, .int .i64 c] w fun e w' => e = .returned (.tuple #[.int .i64 (a * b / c), .nilIface]) ∧ Below w.heap.size w w' := by
 have hB := Below.refl w.heap.size w
 have hr := mul_rng ha hb
 go_enter Tryd.func75, Tryd.ntmps75
 go_wp2_with (fail)
 go_at_call 23
 (with_reducible refine (wmul _ _ _ ha hb).mono ?_)
 rintro e w1 ⟨rfl, HB⟩
 obtain ⟨hc1, hf1⟩ := bcell HB
 have hz1 := HB.size
 try simp at hz1
 replace hB := Below.trans (show Below w.heap.size w _ from by repeat (first | with_reducible assumption | exact Below.refl _ _ | refine Below.drew ?_ | refine Below.setCell ?_ (by first | omega | (simp; done) | (simp; omega)) _ | refine Below.alloc ?_ (by first | omega | (simp; done) | (simp; omega)) _)) (Below.mono (B' := w.heap.size) HB (by first | omega | (simp; done) | (simp; omega)))
 try (have z1w0 : w.heap.size < w1.heap.size := (by omega))
 try (have z1w1 : w.heap.size + 1 < w1.heap.size := (by omega))
 try (have z1w2 : w.heap.size + 1 + 1 < w1.heap.size := (by omega))
 clear HB
 go_wp2_with (fail)
 go_at_call 133
 (with_reducible refine (wdiv _ _ _ (by omega) hq1 hq2).mono ?_)
 rintro e w2 ⟨rfl, HB⟩
 obtain ⟨hc2, hf2⟩ := bcell HB
 have hz2 := HB.size
 try simp at hz2
 replace hB := Below.trans (show Below w.heap.size w _ from by repeat (first | with_reducible assumption | exact Below.refl _ _ | refine Below.drew ?_ | refine Below.setCell ?_ (by first | omega | (simp; done) | (simp; omega)) _ | refine Below.alloc ?_ (by first | omega | (simp; done) | (simp; omega)) _)) (Below.mono (B' := w.heap.size) HB (by first | omega | (simp; done) | (simp; omega)))
 try (have z2w0 : w.heap.size < w2.heap.size := (by omega))
 try (have z2w1 : w.heap.size + 1 < w2.heap.size := (by omega))
 try (have z2w2 : w.heap.size + 1 + 1 < w2.heap.size := (by omega))
 try (have z2w10 : w1.heap.size < w2.heap.size := (by omega))
 try (have z2w11 : w1.heap.size + 1 < w2.heap.size := (by omega))
 try (have z2w12 : w1.heap.size + 1 + 1 < w2.heap.size := (by omega))
 clear HB
 go_wp2_with (fail)
 go_at_call 13
 (with_reducible refine (wint _ _ hq).mono ?_)
 rintro e w3 ⟨rfl, HB⟩
 obtain ⟨hc3, hf3⟩ := bcell HB
 have hz3 := HB.size
 try simp at hz3
 replace hB := Below.trans (show Below w.heap.size w _ from by repeat (first | with_reducible assumption | exact Below.refl _ _ | refine Below.drew ?_ | refine Below.setCell ?_ (by first | omega | (simp; done) | (simp; omega)) _ | refine Below.alloc ?_ (by first | omega | (simp; done) | (simp; omega)) _)) (Below.mono (B' := w.heap.size) HB (by first | omega | (simp; done) | (simp; omega)))
 try (have z3w0 : w.heap.size < w3.heap.size := (by omega))
 try (have z3w1 : w.heap.size + 1 < w3.heap.size := (by omega))
 try (have z3w2 : w.heap.size + 1 + 1 < w3.heap.size := (by omega))
 try (have z3w10 : w1.heap.size < w3.heap.size := (by omega))
 try (have z3w11 : w1.heap.size + 1 < w3.heap.size := (by omega))
 try (have z3w12 : w1.heap.size + 1 + 1 < w3.heap.size := (by omega))
 try (have z3w20 : w2.heap.size < w3.heap.size := (by omega))
 try (have z3w21 : w2.heap.size + 1 < w3.heap.size := (by omega))
 try (have z3w22 : w2.heap.size + 1 + 1 < w3.heap.size := (by omega))
 clear HB
 go_wp2_with (fail)
 go_ret2
 exact ⟨rfl, by repeat (first | with_reducible assumption | exact Below.refl _ _ | refine Below.drew ?_ | refine Below.setCell ?_ (by first | omega | (simp; done) | (simp; omega)) _ | refine Below.alloc ?_ (by first | omega | (simp; done) | (simp; omega)) _)⟩
theorem bits_or_comm (a b : Int) : bits BinOp.or IntKind.u64 a b = bits BinOp.or IntKind.u64 b a := by
 show IntKind.u64.wrap ((BitVec.ofInt 64 a ||| BitVec.ofInt 64 b).toNat : Int) = IntKind.u64.wrap ((BitVec.ofInt 64 b ||| BitVec.ofInt 64 a).toNat : Int)
 rw [BitVec.or_comm]
theorem wshr_nd {n : Nat} (hn : n ≤ 63) : (2 : Int) ^ n * 2 ^ (64 - n) = 18446744073709551616 := by rw [← Int.pow_add, show n + (64 - n) = 64 by omega]; rfl
set_option maxHeartbeats 1000000 in
theorem wshr_low (x : Int) (n : Nat) (w : World) (hx1 : In128 x) (hn : n ≤ 63) : Calls Tryd.prog 134 #[WV x, .int .i64 n] w fun e w' => e = .returned (.tuple #[WV (x / 2 ^ n), .nilIface]) ∧ Below w.heap.size w w' := by
 have hB := Below.refl w.heap.size w
 have p0 : (0 : Int) < 2 ^ n := Int.pow_pos (by omega)
 have q0 : (0 : Int) < 2 ^ (64 - n) := Int.pow_pos (by omega)
 have pq := wshr_nd hn
 obtain ⟨h1, h2, h3⟩ := shr_lo (x := x) p0 q0 pq
 have h4 := shr_hi (x := x) p0
 have H1 := Lib.hid h1
 have H2 := Lib.hid h2
 have H3 := Lib.hid h3
 have H4 := Lib.hid h4
 have K1 : bits BinOp.or IntKind.u64 (x % 18446744073709551616 / 2 ^ n) (IntKind.u64.wrap (IntKind.u64.wrap (x / 18446744073709551616) * 2 ^ (64 - n))) = (x / 2 ^ n) % 18446744073709551616 := by
   have z0 : 0 ≤ x % 18446744073709551616 := by omega
   have r1 : 0 ≤ x / 18446744073709551616 % 2 ^ n := Int.emod_nonneg _ (by omega)
   have r2 : 0 ≤ x / 18446744073709551616 % 18446744073709551616 * 2 ^ (64 - n) % 18446744073709551616 := Int.emod_nonneg _ (by omega)
   have r3 : x / 18446744073709551616 % 18446744073709551616 * 2 ^ (64 - n) % 18446744073709551616 < 18446744073709551616 := Int.emod_lt_of_pos _ (by omega)
   rw [u64_is, u64_is, bits_or_comm]
   rw [h3] at r2 r3 ⊢
   rw [Int.mul_comm] at r2 r3 ⊢
   rw [or_add (by omega) r1 (Int.ediv_nonneg z0 (by omega)) h2 r3, ← h1, h3]
   rw [Int.mul_comm (2 ^ (64 - n))]; omega
 replace K1 := Lib.hid K1
 clear h1 h2 h3 h4
 go_enter Tryd.func134, Tryd.ntmps134
 go_wp2_with (fail)
 go_region
 go_wp2_with (fail)
 refine bodyPost_ret (v := .tuple #[.agg #[.int .i64 (x / 18446744073709551616 / 2 ^ n), .int .u64 (bits BinOp.or IntKind.u64 (x % 18446744073709551616 / 2 ^ n) (IntKind.u64.wrap (IntKind.u64.wrap (x / 18446744073709551616) * 2 ^ (64 - n))))], .nilIface]) (by first | (simp [results, Tryd.results134, go_sem]; done) | (simp only [results, Tryd.results134]; go_simp; done) | (simp only [results, Tryd.results134]; go_simp; omega)) rfl (⟨by rw [K1.out, ← H4.out], by repeat (first | with_reducible assumption | exact Below.refl _ _ | refine Below.drew ?_ | refine Below.setCell ?_ (by first | omega | (simp; done) | (simp; omega)) _ | refine Below.alloc ?_ (by first | omega | (simp; done) | (simp; omega)) _)⟩)
set_option maxHeartbeats 1000000 in
theorem wshr_high (x : Int) (n : Nat) (w : World) (hx1 : In128 x) (hn : 64 ≤ n) (hn1 : n ≤ 127) : Calls Tryd.prog 134 #[WV x, .int .i64 n] w fun e w' => e = .returned (.tuple #[WV (x / 2 ^ n), .nilIface]) ∧ Below w.heap.size w w' := by
 have hB := Below.refl w.heap.size w
 have p0 : (0 : Int) < 2 ^ (n - 64) := Int.pow_pos (by omega)
 have e1 : x / 2 ^ n = x / 18446744073709551616 / 2 ^ (n - 64) := by
   rw [Int.ediv_ediv_of_nonneg (by omega), show n = 64 + (n - 64) by omega, Int.pow_add, show 64 + (n - 64) - 64 = n - 64 by omega]; rfl
 have E1 := Lib.hid e1
 clear e1
 have hr : InR (x / 18446744073709551616 / 2 ^ (n - 64)) := by
   have h0 : (1 : Int) ≤ 2 ^ (n - 64) := p0
   have h1 : -9223372036854775808 ≤ x / 18446744073709551616 / 2 ^ (n - 64) := by
     refine Int.le_ediv_of_mul_le p0 ?_
     have := Int.mul_le_mul_of_nonneg_left h0 (by omega : (0 : Int) ≤ 9223372036854775808)
     omega
   have h2 : x / 18446744073709551616 / 2 ^ (n - 64) < 9223372036854775808 := by
     refine Int.ediv_lt_of_lt_mul p0 ?_
     have := Int.mul_le_mul_of_nonneg_left h0 (by omega : (0 : Int) ≤ 9223372036854775808)
     omega
   omega
 go_enter Tryd.func134, Tryd.ntmps134
 go_wp2_with (fail)
 go_at_call 21
 (with_reducible refine (wof _ _ hr).mono ?_)
 rintro e w1 ⟨rfl, HB⟩
 obtain ⟨hc1, hf1⟩ := bcell HB
 have hz1 := HB.size
 try simp at hz1
 replace hB := Below.trans (show Below w.heap.size w _ from by repeat (first | with_reducible assumption | exact Below.refl _ _ | refine Below.drew ?_ | refine Below.setCell ?_ (by first | omega | (simp; done) | (simp; omega)) _ | refine Below.alloc ?_ (by first | omega | (simp; done) | (simp; omega)) _)) (Below.mono (B' := w.heap.size) HB (by first | omega | (simp; done) | (simp; omega)))
 try (have z1w0 : w.heap.size < w1.heap.size := (by omega))
 try (have z1w1 : w.heap.size + 1 < w1.heap.size := (by omega))
 try (have z1w2 : w.heap.size + 1 + 1 < w1.heap.size := (by omega))
 clear HB
 go_wp2_with (fail)
 refine bodyPost_ret (v := .tuple #[.agg #[.int .i64 ((x / 18446744073709551616 / 2 ^ (n - 64)) / 18446744073709551616), .int .u64 ((x / 18446744073709551616 / 2 ^ (n - 64)) % 18446744073709551616)], .nilIface]) (by first | (simp [results, Tryd.results134, go_sem]; done) | (simp only [results, Tryd.results134]; go_simp; done) | (simp only [results, Tryd.results134]; go_simp; omega)) rfl (⟨by rw [E1.out], by repeat (first | with_reducible assumption | exact Below.refl _ _ | refine Below.drew ?_ | refine Below.setCell ?_ (by first | omega | (simp; done) | (simp; omega)) _ | refine Below.alloc ?_ (by first | omega | (simp; done) | (simp; omega)) _)⟩)
theorem wshr (x : Int) (n : Nat) (w : World) (hx1 : In128 x) (hn : n ≤ 127) : Calls Tryd.prog 134 #[WV x, .int .i64 n] w fun e w' => e = .returned (.tuple #[WV (x / 2 ^ n), .nilIface]) ∧ Below w.heap.size w w' := by
 rcases Nat.lt_or_ge n 64 with h | h
 · exact wshr_low x n w hx1 (by omega)
 · exact wshr_high x n w hx1 h hn
theorem shr_rng {x : Int} (n : Nat) (hx : In128 x) : In128 (x / 2 ^ n) := wdiv_rng hx (by have : (0 : Int) < 2 ^ n := Int.pow_pos (by omega); omega)
set_option maxHeartbeats 1000000 in
theorem wmulshift (a m : Int) (n : Nat) (w : World) (ha : InR a) (hm0 : 0 ≤ m) (hm1 : m < 4294967296) (hn : n ≤ 31) (hq : InR (a * m / 2 ^ n)) : Calls Tryd.prog 76 #[.int .i64 a, .int .u32 m, .int .i64 n] w fun e w' => e = .returned (.tuple #[.int .i64 (a * m / 2 ^ n), .nilIface]) ∧ Below w.heap.size w w' := by
 have hB := Below.refl w.heap.size w
 have hm : InR m := by omega
 have hr := mul_rng ha hm
 have hp := shr_rng (x := a * m) n (by omega)
 go_enter Tryd.func76, Tryd.ntmps76
 go_wp2_with (fail)
 go_at_call 23
 (with_reducible refine (wmul _ _ _ ha hm).mono ?_)
 rintro e w1 ⟨rfl, HB⟩
 obtain ⟨hc1, hf1⟩ := bcell HB
 have hz1 := HB.size
 try simp at hz1
 replace hB := Below.trans (show Below w.heap.size w _ from by repeat (first | with_reducible assumption | exact Below.refl _ _ | refine Below.drew ?_ | refine Below.setCell ?_ (by first | omega | (simp; done) | (simp; omega)) _ | refine Below.alloc ?_ (by first | omega | (simp; done) | (simp; omega)) _)) (Below.mono (B' := w.heap.size) HB (by first | omega | (simp; done) | (simp; omega)))
 try (have z1w0 : w.heap.size < w1.heap.size := (by omega))
 try (have z1w1 : w.heap.size + 1 < w1.heap.size := (by omega))
 try (have z1w2 : w.heap.size + 1 + 1 < w1.heap.size := (by omega))
 clear HB
 go_wp2_with (fail)
 go_at_call 134
 (with_reducible refine (wshr _ _ _ (by omega) (by omega)).mono ?_)
 rintro e w2 ⟨rfl, HB⟩
 obtain ⟨hc2, hf2⟩ := bcell HB
 have hz2 := HB.size
 try simp at hz2
 replace hB := Below.trans (show Below w.heap.size w _ from by repeat (first | with_reducible assumption | exact Below.refl _ _ | refine Below.drew ?_ | refine Below.setCell ?_ (by first | omega | (simp; done) | (simp; omega)) _ | refine Below.alloc ?_ (by first | omega | (simp; done) | (simp; omega)) _)) (Below.mono (B' := w.heap.size) HB (by first | omega | (simp; done) | (simp; omega)))
 try (have z2w0 : w.heap.size < w2.heap.size := (by omega))
 try (have z2w1 : w.heap.size + 1 < w2.heap.size := (by omega))
 try (have z2w2 : w.heap.size + 1 + 1 < w2.heap.size := (by omega))
 try (have z2w10 : w1.heap.size < w2.heap.size := (by omega))
 try (have z2w11 : w1.heap.size + 1 < w2.heap.size := (by omega))
 try (have z2w12 : w1.heap.size + 1 + 1 < w2.heap.size := (by omega))
 clear HB
 go_wp2_with (fail)
 go_at_call 13
 (with_reducible refine (wint _ _ hq).mono ?_)
 rintro e w3 ⟨rfl, HB⟩
 obtain ⟨hc3, hf3⟩ := bcell HB
 have hz3 := HB.size
 try simp at hz3
 replace hB := Below.trans (show Below w.heap.size w _ from by repeat (first | with_reducible assumption | exact Below.refl _ _ | refine Below.drew ?_ | refine Below.setCell ?_ (by first | omega | (simp; done) | (simp; omega)) _ | refine Below.alloc ?_ (by first | omega | (simp; done) | (simp; omega)) _)) (Below.mono (B' := w.heap.size) HB (by first | omega | (simp; done) | (simp; omega)))
 try (have z3w0 : w.heap.size < w3.heap.size := (by omega))
 try (have z3w1 : w.heap.size + 1 < w3.heap.size := (by omega))
 try (have z3w2 : w.heap.size + 1 + 1 < w3.heap.size := (by omega))
 try (have z3w10 : w1.heap.size < w3.heap.size := (by omega))
 try (have z3w11 : w1.heap.size + 1 < w3.heap.size := (by omega))
 try (have z3w12 : w1.heap.size + 1 + 1 < w3.heap.size := (by omega))
 try (have z3w20 : w2.heap.size < w3.heap.size := (by omega))
 try (have z3w21 : w2.heap.size + 1 < w3.heap.size := (by omega))
 try (have z3w22 : w2.heap.size + 1 + 1 < w3.heap.size := (by omega))
 clear HB
 go_wp2_with (fail)
 go_ret2
 exact ⟨rfl, by repeat (first | with_reducible assumption | exact Below.refl _ _ | refine Below.drew ?_ | refine Below.setCell ?_ (by first | omega | (simp; done) | (simp; omega)) _ | refine Below.alloc ?_ (by first | omega | (simp; done) | (simp; omega)) _)⟩
theorem add64_run (x y c : Int) (hx : 0 ≤ x) (hy : 0 ≤ y) (hc0 : 0 ≤ c) (hc : c ≤ 1) (w : World) : (callFunc 69 #[.int .u64 x, .int .u64 y, .int .u64 c]).run Tryd.prog w = .ok (.value (.tuple #[.int .u64 ((x + y + c) % 18446744073709551616), .int .u64 ((x + y + c) / 18446744073709551616)])) w := by
 rw [run_callFunc_extern Tryd.func69 (by kernel_rfl) (by kernel_rfl) (by kernel_rfl) (e := add64Entry) (by kernel_rfl), run_add64 x y c hx hy hc0 hc]
 rfl
set_option maxRecDepth 100000 in
set_option maxHeartbeats 1000000 in
theorem wadd (x y : Int) (w : World) (hx : In128 x) (hy : In128 y) (hs : In128 (x + y)) : Calls Tryd.prog 11 #[WV x, WV y] w fun e w' => e = .returned (.tuple #[WV (x + y), .nilIface]) ∧ Below w.heap.size w w' := by
 have hB := Below.refl w.heap.size w
 have u1 : IntKind.u64.wrap (x / 18446744073709551616) = x / 18446744073709551616 % 18446744073709551616 := u64_is _
 have u2 : IntKind.u64.wrap (y / 18446744073709551616) = y / 18446744073709551616 % 18446744073709551616 := u64_is _
 have l0 : 0 ≤ x % 18446744073709551616 ∧ x % 18446744073709551616 < 18446744073709551616 := by omega
 have l1 : 0 ≤ y % 18446744073709551616 ∧ y % 18446744073709551616 < 18446744073709551616 := by omega
 have l2 : 0 ≤ x / 18446744073709551616 % 18446744073709551616 := by omega
 have l3 : 0 ≤ y / 18446744073709551616 % 18446744073709551616 := by omega
 obtain ⟨c, k1, k2, k3, k4, k5⟩ : ∃ c, (x % 18446744073709551616 + y % 18446744073709551616) % 18446744073709551616 = (x + y) % 18446744073709551616 ∧ (x % 18446744073709551616 + y % 18446744073709551616) / 18446744073709551616 = c ∧ 0 ≤ c ∧ c ≤ 1 ∧ wrap64 ((x / 18446744073709551616 % 18446744073709551616 + y / 18446744073709551616 % 18446744073709551616 + c) % 18446744073709551616) = (x + y) / 18446744073709551616 := by
   refine ⟨_, by omega, rfl, by omega, by omega, ?_⟩
   unfold wrap64
   omega
 have g1 : InR (x / 18446744073709551616) := by omega
 have g2 : InR (y / 18446744073709551616) := by omega
 have g3 : InR ((x + y) / 18446744073709551616) := by omega
 have g4 : ¬ ((x / 18446744073709551616 < 0 ∧ y / 18446744073709551616 < 0 ∧ ¬ (x + y) / 18446744073709551616 < 0) ∨ (¬ x / 18446744073709551616 < 0 ∧ ¬ y / 18446744073709551616 < 0 ∧ (x + y) / 18446744073709551616 < 0)) := by omega
 by_cases s1 : x / 18446744073709551616 < 0
 all_goals by_cases s2 : y / 18446744073709551616 < 0
 all_goals by_cases s3 : (x + y) / 18446744073709551616 < 0
 all_goals try (exfalso; apply g4; simp [s1, s2, s3]; done)
 all_goals clear g4
 all_goals
   go_enter Tryd.func11, Tryd.ntmps11
   go_upto_region 2 with (rw [add64_run _ _ _ l0.1 l1.1 (by decide) (by decide)])
   clear k1 k2
   generalize x % 18446744073709551616 = xl at *
   generalize y % 18446744073709551616 = yl at *
   generalize hsl : (x + y) % 18446744073709551616 = sl at *
   generalize x / 18446744073709551616 = xh at *
   generalize y / 18446744073709551616 = yh at *
   generalize hsh : (x + y) / 18446744073709551616 = sh at *
   have HSL := Lib.hid hsl
   have HSH := Lib.hid hsh
   clear hsl hsh
   clear hx hy hs
   go_wp2_with (rw [add64_run _ _ _ l2 l3 k3 k4])
   refine bodyPost_ret (v := .tuple #[.agg #[.int .i64 sh, .int .u64 sl], .nilIface]) (by first | (simp [results, Tryd.results11, go_sem]; done) | (simp only [results, Tryd.results11]; go_simp; done) | (simp only [results, Tryd.results11]; go_simp; omega)) rfl (⟨by rw [← HSL.out, ← HSH.out], by repeat (first | with_reducible assumption | exact Below.refl _ _ | refine Below.drew ?_ | refine Below.setCell ?_ (by first | omega | (simp; done) | (simp; omega)) _ | refine Below.alloc ?_ (by first | omega | (simp; done) | (simp; omega)) _)⟩)
theorem wmulshift_i (a m n : Int) (w : World) (ha : InR a) (hm0 : 0 ≤ m) (hm1 : m < 4294967296) (hn0 : 0 ≤ n) (hn : n ≤ 31) (hq : InR (a * m / 2 ^ n.toNat)) : Calls Tryd.prog 76 #[.int .i64 a, .int .u32 m, .int .i64 n] w fun e w' => e = .returned (.tuple #[.int .i64 (a * m / 2 ^ n.toNat), .nilIface]) ∧ Below w.heap.size w w' := by
 obtain ⟨k, rfl⟩ := Int.eq_ofNat_of_zero_le hn0
 exact wmulshift a m k w ha hm0 hm1 (by omega) hq
abbrev R2 (b : Nat) (x y : Value) (wx : World) : Prop := b < wx.heap.size ∧ wx.cell? ⟨b, 0, none⟩ = some x ∧ wx.cell? ⟨b, 1, none⟩ = some y ∧ wx.frozen? ⟨b, 0, none⟩ = false ∧ wx.frozen? ⟨b, 1, none⟩ = false
theorem R2.step {b : Nat} {x y : Value} {wx w' : World} (h : R2 b x y wx) (hb : Below wx.heap.size wx w') : R2 b x y w' :=
 ⟨Nat.lt_of_lt_of_le h.1 hb.size, by rw [hb.cell (p := ⟨b, 0, none⟩) h.1]; exact h.2.1, by rw [hb.cell (p := ⟨b, 1, none⟩) h.1]; exact h.2.2.1, by rw [hb.frozen (p := ⟨b, 0, none⟩) h.1]; exact h.2.2.2.1, by rw [hb.frozen (p := ⟨b, 1, none⟩) h.1]; exact h.2.2.2.2⟩
end Go.Proofs.YtgondiedehjkhaaDoor
