/-
 math/bits.LeadingZeros64, Div64.
-/
import Derived.Test.YtgondiedehjkhaaDoorW02sums
import Derived.Laws.BitsAllLaws
import Derived.Deep.LoopGhost
namespace Go.Proofs.YtgondiedehjkhaaDoor
open Go.RowKit Go.Extern.Stop Go.Stop Go.Extern
set_option linter.unusedVariables false
set_option linter.unusedSimpArgs false
set_option maxHeartbeats 4000000 in
theorem nlz64 (x : Int) (w : World) (h0 : 1 ≤ x) (h1 : x < 18446744073709551616) : Calls Tryd.prog 172 #[.int .u64 x] w fun e w' => (∃ s : Nat, s ≤ 63 ∧ 2 ^ (63 - s) ≤ x ∧ x < 2 ^ (64 - s) ∧ e = .returned (.int .i64 s)) ∧ w = w' := by
 go_enter Tryd.func172, Tryd.ntmps172
 go_wp2_with (go_at_call 173; (with_reducible refine (len64 _ _ h0 h1).mono ?_); rintro e w' ⟨⟨n, n1, n2, n3, n4, rfl⟩, rfl⟩)
 go_ret
 refine ⟨⟨64 - n, by omega, ?_, ?_, ?_⟩, rfl⟩
 · rw [show 63 - (64 - n) = n - 1 by omega]; exact n3
 · rw [show 64 - (64 - n) = n by omega]; exact n4
 · go_simp; omega
theorem or_add {n : Nat} {a b : Int} (hn : n ≤ 64) (ha : 0 ≤ a) (hb : 0 ≤ b) (hb1 : b < 2 ^ n) (h : a * 2 ^ n < 18446744073709551616) : bits BinOp.or IntKind.u64 (a * 2 ^ n) b = a * 2 ^ n + b := by
 obtain ⟨A, rfl⟩ := Int.eq_ofNat_of_zero_le ha
 obtain ⟨B, rfl⟩ := Int.eq_ofNat_of_zero_le hb
 have e1 : (A : Int) * 2 ^ n = ((2 ^ n * A : Nat) : Int) := by rw [Int.natCast_mul, Int.natCast_pow, Int.mul_comm]; rfl
 rw [e1] at h ⊢
 have e2 : B < 2 ^ n := by
   have : ((B : Nat) : Int) < ((2 ^ n : Nat) : Int) := by rw [Int.natCast_pow]; exact hb1
   omega
 have e4 := Nat.two_pow_add_eq_or_of_lt e2 A
 have e5 : 2 ^ n ≤ 2 ^ 64 := Nat.pow_le_pow_right (by omega) hn
 rw [u64_or_nat _ _ (by omega) (by omega), ← e4]; omega
theorem div64_norm (h l d : Int) (n : Nat) (h0 : 1 ≤ h) (h1 : h < d) (l0 : 0 ≤ l) (l1 : l < 18446744073709551616) (n1 : n ≤ 63) (n2 : 2 ^ (63 - n) ≤ d) (n3 : d < 2 ^ (64 - n)) :
   ∃ y un z a b u1 u0 : Int, IntKind.u64.wrap (d * 2 ^ n) = y ∧ bits BinOp.or IntKind.u64 (IntKind.u64.wrap (h * 2 ^ n)) (l / 2 ^ (64 - n)) = un ∧ IntKind.u64.wrap (l * 2 ^ n) = z ∧
     y / 4294967296 = a ∧ bits BinOp.and IntKind.u64 y 4294967295 = b ∧ z / 4294967296 = u1 ∧ bits BinOp.and IntKind.u64 z 4294967295 = u0 ∧
     y = a * 4294967296 + b ∧ 2147483648 ≤ a ∧ a < 4294967296 ∧ 0 ≤ b ∧ b < 4294967296 ∧ 0 ≤ un ∧ un < y ∧ y < 18446744073709551616 ∧ 0 ≤ u1 ∧ u1 < 4294967296 ∧ 0 ≤ u0 ∧ u0 < 4294967296 ∧
     y = d * 2 ^ n ∧ (h * 18446744073709551616 + l) * 2 ^ n = (un * 4294967296 + u1) * 4294967296 + u0 := by
 have p0 : (0 : Int) < 2 ^ n := Int.pow_pos (by omega)
 have q0 : (0 : Int) < 2 ^ (64 - n) := Int.pow_pos (by omega)
 have pq : (2 : Int) ^ (64 - n) * 2 ^ n = 18446744073709551616 := by rw [← Int.pow_add, show 64 - n + n = 64 by omega]; rfl
 have pr : (2 : Int) ^ (63 - n) * 2 ^ n = 9223372036854775808 := by rw [← Int.pow_add, show 63 - n + n = 63 by omega]; rfl
 have y1 : 9223372036854775808 ≤ d * 2 ^ n := by rw [← pr]; exact Int.mul_le_mul_of_nonneg_right n2 (by omega)
 have y2 : d * 2 ^ n < 18446744073709551616 := by rw [← pq]; exact Int.mul_lt_mul_of_pos_right n3 p0
 have m1 : (h + 1) * 2 ^ n ≤ d * 2 ^ n := Int.mul_le_mul_of_nonneg_right (by omega) (by omega)
 rw [Int.add_mul, Int.one_mul] at m1
 have m0 : 0 ≤ h * 2 ^ n := Int.mul_nonneg (by omega) (by omega)
 have c1 : l / 2 ^ (64 - n) < 2 ^ n := Int.ediv_lt_of_lt_mul q0 (by rw [Int.mul_comm, pq]; exact l1)
 have c0 : 0 ≤ l / 2 ^ (64 - n) := Int.ediv_nonneg l0 (by omega)
 have z1 : l * 2 ^ n = (l / 2 ^ (64 - n)) * 18446744073709551616 + (l * 2 ^ n) % 18446744073709551616 := by
   have e1 : l * 2 ^ n / 18446744073709551616 = l / 2 ^ (64 - n) := by
     rw [← pq]; exact Int.mul_ediv_mul_of_pos_left _ _ p0
   have e2 := Int.mul_ediv_add_emod (l * 2 ^ n) 18446744073709551616
   rw [e1] at e2
   omega
 have w1 : IntKind.u64.wrap (d * 2 ^ n) = d * 2 ^ n := by rw [IntKind.wrap_u64]; omega
 have w2 : IntKind.u64.wrap (h * 2 ^ n) = h * 2 ^ n := by rw [IntKind.wrap_u64]; omega
 have w3 : bits BinOp.or IntKind.u64 (IntKind.u64.wrap (h * 2 ^ n)) (l / 2 ^ (64 - n)) = h * 2 ^ n + l / 2 ^ (64 - n) := by
   rw [w2]; exact or_add (by omega) (by omega) c0 c1 (by omega)
 have w4 : IntKind.u64.wrap (l * 2 ^ n) = (l * 2 ^ n) % 18446744073709551616 := IntKind.wrap_u64 _
 have msk : ∀ x : Int, 0 ≤ x → x < 18446744073709551616 → bits BinOp.and IntKind.u64 x 4294967295 = x % 4294967296 := by
   intro x x0 x1
   obtain ⟨X, rfl⟩ := Int.eq_ofNat_of_zero_le x0
   have := u64_and_nat X 4294967295 (by omega) (by omega)
   rw [nat_mask32] at this
   rw [show (4294967295 : Int) = ((4294967295 : Nat) : Int) from rfl, this]; omega
 refine ⟨d * 2 ^ n, h * 2 ^ n + l / 2 ^ (64 - n), (l * 2 ^ n) % 18446744073709551616, _, _, _, _, w1, w3, w4, rfl, rfl, rfl, rfl, ?_, ?_, ?_, ?_, ?_, ?_, ?_, y2, ?_, ?_, ?_, ?_, rfl, ?_⟩
 all_goals (try rw [msk _ (by omega) (by omega)])
 all_goals (try rw [msk _ (by omega) (by omega)])
 all_goals try omega
 rw [Int.add_mul]
 have e5 : h * 18446744073709551616 * 2 ^ n = h * 2 ^ n * 18446744073709551616 := by rw [Int.mul_assoc, Int.mul_comm 18446744073709551616, ← Int.mul_assoc]
 omega
theorem div64_low (l d : Int) (w : World) (l0 : 0 ≤ l) (l1 : l < 18446744073709551616) (d0 : 1 ≤ d) (d1 : d < 18446744073709551616) : Calls Tryd.prog 168 #[.int .u64 0, .int .u64 l, .int .u64 d] w fun e w' => e = .returned (.tuple #[.int .u64 (l / d), .int .u64 (l % d)]) ∧ Below w.heap.size w w' := by
 have hB := Below.refl w.heap.size w
 have e1 : l.tdiv d = l / d := Int.tdiv_eq_ediv_of_nonneg l0
 have e2 : l.tmod d = l % d := Int.tmod_eq_emod_of_nonneg l0
 have r1 : 0 ≤ l / d := Int.ediv_nonneg l0 (by omega)
 have r2 : l / d < 18446744073709551616 := by have := Int.ediv_le_self d l0; omega
 have r3 : 0 ≤ l % d := Int.emod_nonneg _ (by omega)
 have r4 : l % d < d := Int.emod_lt_of_pos _ (by omega)
 have r5 : IntKind.u64.wrap (l / d) = l / d := by rw [IntKind.wrap_u64]; omega
 have r6 : IntKind.u64.wrap (l % d) = l % d := by rw [IntKind.wrap_u64]; omega
 go_enter Tryd.func168, Tryd.ntmps168
 go_wp2_with (fail)
 go_region
 go_wp2_with (fail)
 go_ret2
 exact ⟨rfl, hB.drew⟩
theorem emod_id {x : Int} (h0 : 0 ≤ x) (h1 : x < 18446744073709551616) : IntKind.u64.wrap x = x := by rw [IntKind.wrap_u64]; omega
set_option maxRecDepth 100000 in
set_option maxHeartbeats 8000000 in
theorem div64 (h l d : Int) (w : World) (h0 : 1 ≤ h) (h1 : h < d) (l0 : 0 ≤ l) (l1 : l < 18446744073709551616) (d0 : 1 ≤ d) (d1 : d < 18446744073709551616) : Calls Tryd.prog 168 #[.int .u64 h, .int .u64 l, .int .u64 d] w fun e w' => e = .returned (.tuple #[.int .u64 ((h * 18446744073709551616 + l) / d), .int .u64 ((h * 18446744073709551616 + l) % d)]) ∧ Below w.heap.size w w' := by
 go_enter Tryd.func168, Tryd.ntmps168
 go_upto_region 8 with (go_at_call 172; (with_reducible refine (nlz64 _ _ d0 d1).mono ?_); rintro e w' ⟨⟨n, n1, n2, n3, rfl⟩, rfl⟩)
 obtain ⟨y, un, z, a, b, u1, u0, w1, w2, w3, w4, w5, w6, w7, hy, ha, ha1, hb, hb1, hu, huy, hy1, hu1, hu2, hv1, hv2, hyd, hX⟩ := div64_norm h l d n h0 h1 l0 l1 n1 n2 n3
 clear n2 n3
 obtain ⟨s1, s2, s3, s4, s5, s6⟩ := start hy ha hb hb1 hu huy u1 hu2
 have t1 : un.tdiv a = un / a := Int.tdiv_eq_ediv_of_nonneg hu
 have t2 : IntKind.u64.wrap (un / a) = un / a := emod_id s2 (by omega)
 have s7 : 0 ≤ un / a * a := Int.mul_nonneg s2 (by omega)
 have t3 : IntKind.u64.wrap (un / a * a) = un / a * a := emod_id (by omega) (by omega)
 have t4 : un - un / a * a = un % a := by omega
 have t5 : IntKind.u64.wrap (un % a) = un % a := emod_id (by omega) (by omega)
 have t6 : (a == 0) = false := by rw [beq_eq_false_iff_ne]; omega
 have hyH := Lib.hid hy
 have hydH := Lib.hid hyd
 have hXH := Lib.hid hX
 clear hy hyd hX
 go_upto_block 0 with fail
 clear t1 t2 t3 t4 t5 t6 w1 w2 w3 w4 w5 w6 w7
 go_cut [15, 16] from 67 to 85 (fun q r wx => q = .int .u64 ((un * 4294967296 + u1) / y) ∧ w = wx)
 case first =>
   go_wp2_with (fail)
   go_loopg [15, 16] ((un / a).toNat) (fun k q r wx => ∃ Q R : Int, q = .int .u64 Q ∧ r = .int .u64 R ∧ Hid (Q * a + R = un) ∧ Hid ((un * 4294967296 + u1) < (Q + 1) * y) ∧ 0 ≤ R ∧ R < 4294967296 ∧ 0 ≤ Q ∧ Q ≤ 4294967297 ∧ k = Q.toNat ∧ w = wx)
   case atStart => exact ⟨_, _, rfl, rfl, Lib.hid s4, Lib.hid s1, s5, by omega, s2, s3, rfl, rfl⟩
   case round =>
     clear s1 s2 s3 s4 s5 s6 s7
     obtain ⟨Q, R, rfl, rfl, i1, i2, i3, i4, i5, i6, rfl, rfl⟩ := hrel
     by_cases hq : 4294967296 ≤ Q
     · have i7 := Lib.hid (over2 (q := Q) (u1 := u1) (by omega) huy (by omega) hq)
       by_cases hr : 4294967296 ≤ R + a
       · go_wp2_with (fail)
         go_meet
         have := right (by omega) (fits2 (q := Q - 1) (u1 := u1) hyH.out (down i1.out) hb hb1 (by omega) (by omega) hr) (by rw [show Q - 1 + 1 = Q by omega]; exact i7.out)
         exact ⟨by rw [this.1], rfl⟩
       · go_wp2_with (fail)
         go_roundg (Q - 1).toNat
         case measure => omega
         case rel => exact ⟨_, _, rfl, rfl, Lib.hid (down i1.out), Lib.hid (by rw [show Q - 1 + 1 = Q by omega]; exact i7.out), by omega, by omega, by omega, by omega, rfl, rfl⟩
     · have m0 : 0 ≤ Q * b := Int.mul_nonneg i5 hb
       have m1 : Q * b ≤ 4294967295 * b := Int.mul_le_mul_of_nonneg_right (by omega) hb
       have m2 : IntKind.u64.wrap (Q * b) = Q * b := emod_id m0 (by omega)
       have m3 : IntKind.u64.wrap (4294967296 * R) = 4294967296 * R := emod_id (by omega) (by omega)
       have m4 : IntKind.u64.wrap (4294967296 * R + u1) = 4294967296 * R + u1 := emod_id (by omega) (by omega)
       by_cases hf : 4294967296 * R + u1 < Q * b
       · have i7 := Lib.hid (over (q := Q) (u1 := u1) hyH.out i1.out hf)
         have i8 : 1 ≤ Q := by
           rcases Int.lt_or_le Q 1 with h9 | h9
           · rw [show Q = 0 by omega, Int.zero_mul] at hf; omega
           · exact h9
         by_cases hr : 4294967296 ≤ R + a
         · go_wp2_with (fail)
           go_meet
           have := right (by omega) (fits2 (q := Q - 1) (u1 := u1) hyH.out (down i1.out) hb hb1 (by omega) (by omega) hr) (by rw [show Q - 1 + 1 = Q by omega]; exact i7.out)
           exact ⟨by rw [this.1], rfl⟩
         · go_wp2_with (fail)
           go_roundg (Q - 1).toNat
           case measure => omega
           case rel => exact ⟨_, _, rfl, rfl, Lib.hid (down i1.out), Lib.hid (by rw [show Q - 1 + 1 = Q by omega]; exact i7.out), by omega, by omega, by omega, by omega, rfl, rfl⟩
       · go_wp2_with (fail)
         go_meet
         have := right (by omega) (fits (q := Q) (u1 := u1) hyH.out i1.out (by omega)) i2.out
         exact ⟨by rw [this.1], rfl⟩
 case rest =>
   obtain ⟨rfl, rfl⟩ := hcut
   clear s1 s2 s3 s4 s5 s6 s7
   have f1 := Int.mul_ediv_add_emod (un * 4294967296 + u1) y
   have f2 : 0 ≤ (un * 4294967296 + u1) % y := Int.emod_nonneg _ (by omega)
   have hvy : (un * 4294967296 + u1) % y < y := Int.emod_lt_of_pos _ (by omega)
   obtain ⟨f4, f5⟩ := below (n := un * 4294967296 + u1) (y := y) (by omega) (by omega) rfl huy hu2
   generalize (un * 4294967296 + u1) / y = q1 at *
   generalize (un * 4294967296 + u1) % y = v at *
   rw [Int.mul_comm y q1] at f1
   obtain ⟨x1, x2, x3, k1, k2, k3, k4⟩ : ∃ x1 x2 x3 : Int, IntKind.u64.wrap (un * 4294967296) = x1 ∧ IntKind.u64.wrap (x1 + u1) = x2 ∧ IntKind.u64.wrap (q1 * y) = x3 ∧ IntKind.u64.wrap (x2 - x3) = v := by
     refine ⟨_, _, _, rfl, rfl, rfl, ?_⟩
     simp only [IntKind.wrap_u64]
     generalize q1 * y = Z at *
     omega
   have f6 := Lib.hid f1
   clear f1
   obtain ⟨s1, s2, s3, s4, s5, s6⟩ := start hyH.out ha hb hb1 f2 hvy u0 hv2
   have t1 : v.tdiv a = v / a := Int.tdiv_eq_ediv_of_nonneg f2
   have t2 : IntKind.u64.wrap (v / a) = v / a := emod_id s2 (by omega)
   have s7 : 0 ≤ v / a * a := Int.mul_nonneg s2 (by omega)
   have t3 : IntKind.u64.wrap (v / a * a) = v / a * a := emod_id (by omega) (by omega)
   have t4 : v - v / a * a = v % a := by omega
   have t5 : IntKind.u64.wrap (v % a) = v % a := emod_id (by omega) (by omega)
   have t6 : (a == 0) = false := by rw [beq_eq_false_iff_ne]; omega
   go_upto_block 2 with fail
   clear t1 t2 t3 t4 t5 t6 k1 k2 k3 k4
   go_cut [18, 16] from 102 to 120 (fun q r wx => q = .int .u64 ((v * 4294967296 + u0) / y) ∧ w = wx)
   case first =>
     go_wp2_with (fail)
     go_loopg [18, 16] ((v / a).toNat) (fun k q r wx => ∃ Q R : Int, q = .int .u64 Q ∧ r = .int .u64 R ∧ Hid (Q * a + R = v) ∧ Hid ((v * 4294967296 + u0) < (Q + 1) * y) ∧ 0 ≤ R ∧ R < 4294967296 ∧ 0 ≤ Q ∧ Q ≤ 4294967297 ∧ k = Q.toNat ∧ w = wx)
     case atStart => exact ⟨_, _, rfl, rfl, Lib.hid s4, Lib.hid s1, s5, by omega, s2, s3, rfl, rfl⟩
     case round =>
       clear s1 s2 s3 s4 s5 s6 s7
       obtain ⟨Q, R, rfl, rfl, i1, i2, i3, i4, i5, i6, rfl, rfl⟩ := hrel
       by_cases hq : 4294967296 ≤ Q
       · have i7 := Lib.hid (over2 (q := Q) (u1 := u0) (by omega) hvy (by omega) hq)
         by_cases hr : 4294967296 ≤ R + a
         · go_wp2_with (fail)
           go_meet
           have := right (by omega) (fits2 (q := Q - 1) (u1 := u0) hyH.out (down i1.out) hb hb1 (by omega) (by omega) hr) (by rw [show Q - 1 + 1 = Q by omega]; exact i7.out)
           exact ⟨by rw [this.1], rfl⟩
         · go_wp2_with (fail)
           go_roundg (Q - 1).toNat
           case measure => omega
           case rel => exact ⟨_, _, rfl, rfl, Lib.hid (down i1.out), Lib.hid (by rw [show Q - 1 + 1 = Q by omega]; exact i7.out), by omega, by omega, by omega, by omega, rfl, rfl⟩
       · have m0 : 0 ≤ Q * b := Int.mul_nonneg i5 hb
         have m1 : Q * b ≤ 4294967295 * b := Int.mul_le_mul_of_nonneg_right (by omega) hb
         have m2 : IntKind.u64.wrap (Q * b) = Q * b := emod_id m0 (by omega)
         have m3 : IntKind.u64.wrap (4294967296 * R) = 4294967296 * R := emod_id (by omega) (by omega)
         have m4 : IntKind.u64.wrap (4294967296 * R + u0) = 4294967296 * R + u0 := emod_id (by omega) (by omega)
         by_cases hf : 4294967296 * R + u0 < Q * b
         · have i7 := Lib.hid (over (q := Q) (u1 := u0) hyH.out i1.out hf)
           have i8 : 1 ≤ Q := by
             rcases Int.lt_or_le Q 1 with h9 | h9
             · rw [show Q = 0 by omega, Int.zero_mul] at hf; omega
             · exact h9
           by_cases hr : 4294967296 ≤ R + a
           · go_wp2_with (fail)
             go_meet
             have := right (by omega) (fits2 (q := Q - 1) (u1 := u0) hyH.out (down i1.out) hb hb1 (by omega) (by omega) hr) (by rw [show Q - 1 + 1 = Q by omega]; exact i7.out)
             exact ⟨by rw [this.1], rfl⟩
           · go_wp2_with (fail)
             go_roundg (Q - 1).toNat
             case measure => omega
             case rel => exact ⟨_, _, rfl, rfl, Lib.hid (down i1.out), Lib.hid (by rw [show Q - 1 + 1 = Q by omega]; exact i7.out), by omega, by omega, by omega, by omega, rfl, rfl⟩
         · go_wp2_with (fail)
           go_meet
           have := right (by omega) (fits (q := Q) (u1 := u0) hyH.out i1.out (by omega)) i2.out
           exact ⟨by rw [this.1], rfl⟩
   case rest =>
     obtain ⟨rfl, rfl⟩ := hcut
     clear s1 s2 s3 s4 s5 s6 s7
     have g1 := Int.mul_ediv_add_emod (v * 4294967296 + u0) y
     have g2 : 0 ≤ (v * 4294967296 + u0) % y := Int.emod_nonneg _ (by omega)
     have g3 : (v * 4294967296 + u0) % y < y := Int.emod_lt_of_pos _ (by omega)
     obtain ⟨g4, g5⟩ := below (n := v * 4294967296 + u0) (y := y) (by omega) (by omega) rfl hvy hv2
     generalize (v * 4294967296 + u0) / y = q0 at *
     generalize (v * 4294967296 + u0) % y = r at *
     rw [Int.mul_comm y q0] at g1
     obtain ⟨x1, x2, x3, k1, k2, k3, k4⟩ : ∃ x1 x2 x3 : Int, IntKind.u64.wrap (v * 4294967296) = x1 ∧ IntKind.u64.wrap (x1 + u0) = x2 ∧ IntKind.u64.wrap (q0 * y) = x3 ∧ IntKind.u64.wrap (x2 - x3) = r := by
       refine ⟨_, _, _, rfl, rfl, rfl, ?_⟩
       simp only [IntKind.wrap_u64]
       generalize q0 * y = Z at *
       omega
     have k5 : IntKind.u64.wrap (q1 * 4294967296) = q1 * 4294967296 := emod_id (by omega) (by omega)
     have k6 : IntKind.u64.wrap (q1 * 4294967296 + q0) = q1 * 4294967296 + q0 := emod_id (by omega) (by omega)
     obtain ⟨e1, e2⟩ := both (p := 2 ^ n) (Int.pow_pos (by omega)) (by omega) hydH.out hXH.out f6.out.symm g1.symm g2 g3
     have e1 := Lib.hid e1
     have e2 := Lib.hid e2
     clear g1
     have k7 : IntKind.u64.wrap (r / 2 ^ n) = r / 2 ^ n := emod_id (Int.ediv_nonneg g2 (by have : (0 : Int) < 2 ^ n := Int.pow_pos (by omega); omega)) (by have := Int.ediv_le_self (2 ^ n) g2; omega)
     go_wp2_with (fail)
     try go_region
     go_wp2_with (fail)
     go_ret2
     rw [e1.out, ← e2.out]
     first | exact ⟨rfl, Below.refl _ _⟩ | exact ⟨rfl, (Below.refl _ _).drew⟩
end Go.Proofs.YtgondiedehjkhaaDoor
