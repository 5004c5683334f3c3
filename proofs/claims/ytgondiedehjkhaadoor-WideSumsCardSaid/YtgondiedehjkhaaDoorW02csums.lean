/-
 Numbers of 128 bits: the program.
-/
import Derived.Test.YtgondiedehjkhaaDoorW02bsums
import Derived.Lib.Mul64
namespace Go.Proofs.YtgondiedehjkhaaDoor
open Go.RowKit Go.Extern.Stop Go.Stop Go.Extern
set_option linter.unusedVariables false
set_option linter.unusedSimpArgs false
abbrev WV (x : Int) : Value := .agg #[.int .i64 (x / 18446744073709551616), .int .u64 (x % 18446744073709551616)]
abbrev In128 (x : Int) : Prop := -170141183460469231731687303715884105728 ≤ x ∧ x ≤ 170141183460469231731687303715884105727
theorem u64_is (x : Int) : IntKind.u64.wrap x = x % 18446744073709551616 := IntKind.wrap_u64 x
theorem mask32 {x : Int} (x0 : 0 ≤ x) (x1 : x < 18446744073709551616) : bits BinOp.and IntKind.u64 x 4294967295 = x % 4294967296 := by
 obtain ⟨X, rfl⟩ := Int.eq_ofNat_of_zero_le x0
 have := u64_and_nat X 4294967295 (by omega) (by omega)
 rw [nat_mask32] at this
 rw [show (4294967295 : Int) = ((4294967295 : Nat) : Int) from rfl, this]; omega
theorem prod_le {a b : Int} (a0 : 0 ≤ a) (a1 : a < 4294967296) (b0 : 0 ≤ b) (b1 : b < 4294967296) : 0 ≤ a * b ∧ a * b ≤ 18446744065119617025 := by
 refine ⟨Int.mul_nonneg a0 b0, ?_⟩
 have h1 : a * b ≤ 4294967295 * b := Int.mul_le_mul_of_nonneg_right (by omega) b0
 omega
set_option maxRecDepth 100000 in
set_option maxHeartbeats 4000000 in
theorem mul64 (x y : Int) (w : World) (x0 : 0 ≤ x) (x1 : x < 18446744073709551616) (y0 : 0 ≤ y) (y1 : y < 18446744073709551616) : Calls Tryd.prog 74 #[.int .u64 x, .int .u64 y] w fun e w' => e = .returned (.tuple #[.int .u64 (x * y / 18446744073709551616), .int .u64 (x * y % 18446744073709551616)]) ∧ w = w' := by
 have hx := mask32 x0 x1
 have hy := mask32 y0 y1
 have hxy : x * y = (x / 4294967296) * (y / 4294967296) * 18446744073709551616 + ((x / 4294967296) * (y % 4294967296) + (x % 4294967296) * (y / 4294967296)) * 4294967296 + (x % 4294967296) * (y % 4294967296) := by
   have e1 : x = (x / 4294967296) * 4294967296 + x % 4294967296 := by omega
   have e2 : y = (y / 4294967296) * 4294967296 + y % 4294967296 := by omega
   generalize x / 4294967296 = a at *; generalize x % 4294967296 = b at *; generalize y / 4294967296 = c at *; generalize y % 4294967296 = d at *
   subst e1 e2
   rw [Int.add_mul, Int.mul_add, Int.mul_add, Int.mul_right_comm a, Int.mul_right_comm a 4294967296 d, ← Int.mul_assoc a c, ← Int.mul_assoc b c, Int.add_mul]
   omega
 obtain ⟨a, ha⟩ : ∃ a, x / 4294967296 = a := ⟨_, rfl⟩
 obtain ⟨b, hb⟩ : ∃ b, x % 4294967296 = b := ⟨_, rfl⟩
 obtain ⟨c, hc⟩ : ∃ c, y / 4294967296 = c := ⟨_, rfl⟩
 obtain ⟨d, hd⟩ : ∃ d, y % 4294967296 = d := ⟨_, rfl⟩
 rw [ha, hb, hc, hd] at hxy
 rw [hb] at hx
 rw [hd] at hy
 have r1 := prod_le (a := a) (b := c) (by omega) (by omega) (by omega) (by omega)
 have r2 := prod_le (a := a) (b := d) (by omega) (by omega) (by omega) (by omega)
 have r3 := prod_le (a := b) (b := c) (by omega) (by omega) (by omega) (by omega)
 have r4 := prod_le (a := b) (b := d) (by omega) (by omega) (by omega) (by omega)
 have k1 : IntKind.u64.wrap (b * d) = b * d := emod_id (by omega) (by omega)
 have k2 : IntKind.u64.wrap (a * d) = a * d := emod_id (by omega) (by omega)
 have k3 : IntKind.u64.wrap (b * c) = b * c := emod_id (by omega) (by omega)
 have k4 : IntKind.u64.wrap (a * c) = a * c := emod_id (by omega) (by omega)
 have k5 : IntKind.u64.wrap (a * d + b * d / 4294967296) = a * d + b * d / 4294967296 := emod_id (by omega) (by omega)
 have k6 := mask32 (x := a * d + b * d / 4294967296) (by omega) (by omega)
 have k9 : IntKind.u64.wrap (x * y) = x * y % 18446744073709551616 := u64_is _
 go_enter Tryd.func74, Tryd.ntmps74
 go_wp2_with (fail)
 go_ret2
 refine ⟨retT2 (intV ?_) (intV ?_), rfl⟩
 · rw [hxy]
   generalize a * c = A at *; generalize a * d = B at *; generalize b * c = C at *; generalize b * d = D at *
   omega
 · rw [hxy, u64_is]
theorem xor_max {v : Int} (h0 : 0 ≤ v) (h1 : v < 18446744073709551616) : bits BinOp.xor IntKind.u64 IntKind.u64.max v = 18446744073709551615 - v := by
 obtain ⟨V, rfl⟩ := Int.eq_ofNat_of_zero_le h0
 show IntKind.u64.wrap ((BitVec.ofInt 64 IntKind.u64.max ^^^ BitVec.ofInt 64 (V : Int)).toNat : Int) = _
 rw [show BitVec.ofInt 64 IntKind.u64.max = BitVec.allOnes 64 by decide, BitVec.allOnes_xor, BitVec.toNat_not, BitVec.toNat_ofInt, u64_is]
 omega
theorem xor_neg {v : Int} (h : InR v) : bits BinOp.xor IntKind.i64 (-1) v = -1 - v := by
 show IntKind.i64.wrap ((BitVec.ofInt 64 (-1) ^^^ BitVec.ofInt 64 v).toNat : Int) = _
 rw [show BitVec.ofInt 64 (-1) = BitVec.allOnes 64 by decide, BitVec.allOnes_xor, BitVec.toNat_not, BitVec.toNat_ofInt]
 simp only [IntKind.wrap, IntKind.bits, IntKind.signed]
 simp
 split <;> omega
theorem wv_of {x h l : Int} (hl : l = x % 18446744073709551616) (hh : h = x / 18446744073709551616) : Value.agg #[.int .i64 h, .int .u64 l] = WV x := by rw [hl, hh]
theorem wof (a : Int) (w : World) (ha : InR a) : Calls Tryd.prog 21 #[.int .i64 a] w fun e w' => e = .returned (WV a) ∧ Below w.heap.size w w' := by
 have hB := Below.refl w.heap.size w
 have hu : IntKind.u64.wrap a = a % 18446744073709551616 := u64_is a
 go_enter Tryd.func21, Tryd.ntmps21
 go_wp2_with (fail)
 refine bodyPost_ret (v := .agg #[.int .i64 (a / 9223372036854775808), .int .u64 (a % 18446744073709551616)]) (by first | (simp [results, Tryd.results21, go_sem]; done) | (simp only [results, Tryd.results21]; go_simp; done) | (simp only [results, Tryd.results21]; go_simp; omega)) rfl ⟨congrArg Ending.returned (wv_of (x := a) (rfl) (by omega)), (hB.alloc (by simp <;> omega) _)⟩
theorem wflip (x : Int) (w : World) (hx : In128 x) : Calls Tryd.prog 70 #[WV x] w fun e w' => e = .returned (WV (-1 - x)) ∧ Below w.heap.size w w' := by
 have hB := Below.refl w.heap.size w
 have h1 := xor_max (v := x % 18446744073709551616) (by omega) (by omega)
 have h2 := xor_neg (v := x / 18446744073709551616) (by omega)
 go_enter Tryd.func70, Tryd.ntmps70
 go_wp2_with (fail)
 refine bodyPost_ret (v := .agg #[.int .i64 (-1 - x / 18446744073709551616), .int .u64 (18446744073709551615 - x % 18446744073709551616)]) (by first | (simp [results, Tryd.results70, go_sem]; done) | (simp only [results, Tryd.results70]; go_simp; done) | (simp only [results, Tryd.results70]; go_simp; omega)) rfl ⟨congrArg Ending.returned (wv_of (x := -1 - x) (by omega) (by omega)), ((hB.alloc (by simp <;> omega) _).alloc (by simp <;> omega) _)⟩
set_option maxHeartbeats 1000000 in
theorem wmul (a b : Int) (w : World) (ha : InR a) (hb : InR b) : Calls Tryd.prog 23 #[.int .i64 a, .int .i64 b] w fun e w' => e = .returned (WV (a * b)) ∧ Below w.heap.size w w' := by
 have hB := Below.refl w.heap.size w
 have hu : IntKind.u64.wrap a = a % 18446744073709551616 := u64_is a
 have hv : IntKind.u64.wrap b = b % 18446744073709551616 := u64_is b
 have hr := mul_rng ha hb
 by_cases a0 : a < 0
 all_goals by_cases b0 : b < 0
 all_goals
   go_enter Tryd.func23, Tryd.ntmps23
   go_wp2_with (go_at_call 74; (try rw [hu]); (try rw [hv]); (with_reducible refine (mul64 _ _ _ (by omega) (by omega) (by omega) (by omega)).mono ?_); rintro e w' ⟨rfl, rfl⟩)
 · refine bodyPost_ret (v := .agg #[.int .i64 (wrap64 (IntKind.u64.wrap (IntKind.u64.wrap (a % 18446744073709551616 * (b % 18446744073709551616) / 18446744073709551616 - b % 18446744073709551616) - a % 18446744073709551616))), .int .u64 (a % 18446744073709551616 * (b % 18446744073709551616) % 18446744073709551616)]) (by first | (simp [results, Tryd.results23, go_sem]; done) | (simp only [results, Tryd.results23]; go_simp; done) | (simp only [results, Tryd.results23]; go_simp; omega)) rfl ⟨congrArg Ending.returned (wv_of (x := a * b) ?lo ?hi), (hB.alloc (by simp <;> omega) _)⟩
   case lo => rw [u_neg ha (by omega), u_neg hb (by omega), mul_nn]; (try (generalize a * b = X at *; omega))
   case hi => rw [u_neg ha (by omega), u_neg hb (by omega), mul_nn]; (try simp only [u64_is]); generalize a * b = X at *; clear hu hv; (try rw [Int.add_mul_ediv_left _ _ (by omega : (18446744073709551616 : Int) ≠ 0)]); (have hY : -4611686018427387904 ≤ X / 18446744073709551616 ∧ X / 18446744073709551616 ≤ 4611686018427387904 := by omega); generalize X / 18446744073709551616 = Y at *; unfold wrap64; omega
 · refine bodyPost_ret (v := .agg #[.int .i64 (wrap64 (IntKind.u64.wrap (a % 18446744073709551616 * (b % 18446744073709551616) / 18446744073709551616 - b % 18446744073709551616))), .int .u64 (a % 18446744073709551616 * (b % 18446744073709551616) % 18446744073709551616)]) (by first | (simp [results, Tryd.results23, go_sem]; done) | (simp only [results, Tryd.results23]; go_simp; done) | (simp only [results, Tryd.results23]; go_simp; omega)) rfl ⟨congrArg Ending.returned (wv_of (x := a * b) ?lo ?hi), (hB.alloc (by simp <;> omega) _)⟩
   case lo => rw [u_neg ha (by omega), u_pos hb (by omega), mul_np]; (try (generalize a * b = X at *; omega))
   case hi => rw [u_neg ha (by omega), u_pos hb (by omega), mul_np]; (try simp only [u64_is]); generalize a * b = X at *; clear hu hv; (try rw [Int.add_mul_ediv_left _ _ (by omega : (18446744073709551616 : Int) ≠ 0)]); (have hY : -4611686018427387904 ≤ X / 18446744073709551616 ∧ X / 18446744073709551616 ≤ 4611686018427387904 := by omega); generalize X / 18446744073709551616 = Y at *; unfold wrap64; omega
 · refine bodyPost_ret (v := .agg #[.int .i64 (wrap64 (IntKind.u64.wrap (a % 18446744073709551616 * (b % 18446744073709551616) / 18446744073709551616 - a % 18446744073709551616))), .int .u64 (a % 18446744073709551616 * (b % 18446744073709551616) % 18446744073709551616)]) (by first | (simp [results, Tryd.results23, go_sem]; done) | (simp only [results, Tryd.results23]; go_simp; done) | (simp only [results, Tryd.results23]; go_simp; omega)) rfl ⟨congrArg Ending.returned (wv_of (x := a * b) ?lo ?hi), (hB.alloc (by simp <;> omega) _)⟩
   case lo => rw [u_pos ha (by omega), u_neg hb (by omega), mul_pn]; (try (generalize a * b = X at *; omega))
   case hi => rw [u_pos ha (by omega), u_neg hb (by omega), mul_pn]; (try simp only [u64_is]); generalize a * b = X at *; clear hu hv; (try rw [Int.add_mul_ediv_left _ _ (by omega : (18446744073709551616 : Int) ≠ 0)]); (have hY : -4611686018427387904 ≤ X / 18446744073709551616 ∧ X / 18446744073709551616 ≤ 4611686018427387904 := by omega); generalize X / 18446744073709551616 = Y at *; unfold wrap64; omega
 · refine bodyPost_ret (v := .agg #[.int .i64 (wrap64 (a % 18446744073709551616 * (b % 18446744073709551616) / 18446744073709551616)), .int .u64 (a % 18446744073709551616 * (b % 18446744073709551616) % 18446744073709551616)]) (by first | (simp [results, Tryd.results23, go_sem]; done) | (simp only [results, Tryd.results23]; go_simp; done) | (simp only [results, Tryd.results23]; go_simp; omega)) rfl ⟨congrArg Ending.returned (wv_of (x := a * b) ?lo ?hi), (hB.alloc (by simp <;> omega) _)⟩
   case lo => rw [u_pos ha (by omega), u_pos hb (by omega)]; (try (generalize a * b = X at *; omega))
   case hi => rw [u_pos ha (by omega), u_pos hb (by omega)]; (try simp only [u64_is]); generalize a * b = X at *; clear hu hv; (try rw [Int.add_mul_ediv_left _ _ (by omega : (18446744073709551616 : Int) ≠ 0)]); (have hY : -4611686018427387904 ≤ X / 18446744073709551616 ∧ X / 18446744073709551616 ≤ 4611686018427387904 := by omega); generalize X / 18446744073709551616 = Y at *; unfold wrap64; omega
end Go.Proofs.YtgondiedehjkhaaDoor
