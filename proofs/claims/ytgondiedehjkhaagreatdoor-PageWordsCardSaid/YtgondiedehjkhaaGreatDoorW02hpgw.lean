/-
 Numbers of digits: 0, 1, signs.
-/
import Derived.Test.YtgondiedehjkhaaGreatDoorW02gpgw
import Derived.WalkSpells
import Derived.DeepKeys
import Derived.WalkLawsBesides
namespace Go.Proofs.YtgondiedehjkhaaGreatDoor
open Go.RowKit Go.Extern.Stop Go.Stop Go.Extern
set_option linter.unusedVariables false
set_option linter.unusedSimpArgs false
theorem dg_lt (x : Int) (h0 : 0 ≤ x) (h1 : x < B8) (h : ∀ k, k < 8 → dg x k = 0) : x = 0 := by
 have e : ∀ k, k ≤ 8 → x / BS ^ (8 - k) = 0 := by
   intro k
   induction k with
   | zero => intro _; exact up_top x h0 h1
   | succ k ih =>
     intro hk
     have h2 := up_eq x (8 - (k + 1))
     rw [show 8 - (k + 1) + 1 = 8 - k by omega, ih (by omega), h _ (by omega)] at h2
     omega
 have := e 8 (Nat.le_refl _)
 simpa using this
theorem dg_zero (k : Nat) : dg 0 k = 0 := by unfold dg; simp
theorem part_at (x : Int) (i : Nat) (hi : i < 8) (w : World) : (part 35 #[.int .u64 (dg (x) 0), .int .u64 (dg (x) 1), .int .u64 (dg (x) 2), .int .u64 (dg (x) 3), .int .u64 (dg (x) 4), .int .u64 (dg (x) 5), .int .u64 (dg (x) 6), .int .u64 (dg (x) 7)] (i * 1)).run Tryz.prog w = .ok (.int .u64 (dg x i)) w := by
 obtain rfl | rfl | rfl | rfl | rfl | rfl | rfl | rfl : i = 0 ∨ i = 1 ∨ i = 2 ∨ i = 3 ∨ i = 4 ∨ i = 5 ∨ i = 6 ∨ i = 7 := by omega
 all_goals kernel_rfl
theorem part_z (i : Nat) (hi : i < 8) (w : World) : (part 35 Z8 (i * 1)).run Tryz.prog w = .ok (.int .u64 0) w := by
 obtain rfl | rfl | rfl | rfl | rfl | rfl | rfl | rfl : i = 0 ∨ i = 1 ∨ i = 2 ∨ i = 3 ∨ i = 4 ∨ i = 5 ∨ i = 6 ∨ i = 7 := by omega
 all_goals kernel_rfl
theorem eqItems_int (w : World) (xs ys : Array Value) (f g : Nat → Int) : ∀ (l : List Nat), (∀ i ∈ l, (part 35 xs (i * 1)).run Tryz.prog w = .ok (.int .u64 (f i)) w) → (∀ i ∈ l, (part 35 ys (i * 1)).run Tryz.prog w = .ok (.int .u64 (g i)) w) →
   (Op.eqItems 9999 35 1 xs ys l).run Tryz.prog w = .ok (l.all fun i => f i == g i) w
 | [], _, _ => by simp [Op.eqItems]
 | i :: l, hx, hy => by
   have h1 := hx i (by simp)
   have h2 := hy i (by simp)
   have h3 := run_equalIn_int (P := Tryz.prog) w 9998 35 .u64 .u64 (f i) (g i) Tryz.underlying35
   have ih := eqItems_int w xs ys f g l (fun j hj => hx j (by simp [hj])) (fun j hj => hy j (by simp [hj]))
   simp only [Op.eqItems, Sem.run_bind, h1, h2, Result.andThen_ok, h3]
   cases hb : (f i == g i)
   · simp [hb]
   · simp [hb, ih]
theorem info64 : (Tryz.prog.info? 35).isSome = true := by kernel_rfl
theorem cells64 : Tryz.prog.cellsOf 35 = 1 := by kernel_rfl
theorem eq_zero (x : Int) (w : World) : (Op.equalIn 10000 156 (.agg #[.int .u64 (dg (x) 0), .int .u64 (dg (x) 1), .int .u64 (dg (x) 2), .int .u64 (dg (x) 3), .int .u64 (dg (x) 4), .int .u64 (dg (x) 5), .int .u64 (dg (x) 6), .int .u64 (dg (x) 7)]) (.agg Z8)).run Tryz.prog w = .ok ((List.range 8).all fun i => dg x i == 0) w := by
 obtain ⟨i, hi⟩ := Option.isSome_iff_exists.1 info64
 rw [run_equalIn_array w 9999 _ _ Tryz.underlying156 hi, cells64]
 exact eqItems_int w _ _ (dg x) (fun _ => 0) _ (fun i hi => part_at x i (by simpa using hi) w) (fun i hi => part_z i (by simpa using hi) w)
theorem all_zero (x : Int) (h0 : 0 ≤ x) (h1 : x < B8) (hx : x ≠ 0) : ((List.range 8).all fun i => dg x i == 0) = false := by
 cases h : ((List.range 8).all fun i => dg x i == 0) with
 | false => rfl
 | true =>
   rw [List.all_eq_true] at h
   exact absurd (dg_lt x h0 h1 fun k hk => by simpa using h k (by simpa using hk)) hx
set_option maxRecDepth 100000 in
theorem zero_yes (w : World) : Calls Tryz.prog 74 #[.agg #[.int .u64 (dg (0) 0), .int .u64 (dg (0) 1), .int .u64 (dg (0) 2), .int .u64 (dg (0) 3), .int .u64 (dg (0) 4), .int .u64 (dg (0) 5), .int .u64 (dg (0) 6), .int .u64 (dg (0) 7)]] w fun e w' => e = .returned (.bool true) ∧ Below w.heap.size w w' := by
 have kz := fun w => eq_zero 0 w
 have ka : ((List.range 8).all fun i => dg 0 i == 0) = true := by simp [dg_zero]
 rw [ka] at kz
 clear ka
 go_enter Tryz.func74, Tryz.ntmps74
 go_wp2_with (fail)
 go_ret
 exact ⟨rfl, by repeat (first | with_reducible assumption | exact Below.refl _ _ | refine Below.drew ?_ | refine Below.setCell ?_ (by first | omega | (simp; done) | (simp; omega)) _ | refine Below.alloc ?_ (by first | omega | (simp; done) | (simp; omega)) _)⟩
set_option maxRecDepth 100000 in
theorem zero_no (x : Int) (w : World) (HX : Hid (0 ≤ x ∧ x < B8)) (hx : Hid (x ≠ 0)) : Calls Tryz.prog 74 #[.agg #[.int .u64 (dg (x) 0), .int .u64 (dg (x) 1), .int .u64 (dg (x) 2), .int .u64 (dg (x) 3), .int .u64 (dg (x) 4), .int .u64 (dg (x) 5), .int .u64 (dg (x) 6), .int .u64 (dg (x) 7)]] w fun e w' => e = .returned (.bool false) ∧ Below w.heap.size w w' := by
 have kz := fun w => eq_zero x w
 rw [all_zero x HX.out.1 HX.out.2 hx.out] at kz
 go_enter Tryz.func74, Tryz.ntmps74
 go_wp2_with (fail)
 go_ret
 exact ⟨rfl, by repeat (first | with_reducible assumption | exact Below.refl _ _ | refine Below.drew ?_ | refine Below.setCell ?_ (by first | omega | (simp; done) | (simp; omega)) _ | refine Below.alloc ?_ (by first | omega | (simp; done) | (simp; omega)) _)⟩
theorem dg_one (k : Nat) (hk : 1 ≤ k) : dg 1 k = 0 := by
 unfold dg
 have : (1 : Int) / BS ^ k = 0 := by
   apply Int.ediv_eq_zero_of_lt (by omega)
   obtain ⟨m, rfl⟩ : ∃ m, k = m + 1 := ⟨k - 1, by omega⟩
   rw [Int.pow_succ]
   have := BS_pos m
   show (1 : Int) < BS ^ m * 4294967296
   omega
 rw [this]; rfl
set_option maxRecDepth 100000 in
set_option maxHeartbeats 1000000 in
theorem one_c (w : World) : Calls Tryz.prog 127 #[] w fun e w' => e = .returned (.agg #[.int .u64 (dg (1) 0), .int .u64 (dg (1) 1), .int .u64 (dg (1) 2), .int .u64 (dg (1) 3), .int .u64 (dg (1) 4), .int .u64 (dg (1) 5), .int .u64 (dg (1) 6), .int .u64 (dg (1) 7)]) ∧ Below w.heap.size w w' := by
 have e0 : dg 1 0 = 1 := by decide
 rw [e0, dg_one 1 (by omega), dg_one 2 (by omega), dg_one 3 (by omega), dg_one 4 (by omega), dg_one 5 (by omega), dg_one 6 (by omega), dg_one 7 (by omega)]
 go_enter Tryz.func127, Tryz.ntmps127
 go_wp2_with (fail)
 refine bodyPost_ret (v := .agg #[.int .u64 1, .int .u64 0, .int .u64 0, .int .u64 0, .int .u64 0, .int .u64 0, .int .u64 0, .int .u64 0]) (by first | (simp [results, Tryz.results127, go_sem]; done) | (simp only [results, Tryz.results127]; go_simp; done) | (simp only [results, Tryz.results127]; go_simp; omega)) rfl (⟨rfl, by repeat (first | with_reducible assumption | exact Below.refl _ _ | refine Below.drew ?_ | refine Below.setCell ?_ (by first | omega | (simp; done) | (simp; omega)) _ | refine Below.alloc ?_ (by first | omega | (simp; done) | (simp; omega)) _)⟩)
end Go.Proofs.YtgondiedehjkhaaGreatDoor
