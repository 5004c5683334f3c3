/-
 Numbers of digits: twice a size, which size is the greater, 0, 1.
-/
import Derived.Test.YtgondiedehjkhaaGreatDoorW02fpgw
namespace Go.Proofs.YtgondiedehjkhaaGreatDoor
open Go.RowKit Go.Extern.Stop Go.Stop Go.Extern
set_option linter.unusedVariables false
set_option linter.unusedSimpArgs false
set_option maxRecDepth 100000 in
set_option maxHeartbeats 4000000 in
theorem twice_c (x b : Int) (w : World) (hb : 0 ≤ b ∧ b ≤ 1) : Calls Tryz.prog 122 #[.agg #[.int .u64 (dg (x) 0), .int .u64 (dg (x) 1), .int .u64 (dg (x) 2), .int .u64 (dg (x) 3), .int .u64 (dg (x) 4), .int .u64 (dg (x) 5), .int .u64 (dg (x) 6), .int .u64 (dg (x) 7)], .int .u64 b] w fun e w' => e = .returned (.agg #[.int .u64 (dg (2 * x + b) 0), .int .u64 (dg (2 * x + b) 1), .int .u64 (dg (2 * x + b) 2), .int .u64 (dg (2 * x + b) 3), .int .u64 (dg (2 * x + b) 4), .int .u64 (dg (2 * x + b) 5), .int .u64 (dg (2 * x + b) 6), .int .u64 (dg (2 * x + b) 7)]) ∧ Below w.heap.size w w' := by
 go_enter Tryz.func122, Tryz.ntmps122
 go_wp2_with (fail)
 go_loopw [1, 5] (fun c i wr => ∃ k : Nat, k ≤ 8 ∧ i = .int .i64 k ∧ c = .int .u64 (trr x b k) ∧ wr.heap[w.heap.size]? = some (.cells (mixA (2 * x + b) x k) 156 (0, 0)) ∧ wr.heap[w.heap.size + 1]? = some (.cells Z8 156 (0, 0)) ∧ Below w.heap.size w wr) (fun _ i _ => 8 - (intOf i).toNat)
 case atStart =>
   refine ⟨0, by omega, rfl, by rw [trr_zero], ?_, ?_, ((Below.refl _ _).alloc (Nat.le_refl _) _).alloc (by simp) _⟩
   · rw [mixA_zero]
     exact (Below.heap_alloc _ _ _ (by simp)).trans (heap_alloc_new w _)
   · have := heap_alloc_new (w.alloc (.cells #[.int .u64 (dg (x) 0), .int .u64 (dg (x) 1), .int .u64 (dg (x) 2), .int .u64 (dg (x) 3), .int .u64 (dg (x) 4), .int .u64 (dg (x) 5), .int .u64 (dg (x) 6), .int .u64 (dg (x) 7)] 156)) (.cells Z8 156)
     simp only [World.size_alloc] at this
     exact this
 case round =>
   obtain ⟨k, hk, rfl, rfl, hx, hz, hbw⟩ := hrel
   by_cases hlt : k < 8
   · have hcx : wr.cell? ⟨w.heap.size, k, none⟩ = some (.int .u64 (dg x k)) := by rw [cell_of_row _ _ _ _ _ _ hx, mixA_get _ _ _ _ hlt, if_neg (by omega)]
     have hfx := row_free hx k
     have r1 := dg_rng x k
     have r3 := trr_rng x b hb k
     have HP := Lib.hid (twice_step x b k)
     have HM := Lib.hid (mixA_set (2 * x + b) x k hlt)
     go_wp2_with (fail)
     go_roundw
     case rel =>
       refine ⟨k + 1, by omega, by go_num, by rw [HP.out.2], ?_, (Below.heap_setCell _ _ _ _ (by simp)).trans hz, hbw.setCell (p := ⟨w.heap.size, k, none⟩) (Nat.le_refl _) _⟩
       rw [← HM.out, ← HP.out.1]
       exact set_row hx _ _
     case measure => simp [intOf]; omega
   · obtain rfl : k = 8 := by omega
     rw [mixA_all] at hx
     have c0 := cell_of_row _ _ 0 _ _ _ hx
     have c1 := cell_of_row _ _ 1 _ _ _ hx
     have c2 := cell_of_row _ _ 2 _ _ _ hx
     have c3 := cell_of_row _ _ 3 _ _ _ hx
     have c4 := cell_of_row _ _ 4 _ _ _ hx
     have c5 := cell_of_row _ _ 5 _ _ _ hx
     have c6 := cell_of_row _ _ 6 _ _ _ hx
     have c7 := cell_of_row _ _ 7 _ _ _ hx
     have d0 := cell_of_row _ _ 0 _ _ _ hz
     have d1 := cell_of_row _ _ 1 _ _ _ hz
     have d2 := cell_of_row _ _ 2 _ _ _ hz
     have d3 := cell_of_row _ _ 3 _ _ _ hz
     have d4 := cell_of_row _ _ 4 _ _ _ hz
     have d5 := cell_of_row _ _ 5 _ _ _ hz
     have d6 := cell_of_row _ _ 6 _ _ _ hz
     have d7 := cell_of_row _ _ 7 _ _ _ hz
     have f0 := row_free hz 0
     have f1 := row_free hz 1
     have f2 := row_free hz 2
     have f3 := row_free hz 3
     have f4 := row_free hz 4
     have f5 := row_free hz 5
     have f6 := row_free hz 6
     have f7 := row_free hz 7
     simp at c0 c1 c2 c3 c4 c5 c6 c7 d0 d1 d2 d3 d4 d5 d6 d7
     clear hx
     have HZ := Lib.hid hz
     clear hz
     go_wp2_with (fail)
     clear c0 c1 c2 c3 c4 c5 c6 c7 d0 d1 d2 d3 d4 d5 d6 d7 f0 f1 f2 f3 f4 f5 f6 f7
     have hR := row8 HZ.out (.int .u64 (dg (2 * x + b) 0)) (.int .u64 (dg (2 * x + b) 1)) (.int .u64 (dg (2 * x + b) 2)) (.int .u64 (dg (2 * x + b) 3)) (.int .u64 (dg (2 * x + b) 4)) (.int .u64 (dg (2 * x + b) 5)) (.int .u64 (dg (2 * x + b) 6)) (.int .u64 (dg (2 * x + b) 7))
     have hB := below8 hbw (show w.heap.size ≤ w.heap.size + 1 by omega) (.int .u64 (dg (2 * x + b) 0)) (.int .u64 (dg (2 * x + b) 1)) (.int .u64 (dg (2 * x + b) 2)) (.int .u64 (dg (2 * x + b) 3)) (.int .u64 (dg (2 * x + b) 4)) (.int .u64 (dg (2 * x + b) 5)) (.int .u64 (dg (2 * x + b) 6)) (.int .u64 (dg (2 * x + b) 7))
     generalize ((((((((wr.setCell ⟨w.heap.size + 1, 0, none⟩ (.int .u64 (dg (2 * x + b) 0))).setCell ⟨w.heap.size + 1, 1, none⟩ (.int .u64 (dg (2 * x + b) 1))).setCell ⟨w.heap.size + 1, 2, none⟩ (.int .u64 (dg (2 * x + b) 2))).setCell ⟨w.heap.size + 1, 3, none⟩ (.int .u64 (dg (2 * x + b) 3))).setCell ⟨w.heap.size + 1, 4, none⟩ (.int .u64 (dg (2 * x + b) 4))).setCell ⟨w.heap.size + 1, 5, none⟩ (.int .u64 (dg (2 * x + b) 5))).setCell ⟨w.heap.size + 1, 6, none⟩ (.int .u64 (dg (2 * x + b) 6))).setCell ⟨w.heap.size + 1, 7, none⟩ (.int .u64 (dg (2 * x + b) 7))) = w9 at *
     have k0 := cell_of_row _ _ 0 _ _ _ hR
     have k1 := cell_of_row _ _ 1 _ _ _ hR
     have k2 := cell_of_row _ _ 2 _ _ _ hR
     have k3 := cell_of_row _ _ 3 _ _ _ hR
     have k4 := cell_of_row _ _ 4 _ _ _ hR
     have k5 := cell_of_row _ _ 5 _ _ _ hR
     have k6 := cell_of_row _ _ 6 _ _ _ hR
     have k7 := cell_of_row _ _ 7 _ _ _ hR
     simp at k0 k1 k2 k3 k4 k5 k6 k7
     refine bodyPost_ret (v := .agg #[.int .u64 (dg (2 * x + b) 0), .int .u64 (dg (2 * x + b) 1), .int .u64 (dg (2 * x + b) 2), .int .u64 (dg (2 * x + b) 3), .int .u64 (dg (2 * x + b) 4), .int .u64 (dg (2 * x + b) 5), .int .u64 (dg (2 * x + b) 6), .int .u64 (dg (2 * x + b) 7)]) (by first | (simp [results, Tryz.results122, go_sem]; done) | (simp only [results, Tryz.results122]; go_simp; done) | (simp only [results, Tryz.results122]; go_simp; omega)) rfl (⟨rfl, hB⟩)

theorem ret_i {a b : Int} (h : a = b) : Ending.returned (.int .i64 a) = Ending.returned (.int .i64 b) := by rw [h]
def sizeR (x y : Int) : Int := if y < x then 1 else if x < y then -1 else 0
theorem up_eq (x : Int) (m : Nat) : x / BS ^ m = x / BS ^ (m + 1) * 4294967296 + dg x m := by
 rw [div_succ]; unfold dg; omega
theorem up_gt {x y : Int} {m : Nat} (h : x / BS ^ (m + 1) = y / BS ^ (m + 1)) (hd : dg y m < dg x m) : y < x := by
 have h1 := up_eq x m
 have h2 := up_eq y m
 have h3 : y / BS ^ m < x / BS ^ m := by rw [h1, h2, h]; omega
 by_cases h4 : y < x
 · exact h4
 · have := Int.ediv_le_ediv (BS_pos m) (show x ≤ y by omega); omega
theorem up_same {x y : Int} {m : Nat} (h : x / BS ^ (m + 1) = y / BS ^ (m + 1)) (hd : dg x m = dg y m) : x / BS ^ m = y / BS ^ m := by
 rw [up_eq x m, up_eq y m, h, hd]
abbrev B8 : Int := 115792089237316195423570985008687907853269984665640564039457584007913129639936
theorem up_top (x : Int) (h : 0 ≤ x) (h2 : x < B8) : x / BS ^ 8 = 0 := by
 have e : BS ^ 8 = B8 := by decide
 rw [e]; exact Int.ediv_eq_zero_of_lt h h2
set_option maxRecDepth 100000 in
set_option maxHeartbeats 4000000 in
theorem size_c (x y : Int) (w : World) (HX : Hid (0 ≤ x ∧ x < B8)) (HY : Hid (0 ≤ y ∧ y < B8)) : Calls Tryz.prog 123 #[.agg #[.int .u64 (dg (x) 0), .int .u64 (dg (x) 1), .int .u64 (dg (x) 2), .int .u64 (dg (x) 3), .int .u64 (dg (x) 4), .int .u64 (dg (x) 5), .int .u64 (dg (x) 6), .int .u64 (dg (x) 7)], .agg #[.int .u64 (dg (y) 0), .int .u64 (dg (y) 1), .int .u64 (dg (y) 2), .int .u64 (dg (y) 3), .int .u64 (dg (y) 4), .int .u64 (dg (y) 5), .int .u64 (dg (y) 6), .int .u64 (dg (y) 7)]] w fun e w' => e = .returned (.int .i64 (sizeR x y)) ∧ Below w.heap.size w w' := by
 go_enter Tryz.func123, Tryz.ntmps123
 go_wp2_with (fail)
 go_loopw [5] (fun i wr => ∃ k : Nat, k ≤ 8 ∧ i = .int .i64 ((k : Int) - 1) ∧ Hid (x / BS ^ k = y / BS ^ k) ∧ wr.heap[w.heap.size]? = some (.cells (mixA x x 0) 156 (0, 0)) ∧ wr.heap[w.heap.size + 1]? = some (.cells (mixA y y 0) 156 (0, 0)) ∧ Below w.heap.size w wr) (fun i _ => (intOf i + 1).toNat)
 case atStart =>
   refine ⟨8, by omega, rfl, Lib.hid (by rw [up_top x HX.out.1 HX.out.2, up_top y HY.out.1 HY.out.2]), ?_, ?_, ((Below.refl _ _).alloc (Nat.le_refl _) _).alloc (by simp) _⟩
   · rw [mixA_zero]
     exact (Below.heap_alloc _ _ _ (by simp)).trans (heap_alloc_new w _)
   · have := heap_alloc_new (w.alloc (.cells #[.int .u64 (dg (x) 0), .int .u64 (dg (x) 1), .int .u64 (dg (x) 2), .int .u64 (dg (x) 3), .int .u64 (dg (x) 4), .int .u64 (dg (x) 5), .int .u64 (dg (x) 6), .int .u64 (dg (x) 7)] 156)) (.cells #[.int .u64 (dg (y) 0), .int .u64 (dg (y) 1), .int .u64 (dg (y) 2), .int .u64 (dg (y) 3), .int .u64 (dg (y) 4), .int .u64 (dg (y) 5), .int .u64 (dg (y) 6), .int .u64 (dg (y) 7)] 156)
     simp only [World.size_alloc] at this
     rw [mixA_zero]
     exact this
 case round =>
   obtain ⟨j, hj, rfl, heq, hx, hy, hbw⟩ := hrel
   rcases j with _ | k
   · simp only [Int.natCast_zero, Int.zero_sub]
     have HE : x = y := by have := heq.out; simpa using this
     go_wp2_with (fail)
     go_ret
     exact ⟨ret_i (by unfold sizeR; rw [if_neg (by omega), if_neg (by omega)]), hbw⟩
   · rw [show ((k + 1 : Nat) : Int) - 1 = (k : Int) by omega]
     have hlt : k < 8 := by omega
     have hcx : wr.cell? ⟨w.heap.size, k, none⟩ = some (.int .u64 (dg x k)) := by rw [cell_of_row _ _ _ _ _ _ hx, mixA_get _ _ _ _ hlt, if_neg (by omega)]
     have hcy : wr.cell? ⟨w.heap.size + 1, k, none⟩ = some (.int .u64 (dg y k)) := by rw [cell_of_row _ _ _ _ _ _ hy, mixA_get _ _ _ _ hlt, if_neg (by omega)]
     have r1 := dg_rng x k
     have r2 := dg_rng y k
     rcases Int.lt_trichotomy (dg x k) (dg y k) with hd | hd | hd
     · have HR := Lib.hid (up_gt heq.out.symm hd)
       have g1 : decide (dg y k < dg x k) = false := decide_eq_false (by omega)
       go_wp2_with (fail)
       go_quiet (fail)
       go_wp2_with (fail)
       go_quiet (fail)
       go_wp2_with (fail)
       go_ret
       exact ⟨ret_i (by unfold sizeR; rw [if_neg (by have := HR.out; omega), if_pos HR.out]), by repeat (first | with_reducible assumption | exact Below.refl _ _ | refine Below.drew ?_ | refine below_drewN ?_ _ | refine Below.setCell ?_ (by first | omega | (simp; done) | (simp; omega)) _ | refine Below.alloc ?_ (by first | omega | (simp; done) | (simp; omega)) _)⟩
     · have HR := Lib.hid (up_same heq.out hd)
       have g1 : decide (dg y k < dg x k) = false := decide_eq_false (by omega)
       have g2 : decide (dg x k < dg y k) = false := decide_eq_false (by omega)
       clear hd
       go_wp2_with (fail)
       go_quiet (fail)
       go_wp2_with (fail)
       go_quiet (fail)
       go_wp2_with (fail)
       go_roundw
       case rel => exact ⟨k, by omega, rfl, HR, (heap_dN _ _ _).trans hx, (heap_dN _ _ _).trans hy, below_drewN hbw _⟩
       case measure => simp [intOf]
     · have HR := Lib.hid (up_gt heq.out hd)
       go_wp2_with (fail)
       go_quiet (fail)
       go_wp2_with (fail)
       go_ret
       exact ⟨ret_i (by unfold sizeR; rw [if_pos HR.out]), by repeat (first | with_reducible assumption | exact Below.refl _ _ | refine Below.drew ?_ | refine below_drewN ?_ _ | refine Below.setCell ?_ (by first | omega | (simp; done) | (simp; omega)) _ | refine Below.alloc ?_ (by first | omega | (simp; done) | (simp; omega)) _)⟩
end Go.Proofs.YtgondiedehjkhaaGreatDoor
