/-
 Numbers of digits: twice a size, which size is the greater, 0, 1.
-/
import Derived.Test.YtgondiedehjkhaaDoorW02fsums
namespace Go.Proofs.YtgondiedehjkhaaDoor
open Go.RowKit Go.Extern.Stop Go.Stop Go.Extern
set_option linter.unusedVariables false
set_option linter.unusedSimpArgs false
theorem ret_i {a b : Int} (h : a = b) : Ending.returned (.int .i64 a) = Ending.returned (.int .i64 b) := by rw [h]
def sizeR (x y : Int) : Int := if y < x then 1 else if x < y then -1 else 0
theorem up_eq (x : Int) (m : Nat) : x / BS ^ m = x / BS ^ (m + 1) * 4294967296 + dg x m := by
 rw [div_succ]; unfold dg; omega
theorem up_gt {x y : Int} {m : Nat} (h : x / BS ^ (m + 1) = y / BS ^ (m + 1)) (hd : dg y m < dg x m) : y < x := by
 have h1 := up_eq x m
 have h2 := up_eq y m
 have h3 : y / BS ^ m < x / BS ^ m := by rw [h1, h2, h]; omega
 by_cases h4 : y < x
 · exact h4
 · have := Int.ediv_le_ediv (BS_pos m) (show x ≤ y by omega); omega
theorem up_same {x y : Int} {m : Nat} (h : x / BS ^ (m + 1) = y / BS ^ (m + 1)) (hd : dg x m = dg y m) : x / BS ^ m = y / BS ^ m := by
 rw [up_eq x m, up_eq y m, h, hd]
abbrev B8 : Int := 115792089237316195423570985008687907853269984665640564039457584007913129639936
theorem up_top (x : Int) (h : 0 ≤ x) (h2 : x < B8) : x / BS ^ 8 = 0 := by
 have e : BS ^ 8 = B8 := by decide
 rw [e]; exact Int.ediv_eq_zero_of_lt h h2
set_option maxRecDepth 100000 in
set_option maxHeartbeats 4000000 in
theorem size_c (x y : Int) (w : World) (HX : Hid (0 ≤ x ∧ x < B8)) (HY : Hid (0 ≤ y ∧ y < B8)) : Calls Tryd.prog 71 #[.agg #[.int .u64 (dg (x) 0), .int .u64 (dg (x) 1), .int .u64 (dg (x) 2), .int .u64 (dg (x) 3), .int .u64 (dg (x) 4), .int .u64 (dg (x) 5), .int .u64 (dg (x) 6), .int .u64 (dg (x) 7)], .agg #[.int .u64 (dg (y) 0), .int .u64 (dg (y) 1), .int .u64 (dg (y) 2), .int .u64 (dg (y) 3), .int .u64 (dg (y) 4), .int .u64 (dg (y) 5), .int .u64 (dg (y) 6), .int .u64 (dg (y) 7)]] w fun e w' => e = .returned (.int .i64 (sizeR x y)) ∧ Below w.heap.size w w' := by
 go_enter Tryd.func71, Tryd.ntmps71
 go_wp2_with (fail)
 go_loopw [5] (fun i wr => ∃ k : Nat, k ≤ 8 ∧ i = .int .i64 ((k : Int) - 1) ∧ Hid (x / BS ^ k = y / BS ^ k) ∧ wr.heap[w.heap.size]? = some (.cells (mixA x x 0) 27 (0, 0)) ∧ wr.heap[w.heap.size + 1]? = some (.cells (mixA y y 0) 27 (0, 0)) ∧ Below w.heap.size w wr) (fun i _ => (intOf i + 1).toNat)
 case atStart =>
   refine ⟨8, by omega, rfl, Lib.hid (by rw [up_top x HX.out.1 HX.out.2, up_top y HY.out.1 HY.out.2]), ?_, ?_, ((Below.refl _ _).alloc (Nat.le_refl _) _).alloc (by simp) _⟩
   · rw [mixA_zero]
     exact (Below.heap_alloc _ _ _ (by simp)).trans (heap_alloc_new w _)
   · have := heap_alloc_new (w.alloc (.cells #[.int .u64 (dg (x) 0), .int .u64 (dg (x) 1), .int .u64 (dg (x) 2), .int .u64 (dg (x) 3), .int .u64 (dg (x) 4), .int .u64 (dg (x) 5), .int .u64 (dg (x) 6), .int .u64 (dg (x) 7)] 27)) (.cells #[.int .u64 (dg (y) 0), .int .u64 (dg (y) 1), .int .u64 (dg (y) 2), .int .u64 (dg (y) 3), .int .u64 (dg (y) 4), .int .u64 (dg (y) 5), .int .u64 (dg (y) 6), .int .u64 (dg (y) 7)] 27)
     simp only [World.size_alloc] at this
     rw [mixA_zero]
     exact this
 case round =>
   obtain ⟨j, hj, rfl, heq, hx, hy, hbw⟩ := hrel
   rcases j with _ | k
   · simp only [Int.natCast_zero, Int.zero_sub]
     have HE : x = y := by have := heq.out; simpa using this
     go_wp2_with (fail)
     go_ret
     exact ⟨ret_i (by unfold sizeR; rw [if_neg (by omega), if_neg (by omega)]), hbw⟩
   · rw [show ((k + 1 : Nat) : Int) - 1 = (k : Int) by omega]
     have hlt : k < 8 := by omega
     have hcx : wr.cell? ⟨w.heap.size, k, none⟩ = some (.int .u64 (dg x k)) := by rw [cell_of_row _ _ _ _ _ _ hx, mixA_get _ _ _ _ hlt, if_neg (by omega)]
     have hcy : wr.cell? ⟨w.heap.size + 1, k, none⟩ = some (.int .u64 (dg y k)) := by rw [cell_of_row _ _ _ _ _ _ hy, mixA_get _ _ _ _ hlt, if_neg (by omega)]
     have r1 := dg_rng x k
     have r2 := dg_rng y k
     rcases Int.lt_trichotomy (dg x k) (dg y k) with hd | hd | hd
     · have HR := Lib.hid (up_gt heq.out.symm hd)
       have g1 : decide (dg y k < dg x k) = false := decide_eq_false (by omega)
       go_wp2_with (fail)
       go_quiet (fail)
       go_wp2_with (fail)
       go_quiet (fail)
       go_wp2_with (fail)
       go_ret
       exact ⟨ret_i (by unfold sizeR; rw [if_neg (by have := HR.out; omega), if_pos HR.out]), by repeat (first | with_reducible assumption | exact Below.refl _ _ | refine Below.drew ?_ | refine below_drewN ?_ _ | refine Below.setCell ?_ (by first | omega | (simp; done) | (simp; omega)) _ | refine Below.alloc ?_ (by first | omega | (simp; done) | (simp; omega)) _)⟩
     · have HR := Lib.hid (up_same heq.out hd)
       have g1 : decide (dg y k < dg x k) = false := decide_eq_false (by omega)
       have g2 : decide (dg x k < dg y k) = false := decide_eq_false (by omega)
       clear hd
       go_wp2_with (fail)
       go_quiet (fail)
       go_wp2_with (fail)
       go_quiet (fail)
       go_wp2_with (fail)
       go_roundw
       case rel => exact ⟨k, by omega, rfl, HR, (heap_dN _ _ _).trans hx, (heap_dN _ _ _).trans hy, below_drewN hbw _⟩
       case measure => simp [intOf]
     · have HR := Lib.hid (up_gt heq.out hd)
       go_wp2_with (fail)
       go_quiet (fail)
       go_wp2_with (fail)
       go_ret
       exact ⟨ret_i (by unfold sizeR; rw [if_pos HR.out]), by repeat (first | with_reducible assumption | exact Below.refl _ _ | refine Below.drew ?_ | refine below_drewN ?_ _ | refine Below.setCell ?_ (by first | omega | (simp; done) | (simp; omega)) _ | refine Below.alloc ?_ (by first | omega | (simp; done) | (simp; omega)) _)⟩
end Go.Proofs.YtgondiedehjkhaaDoor
