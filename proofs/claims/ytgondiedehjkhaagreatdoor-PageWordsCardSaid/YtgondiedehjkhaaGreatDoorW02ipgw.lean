/-
 Numbers of digits: a wide number as one.
-/
import Derived.Test.YtgondiedehjkhaaGreatDoorW02hpgw
import Derived.StillTailTactics
import Derived.Deep.RegionHeld3
import Derived.Deep.RegionWith
namespace Go.Proofs.YtgondiedehjkhaaGreatDoor
open Go.RowKit Go.Extern.Stop Go.Stop Go.Extern
set_option linter.unusedVariables false
set_option linter.unusedSimpArgs false
abbrev Z9 : Array Value := #[.bool false, .int .u64 0, .int .u64 0, .int .u64 0, .int .u64 0, .int .u64 0, .int .u64 0, .int .u64 0, .int .u64 0]
theorem row9' {w : World} {g : Nat} {T : TypeId} {z0 z1 z2 z3 z4 z5 z6 z7 z8 : Value} (h : w.heap[g]? = some (.cells #[z0, z1, z2, z3, z4, z5, z6, z7, z8] T (0, 0))) (v0 v1 v2 v3 v4 v5 v6 v7 v8 : Value) :
   (((((((((w.setCell ⟨g, 0, none⟩ v0).setCell ⟨g, 1, none⟩ v1).setCell ⟨g, 2, none⟩ v2).setCell ⟨g, 3, none⟩ v3).setCell ⟨g, 4, none⟩ v4).setCell ⟨g, 5, none⟩ v5).setCell ⟨g, 6, none⟩ v6).setCell ⟨g, 7, none⟩ v7).setCell ⟨g, 8, none⟩ v8).heap[g]? = some (.cells #[v0, v1, v2, v3, v4, v5, v6, v7, v8] T (0, 0)) := by
 have h7 := (set_row (set_row (set_row (set_row (set_row (set_row (set_row (set_row (set_row h 0 v0) 1 v1) 2 v2) 3 v3) 4 v4) 5 v5) 6 v6) 7 v7) 8 v8)
 rw [h7]
 simp only [List.setIfInBounds_toArray, List.set_cons_zero, List.set_cons_succ]
theorem row9 {w : World} {g : Nat} {T : TypeId} (h : w.heap[g]? = some (.cells Z9 T (0, 0))) (v0 v1 v2 v3 v4 v5 v6 v7 v8 : Value) :
   (((((((((w.setCell ⟨g, 0, none⟩ v0).setCell ⟨g, 1, none⟩ v1).setCell ⟨g, 2, none⟩ v2).setCell ⟨g, 3, none⟩ v3).setCell ⟨g, 4, none⟩ v4).setCell ⟨g, 5, none⟩ v5).setCell ⟨g, 6, none⟩ v6).setCell ⟨g, 7, none⟩ v7).setCell ⟨g, 8, none⟩ v8).heap[g]? = some (.cells #[v0, v1, v2, v3, v4, v5, v6, v7, v8] T (0, 0)) := row9' h v0 v1 v2 v3 v4 v5 v6 v7 v8
theorem below9 {w0 w : World} {g : Nat} (h : Below w0.heap.size w0 w) (hg : w0.heap.size ≤ g) (v0 v1 v2 v3 v4 v5 v6 v7 v8 : Value) : Below w0.heap.size w0 (((((((((w.setCell ⟨g, 0, none⟩ v0).setCell ⟨g, 1, none⟩ v1).setCell ⟨g, 2, none⟩ v2).setCell ⟨g, 3, none⟩ v3).setCell ⟨g, 4, none⟩ v4).setCell ⟨g, 5, none⟩ v5).setCell ⟨g, 6, none⟩ v6).setCell ⟨g, 7, none⟩ v7).setCell ⟨g, 8, none⟩ v8) := (((((((((h.setCell (p := ⟨g, 0, none⟩) hg v0).setCell (p := ⟨g, 1, none⟩) hg v1).setCell (p := ⟨g, 2, none⟩) hg v2).setCell (p := ⟨g, 3, none⟩) hg v3).setCell (p := ⟨g, 4, none⟩) hg v4).setCell (p := ⟨g, 5, none⟩) hg v5).setCell (p := ⟨g, 6, none⟩) hg v6).setCell (p := ⟨g, 7, none⟩) hg v7).setCell (p := ⟨g, 8, none⟩) hg v8)
theorem heap_dr (w : World) (g : Nat) : w.drew.heap[g]? = w.heap[g]? := rfl
theorem heap_new' (w : World) (o : Obj) (g : Nat) (hg : g = w.heap.size) : (w.alloc o).heap[g]? = some o := by subst hg; exact heap_alloc_new w o
theorem row18 {w : World} {g : Nat} {T : TypeId} {z0 z1 z2 z3 z4 z5 z6 z7 z8 : Value} (h : w.heap[g]? = some (.cells #[z0, z1, z2, z3, z4, z5, z6, z7, z8] T (0, 0))) (v0 v1 v2 v3 v4 v5 v6 v7 : Value) :
   ((((((((w.setCell ⟨g, 1, none⟩ v0).setCell ⟨g, 2, none⟩ v1).setCell ⟨g, 3, none⟩ v2).setCell ⟨g, 4, none⟩ v3).setCell ⟨g, 5, none⟩ v4).setCell ⟨g, 6, none⟩ v5).setCell ⟨g, 7, none⟩ v6).setCell ⟨g, 8, none⟩ v7).heap[g]? = some (.cells #[z0, v0, v1, v2, v3, v4, v5, v6, v7] T (0, 0)) := by
 have h7 := (set_row (set_row (set_row (set_row (set_row (set_row (set_row (set_row h 1 v0) 2 v1) 3 v2) 4 v3) 5 v4) 6 v5) 7 v6) 8 v7)
 rw [h7]
 simp only [List.setIfInBounds_toArray, List.set_cons_zero, List.set_cons_succ]
theorem row18' (w : World) (g' g : Nat) (hne : g' ≠ g) (v0 v1 v2 v3 v4 v5 v6 v7 : Value) : ((((((((w.setCell ⟨g, 1, none⟩ v0).setCell ⟨g, 2, none⟩ v1).setCell ⟨g, 3, none⟩ v2).setCell ⟨g, 4, none⟩ v3).setCell ⟨g, 5, none⟩ v4).setCell ⟨g, 6, none⟩ v5).setCell ⟨g, 7, none⟩ v6).setCell ⟨g, 8, none⟩ v7).heap[g']? = w.heap[g']? := by
 repeat (first | (with_reducible rfl) | (with_reducible refine (Below.heap_setCell _ _ _ _ (by exact hne)).trans ?_))
theorem below18 {w0 w : World} {g : Nat} (h : Below w0.heap.size w0 w) (hg : w0.heap.size ≤ g) (v0 v1 v2 v3 v4 v5 v6 v7 : Value) : Below w0.heap.size w0 ((((((((w.setCell ⟨g, 1, none⟩ v0).setCell ⟨g, 2, none⟩ v1).setCell ⟨g, 3, none⟩ v2).setCell ⟨g, 4, none⟩ v3).setCell ⟨g, 5, none⟩ v4).setCell ⟨g, 6, none⟩ v5).setCell ⟨g, 7, none⟩ v6).setCell ⟨g, 8, none⟩ v7) := ((((((((h.setCell (p := ⟨g, 1, none⟩) hg v0).setCell (p := ⟨g, 2, none⟩) hg v1).setCell (p := ⟨g, 3, none⟩) hg v2).setCell (p := ⟨g, 4, none⟩) hg v3).setCell (p := ⟨g, 5, none⟩) hg v4).setCell (p := ⟨g, 6, none⟩) hg v5).setCell (p := ⟨g, 7, none⟩) hg v6).setCell (p := ⟨g, 8, none⟩) hg v7)
theorem wide_digits (x : Int) (h0 : 0 ≤ x) (h1 : x < 170141183460469231731687303715884105728) :
   dg x 0 = x % 18446744073709551616 % 4294967296 ∧ dg x 1 = x % 18446744073709551616 / 4294967296 ∧ dg x 2 = x / 18446744073709551616 % 4294967296 ∧ dg x 3 = x / 18446744073709551616 / 4294967296 ∧ ∀ k, 4 ≤ k → dg x k = 0 := by
 have e2 : BS ^ 2 = 18446744073709551616 := by decide
 have e3 : BS ^ 3 = 79228162514264337593543950336 := by decide
 have e4 : BS ^ 4 = 340282366920938463463374607431768211456 := by decide
 refine ⟨?_, ?_, ?_, ?_, fun k hk => ?_⟩
 · unfold dg; simp
 · unfold dg; show x / BS ^ 1 % 4294967296 = _; rw [show (BS ^ 1 : Int) = 4294967296 from rfl]; omega
 · unfold dg; rw [e2]
 · unfold dg; rw [e3]; omega
 · unfold dg
   have : x / BS ^ k = 0 := by
     apply Int.ediv_eq_zero_of_lt h0
     obtain ⟨m, rfl⟩ : ∃ m, k = 4 + m := ⟨k - 4, by omega⟩
     rw [Int.pow_add, e4]
     have := BS_pos m
     have h2 : (340282366920938463463374607431768211456 : Int) * 1 ≤ 340282366920938463463374607431768211456 * BS ^ m := Int.mul_le_mul_of_nonneg_left (by omega) (by omega)
     omega
   rw [this]; rfl
set_option maxRecDepth 100000 in
theorem ret_From (a : Act) (W : World) (g : Nat) (v0 v1 v2 v3 v4 v5 v6 v7 v8 : Value) (ha : a.tmps.getD 2 undef = .pointer (some ⟨g, 0, none⟩)) (hd : a.defers = []) (hR : W.heap[g]? = some (.cells #[v0, v1, v2, v3, v4, v5, v6, v7, v8] 158 (0, 0))) {R : Ending → World → Prop} (h : R (.returned (.agg #[v0, v1, v2, v3, v4, v5, v6, v7, v8])) W) :
   bodyPost Tryz.prog Tryz.f126 R Exit.ret a W := by
 have k0 := cell_of_row _ _ 0 _ _ _ hR
 have k1 := cell_of_row _ _ 1 _ _ _ hR
 have k2 := cell_of_row _ _ 2 _ _ _ hR
 have k3 := cell_of_row _ _ 3 _ _ _ hR
 have k4 := cell_of_row _ _ 4 _ _ _ hR
 have k5 := cell_of_row _ _ 5 _ _ _ hR
 have k6 := cell_of_row _ _ 6 _ _ _ hR
 have k7 := cell_of_row _ _ 7 _ _ _ hR
 have k8 := cell_of_row _ _ 8 _ _ _ hR
 simp only [List.getElem?_toArray, List.getElem?_cons_zero, List.getElem?_cons_succ] at k0 k1 k2 k3 k4 k5 k6 k7 k8
 clear hR
 refine bodyPost_ret (v := .agg #[v0, v1, v2, v3, v4, v5, v6, v7, v8]) ?_ hd h
 have ha2 : a.tmps[2]?.getD undef = .pointer (some ⟨g, 0, none⟩) := by simpa using ha
 clear ha
 simp only [results, Tryz.results126]
 simp [ha2, go_sem, k0, k1, k2, k3, k4, k5, k6, k7, k8]
set_option maxRecDepth 100000 in
set_option maxHeartbeats 4000000 in
theorem from_pos (hi lo x : Int) (w : World) (hx : Hid (x = hi * 18446744073709551616 + lo)) (h0 : 0 ≤ hi) (h1 : hi ≤ 9223372036854775807) (l0 : 0 ≤ lo) (l1 : lo ≤ 18446744073709551615) :
   Calls Tryz.prog 126 #[.agg #[.int .i64 hi, .int .u64 lo]] w fun e w' => e = .returned (.agg #[.bool false, .int .u64 (dg (x) 0), .int .u64 (dg (x) 1), .int .u64 (dg (x) 2), .int .u64 (dg (x) 3), .int .u64 (dg (x) 4), .int .u64 (dg (x) 5), .int .u64 (dg (x) 6), .int .u64 (dg (x) 7)]) ∧ Below w.heap.size w w' := by
 have hd := wide_digits x (by have := hx.out; omega) (by have := hx.out; omega)
 have q1 : x / 18446744073709551616 = hi := by have := hx.out; omega
 have q2 : x % 18446744073709551616 = lo := by have := hx.out; omega
 rw [q1, q2] at hd
 obtain ⟨d0, d1, d2, d3, d4⟩ := hd
 rw [d0, d1, d2, d3, d4 4 (by omega), d4 5 (by omega), d4 6 (by omega), d4 7 (by omega)]
 clear d0 d1 d2 d3 d4 q1 q2
 have hneg : decide (hi < 0) = false := decide_eq_false (by omega)
 go_enter Tryz.func126, Tryz.ntmps126
 go_wp2_with (fail)
 go_quiet (fail)
 go_wp2_with (fail)
 exact ret_From _ _ (w.heap.size + 1) _ _ _ _ _ _ _ _ _ rfl rfl (row9 (by repeat (first | with_reducible assumption | (with_reducible refine (Below.heap_setCell _ _ _ _ (by first | omega | (simp; done) | (simp; omega))).trans ?_) | (with_reducible refine (heap_dN _ _ _).trans ?_) | (with_reducible refine (heap_dr _ _).trans ?_) | (with_reducible refine (Below.heap_alloc _ _ _ (by first | omega | (simp; done) | (simp; omega))).trans ?_) | (with_reducible exact heap_new' _ _ _ (by first | omega | (simp; done) | (simp; omega))))) _ _ _ _ _ _ _ _ _) ⟨rfl, by repeat (first | with_reducible assumption | with_reducible exact Below.refl _ _ | (with_reducible refine Below.setCell ?_ (by first | omega | (simp; done) | (simp; omega)) _) | (with_reducible refine Below.alloc ?_ (by first | omega | (simp; done) | (simp; omega)) _) | (with_reducible refine Below.drew ?_) | (with_reducible refine below_drewN ?_ _))⟩
set_option maxRecDepth 100000 in
set_option maxHeartbeats 4000000 in
theorem from_neg (h l y : Int) (w : World) (hy : Hid (y = h * 18446744073709551616 + l)) (h0 : 0 ≤ h) (h1 : h ≤ 9223372036854775807) (l0 : 0 ≤ l) (l1 : l ≤ 18446744073709551615) :
   Calls Tryz.prog 126 #[.agg #[.int .i64 (-1 - h), .int .u64 (18446744073709551615 - l)]] w fun e w' => e = .returned (.agg #[.bool true, .int .u64 (dg (y + 1) 0), .int .u64 (dg (y + 1) 1), .int .u64 (dg (y + 1) 2), .int .u64 (dg (y + 1) 3), .int .u64 (dg (y + 1) 4), .int .u64 (dg (y + 1) 5), .int .u64 (dg (y + 1) 6), .int .u64 (dg (y + 1) 7)]) ∧ Below w.heap.size w w' := by
 have hd := wide_digits y (by have := hy.out; omega) (by have := hy.out; omega)
 have q1 : y / 18446744073709551616 = h := by have := hy.out; omega
 have q2 : y % 18446744073709551616 = l := by have := hy.out; omega
 rw [q1, q2] at hd
 obtain ⟨d0, d1, d2, d3, d4⟩ := hd
 have hp := fun w => plus_c y 1 w
 rw [d0, d1, d2, d3, d4 4 (by omega), d4 5 (by omega), d4 6 (by omega), d4 7 (by omega)] at hp
 have HP := Lib.hid hp
 clear d0 d1 d2 d3 d4 q1 q2 hp
 have hneg : decide (-1 - h < 0) = true := decide_eq_true (by omega)
 have hwr : IntKind.u64.wrap (-1 - h) = 18446744073709551615 - h := by rw [show IntKind.u64.wrap (-1 - h) = (-1 - h) % 18446744073709551616 by simp [IntKind.wrap, IntKind.bits, IntKind.signed]]; omega
 have e1 : 18446744073709551615 - (18446744073709551615 - h) = h := by omega
 have e2 : 18446744073709551615 - (18446744073709551615 - l) = l := by omega
 go_enter Tryz.func126, Tryz.ntmps126
 go_wp2_with (fail)
 go_quiet (fail)
 go_wp2_with (fail)

 have R3 := set_row (set_row (set_row (set_row ((heap_dN (((w.alloc (.cells #[.int .i64 (-1 - h), .int .u64 (18446744073709551615 - l)] 228)).alloc (.cells Z9 158)).alloc (.cells #[.bool true, .int .u64 0, .int .u64 0, .int .u64 0, .int .u64 0, .int .u64 0, .int .u64 0, .int .u64 0, .int .u64 0] 158)) nq (w.heap.size + 1 + 1)).trans (heap_new' ((w.alloc (.cells #[.int .i64 (-1 - h), .int .u64 (18446744073709551615 - l)] 228)).alloc (.cells Z9 158)) (.cells #[.bool true, .int .u64 0, .int .u64 0, .int .u64 0, .int .u64 0, .int .u64 0, .int .u64 0, .int .u64 0, .int .u64 0] 158) (w.heap.size + 1 + 1) (by simp))) 1 (.int .u64 (l % 4294967296))) 2 (.int .u64 (l / 4294967296))) 3 (.int .u64 (h % 4294967296))) 4 (.int .u64 (h / 4294967296))
 simp only [List.setIfInBounds_toArray, List.set_cons_zero, List.set_cons_succ] at R3
 have R2 : ((((((((w.alloc (.cells #[.int .i64 (-1 - h), .int .u64 (18446744073709551615 - l)] 228)).alloc (.cells Z9 158)).alloc (.cells #[.bool true, .int .u64 0, .int .u64 0, .int .u64 0, .int .u64 0, .int .u64 0, .int .u64 0, .int .u64 0, .int .u64 0] 158)).drewN nq).setCell ⟨w.heap.size + 1 + 1, 1, none⟩ (.int .u64 (l % 4294967296))).setCell ⟨w.heap.size + 1 + 1, 2, none⟩ (.int .u64 (l / 4294967296))).setCell ⟨w.heap.size + 1 + 1, 3, none⟩ (.int .u64 (h % 4294967296))).setCell ⟨w.heap.size + 1 + 1, 4, none⟩ (.int .u64 (h / 4294967296))).heap[w.heap.size + 1]? = some (.cells Z9 158 (0, 0)) := (by repeat (first | with_reducible assumption | (with_reducible refine (Below.heap_setCell _ _ _ _ (by first | omega | (simp; done) | (simp; omega))).trans ?_) | (with_reducible refine (heap_dN _ _ _).trans ?_) | (with_reducible refine (heap_dr _ _).trans ?_) | (with_reducible refine (Below.heap_alloc _ _ _ (by first | omega | (simp; done) | (simp; omega))).trans ?_) | (with_reducible exact heap_new' _ _ _ (by first | omega | (simp; done) | (simp; omega)))))
 have HB0 : Below w.heap.size w ((((((((w.alloc (.cells #[.int .i64 (-1 - h), .int .u64 (18446744073709551615 - l)] 228)).alloc (.cells Z9 158)).alloc (.cells #[.bool true, .int .u64 0, .int .u64 0, .int .u64 0, .int .u64 0, .int .u64 0, .int .u64 0, .int .u64 0, .int .u64 0] 158)).drewN nq).setCell ⟨w.heap.size + 1 + 1, 1, none⟩ (.int .u64 (l % 4294967296))).setCell ⟨w.heap.size + 1 + 1, 2, none⟩ (.int .u64 (l / 4294967296))).setCell ⟨w.heap.size + 1 + 1, 3, none⟩ (.int .u64 (h % 4294967296))).setCell ⟨w.heap.size + 1 + 1, 4, none⟩ (.int .u64 (h / 4294967296))) := by repeat (first | with_reducible assumption | with_reducible exact Below.refl _ _ | (with_reducible refine Below.setCell ?_ (by first | omega | (simp; done) | (simp; omega)) _) | (with_reducible refine Below.alloc ?_ (by first | omega | (simp; done) | (simp; omega)) _) | (with_reducible refine Below.drew ?_) | (with_reducible refine below_drewN ?_ _))
 have hs0 : ((((((((w.alloc (.cells #[.int .i64 (-1 - h), .int .u64 (18446744073709551615 - l)] 228)).alloc (.cells Z9 158)).alloc (.cells #[.bool true, .int .u64 0, .int .u64 0, .int .u64 0, .int .u64 0, .int .u64 0, .int .u64 0, .int .u64 0, .int .u64 0] 158)).drewN nq).setCell ⟨w.heap.size + 1 + 1, 1, none⟩ (.int .u64 (l % 4294967296))).setCell ⟨w.heap.size + 1 + 1, 2, none⟩ (.int .u64 (l / 4294967296))).setCell ⟨w.heap.size + 1 + 1, 3, none⟩ (.int .u64 (h % 4294967296))).setCell ⟨w.heap.size + 1 + 1, 4, none⟩ (.int .u64 (h / 4294967296))).heap.size = w.heap.size + 1 + 1 + 1 := by simp
 generalize (((((((w.alloc (.cells #[.int .i64 (-1 - h), .int .u64 (18446744073709551615 - l)] 228)).alloc (.cells Z9 158)).alloc (.cells #[.bool true, .int .u64 0, .int .u64 0, .int .u64 0, .int .u64 0, .int .u64 0, .int .u64 0, .int .u64 0, .int .u64 0] 158)).drewN nq).setCell ⟨w.heap.size + 1 + 1, 1, none⟩ (.int .u64 (l % 4294967296))).setCell ⟨w.heap.size + 1 + 1, 2, none⟩ (.int .u64 (l / 4294967296))).setCell ⟨w.heap.size + 1 + 1, 3, none⟩ (.int .u64 (h % 4294967296))).setCell ⟨w.heap.size + 1 + 1, 4, none⟩ (.int .u64 (h / 4294967296)) = W0 at *
 have c0 := cell_of_row _ _ 0 _ _ _ R3
 have c1 := cell_of_row _ _ 1 _ _ _ R3
 have c2 := cell_of_row _ _ 2 _ _ _ R3
 have c3 := cell_of_row _ _ 3 _ _ _ R3
 have c4 := cell_of_row _ _ 4 _ _ _ R3
 have c5 := cell_of_row _ _ 5 _ _ _ R3
 have c6 := cell_of_row _ _ 6 _ _ _ R3
 have c7 := cell_of_row _ _ 7 _ _ _ R3
 have c8 := cell_of_row _ _ 8 _ _ _ R3
 have f0 := row_free R3 0
 have f1 := row_free R3 1
 have f2 := row_free R3 2
 have f3 := row_free R3 3
 have f4 := row_free R3 4
 have f5 := row_free R3 5
 have f6 := row_free R3 6
 have f7 := row_free R3 7
 have f8 := row_free R3 8
 simp only [List.getElem?_toArray, List.getElem?_cons_zero, List.getElem?_cons_succ] at c0 c1 c2 c3 c4 c5 c6 c7 c8
 go_region_with (first | (go_at_call 127; (with_reducible refine (one_c _).mono ?_); rintro e w1 ⟨rfl, hb1⟩; obtain ⟨hc1, hf1⟩ := bcell hb1; have hz1 := hb1.size; (try simp at hz1); have z12 : w.heap.size + 1 + 1 < w1.heap.size := (by omega)) | (go_at_call 156; (with_reducible refine (HP.out _).mono ?_); rintro e w2 ⟨rfl, hb2⟩; obtain ⟨hc2, hf2⟩ := bcell hb2; have hz2 := hb2.size; (try simp at hz2); have z22 : w.heap.size + 1 + 1 < w2.heap.size := (by omega)))
 all_goals
   have Q3 : w2.heap[w.heap.size + 1 + 1]? = some (.cells #[.bool true, .int .u64 (l % 4294967296), .int .u64 (l / 4294967296), .int .u64 (h % 4294967296), .int .u64 (h / 4294967296), .int .u64 0, .int .u64 0, .int .u64 0, .int .u64 0] 158 (0, 0)) := (by repeat (first | with_reducible assumption | (with_reducible refine (Below.heap_setCell _ _ _ _ (by first | omega | (simp; done) | (simp; omega))).trans ?_) | (with_reducible refine (heap_dN _ _ _).trans ?_) | (with_reducible refine (heap_dr _ _).trans ?_) | (with_reducible refine (Below.heap_alloc _ _ _ (by first | omega | (simp; done) | (simp; omega))).trans ?_) | (with_reducible refine (hb2.block _ (by first | omega | (simp; done) | (simp; omega))).trans ?_) | (with_reducible refine (hb1.block _ (by first | omega | (simp; done) | (simp; omega))).trans ?_) | (with_reducible exact heap_new' _ _ _ (by first | omega | (simp; done) | (simp; omega)))))
   have Q2 : w2.heap[w.heap.size + 1]? = some (.cells Z9 158 (0, 0)) := (by repeat (first | with_reducible assumption | (with_reducible refine (Below.heap_setCell _ _ _ _ (by first | omega | (simp; done) | (simp; omega))).trans ?_) | (with_reducible refine (heap_dN _ _ _).trans ?_) | (with_reducible refine (heap_dr _ _).trans ?_) | (with_reducible refine (Below.heap_alloc _ _ _ (by first | omega | (simp; done) | (simp; omega))).trans ?_) | (with_reducible refine (hb2.block _ (by first | omega | (simp; done) | (simp; omega))).trans ?_) | (with_reducible refine (hb1.block _ (by first | omega | (simp; done) | (simp; omega))).trans ?_) | (with_reducible exact heap_new' _ _ _ (by first | omega | (simp; done) | (simp; omega)))))
   have HB2 : Below w.heap.size w w2 := by repeat (first | with_reducible assumption | with_reducible exact Below.refl _ _ | (with_reducible refine Below.setCell ?_ (by first | omega | (simp; done) | (simp; omega)) _) | (with_reducible refine Below.alloc ?_ (by first | omega | (simp; done) | (simp; omega)) _) | (with_reducible refine Below.drew ?_) | (with_reducible refine Below.trans ?_ (Below.mono hb2 (by first | omega | (simp; done) | (simp; omega)))) | (with_reducible refine Below.trans ?_ (Below.mono hb1 (by first | omega | (simp; done) | (simp; omega)))) | (with_reducible refine below_drewN ?_ _))
   have Q4 := row18 Q3 (.int .u64 (dg (y + 1) 0)) (.int .u64 (dg (y + 1) 1)) (.int .u64 (dg (y + 1) 2)) (.int .u64 (dg (y + 1) 3)) (.int .u64 (dg (y + 1) 4)) (.int .u64 (dg (y + 1) 5)) (.int .u64 (dg (y + 1) 6)) (.int .u64 (dg (y + 1) 7))
   have Q5 := (row18' w2 (w.heap.size + 1) (w.heap.size + 1 + 1) (by omega) (.int .u64 (dg (y + 1) 0)) (.int .u64 (dg (y + 1) 1)) (.int .u64 (dg (y + 1) 2)) (.int .u64 (dg (y + 1) 3)) (.int .u64 (dg (y + 1) 4)) (.int .u64 (dg (y + 1) 5)) (.int .u64 (dg (y + 1) 6)) (.int .u64 (dg (y + 1) 7))).trans Q2
   have HB3 := below18 HB2 (show w.heap.size ≤ w.heap.size + 1 + 1 by omega) (.int .u64 (dg (y + 1) 0)) (.int .u64 (dg (y + 1) 1)) (.int .u64 (dg (y + 1) 2)) (.int .u64 (dg (y + 1) 3)) (.int .u64 (dg (y + 1) 4)) (.int .u64 (dg (y + 1) 5)) (.int .u64 (dg (y + 1) 6)) (.int .u64 (dg (y + 1) 7))
   clear hc1 hc2 hf1 hf2 c0 c1 c2 c3 c4 c5 c6 c7 c8 f0 f1 f2 f3 f4 f5 f6 f7 f8 R3 R2 Q3 Q2
   generalize ((((((((w2).setCell ⟨w.heap.size + 1 + 1, 1, none⟩ (.int .u64 (dg (y + 1) 0))).setCell ⟨w.heap.size + 1 + 1, 2, none⟩ (.int .u64 (dg (y + 1) 1))).setCell ⟨w.heap.size + 1 + 1, 3, none⟩ (.int .u64 (dg (y + 1) 2))).setCell ⟨w.heap.size + 1 + 1, 4, none⟩ (.int .u64 (dg (y + 1) 3))).setCell ⟨w.heap.size + 1 + 1, 5, none⟩ (.int .u64 (dg (y + 1) 4))).setCell ⟨w.heap.size + 1 + 1, 6, none⟩ (.int .u64 (dg (y + 1) 5))).setCell ⟨w.heap.size + 1 + 1, 7, none⟩ (.int .u64 (dg (y + 1) 6))).setCell ⟨w.heap.size + 1 + 1, 8, none⟩ (.int .u64 (dg (y + 1) 7)) = w9 at *
   have c0 := cell_of_row _ _ 0 _ _ _ Q4
   have c1 := cell_of_row _ _ 1 _ _ _ Q4
   have c2 := cell_of_row _ _ 2 _ _ _ Q4
   have c3 := cell_of_row _ _ 3 _ _ _ Q4
   have c4 := cell_of_row _ _ 4 _ _ _ Q4
   have c5 := cell_of_row _ _ 5 _ _ _ Q4
   have c6 := cell_of_row _ _ 6 _ _ _ Q4
   have c7 := cell_of_row _ _ 7 _ _ _ Q4
   have c8 := cell_of_row _ _ 8 _ _ _ Q4
   have d0 := cell_of_row _ _ 0 _ _ _ Q5
   have d1 := cell_of_row _ _ 1 _ _ _ Q5
   have d2 := cell_of_row _ _ 2 _ _ _ Q5
   have d3 := cell_of_row _ _ 3 _ _ _ Q5
   have d4 := cell_of_row _ _ 4 _ _ _ Q5
   have d5 := cell_of_row _ _ 5 _ _ _ Q5
   have d6 := cell_of_row _ _ 6 _ _ _ Q5
   have d7 := cell_of_row _ _ 7 _ _ _ Q5
   have d8 := cell_of_row _ _ 8 _ _ _ Q5
   have f0 := row_free Q5 0
   have f1 := row_free Q5 1
   have f2 := row_free Q5 2
   have f3 := row_free Q5 3
   have f4 := row_free Q5 4
   have f5 := row_free Q5 5
   have f6 := row_free Q5 6
   have f7 := row_free Q5 7
   have f8 := row_free Q5 8
   simp only [List.getElem?_toArray, List.getElem?_cons_zero, List.getElem?_cons_succ] at c0 d0 c1 d1 c2 d2 c3 d3 c4 d4 c5 d5 c6 d6 c7 d7 c8 d8
   have HQ := Lib.hid Q5
   clear Q4 Q5
   go_wp2_with (fail)
   exact ret_From _ _ (w.heap.size + 1) _ _ _ _ _ _ _ _ _ rfl rfl (row9 HQ.out _ _ _ _ _ _ _ _ _) ⟨rfl, below9 HB3 (by omega) _ _ _ _ _ _ _ _ _⟩
def bigV (x : Int) : Value := .agg #[.bool (decide (x < 0)), .int .u64 (dg ((if x < 0 then -x else x)) 0), .int .u64 (dg ((if x < 0 then -x else x)) 1), .int .u64 (dg ((if x < 0 then -x else x)) 2), .int .u64 (dg ((if x < 0 then -x else x)) 3), .int .u64 (dg ((if x < 0 then -x else x)) 4), .int .u64 (dg ((if x < 0 then -x else x)) 5), .int .u64 (dg ((if x < 0 then -x else x)) 6), .int .u64 (dg ((if x < 0 then -x else x)) 7)]
theorem bigV_pos (x : Int) (h : 0 ≤ x) : bigV x = .agg #[.bool false, .int .u64 (dg (x) 0), .int .u64 (dg (x) 1), .int .u64 (dg (x) 2), .int .u64 (dg (x) 3), .int .u64 (dg (x) 4), .int .u64 (dg (x) 5), .int .u64 (dg (x) 6), .int .u64 (dg (x) 7)] := by
 unfold bigV
 rw [if_neg (by omega), decide_eq_false (by omega)]
theorem bigV_neg (x y : Int) (h : x < 0) (hy : y = -x) : bigV x = .agg #[.bool true, .int .u64 (dg (y) 0), .int .u64 (dg (y) 1), .int .u64 (dg (y) 2), .int .u64 (dg (y) 3), .int .u64 (dg (y) 4), .int .u64 (dg (y) 5), .int .u64 (dg (y) 6), .int .u64 (dg (y) 7)] := by
 unfold bigV
 rw [if_pos h, decide_eq_true h, hy]
theorem from_c (x h l : Int) (w : World) (hh : h = x / 18446744073709551616) (hl : l = x % 18446744073709551616) (h0 : -9223372036854775808 ≤ h) (h1 : h ≤ 9223372036854775807) :
   Calls Tryz.prog 126 #[.agg #[.int .i64 h, .int .u64 l]] w fun e w' => e = .returned (bigV x) ∧ Below w.heap.size w w' := by
 by_cases hx : 0 ≤ x
 · rw [bigV_pos x hx]
   exact from_pos h l x w (Lib.hid (by omega)) (by omega) h1 (by omega) (by omega)
 · obtain ⟨h', rfl⟩ : ∃ h', h = -1 - h' := ⟨-1 - h, by omega⟩
   obtain ⟨l', rfl⟩ : ∃ l', l = 18446744073709551615 - l' := ⟨18446744073709551615 - l, by omega⟩
   rw [bigV_neg x (-1 - x + 1) (by omega) (by omega)]
   exact from_neg h' l' (-1 - x) w (Lib.hid (by omega)) (by omega) (by omega) (by omega) (by omega)
set_option maxRecDepth 100000 in
theorem ret_Int (a : Act) (W : World) (g : Nat) (v0 v1 v2 v3 v4 v5 v6 v7 v8 : Value) (ha : a.tmps.getD 2 undef = .pointer (some ⟨g, 0, none⟩)) (hd : a.defers = []) (hR : W.heap[g]? = some (.cells #[v0, v1, v2, v3, v4, v5, v6, v7, v8] 158 (0, 0))) {R : Ending → World → Prop} (h : R (.returned (.agg #[v0, v1, v2, v3, v4, v5, v6, v7, v8])) W) :
   bodyPost Tryz.prog Tryz.f70 R Exit.ret a W := by
 have k0 := cell_of_row _ _ 0 _ _ _ hR
 have k1 := cell_of_row _ _ 1 _ _ _ hR
 have k2 := cell_of_row _ _ 2 _ _ _ hR
 have k3 := cell_of_row _ _ 3 _ _ _ hR
 have k4 := cell_of_row _ _ 4 _ _ _ hR
 have k5 := cell_of_row _ _ 5 _ _ _ hR
 have k6 := cell_of_row _ _ 6 _ _ _ hR
 have k7 := cell_of_row _ _ 7 _ _ _ hR
 have k8 := cell_of_row _ _ 8 _ _ _ hR
 simp only [List.getElem?_toArray, List.getElem?_cons_zero, List.getElem?_cons_succ] at k0 k1 k2 k3 k4 k5 k6 k7 k8
 clear hR
 refine bodyPost_ret (v := .agg #[v0, v1, v2, v3, v4, v5, v6, v7, v8]) ?_ hd h
 have ha2 : a.tmps[2]?.getD undef = .pointer (some ⟨g, 0, none⟩) := by simpa using ha
 clear ha
 simp only [results, Tryz.results70]
 simp [ha2, go_sem, k0, k1, k2, k3, k4, k5, k6, k7, k8]
set_option maxRecDepth 100000 in
set_option maxHeartbeats 4000000 in
theorem int_c (a : Int) (w : World) (ha : InR a) : Calls Tryz.prog 70 #[.int .i64 a] w fun e w' => e = .returned (bigV a) ∧ Below w.heap.size w w' := by
 by_cases h0 : a < 0
 · have hwr : IntKind.u64.wrap a = a + 18446744073709551616 := by rw [show IntKind.u64.wrap a = a % 18446744073709551616 by simp [IntKind.wrap, IntKind.bits, IntKind.signed]]; omega
   go_enter Tryz.func70, Tryz.ntmps70
   go_wp2_with (go_at_call 126; (with_reducible refine (from_c a _ _ _ (by omega) (by omega) (by omega) (by omega)).mono ?_); unfold bigV; rintro e w1 ⟨rfl, hb1⟩; obtain ⟨hc1, hf1⟩ := bcell hb1; have hz1 := hb1.size; (try simp at hz1); have z11 : w.heap.size < w1.heap.size := (by omega))
   exact ret_Int _ _ w.heap.size _ _ _ _ _ _ _ _ _ rfl rfl (row9 (by repeat (first | with_reducible assumption | (with_reducible refine (Below.heap_setCell _ _ _ _ (by first | omega | (simp; done) | (simp; omega))).trans ?_) | (with_reducible refine (heap_dN _ _ _).trans ?_) | (with_reducible refine (heap_dr _ _).trans ?_) | (with_reducible refine (Below.heap_alloc _ _ _ (by first | omega | (simp; done) | (simp; omega))).trans ?_) | (with_reducible refine (hb1.block _ (by first | omega | (simp; done) | (simp; omega))).trans ?_) | (with_reducible exact heap_new' _ _ _ (by first | omega | (simp; done) | (simp; omega))))) _ _ _ _ _ _ _ _ _) ⟨by rw [bigV_neg a (-a) h0 rfl], by repeat (first | with_reducible assumption | with_reducible exact Below.refl _ _ | (with_reducible refine Below.setCell ?_ (by first | omega | (simp; done) | (simp; omega)) _) | (with_reducible refine Below.alloc ?_ (by first | omega | (simp; done) | (simp; omega)) _) | (with_reducible refine Below.drew ?_) | (with_reducible refine Below.trans ?_ (Below.mono hb1 (by first | omega | (simp; done) | (simp; omega)))) | (with_reducible refine below_drewN ?_ _))⟩
 · go_enter Tryz.func70, Tryz.ntmps70
   go_wp2_with (go_at_call 126; (with_reducible refine (from_c a _ _ _ (by omega) (by omega) (by omega) (by omega)).mono ?_); unfold bigV; rintro e w1 ⟨rfl, hb1⟩; obtain ⟨hc1, hf1⟩ := bcell hb1; have hz1 := hb1.size; (try simp at hz1); have z11 : w.heap.size < w1.heap.size := (by omega))
   exact ret_Int _ _ w.heap.size _ _ _ _ _ _ _ _ _ rfl rfl (row9 (by repeat (first | with_reducible assumption | (with_reducible refine (Below.heap_setCell _ _ _ _ (by first | omega | (simp; done) | (simp; omega))).trans ?_) | (with_reducible refine (heap_dN _ _ _).trans ?_) | (with_reducible refine (heap_dr _ _).trans ?_) | (with_reducible refine (Below.heap_alloc _ _ _ (by first | omega | (simp; done) | (simp; omega))).trans ?_) | (with_reducible refine (hb1.block _ (by first | omega | (simp; done) | (simp; omega))).trans ?_) | (with_reducible exact heap_new' _ _ _ (by first | omega | (simp; done) | (simp; omega))))) _ _ _ _ _ _ _ _ _) ⟨by rw [bigV_pos a (by omega)], by repeat (first | with_reducible assumption | with_reducible exact Below.refl _ _ | (with_reducible refine Below.setCell ?_ (by first | omega | (simp; done) | (simp; omega)) _) | (with_reducible refine Below.alloc ?_ (by first | omega | (simp; done) | (simp; omega)) _) | (with_reducible refine Below.drew ?_) | (with_reducible refine Below.trans ?_ (Below.mono hb1 (by first | omega | (simp; done) | (simp; omega)))) | (with_reducible refine below_drewN ?_ _))⟩
end Go.Proofs.YtgondiedehjkhaaGreatDoor
