/-
 Numbers of digits: as a wide number.
-/
import Derived.Test.YtgondiedehjkhaaDoorBig2sums
import Derived.Deep.RegionWith
import Derived.Deep.Cut
import Derived.Deep.CutRange
namespace Go.Proofs.YtgondiedehjkhaaDoor
open Go.RowKit Go.Extern.Stop Go.Stop Go.Extern
set_option linter.unusedVariables false
set_option linter.unusedSimpArgs false
theorem mixD (Y : Int) : mixA Y Y 0 = #[.int .u64 (dg (Y) 0), .int .u64 (dg (Y) 1), .int .u64 (dg (Y) 2), .int .u64 (dg (Y) 3), .int .u64 (dg (Y) 4), .int .u64 (dg (Y) 5), .int .u64 (dg (Y) 6), .int .u64 (dg (Y) 7)] := mixA_zero Y Y
theorem row8' {w : World} {g : Nat} {T : TypeId} {z0 z1 z2 z3 z4 z5 z6 z7 : Value} (h : w.heap[g]? = some (.cells #[z0, z1, z2, z3, z4, z5, z6, z7] T (0, 0))) (v0 v1 v2 v3 v4 v5 v6 v7 : Value) :
   ((((((((w.setCell ⟨g, 0, none⟩ (v0)).setCell ⟨g, 1, none⟩ (v1)).setCell ⟨g, 2, none⟩ (v2)).setCell ⟨g, 3, none⟩ (v3)).setCell ⟨g, 4, none⟩ (v4)).setCell ⟨g, 5, none⟩ (v5)).setCell ⟨g, 6, none⟩ (v6)).setCell ⟨g, 7, none⟩ (v7)).heap[g]? = some (.cells #[v0, v1, v2, v3, v4, v5, v6, v7] T (0, 0)) := by
 have h7 := set_row (set_row (set_row (set_row (set_row (set_row (set_row (set_row h 0 v0) 1 v1) 2 v2) 3 v3) 4 v4) 5 v5) 6 v6) 7 v7
 rw [h7]
 simp only [List.setIfInBounds_toArray, List.set_cons_zero, List.set_cons_succ]
theorem row8f (w : World) (g' g : Nat) (hne : g' ≠ g) (v0 v1 v2 v3 v4 v5 v6 v7 : Value) : ((((((((w.setCell ⟨g, 0, none⟩ (v0)).setCell ⟨g, 1, none⟩ (v1)).setCell ⟨g, 2, none⟩ (v2)).setCell ⟨g, 3, none⟩ (v3)).setCell ⟨g, 4, none⟩ (v4)).setCell ⟨g, 5, none⟩ (v5)).setCell ⟨g, 6, none⟩ (v6)).setCell ⟨g, 7, none⟩ (v7)).heap[g']? = w.heap[g']? := by
 repeat (first | (with_reducible rfl) | (with_reducible refine (Below.heap_setCell _ _ _ _ (by exact hne)).trans ?_))
def ToW (w : World) (s : Bool) (Y : Int) (v : Nat → Int) (w9 : World) : Prop :=
 w9.heap[w.heap.size]? = some (.cells (fB s v) 29 (0, 0)) ∧ w9.heap[w.heap.size + 1]? = some (.cells #[.int .i64 0, .int .u64 0] 24 (0, 0)) ∧ w9.heap[w.heap.size + 1 + 1]? = some (.cells (mixA Y Y 0) 27 (0, 0)) ∧ Below w.heap.size w w9
set_option maxRecDepth 100000 in
set_option maxHeartbeats 4000000 in
theorem to_small_false (Y : Int) (w : World) (HS : Hid (dg Y 3 < 2147483648 ∧ dg Y 3 * 4294967296 + dg Y 2 = Y / 18446744073709551616 ∧ dg Y 1 * 4294967296 + dg Y 0 = Y % 18446744073709551616 ∧ ∀ k, 4 ≤ k → dg Y k = 0)) :
   Calls Tryd.prog 15 #[.agg (fB false (dg (Y)))] w fun e w' => e = .returned (.tuple #[.agg #[.int .i64 (Y / 18446744073709551616), .int .u64 (Y % 18446744073709551616)], .bool true]) ∧ Below w.heap.size w w' := by
 unfold fB
 go_enter Tryd.func15, Tryd.ntmps15
 go_upto_region 4 with (fail)
 have HT : ToW w false Y (dg (Y)) (((w.alloc (.cells #[.bool false, .int .u64 (dg (Y) 0), .int .u64 (dg (Y) 1), .int .u64 (dg (Y) 2), .int .u64 (dg (Y) 3), .int .u64 (dg (Y) 4), .int .u64 (dg (Y) 5), .int .u64 (dg (Y) 6), .int .u64 (dg (Y) 7)] 29)).alloc (.cells #[.int .i64 0, .int .u64 0] 24)).alloc (.cells #[.int .u64 (dg (Y) 0), .int .u64 (dg (Y) 1), .int .u64 (dg (Y) 2), .int .u64 (dg (Y) 3), .int .u64 (dg (Y) 4), .int .u64 (dg (Y) 5), .int .u64 (dg (Y) 6), .int .u64 (dg (Y) 7)] 27)) := ⟨(by unfold fB; exact (by repeat (first | with_reducible assumption | (with_reducible refine (Below.heap_setCell _ _ _ _ (by first | omega | (simp; done) | (simp; omega))).trans ?_) | (with_reducible refine (heap_dN _ _ _).trans ?_) | (with_reducible refine (heap_dr _ _).trans ?_) | (with_reducible refine (Below.heap_alloc _ _ _ (by first | omega | (simp; done) | (simp; omega))).trans ?_) | (with_reducible exact heap_new' _ _ _ (by first | omega | (simp; done) | (simp; omega)))))), (by repeat (first | with_reducible assumption | (with_reducible refine (Below.heap_setCell _ _ _ _ (by first | omega | (simp; done) | (simp; omega))).trans ?_) | (with_reducible refine (heap_dN _ _ _).trans ?_) | (with_reducible refine (heap_dr _ _).trans ?_) | (with_reducible refine (Below.heap_alloc _ _ _ (by first | omega | (simp; done) | (simp; omega))).trans ?_) | (with_reducible exact heap_new' _ _ _ (by first | omega | (simp; done) | (simp; omega))))), (by rw [mixD]; exact (by repeat (first | with_reducible assumption | (with_reducible refine (Below.heap_setCell _ _ _ _ (by first | omega | (simp; done) | (simp; omega))).trans ?_) | (with_reducible refine (heap_dN _ _ _).trans ?_) | (with_reducible refine (heap_dr _ _).trans ?_) | (with_reducible refine (Below.heap_alloc _ _ _ (by first | omega | (simp; done) | (simp; omega))).trans ?_) | (with_reducible exact heap_new' _ _ _ (by first | omega | (simp; done) | (simp; omega)))))), by repeat (first | with_reducible assumption | with_reducible exact Below.refl _ _ | (with_reducible refine Below.setCell ?_ (by first | omega | (simp; done) | (simp; omega)) _) | (with_reducible refine Below.alloc ?_ (by first | omega | (simp; done) | (simp; omega)) _) | (with_reducible refine Below.drew ?_) | (with_reducible refine below_drewN ?_ _))⟩
 generalize (((w.alloc (.cells #[.bool false, .int .u64 (dg (Y) 0), .int .u64 (dg (Y) 1), .int .u64 (dg (Y) 2), .int .u64 (dg (Y) 3), .int .u64 (dg (Y) 4), .int .u64 (dg (Y) 5), .int .u64 (dg (Y) 6), .int .u64 (dg (Y) 7)] 29)).alloc (.cells #[.int .i64 0, .int .u64 0] 24)).alloc (.cells #[.int .u64 (dg (Y) 0), .int .u64 (dg (Y) 1), .int .u64 (dg (Y) 2), .int .u64 (dg (Y) 3), .int .u64 (dg (Y) 4), .int .u64 (dg (Y) 5), .int .u64 (dg (Y) 6), .int .u64 (dg (Y) 7)] 27)) = w9 at *
 obtain ⟨Q1, Q2, Q3, HB9⟩ := HT
 have zz9 : w.heap.size + 1 + 1 < w9.heap.size := (Array.getElem?_eq_some_iff.1 Q3).1
 have zz8 : w.heap.size + 1 < w9.heap.size := by omega
 have zz7 : w.heap.size < w9.heap.size := by omega
 have b0 := (cell_of_row _ _ 0 _ _ _ Q1)
 have u0 := (cell_of_row _ _ 0 _ _ _ Q2)
 have u1 := (cell_of_row _ _ 1 _ _ _ Q2)
 have fu0 := row_free Q2 0
 have fu1 := row_free Q2 1
 have c0 := (cell_of_row _ _ 0 _ _ _ Q3).trans (mixA_get Y Y 0 0 (by omega))
 have c1 := (cell_of_row _ _ 1 _ _ _ Q3).trans (mixA_get Y Y 0 1 (by omega))
 have c2 := (cell_of_row _ _ 2 _ _ _ Q3).trans (mixA_get Y Y 0 2 (by omega))
 have c3 := (cell_of_row _ _ 3 _ _ _ Q3).trans (mixA_get Y Y 0 3 (by omega))
 simp only [Nat.not_lt_zero, if_false] at c0 c1 c2 c3
 unfold fB at b0
 simp only [List.getElem?_toArray, List.getElem?_cons_zero, List.getElem?_cons_succ] at b0 u0 u1
 have HQ := Lib.hid Q3
 clear Q1 Q2 Q3
 have hs3 := HS.out.1
 have r3 := dg_rng Y 3
 have r2 := dg_rng Y 2
 have r1 := dg_rng Y 1
 have r0 := dg_rng Y 0
 have q3 : decide (2147483648 ≤ dg Y 3) = false := decide_eq_false (by omega)
 go_wp2_with (fail)
 go_loopw [5] (fun i wr => ∃ k : Nat, 4 ≤ k ∧ k ≤ 8 ∧ i = .int .i64 k ∧ w9 = wr) (fun i _ => 8 - (intOf i).toNat)
 case atStart => exact ⟨4, by omega, by omega, rfl, rfl⟩
 case round =>
   obtain ⟨k, hk4, hk, rfl, rfl⟩ := hrel
   by_cases hlt : k < 8
   · have hck : w9.cell? ⟨w.heap.size + 1 + 1, k, none⟩ = some (.int .u64 (dg Y k)) := by rw [cell_of_row _ _ _ _ _ _ HQ.out, mixA_get _ _ _ _ hlt, if_neg (by omega)]
     rw [HS.out.2.2.2 k hk4] at hck
     go_wp2_with (fail)
     go_roundw
     case rel => exact ⟨k + 1, by omega, by omega, by go_num, (by first | rfl | trivial)⟩
     case measure => simp [intOf]; omega
   · obtain rfl : k = 8 := by omega
     go_wp2_with (fail)
     have HR := HS.out
     rw [← HR.2.1, ← HR.2.2.1]
     refine bodyPost_ret (v := .tuple #[.agg #[.int .i64 (dg Y 3 * 4294967296 + dg Y 2), .int .u64 (dg Y 1 * 4294967296 + dg Y 0)], .bool true]) (by first | (simp [results, Tryd.results15, go_sem]; done) | (simp only [results, Tryd.results15]; go_simp; done) | (simp only [results, Tryd.results15]; go_simp; omega)) rfl (⟨rfl, by repeat (first | with_reducible assumption | with_reducible exact Below.refl _ _ | (with_reducible refine Below.setCell ?_ (by first | omega | (simp; done) | (simp; omega)) _) | (with_reducible refine Below.alloc ?_ (by first | omega | (simp; done) | (simp; omega)) _) | (with_reducible refine Below.drew ?_) | (with_reducible refine below_drewN ?_ _))⟩)
set_option maxRecDepth 100000 in
set_option maxHeartbeats 4000000 in
theorem to_large_false (Y : Int) (w : World) (HS : Hid ((∀ j, 4 ≤ j → j < 8 → dg Y j = 0) → 2147483648 ≤ dg Y 3)) :
   Calls Tryd.prog 15 #[.agg (fB false (dg (Y)))] w fun e w' => e = .returned (.tuple #[.agg #[.int .i64 0, .int .u64 0], .bool false]) ∧ Below w.heap.size w w' := by
 unfold fB
 go_enter Tryd.func15, Tryd.ntmps15
 go_upto_region 4 with (fail)
 have HT : ToW w false Y (dg (Y)) (((w.alloc (.cells #[.bool false, .int .u64 (dg (Y) 0), .int .u64 (dg (Y) 1), .int .u64 (dg (Y) 2), .int .u64 (dg (Y) 3), .int .u64 (dg (Y) 4), .int .u64 (dg (Y) 5), .int .u64 (dg (Y) 6), .int .u64 (dg (Y) 7)] 29)).alloc (.cells #[.int .i64 0, .int .u64 0] 24)).alloc (.cells #[.int .u64 (dg (Y) 0), .int .u64 (dg (Y) 1), .int .u64 (dg (Y) 2), .int .u64 (dg (Y) 3), .int .u64 (dg (Y) 4), .int .u64 (dg (Y) 5), .int .u64 (dg (Y) 6), .int .u64 (dg (Y) 7)] 27)) := ⟨(by unfold fB; exact (by repeat (first | with_reducible assumption | (with_reducible refine (Below.heap_setCell _ _ _ _ (by first | omega | (simp; done) | (simp; omega))).trans ?_) | (with_reducible refine (heap_dN _ _ _).trans ?_) | (with_reducible refine (heap_dr _ _).trans ?_) | (with_reducible refine (Below.heap_alloc _ _ _ (by first | omega | (simp; done) | (simp; omega))).trans ?_) | (with_reducible exact heap_new' _ _ _ (by first | omega | (simp; done) | (simp; omega)))))), (by repeat (first | with_reducible assumption | (with_reducible refine (Below.heap_setCell _ _ _ _ (by first | omega | (simp; done) | (simp; omega))).trans ?_) | (with_reducible refine (heap_dN _ _ _).trans ?_) | (with_reducible refine (heap_dr _ _).trans ?_) | (with_reducible refine (Below.heap_alloc _ _ _ (by first | omega | (simp; done) | (simp; omega))).trans ?_) | (with_reducible exact heap_new' _ _ _ (by first | omega | (simp; done) | (simp; omega))))), (by rw [mixD]; exact (by repeat (first | with_reducible assumption | (with_reducible refine (Below.heap_setCell _ _ _ _ (by first | omega | (simp; done) | (simp; omega))).trans ?_) | (with_reducible refine (heap_dN _ _ _).trans ?_) | (with_reducible refine (heap_dr _ _).trans ?_) | (with_reducible refine (Below.heap_alloc _ _ _ (by first | omega | (simp; done) | (simp; omega))).trans ?_) | (with_reducible exact heap_new' _ _ _ (by first | omega | (simp; done) | (simp; omega)))))), by repeat (first | with_reducible assumption | with_reducible exact Below.refl _ _ | (with_reducible refine Below.setCell ?_ (by first | omega | (simp; done) | (simp; omega)) _) | (with_reducible refine Below.alloc ?_ (by first | omega | (simp; done) | (simp; omega)) _) | (with_reducible refine Below.drew ?_) | (with_reducible refine below_drewN ?_ _))⟩
 generalize (((w.alloc (.cells #[.bool false, .int .u64 (dg (Y) 0), .int .u64 (dg (Y) 1), .int .u64 (dg (Y) 2), .int .u64 (dg (Y) 3), .int .u64 (dg (Y) 4), .int .u64 (dg (Y) 5), .int .u64 (dg (Y) 6), .int .u64 (dg (Y) 7)] 29)).alloc (.cells #[.int .i64 0, .int .u64 0] 24)).alloc (.cells #[.int .u64 (dg (Y) 0), .int .u64 (dg (Y) 1), .int .u64 (dg (Y) 2), .int .u64 (dg (Y) 3), .int .u64 (dg (Y) 4), .int .u64 (dg (Y) 5), .int .u64 (dg (Y) 6), .int .u64 (dg (Y) 7)] 27)) = w9 at *
 obtain ⟨Q1, Q2, Q3, HB9⟩ := HT
 have zz9 : w.heap.size + 1 + 1 < w9.heap.size := (Array.getElem?_eq_some_iff.1 Q3).1
 have zz8 : w.heap.size + 1 < w9.heap.size := by omega
 have zz7 : w.heap.size < w9.heap.size := by omega
 have b0 := (cell_of_row _ _ 0 _ _ _ Q1)
 have u0 := (cell_of_row _ _ 0 _ _ _ Q2)
 have u1 := (cell_of_row _ _ 1 _ _ _ Q2)
 have fu0 := row_free Q2 0
 have fu1 := row_free Q2 1
 have c0 := (cell_of_row _ _ 0 _ _ _ Q3).trans (mixA_get Y Y 0 0 (by omega))
 have c1 := (cell_of_row _ _ 1 _ _ _ Q3).trans (mixA_get Y Y 0 1 (by omega))
 have c2 := (cell_of_row _ _ 2 _ _ _ Q3).trans (mixA_get Y Y 0 2 (by omega))
 have c3 := (cell_of_row _ _ 3 _ _ _ Q3).trans (mixA_get Y Y 0 3 (by omega))
 simp only [Nat.not_lt_zero, if_false] at c0 c1 c2 c3
 unfold fB at b0
 simp only [List.getElem?_toArray, List.getElem?_cons_zero, List.getElem?_cons_succ] at b0 u0 u1
 have HQ := Lib.hid Q3
 clear Q1 Q2 Q3
 have r3 := dg_rng Y 3
 by_cases hs3 : 2147483648 ≤ dg Y 3
 · have q3 : decide (2147483648 ≤ dg Y 3) = true := decide_eq_true hs3
   go_wp2_with (fail)
   refine bodyPost_ret (v := .tuple #[.agg #[.int .i64 0, .int .u64 0], .bool false]) (by first | (simp [results, Tryd.results15, go_sem]; done) | (simp only [results, Tryd.results15]; go_simp; done) | (simp only [results, Tryd.results15]; go_simp; omega)) rfl (⟨rfl, by repeat (first | with_reducible assumption | with_reducible exact Below.refl _ _ | (with_reducible refine Below.setCell ?_ (by first | omega | (simp; done) | (simp; omega)) _) | (with_reducible refine Below.alloc ?_ (by first | omega | (simp; done) | (simp; omega)) _) | (with_reducible refine Below.drew ?_) | (with_reducible refine below_drewN ?_ _))⟩)
 · have q3 : decide (2147483648 ≤ dg Y 3) = false := decide_eq_false hs3
   go_wp2_with (fail)
   go_loopw [5] (fun i wr => ∃ k : Nat, 4 ≤ k ∧ k ≤ 8 ∧ i = .int .i64 k ∧ Hid (∀ j, 4 ≤ j → j < k → dg Y j = 0) ∧ w9 = wr) (fun i _ => 8 - (intOf i).toNat)
   case atStart => exact ⟨4, by omega, by omega, rfl, Lib.hid (fun j h1 h2 => by omega), rfl⟩
   case round =>
     obtain ⟨k, hk4, hk, rfl, HP, rfl⟩ := hrel
     by_cases hlt : k < 8
     · have hck : w9.cell? ⟨w.heap.size + 1 + 1, k, none⟩ = some (.int .u64 (dg Y k)) := by rw [cell_of_row _ _ _ _ _ _ HQ.out, mixA_get _ _ _ _ hlt, if_neg (by omega)]
       have rk := dg_rng Y k
       by_cases hk0 : dg Y k = 0
       · have HP2 : Hid (∀ j, 4 ≤ j → j < k + 1 → dg Y j = 0) := Lib.hid (fun j h1 h2 => by by_cases h : j < k; exact HP.out j h1 h; have e : j = k := (by omega); rw [e]; exact hk0)
         rw [hk0] at hck
         clear hk0
         go_wp2_with (fail)
         go_roundw
         case rel => exact ⟨k + 1, by omega, by omega, by go_num, HP2, (by first | rfl | trivial)⟩
         case measure => simp [intOf]; omega
       · have qk : decide (0 < dg Y k) = true := decide_eq_true (by omega)
         clear hk0
         go_wp2_with (fail)
         refine bodyPost_ret (v := .tuple #[.agg #[.int .i64 0, .int .u64 0], .bool false]) (by first | (simp [results, Tryd.results15, go_sem]; done) | (simp only [results, Tryd.results15]; go_simp; done) | (simp only [results, Tryd.results15]; go_simp; omega)) rfl (⟨rfl, by repeat (first | with_reducible assumption | with_reducible exact Below.refl _ _ | (with_reducible refine Below.setCell ?_ (by first | omega | (simp; done) | (simp; omega)) _) | (with_reducible refine Below.alloc ?_ (by first | omega | (simp; done) | (simp; omega)) _) | (with_reducible refine Below.drew ?_) | (with_reducible refine below_drewN ?_ _))⟩)
     · obtain rfl : k = 8 := by omega
       have hc := HS.out HP.out
       omega
set_option maxRecDepth 100000 in
set_option maxHeartbeats 4000000 in
theorem to_small_true (Y : Int) (w : World) (HS : Hid (dg Y 3 < 2147483648 ∧ dg Y 3 * 4294967296 + dg Y 2 = Y / 18446744073709551616 ∧ dg Y 1 * 4294967296 + dg Y 0 = Y % 18446744073709551616 ∧ ∀ k, 4 ≤ k → dg Y k = 0)) :
   Calls Tryd.prog 15 #[.agg (fB true (dg (Y + 1)))] w fun e w' => e = .returned (.tuple #[.agg #[.int .i64 (-1 - Y / 18446744073709551616), .int .u64 (18446744073709551615 - Y % 18446744073709551616)], .bool true]) ∧ Below w.heap.size w w' := by
 have hL := fun w => less_c (Y + 1) 1 w
 rw [show Y + 1 - 1 = Y by omega] at hL
 have HL := Lib.hid hL
 clear hL
 unfold fB
 go_enter Tryd.func15, Tryd.ntmps15
 go_upto_region 3 with (fail)
 have P1 : (((w.alloc (.cells #[.bool true, .int .u64 (dg (Y + 1) 0), .int .u64 (dg (Y + 1) 1), .int .u64 (dg (Y + 1) 2), .int .u64 (dg (Y + 1) 3), .int .u64 (dg (Y + 1) 4), .int .u64 (dg (Y + 1) 5), .int .u64 (dg (Y + 1) 6), .int .u64 (dg (Y + 1) 7)] 29)).alloc (.cells #[.int .i64 0, .int .u64 0] 24)).alloc (.cells #[.int .u64 (dg (Y + 1) 0), .int .u64 (dg (Y + 1) 1), .int .u64 (dg (Y + 1) 2), .int .u64 (dg (Y + 1) 3), .int .u64 (dg (Y + 1) 4), .int .u64 (dg (Y + 1) 5), .int .u64 (dg (Y + 1) 6), .int .u64 (dg (Y + 1) 7)] 27)).heap[w.heap.size]? = some (.cells (fB true (dg (Y + 1))) 29 (0, 0)) := (by unfold fB; exact (by repeat (first | with_reducible assumption | (with_reducible refine (Below.heap_setCell _ _ _ _ (by first | omega | (simp; done) | (simp; omega))).trans ?_) | (with_reducible refine (heap_dN _ _ _).trans ?_) | (with_reducible refine (heap_dr _ _).trans ?_) | (with_reducible refine (Below.heap_alloc _ _ _ (by first | omega | (simp; done) | (simp; omega))).trans ?_) | (with_reducible exact heap_new' _ _ _ (by first | omega | (simp; done) | (simp; omega))))))
 have P2 : (((w.alloc (.cells #[.bool true, .int .u64 (dg (Y + 1) 0), .int .u64 (dg (Y + 1) 1), .int .u64 (dg (Y + 1) 2), .int .u64 (dg (Y + 1) 3), .int .u64 (dg (Y + 1) 4), .int .u64 (dg (Y + 1) 5), .int .u64 (dg (Y + 1) 6), .int .u64 (dg (Y + 1) 7)] 29)).alloc (.cells #[.int .i64 0, .int .u64 0] 24)).alloc (.cells #[.int .u64 (dg (Y + 1) 0), .int .u64 (dg (Y + 1) 1), .int .u64 (dg (Y + 1) 2), .int .u64 (dg (Y + 1) 3), .int .u64 (dg (Y + 1) 4), .int .u64 (dg (Y + 1) 5), .int .u64 (dg (Y + 1) 6), .int .u64 (dg (Y + 1) 7)] 27)).heap[w.heap.size + 1]? = some (.cells #[.int .i64 0, .int .u64 0] 24 (0, 0)) := (by repeat (first | with_reducible assumption | (with_reducible refine (Below.heap_setCell _ _ _ _ (by first | omega | (simp; done) | (simp; omega))).trans ?_) | (with_reducible refine (heap_dN _ _ _).trans ?_) | (with_reducible refine (heap_dr _ _).trans ?_) | (with_reducible refine (Below.heap_alloc _ _ _ (by first | omega | (simp; done) | (simp; omega))).trans ?_) | (with_reducible exact heap_new' _ _ _ (by first | omega | (simp; done) | (simp; omega)))))
 have P3 : (((w.alloc (.cells #[.bool true, .int .u64 (dg (Y + 1) 0), .int .u64 (dg (Y + 1) 1), .int .u64 (dg (Y + 1) 2), .int .u64 (dg (Y + 1) 3), .int .u64 (dg (Y + 1) 4), .int .u64 (dg (Y + 1) 5), .int .u64 (dg (Y + 1) 6), .int .u64 (dg (Y + 1) 7)] 29)).alloc (.cells #[.int .i64 0, .int .u64 0] 24)).alloc (.cells #[.int .u64 (dg (Y + 1) 0), .int .u64 (dg (Y + 1) 1), .int .u64 (dg (Y + 1) 2), .int .u64 (dg (Y + 1) 3), .int .u64 (dg (Y + 1) 4), .int .u64 (dg (Y + 1) 5), .int .u64 (dg (Y + 1) 6), .int .u64 (dg (Y + 1) 7)] 27)).heap[w.heap.size + 1 + 1]? = some (.cells #[.int .u64 (dg (Y + 1) 0), .int .u64 (dg (Y + 1) 1), .int .u64 (dg (Y + 1) 2), .int .u64 (dg (Y + 1) 3), .int .u64 (dg (Y + 1) 4), .int .u64 (dg (Y + 1) 5), .int .u64 (dg (Y + 1) 6), .int .u64 (dg (Y + 1) 7)] 27 (0, 0)) := (by repeat (first | with_reducible assumption | (with_reducible refine (Below.heap_setCell _ _ _ _ (by first | omega | (simp; done) | (simp; omega))).trans ?_) | (with_reducible refine (heap_dN _ _ _).trans ?_) | (with_reducible refine (heap_dr _ _).trans ?_) | (with_reducible refine (Below.heap_alloc _ _ _ (by first | omega | (simp; done) | (simp; omega))).trans ?_) | (with_reducible exact heap_new' _ _ _ (by first | omega | (simp; done) | (simp; omega)))))
 have HB0 : Below w.heap.size w (((w.alloc (.cells #[.bool true, .int .u64 (dg (Y + 1) 0), .int .u64 (dg (Y + 1) 1), .int .u64 (dg (Y + 1) 2), .int .u64 (dg (Y + 1) 3), .int .u64 (dg (Y + 1) 4), .int .u64 (dg (Y + 1) 5), .int .u64 (dg (Y + 1) 6), .int .u64 (dg (Y + 1) 7)] 29)).alloc (.cells #[.int .i64 0, .int .u64 0] 24)).alloc (.cells #[.int .u64 (dg (Y + 1) 0), .int .u64 (dg (Y + 1) 1), .int .u64 (dg (Y + 1) 2), .int .u64 (dg (Y + 1) 3), .int .u64 (dg (Y + 1) 4), .int .u64 (dg (Y + 1) 5), .int .u64 (dg (Y + 1) 6), .int .u64 (dg (Y + 1) 7)] 27)) := by repeat (first | with_reducible assumption | with_reducible exact Below.refl _ _ | (with_reducible refine Below.setCell ?_ (by first | omega | (simp; done) | (simp; omega)) _) | (with_reducible refine Below.alloc ?_ (by first | omega | (simp; done) | (simp; omega)) _) | (with_reducible refine Below.drew ?_) | (with_reducible refine below_drewN ?_ _))
 have hs0 : (((w.alloc (.cells #[.bool true, .int .u64 (dg (Y + 1) 0), .int .u64 (dg (Y + 1) 1), .int .u64 (dg (Y + 1) 2), .int .u64 (dg (Y + 1) 3), .int .u64 (dg (Y + 1) 4), .int .u64 (dg (Y + 1) 5), .int .u64 (dg (Y + 1) 6), .int .u64 (dg (Y + 1) 7)] 29)).alloc (.cells #[.int .i64 0, .int .u64 0] 24)).alloc (.cells #[.int .u64 (dg (Y + 1) 0), .int .u64 (dg (Y + 1) 1), .int .u64 (dg (Y + 1) 2), .int .u64 (dg (Y + 1) 3), .int .u64 (dg (Y + 1) 4), .int .u64 (dg (Y + 1) 5), .int .u64 (dg (Y + 1) 6), .int .u64 (dg (Y + 1) 7)] 27)).heap.size = w.heap.size + 1 + 1 + 1 := by simp
 generalize (((w.alloc (.cells #[.bool true, .int .u64 (dg (Y + 1) 0), .int .u64 (dg (Y + 1) 1), .int .u64 (dg (Y + 1) 2), .int .u64 (dg (Y + 1) 3), .int .u64 (dg (Y + 1) 4), .int .u64 (dg (Y + 1) 5), .int .u64 (dg (Y + 1) 6), .int .u64 (dg (Y + 1) 7)] 29)).alloc (.cells #[.int .i64 0, .int .u64 0] 24)).alloc (.cells #[.int .u64 (dg (Y + 1) 0), .int .u64 (dg (Y + 1) 1), .int .u64 (dg (Y + 1) 2), .int .u64 (dg (Y + 1) 3), .int .u64 (dg (Y + 1) 4), .int .u64 (dg (Y + 1) 5), .int .u64 (dg (Y + 1) 6), .int .u64 (dg (Y + 1) 7)] 27)) = W0 at *
 have c0 := cell_of_row _ _ 0 _ _ _ P3
 have c1 := cell_of_row _ _ 1 _ _ _ P3
 have c2 := cell_of_row _ _ 2 _ _ _ P3
 have c3 := cell_of_row _ _ 3 _ _ _ P3
 have c4 := cell_of_row _ _ 4 _ _ _ P3
 have c5 := cell_of_row _ _ 5 _ _ _ P3
 have c6 := cell_of_row _ _ 6 _ _ _ P3
 have c7 := cell_of_row _ _ 7 _ _ _ P3
 have f0 := row_free P3 0
 have f1 := row_free P3 1
 have f2 := row_free P3 2
 have f3 := row_free P3 3
 have f4 := row_free P3 4
 have f5 := row_free P3 5
 have f6 := row_free P3 6
 have f7 := row_free P3 7
 simp only [List.getElem?_toArray, List.getElem?_cons_zero, List.getElem?_cons_succ] at c0 c1 c2 c3 c4 c5 c6 c7
 go_region_with (first | (go_at_call 68; (with_reducible refine (one_c _).mono ?_); rintro e w1 ⟨rfl, hb1⟩; obtain ⟨hc1, hf1⟩ := bcell hb1; have hz1 := hb1.size; (try simp at hz1); have z12 : w.heap.size + 1 + 1 < w1.heap.size := (by omega)) | (go_at_call 72; (with_reducible refine (HL.out _).mono ?_); rintro e w2 ⟨rfl, hb2⟩; obtain ⟨hc2, hf2⟩ := bcell hb2; have hz2 := hb2.size; (try simp at hz2); have z22 : w.heap.size + 1 + 1 < w2.heap.size := (by omega)))
 all_goals
   have R1 : w2.heap[w.heap.size]? = some (.cells (fB true (dg (Y + 1))) 29 (0, 0)) := (by repeat (first | with_reducible assumption | (with_reducible refine (Below.heap_setCell _ _ _ _ (by first | omega | (simp; done) | (simp; omega))).trans ?_) | (with_reducible refine (heap_dN _ _ _).trans ?_) | (with_reducible refine (heap_dr _ _).trans ?_) | (with_reducible refine (Below.heap_alloc _ _ _ (by first | omega | (simp; done) | (simp; omega))).trans ?_) | (with_reducible refine (hb2.block _ (by first | omega | (simp; done) | (simp; omega))).trans ?_) | (with_reducible refine (hb1.block _ (by first | omega | (simp; done) | (simp; omega))).trans ?_) | (with_reducible exact heap_new' _ _ _ (by first | omega | (simp; done) | (simp; omega)))))
   have R2 : w2.heap[w.heap.size + 1]? = some (.cells #[.int .i64 0, .int .u64 0] 24 (0, 0)) := (by repeat (first | with_reducible assumption | (with_reducible refine (Below.heap_setCell _ _ _ _ (by first | omega | (simp; done) | (simp; omega))).trans ?_) | (with_reducible refine (heap_dN _ _ _).trans ?_) | (with_reducible refine (heap_dr _ _).trans ?_) | (with_reducible refine (Below.heap_alloc _ _ _ (by first | omega | (simp; done) | (simp; omega))).trans ?_) | (with_reducible refine (hb2.block _ (by first | omega | (simp; done) | (simp; omega))).trans ?_) | (with_reducible refine (hb1.block _ (by first | omega | (simp; done) | (simp; omega))).trans ?_) | (with_reducible exact heap_new' _ _ _ (by first | omega | (simp; done) | (simp; omega)))))
   have R3 : w2.heap[w.heap.size + 1 + 1]? = some (.cells #[.int .u64 (dg (Y + 1) 0), .int .u64 (dg (Y + 1) 1), .int .u64 (dg (Y + 1) 2), .int .u64 (dg (Y + 1) 3), .int .u64 (dg (Y + 1) 4), .int .u64 (dg (Y + 1) 5), .int .u64 (dg (Y + 1) 6), .int .u64 (dg (Y + 1) 7)] 27 (0, 0)) := (by repeat (first | with_reducible assumption | (with_reducible refine (Below.heap_setCell _ _ _ _ (by first | omega | (simp; done) | (simp; omega))).trans ?_) | (with_reducible refine (heap_dN _ _ _).trans ?_) | (with_reducible refine (heap_dr _ _).trans ?_) | (with_reducible refine (Below.heap_alloc _ _ _ (by first | omega | (simp; done) | (simp; omega))).trans ?_) | (with_reducible refine (hb2.block _ (by first | omega | (simp; done) | (simp; omega))).trans ?_) | (with_reducible refine (hb1.block _ (by first | omega | (simp; done) | (simp; omega))).trans ?_) | (with_reducible exact heap_new' _ _ _ (by first | omega | (simp; done) | (simp; omega)))))
   have HB2 : Below w.heap.size w w2 := by repeat (first | with_reducible assumption | with_reducible exact Below.refl _ _ | (with_reducible refine Below.setCell ?_ (by first | omega | (simp; done) | (simp; omega)) _) | (with_reducible refine Below.alloc ?_ (by first | omega | (simp; done) | (simp; omega)) _) | (with_reducible refine Below.drew ?_) | (with_reducible refine Below.trans ?_ (Below.mono hb2 (by first | omega | (simp; done) | (simp; omega)))) | (with_reducible refine Below.trans ?_ (Below.mono hb1 (by first | omega | (simp; done) | (simp; omega)))) | (with_reducible refine below_drewN ?_ _))
   have HT : ToW w true Y (dg (Y + 1)) ((((((((w2.setCell ⟨w.heap.size + 1 + 1, 0, none⟩ (.int .u64 (dg (Y) 0))).setCell ⟨w.heap.size + 1 + 1, 1, none⟩ (.int .u64 (dg (Y) 1))).setCell ⟨w.heap.size + 1 + 1, 2, none⟩ (.int .u64 (dg (Y) 2))).setCell ⟨w.heap.size + 1 + 1, 3, none⟩ (.int .u64 (dg (Y) 3))).setCell ⟨w.heap.size + 1 + 1, 4, none⟩ (.int .u64 (dg (Y) 4))).setCell ⟨w.heap.size + 1 + 1, 5, none⟩ (.int .u64 (dg (Y) 5))).setCell ⟨w.heap.size + 1 + 1, 6, none⟩ (.int .u64 (dg (Y) 6))).setCell ⟨w.heap.size + 1 + 1, 7, none⟩ (.int .u64 (dg (Y) 7))) := ⟨(row8f w2 w.heap.size (w.heap.size + 1 + 1) (by omega) _ _ _ _ _ _ _ _).trans R1, (row8f w2 (w.heap.size + 1) (w.heap.size + 1 + 1) (by omega) _ _ _ _ _ _ _ _).trans R2, (by rw [mixD]; exact row8' R3 _ _ _ _ _ _ _ _), below8 HB2 (by omega) _ _ _ _ _ _ _ _⟩
   clear hc1 hc2 hf1 hf2 c0 c1 c2 c3 c4 c5 c6 c7 f0 f1 f2 f3 f4 f5 f6 f7 R1 R2 R3 P1 P2 P3
   generalize ((((((((w2.setCell ⟨w.heap.size + 1 + 1, 0, none⟩ (.int .u64 (dg (Y) 0))).setCell ⟨w.heap.size + 1 + 1, 1, none⟩ (.int .u64 (dg (Y) 1))).setCell ⟨w.heap.size + 1 + 1, 2, none⟩ (.int .u64 (dg (Y) 2))).setCell ⟨w.heap.size + 1 + 1, 3, none⟩ (.int .u64 (dg (Y) 3))).setCell ⟨w.heap.size + 1 + 1, 4, none⟩ (.int .u64 (dg (Y) 4))).setCell ⟨w.heap.size + 1 + 1, 5, none⟩ (.int .u64 (dg (Y) 5))).setCell ⟨w.heap.size + 1 + 1, 6, none⟩ (.int .u64 (dg (Y) 6))).setCell ⟨w.heap.size + 1 + 1, 7, none⟩ (.int .u64 (dg (Y) 7))) = w9 at *
   obtain ⟨Q1, Q2, Q3, HB9⟩ := HT
   have zz9 : w.heap.size + 1 + 1 < w9.heap.size := (Array.getElem?_eq_some_iff.1 Q3).1
   have zz8 : w.heap.size + 1 < w9.heap.size := by omega
   have zz7 : w.heap.size < w9.heap.size := by omega
   have b0 := (cell_of_row _ _ 0 _ _ _ Q1)
   have u0 := (cell_of_row _ _ 0 _ _ _ Q2)
   have u1 := (cell_of_row _ _ 1 _ _ _ Q2)
   have fu0 := row_free Q2 0
   have fu1 := row_free Q2 1
   have c0 := (cell_of_row _ _ 0 _ _ _ Q3).trans (mixA_get Y Y 0 0 (by omega))
   have c1 := (cell_of_row _ _ 1 _ _ _ Q3).trans (mixA_get Y Y 0 1 (by omega))
   have c2 := (cell_of_row _ _ 2 _ _ _ Q3).trans (mixA_get Y Y 0 2 (by omega))
   have c3 := (cell_of_row _ _ 3 _ _ _ Q3).trans (mixA_get Y Y 0 3 (by omega))
   simp only [Nat.not_lt_zero, if_false] at c0 c1 c2 c3
   unfold fB at b0
   simp only [List.getElem?_toArray, List.getElem?_cons_zero, List.getElem?_cons_succ] at b0 u0 u1
   have HQ := Lib.hid Q3
   clear Q1 Q2 Q3
   have hs3 := HS.out.1
   have r3 := dg_rng Y 3
   have r2 := dg_rng Y 2
   have r1 := dg_rng Y 1
   have r0 := dg_rng Y 0
   have q3 : decide (2147483648 ≤ dg Y 3) = false := decide_eq_false (by omega)
   go_wp2_with (fail)
   go_loopw [5] (fun i wr => ∃ k : Nat, 4 ≤ k ∧ k ≤ 8 ∧ i = .int .i64 k ∧ w9 = wr) (fun i _ => 8 - (intOf i).toNat)
   case atStart => exact ⟨4, by omega, by omega, rfl, rfl⟩
   case round =>
     obtain ⟨k, hk4, hk, rfl, rfl⟩ := hrel
     by_cases hlt : k < 8
     · have hck : w9.cell? ⟨w.heap.size + 1 + 1, k, none⟩ = some (.int .u64 (dg Y k)) := by rw [cell_of_row _ _ _ _ _ _ HQ.out, mixA_get _ _ _ _ hlt, if_neg (by omega)]
       rw [HS.out.2.2.2 k hk4] at hck
       go_wp2_with (fail)
       go_roundw
       case rel => exact ⟨k + 1, by omega, by omega, by go_num, (by first | rfl | trivial)⟩
       case measure => simp [intOf]; omega
     · obtain rfl : k = 8 := by omega
       go_wp2_with (fail)
       have HR := HS.out
       rw [← HR.2.1, ← HR.2.2.1]
       refine bodyPost_ret (v := .tuple #[.agg #[.int .i64 (-1 - (dg Y 3 * 4294967296 + dg Y 2)), .int .u64 (18446744073709551615 - (dg Y 1 * 4294967296 + dg Y 0))], .bool true]) (by first | (simp [results, Tryd.results15, go_sem]; done) | (simp only [results, Tryd.results15]; go_simp; done) | (simp only [results, Tryd.results15]; go_simp; omega)) rfl (⟨rfl, by repeat (first | with_reducible assumption | with_reducible exact Below.refl _ _ | (with_reducible refine Below.setCell ?_ (by first | omega | (simp; done) | (simp; omega)) _) | (with_reducible refine Below.alloc ?_ (by first | omega | (simp; done) | (simp; omega)) _) | (with_reducible refine Below.drew ?_) | (with_reducible refine below_drewN ?_ _))⟩)
set_option maxRecDepth 100000 in
set_option maxHeartbeats 4000000 in
theorem to_large_true (Y : Int) (w : World) (HS : Hid ((∀ j, 4 ≤ j → j < 8 → dg Y j = 0) → 2147483648 ≤ dg Y 3)) :
   Calls Tryd.prog 15 #[.agg (fB true (dg (Y + 1)))] w fun e w' => e = .returned (.tuple #[.agg #[.int .i64 0, .int .u64 0], .bool false]) ∧ Below w.heap.size w w' := by
 have hL := fun w => less_c (Y + 1) 1 w
 rw [show Y + 1 - 1 = Y by omega] at hL
 have HL := Lib.hid hL
 clear hL
 unfold fB
 go_enter Tryd.func15, Tryd.ntmps15
 go_upto_region 3 with (fail)
 have P1 : (((w.alloc (.cells #[.bool true, .int .u64 (dg (Y + 1) 0), .int .u64 (dg (Y + 1) 1), .int .u64 (dg (Y + 1) 2), .int .u64 (dg (Y + 1) 3), .int .u64 (dg (Y + 1) 4), .int .u64 (dg (Y + 1) 5), .int .u64 (dg (Y + 1) 6), .int .u64 (dg (Y + 1) 7)] 29)).alloc (.cells #[.int .i64 0, .int .u64 0] 24)).alloc (.cells #[.int .u64 (dg (Y + 1) 0), .int .u64 (dg (Y + 1) 1), .int .u64 (dg (Y + 1) 2), .int .u64 (dg (Y + 1) 3), .int .u64 (dg (Y + 1) 4), .int .u64 (dg (Y + 1) 5), .int .u64 (dg (Y + 1) 6), .int .u64 (dg (Y + 1) 7)] 27)).heap[w.heap.size]? = some (.cells (fB true (dg (Y + 1))) 29 (0, 0)) := (by unfold fB; exact (by repeat (first | with_reducible assumption | (with_reducible refine (Below.heap_setCell _ _ _ _ (by first | omega | (simp; done) | (simp; omega))).trans ?_) | (with_reducible refine (heap_dN _ _ _).trans ?_) | (with_reducible refine (heap_dr _ _).trans ?_) | (with_reducible refine (Below.heap_alloc _ _ _ (by first | omega | (simp; done) | (simp; omega))).trans ?_) | (with_reducible exact heap_new' _ _ _ (by first | omega | (simp; done) | (simp; omega))))))
 have P2 : (((w.alloc (.cells #[.bool true, .int .u64 (dg (Y + 1) 0), .int .u64 (dg (Y + 1) 1), .int .u64 (dg (Y + 1) 2), .int .u64 (dg (Y + 1) 3), .int .u64 (dg (Y + 1) 4), .int .u64 (dg (Y + 1) 5), .int .u64 (dg (Y + 1) 6), .int .u64 (dg (Y + 1) 7)] 29)).alloc (.cells #[.int .i64 0, .int .u64 0] 24)).alloc (.cells #[.int .u64 (dg (Y + 1) 0), .int .u64 (dg (Y + 1) 1), .int .u64 (dg (Y + 1) 2), .int .u64 (dg (Y + 1) 3), .int .u64 (dg (Y + 1) 4), .int .u64 (dg (Y + 1) 5), .int .u64 (dg (Y + 1) 6), .int .u64 (dg (Y + 1) 7)] 27)).heap[w.heap.size + 1]? = some (.cells #[.int .i64 0, .int .u64 0] 24 (0, 0)) := (by repeat (first | with_reducible assumption | (with_reducible refine (Below.heap_setCell _ _ _ _ (by first | omega | (simp; done) | (simp; omega))).trans ?_) | (with_reducible refine (heap_dN _ _ _).trans ?_) | (with_reducible refine (heap_dr _ _).trans ?_) | (with_reducible refine (Below.heap_alloc _ _ _ (by first | omega | (simp; done) | (simp; omega))).trans ?_) | (with_reducible exact heap_new' _ _ _ (by first | omega | (simp; done) | (simp; omega)))))
 have P3 : (((w.alloc (.cells #[.bool true, .int .u64 (dg (Y + 1) 0), .int .u64 (dg (Y + 1) 1), .int .u64 (dg (Y + 1) 2), .int .u64 (dg (Y + 1) 3), .int .u64 (dg (Y + 1) 4), .int .u64 (dg (Y + 1) 5), .int .u64 (dg (Y + 1) 6), .int .u64 (dg (Y + 1) 7)] 29)).alloc (.cells #[.int .i64 0, .int .u64 0] 24)).alloc (.cells #[.int .u64 (dg (Y + 1) 0), .int .u64 (dg (Y + 1) 1), .int .u64 (dg (Y + 1) 2), .int .u64 (dg (Y + 1) 3), .int .u64 (dg (Y + 1) 4), .int .u64 (dg (Y + 1) 5), .int .u64 (dg (Y + 1) 6), .int .u64 (dg (Y + 1) 7)] 27)).heap[w.heap.size + 1 + 1]? = some (.cells #[.int .u64 (dg (Y + 1) 0), .int .u64 (dg (Y + 1) 1), .int .u64 (dg (Y + 1) 2), .int .u64 (dg (Y + 1) 3), .int .u64 (dg (Y + 1) 4), .int .u64 (dg (Y + 1) 5), .int .u64 (dg (Y + 1) 6), .int .u64 (dg (Y + 1) 7)] 27 (0, 0)) := (by repeat (first | with_reducible assumption | (with_reducible refine (Below.heap_setCell _ _ _ _ (by first | omega | (simp; done) | (simp; omega))).trans ?_) | (with_reducible refine (heap_dN _ _ _).trans ?_) | (with_reducible refine (heap_dr _ _).trans ?_) | (with_reducible refine (Below.heap_alloc _ _ _ (by first | omega | (simp; done) | (simp; omega))).trans ?_) | (with_reducible exact heap_new' _ _ _ (by first | omega | (simp; done) | (simp; omega)))))
 have HB0 : Below w.heap.size w (((w.alloc (.cells #[.bool true, .int .u64 (dg (Y + 1) 0), .int .u64 (dg (Y + 1) 1), .int .u64 (dg (Y + 1) 2), .int .u64 (dg (Y + 1) 3), .int .u64 (dg (Y + 1) 4), .int .u64 (dg (Y + 1) 5), .int .u64 (dg (Y + 1) 6), .int .u64 (dg (Y + 1) 7)] 29)).alloc (.cells #[.int .i64 0, .int .u64 0] 24)).alloc (.cells #[.int .u64 (dg (Y + 1) 0), .int .u64 (dg (Y + 1) 1), .int .u64 (dg (Y + 1) 2), .int .u64 (dg (Y + 1) 3), .int .u64 (dg (Y + 1) 4), .int .u64 (dg (Y + 1) 5), .int .u64 (dg (Y + 1) 6), .int .u64 (dg (Y + 1) 7)] 27)) := by repeat (first | with_reducible assumption | with_reducible exact Below.refl _ _ | (with_reducible refine Below.setCell ?_ (by first | omega | (simp; done) | (simp; omega)) _) | (with_reducible refine Below.alloc ?_ (by first | omega | (simp; done) | (simp; omega)) _) | (with_reducible refine Below.drew ?_) | (with_reducible refine below_drewN ?_ _))
 have hs0 : (((w.alloc (.cells #[.bool true, .int .u64 (dg (Y + 1) 0), .int .u64 (dg (Y + 1) 1), .int .u64 (dg (Y + 1) 2), .int .u64 (dg (Y + 1) 3), .int .u64 (dg (Y + 1) 4), .int .u64 (dg (Y + 1) 5), .int .u64 (dg (Y + 1) 6), .int .u64 (dg (Y + 1) 7)] 29)).alloc (.cells #[.int .i64 0, .int .u64 0] 24)).alloc (.cells #[.int .u64 (dg (Y + 1) 0), .int .u64 (dg (Y + 1) 1), .int .u64 (dg (Y + 1) 2), .int .u64 (dg (Y + 1) 3), .int .u64 (dg (Y + 1) 4), .int .u64 (dg (Y + 1) 5), .int .u64 (dg (Y + 1) 6), .int .u64 (dg (Y + 1) 7)] 27)).heap.size = w.heap.size + 1 + 1 + 1 := by simp
 generalize (((w.alloc (.cells #[.bool true, .int .u64 (dg (Y + 1) 0), .int .u64 (dg (Y + 1) 1), .int .u64 (dg (Y + 1) 2), .int .u64 (dg (Y + 1) 3), .int .u64 (dg (Y + 1) 4), .int .u64 (dg (Y + 1) 5), .int .u64 (dg (Y + 1) 6), .int .u64 (dg (Y + 1) 7)] 29)).alloc (.cells #[.int .i64 0, .int .u64 0] 24)).alloc (.cells #[.int .u64 (dg (Y + 1) 0), .int .u64 (dg (Y + 1) 1), .int .u64 (dg (Y + 1) 2), .int .u64 (dg (Y + 1) 3), .int .u64 (dg (Y + 1) 4), .int .u64 (dg (Y + 1) 5), .int .u64 (dg (Y + 1) 6), .int .u64 (dg (Y + 1) 7)] 27)) = W0 at *
 have c0 := cell_of_row _ _ 0 _ _ _ P3
 have c1 := cell_of_row _ _ 1 _ _ _ P3
 have c2 := cell_of_row _ _ 2 _ _ _ P3
 have c3 := cell_of_row _ _ 3 _ _ _ P3
 have c4 := cell_of_row _ _ 4 _ _ _ P3
 have c5 := cell_of_row _ _ 5 _ _ _ P3
 have c6 := cell_of_row _ _ 6 _ _ _ P3
 have c7 := cell_of_row _ _ 7 _ _ _ P3
 have f0 := row_free P3 0
 have f1 := row_free P3 1
 have f2 := row_free P3 2
 have f3 := row_free P3 3
 have f4 := row_free P3 4
 have f5 := row_free P3 5
 have f6 := row_free P3 6
 have f7 := row_free P3 7
 simp only [List.getElem?_toArray, List.getElem?_cons_zero, List.getElem?_cons_succ] at c0 c1 c2 c3 c4 c5 c6 c7
 go_region_with (first | (go_at_call 68; (with_reducible refine (one_c _).mono ?_); rintro e w1 ⟨rfl, hb1⟩; obtain ⟨hc1, hf1⟩ := bcell hb1; have hz1 := hb1.size; (try simp at hz1); have z12 : w.heap.size + 1 + 1 < w1.heap.size := (by omega)) | (go_at_call 72; (with_reducible refine (HL.out _).mono ?_); rintro e w2 ⟨rfl, hb2⟩; obtain ⟨hc2, hf2⟩ := bcell hb2; have hz2 := hb2.size; (try simp at hz2); have z22 : w.heap.size + 1 + 1 < w2.heap.size := (by omega)))
 all_goals
   have R1 : w2.heap[w.heap.size]? = some (.cells (fB true (dg (Y + 1))) 29 (0, 0)) := (by repeat (first | with_reducible assumption | (with_reducible refine (Below.heap_setCell _ _ _ _ (by first | omega | (simp; done) | (simp; omega))).trans ?_) | (with_reducible refine (heap_dN _ _ _).trans ?_) | (with_reducible refine (heap_dr _ _).trans ?_) | (with_reducible refine (Below.heap_alloc _ _ _ (by first | omega | (simp; done) | (simp; omega))).trans ?_) | (with_reducible refine (hb2.block _ (by first | omega | (simp; done) | (simp; omega))).trans ?_) | (with_reducible refine (hb1.block _ (by first | omega | (simp; done) | (simp; omega))).trans ?_) | (with_reducible exact heap_new' _ _ _ (by first | omega | (simp; done) | (simp; omega)))))
   have R2 : w2.heap[w.heap.size + 1]? = some (.cells #[.int .i64 0, .int .u64 0] 24 (0, 0)) := (by repeat (first | with_reducible assumption | (with_reducible refine (Below.heap_setCell _ _ _ _ (by first | omega | (simp; done) | (simp; omega))).trans ?_) | (with_reducible refine (heap_dN _ _ _).trans ?_) | (with_reducible refine (heap_dr _ _).trans ?_) | (with_reducible refine (Below.heap_alloc _ _ _ (by first | omega | (simp; done) | (simp; omega))).trans ?_) | (with_reducible refine (hb2.block _ (by first | omega | (simp; done) | (simp; omega))).trans ?_) | (with_reducible refine (hb1.block _ (by first | omega | (simp; done) | (simp; omega))).trans ?_) | (with_reducible exact heap_new' _ _ _ (by first | omega | (simp; done) | (simp; omega)))))
   have R3 : w2.heap[w.heap.size + 1 + 1]? = some (.cells #[.int .u64 (dg (Y + 1) 0), .int .u64 (dg (Y + 1) 1), .int .u64 (dg (Y + 1) 2), .int .u64 (dg (Y + 1) 3), .int .u64 (dg (Y + 1) 4), .int .u64 (dg (Y + 1) 5), .int .u64 (dg (Y + 1) 6), .int .u64 (dg (Y + 1) 7)] 27 (0, 0)) := (by repeat (first | with_reducible assumption | (with_reducible refine (Below.heap_setCell _ _ _ _ (by first | omega | (simp; done) | (simp; omega))).trans ?_) | (with_reducible refine (heap_dN _ _ _).trans ?_) | (with_reducible refine (heap_dr _ _).trans ?_) | (with_reducible refine (Below.heap_alloc _ _ _ (by first | omega | (simp; done) | (simp; omega))).trans ?_) | (with_reducible refine (hb2.block _ (by first | omega | (simp; done) | (simp; omega))).trans ?_) | (with_reducible refine (hb1.block _ (by first | omega | (simp; done) | (simp; omega))).trans ?_) | (with_reducible exact heap_new' _ _ _ (by first | omega | (simp; done) | (simp; omega)))))
   have HB2 : Below w.heap.size w w2 := by repeat (first | with_reducible assumption | with_reducible exact Below.refl _ _ | (with_reducible refine Below.setCell ?_ (by first | omega | (simp; done) | (simp; omega)) _) | (with_reducible refine Below.alloc ?_ (by first | omega | (simp; done) | (simp; omega)) _) | (with_reducible refine Below.drew ?_) | (with_reducible refine Below.trans ?_ (Below.mono hb2 (by first | omega | (simp; done) | (simp; omega)))) | (with_reducible refine Below.trans ?_ (Below.mono hb1 (by first | omega | (simp; done) | (simp; omega)))) | (with_reducible refine below_drewN ?_ _))
   have HT : ToW w true Y (dg (Y + 1)) ((((((((w2.setCell ⟨w.heap.size + 1 + 1, 0, none⟩ (.int .u64 (dg (Y) 0))).setCell ⟨w.heap.size + 1 + 1, 1, none⟩ (.int .u64 (dg (Y) 1))).setCell ⟨w.heap.size + 1 + 1, 2, none⟩ (.int .u64 (dg (Y) 2))).setCell ⟨w.heap.size + 1 + 1, 3, none⟩ (.int .u64 (dg (Y) 3))).setCell ⟨w.heap.size + 1 + 1, 4, none⟩ (.int .u64 (dg (Y) 4))).setCell ⟨w.heap.size + 1 + 1, 5, none⟩ (.int .u64 (dg (Y) 5))).setCell ⟨w.heap.size + 1 + 1, 6, none⟩ (.int .u64 (dg (Y) 6))).setCell ⟨w.heap.size + 1 + 1, 7, none⟩ (.int .u64 (dg (Y) 7))) := ⟨(row8f w2 w.heap.size (w.heap.size + 1 + 1) (by omega) _ _ _ _ _ _ _ _).trans R1, (row8f w2 (w.heap.size + 1) (w.heap.size + 1 + 1) (by omega) _ _ _ _ _ _ _ _).trans R2, (by rw [mixD]; exact row8' R3 _ _ _ _ _ _ _ _), below8 HB2 (by omega) _ _ _ _ _ _ _ _⟩
   clear hc1 hc2 hf1 hf2 c0 c1 c2 c3 c4 c5 c6 c7 f0 f1 f2 f3 f4 f5 f6 f7 R1 R2 R3 P1 P2 P3
   generalize ((((((((w2.setCell ⟨w.heap.size + 1 + 1, 0, none⟩ (.int .u64 (dg (Y) 0))).setCell ⟨w.heap.size + 1 + 1, 1, none⟩ (.int .u64 (dg (Y) 1))).setCell ⟨w.heap.size + 1 + 1, 2, none⟩ (.int .u64 (dg (Y) 2))).setCell ⟨w.heap.size + 1 + 1, 3, none⟩ (.int .u64 (dg (Y) 3))).setCell ⟨w.heap.size + 1 + 1, 4, none⟩ (.int .u64 (dg (Y) 4))).setCell ⟨w.heap.size + 1 + 1, 5, none⟩ (.int .u64 (dg (Y) 5))).setCell ⟨w.heap.size + 1 + 1, 6, none⟩ (.int .u64 (dg (Y) 6))).setCell ⟨w.heap.size + 1 + 1, 7, none⟩ (.int .u64 (dg (Y) 7))) = w9 at *
   obtain ⟨Q1, Q2, Q3, HB9⟩ := HT
   have zz9 : w.heap.size + 1 + 1 < w9.heap.size := (Array.getElem?_eq_some_iff.1 Q3).1
   have zz8 : w.heap.size + 1 < w9.heap.size := by omega
   have zz7 : w.heap.size < w9.heap.size := by omega
   have b0 := (cell_of_row _ _ 0 _ _ _ Q1)
   have u0 := (cell_of_row _ _ 0 _ _ _ Q2)
   have u1 := (cell_of_row _ _ 1 _ _ _ Q2)
   have fu0 := row_free Q2 0
   have fu1 := row_free Q2 1
   have c0 := (cell_of_row _ _ 0 _ _ _ Q3).trans (mixA_get Y Y 0 0 (by omega))
   have c1 := (cell_of_row _ _ 1 _ _ _ Q3).trans (mixA_get Y Y 0 1 (by omega))
   have c2 := (cell_of_row _ _ 2 _ _ _ Q3).trans (mixA_get Y Y 0 2 (by omega))
   have c3 := (cell_of_row _ _ 3 _ _ _ Q3).trans (mixA_get Y Y 0 3 (by omega))
   simp only [Nat.not_lt_zero, if_false] at c0 c1 c2 c3
   unfold fB at b0
   simp only [List.getElem?_toArray, List.getElem?_cons_zero, List.getElem?_cons_succ] at b0 u0 u1
   have HQ := Lib.hid Q3
   clear Q1 Q2 Q3
   have r3 := dg_rng Y 3
   by_cases hs3 : 2147483648 ≤ dg Y 3
   · have q3 : decide (2147483648 ≤ dg Y 3) = true := decide_eq_true hs3
     go_wp2_with (fail)
     refine bodyPost_ret (v := .tuple #[.agg #[.int .i64 0, .int .u64 0], .bool false]) (by first | (simp [results, Tryd.results15, go_sem]; done) | (simp only [results, Tryd.results15]; go_simp; done) | (simp only [results, Tryd.results15]; go_simp; omega)) rfl (⟨rfl, by repeat (first | with_reducible assumption | with_reducible exact Below.refl _ _ | (with_reducible refine Below.setCell ?_ (by first | omega | (simp; done) | (simp; omega)) _) | (with_reducible refine Below.alloc ?_ (by first | omega | (simp; done) | (simp; omega)) _) | (with_reducible refine Below.drew ?_) | (with_reducible refine below_drewN ?_ _))⟩)
   · have q3 : decide (2147483648 ≤ dg Y 3) = false := decide_eq_false hs3
     go_wp2_with (fail)
     go_loopw [5] (fun i wr => ∃ k : Nat, 4 ≤ k ∧ k ≤ 8 ∧ i = .int .i64 k ∧ Hid (∀ j, 4 ≤ j → j < k → dg Y j = 0) ∧ w9 = wr) (fun i _ => 8 - (intOf i).toNat)
     case atStart => exact ⟨4, by omega, by omega, rfl, Lib.hid (fun j h1 h2 => by omega), rfl⟩
     case round =>
       obtain ⟨k, hk4, hk, rfl, HP, rfl⟩ := hrel
       by_cases hlt : k < 8
       · have hck : w9.cell? ⟨w.heap.size + 1 + 1, k, none⟩ = some (.int .u64 (dg Y k)) := by rw [cell_of_row _ _ _ _ _ _ HQ.out, mixA_get _ _ _ _ hlt, if_neg (by omega)]
         have rk := dg_rng Y k
         by_cases hk0 : dg Y k = 0
         · have HP2 : Hid (∀ j, 4 ≤ j → j < k + 1 → dg Y j = 0) := Lib.hid (fun j h1 h2 => by by_cases h : j < k; exact HP.out j h1 h; have e : j = k := (by omega); rw [e]; exact hk0)
           rw [hk0] at hck
           clear hk0
           go_wp2_with (fail)
           go_roundw
           case rel => exact ⟨k + 1, by omega, by omega, by go_num, HP2, (by first | rfl | trivial)⟩
           case measure => simp [intOf]; omega
         · have qk : decide (0 < dg Y k) = true := decide_eq_true (by omega)
           clear hk0
           go_wp2_with (fail)
           refine bodyPost_ret (v := .tuple #[.agg #[.int .i64 0, .int .u64 0], .bool false]) (by first | (simp [results, Tryd.results15, go_sem]; done) | (simp only [results, Tryd.results15]; go_simp; done) | (simp only [results, Tryd.results15]; go_simp; omega)) rfl (⟨rfl, by repeat (first | with_reducible assumption | with_reducible exact Below.refl _ _ | (with_reducible refine Below.setCell ?_ (by first | omega | (simp; done) | (simp; omega)) _) | (with_reducible refine Below.alloc ?_ (by first | omega | (simp; done) | (simp; omega)) _) | (with_reducible refine Below.drew ?_) | (with_reducible refine below_drewN ?_ _))⟩)
       · obtain rfl : k = 8 := by omega
         have hc := HS.out HP.out
         omega
end Go.Proofs.YtgondiedehjkhaaDoor
