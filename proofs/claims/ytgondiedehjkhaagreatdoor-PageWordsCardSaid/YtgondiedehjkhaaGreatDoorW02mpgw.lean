/-
 Numbers of digits: as a wide number.
-/
import Derived.Test.YtgondiedehjkhaaGreatDoorBig2pgw
import Derived.Deep.RegionWith
import Derived.Deep.Cut
import Derived.Deep.CutRange
namespace Go.Proofs.YtgondiedehjkhaaGreatDoor
open Go.RowKit Go.Extern.Stop Go.Stop Go.Extern
set_option linter.unusedVariables false
set_option linter.unusedSimpArgs false
theorem mixD (Y : Int) : mixA Y Y 0 = #[.int .u64 (dg (Y) 0), .int .u64 (dg (Y) 1), .int .u64 (dg (Y) 2), .int .u64 (dg (Y) 3), .int .u64 (dg (Y) 4), .int .u64 (dg (Y) 5), .int .u64 (dg (Y) 6), .int .u64 (dg (Y) 7)] := mixA_zero Y Y
def ToW (w : World) (s : Bool) (Y : Int) (v : Nat → Int) (w9 : World) : Prop :=
 w9.heap[w.heap.size]? = some (.cells (fB s v) 158 (0, 0)) ∧ w9.heap[w.heap.size + 1]? = some (.cells #[.int .i64 0, .int .u64 0] 228 (0, 0)) ∧ w9.heap[w.heap.size + 1 + 1]? = some (.cells (mixA Y Y 0) 156 (0, 0)) ∧ Below w.heap.size w w9
set_option maxRecDepth 100000 in
set_option maxHeartbeats 4000000 in
theorem to_small_false (Y : Int) (w : World) (HS : Hid (dg Y 3 < 2147483648 ∧ dg Y 3 * 4294967296 + dg Y 2 = Y / 18446744073709551616 ∧ dg Y 1 * 4294967296 + dg Y 0 = Y % 18446744073709551616 ∧ ∀ k, 4 ≤ k → dg Y k = 0)) :
   Calls Tryz.prog 128 #[.agg (fB false (dg (Y)))] w fun e w' => e = .returned (.tuple #[.agg #[.int .i64 (Y / 18446744073709551616), .int .u64 (Y % 18446744073709551616)], .bool true]) ∧ Below w.heap.size w w' := by
 unfold fB
 go_enter Tryz.func128, Tryz.ntmps128
 go_upto_region 4 with (fail)
 have HT : ToW w false Y (dg (Y)) (((w.alloc (.cells #[.bool false, .int .u64 (dg (Y) 0), .int .u64 (dg (Y) 1), .int .u64 (dg (Y) 2), .int .u64 (dg (Y) 3), .int .u64 (dg (Y) 4), .int .u64 (dg (Y) 5), .int .u64 (dg (Y) 6), .int .u64 (dg (Y) 7)] 158)).alloc (.cells #[.int .i64 0, .int .u64 0] 228)).alloc (.cells #[.int .u64 (dg (Y) 0), .int .u64 (dg (Y) 1), .int .u64 (dg (Y) 2), .int .u64 (dg (Y) 3), .int .u64 (dg (Y) 4), .int .u64 (dg (Y) 5), .int .u64 (dg (Y) 6), .int .u64 (dg (Y) 7)] 156)) := ⟨(by unfold fB; exact (by repeat (first | with_reducible assumption | (with_reducible refine (Below.heap_setCell _ _ _ _ (by first | omega | (simp; done) | (simp; omega))).trans ?_) | (with_reducible refine (heap_dN _ _ _).trans ?_) | (with_reducible refine (heap_dr _ _).trans ?_) | (with_reducible refine (Below.heap_alloc _ _ _ (by first | omega | (simp; done) | (simp; omega))).trans ?_) | (with_reducible exact heap_new' _ _ _ (by first | omega | (simp; done) | (simp; omega)))))), (by repeat (first | with_reducible assumption | (with_reducible refine (Below.heap_setCell _ _ _ _ (by first | omega | (simp; done) | (simp; omega))).trans ?_) | (with_reducible refine (heap_dN _ _ _).trans ?_) | (with_reducible refine (heap_dr _ _).trans ?_) | (with_reducible refine (Below.heap_alloc _ _ _ (by first | omega | (simp; done) | (simp; omega))).trans ?_) | (with_reducible exact heap_new' _ _ _ (by first | omega | (simp; done) | (simp; omega))))), (by rw [mixD]; exact (by repeat (first | with_reducible assumption | (with_reducible refine (Below.heap_setCell _ _ _ _ (by first | omega | (simp; done) | (simp; omega))).trans ?_) | (with_reducible refine (heap_dN _ _ _).trans ?_) | (with_reducible refine (heap_dr _ _).trans ?_) | (with_reducible refine (Below.heap_alloc _ _ _ (by first | omega | (simp; done) | (simp; omega))).trans ?_) | (with_reducible exact heap_new' _ _ _ (by first | omega | (simp; done) | (simp; omega)))))), by repeat (first | with_reducible assumption | with_reducible exact Below.refl _ _ | (with_reducible refine Below.setCell ?_ (by first | omega | (simp; done) | (simp; omega)) _) | (with_reducible refine Below.alloc ?_ (by first | omega | (simp; done) | (simp; omega)) _) | (with_reducible refine Below.drew ?_) | (with_reducible refine below_drewN ?_ _))⟩
 generalize (((w.alloc (.cells #[.bool false, .int .u64 (dg (Y) 0), .int .u64 (dg (Y) 1), .int .u64 (dg (Y) 2), .int .u64 (dg (Y) 3), .int .u64 (dg (Y) 4), .int .u64 (dg (Y) 5), .int .u64 (dg (Y) 6), .int .u64 (dg (Y) 7)] 158)).alloc (.cells #[.int .i64 0, .int .u64 0] 228)).alloc (.cells #[.int .u64 (dg (Y) 0), .int .u64 (dg (Y) 1), .int .u64 (dg (Y) 2), .int .u64 (dg (Y) 3), .int .u64 (dg (Y) 4), .int .u64 (dg (Y) 5), .int .u64 (dg (Y) 6), .int .u64 (dg (Y) 7)] 156)) = w9 at *
 obtain ⟨Q1, Q2, Q3, HB9⟩ := HT
 have zz9 : w.heap.size + 1 + 1 < w9.heap.size := (Array.getElem?_eq_some_iff.1 Q3).1
 have zz8 : w.heap.size + 1 < w9.heap.size := by omega
 have zz7 : w.heap.size < w9.heap.size := by omega
 have b0 := (cell_of_row _ _ 0 _ _ _ Q1)
 have u0 := (cell_of_row _ _ 0 _ _ _ Q2)
 have u1 := (cell_of_row _ _ 1 _ _ _ Q2)
 have fu0 := row_free Q2 0
 have fu1 := row_free Q2 1
 have c0 := (cell_of_row _ _ 0 _ _ _ Q3).trans (mixA_get Y Y 0 0 (by omega))
 have c1 := (cell_of_row _ _ 1 _ _ _ Q3).trans (mixA_get Y Y 0 1 (by omega))
 have c2 := (cell_of_row _ _ 2 _ _ _ Q3).trans (mixA_get Y Y 0 2 (by omega))
 have c3 := (cell_of_row _ _ 3 _ _ _ Q3).trans (mixA_get Y Y 0 3 (by omega))
 simp only [Nat.not_lt_zero, if_false] at c0 c1 c2 c3
 unfold fB at b0
 simp only [List.getElem?_toArray, List.getElem?_cons_zero, List.getElem?_cons_succ] at b0 u0 u1
 have HQ := Lib.hid Q3
 clear Q1 Q2 Q3
 have hs3 := HS.out.1
 have r3 := dg_rng Y 3
 have r2 := dg_rng Y 2
 have r1 := dg_rng Y 1
 have r0 := dg_rng Y 0
 have q3 : decide (2147483648 ≤ dg Y 3) = false := decide_eq_false (by omega)
 go_wp2_with (fail)
 go_loopw [5] (fun i wr => ∃ k : Nat, 4 ≤ k ∧ k ≤ 8 ∧ i = .int .i64 k ∧ w9 = wr) (fun i _ => 8 - (intOf i).toNat)
 case atStart => exact ⟨4, by omega, by omega, rfl, rfl⟩
 case round =>
   obtain ⟨k, hk4, hk, rfl, rfl⟩ := hrel
   by_cases hlt : k < 8
   · have hck : w9.cell? ⟨w.heap.size + 1 + 1, k, none⟩ = some (.int .u64 (dg Y k)) := by rw [cell_of_row _ _ _ _ _ _ HQ.out, mixA_get _ _ _ _ hlt, if_neg (by omega)]
     rw [HS.out.2.2.2 k hk4] at hck
     go_wp2_with (fail)
     go_roundw
     case rel => exact ⟨k + 1, by omega, by omega, by go_num, (by first | rfl | trivial)⟩
     case measure => simp [intOf]; omega
   · obtain rfl : k = 8 := by omega
     go_wp2_with (fail)
     have HR := HS.out
     rw [← HR.2.1, ← HR.2.2.1]
     refine bodyPost_ret (v := .tuple #[.agg #[.int .i64 (dg Y 3 * 4294967296 + dg Y 2), .int .u64 (dg Y 1 * 4294967296 + dg Y 0)], .bool true]) (by first | (simp [results, Tryz.results128, go_sem]; done) | (simp only [results, Tryz.results128]; go_simp; done) | (simp only [results, Tryz.results128]; go_simp; omega)) rfl (⟨rfl, by repeat (first | with_reducible assumption | with_reducible exact Below.refl _ _ | (with_reducible refine Below.setCell ?_ (by first | omega | (simp; done) | (simp; omega)) _) | (with_reducible refine Below.alloc ?_ (by first | omega | (simp; done) | (simp; omega)) _) | (with_reducible refine Below.drew ?_) | (with_reducible refine below_drewN ?_ _))⟩)
set_option maxRecDepth 100000 in
set_option maxHeartbeats 4000000 in
theorem to_large_false (Y : Int) (w : World) (HS : Hid ((∀ j, 4 ≤ j → j < 8 → dg Y j = 0) → 2147483648 ≤ dg Y 3)) :
   Calls Tryz.prog 128 #[.agg (fB false (dg (Y)))] w fun e w' => e = .returned (.tuple #[.agg #[.int .i64 0, .int .u64 0], .bool false]) ∧ Below w.heap.size w w' := by
 unfold fB
 go_enter Tryz.func128, Tryz.ntmps128
 go_upto_region 4 with (fail)
 have HT : ToW w false Y (dg (Y)) (((w.alloc (.cells #[.bool false, .int .u64 (dg (Y) 0), .int .u64 (dg (Y) 1), .int .u64 (dg (Y) 2), .int .u64 (dg (Y) 3), .int .u64 (dg (Y) 4), .int .u64 (dg (Y) 5), .int .u64 (dg (Y) 6), .int .u64 (dg (Y) 7)] 158)).alloc (.cells #[.int .i64 0, .int .u64 0] 228)).alloc (.cells #[.int .u64 (dg (Y) 0), .int .u64 (dg (Y) 1), .int .u64 (dg (Y) 2), .int .u64 (dg (Y) 3), .int .u64 (dg (Y) 4), .int .u64 (dg (Y) 5), .int .u64 (dg (Y) 6), .int .u64 (dg (Y) 7)] 156)) := ⟨(by unfold fB; exact (by repeat (first | with_reducible assumption | (with_reducible refine (Below.heap_setCell _ _ _ _ (by first | omega | (simp; done) | (simp; omega))).trans ?_) | (with_reducible refine (heap_dN _ _ _).trans ?_) | (with_reducible refine (heap_dr _ _).trans ?_) | (with_reducible refine (Below.heap_alloc _ _ _ (by first | omega | (simp; done) | (simp; omega))).trans ?_) | (with_reducible exact heap_new' _ _ _ (by first | omega | (simp; done) | (simp; omega)))))), (by repeat (first | with_reducible assumption | (with_reducible refine (Below.heap_setCell _ _ _ _ (by first | omega | (simp; done) | (simp; omega))).trans ?_) | (with_reducible refine (heap_dN _ _ _).trans ?_) | (with_reducible refine (heap_dr _ _).trans ?_) | (with_reducible refine (Below.heap_alloc _ _ _ (by first | omega | (simp; done) | (simp; omega))).trans ?_) | (with_reducible exact heap_new' _ _ _ (by first | omega | (simp; done) | (simp; omega))))), (by rw [mixD]; exact (by repeat (first | with_reducible assumption | (with_reducible refine (Below.heap_setCell _ _ _ _ (by first | omega | (simp; done) | (simp; omega))).trans ?_) | (with_reducible refine (heap_dN _ _ _).trans ?_) | (with_reducible refine (heap_dr _ _).trans ?_) | (with_reducible refine (Below.heap_alloc _ _ _ (by first | omega | (simp; done) | (simp; omega))).trans ?_) | (with_reducible exact heap_new' _ _ _ (by first | omega | (simp; done) | (simp; omega)))))), by repeat (first | with_reducible assumption | with_reducible exact Below.refl _ _ | (with_reducible refine Below.setCell ?_ (by first | omega | (simp; done) | (simp; omega)) _) | (with_reducible refine Below.alloc ?_ (by first | omega | (simp; done) | (simp; omega)) _) | (with_reducible refine Below.drew ?_) | (with_reducible refine below_drewN ?_ _))⟩
 generalize (((w.alloc (.cells #[.bool false, .int .u64 (dg (Y) 0), .int .u64 (dg (Y) 1), .int .u64 (dg (Y) 2), .int .u64 (dg (Y) 3), .int .u64 (dg (Y) 4), .int .u64 (dg (Y) 5), .int .u64 (dg (Y) 6), .int .u64 (dg (Y) 7)] 158)).alloc (.cells #[.int .i64 0, .int .u64 0] 228)).alloc (.cells #[.int .u64 (dg (Y) 0), .int .u64 (dg (Y) 1), .int .u64 (dg (Y) 2), .int .u64 (dg (Y) 3), .int .u64 (dg (Y) 4), .int .u64 (dg (Y) 5), .int .u64 (dg (Y) 6), .int .u64 (dg (Y) 7)] 156)) = w9 at *
 obtain ⟨Q1, Q2, Q3, HB9⟩ := HT
 have zz9 : w.heap.size + 1 + 1 < w9.heap.size := (Array.getElem?_eq_some_iff.1 Q3).1
 have zz8 : w.heap.size + 1 < w9.heap.size := by omega
 have zz7 : w.heap.size < w9.heap.size := by omega
 have b0 := (cell_of_row _ _ 0 _ _ _ Q1)
 have u0 := (cell_of_row _ _ 0 _ _ _ Q2)
 have u1 := (cell_of_row _ _ 1 _ _ _ Q2)
 have fu0 := row_free Q2 0
 have fu1 := row_free Q2 1
 have c0 := (cell_of_row _ _ 0 _ _ _ Q3).trans (mixA_get Y Y 0 0 (by omega))
 have c1 := (cell_of_row _ _ 1 _ _ _ Q3).trans (mixA_get Y Y 0 1 (by omega))
 have c2 := (cell_of_row _ _ 2 _ _ _ Q3).trans (mixA_get Y Y 0 2 (by omega))
 have c3 := (cell_of_row _ _ 3 _ _ _ Q3).trans (mixA_get Y Y 0 3 (by omega))
 simp only [Nat.not_lt_zero, if_false] at c0 c1 c2 c3
 unfold fB at b0
 simp only [List.getElem?_toArray, List.getElem?_cons_zero, List.getElem?_cons_succ] at b0 u0 u1
 have HQ := Lib.hid Q3
 clear Q1 Q2 Q3
 have r3 := dg_rng Y 3
 by_cases hs3 : 2147483648 ≤ dg Y 3
 · have q3 : decide (2147483648 ≤ dg Y 3) = true := decide_eq_true hs3
   go_wp2_with (fail)
   refine bodyPost_ret (v := .tuple #[.agg #[.int .i64 0, .int .u64 0], .bool false]) (by first | (simp [results, Tryz.results128, go_sem]; done) | (simp only [results, Tryz.results128]; go_simp; done) | (simp only [results, Tryz.results128]; go_simp; omega)) rfl (⟨rfl, by repeat (first | with_reducible assumption | with_reducible exact Below.refl _ _ | (with_reducible refine Below.setCell ?_ (by first | omega | (simp; done) | (simp; omega)) _) | (with_reducible refine Below.alloc ?_ (by first | omega | (simp; done) | (simp; omega)) _) | (with_reducible refine Below.drew ?_) | (with_reducible refine below_drewN ?_ _))⟩)
 · have q3 : decide (2147483648 ≤ dg Y 3) = false := decide_eq_false hs3
   go_wp2_with (fail)
   go_loopw [5] (fun i wr => ∃ k : Nat, 4 ≤ k ∧ k ≤ 8 ∧ i = .int .i64 k ∧ Hid (∀ j, 4 ≤ j → j < k → dg Y j = 0) ∧ w9 = wr) (fun i _ => 8 - (intOf i).toNat)
   case atStart => exact ⟨4, by omega, by omega, rfl, Lib.hid (fun j h1 h2 => by omega), rfl⟩
   case round =>
     obtain ⟨k, hk4, hk, rfl, HP, rfl⟩ := hrel
     by_cases hlt : k < 8
     · have hck : w9.cell? ⟨w.heap.size + 1 + 1, k, none⟩ = some (.int .u64 (dg Y k)) := by rw [cell_of_row _ _ _ _ _ _ HQ.out, mixA_get _ _ _ _ hlt, if_neg (by omega)]
       have rk := dg_rng Y k
       by_cases hk0 : dg Y k = 0
       · have HP2 : Hid (∀ j, 4 ≤ j → j < k + 1 → dg Y j = 0) := Lib.hid (fun j h1 h2 => by by_cases h : j < k; exact HP.out j h1 h; have e : j = k := (by omega); rw [e]; exact hk0)
         rw [hk0] at hck
         clear hk0
         go_wp2_with (fail)
         go_roundw
         case rel => exact ⟨k + 1, by omega, by omega, by go_num, HP2, (by first | rfl | trivial)⟩
         case measure => simp [intOf]; omega
       · have qk : decide (0 < dg Y k) = true := decide_eq_true (by omega)
         clear hk0
         go_wp2_with (fail)
         refine bodyPost_ret (v := .tuple #[.agg #[.int .i64 0, .int .u64 0], .bool false]) (by first | (simp [results, Tryz.results128, go_sem]; done) | (simp only [results, Tryz.results128]; go_simp; done) | (simp only [results, Tryz.results128]; go_simp; omega)) rfl (⟨rfl, by repeat (first | with_reducible assumption | with_reducible exact Below.refl _ _ | (with_reducible refine Below.setCell ?_ (by first | omega | (simp; done) | (simp; omega)) _) | (with_reducible refine Below.alloc ?_ (by first | omega | (simp; done) | (simp; omega)) _) | (with_reducible refine Below.drew ?_) | (with_reducible refine below_drewN ?_ _))⟩)
     · obtain rfl : k = 8 := by omega
       have hc := HS.out HP.out
       omega
end Go.Proofs.YtgondiedehjkhaaGreatDoor
