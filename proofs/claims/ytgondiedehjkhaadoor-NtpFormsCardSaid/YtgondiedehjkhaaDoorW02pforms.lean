/-
 Numbers of digits: sums with signs, the second one greater.
-/
import Derived.Test.YtgondiedehjkhaaDoorW02lforms
import Derived.Deep.RegionWith
import Derived.StillTailTactics
namespace Go.Proofs.YtgondiedehjkhaaDoor
open Go.RowKit Go.Extern.Stop Go.Stop Go.Extern
set_option linter.unusedVariables false
set_option linter.unusedSimpArgs false
theorem heap9 (w : World) (g' g : Nat) (hne : g' ≠ g) (v0 v1 v2 v3 v4 v5 v6 v7 v8 : Value) : (((((((((w.setCell ⟨g, 0, none⟩ v0).setCell ⟨g, 1, none⟩ v1).setCell ⟨g, 2, none⟩ v2).setCell ⟨g, 3, none⟩ v3).setCell ⟨g, 4, none⟩ v4).setCell ⟨g, 5, none⟩ v5).setCell ⟨g, 6, none⟩ v6).setCell ⟨g, 7, none⟩ v7).setCell ⟨g, 8, none⟩ v8).heap[g']? = w.heap[g']? := by
 repeat (first | (with_reducible rfl) | (with_reducible refine (Below.heap_setCell _ _ _ _ (by exact hne)).trans ?_))
set_option maxRecDepth 100000 in
set_option maxHeartbeats 4000000 in
theorem add_less_false (X Y : Int) (w : World) (HX : Hid (0 ≤ X ∧ X < B8)) (HY : Hid (0 ≤ Y ∧ Y < B8)) (hs : X < Y) (HZ : Hid (0 ≤ Y - X ∧ Y - X < B8)) :
   Calls Tryd.prog 14 #[.agg (fB false (dg X)), .agg (fB true (dg Y))] w fun e w' => e = .returned (.agg (fB (true && decide (Y - X ≠ 0)) (dg (Y - X)))) ∧ Below w.heap.size w w' := by
 have hg1 : sizeR X Y = -1 := by unfold sizeR; rw [if_neg (by omega), if_pos hs]
 clear hs
 unfold fB
 go_enter Tryd.func14, Tryd.ntmps14
 go_wp2_with (fail)
 go_at_call 71
 (with_reducible refine (size_c X Y _ HX HY).mono ?_)
 rintro e w1 ⟨rfl, hb1⟩
 obtain ⟨hc1, hf1⟩ := bcell hb1
 have hz1 := hb1.size
 try simp at hz1
 have z1 : w.heap.size + 1 + 1 + 1 < w1.heap.size := by omega
 rw [hg1]
 go_upto_region 2 with (fail)
 have R2 : w1.heap[w.heap.size]? = some (.cells #[.bool false, .int .u64 (dg (X) 0), .int .u64 (dg (X) 1), .int .u64 (dg (X) 2), .int .u64 (dg (X) 3), .int .u64 (dg (X) 4), .int .u64 (dg (X) 5), .int .u64 (dg (X) 6), .int .u64 (dg (X) 7)] 29 (0, 0)) := (by repeat (first | with_reducible assumption | (with_reducible refine (Below.heap_setCell _ _ _ _ (by first | omega | (simp; done) | (simp; omega))).trans ?_) | (with_reducible refine (heap_dN _ _ _).trans ?_) | (with_reducible refine (heap_dr _ _).trans ?_) | (with_reducible refine (Below.heap_alloc _ _ _ (by first | omega | (simp; done) | (simp; omega))).trans ?_) | (with_reducible refine (hb1.block _ (by first | omega | (simp; done) | (simp; omega))).trans ?_) | (with_reducible exact heap_new' _ _ _ (by first | omega | (simp; done) | (simp; omega)))))
 have R3 : w1.heap[w.heap.size + 1]? = some (.cells #[.bool true, .int .u64 (dg (Y) 0), .int .u64 (dg (Y) 1), .int .u64 (dg (Y) 2), .int .u64 (dg (Y) 3), .int .u64 (dg (Y) 4), .int .u64 (dg (Y) 5), .int .u64 (dg (Y) 6), .int .u64 (dg (Y) 7)] 29 (0, 0)) := (by repeat (first | with_reducible assumption | (with_reducible refine (Below.heap_setCell _ _ _ _ (by first | omega | (simp; done) | (simp; omega))).trans ?_) | (with_reducible refine (heap_dN _ _ _).trans ?_) | (with_reducible refine (heap_dr _ _).trans ?_) | (with_reducible refine (Below.heap_alloc _ _ _ (by first | omega | (simp; done) | (simp; omega))).trans ?_) | (with_reducible refine (hb1.block _ (by first | omega | (simp; done) | (simp; omega))).trans ?_) | (with_reducible exact heap_new' _ _ _ (by first | omega | (simp; done) | (simp; omega)))))
 have R4 : w1.heap[w.heap.size + 1 + 1]? = some (.cells Z9 29 (0, 0)) := (by repeat (first | with_reducible assumption | (with_reducible refine (Below.heap_setCell _ _ _ _ (by first | omega | (simp; done) | (simp; omega))).trans ?_) | (with_reducible refine (heap_dN _ _ _).trans ?_) | (with_reducible refine (heap_dr _ _).trans ?_) | (with_reducible refine (Below.heap_alloc _ _ _ (by first | omega | (simp; done) | (simp; omega))).trans ?_) | (with_reducible refine (hb1.block _ (by first | omega | (simp; done) | (simp; omega))).trans ?_) | (with_reducible exact heap_new' _ _ _ (by first | omega | (simp; done) | (simp; omega)))))
 have R5 : w1.heap[w.heap.size + 1 + 1 + 1]? = some (.cells #[.bool false, .int .u64 0, .int .u64 0, .int .u64 0, .int .u64 0, .int .u64 0, .int .u64 0, .int .u64 0, .int .u64 0] 29 (0, 0)) := (by repeat (first | with_reducible assumption | (with_reducible refine (Below.heap_setCell _ _ _ _ (by first | omega | (simp; done) | (simp; omega))).trans ?_) | (with_reducible refine (heap_dN _ _ _).trans ?_) | (with_reducible refine (heap_dr _ _).trans ?_) | (with_reducible refine (Below.heap_alloc _ _ _ (by first | omega | (simp; done) | (simp; omega))).trans ?_) | (with_reducible refine (hb1.block _ (by first | omega | (simp; done) | (simp; omega))).trans ?_) | (with_reducible exact heap_new' _ _ _ (by first | omega | (simp; done) | (simp; omega)))))
 have HBw : Below w.heap.size w w1 := by repeat (first | with_reducible assumption | with_reducible exact Below.refl _ _ | (with_reducible refine Below.setCell ?_ (by first | omega | (simp; done) | (simp; omega)) _) | (with_reducible refine Below.alloc ?_ (by first | omega | (simp; done) | (simp; omega)) _) | (with_reducible refine Below.drew ?_) | (with_reducible refine Below.trans ?_ (Below.mono hb1 (by first | omega | (simp; done) | (simp; omega)))) | (with_reducible refine below_drewN ?_ _))
 have a0 := cell_of_row _ _ 0 _ _ _ R2
 have a1 := cell_of_row _ _ 1 _ _ _ R2
 have a2 := cell_of_row _ _ 2 _ _ _ R2
 have a3 := cell_of_row _ _ 3 _ _ _ R2
 have a4 := cell_of_row _ _ 4 _ _ _ R2
 have a5 := cell_of_row _ _ 5 _ _ _ R2
 have a6 := cell_of_row _ _ 6 _ _ _ R2
 have a7 := cell_of_row _ _ 7 _ _ _ R2
 have a8 := cell_of_row _ _ 8 _ _ _ R2
 have b0 := cell_of_row _ _ 0 _ _ _ R3
 have b1 := cell_of_row _ _ 1 _ _ _ R3
 have b2 := cell_of_row _ _ 2 _ _ _ R3
 have b3 := cell_of_row _ _ 3 _ _ _ R3
 have b4 := cell_of_row _ _ 4 _ _ _ R3
 have b5 := cell_of_row _ _ 5 _ _ _ R3
 have b6 := cell_of_row _ _ 6 _ _ _ R3
 have b7 := cell_of_row _ _ 7 _ _ _ R3
 have b8 := cell_of_row _ _ 8 _ _ _ R3
 have c0 := cell_of_row _ _ 0 _ _ _ R5
 have c1 := cell_of_row _ _ 1 _ _ _ R5
 have c2 := cell_of_row _ _ 2 _ _ _ R5
 have c3 := cell_of_row _ _ 3 _ _ _ R5
 have c4 := cell_of_row _ _ 4 _ _ _ R5
 have c5 := cell_of_row _ _ 5 _ _ _ R5
 have c6 := cell_of_row _ _ 6 _ _ _ R5
 have c7 := cell_of_row _ _ 7 _ _ _ R5
 have c8 := cell_of_row _ _ 8 _ _ _ R5
 have f0 := row_free R5 0
 have f1 := row_free R5 1
 have f2 := row_free R5 2
 have f3 := row_free R5 3
 have f4 := row_free R5 4
 have f5 := row_free R5 5
 have f6 := row_free R5 6
 have f7 := row_free R5 7
 have f8 := row_free R5 8
 simp only [List.getElem?_toArray, List.getElem?_cons_zero, List.getElem?_cons_succ] at a0 a1 a2 a3 a4 a5 a6 a7 a8 b0 b1 b2 b3 b4 b5 b6 b7 b8 c0 c1 c2 c3 c4 c5 c6 c7 c8
 clear hc1 hf1
 go_region_with (go_at_call 72; (with_reducible refine (less_c Y X _).mono ?_); rintro e w2 ⟨rfl, hb2⟩; obtain ⟨hc2, hf2⟩ := bcell hb2; have hz2 := hb2.size; (try simp at hz2); have z2 : w.heap.size + 1 + 1 + 1 < w2.heap.size := (by omega); have z3 : w.heap.size + 1 + 1 + 1 < w1.heap.size := (by omega); have ec0 := (hc2 _ 0 (show w.heap.size + 1 + 1 + 1 < w1.drew.heap.size from z3)).trans c0; have ef0 := (hf2 _ 0 (show w.heap.size + 1 + 1 + 1 < w1.drew.heap.size from z3)).trans f0; have ec1 := (hc2 _ 1 (show w.heap.size + 1 + 1 + 1 < w1.drew.heap.size from z3)).trans c1; have ef1 := (hf2 _ 1 (show w.heap.size + 1 + 1 + 1 < w1.drew.heap.size from z3)).trans f1; have ec2 := (hc2 _ 2 (show w.heap.size + 1 + 1 + 1 < w1.drew.heap.size from z3)).trans c2; have ef2 := (hf2 _ 2 (show w.heap.size + 1 + 1 + 1 < w1.drew.heap.size from z3)).trans f2; have ec3 := (hc2 _ 3 (show w.heap.size + 1 + 1 + 1 < w1.drew.heap.size from z3)).trans c3; have ef3 := (hf2 _ 3 (show w.heap.size + 1 + 1 + 1 < w1.drew.heap.size from z3)).trans f3; have ec4 := (hc2 _ 4 (show w.heap.size + 1 + 1 + 1 < w1.drew.heap.size from z3)).trans c4; have ef4 := (hf2 _ 4 (show w.heap.size + 1 + 1 + 1 < w1.drew.heap.size from z3)).trans f4; have ec5 := (hc2 _ 5 (show w.heap.size + 1 + 1 + 1 < w1.drew.heap.size from z3)).trans c5; have ef5 := (hf2 _ 5 (show w.heap.size + 1 + 1 + 1 < w1.drew.heap.size from z3)).trans f5; have ec6 := (hc2 _ 6 (show w.heap.size + 1 + 1 + 1 < w1.drew.heap.size from z3)).trans c6; have ef6 := (hf2 _ 6 (show w.heap.size + 1 + 1 + 1 < w1.drew.heap.size from z3)).trans f6; have ec7 := (hc2 _ 7 (show w.heap.size + 1 + 1 + 1 < w1.drew.heap.size from z3)).trans c7; have ef7 := (hf2 _ 7 (show w.heap.size + 1 + 1 + 1 < w1.drew.heap.size from z3)).trans f7; have ec8 := (hc2 _ 8 (show w.heap.size + 1 + 1 + 1 < w1.drew.heap.size from z3)).trans c8; have ef8 := (hf2 _ 8 (show w.heap.size + 1 + 1 + 1 < w1.drew.heap.size from z3)).trans f8; have eb0 := (hc2 _ 0 (show w.heap.size + 1 < w1.drew.heap.size by show w.heap.size + 1 < w1.heap.size; omega)).trans b0; clear hc2 hf2 c0 c1 c2 c3 c4 c5 c6 c7 c8 f0 f1 f2 f3 f4 f5 f6 f7 f8)
 all_goals
   have Q5 := row9' ((hb2.block _ (show w.heap.size + 1 + 1 + 1 < w1.heap.size from z1)).trans R5) (.bool true) (.int .u64 (dg (Y - X) 0)) (.int .u64 (dg (Y - X) 1)) (.int .u64 (dg (Y - X) 2)) (.int .u64 (dg (Y - X) 3)) (.int .u64 (dg (Y - X) 4)) (.int .u64 (dg (Y - X) 5)) (.int .u64 (dg (Y - X) 6)) (.int .u64 (dg (Y - X) 7))
   have Q4 := (heap9 w2 (w.heap.size + 1 + 1) (w.heap.size + 1 + 1 + 1) (by omega) (.bool true) (.int .u64 (dg (Y - X) 0)) (.int .u64 (dg (Y - X) 1)) (.int .u64 (dg (Y - X) 2)) (.int .u64 (dg (Y - X) 3)) (.int .u64 (dg (Y - X) 4)) (.int .u64 (dg (Y - X) 5)) (.int .u64 (dg (Y - X) 6)) (.int .u64 (dg (Y - X) 7))).trans ((hb2.block _ (show w.heap.size + 1 + 1 < w1.heap.size by omega)).trans R4)
   have HB9 := below9 (HBw.drew.trans (Below.mono hb2 (show w.heap.size ≤ w1.heap.size by omega))) (show w.heap.size ≤ w.heap.size + 1 + 1 + 1 by omega) (.bool true) (.int .u64 (dg (Y - X) 0)) (.int .u64 (dg (Y - X) 1)) (.int .u64 (dg (Y - X) 2)) (.int .u64 (dg (Y - X) 3)) (.int .u64 (dg (Y - X) 4)) (.int .u64 (dg (Y - X) 5)) (.int .u64 (dg (Y - X) 6)) (.int .u64 (dg (Y - X) 7))
   clear R2 R3 R4 R5 HBw a0 a1 a2 a3 a4 a5 a6 a7 a8 b0 b1 b2 b3 b4 b5 b6 b7 b8 ec0 ec1 ec2 ec3 ec4 ec5 ec6 ec7 ec8 ef0 ef1 ef2 ef3 ef4 ef5 ef6 ef7 ef8 eb0
   generalize (((((((((w2).setCell ⟨w.heap.size + 1 + 1 + 1, 0, none⟩ (.bool true)).setCell ⟨w.heap.size + 1 + 1 + 1, 1, none⟩ (.int .u64 (dg (Y - X) 0))).setCell ⟨w.heap.size + 1 + 1 + 1, 2, none⟩ (.int .u64 (dg (Y - X) 1))).setCell ⟨w.heap.size + 1 + 1 + 1, 3, none⟩ (.int .u64 (dg (Y - X) 2))).setCell ⟨w.heap.size + 1 + 1 + 1, 4, none⟩ (.int .u64 (dg (Y - X) 3))).setCell ⟨w.heap.size + 1 + 1 + 1, 5, none⟩ (.int .u64 (dg (Y - X) 4))).setCell ⟨w.heap.size + 1 + 1 + 1, 6, none⟩ (.int .u64 (dg (Y - X) 5))).setCell ⟨w.heap.size + 1 + 1 + 1, 7, none⟩ (.int .u64 (dg (Y - X) 6))).setCell ⟨w.heap.size + 1 + 1 + 1, 8, none⟩ (.int .u64 (dg (Y - X) 7)) = w9 at *
   have zz9 : w.heap.size + 1 + 1 + 1 < w9.heap.size := (Array.getElem?_eq_some_iff.1 Q5).1
   have zz8 : w.heap.size + 1 + 1 < w9.heap.size := by omega
   have c0 := cell_of_row _ _ 0 _ _ _ Q5
   have c1 := cell_of_row _ _ 1 _ _ _ Q5
   have c2 := cell_of_row _ _ 2 _ _ _ Q5
   have c3 := cell_of_row _ _ 3 _ _ _ Q5
   have c4 := cell_of_row _ _ 4 _ _ _ Q5
   have c5 := cell_of_row _ _ 5 _ _ _ Q5
   have c6 := cell_of_row _ _ 6 _ _ _ Q5
   have c7 := cell_of_row _ _ 7 _ _ _ Q5
   have c8 := cell_of_row _ _ 8 _ _ _ Q5
   have d0 := cell_of_row _ _ 0 _ _ _ Q4
   have d1 := cell_of_row _ _ 1 _ _ _ Q4
   have d2 := cell_of_row _ _ 2 _ _ _ Q4
   have d3 := cell_of_row _ _ 3 _ _ _ Q4
   have d4 := cell_of_row _ _ 4 _ _ _ Q4
   have d5 := cell_of_row _ _ 5 _ _ _ Q4
   have d6 := cell_of_row _ _ 6 _ _ _ Q4
   have d7 := cell_of_row _ _ 7 _ _ _ Q4
   have d8 := cell_of_row _ _ 8 _ _ _ Q4
   have f0 := row_free Q4 0
   have f1 := row_free Q4 1
   have f2 := row_free Q4 2
   have f3 := row_free Q4 3
   have f4 := row_free Q4 4
   have f5 := row_free Q4 5
   have f6 := row_free Q4 6
   have f7 := row_free Q4 7
   have f8 := row_free Q4 8
   have g0 := row_free Q5 0
   simp only [List.getElem?_toArray, List.getElem?_cons_zero, List.getElem?_cons_succ] at c0 c1 c2 c3 c4 c5 c6 c7 c8 d0 d1 d2 d3 d4 d5 d6 d7 d8
   have HQ := Lib.hid Q4
   clear Q4 Q5
   by_cases hZ : Y - X = 0
   · rw [hZ] at c1 c2 c3 c4 c5 c6 c7 c8
     have HE := Lib.hid hZ
     clear hZ
     go_wp2_with (go_at_call 16; (with_reducible refine (zero_yes _).mono ?_); rintro e wz ⟨rfl, hbz⟩; obtain ⟨hcz, hfz⟩ := bcell hbz; have hzz := hbz.size; (try simp at hzz); have z91 : w.heap.size + 1 + 1 + 1 < wz.heap.size := (by omega); have z92 : w.heap.size + 1 + 1 < wz.heap.size := (by omega))
     exact ret_Add _ _ (w.heap.size + 1 + 1) _ _ _ _ _ _ _ _ _ rfl rfl (row9 (by have hh := HQ.out; exact (by repeat (first | with_reducible assumption | (with_reducible refine (Below.heap_setCell _ _ _ _ (by first | omega | (simp; done) | (simp; omega))).trans ?_) | (with_reducible refine (heap_dN _ _ _).trans ?_) | (with_reducible refine (heap_dr _ _).trans ?_) | (with_reducible refine (Below.heap_alloc _ _ _ (by first | omega | (simp; done) | (simp; omega))).trans ?_) | (with_reducible refine (hbz.block _ (by first | omega | (simp; done) | (simp; omega))).trans ?_) | (with_reducible exact heap_new' _ _ _ (by first | omega | (simp; done) | (simp; omega)))))) _ _ _ _ _ _ _ _ _) ⟨by rw [HE.out]; rfl, by repeat (first | with_reducible assumption | with_reducible exact Below.refl _ _ | (with_reducible refine Below.setCell ?_ (by first | omega | (simp; done) | (simp; omega)) _) | (with_reducible refine Below.alloc ?_ (by first | omega | (simp; done) | (simp; omega)) _) | (with_reducible refine Below.drew ?_) | (with_reducible refine Below.trans ?_ (Below.mono hbz (by first | omega | (simp; done) | (simp; omega)))) | (with_reducible refine below_drewN ?_ _))⟩
   · have HE : Hid (Y - X ≠ 0) := Lib.hid hZ
     clear hZ
     go_wp2_with (go_at_call 16; (with_reducible refine (zero_no _ _ HZ HE).mono ?_); rintro e wz ⟨rfl, hbz⟩; obtain ⟨hcz, hfz⟩ := bcell hbz; have hzz := hbz.size; (try simp at hzz); have z91 : w.heap.size + 1 + 1 + 1 < wz.heap.size := (by omega); have z92 : w.heap.size + 1 + 1 < wz.heap.size := (by omega))
     exact ret_Add _ _ (w.heap.size + 1 + 1) _ _ _ _ _ _ _ _ _ rfl rfl (row9 (by have hh := HQ.out; exact (by repeat (first | with_reducible assumption | (with_reducible refine (Below.heap_setCell _ _ _ _ (by first | omega | (simp; done) | (simp; omega))).trans ?_) | (with_reducible refine (heap_dN _ _ _).trans ?_) | (with_reducible refine (heap_dr _ _).trans ?_) | (with_reducible refine (Below.heap_alloc _ _ _ (by first | omega | (simp; done) | (simp; omega))).trans ?_) | (with_reducible refine (hbz.block _ (by first | omega | (simp; done) | (simp; omega))).trans ?_) | (with_reducible exact heap_new' _ _ _ (by first | omega | (simp; done) | (simp; omega)))))) _ _ _ _ _ _ _ _ _) ⟨by rw [decide_eq_true HE.out]; rfl, by repeat (first | with_reducible assumption | with_reducible exact Below.refl _ _ | (with_reducible refine Below.setCell ?_ (by first | omega | (simp; done) | (simp; omega)) _) | (with_reducible refine Below.alloc ?_ (by first | omega | (simp; done) | (simp; omega)) _) | (with_reducible refine Below.drew ?_) | (with_reducible refine Below.trans ?_ (Below.mono hbz (by first | omega | (simp; done) | (simp; omega)))) | (with_reducible refine below_drewN ?_ _))⟩
end Go.Proofs.YtgondiedehjkhaaDoor
