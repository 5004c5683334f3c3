/-
 Numbers of digits: sums with signs.
-/
import Derived.Test.YtgondiedehjkhaaDoorBig2forms
import Derived.Deep.Cut
import Derived.Deep.CutRange
namespace Go.Proofs.YtgondiedehjkhaaDoor
open Go.RowKit Go.Extern.Stop Go.Stop Go.Extern
set_option linter.unusedVariables false
set_option linter.unusedSimpArgs false
set_option maxRecDepth 100000 in
theorem ret_Add (a : Act) (W : World) (g : Nat) (v0 v1 v2 v3 v4 v5 v6 v7 v8 : Value) (ha : a.tmps.getD 4 undef = .pointer (some ⟨g, 0, none⟩)) (hd : a.defers = []) (hR : W.heap[g]? = some (.cells #[v0, v1, v2, v3, v4, v5, v6, v7, v8] 29 (0, 0))) {R : Ending → World → Prop} (h : R (.returned (.agg #[v0, v1, v2, v3, v4, v5, v6, v7, v8])) W) :
   bodyPost Tryd.prog Tryd.f14 R Exit.ret a W := by
 have k0 := cell_of_row _ _ 0 _ _ _ hR
 have k1 := cell_of_row _ _ 1 _ _ _ hR
 have k2 := cell_of_row _ _ 2 _ _ _ hR
 have k3 := cell_of_row _ _ 3 _ _ _ hR
 have k4 := cell_of_row _ _ 4 _ _ _ hR
 have k5 := cell_of_row _ _ 5 _ _ _ hR
 have k6 := cell_of_row _ _ 6 _ _ _ hR
 have k7 := cell_of_row _ _ 7 _ _ _ hR
 have k8 := cell_of_row _ _ 8 _ _ _ hR
 simp only [List.getElem?_toArray, List.getElem?_cons_zero, List.getElem?_cons_succ] at k0 k1 k2 k3 k4 k5 k6 k7 k8
 clear hR
 refine bodyPost_ret (v := .agg #[v0, v1, v2, v3, v4, v5, v6, v7, v8]) ?_ hd h
 have ha2 : a.tmps[4]?.getD undef = .pointer (some ⟨g, 0, none⟩) := by simpa using ha
 clear ha
 simp only [results, Tryd.results14]
 simp [ha2, go_sem, k0, k1, k2, k3, k4, k5, k6, k7, k8]
set_option maxRecDepth 100000 in
set_option maxHeartbeats 4000000 in
theorem add_same_true (X Y : Int) (w : World)  (HZ : Hid (0 ≤ X + Y ∧ X + Y < B8)) :
   Calls Tryd.prog 14 #[.agg (fB true (dg X)), .agg (fB true (dg Y))] w fun e w' => e = .returned (.agg (fB (true && decide (X + Y ≠ 0)) (dg (X + Y)))) ∧ Below w.heap.size w w' := by
 unfold fB
 go_enter Tryd.func14, Tryd.ntmps14
 go_wp2_with (fail)
 go_at_call 67
 (with_reducible refine (plus_c X Y _).mono ?_)
 rintro e w1 ⟨rfl, hb1⟩
 obtain ⟨hc1, hf1⟩ := bcell hb1
 have hz1 := hb1.size
 try simp at hz1
 have z1 : w.heap.size + 1 + 1 + 1 < w1.heap.size := by omega
 go_upto_region 7 with (fail)
 have R5 : w1.heap[w.heap.size + 1 + 1 + 1]? = some (.cells #[.bool true, .int .u64 0, .int .u64 0, .int .u64 0, .int .u64 0, .int .u64 0, .int .u64 0, .int .u64 0, .int .u64 0] 29 (0, 0)) := (by repeat (first | with_reducible assumption | (with_reducible refine (Below.heap_setCell _ _ _ _ (by first | omega | (simp; done) | (simp; omega))).trans ?_) | (with_reducible refine (heap_dN _ _ _).trans ?_) | (with_reducible refine (heap_dr _ _).trans ?_) | (with_reducible refine (Below.heap_alloc _ _ _ (by first | omega | (simp; done) | (simp; omega))).trans ?_) | (with_reducible refine (hb1.block _ (by first | omega | (simp; done) | (simp; omega))).trans ?_) | (with_reducible exact heap_new' _ _ _ (by first | omega | (simp; done) | (simp; omega)))))
 have R4 : w1.heap[w.heap.size + 1 + 1]? = some (.cells Z9 29 (0, 0)) := (by repeat (first | with_reducible assumption | (with_reducible refine (Below.heap_setCell _ _ _ _ (by first | omega | (simp; done) | (simp; omega))).trans ?_) | (with_reducible refine (heap_dN _ _ _).trans ?_) | (with_reducible refine (heap_dr _ _).trans ?_) | (with_reducible refine (Below.heap_alloc _ _ _ (by first | omega | (simp; done) | (simp; omega))).trans ?_) | (with_reducible refine (hb1.block _ (by first | omega | (simp; done) | (simp; omega))).trans ?_) | (with_reducible exact heap_new' _ _ _ (by first | omega | (simp; done) | (simp; omega)))))
 have HBw : Below w.heap.size w w1 := by repeat (first | with_reducible assumption | with_reducible exact Below.refl _ _ | (with_reducible refine Below.setCell ?_ (by first | omega | (simp; done) | (simp; omega)) _) | (with_reducible refine Below.alloc ?_ (by first | omega | (simp; done) | (simp; omega)) _) | (with_reducible refine Below.drew ?_) | (with_reducible refine Below.trans ?_ (Below.mono hb1 (by first | omega | (simp; done) | (simp; omega)))) | (with_reducible refine below_drewN ?_ _))
 have Q5 := row18 R5 (.int .u64 (dg (X + Y) 0)) (.int .u64 (dg (X + Y) 1)) (.int .u64 (dg (X + Y) 2)) (.int .u64 (dg (X + Y) 3)) (.int .u64 (dg (X + Y) 4)) (.int .u64 (dg (X + Y) 5)) (.int .u64 (dg (X + Y) 6)) (.int .u64 (dg (X + Y) 7))
 have Q4 := (row18' w1 (w.heap.size + 1 + 1) (w.heap.size + 1 + 1 + 1) (by omega) (.int .u64 (dg (X + Y) 0)) (.int .u64 (dg (X + Y) 1)) (.int .u64 (dg (X + Y) 2)) (.int .u64 (dg (X + Y) 3)) (.int .u64 (dg (X + Y) 4)) (.int .u64 (dg (X + Y) 5)) (.int .u64 (dg (X + Y) 6)) (.int .u64 (dg (X + Y) 7))).trans R4
 have HB9 := below18 HBw (show w.heap.size ≤ w.heap.size + 1 + 1 + 1 by omega) (.int .u64 (dg (X + Y) 0)) (.int .u64 (dg (X + Y) 1)) (.int .u64 (dg (X + Y) 2)) (.int .u64 (dg (X + Y) 3)) (.int .u64 (dg (X + Y) 4)) (.int .u64 (dg (X + Y) 5)) (.int .u64 (dg (X + Y) 6)) (.int .u64 (dg (X + Y) 7))
 clear R5 R4 HBw
 generalize ((((((((w1).setCell ⟨w.heap.size + 1 + 1 + 1, 1, none⟩ (.int .u64 (dg (X + Y) 0))).setCell ⟨w.heap.size + 1 + 1 + 1, 2, none⟩ (.int .u64 (dg (X + Y) 1))).setCell ⟨w.heap.size + 1 + 1 + 1, 3, none⟩ (.int .u64 (dg (X + Y) 2))).setCell ⟨w.heap.size + 1 + 1 + 1, 4, none⟩ (.int .u64 (dg (X + Y) 3))).setCell ⟨w.heap.size + 1 + 1 + 1, 5, none⟩ (.int .u64 (dg (X + Y) 4))).setCell ⟨w.heap.size + 1 + 1 + 1, 6, none⟩ (.int .u64 (dg (X + Y) 5))).setCell ⟨w.heap.size + 1 + 1 + 1, 7, none⟩ (.int .u64 (dg (X + Y) 6))).setCell ⟨w.heap.size + 1 + 1 + 1, 8, none⟩ (.int .u64 (dg (X + Y) 7)) = w9 at *
 clear hc1 hf1
 have zz9 : w.heap.size + 1 + 1 + 1 < w9.heap.size := (Array.getElem?_eq_some_iff.1 Q5).1
 have zz8 : w.heap.size + 1 + 1 < w9.heap.size := by omega
 have c0 := cell_of_row _ _ 0 _ _ _ Q5
 have c1 := cell_of_row _ _ 1 _ _ _ Q5
 have c2 := cell_of_row _ _ 2 _ _ _ Q5
 have c3 := cell_of_row _ _ 3 _ _ _ Q5
 have c4 := cell_of_row _ _ 4 _ _ _ Q5
 have c5 := cell_of_row _ _ 5 _ _ _ Q5
 have c6 := cell_of_row _ _ 6 _ _ _ Q5
 have c7 := cell_of_row _ _ 7 _ _ _ Q5
 have c8 := cell_of_row _ _ 8 _ _ _ Q5
 have d0 := cell_of_row _ _ 0 _ _ _ Q4
 have d1 := cell_of_row _ _ 1 _ _ _ Q4
 have d2 := cell_of_row _ _ 2 _ _ _ Q4
 have d3 := cell_of_row _ _ 3 _ _ _ Q4
 have d4 := cell_of_row _ _ 4 _ _ _ Q4
 have d5 := cell_of_row _ _ 5 _ _ _ Q4
 have d6 := cell_of_row _ _ 6 _ _ _ Q4
 have d7 := cell_of_row _ _ 7 _ _ _ Q4
 have d8 := cell_of_row _ _ 8 _ _ _ Q4
 have f0 := row_free Q4 0
 have f1 := row_free Q4 1
 have f2 := row_free Q4 2
 have f3 := row_free Q4 3
 have f4 := row_free Q4 4
 have f5 := row_free Q4 5
 have f6 := row_free Q4 6
 have f7 := row_free Q4 7
 have f8 := row_free Q4 8
 have g0 := row_free Q5 0
 simp only [List.getElem?_toArray, List.getElem?_cons_zero, List.getElem?_cons_succ] at c0 c1 c2 c3 c4 c5 c6 c7 c8 d0 d1 d2 d3 d4 d5 d6 d7 d8
 have HQ := Lib.hid Q4
 clear Q4 Q5
 by_cases hZ : X + Y = 0
 · rw [hZ] at c1 c2 c3 c4 c5 c6 c7 c8
   have HE := Lib.hid hZ
   clear hZ
   go_wp2_with (go_at_call 16; (with_reducible refine (zero_yes _).mono ?_); rintro e wz ⟨rfl, hbz⟩; obtain ⟨hcz, hfz⟩ := bcell hbz; have hzz := hbz.size; (try simp at hzz); have z91 : w.heap.size + 1 + 1 + 1 < wz.heap.size := (by omega); have z92 : w.heap.size + 1 + 1 < wz.heap.size := (by omega))
   exact ret_Add _ _ (w.heap.size + 1 + 1) _ _ _ _ _ _ _ _ _ rfl rfl (row9 (by have hh := HQ.out; exact (by repeat (first | with_reducible assumption | (with_reducible refine (Below.heap_setCell _ _ _ _ (by first | omega | (simp; done) | (simp; omega))).trans ?_) | (with_reducible refine (heap_dN _ _ _).trans ?_) | (with_reducible refine (heap_dr _ _).trans ?_) | (with_reducible refine (Below.heap_alloc _ _ _ (by first | omega | (simp; done) | (simp; omega))).trans ?_) | (with_reducible refine (hbz.block _ (by first | omega | (simp; done) | (simp; omega))).trans ?_) | (with_reducible exact heap_new' _ _ _ (by first | omega | (simp; done) | (simp; omega)))))) _ _ _ _ _ _ _ _ _) ⟨by rw [HE.out]; rfl, by repeat (first | with_reducible assumption | with_reducible exact Below.refl _ _ | (with_reducible refine Below.setCell ?_ (by first | omega | (simp; done) | (simp; omega)) _) | (with_reducible refine Below.alloc ?_ (by first | omega | (simp; done) | (simp; omega)) _) | (with_reducible refine Below.drew ?_) | (with_reducible refine Below.trans ?_ (Below.mono hbz (by first | omega | (simp; done) | (simp; omega)))) | (with_reducible refine below_drewN ?_ _))⟩
 · have HE : Hid (X + Y ≠ 0) := Lib.hid hZ
   clear hZ
   go_wp2_with (go_at_call 16; (with_reducible refine (zero_no _ _ HZ HE).mono ?_); rintro e wz ⟨rfl, hbz⟩; obtain ⟨hcz, hfz⟩ := bcell hbz; have hzz := hbz.size; (try simp at hzz); have z91 : w.heap.size + 1 + 1 + 1 < wz.heap.size := (by omega); have z92 : w.heap.size + 1 + 1 < wz.heap.size := (by omega))
   exact ret_Add _ _ (w.heap.size + 1 + 1) _ _ _ _ _ _ _ _ _ rfl rfl (row9 (by have hh := HQ.out; exact (by repeat (first | with_reducible assumption | (with_reducible refine (Below.heap_setCell _ _ _ _ (by first | omega | (simp; done) | (simp; omega))).trans ?_) | (with_reducible refine (heap_dN _ _ _).trans ?_) | (with_reducible refine (heap_dr _ _).trans ?_) | (with_reducible refine (Below.heap_alloc _ _ _ (by first | omega | (simp; done) | (simp; omega))).trans ?_) | (with_reducible refine (hbz.block _ (by first | omega | (simp; done) | (simp; omega))).trans ?_) | (with_reducible exact heap_new' _ _ _ (by first | omega | (simp; done) | (simp; omega)))))) _ _ _ _ _ _ _ _ _) ⟨by rw [decide_eq_true HE.out]; rfl, by repeat (first | with_reducible assumption | with_reducible exact Below.refl _ _ | (with_reducible refine Below.setCell ?_ (by first | omega | (simp; done) | (simp; omega)) _) | (with_reducible refine Below.alloc ?_ (by first | omega | (simp; done) | (simp; omega)) _) | (with_reducible refine Below.drew ?_) | (with_reducible refine Below.trans ?_ (Below.mono hbz (by first | omega | (simp; done) | (simp; omega)))) | (with_reducible refine below_drewN ?_ _))⟩
end Go.Proofs.YtgondiedehjkhaaDoor
