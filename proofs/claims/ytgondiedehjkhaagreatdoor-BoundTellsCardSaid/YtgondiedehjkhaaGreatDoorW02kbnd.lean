/-
 Numbers of digits: powers of two.
-/
import Derived.Test.YtgondiedehjkhaaGreatDoorBig2bnd
namespace Go.Proofs.YtgondiedehjkhaaGreatDoor
open Go.RowKit Go.Extern.Stop Go.Stop Go.Extern
set_option linter.unusedVariables false
set_option linter.unusedSimpArgs false
set_option maxRecDepth 100000 in
theorem ret_Power (a : Act) (W : World) (g : Nat) (v0 v1 v2 v3 v4 v5 v6 v7 v8 : Value) (ha : a.tmps.getD 2 undef = .pointer (some ⟨g, 0, none⟩)) (hd : a.defers = []) (hR : W.heap[g]? = some (.cells #[v0, v1, v2, v3, v4, v5, v6, v7, v8] 158 (0, 0))) {R : Ending → World → Prop} (h : R (.returned (.agg #[v0, v1, v2, v3, v4, v5, v6, v7, v8])) W) :
   bodyPost Tryz.prog Tryz.f72 R Exit.ret a W := by
 have k0 := cell_of_row _ _ 0 _ _ _ hR
 have k1 := cell_of_row _ _ 1 _ _ _ hR
 have k2 := cell_of_row _ _ 2 _ _ _ hR
 have k3 := cell_of_row _ _ 3 _ _ _ hR
 have k4 := cell_of_row _ _ 4 _ _ _ hR
 have k5 := cell_of_row _ _ 5 _ _ _ hR
 have k6 := cell_of_row _ _ 6 _ _ _ hR
 have k7 := cell_of_row _ _ 7 _ _ _ hR
 have k8 := cell_of_row _ _ 8 _ _ _ hR
 simp only [List.getElem?_toArray, List.getElem?_cons_zero, List.getElem?_cons_succ] at k0 k1 k2 k3 k4 k5 k6 k7 k8
 clear hR
 refine bodyPost_ret (v := .agg #[v0, v1, v2, v3, v4, v5, v6, v7, v8]) ?_ hd h
 have ha2 : a.tmps[2]?.getD undef = .pointer (some ⟨g, 0, none⟩) := by simpa using ha
 clear ha
 simp only [results, Tryz.results72]
 simp [ha2, go_sem, k0, k1, k2, k3, k4, k5, k6, k7, k8]
set_option maxRecDepth 100000 in
set_option maxHeartbeats 4000000 in
theorem power_c (n : Nat) (w : World) (hn : n ≤ 200) : Calls Tryz.prog 72 #[.int .i64 n] w fun e w' => e = .returned (.agg (fB false (dg (2 ^ n)))) ∧ Below w.heap.size w w' := by
 unfold fB
 go_enter Tryz.func72, Tryz.ntmps72
 go_wp2_with (go_at_call 127; (with_reducible refine (one_c _).mono ?_); rintro e w1 ⟨rfl, hb1⟩; obtain ⟨hc1, hf1⟩ := bcell hb1; have hz1 := hb1.size; (try simp at hz1); have z10 : w.heap.size < w1.heap.size := (by omega))
 go_loopw [4] (fun i wr => ∃ k : Nat, k ≤ n ∧ i = .int .i64 k ∧ wr.heap[w1.heap.size]? = some (.cells (fB false (dg (2 ^ k))) 158 (0, 0)) ∧ wr.heap[w.heap.size]? = some (.cells Z9 158 (0, 0)) ∧ Below w.heap.size w wr) (fun i _ => n - (intOf i).toNat)
 case atStart =>
   refine ⟨0, by omega, rfl, ?_, ?_, ?_⟩
   · show _ = some (Obj.cells (fB false (dg 1)) 158 (0, 0))
     unfold fB
     exact (by repeat (first | with_reducible assumption | (with_reducible refine (Below.heap_setCell _ _ _ _ (by first | omega | (simp; done) | (simp; omega))).trans ?_) | (with_reducible refine (heap_dN _ _ _).trans ?_) | (with_reducible refine (heap_dr _ _).trans ?_) | (with_reducible refine (Below.heap_alloc _ _ _ (by first | omega | (simp; done) | (simp; omega))).trans ?_) | (with_reducible refine (hb1.block _ (by first | omega | (simp; done) | (simp; omega))).trans ?_) | (with_reducible exact heap_new' _ _ _ (by first | omega | (simp; done) | (simp; omega)))))
   · exact (by repeat (first | with_reducible assumption | (with_reducible refine (Below.heap_setCell _ _ _ _ (by first | omega | (simp; done) | (simp; omega))).trans ?_) | (with_reducible refine (heap_dN _ _ _).trans ?_) | (with_reducible refine (heap_dr _ _).trans ?_) | (with_reducible refine (Below.heap_alloc _ _ _ (by first | omega | (simp; done) | (simp; omega))).trans ?_) | (with_reducible refine (hb1.block _ (by first | omega | (simp; done) | (simp; omega))).trans ?_) | (with_reducible exact heap_new' _ _ _ (by first | omega | (simp; done) | (simp; omega)))))
   · repeat (first | with_reducible assumption | with_reducible exact Below.refl _ _ | (with_reducible refine Below.setCell ?_ (by first | omega | (simp; done) | (simp; omega)) _) | (with_reducible refine Below.alloc ?_ (by first | omega | (simp; done) | (simp; omega)) _) | (with_reducible refine Below.drew ?_) | (with_reducible refine Below.trans ?_ (Below.mono hb1 (by first | omega | (simp; done) | (simp; omega)))) | (with_reducible refine below_drewN ?_ _))
 case round =>
   obtain ⟨k, hk, rfl, ho, hz, hbw⟩ := hrel
   have zo : w1.heap.size < wr.heap.size := (Array.getElem?_eq_some_iff.1 ho).1
   unfold fB at ho
   have c0 := cell_of_row _ _ 0 _ _ _ ho
   have c1 := cell_of_row _ _ 1 _ _ _ ho
   have c2 := cell_of_row _ _ 2 _ _ _ ho
   have c3 := cell_of_row _ _ 3 _ _ _ ho
   have c4 := cell_of_row _ _ 4 _ _ _ ho
   have c5 := cell_of_row _ _ 5 _ _ _ ho
   have c6 := cell_of_row _ _ 6 _ _ _ ho
   have c7 := cell_of_row _ _ 7 _ _ _ ho
   have c8 := cell_of_row _ _ 8 _ _ _ ho
   have f0 := row_free ho 0
   have f1 := row_free ho 1
   have f2 := row_free ho 2
   have f3 := row_free ho 3
   have f4 := row_free ho 4
   have f5 := row_free ho 5
   have f6 := row_free ho 6
   have f7 := row_free ho 7
   have f8 := row_free ho 8
   simp only [List.getElem?_toArray, List.getElem?_cons_zero, List.getElem?_cons_succ] at c0 c1 c2 c3 c4 c5 c6 c7 c8
   have HO := Lib.hid ho
   have HZ := Lib.hid hz
   clear ho hz
   by_cases hlt : k < n
   · have hsucc : (2 : Int) ^ (k + 1) = 2 * 2 ^ k + 0 := by rw [Int.pow_succ]; omega
     have HS := Lib.hid hsucc
     clear hsucc
     go_wp2_with (go_at_call 122; (with_reducible refine (twice_c (2 ^ k) 0 _ (by omega)).mono ?_); rintro e w2 ⟨rfl, hb2⟩; obtain ⟨hc2, hf2⟩ := bcell hb2; have hz2 := hb2.size; (try simp at hz2); have z2 : w1.heap.size < w2.heap.size := (by omega))
     go_roundw
     case rel =>
       refine ⟨k + 1, by omega, by go_num, ?_, ?_, ?_⟩
       · have hr := row18 ((hb2.block _ zo).trans HO.out) (.int .u64 (dg (2 * 2 ^ k + 0) 0)) (.int .u64 (dg (2 * 2 ^ k + 0) 1)) (.int .u64 (dg (2 * 2 ^ k + 0) 2)) (.int .u64 (dg (2 * 2 ^ k + 0) 3)) (.int .u64 (dg (2 * 2 ^ k + 0) 4)) (.int .u64 (dg (2 * 2 ^ k + 0) 5)) (.int .u64 (dg (2 * 2 ^ k + 0) 6)) (.int .u64 (dg (2 * 2 ^ k + 0) 7))
         rw [HS.out]
         exact hr
       · exact (row18' w2 w.heap.size w1.heap.size (by omega) _ _ _ _ _ _ _ _).trans ((hb2.block _ (by omega)).trans HZ.out)
       · exact below18 (hbw.trans (hb2.mono (by omega))) (by omega) _ _ _ _ _ _ _ _
     case measure => simp [intOf]; omega
   · obtain rfl : k = n := by omega
     clear hlt
     have hzz := HZ.out
     have d0 := cell_of_row _ _ 0 _ _ _ hzz
     have d1 := cell_of_row _ _ 1 _ _ _ hzz
     have d2 := cell_of_row _ _ 2 _ _ _ hzz
     have d3 := cell_of_row _ _ 3 _ _ _ hzz
     have d4 := cell_of_row _ _ 4 _ _ _ hzz
     have d5 := cell_of_row _ _ 5 _ _ _ hzz
     have d6 := cell_of_row _ _ 6 _ _ _ hzz
     have d7 := cell_of_row _ _ 7 _ _ _ hzz
     have d8 := cell_of_row _ _ 8 _ _ _ hzz
     have e0 := row_free hzz 0
     have e1 := row_free hzz 1
     have e2 := row_free hzz 2
     have e3 := row_free hzz 3
     have e4 := row_free hzz 4
     have e5 := row_free hzz 5
     have e6 := row_free hzz 6
     have e7 := row_free hzz 7
     have e8 := row_free hzz 8
     simp only [List.getElem?_toArray, List.getElem?_cons_zero, List.getElem?_cons_succ] at d0 d1 d2 d3 d4 d5 d6 d7 d8
     clear hzz
     go_wp2_with (fail)
     exact ret_Power _ _ w.heap.size _ _ _ _ _ _ _ _ _ rfl rfl (row9 HZ.out _ _ _ _ _ _ _ _ _) ⟨rfl, below9 hbw (by omega) _ _ _ _ _ _ _ _ _⟩
theorem power_b (n : Nat) (z : Int) (w : World) (hn : n ≤ 200) (hz : z = 2 ^ n) : Calls Tryz.prog 72 #[.int .i64 n] w fun e w' => e = .returned (bigV z) ∧ Below w.heap.size w w' := by
 have h := power_c n w hn
 have hp := two_pos n
 rw [show (.agg (fB false (dg (2 ^ n))) : Value) = bigV z by rw [bigV_pos z (by omega), hz]; rfl] at h
 exact h
end Go.Proofs.YtgondiedehjkhaaGreatDoor
