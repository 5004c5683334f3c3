/-
 Numbers of digits: division of a number below 0.
-/
import Derived.Test.YtgondiedehjkhaaDoorW02oforms
import Derived.Test.YtgondiedehjkhaaDoorW02pforms
namespace Go.Proofs.YtgondiedehjkhaaDoor
open Go.RowKit Go.Extern.Stop Go.Stop Go.Extern
set_option linter.unusedVariables false
set_option linter.unusedSimpArgs false
theorem DRows.putb {w : World} {s : Bool} {X D : Int} {b : Bool} {q r : Int} {wr : World} (h : DRows w s X D b q r wr) (c : Bool) : DRows w s X D c q r (wr.setCell ⟨w.heap.size + 1 + 1 + 1 + 1, 0, none⟩ (.bool c)) := by
 have z := h.size
 obtain ⟨h0, h1, h2, h3, h4, h5, hB⟩ := h
 exact ⟨(Below.heap_setCell _ _ _ _ (by dsimp only; omega)).trans h0, (Below.heap_setCell _ _ _ _ (by dsimp only; omega)).trans h1, (Below.heap_setCell _ _ _ _ (by dsimp only; omega)).trans h2, (Below.heap_setCell _ _ _ _ (by dsimp only; omega)).trans h3, (set_row h4 0 (.bool c)).trans rfl, (Below.heap_setCell _ _ _ _ (by dsimp only; omega)).trans h5, hB.setCell (by dsimp only; omega) _⟩
theorem DRows.putq9 {w : World} {s : Bool} {X D : Int} {b : Bool} {q r : Int} {wr : World} (h : DRows w s X D b q r wr) (c : Bool) (z : Int) : DRows w s X D c z r ((((((((((wr).setCell ⟨w.heap.size + 1 + 1 + 1 + 1, 0, none⟩ (.bool c)).setCell ⟨w.heap.size + 1 + 1 + 1 + 1, 1, none⟩ (.int .u64 (dg (z) 0))).setCell ⟨w.heap.size + 1 + 1 + 1 + 1, 2, none⟩ (.int .u64 (dg (z) 1))).setCell ⟨w.heap.size + 1 + 1 + 1 + 1, 3, none⟩ (.int .u64 (dg (z) 2))).setCell ⟨w.heap.size + 1 + 1 + 1 + 1, 4, none⟩ (.int .u64 (dg (z) 3))).setCell ⟨w.heap.size + 1 + 1 + 1 + 1, 5, none⟩ (.int .u64 (dg (z) 4))).setCell ⟨w.heap.size + 1 + 1 + 1 + 1, 6, none⟩ (.int .u64 (dg (z) 5))).setCell ⟨w.heap.size + 1 + 1 + 1 + 1, 7, none⟩ (.int .u64 (dg (z) 6))).setCell ⟨w.heap.size + 1 + 1 + 1 + 1, 8, none⟩ (.int .u64 (dg (z) 7))) := by
 obtain ⟨h0, h1, h2, h3, h4, h5, hB⟩ := h
 unfold fB at h4
 exact ⟨(heap9d wr _ _ (by omega) _ _ _ _ _ _ _ _ _).trans h0, (heap9d wr _ _ (by omega) _ _ _ _ _ _ _ _ _).trans h1, (heap9d wr _ _ (by omega) _ _ _ _ _ _ _ _ _).trans h2, (heap9d wr _ _ (by omega) _ _ _ _ _ _ _ _ _).trans h3, row9' h4 _ _ _ _ _ _ _ _ _, (heap9d wr _ _ (by omega) _ _ _ _ _ _ _ _ _).trans h5, below9 hB (by omega) _ _ _ _ _ _ _ _ _⟩
theorem DRows.drew {w : World} {s : Bool} {X D : Int} {b : Bool} {q r : Int} {wr : World} (h : DRows w s X D b q r wr) : DRows w s X D b q r wr.drew := by
 obtain ⟨h0, h1, h2, h3, h4, h5, hB⟩ := h
 exact ⟨h0, h1, h2, h3, h4, h5, hB.drew⟩
theorem DRows.q9 {w : World} {s : Bool} {X D : Int} {b : Bool} {q r : Int} {wr : World} (h : DRows w s X D b q r wr) : wr.cell? ⟨w.heap.size + 1 + 1 + 1 + 1, 0, none⟩ = some (.bool b) ∧ wr.frozen? ⟨w.heap.size + 1 + 1 + 1 + 1, 0, none⟩ = false := by
 have hR := h.2.2.2.2.1
 exact ⟨(cell_of_row _ _ 0 _ _ _ hR).trans rfl, row_free hR 0⟩
theorem DRows.x9 {w : World} {s : Bool} {X D : Int} {b : Bool} {q r : Int} {wr : World} (h : DRows w s X D b q r wr) : wr.cell? ⟨w.heap.size, 0, none⟩ = some (.bool s) := by
 have hR := h.1
 exact (cell_of_row _ _ 0 _ _ _ hR).trans rfl
theorem add_m1_true (Q : Int) (w : World) (h0 : 0 ≤ Q) (h1 : Q + 1 < B8) : Calls Tryd.prog 14 #[.agg #[.bool true, .int .u64 (dg (Q) 0), .int .u64 (dg (Q) 1), .int .u64 (dg (Q) 2), .int .u64 (dg (Q) 3), .int .u64 (dg (Q) 4), .int .u64 (dg (Q) 5), .int .u64 (dg (Q) 6), .int .u64 (dg (Q) 7)], bigV (-1)] w fun e w' => e = .returned (.agg #[.bool true, .int .u64 (dg (Q + 1) 0), .int .u64 (dg (Q + 1) 1), .int .u64 (dg (Q + 1) 2), .int .u64 (dg (Q + 1) 3), .int .u64 (dg (Q + 1) 4), .int .u64 (dg (Q + 1) 5), .int .u64 (dg (Q + 1) 6), .int .u64 (dg (Q + 1) 7)]) ∧ Below w.heap.size w w' := by
 rw [bigV_neg (-1) 1 (by omega) (by omega)]
 refine (add_same_true Q 1 w (Lib.hid ⟨by omega, h1⟩)).mono ?_
 rintro e w' ⟨rfl, hb⟩
 exact ⟨by rw [decide_eq_true (show Q + 1 ≠ 0 by omega)]; rfl, hb⟩
theorem add_m1_false (w : World) : Calls Tryd.prog 14 #[.agg #[.bool false, .int .u64 (dg (0) 0), .int .u64 (dg (0) 1), .int .u64 (dg (0) 2), .int .u64 (dg (0) 3), .int .u64 (dg (0) 4), .int .u64 (dg (0) 5), .int .u64 (dg (0) 6), .int .u64 (dg (0) 7)], bigV (-1)] w fun e w' => e = .returned (.agg #[.bool true, .int .u64 (dg (1) 0), .int .u64 (dg (1) 1), .int .u64 (dg (1) 2), .int .u64 (dg (1) 3), .int .u64 (dg (1) 4), .int .u64 (dg (1) 5), .int .u64 (dg (1) 6), .int .u64 (dg (1) 7)]) ∧ Below w.heap.size w w' := by
 rw [bigV_neg (-1) 1 (by omega) (by omega)]
 refine (add_less_false 0 1 w (Lib.hid ⟨by omega, by unfold B8; omega⟩) (Lib.hid ⟨by omega, by unfold B8; omega⟩) (by omega) (Lib.hid ⟨by omega, by unfold B8; omega⟩)).mono ?_
 rintro e w' ⟨rfl, hb⟩
 exact ⟨by rw [show (1 : Int) - 0 = 1 by omega, decide_eq_true (show (1 : Int) ≠ 0 by omega)]; rfl, hb⟩
set_option maxRecDepth 100000 in
set_option maxHeartbeats 8000000 in
theorem div_neg_N0 (X D : Int) (w : World) (hX0 : 0 ≤ X) (hX1 : X < B8) (hD0 : 0 < D) (hD1 : D ≤ 57896044618658097711785492504343953926634992332820282019728792003956564819968) (HM : Hid (X % D = 0)) (HQ : Hid (X / D ≠ 0)) :
   Calls Tryd.prog 153 #[.agg (fB true (dg X)), .agg (fB false (dg D))] w fun e w' => e = .returned (.tuple #[.agg (fB true (dg (X / D))), .agg (fB false (dg (X % D)))]) ∧ Below w.heap.size w w' := by
 unfold fB
 go_enter Tryd.func153, Tryd.ntmps153
 go_wp2_with (fail)
 go_loopw [8] (fun i wr => ∃ n : Nat, n ≤ 256 ∧ i = .int .i64 ((n : Int) - 1) ∧ DRows w true X D false (X / 2 ^ n / D) (X / 2 ^ n % D) wr) (fun i _ => (intOf i + 1).toNat)
 case atStart =>
   refine ⟨256, by omega, rfl, ?_⟩
   rw [(div_start X D hX0 hX1).1, (div_start X D hX0 hX1).2]
   unfold DRows
   rw [fB_zero]
   unfold fB
   refine ⟨?_, ?_, ?_, ?_, ?_, ?_, by repeat (first | with_reducible assumption | with_reducible exact Below.refl _ _ | (with_reducible refine Below.setCell ?_ (by first | omega | (simp; done) | (simp; omega)) _) | (with_reducible refine Below.alloc ?_ (by first | omega | (simp; done) | (simp; omega)) _) | (with_reducible refine Below.drew ?_) | (with_reducible refine below_drewN ?_ _))⟩ <;> (repeat (first | with_reducible assumption | (with_reducible refine (Below.heap_setCell _ _ _ _ (by first | omega | (simp; done) | (simp; omega))).trans ?_) | (with_reducible refine (heap_dN _ _ _).trans ?_) | (with_reducible refine (heap_dr _ _).trans ?_) | (with_reducible refine (Below.heap_alloc _ _ _ (by first | omega | (simp; done) | (simp; omega))).trans ?_) | (with_reducible exact heap_new' _ _ _ (by first | omega | (simp; done) | (simp; omega)))))
 case round =>
   obtain ⟨n0, hn, rfl, HR⟩ := hrel
   rcases n0 with _ | n
   · simp only [Int.natCast_zero, Int.zero_sub]
     rw [show X / 2 ^ 0 = X by simp] at HR
     rw [HM.out] at HR
     obtain ⟨Q, hQ⟩ : ∃ Q, Q = X / D := ⟨_, rfl⟩
     rw [← hQ] at HR
     have HQE := Lib.hid hQ
     have HQN : Hid (Q ≠ 0) := Lib.hid (by rw [hQ]; exact HQ.out)
     have HQR : Hid (0 ≤ Q ∧ Q < B8) := Lib.hid (by rw [hQ]; exact ⟨Int.ediv_nonneg hX0 (by omega), Int.lt_of_le_of_lt (Int.ediv_le_self D hX0) hX1⟩)
     clear hQ
     have zr := HR.size
     have x0 := HR.x9
     have zb0_wr : w.heap.size < wr.heap.size := by have := HR.size; omega
     have zb1_wr : w.heap.size + 1 < wr.heap.size := by have := HR.size; omega
     have zb2_wr : w.heap.size + 1 + 1 < wr.heap.size := by have := HR.size; omega
     have zb3_wr : w.heap.size + 1 + 1 + 1 < wr.heap.size := by have := HR.size; omega
     have zb4_wr : w.heap.size + 1 + 1 + 1 + 1 < wr.heap.size := by have := HR.size; omega
     have zb5_wr : w.heap.size + 1 + 1 + 1 + 1 + 1 < wr.heap.size := by have := HR.size; omega
     obtain ⟨q0, qf0⟩ := HR.q9
     obtain ⟨q1, q2, q3, q4, q5, q6, q7, q8⟩ := HR.qc
     obtain ⟨qf1, qf2, qf3, qf4, qf5, qf6, qf7, qf8⟩ := HR.qf
     go_wp2_with (fail)
     go_at_call 16
     (with_reducible refine (zero_no Q _ HQR HQN).mono ?_)
     rintro e w5 ⟨rfl, hb5⟩
     obtain ⟨hc5, hf5⟩ := bcell hb5
     have hz5 := hb5.size
     try simp at hz5
     go_upto_region 14 with (fail)
     have HR5 := (HR.step hb5).putb true
     clear x0 hc5 hf5 HR
     clear q0 qf0 q1 qf1 q2 qf2 q3 qf3 q4 qf4 q5 qf5 q6 qf6 q7 qf7 q8 qf8
     generalize (w5).setCell ⟨w.heap.size + 1 + 1 + 1 + 1, 0, none⟩ (.bool true) = u5 at *
     have HR := HR5
     clear HR5
     have zb0_u5 : w.heap.size < u5.heap.size := by have := HR.size; omega
     have zb1_u5 : w.heap.size + 1 < u5.heap.size := by have := HR.size; omega
     have zb2_u5 : w.heap.size + 1 + 1 < u5.heap.size := by have := HR.size; omega
     have zb3_u5 : w.heap.size + 1 + 1 + 1 < u5.heap.size := by have := HR.size; omega
     have zb4_u5 : w.heap.size + 1 + 1 + 1 + 1 < u5.heap.size := by have := HR.size; omega
     have zb5_u5 : w.heap.size + 1 + 1 + 1 + 1 + 1 < u5.heap.size := by have := HR.size; omega
     obtain ⟨rc0, rc1, rc2, rc3, rc4, rc5, rc6, rc7⟩ := HR.rc
     go_wp2_with (fail)
     go_at_call 16
     (with_reducible refine (zero_yes _).mono ?_)
     rintro e w6 ⟨rfl, hb6⟩
     obtain ⟨hc6, hf6⟩ := bcell hb6
     have hz6 := hb6.size
     try simp at hz6
     go_upto_region 17 with (fail)
     have HR6 := HR.step hb6
     clear hc6 hf6 HR
     clear rc0 rc1 rc2 rc3 rc4 rc5 rc6 rc7
     have HR := HR6
     clear HR6
     have zr := HR.size
     obtain ⟨Q0, Q1, Q2, Q3, Q4, Q5, HB⟩ := HR
     unfold fB at Q4 Q5
     have q0 := cell_of_row _ _ 0 _ _ _ Q4
     have q1 := cell_of_row _ _ 1 _ _ _ Q4
     have q2 := cell_of_row _ _ 2 _ _ _ Q4
     have q3 := cell_of_row _ _ 3 _ _ _ Q4
     have q4 := cell_of_row _ _ 4 _ _ _ Q4
     have q5 := cell_of_row _ _ 5 _ _ _ Q4
     have q6 := cell_of_row _ _ 6 _ _ _ Q4
     have q7 := cell_of_row _ _ 7 _ _ _ Q4
     have q8 := cell_of_row _ _ 8 _ _ _ Q4
     have r0 := cell_of_row _ _ 0 _ _ _ Q5
     have r1 := cell_of_row _ _ 1 _ _ _ Q5
     have r2 := cell_of_row _ _ 2 _ _ _ Q5
     have r3 := cell_of_row _ _ 3 _ _ _ Q5
     have r4 := cell_of_row _ _ 4 _ _ _ Q5
     have r5 := cell_of_row _ _ 5 _ _ _ Q5
     have r6 := cell_of_row _ _ 6 _ _ _ Q5
     have r7 := cell_of_row _ _ 7 _ _ _ Q5
     have r8 := cell_of_row _ _ 8 _ _ _ Q5
     have t0 := cell_of_row _ _ 0 _ _ _ Q2
     have t1 := cell_of_row _ _ 1 _ _ _ Q2
     have t2 := cell_of_row _ _ 2 _ _ _ Q2
     have t3 := cell_of_row _ _ 3 _ _ _ Q2
     have t4 := cell_of_row _ _ 4 _ _ _ Q2
     have t5 := cell_of_row _ _ 5 _ _ _ Q2
     have t6 := cell_of_row _ _ 6 _ _ _ Q2
     have t7 := cell_of_row _ _ 7 _ _ _ Q2
     have t8 := cell_of_row _ _ 8 _ _ _ Q2
     have u0 := cell_of_row _ _ 0 _ _ _ Q3
     have u1 := cell_of_row _ _ 1 _ _ _ Q3
     have u2 := cell_of_row _ _ 2 _ _ _ Q3
     have u3 := cell_of_row _ _ 3 _ _ _ Q3
     have u4 := cell_of_row _ _ 4 _ _ _ Q3
     have u5 := cell_of_row _ _ 5 _ _ _ Q3
     have u6 := cell_of_row _ _ 6 _ _ _ Q3
     have u7 := cell_of_row _ _ 7 _ _ _ Q3
     have u8 := cell_of_row _ _ 8 _ _ _ Q3
     have tf0 := row_free Q2 0
     have tf1 := row_free Q2 1
     have tf2 := row_free Q2 2
     have tf3 := row_free Q2 3
     have tf4 := row_free Q2 4
     have tf5 := row_free Q2 5
     have tf6 := row_free Q2 6
     have tf7 := row_free Q2 7
     have tf8 := row_free Q2 8
     have uf0 := row_free Q3 0
     have uf1 := row_free Q3 1
     have uf2 := row_free Q3 2
     have uf3 := row_free Q3 3
     have uf4 := row_free Q3 4
     have uf5 := row_free Q3 5
     have uf6 := row_free Q3 6
     have uf7 := row_free Q3 7
     have uf8 := row_free Q3 8
     simp only [List.getElem?_toArray, List.getElem?_cons_zero, List.getElem?_cons_succ] at q0 q1 q2 q3 q4 q5 q6 q7 q8 r0 r1 r2 r3 r4 r5 r6 r7 r8 t0 t1 t2 t3 t4 t5 t6 t7 t8 u0 u1 u2 u3 u4 u5 u6 u7 u8
     have P2 := Lib.hid Q2
     have P3 := Lib.hid Q3
     have PB := Lib.hid HB
     clear Q0 Q1 Q2 Q3 Q4 Q5 HB
     go_region
     have J2 := row9' P2.out (.bool true) (.int .u64 (dg (Q) 0)) (.int .u64 (dg (Q) 1)) (.int .u64 (dg (Q) 2)) (.int .u64 (dg (Q) 3)) (.int .u64 (dg (Q) 4)) (.int .u64 (dg (Q) 5)) (.int .u64 (dg (Q) 6)) (.int .u64 (dg (Q) 7))
     have J3 := row9' ((heap9d w6 (w.heap.size + 1 + 1 + 1) (w.heap.size + 1 + 1) (by omega) (.bool true) (.int .u64 (dg (Q) 0)) (.int .u64 (dg (Q) 1)) (.int .u64 (dg (Q) 2)) (.int .u64 (dg (Q) 3)) (.int .u64 (dg (Q) 4)) (.int .u64 (dg (Q) 5)) (.int .u64 (dg (Q) 6)) (.int .u64 (dg (Q) 7))).trans P3.out) (.bool false) (.int .u64 (dg (0) 0)) (.int .u64 (dg (0) 1)) (.int .u64 (dg (0) 2)) (.int .u64 (dg (0) 3)) (.int .u64 (dg (0) 4)) (.int .u64 (dg (0) 5)) (.int .u64 (dg (0) 6)) (.int .u64 (dg (0) 7))
     have J4 := (heap9d _ (w.heap.size + 1 + 1) (w.heap.size + 1 + 1 + 1) (by omega) (.bool false) (.int .u64 (dg (0) 0)) (.int .u64 (dg (0) 1)) (.int .u64 (dg (0) 2)) (.int .u64 (dg (0) 3)) (.int .u64 (dg (0) 4)) (.int .u64 (dg (0) 5)) (.int .u64 (dg (0) 6)) (.int .u64 (dg (0) 7))).trans J2
     have JB := (below9 (below9 PB.out (show w.heap.size ≤ w.heap.size + 1 + 1 by omega) (.bool true) (.int .u64 (dg (Q) 0)) (.int .u64 (dg (Q) 1)) (.int .u64 (dg (Q) 2)) (.int .u64 (dg (Q) 3)) (.int .u64 (dg (Q) 4)) (.int .u64 (dg (Q) 5)) (.int .u64 (dg (Q) 6)) (.int .u64 (dg (Q) 7))) (show w.heap.size ≤ w.heap.size + 1 + 1 + 1 by omega) (.bool false) (.int .u64 (dg (0) 0)) (.int .u64 (dg (0) 1)) (.int .u64 (dg (0) 2)) (.int .u64 (dg (0) 3)) (.int .u64 (dg (0) 4)) (.int .u64 (dg (0) 5)) (.int .u64 (dg (0) 6)) (.int .u64 (dg (0) 7))).drew
     replace J4 := (heap_dr _ _).trans J4
     replace J3 := (heap_dr _ _).trans J3
     clear J2 P2 P3 PB q0 q1 q2 q3 q4 q5 q6 q7 q8 r0 r1 r2 r3 r4 r5 r6 r7 r8 t0 t1 t2 t3 t4 t5 t6 t7 t8 u0 u1 u2 u3 u4 u5 u6 u7 u8 tf0 tf1 tf2 tf3 tf4 tf5 tf6 tf7 tf8 uf0 uf1 uf2 uf3 uf4 uf5 uf6 uf7 uf8
     generalize (((((((((((((((((((((((((((((((((((((w6).setCell ⟨w.heap.size + 1 + 1, 0, none⟩ (.bool true))).setCell ⟨w.heap.size + 1 + 1, 1, none⟩ (.int .u64 (dg (Q) 0)))).setCell ⟨w.heap.size + 1 + 1, 2, none⟩ (.int .u64 (dg (Q) 1)))).setCell ⟨w.heap.size + 1 + 1, 3, none⟩ (.int .u64 (dg (Q) 2)))).setCell ⟨w.heap.size + 1 + 1, 4, none⟩ (.int .u64 (dg (Q) 3)))).setCell ⟨w.heap.size + 1 + 1, 5, none⟩ (.int .u64 (dg (Q) 4)))).setCell ⟨w.heap.size + 1 + 1, 6, none⟩ (.int .u64 (dg (Q) 5)))).setCell ⟨w.heap.size + 1 + 1, 7, none⟩ (.int .u64 (dg (Q) 6)))).setCell ⟨w.heap.size + 1 + 1, 8, none⟩ (.int .u64 (dg (Q) 7)))).setCell ⟨w.heap.size + 1 + 1 + 1, 0, none⟩ (.bool false))).setCell ⟨w.heap.size + 1 + 1 + 1, 1, none⟩ (.int .u64 (dg (0) 0)))).setCell ⟨w.heap.size + 1 + 1 + 1, 2, none⟩ (.int .u64 (dg (0) 1)))).setCell ⟨w.heap.size + 1 + 1 + 1, 3, none⟩ (.int .u64 (dg (0) 2)))).setCell ⟨w.heap.size + 1 + 1 + 1, 4, none⟩ (.int .u64 (dg (0) 3)))).setCell ⟨w.heap.size + 1 + 1 + 1, 5, none⟩ (.int .u64 (dg (0) 4)))).setCell ⟨w.heap.size + 1 + 1 + 1, 6, none⟩ (.int .u64 (dg (0) 5)))).setCell ⟨w.heap.size + 1 + 1 + 1, 7, none⟩ (.int .u64 (dg (0) 6)))).setCell ⟨w.heap.size + 1 + 1 + 1, 8, none⟩ (.int .u64 (dg (0) 7)))).drew = wz at *
     go_wp2_with (fail)
     exact ret_Div _ _ (w.heap.size + 1 + 1) (w.heap.size + 1 + 1 + 1) _ _ _ _ _ _ _ _ _ _ _ _ _ _ _ _ _ _ rfl rfl rfl J4 J3 ⟨by rw [HQE.out, HM.out], JB⟩
   · rw [show ((n + 1 : Nat) : Int) - 1 = (n : Int) by omega]
     obtain ⟨q, hq, hq8⟩ : ∃ q : Nat, n / 32 = q ∧ q < 8 := ⟨_, rfl, by omega⟩
     obtain ⟨m, hm, hm32⟩ : ∃ m : Nat, n % 32 = m ∧ m < 32 := ⟨_, rfl, by omega⟩
     have hqi : (n : Int) / 32 = (q : Int) := by omega
     have hmi : (n : Int) % 32 = (m : Int) := by omega
     have hbit := bit_dg X n
     rw [hq, hm] at hbit
     have rq := dg_rng X q
     have hbt : (dg X q / 2 ^ m).tmod 2 = bitA X n := by rw [Int.tmod_eq_emod_of_nonneg (Int.ediv_nonneg rq.1 (Int.le_of_lt (two_pos m)))]; exact hbit
     have hcx : wr.cell? ⟨w.heap.size, 1 + q, none⟩ = some (.int .u64 (dg X q)) := by
       rw [Nat.add_comm]; exact (cell_of_row _ _ (q + 1) _ _ _ HR.1).trans (fB_get true (dg X) q hq8)
     have hb := bit_rng X n
     have HI := Lib.hid (div_in X D n hD0)
     have HO := Lib.hid (div_out X D n hD0)
     have e0 := Int.emod_nonneg (X / 2 ^ (n + 1)) (Int.ne_of_gt hD0)
     have e1 := Int.emod_lt_of_pos (X / 2 ^ (n + 1)) hD0
     obtain ⟨R, hR⟩ : ∃ R, R = X / 2 ^ (n + 1) % D := ⟨_, rfl⟩
     obtain ⟨Q, hQ⟩ : ∃ Q, Q = X / 2 ^ (n + 1) / D := ⟨_, rfl⟩
     rw [← hR, ← hQ] at HR
     rw [← hR] at e0 e1
     replace HI := Lib.hid (show D ≤ (2 * R + bitA X n) → (2 * R + bitA X n) - D = X / 2 ^ n % D ∧ 2 * Q + 1 = X / 2 ^ n / D from by rw [hR, hQ]; exact HI.out)
     replace HO := Lib.hid (show (2 * R + bitA X n) < D → (2 * R + bitA X n) = X / 2 ^ n % D ∧ 2 * Q = X / 2 ^ n / D from by rw [hR, hQ]; intro h; have h2 := HO.out h; exact ⟨h2.1, (Int.add_zero _).symm.trans h2.2⟩)
     have HDD : Hid (0 ≤ D ∧ D < B8) := Lib.hid ⟨by omega, by unfold B8; omega⟩
     have HRB : Hid (0 ≤ (2 * R + bitA X n) ∧ (2 * R + bitA X n) < B8) := Lib.hid ⟨by omega, by unfold B8; omega⟩
     have hs1 : Hid (D ≤ (2 * R + bitA X n) → 0 ≤ sizeR (2 * R + bitA X n) D) := Lib.hid fun h => by unfold sizeR; split; omega; rw [if_neg (by omega)]; omega
     have hs2 : Hid ((2 * R + bitA X n) < D → sizeR (2 * R + bitA X n) D < 0) := Lib.hid fun h => by unfold sizeR; rw [if_neg (by omega), if_pos h]; omega
     clear hq hm hbit hR hQ e0 e1
     go_upto_region 6 with (fail)
     clear hcx rq hqi hmi hbt hq8 hm32
     by_cases hc : D ≤ (2 * R + bitA X n)
     · have HE := Lib.hid (HI.out hc)
       have hsz := hs1.out hc
       clear HI HO hs1 hs2 hc
       have zr := HR.size
       obtain ⟨rc0, rc1, rc2, rc3, rc4, rc5, rc6, rc7⟩ := HR.rc
       obtain ⟨rf0, rf1, rf2, rf3, rf4, rf5, rf6, rf7⟩ := HR.rf
       go_wp2_with (fail)
       go_at_call 167
       (with_reducible refine (twice_c R (bitA X n) _ hb).mono ?_)
       rintro e w1 ⟨rfl, hb1⟩
       obtain ⟨hc1, hf1⟩ := bcell hb1
       have hz1 := hb1.size
       try simp at hz1
       go_upto_region 7 with (fail)
       have HR1 := (HR.step hb1).putr (2 * R + bitA X n)
       clear rc0 rc1 rc2 rc3 rc4 rc5 rc6 rc7 rf0 rf1 rf2 rf3 rf4 rf5 rf6 rf7
       clear hc1 hf1 HR
       generalize ((((((((w1).setCell ⟨w.heap.size + 1 + 1 + 1 + 1 + 1, 1, none⟩ (.int .u64 (dg (2 * R + bitA X n) 0))).setCell ⟨w.heap.size + 1 + 1 + 1 + 1 + 1, 2, none⟩ (.int .u64 (dg (2 * R + bitA X n) 1))).setCell ⟨w.heap.size + 1 + 1 + 1 + 1 + 1, 3, none⟩ (.int .u64 (dg (2 * R + bitA X n) 2))).setCell ⟨w.heap.size + 1 + 1 + 1 + 1 + 1, 4, none⟩ (.int .u64 (dg (2 * R + bitA X n) 3))).setCell ⟨w.heap.size + 1 + 1 + 1 + 1 + 1, 5, none⟩ (.int .u64 (dg (2 * R + bitA X n) 4))).setCell ⟨w.heap.size + 1 + 1 + 1 + 1 + 1, 6, none⟩ (.int .u64 (dg (2 * R + bitA X n) 5))).setCell ⟨w.heap.size + 1 + 1 + 1 + 1 + 1, 7, none⟩ (.int .u64 (dg (2 * R + bitA X n) 6))).setCell ⟨w.heap.size + 1 + 1 + 1 + 1 + 1, 8, none⟩ (.int .u64 (dg (2 * R + bitA X n) 7)) = u1 at *
       have HR := HR1
       clear HR1
       have zr1 := HR.size
       obtain ⟨rc0, rc1, rc2, rc3, rc4, rc5, rc6, rc7⟩ := HR.rc
       obtain ⟨rf0, rf1, rf2, rf3, rf4, rf5, rf6, rf7⟩ := HR.rf
       obtain ⟨dc0, dc1, dc2, dc3, dc4, dc5, dc6, dc7⟩ := HR.dc
       go_wp2_with (fail)
       go_at_call 71
       (with_reducible refine (size_c (2 * R + bitA X n) D _ HRB HDD).mono ?_)
       rintro e w2 ⟨rfl, hb2⟩
       obtain ⟨hc2, hf2⟩ := bcell hb2
       have hz2 := hb2.size
       try simp at hz2
       have HR2 := HR.step hb2
       clear rc0 rc1 rc2 rc3 rc4 rc5 rc6 rc7 rf0 rf1 rf2 rf3 rf4 rf5 rf6 rf7
       clear dc0 dc1 dc2 dc3 dc4 dc5 dc6 dc7
       clear hc2 hf2 HR
       have HR := HR2
       clear HR2
       have zr2 := HR.size
       generalize sizeR (2 * R + bitA X n) D = sz at *
       have zq2 : w.heap.size + 1 + 1 + 1 + 1 < w2.heap.size := by omega
       obtain ⟨rc0, rc1, rc2, rc3, rc4, rc5, rc6, rc7⟩ := HR.rc
       obtain ⟨rf0, rf1, rf2, rf3, rf4, rf5, rf6, rf7⟩ := HR.rf
       obtain ⟨dc0, dc1, dc2, dc3, dc4, dc5, dc6, dc7⟩ := HR.dc
       go_wp2_with (fail)
       go_at_call 72
       (with_reducible refine (less_c (2 * R + bitA X n) D _).mono ?_)
       rintro e w3 ⟨rfl, hb3⟩
       obtain ⟨hc3, hf3⟩ := bcell hb3
       have hz3 := hb3.size
       try simp at hz3
       go_upto_region 10 with (fail)
       have HR3 := (HR.step hb3).putr ((2 * R + bitA X n) - D)
       clear rc0 rc1 rc2 rc3 rc4 rc5 rc6 rc7 rf0 rf1 rf2 rf3 rf4 rf5 rf6 rf7
       clear dc0 dc1 dc2 dc3 dc4 dc5 dc6 dc7
       clear hc3 hf3 HR
       generalize ((((((((w3).setCell ⟨w.heap.size + 1 + 1 + 1 + 1 + 1, 1, none⟩ (.int .u64 (dg ((2 * R + bitA X n) - D) 0))).setCell ⟨w.heap.size + 1 + 1 + 1 + 1 + 1, 2, none⟩ (.int .u64 (dg ((2 * R + bitA X n) - D) 1))).setCell ⟨w.heap.size + 1 + 1 + 1 + 1 + 1, 3, none⟩ (.int .u64 (dg ((2 * R + bitA X n) - D) 2))).setCell ⟨w.heap.size + 1 + 1 + 1 + 1 + 1, 4, none⟩ (.int .u64 (dg ((2 * R + bitA X n) - D) 3))).setCell ⟨w.heap.size + 1 + 1 + 1 + 1 + 1, 5, none⟩ (.int .u64 (dg ((2 * R + bitA X n) - D) 4))).setCell ⟨w.heap.size + 1 + 1 + 1 + 1 + 1, 6, none⟩ (.int .u64 (dg ((2 * R + bitA X n) - D) 5))).setCell ⟨w.heap.size + 1 + 1 + 1 + 1 + 1, 7, none⟩ (.int .u64 (dg ((2 * R + bitA X n) - D) 6))).setCell ⟨w.heap.size + 1 + 1 + 1 + 1 + 1, 8, none⟩ (.int .u64 (dg ((2 * R + bitA X n) - D) 7)) = u3 at *
       have HR := HR3
       clear HR3
       have zr3 := HR.size
       have zq3 : w.heap.size + 1 + 1 + 1 + 1 < u3.heap.size := by omega
       obtain ⟨qc0, qc1, qc2, qc3, qc4, qc5, qc6, qc7⟩ := HR.qc
       obtain ⟨qf0, qf1, qf2, qf3, qf4, qf5, qf6, qf7⟩ := HR.qf
       go_wp2_with (fail)
       go_at_call 167
       (with_reducible refine (twice_c Q 1 _ (by omega)).mono ?_)
       rintro e w4 ⟨rfl, hb4⟩
       obtain ⟨hc4, hf4⟩ := bcell hb4
       have hz4 := hb4.size
       try simp at hz4
       go_upto_region 4 with (fail)
       have HR4 := (HR.step hb4).putq (2 * Q + 1)
       clear qc0 qc1 qc2 qc3 qc4 qc5 qc6 qc7 qf0 qf1 qf2 qf3 qf4 qf5 qf6 qf7
       clear hc4 hf4 HR
       generalize ((((((((w4).setCell ⟨w.heap.size + 1 + 1 + 1 + 1, 1, none⟩ (.int .u64 (dg (2 * Q + 1) 0))).setCell ⟨w.heap.size + 1 + 1 + 1 + 1, 2, none⟩ (.int .u64 (dg (2 * Q + 1) 1))).setCell ⟨w.heap.size + 1 + 1 + 1 + 1, 3, none⟩ (.int .u64 (dg (2 * Q + 1) 2))).setCell ⟨w.heap.size + 1 + 1 + 1 + 1, 4, none⟩ (.int .u64 (dg (2 * Q + 1) 3))).setCell ⟨w.heap.size + 1 + 1 + 1 + 1, 5, none⟩ (.int .u64 (dg (2 * Q + 1) 4))).setCell ⟨w.heap.size + 1 + 1 + 1 + 1, 6, none⟩ (.int .u64 (dg (2 * Q + 1) 5))).setCell ⟨w.heap.size + 1 + 1 + 1 + 1, 7, none⟩ (.int .u64 (dg (2 * Q + 1) 6))).setCell ⟨w.heap.size + 1 + 1 + 1 + 1, 8, none⟩ (.int .u64 (dg (2 * Q + 1) 7)) = u4 at *
       have zr4 := HR4.size
       go_wp2_with (fail)
       go_roundw
       case rel => exact ⟨n, by omega, by first | rfl | go_num, by rw [← HE.out.1, ← HE.out.2]; exact HR4⟩
       case measure => simp [intOf]
     · have HE := Lib.hid (HO.out (by omega))
       have hsz := hs2.out (by omega)
       clear HI HO hs1 hs2 hc
       have zr := HR.size
       obtain ⟨rc0, rc1, rc2, rc3, rc4, rc5, rc6, rc7⟩ := HR.rc
       obtain ⟨rf0, rf1, rf2, rf3, rf4, rf5, rf6, rf7⟩ := HR.rf
       go_wp2_with (fail)
       go_at_call 167
       (with_reducible refine (twice_c R (bitA X n) _ hb).mono ?_)
       rintro e w1 ⟨rfl, hb1⟩
       obtain ⟨hc1, hf1⟩ := bcell hb1
       have hz1 := hb1.size
       try simp at hz1
       go_upto_region 7 with (fail)
       have HR1 := (HR.step hb1).putr (2 * R + bitA X n)
       clear rc0 rc1 rc2 rc3 rc4 rc5 rc6 rc7 rf0 rf1 rf2 rf3 rf4 rf5 rf6 rf7
       clear hc1 hf1 HR
       generalize ((((((((w1).setCell ⟨w.heap.size + 1 + 1 + 1 + 1 + 1, 1, none⟩ (.int .u64 (dg (2 * R + bitA X n) 0))).setCell ⟨w.heap.size + 1 + 1 + 1 + 1 + 1, 2, none⟩ (.int .u64 (dg (2 * R + bitA X n) 1))).setCell ⟨w.heap.size + 1 + 1 + 1 + 1 + 1, 3, none⟩ (.int .u64 (dg (2 * R + bitA X n) 2))).setCell ⟨w.heap.size + 1 + 1 + 1 + 1 + 1, 4, none⟩ (.int .u64 (dg (2 * R + bitA X n) 3))).setCell ⟨w.heap.size + 1 + 1 + 1 + 1 + 1, 5, none⟩ (.int .u64 (dg (2 * R + bitA X n) 4))).setCell ⟨w.heap.size + 1 + 1 + 1 + 1 + 1, 6, none⟩ (.int .u64 (dg (2 * R + bitA X n) 5))).setCell ⟨w.heap.size + 1 + 1 + 1 + 1 + 1, 7, none⟩ (.int .u64 (dg (2 * R + bitA X n) 6))).setCell ⟨w.heap.size + 1 + 1 + 1 + 1 + 1, 8, none⟩ (.int .u64 (dg (2 * R + bitA X n) 7)) = u1 at *
       have HR := HR1
       clear HR1
       have zr1 := HR.size
       obtain ⟨rc0, rc1, rc2, rc3, rc4, rc5, rc6, rc7⟩ := HR.rc
       obtain ⟨rf0, rf1, rf2, rf3, rf4, rf5, rf6, rf7⟩ := HR.rf
       obtain ⟨dc0, dc1, dc2, dc3, dc4, dc5, dc6, dc7⟩ := HR.dc
       go_wp2_with (fail)
       go_at_call 71
       (with_reducible refine (size_c (2 * R + bitA X n) D _ HRB HDD).mono ?_)
       rintro e w2 ⟨rfl, hb2⟩
       obtain ⟨hc2, hf2⟩ := bcell hb2
       have hz2 := hb2.size
       try simp at hz2
       have HR2 := HR.step hb2
       clear rc0 rc1 rc2 rc3 rc4 rc5 rc6 rc7 rf0 rf1 rf2 rf3 rf4 rf5 rf6 rf7
       clear dc0 dc1 dc2 dc3 dc4 dc5 dc6 dc7
       clear hc2 hf2 HR
       have HR := HR2
       clear HR2
       have zr2 := HR.size
       generalize sizeR (2 * R + bitA X n) D = sz at *
       have zq2 : w.heap.size + 1 + 1 + 1 + 1 < w2.heap.size := by omega
       obtain ⟨qc0, qc1, qc2, qc3, qc4, qc5, qc6, qc7⟩ := HR.qc
       obtain ⟨qf0, qf1, qf2, qf3, qf4, qf5, qf6, qf7⟩ := HR.qf
       go_wp2_with (fail)
       go_at_call 167
       (with_reducible refine (twice_c Q 0 _ (by omega)).mono ?_)
       rintro e w4 ⟨rfl, hb4⟩
       obtain ⟨hc4, hf4⟩ := bcell hb4
       have hz4 := hb4.size
       try simp at hz4
       go_upto_region 4 with (fail)
       have HR4 := (HR.step hb4).putq (2 * Q)
       clear qc0 qc1 qc2 qc3 qc4 qc5 qc6 qc7 qf0 qf1 qf2 qf3 qf4 qf5 qf6 qf7
       clear hc4 hf4 HR
       generalize ((((((((w4).setCell ⟨w.heap.size + 1 + 1 + 1 + 1, 1, none⟩ (.int .u64 (dg (2 * Q) 0))).setCell ⟨w.heap.size + 1 + 1 + 1 + 1, 2, none⟩ (.int .u64 (dg (2 * Q) 1))).setCell ⟨w.heap.size + 1 + 1 + 1 + 1, 3, none⟩ (.int .u64 (dg (2 * Q) 2))).setCell ⟨w.heap.size + 1 + 1 + 1 + 1, 4, none⟩ (.int .u64 (dg (2 * Q) 3))).setCell ⟨w.heap.size + 1 + 1 + 1 + 1, 5, none⟩ (.int .u64 (dg (2 * Q) 4))).setCell ⟨w.heap.size + 1 + 1 + 1 + 1, 6, none⟩ (.int .u64 (dg (2 * Q) 5))).setCell ⟨w.heap.size + 1 + 1 + 1 + 1, 7, none⟩ (.int .u64 (dg (2 * Q) 6))).setCell ⟨w.heap.size + 1 + 1 + 1 + 1, 8, none⟩ (.int .u64 (dg (2 * Q) 7)) = u4 at *
       have zr4 := HR4.size
       go_wp2_with (fail)
       go_roundw
       case rel => exact ⟨n, by omega, by first | rfl | go_num, by rw [← HE.out.1, ← HE.out.2]; exact HR4⟩
       case measure => simp [intOf]
set_option maxRecDepth 100000 in
set_option maxHeartbeats 8000000 in
theorem div_neg_N1 (X D : Int) (w : World) (hX0 : 0 ≤ X) (hX1 : X < B8) (hD0 : 0 < D) (hD1 : D ≤ 57896044618658097711785492504343953926634992332820282019728792003956564819968) (HM : Hid (X % D ≠ 0)) (HQ : Hid (X / D = 0)) :
   Calls Tryd.prog 153 #[.agg (fB true (dg X)), .agg (fB false (dg D))] w fun e w' => e = .returned (.tuple #[.agg (fB true (dg 1)), .agg (fB false (dg (D - X % D)))]) ∧ Below w.heap.size w w' := by
 unfold fB
 go_enter Tryd.func153, Tryd.ntmps153
 go_wp2_with (fail)
 go_loopw [8] (fun i wr => ∃ n : Nat, n ≤ 256 ∧ i = .int .i64 ((n : Int) - 1) ∧ DRows w true X D false (X / 2 ^ n / D) (X / 2 ^ n % D) wr) (fun i _ => (intOf i + 1).toNat)
 case atStart =>
   refine ⟨256, by omega, rfl, ?_⟩
   rw [(div_start X D hX0 hX1).1, (div_start X D hX0 hX1).2]
   unfold DRows
   rw [fB_zero]
   unfold fB
   refine ⟨?_, ?_, ?_, ?_, ?_, ?_, by repeat (first | with_reducible assumption | with_reducible exact Below.refl _ _ | (with_reducible refine Below.setCell ?_ (by first | omega | (simp; done) | (simp; omega)) _) | (with_reducible refine Below.alloc ?_ (by first | omega | (simp; done) | (simp; omega)) _) | (with_reducible refine Below.drew ?_) | (with_reducible refine below_drewN ?_ _))⟩ <;> (repeat (first | with_reducible assumption | (with_reducible refine (Below.heap_setCell _ _ _ _ (by first | omega | (simp; done) | (simp; omega))).trans ?_) | (with_reducible refine (heap_dN _ _ _).trans ?_) | (with_reducible refine (heap_dr _ _).trans ?_) | (with_reducible refine (Below.heap_alloc _ _ _ (by first | omega | (simp; done) | (simp; omega))).trans ?_) | (with_reducible exact heap_new' _ _ _ (by first | omega | (simp; done) | (simp; omega)))))
 case round =>
   obtain ⟨n0, hn, rfl, HR⟩ := hrel
   rcases n0 with _ | n
   · simp only [Int.natCast_zero, Int.zero_sub]
     rw [show X / 2 ^ 0 = X by simp] at HR
     obtain ⟨R, hR⟩ : ∃ R, R = X % D := ⟨_, rfl⟩
     rw [← hR] at HR
     have HRE := Lib.hid hR
     have HRN : Hid (R ≠ 0) := Lib.hid (by rw [hR]; exact HM.out)
     have HRR : Hid (0 ≤ R ∧ R < B8) := Lib.hid (by have e0 := Int.emod_nonneg X (Int.ne_of_gt hD0); have e1 := Int.emod_lt_of_pos X hD0; rw [hR]; unfold B8; omega)
     clear hR
     rw [HQ.out] at HR
     have zr := HR.size
     have x0 := HR.x9
     have zb0_wr : w.heap.size < wr.heap.size := by have := HR.size; omega
     have zb1_wr : w.heap.size + 1 < wr.heap.size := by have := HR.size; omega
     have zb2_wr : w.heap.size + 1 + 1 < wr.heap.size := by have := HR.size; omega
     have zb3_wr : w.heap.size + 1 + 1 + 1 < wr.heap.size := by have := HR.size; omega
     have zb4_wr : w.heap.size + 1 + 1 + 1 + 1 < wr.heap.size := by have := HR.size; omega
     have zb5_wr : w.heap.size + 1 + 1 + 1 + 1 + 1 < wr.heap.size := by have := HR.size; omega
     obtain ⟨q0, qf0⟩ := HR.q9
     obtain ⟨q1, q2, q3, q4, q5, q6, q7, q8⟩ := HR.qc
     obtain ⟨qf1, qf2, qf3, qf4, qf5, qf6, qf7, qf8⟩ := HR.qf
     go_wp2_with (fail)
     go_at_call 16
     (with_reducible refine (zero_yes _).mono ?_)
     rintro e w5 ⟨rfl, hb5⟩
     obtain ⟨hc5, hf5⟩ := bcell hb5
     have hz5 := hb5.size
     try simp at hz5
     go_upto_region 14 with (fail)
     have HR5 := (HR.step hb5).putb false
     clear x0 hc5 hf5 HR
     clear q0 qf0 q1 qf1 q2 qf2 q3 qf3 q4 qf4 q5 qf5 q6 qf6 q7 qf7 q8 qf8
     generalize (w5).setCell ⟨w.heap.size + 1 + 1 + 1 + 1, 0, none⟩ (.bool false) = u5 at *
     have HR := HR5
     clear HR5
     have zb0_u5 : w.heap.size < u5.heap.size := by have := HR.size; omega
     have zb1_u5 : w.heap.size + 1 < u5.heap.size := by have := HR.size; omega
     have zb2_u5 : w.heap.size + 1 + 1 < u5.heap.size := by have := HR.size; omega
     have zb3_u5 : w.heap.size + 1 + 1 + 1 < u5.heap.size := by have := HR.size; omega
     have zb4_u5 : w.heap.size + 1 + 1 + 1 + 1 < u5.heap.size := by have := HR.size; omega
     have zb5_u5 : w.heap.size + 1 + 1 + 1 + 1 + 1 < u5.heap.size := by have := HR.size; omega
     obtain ⟨rc0, rc1, rc2, rc3, rc4, rc5, rc6, rc7⟩ := HR.rc
     go_wp2_with (fail)
     go_at_call 16
     (with_reducible refine (zero_no R _ HRR HRN).mono ?_)
     rintro e w6 ⟨rfl, hb6⟩
     obtain ⟨hc6, hf6⟩ := bcell hb6
     have hz6 := hb6.size
     try simp at hz6
     go_upto_region 15 with (fail)
     have HR6 := HR.step hb6
     clear hc6 hf6 HR
     clear rc0 rc1 rc2 rc3 rc4 rc5 rc6 rc7
     have HR := HR6
     clear HR6
     have hi1 : InR (-1) := by unfold InR; omega
     have zb0_w6 : w.heap.size < w6.heap.size := by have := HR.size; omega
     have zb1_w6 : w.heap.size + 1 < w6.heap.size := by have := HR.size; omega
     have zb2_w6 : w.heap.size + 1 + 1 < w6.heap.size := by have := HR.size; omega
     have zb3_w6 : w.heap.size + 1 + 1 + 1 < w6.heap.size := by have := HR.size; omega
     have zb4_w6 : w.heap.size + 1 + 1 + 1 + 1 < w6.heap.size := by have := HR.size; omega
     have zb5_w6 : w.heap.size + 1 + 1 + 1 + 1 + 1 < w6.heap.size := by have := HR.size; omega
     obtain ⟨q0, qf0⟩ := HR.q9
     obtain ⟨q1, q2, q3, q4, q5, q6, q7, q8⟩ := HR.qc
     obtain ⟨qf1, qf2, qf3, qf4, qf5, qf6, qf7, qf8⟩ := HR.qf
     go_region_with (first | (go_at_call 22; (with_reducible refine (int_c (-1) _ hi1).mono ?_); rintro e w7 ⟨rfl, hb7⟩; have HRR7 := HR.drew.step hb7; clear HR; have HR := HRR7; clear HRR7; clear q0 qf0 q1 qf1 q2 qf2 q3 qf3 q4 qf4 q5 qf5 q6 qf6 q7 qf7 q8 qf8; obtain ⟨q0, qf0⟩ := HR.q9; obtain ⟨q1, q2, q3, q4, q5, q6, q7, q8⟩ := HR.qc; obtain ⟨qf1, qf2, qf3, qf4, qf5, qf6, qf7, qf8⟩ := HR.qf) | (go_at_call 14; (with_reducible refine (add_m1_false _).mono ?_); rintro e w8 ⟨rfl, hb8⟩; have HRR8 := HR.step hb8; clear HR; have HR := HRR8; clear HRR8; clear q0 qf0 q1 qf1 q2 qf2 q3 qf3 q4 qf4 q5 qf5 q6 qf6 q7 qf7 q8 qf8; obtain ⟨q0, qf0⟩ := HR.q9; obtain ⟨q1, q2, q3, q4, q5, q6, q7, q8⟩ := HR.qc; obtain ⟨qf1, qf2, qf3, qf4, qf5, qf6, qf7, qf8⟩ := HR.qf))
     all_goals
       have HR8 := HR.putq9 true (1)
       clear HR
       clear q0 qf0 q1 qf1 q2 qf2 q3 qf3 q4 qf4 q5 qf5 q6 qf6 q7 qf7 q8 qf8
       generalize (((((((((w8).setCell ⟨w.heap.size + 1 + 1 + 1 + 1, 0, none⟩ (.bool true)).setCell ⟨w.heap.size + 1 + 1 + 1 + 1, 1, none⟩ (.int .u64 (dg (1) 0))).setCell ⟨w.heap.size + 1 + 1 + 1 + 1, 2, none⟩ (.int .u64 (dg (1) 1))).setCell ⟨w.heap.size + 1 + 1 + 1 + 1, 3, none⟩ (.int .u64 (dg (1) 2))).setCell ⟨w.heap.size + 1 + 1 + 1 + 1, 4, none⟩ (.int .u64 (dg (1) 3))).setCell ⟨w.heap.size + 1 + 1 + 1 + 1, 5, none⟩ (.int .u64 (dg (1) 4))).setCell ⟨w.heap.size + 1 + 1 + 1 + 1, 6, none⟩ (.int .u64 (dg (1) 5))).setCell ⟨w.heap.size + 1 + 1 + 1 + 1, 7, none⟩ (.int .u64 (dg (1) 6))).setCell ⟨w.heap.size + 1 + 1 + 1 + 1, 8, none⟩ (.int .u64 (dg (1) 7)) = u8 at *
       have HR := HR8
       clear HR8
       have zb0_u8 : w.heap.size < u8.heap.size := by have := HR.size; omega
       have zb1_u8 : w.heap.size + 1 < u8.heap.size := by have := HR.size; omega
       have zb2_u8 : w.heap.size + 1 + 1 < u8.heap.size := by have := HR.size; omega
       have zb3_u8 : w.heap.size + 1 + 1 + 1 < u8.heap.size := by have := HR.size; omega
       have zb4_u8 : w.heap.size + 1 + 1 + 1 + 1 < u8.heap.size := by have := HR.size; omega
       have zb5_u8 : w.heap.size + 1 + 1 + 1 + 1 + 1 < u8.heap.size := by have := HR.size; omega
       obtain ⟨rc0, rc1, rc2, rc3, rc4, rc5, rc6, rc7⟩ := HR.rc
       obtain ⟨rf0, rf1, rf2, rf3, rf4, rf5, rf6, rf7⟩ := HR.rf
       obtain ⟨dc0, dc1, dc2, dc3, dc4, dc5, dc6, dc7⟩ := HR.dc
       go_wp2_with (fail)
       go_at_call 72
       (with_reducible refine (less_c D R _).mono ?_)
       rintro e w9 ⟨rfl, hb9⟩
       obtain ⟨hc9, hf9⟩ := bcell hb9
       have hz9 := hb9.size
       try simp at hz9
       go_upto_region 17 with (fail)
       have HR9 := (HR.step hb9).putr (D - R)
       clear rc0 rc1 rc2 rc3 rc4 rc5 rc6 rc7 rf0 rf1 rf2 rf3 rf4 rf5 rf6 rf7
       clear dc0 dc1 dc2 dc3 dc4 dc5 dc6 dc7
       clear hc9 hf9 HR
       generalize ((((((((w9).setCell ⟨w.heap.size + 1 + 1 + 1 + 1 + 1, 1, none⟩ (.int .u64 (dg (D - R) 0))).setCell ⟨w.heap.size + 1 + 1 + 1 + 1 + 1, 2, none⟩ (.int .u64 (dg (D - R) 1))).setCell ⟨w.heap.size + 1 + 1 + 1 + 1 + 1, 3, none⟩ (.int .u64 (dg (D - R) 2))).setCell ⟨w.heap.size + 1 + 1 + 1 + 1 + 1, 4, none⟩ (.int .u64 (dg (D - R) 3))).setCell ⟨w.heap.size + 1 + 1 + 1 + 1 + 1, 5, none⟩ (.int .u64 (dg (D - R) 4))).setCell ⟨w.heap.size + 1 + 1 + 1 + 1 + 1, 6, none⟩ (.int .u64 (dg (D - R) 5))).setCell ⟨w.heap.size + 1 + 1 + 1 + 1 + 1, 7, none⟩ (.int .u64 (dg (D - R) 6))).setCell ⟨w.heap.size + 1 + 1 + 1 + 1 + 1, 8, none⟩ (.int .u64 (dg (D - R) 7)) = u9 at *
       have HR := HR9
       clear HR9
       have zr := HR.size
       obtain ⟨Q0, Q1, Q2, Q3, Q4, Q5, HB⟩ := HR
       unfold fB at Q4 Q5
       have q0 := cell_of_row _ _ 0 _ _ _ Q4
       have q1 := cell_of_row _ _ 1 _ _ _ Q4
       have q2 := cell_of_row _ _ 2 _ _ _ Q4
       have q3 := cell_of_row _ _ 3 _ _ _ Q4
       have q4 := cell_of_row _ _ 4 _ _ _ Q4
       have q5 := cell_of_row _ _ 5 _ _ _ Q4
       have q6 := cell_of_row _ _ 6 _ _ _ Q4
       have q7 := cell_of_row _ _ 7 _ _ _ Q4
       have q8 := cell_of_row _ _ 8 _ _ _ Q4
       have r0 := cell_of_row _ _ 0 _ _ _ Q5
       have r1 := cell_of_row _ _ 1 _ _ _ Q5
       have r2 := cell_of_row _ _ 2 _ _ _ Q5
       have r3 := cell_of_row _ _ 3 _ _ _ Q5
       have r4 := cell_of_row _ _ 4 _ _ _ Q5
       have r5 := cell_of_row _ _ 5 _ _ _ Q5
       have r6 := cell_of_row _ _ 6 _ _ _ Q5
       have r7 := cell_of_row _ _ 7 _ _ _ Q5
       have r8 := cell_of_row _ _ 8 _ _ _ Q5
       have t0 := cell_of_row _ _ 0 _ _ _ Q2
       have t1 := cell_of_row _ _ 1 _ _ _ Q2
       have t2 := cell_of_row _ _ 2 _ _ _ Q2
       have t3 := cell_of_row _ _ 3 _ _ _ Q2
       have t4 := cell_of_row _ _ 4 _ _ _ Q2
       have t5 := cell_of_row _ _ 5 _ _ _ Q2
       have t6 := cell_of_row _ _ 6 _ _ _ Q2
       have t7 := cell_of_row _ _ 7 _ _ _ Q2
       have t8 := cell_of_row _ _ 8 _ _ _ Q2
       have u0 := cell_of_row _ _ 0 _ _ _ Q3
       have u1 := cell_of_row _ _ 1 _ _ _ Q3
       have u2 := cell_of_row _ _ 2 _ _ _ Q3
       have u3 := cell_of_row _ _ 3 _ _ _ Q3
       have u4 := cell_of_row _ _ 4 _ _ _ Q3
       have u5 := cell_of_row _ _ 5 _ _ _ Q3
       have u6 := cell_of_row _ _ 6 _ _ _ Q3
       have u7 := cell_of_row _ _ 7 _ _ _ Q3
       have u8 := cell_of_row _ _ 8 _ _ _ Q3
       have tf0 := row_free Q2 0
       have tf1 := row_free Q2 1
       have tf2 := row_free Q2 2
       have tf3 := row_free Q2 3
       have tf4 := row_free Q2 4
       have tf5 := row_free Q2 5
       have tf6 := row_free Q2 6
       have tf7 := row_free Q2 7
       have tf8 := row_free Q2 8
       have uf0 := row_free Q3 0
       have uf1 := row_free Q3 1
       have uf2 := row_free Q3 2
       have uf3 := row_free Q3 3
       have uf4 := row_free Q3 4
       have uf5 := row_free Q3 5
       have uf6 := row_free Q3 6
       have uf7 := row_free Q3 7
       have uf8 := row_free Q3 8
       simp only [List.getElem?_toArray, List.getElem?_cons_zero, List.getElem?_cons_succ] at q0 q1 q2 q3 q4 q5 q6 q7 q8 r0 r1 r2 r3 r4 r5 r6 r7 r8 t0 t1 t2 t3 t4 t5 t6 t7 t8 u0 u1 u2 u3 u4 u5 u6 u7 u8
       have P2 := Lib.hid Q2
       have P3 := Lib.hid Q3
       have PB := Lib.hid HB
       clear Q0 Q1 Q2 Q3 Q4 Q5 HB
       go_region
       have J2 := row9' P2.out (.bool true) (.int .u64 (dg (1) 0)) (.int .u64 (dg (1) 1)) (.int .u64 (dg (1) 2)) (.int .u64 (dg (1) 3)) (.int .u64 (dg (1) 4)) (.int .u64 (dg (1) 5)) (.int .u64 (dg (1) 6)) (.int .u64 (dg (1) 7))
       have J3 := row9' ((heap9d u9 (w.heap.size + 1 + 1 + 1) (w.heap.size + 1 + 1) (by omega) (.bool true) (.int .u64 (dg (1) 0)) (.int .u64 (dg (1) 1)) (.int .u64 (dg (1) 2)) (.int .u64 (dg (1) 3)) (.int .u64 (dg (1) 4)) (.int .u64 (dg (1) 5)) (.int .u64 (dg (1) 6)) (.int .u64 (dg (1) 7))).trans P3.out) (.bool false) (.int .u64 (dg (D - R) 0)) (.int .u64 (dg (D - R) 1)) (.int .u64 (dg (D - R) 2)) (.int .u64 (dg (D - R) 3)) (.int .u64 (dg (D - R) 4)) (.int .u64 (dg (D - R) 5)) (.int .u64 (dg (D - R) 6)) (.int .u64 (dg (D - R) 7))
       have J4 := (heap9d _ (w.heap.size + 1 + 1) (w.heap.size + 1 + 1 + 1) (by omega) (.bool false) (.int .u64 (dg (D - R) 0)) (.int .u64 (dg (D - R) 1)) (.int .u64 (dg (D - R) 2)) (.int .u64 (dg (D - R) 3)) (.int .u64 (dg (D - R) 4)) (.int .u64 (dg (D - R) 5)) (.int .u64 (dg (D - R) 6)) (.int .u64 (dg (D - R) 7))).trans J2
       have JB := (below9 (below9 PB.out (show w.heap.size ≤ w.heap.size + 1 + 1 by omega) (.bool true) (.int .u64 (dg (1) 0)) (.int .u64 (dg (1) 1)) (.int .u64 (dg (1) 2)) (.int .u64 (dg (1) 3)) (.int .u64 (dg (1) 4)) (.int .u64 (dg (1) 5)) (.int .u64 (dg (1) 6)) (.int .u64 (dg (1) 7))) (show w.heap.size ≤ w.heap.size + 1 + 1 + 1 by omega) (.bool false) (.int .u64 (dg (D - R) 0)) (.int .u64 (dg (D - R) 1)) (.int .u64 (dg (D - R) 2)) (.int .u64 (dg (D - R) 3)) (.int .u64 (dg (D - R) 4)) (.int .u64 (dg (D - R) 5)) (.int .u64 (dg (D - R) 6)) (.int .u64 (dg (D - R) 7))).drew
       replace J4 := (heap_dr _ _).trans J4
       replace J3 := (heap_dr _ _).trans J3
       clear J2 P2 P3 PB q0 q1 q2 q3 q4 q5 q6 q7 q8 r0 r1 r2 r3 r4 r5 r6 r7 r8 t0 t1 t2 t3 t4 t5 t6 t7 t8 u0 u1 u2 u3 u4 u5 u6 u7 u8 tf0 tf1 tf2 tf3 tf4 tf5 tf6 tf7 tf8 uf0 uf1 uf2 uf3 uf4 uf5 uf6 uf7 uf8
       generalize (((((((((((((((((((((((((((((((((((((u9).setCell ⟨w.heap.size + 1 + 1, 0, none⟩ (.bool true))).setCell ⟨w.heap.size + 1 + 1, 1, none⟩ (.int .u64 (dg (1) 0)))).setCell ⟨w.heap.size + 1 + 1, 2, none⟩ (.int .u64 (dg (1) 1)))).setCell ⟨w.heap.size + 1 + 1, 3, none⟩ (.int .u64 (dg (1) 2)))).setCell ⟨w.heap.size + 1 + 1, 4, none⟩ (.int .u64 (dg (1) 3)))).setCell ⟨w.heap.size + 1 + 1, 5, none⟩ (.int .u64 (dg (1) 4)))).setCell ⟨w.heap.size + 1 + 1, 6, none⟩ (.int .u64 (dg (1) 5)))).setCell ⟨w.heap.size + 1 + 1, 7, none⟩ (.int .u64 (dg (1) 6)))).setCell ⟨w.heap.size + 1 + 1, 8, none⟩ (.int .u64 (dg (1) 7)))).setCell ⟨w.heap.size + 1 + 1 + 1, 0, none⟩ (.bool false))).setCell ⟨w.heap.size + 1 + 1 + 1, 1, none⟩ (.int .u64 (dg (D - R) 0)))).setCell ⟨w.heap.size + 1 + 1 + 1, 2, none⟩ (.int .u64 (dg (D - R) 1)))).setCell ⟨w.heap.size + 1 + 1 + 1, 3, none⟩ (.int .u64 (dg (D - R) 2)))).setCell ⟨w.heap.size + 1 + 1 + 1, 4, none⟩ (.int .u64 (dg (D - R) 3)))).setCell ⟨w.heap.size + 1 + 1 + 1, 5, none⟩ (.int .u64 (dg (D - R) 4)))).setCell ⟨w.heap.size + 1 + 1 + 1, 6, none⟩ (.int .u64 (dg (D - R) 5)))).setCell ⟨w.heap.size + 1 + 1 + 1, 7, none⟩ (.int .u64 (dg (D - R) 6)))).setCell ⟨w.heap.size + 1 + 1 + 1, 8, none⟩ (.int .u64 (dg (D - R) 7)))).drew = wz at *
       go_wp2_with (fail)
       exact ret_Div _ _ (w.heap.size + 1 + 1) (w.heap.size + 1 + 1 + 1) _ _ _ _ _ _ _ _ _ _ _ _ _ _ _ _ _ _ rfl rfl rfl J4 J3 ⟨by rw [HRE.out], JB⟩
   · rw [show ((n + 1 : Nat) : Int) - 1 = (n : Int) by omega]
     obtain ⟨q, hq, hq8⟩ : ∃ q : Nat, n / 32 = q ∧ q < 8 := ⟨_, rfl, by omega⟩
     obtain ⟨m, hm, hm32⟩ : ∃ m : Nat, n % 32 = m ∧ m < 32 := ⟨_, rfl, by omega⟩
     have hqi : (n : Int) / 32 = (q : Int) := by omega
     have hmi : (n : Int) % 32 = (m : Int) := by omega
     have hbit := bit_dg X n
     rw [hq, hm] at hbit
     have rq := dg_rng X q
     have hbt : (dg X q / 2 ^ m).tmod 2 = bitA X n := by rw [Int.tmod_eq_emod_of_nonneg (Int.ediv_nonneg rq.1 (Int.le_of_lt (two_pos m)))]; exact hbit
     have hcx : wr.cell? ⟨w.heap.size, 1 + q, none⟩ = some (.int .u64 (dg X q)) := by
       rw [Nat.add_comm]; exact (cell_of_row _ _ (q + 1) _ _ _ HR.1).trans (fB_get true (dg X) q hq8)
     have hb := bit_rng X n
     have HI := Lib.hid (div_in X D n hD0)
     have HO := Lib.hid (div_out X D n hD0)
     have e0 := Int.emod_nonneg (X / 2 ^ (n + 1)) (Int.ne_of_gt hD0)
     have e1 := Int.emod_lt_of_pos (X / 2 ^ (n + 1)) hD0
     obtain ⟨R, hR⟩ : ∃ R, R = X / 2 ^ (n + 1) % D := ⟨_, rfl⟩
     obtain ⟨Q, hQ⟩ : ∃ Q, Q = X / 2 ^ (n + 1) / D := ⟨_, rfl⟩
     rw [← hR, ← hQ] at HR
     rw [← hR] at e0 e1
     replace HI := Lib.hid (show D ≤ (2 * R + bitA X n) → (2 * R + bitA X n) - D = X / 2 ^ n % D ∧ 2 * Q + 1 = X / 2 ^ n / D from by rw [hR, hQ]; exact HI.out)
     replace HO := Lib.hid (show (2 * R + bitA X n) < D → (2 * R + bitA X n) = X / 2 ^ n % D ∧ 2 * Q = X / 2 ^ n / D from by rw [hR, hQ]; intro h; have h2 := HO.out h; exact ⟨h2.1, (Int.add_zero _).symm.trans h2.2⟩)
     have HDD : Hid (0 ≤ D ∧ D < B8) := Lib.hid ⟨by omega, by unfold B8; omega⟩
     have HRB : Hid (0 ≤ (2 * R + bitA X n) ∧ (2 * R + bitA X n) < B8) := Lib.hid ⟨by omega, by unfold B8; omega⟩
     have hs1 : Hid (D ≤ (2 * R + bitA X n) → 0 ≤ sizeR (2 * R + bitA X n) D) := Lib.hid fun h => by unfold sizeR; split; omega; rw [if_neg (by omega)]; omega
     have hs2 : Hid ((2 * R + bitA X n) < D → sizeR (2 * R + bitA X n) D < 0) := Lib.hid fun h => by unfold sizeR; rw [if_neg (by omega), if_pos h]; omega
     clear hq hm hbit hR hQ e0 e1
     go_upto_region 6 with (fail)
     clear hcx rq hqi hmi hbt hq8 hm32
     by_cases hc : D ≤ (2 * R + bitA X n)
     · have HE := Lib.hid (HI.out hc)
       have hsz := hs1.out hc
       clear HI HO hs1 hs2 hc
       have zr := HR.size
       obtain ⟨rc0, rc1, rc2, rc3, rc4, rc5, rc6, rc7⟩ := HR.rc
       obtain ⟨rf0, rf1, rf2, rf3, rf4, rf5, rf6, rf7⟩ := HR.rf
       go_wp2_with (fail)
       go_at_call 167
       (with_reducible refine (twice_c R (bitA X n) _ hb).mono ?_)
       rintro e w1 ⟨rfl, hb1⟩
       obtain ⟨hc1, hf1⟩ := bcell hb1
       have hz1 := hb1.size
       try simp at hz1
       go_upto_region 7 with (fail)
       have HR1 := (HR.step hb1).putr (2 * R + bitA X n)
       clear rc0 rc1 rc2 rc3 rc4 rc5 rc6 rc7 rf0 rf1 rf2 rf3 rf4 rf5 rf6 rf7
       clear hc1 hf1 HR
       generalize ((((((((w1).setCell ⟨w.heap.size + 1 + 1 + 1 + 1 + 1, 1, none⟩ (.int .u64 (dg (2 * R + bitA X n) 0))).setCell ⟨w.heap.size + 1 + 1 + 1 + 1 + 1, 2, none⟩ (.int .u64 (dg (2 * R + bitA X n) 1))).setCell ⟨w.heap.size + 1 + 1 + 1 + 1 + 1, 3, none⟩ (.int .u64 (dg (2 * R + bitA X n) 2))).setCell ⟨w.heap.size + 1 + 1 + 1 + 1 + 1, 4, none⟩ (.int .u64 (dg (2 * R + bitA X n) 3))).setCell ⟨w.heap.size + 1 + 1 + 1 + 1 + 1, 5, none⟩ (.int .u64 (dg (2 * R + bitA X n) 4))).setCell ⟨w.heap.size + 1 + 1 + 1 + 1 + 1, 6, none⟩ (.int .u64 (dg (2 * R + bitA X n) 5))).setCell ⟨w.heap.size + 1 + 1 + 1 + 1 + 1, 7, none⟩ (.int .u64 (dg (2 * R + bitA X n) 6))).setCell ⟨w.heap.size + 1 + 1 + 1 + 1 + 1, 8, none⟩ (.int .u64 (dg (2 * R + bitA X n) 7)) = u1 at *
       have HR := HR1
       clear HR1
       have zr1 := HR.size
       obtain ⟨rc0, rc1, rc2, rc3, rc4, rc5, rc6, rc7⟩ := HR.rc
       obtain ⟨rf0, rf1, rf2, rf3, rf4, rf5, rf6, rf7⟩ := HR.rf
       obtain ⟨dc0, dc1, dc2, dc3, dc4, dc5, dc6, dc7⟩ := HR.dc
       go_wp2_with (fail)
       go_at_call 71
       (with_reducible refine (size_c (2 * R + bitA X n) D _ HRB HDD).mono ?_)
       rintro e w2 ⟨rfl, hb2⟩
       obtain ⟨hc2, hf2⟩ := bcell hb2
       have hz2 := hb2.size
       try simp at hz2
       have HR2 := HR.step hb2
       clear rc0 rc1 rc2 rc3 rc4 rc5 rc6 rc7 rf0 rf1 rf2 rf3 rf4 rf5 rf6 rf7
       clear dc0 dc1 dc2 dc3 dc4 dc5 dc6 dc7
       clear hc2 hf2 HR
       have HR := HR2
       clear HR2
       have zr2 := HR.size
       generalize sizeR (2 * R + bitA X n) D = sz at *
       have zq2 : w.heap.size + 1 + 1 + 1 + 1 < w2.heap.size := by omega
       obtain ⟨rc0, rc1, rc2, rc3, rc4, rc5, rc6, rc7⟩ := HR.rc
       obtain ⟨rf0, rf1, rf2, rf3, rf4, rf5, rf6, rf7⟩ := HR.rf
       obtain ⟨dc0, dc1, dc2, dc3, dc4, dc5, dc6, dc7⟩ := HR.dc
       go_wp2_with (fail)
       go_at_call 72
       (with_reducible refine (less_c (2 * R + bitA X n) D _).mono ?_)
       rintro e w3 ⟨rfl, hb3⟩
       obtain ⟨hc3, hf3⟩ := bcell hb3
       have hz3 := hb3.size
       try simp at hz3
       go_upto_region 10 with (fail)
       have HR3 := (HR.step hb3).putr ((2 * R + bitA X n) - D)
       clear rc0 rc1 rc2 rc3 rc4 rc5 rc6 rc7 rf0 rf1 rf2 rf3 rf4 rf5 rf6 rf7
       clear dc0 dc1 dc2 dc3 dc4 dc5 dc6 dc7
       clear hc3 hf3 HR
       generalize ((((((((w3).setCell ⟨w.heap.size + 1 + 1 + 1 + 1 + 1, 1, none⟩ (.int .u64 (dg ((2 * R + bitA X n) - D) 0))).setCell ⟨w.heap.size + 1 + 1 + 1 + 1 + 1, 2, none⟩ (.int .u64 (dg ((2 * R + bitA X n) - D) 1))).setCell ⟨w.heap.size + 1 + 1 + 1 + 1 + 1, 3, none⟩ (.int .u64 (dg ((2 * R + bitA X n) - D) 2))).setCell ⟨w.heap.size + 1 + 1 + 1 + 1 + 1, 4, none⟩ (.int .u64 (dg ((2 * R + bitA X n) - D) 3))).setCell ⟨w.heap.size + 1 + 1 + 1 + 1 + 1, 5, none⟩ (.int .u64 (dg ((2 * R + bitA X n) - D) 4))).setCell ⟨w.heap.size + 1 + 1 + 1 + 1 + 1, 6, none⟩ (.int .u64 (dg ((2 * R + bitA X n) - D) 5))).setCell ⟨w.heap.size + 1 + 1 + 1 + 1 + 1, 7, none⟩ (.int .u64 (dg ((2 * R + bitA X n) - D) 6))).setCell ⟨w.heap.size + 1 + 1 + 1 + 1 + 1, 8, none⟩ (.int .u64 (dg ((2 * R + bitA X n) - D) 7)) = u3 at *
       have HR := HR3
       clear HR3
       have zr3 := HR.size
       have zq3 : w.heap.size + 1 + 1 + 1 + 1 < u3.heap.size := by omega
       obtain ⟨qc0, qc1, qc2, qc3, qc4, qc5, qc6, qc7⟩ := HR.qc
       obtain ⟨qf0, qf1, qf2, qf3, qf4, qf5, qf6, qf7⟩ := HR.qf
       go_wp2_with (fail)
       go_at_call 167
       (with_reducible refine (twice_c Q 1 _ (by omega)).mono ?_)
       rintro e w4 ⟨rfl, hb4⟩
       obtain ⟨hc4, hf4⟩ := bcell hb4
       have hz4 := hb4.size
       try simp at hz4
       go_upto_region 4 with (fail)
       have HR4 := (HR.step hb4).putq (2 * Q + 1)
       clear qc0 qc1 qc2 qc3 qc4 qc5 qc6 qc7 qf0 qf1 qf2 qf3 qf4 qf5 qf6 qf7
       clear hc4 hf4 HR
       generalize ((((((((w4).setCell ⟨w.heap.size + 1 + 1 + 1 + 1, 1, none⟩ (.int .u64 (dg (2 * Q + 1) 0))).setCell ⟨w.heap.size + 1 + 1 + 1 + 1, 2, none⟩ (.int .u64 (dg (2 * Q + 1) 1))).setCell ⟨w.heap.size + 1 + 1 + 1 + 1, 3, none⟩ (.int .u64 (dg (2 * Q + 1) 2))).setCell ⟨w.heap.size + 1 + 1 + 1 + 1, 4, none⟩ (.int .u64 (dg (2 * Q + 1) 3))).setCell ⟨w.heap.size + 1 + 1 + 1 + 1, 5, none⟩ (.int .u64 (dg (2 * Q + 1) 4))).setCell ⟨w.heap.size + 1 + 1 + 1 + 1, 6, none⟩ (.int .u64 (dg (2 * Q + 1) 5))).setCell ⟨w.heap.size + 1 + 1 + 1 + 1, 7, none⟩ (.int .u64 (dg (2 * Q + 1) 6))).setCell ⟨w.heap.size + 1 + 1 + 1 + 1, 8, none⟩ (.int .u64 (dg (2 * Q + 1) 7)) = u4 at *
       have zr4 := HR4.size
       go_wp2_with (fail)
       go_roundw
       case rel => exact ⟨n, by omega, by first | rfl | go_num, by rw [← HE.out.1, ← HE.out.2]; exact HR4⟩
       case measure => simp [intOf]
     · have HE := Lib.hid (HO.out (by omega))
       have hsz := hs2.out (by omega)
       clear HI HO hs1 hs2 hc
       have zr := HR.size
       obtain ⟨rc0, rc1, rc2, rc3, rc4, rc5, rc6, rc7⟩ := HR.rc
       obtain ⟨rf0, rf1, rf2, rf3, rf4, rf5, rf6, rf7⟩ := HR.rf
       go_wp2_with (fail)
       go_at_call 167
       (with_reducible refine (twice_c R (bitA X n) _ hb).mono ?_)
       rintro e w1 ⟨rfl, hb1⟩
       obtain ⟨hc1, hf1⟩ := bcell hb1
       have hz1 := hb1.size
       try simp at hz1
       go_upto_region 7 with (fail)
       have HR1 := (HR.step hb1).putr (2 * R + bitA X n)
       clear rc0 rc1 rc2 rc3 rc4 rc5 rc6 rc7 rf0 rf1 rf2 rf3 rf4 rf5 rf6 rf7
       clear hc1 hf1 HR
       generalize ((((((((w1).setCell ⟨w.heap.size + 1 + 1 + 1 + 1 + 1, 1, none⟩ (.int .u64 (dg (2 * R + bitA X n) 0))).setCell ⟨w.heap.size + 1 + 1 + 1 + 1 + 1, 2, none⟩ (.int .u64 (dg (2 * R + bitA X n) 1))).setCell ⟨w.heap.size + 1 + 1 + 1 + 1 + 1, 3, none⟩ (.int .u64 (dg (2 * R + bitA X n) 2))).setCell ⟨w.heap.size + 1 + 1 + 1 + 1 + 1, 4, none⟩ (.int .u64 (dg (2 * R + bitA X n) 3))).setCell ⟨w.heap.size + 1 + 1 + 1 + 1 + 1, 5, none⟩ (.int .u64 (dg (2 * R + bitA X n) 4))).setCell ⟨w.heap.size + 1 + 1 + 1 + 1 + 1, 6, none⟩ (.int .u64 (dg (2 * R + bitA X n) 5))).setCell ⟨w.heap.size + 1 + 1 + 1 + 1 + 1, 7, none⟩ (.int .u64 (dg (2 * R + bitA X n) 6))).setCell ⟨w.heap.size + 1 + 1 + 1 + 1 + 1, 8, none⟩ (.int .u64 (dg (2 * R + bitA X n) 7)) = u1 at *
       have HR := HR1
       clear HR1
       have zr1 := HR.size
       obtain ⟨rc0, rc1, rc2, rc3, rc4, rc5, rc6, rc7⟩ := HR.rc
       obtain ⟨rf0, rf1, rf2, rf3, rf4, rf5, rf6, rf7⟩ := HR.rf
       obtain ⟨dc0, dc1, dc2, dc3, dc4, dc5, dc6, dc7⟩ := HR.dc
       go_wp2_with (fail)
       go_at_call 71
       (with_reducible refine (size_c (2 * R + bitA X n) D _ HRB HDD).mono ?_)
       rintro e w2 ⟨rfl, hb2⟩
       obtain ⟨hc2, hf2⟩ := bcell hb2
       have hz2 := hb2.size
       try simp at hz2
       have HR2 := HR.step hb2
       clear rc0 rc1 rc2 rc3 rc4 rc5 rc6 rc7 rf0 rf1 rf2 rf3 rf4 rf5 rf6 rf7
       clear dc0 dc1 dc2 dc3 dc4 dc5 dc6 dc7
       clear hc2 hf2 HR
       have HR := HR2
       clear HR2
       have zr2 := HR.size
       generalize sizeR (2 * R + bitA X n) D = sz at *
       have zq2 : w.heap.size + 1 + 1 + 1 + 1 < w2.heap.size := by omega
       obtain ⟨qc0, qc1, qc2, qc3, qc4, qc5, qc6, qc7⟩ := HR.qc
       obtain ⟨qf0, qf1, qf2, qf3, qf4, qf5, qf6, qf7⟩ := HR.qf
       go_wp2_with (fail)
       go_at_call 167
       (with_reducible refine (twice_c Q 0 _ (by omega)).mono ?_)
       rintro e w4 ⟨rfl, hb4⟩
       obtain ⟨hc4, hf4⟩ := bcell hb4
       have hz4 := hb4.size
       try simp at hz4
       go_upto_region 4 with (fail)
       have HR4 := (HR.step hb4).putq (2 * Q)
       clear qc0 qc1 qc2 qc3 qc4 qc5 qc6 qc7 qf0 qf1 qf2 qf3 qf4 qf5 qf6 qf7
       clear hc4 hf4 HR
       generalize ((((((((w4).setCell ⟨w.heap.size + 1 + 1 + 1 + 1, 1, none⟩ (.int .u64 (dg (2 * Q) 0))).setCell ⟨w.heap.size + 1 + 1 + 1 + 1, 2, none⟩ (.int .u64 (dg (2 * Q) 1))).setCell ⟨w.heap.size + 1 + 1 + 1 + 1, 3, none⟩ (.int .u64 (dg (2 * Q) 2))).setCell ⟨w.heap.size + 1 + 1 + 1 + 1, 4, none⟩ (.int .u64 (dg (2 * Q) 3))).setCell ⟨w.heap.size + 1 + 1 + 1 + 1, 5, none⟩ (.int .u64 (dg (2 * Q) 4))).setCell ⟨w.heap.size + 1 + 1 + 1 + 1, 6, none⟩ (.int .u64 (dg (2 * Q) 5))).setCell ⟨w.heap.size + 1 + 1 + 1 + 1, 7, none⟩ (.int .u64 (dg (2 * Q) 6))).setCell ⟨w.heap.size + 1 + 1 + 1 + 1, 8, none⟩ (.int .u64 (dg (2 * Q) 7)) = u4 at *
       have zr4 := HR4.size
       go_wp2_with (fail)
       go_roundw
       case rel => exact ⟨n, by omega, by first | rfl | go_num, by rw [← HE.out.1, ← HE.out.2]; exact HR4⟩
       case measure => simp [intOf]
set_option maxRecDepth 100000 in
set_option maxHeartbeats 8000000 in
theorem div_neg_N2 (X D : Int) (w : World) (hX0 : 0 ≤ X) (hX1 : X < B8) (hD0 : 0 < D) (hD1 : D ≤ 57896044618658097711785492504343953926634992332820282019728792003956564819968) (HM : Hid (X % D ≠ 0)) (HQ : Hid (X / D ≠ 0)) (hX2 : X < B8 - 1) :
   Calls Tryd.prog 153 #[.agg (fB true (dg X)), .agg (fB false (dg D))] w fun e w' => e = .returned (.tuple #[.agg (fB true (dg (X / D + 1))), .agg (fB false (dg (D - X % D)))]) ∧ Below w.heap.size w w' := by
 unfold fB
 go_enter Tryd.func153, Tryd.ntmps153
 go_wp2_with (fail)
 go_loopw [8] (fun i wr => ∃ n : Nat, n ≤ 256 ∧ i = .int .i64 ((n : Int) - 1) ∧ DRows w true X D false (X / 2 ^ n / D) (X / 2 ^ n % D) wr) (fun i _ => (intOf i + 1).toNat)
 case atStart =>
   refine ⟨256, by omega, rfl, ?_⟩
   rw [(div_start X D hX0 hX1).1, (div_start X D hX0 hX1).2]
   unfold DRows
   rw [fB_zero]
   unfold fB
   refine ⟨?_, ?_, ?_, ?_, ?_, ?_, by repeat (first | with_reducible assumption | with_reducible exact Below.refl _ _ | (with_reducible refine Below.setCell ?_ (by first | omega | (simp; done) | (simp; omega)) _) | (with_reducible refine Below.alloc ?_ (by first | omega | (simp; done) | (simp; omega)) _) | (with_reducible refine Below.drew ?_) | (with_reducible refine below_drewN ?_ _))⟩ <;> (repeat (first | with_reducible assumption | (with_reducible refine (Below.heap_setCell _ _ _ _ (by first | omega | (simp; done) | (simp; omega))).trans ?_) | (with_reducible refine (heap_dN _ _ _).trans ?_) | (with_reducible refine (heap_dr _ _).trans ?_) | (with_reducible refine (Below.heap_alloc _ _ _ (by first | omega | (simp; done) | (simp; omega))).trans ?_) | (with_reducible exact heap_new' _ _ _ (by first | omega | (simp; done) | (simp; omega)))))
 case round =>
   obtain ⟨n0, hn, rfl, HR⟩ := hrel
   rcases n0 with _ | n
   · simp only [Int.natCast_zero, Int.zero_sub]
     rw [show X / 2 ^ 0 = X by simp] at HR
     obtain ⟨R, hR⟩ : ∃ R, R = X % D := ⟨_, rfl⟩
     rw [← hR] at HR
     have HRE := Lib.hid hR
     have HRN : Hid (R ≠ 0) := Lib.hid (by rw [hR]; exact HM.out)
     have HRR : Hid (0 ≤ R ∧ R < B8) := Lib.hid (by have e0 := Int.emod_nonneg X (Int.ne_of_gt hD0); have e1 := Int.emod_lt_of_pos X hD0; rw [hR]; unfold B8; omega)
     clear hR
     obtain ⟨Q, hQ⟩ : ∃ Q, Q = X / D := ⟨_, rfl⟩
     rw [← hQ] at HR
     have HQE := Lib.hid hQ
     have HQN : Hid (Q ≠ 0) := Lib.hid (by rw [hQ]; exact HQ.out)
     have HQR : Hid (0 ≤ Q ∧ Q < B8) := Lib.hid (by rw [hQ]; exact ⟨Int.ediv_nonneg hX0 (by omega), Int.lt_of_le_of_lt (Int.ediv_le_self D hX0) hX1⟩)
     clear hQ
     have zr := HR.size
     have x0 := HR.x9
     have zb0_wr : w.heap.size < wr.heap.size := by have := HR.size; omega
     have zb1_wr : w.heap.size + 1 < wr.heap.size := by have := HR.size; omega
     have zb2_wr : w.heap.size + 1 + 1 < wr.heap.size := by have := HR.size; omega
     have zb3_wr : w.heap.size + 1 + 1 + 1 < wr.heap.size := by have := HR.size; omega
     have zb4_wr : w.heap.size + 1 + 1 + 1 + 1 < wr.heap.size := by have := HR.size; omega
     have zb5_wr : w.heap.size + 1 + 1 + 1 + 1 + 1 < wr.heap.size := by have := HR.size; omega
     obtain ⟨q0, qf0⟩ := HR.q9
     obtain ⟨q1, q2, q3, q4, q5, q6, q7, q8⟩ := HR.qc
     obtain ⟨qf1, qf2, qf3, qf4, qf5, qf6, qf7, qf8⟩ := HR.qf
     go_wp2_with (fail)
     go_at_call 16
     (with_reducible refine (zero_no Q _ HQR HQN).mono ?_)
     rintro e w5 ⟨rfl, hb5⟩
     obtain ⟨hc5, hf5⟩ := bcell hb5
     have hz5 := hb5.size
     try simp at hz5
     go_upto_region 14 with (fail)
     have HR5 := (HR.step hb5).putb true
     clear x0 hc5 hf5 HR
     clear q0 qf0 q1 qf1 q2 qf2 q3 qf3 q4 qf4 q5 qf5 q6 qf6 q7 qf7 q8 qf8
     generalize (w5).setCell ⟨w.heap.size + 1 + 1 + 1 + 1, 0, none⟩ (.bool true) = u5 at *
     have HR := HR5
     clear HR5
     have zb0_u5 : w.heap.size < u5.heap.size := by have := HR.size; omega
     have zb1_u5 : w.heap.size + 1 < u5.heap.size := by have := HR.size; omega
     have zb2_u5 : w.heap.size + 1 + 1 < u5.heap.size := by have := HR.size; omega
     have zb3_u5 : w.heap.size + 1 + 1 + 1 < u5.heap.size := by have := HR.size; omega
     have zb4_u5 : w.heap.size + 1 + 1 + 1 + 1 < u5.heap.size := by have := HR.size; omega
     have zb5_u5 : w.heap.size + 1 + 1 + 1 + 1 + 1 < u5.heap.size := by have := HR.size; omega
     obtain ⟨rc0, rc1, rc2, rc3, rc4, rc5, rc6, rc7⟩ := HR.rc
     go_wp2_with (fail)
     go_at_call 16
     (with_reducible refine (zero_no R _ HRR HRN).mono ?_)
     rintro e w6 ⟨rfl, hb6⟩
     obtain ⟨hc6, hf6⟩ := bcell hb6
     have hz6 := hb6.size
     try simp at hz6
     go_upto_region 15 with (fail)
     have HR6 := HR.step hb6
     clear hc6 hf6 HR
     clear rc0 rc1 rc2 rc3 rc4 rc5 rc6 rc7
     have HR := HR6
     clear HR6
     have hi1 : InR (-1) := by unfold InR; omega
     have zb0_w6 : w.heap.size < w6.heap.size := by have := HR.size; omega
     have zb1_w6 : w.heap.size + 1 < w6.heap.size := by have := HR.size; omega
     have zb2_w6 : w.heap.size + 1 + 1 < w6.heap.size := by have := HR.size; omega
     have zb3_w6 : w.heap.size + 1 + 1 + 1 < w6.heap.size := by have := HR.size; omega
     have zb4_w6 : w.heap.size + 1 + 1 + 1 + 1 < w6.heap.size := by have := HR.size; omega
     have zb5_w6 : w.heap.size + 1 + 1 + 1 + 1 + 1 < w6.heap.size := by have := HR.size; omega
     obtain ⟨q0, qf0⟩ := HR.q9
     obtain ⟨q1, q2, q3, q4, q5, q6, q7, q8⟩ := HR.qc
     obtain ⟨qf1, qf2, qf3, qf4, qf5, qf6, qf7, qf8⟩ := HR.qf
     have HQ0 := HQR.out.1
     have HQ1 : Q + 1 < B8 := by have h1 := HQE.out; have h2 := Int.ediv_le_self D hX0; unfold B8 at *; omega
     go_region_with (first | (go_at_call 22; (with_reducible refine (int_c (-1) _ hi1).mono ?_); rintro e w7 ⟨rfl, hb7⟩; have HRR7 := HR.drew.step hb7; clear HR; have HR := HRR7; clear HRR7; clear q0 qf0 q1 qf1 q2 qf2 q3 qf3 q4 qf4 q5 qf5 q6 qf6 q7 qf7 q8 qf8; obtain ⟨q0, qf0⟩ := HR.q9; obtain ⟨q1, q2, q3, q4, q5, q6, q7, q8⟩ := HR.qc; obtain ⟨qf1, qf2, qf3, qf4, qf5, qf6, qf7, qf8⟩ := HR.qf) | (go_at_call 14; (with_reducible refine (add_m1_true Q _ HQ0 HQ1).mono ?_); rintro e w8 ⟨rfl, hb8⟩; have HRR8 := HR.step hb8; clear HR; have HR := HRR8; clear HRR8; clear q0 qf0 q1 qf1 q2 qf2 q3 qf3 q4 qf4 q5 qf5 q6 qf6 q7 qf7 q8 qf8; obtain ⟨q0, qf0⟩ := HR.q9; obtain ⟨q1, q2, q3, q4, q5, q6, q7, q8⟩ := HR.qc; obtain ⟨qf1, qf2, qf3, qf4, qf5, qf6, qf7, qf8⟩ := HR.qf))
     all_goals
       have HR8 := HR.putq9 true (Q + 1)
       clear HR
       clear q0 qf0 q1 qf1 q2 qf2 q3 qf3 q4 qf4 q5 qf5 q6 qf6 q7 qf7 q8 qf8
       generalize (((((((((w8).setCell ⟨w.heap.size + 1 + 1 + 1 + 1, 0, none⟩ (.bool true)).setCell ⟨w.heap.size + 1 + 1 + 1 + 1, 1, none⟩ (.int .u64 (dg (Q + 1) 0))).setCell ⟨w.heap.size + 1 + 1 + 1 + 1, 2, none⟩ (.int .u64 (dg (Q + 1) 1))).setCell ⟨w.heap.size + 1 + 1 + 1 + 1, 3, none⟩ (.int .u64 (dg (Q + 1) 2))).setCell ⟨w.heap.size + 1 + 1 + 1 + 1, 4, none⟩ (.int .u64 (dg (Q + 1) 3))).setCell ⟨w.heap.size + 1 + 1 + 1 + 1, 5, none⟩ (.int .u64 (dg (Q + 1) 4))).setCell ⟨w.heap.size + 1 + 1 + 1 + 1, 6, none⟩ (.int .u64 (dg (Q + 1) 5))).setCell ⟨w.heap.size + 1 + 1 + 1 + 1, 7, none⟩ (.int .u64 (dg (Q + 1) 6))).setCell ⟨w.heap.size + 1 + 1 + 1 + 1, 8, none⟩ (.int .u64 (dg (Q + 1) 7)) = u8 at *
       have HR := HR8
       clear HR8
       have zb0_u8 : w.heap.size < u8.heap.size := by have := HR.size; omega
       have zb1_u8 : w.heap.size + 1 < u8.heap.size := by have := HR.size; omega
       have zb2_u8 : w.heap.size + 1 + 1 < u8.heap.size := by have := HR.size; omega
       have zb3_u8 : w.heap.size + 1 + 1 + 1 < u8.heap.size := by have := HR.size; omega
       have zb4_u8 : w.heap.size + 1 + 1 + 1 + 1 < u8.heap.size := by have := HR.size; omega
       have zb5_u8 : w.heap.size + 1 + 1 + 1 + 1 + 1 < u8.heap.size := by have := HR.size; omega
       obtain ⟨rc0, rc1, rc2, rc3, rc4, rc5, rc6, rc7⟩ := HR.rc
       obtain ⟨rf0, rf1, rf2, rf3, rf4, rf5, rf6, rf7⟩ := HR.rf
       obtain ⟨dc0, dc1, dc2, dc3, dc4, dc5, dc6, dc7⟩ := HR.dc
       go_wp2_with (fail)
       go_at_call 72
       (with_reducible refine (less_c D R _).mono ?_)
       rintro e w9 ⟨rfl, hb9⟩
       obtain ⟨hc9, hf9⟩ := bcell hb9
       have hz9 := hb9.size
       try simp at hz9
       go_upto_region 17 with (fail)
       have HR9 := (HR.step hb9).putr (D - R)
       clear rc0 rc1 rc2 rc3 rc4 rc5 rc6 rc7 rf0 rf1 rf2 rf3 rf4 rf5 rf6 rf7
       clear dc0 dc1 dc2 dc3 dc4 dc5 dc6 dc7
       clear hc9 hf9 HR
       generalize ((((((((w9).setCell ⟨w.heap.size + 1 + 1 + 1 + 1 + 1, 1, none⟩ (.int .u64 (dg (D - R) 0))).setCell ⟨w.heap.size + 1 + 1 + 1 + 1 + 1, 2, none⟩ (.int .u64 (dg (D - R) 1))).setCell ⟨w.heap.size + 1 + 1 + 1 + 1 + 1, 3, none⟩ (.int .u64 (dg (D - R) 2))).setCell ⟨w.heap.size + 1 + 1 + 1 + 1 + 1, 4, none⟩ (.int .u64 (dg (D - R) 3))).setCell ⟨w.heap.size + 1 + 1 + 1 + 1 + 1, 5, none⟩ (.int .u64 (dg (D - R) 4))).setCell ⟨w.heap.size + 1 + 1 + 1 + 1 + 1, 6, none⟩ (.int .u64 (dg (D - R) 5))).setCell ⟨w.heap.size + 1 + 1 + 1 + 1 + 1, 7, none⟩ (.int .u64 (dg (D - R) 6))).setCell ⟨w.heap.size + 1 + 1 + 1 + 1 + 1, 8, none⟩ (.int .u64 (dg (D - R) 7)) = u9 at *
       have HR := HR9
       clear HR9
       have zr := HR.size
       obtain ⟨Q0, Q1, Q2, Q3, Q4, Q5, HB⟩ := HR
       unfold fB at Q4 Q5
       have q0 := cell_of_row _ _ 0 _ _ _ Q4
       have q1 := cell_of_row _ _ 1 _ _ _ Q4
       have q2 := cell_of_row _ _ 2 _ _ _ Q4
       have q3 := cell_of_row _ _ 3 _ _ _ Q4
       have q4 := cell_of_row _ _ 4 _ _ _ Q4
       have q5 := cell_of_row _ _ 5 _ _ _ Q4
       have q6 := cell_of_row _ _ 6 _ _ _ Q4
       have q7 := cell_of_row _ _ 7 _ _ _ Q4
       have q8 := cell_of_row _ _ 8 _ _ _ Q4
       have r0 := cell_of_row _ _ 0 _ _ _ Q5
       have r1 := cell_of_row _ _ 1 _ _ _ Q5
       have r2 := cell_of_row _ _ 2 _ _ _ Q5
       have r3 := cell_of_row _ _ 3 _ _ _ Q5
       have r4 := cell_of_row _ _ 4 _ _ _ Q5
       have r5 := cell_of_row _ _ 5 _ _ _ Q5
       have r6 := cell_of_row _ _ 6 _ _ _ Q5
       have r7 := cell_of_row _ _ 7 _ _ _ Q5
       have r8 := cell_of_row _ _ 8 _ _ _ Q5
       have t0 := cell_of_row _ _ 0 _ _ _ Q2
       have t1 := cell_of_row _ _ 1 _ _ _ Q2
       have t2 := cell_of_row _ _ 2 _ _ _ Q2
       have t3 := cell_of_row _ _ 3 _ _ _ Q2
       have t4 := cell_of_row _ _ 4 _ _ _ Q2
       have t5 := cell_of_row _ _ 5 _ _ _ Q2
       have t6 := cell_of_row _ _ 6 _ _ _ Q2
       have t7 := cell_of_row _ _ 7 _ _ _ Q2
       have t8 := cell_of_row _ _ 8 _ _ _ Q2
       have u0 := cell_of_row _ _ 0 _ _ _ Q3
       have u1 := cell_of_row _ _ 1 _ _ _ Q3
       have u2 := cell_of_row _ _ 2 _ _ _ Q3
       have u3 := cell_of_row _ _ 3 _ _ _ Q3
       have u4 := cell_of_row _ _ 4 _ _ _ Q3
       have u5 := cell_of_row _ _ 5 _ _ _ Q3
       have u6 := cell_of_row _ _ 6 _ _ _ Q3
       have u7 := cell_of_row _ _ 7 _ _ _ Q3
       have u8 := cell_of_row _ _ 8 _ _ _ Q3
       have tf0 := row_free Q2 0
       have tf1 := row_free Q2 1
       have tf2 := row_free Q2 2
       have tf3 := row_free Q2 3
       have tf4 := row_free Q2 4
       have tf5 := row_free Q2 5
       have tf6 := row_free Q2 6
       have tf7 := row_free Q2 7
       have tf8 := row_free Q2 8
       have uf0 := row_free Q3 0
       have uf1 := row_free Q3 1
       have uf2 := row_free Q3 2
       have uf3 := row_free Q3 3
       have uf4 := row_free Q3 4
       have uf5 := row_free Q3 5
       have uf6 := row_free Q3 6
       have uf7 := row_free Q3 7
       have uf8 := row_free Q3 8
       simp only [List.getElem?_toArray, List.getElem?_cons_zero, List.getElem?_cons_succ] at q0 q1 q2 q3 q4 q5 q6 q7 q8 r0 r1 r2 r3 r4 r5 r6 r7 r8 t0 t1 t2 t3 t4 t5 t6 t7 t8 u0 u1 u2 u3 u4 u5 u6 u7 u8
       have P2 := Lib.hid Q2
       have P3 := Lib.hid Q3
       have PB := Lib.hid HB
       clear Q0 Q1 Q2 Q3 Q4 Q5 HB
       go_region
       have J2 := row9' P2.out (.bool true) (.int .u64 (dg (Q + 1) 0)) (.int .u64 (dg (Q + 1) 1)) (.int .u64 (dg (Q + 1) 2)) (.int .u64 (dg (Q + 1) 3)) (.int .u64 (dg (Q + 1) 4)) (.int .u64 (dg (Q + 1) 5)) (.int .u64 (dg (Q + 1) 6)) (.int .u64 (dg (Q + 1) 7))
       have J3 := row9' ((heap9d u9 (w.heap.size + 1 + 1 + 1) (w.heap.size + 1 + 1) (by omega) (.bool true) (.int .u64 (dg (Q + 1) 0)) (.int .u64 (dg (Q + 1) 1)) (.int .u64 (dg (Q + 1) 2)) (.int .u64 (dg (Q + 1) 3)) (.int .u64 (dg (Q + 1) 4)) (.int .u64 (dg (Q + 1) 5)) (.int .u64 (dg (Q + 1) 6)) (.int .u64 (dg (Q + 1) 7))).trans P3.out) (.bool false) (.int .u64 (dg (D - R) 0)) (.int .u64 (dg (D - R) 1)) (.int .u64 (dg (D - R) 2)) (.int .u64 (dg (D - R) 3)) (.int .u64 (dg (D - R) 4)) (.int .u64 (dg (D - R) 5)) (.int .u64 (dg (D - R) 6)) (.int .u64 (dg (D - R) 7))
       have J4 := (heap9d _ (w.heap.size + 1 + 1) (w.heap.size + 1 + 1 + 1) (by omega) (.bool false) (.int .u64 (dg (D - R) 0)) (.int .u64 (dg (D - R) 1)) (.int .u64 (dg (D - R) 2)) (.int .u64 (dg (D - R) 3)) (.int .u64 (dg (D - R) 4)) (.int .u64 (dg (D - R) 5)) (.int .u64 (dg (D - R) 6)) (.int .u64 (dg (D - R) 7))).trans J2
       have JB := (below9 (below9 PB.out (show w.heap.size ≤ w.heap.size + 1 + 1 by omega) (.bool true) (.int .u64 (dg (Q + 1) 0)) (.int .u64 (dg (Q + 1) 1)) (.int .u64 (dg (Q + 1) 2)) (.int .u64 (dg (Q + 1) 3)) (.int .u64 (dg (Q + 1) 4)) (.int .u64 (dg (Q + 1) 5)) (.int .u64 (dg (Q + 1) 6)) (.int .u64 (dg (Q + 1) 7))) (show w.heap.size ≤ w.heap.size + 1 + 1 + 1 by omega) (.bool false) (.int .u64 (dg (D - R) 0)) (.int .u64 (dg (D - R) 1)) (.int .u64 (dg (D - R) 2)) (.int .u64 (dg (D - R) 3)) (.int .u64 (dg (D - R) 4)) (.int .u64 (dg (D - R) 5)) (.int .u64 (dg (D - R) 6)) (.int .u64 (dg (D - R) 7))).drew
       replace J4 := (heap_dr _ _).trans J4
       replace J3 := (heap_dr _ _).trans J3
       clear J2 P2 P3 PB q0 q1 q2 q3 q4 q5 q6 q7 q8 r0 r1 r2 r3 r4 r5 r6 r7 r8 t0 t1 t2 t3 t4 t5 t6 t7 t8 u0 u1 u2 u3 u4 u5 u6 u7 u8 tf0 tf1 tf2 tf3 tf4 tf5 tf6 tf7 tf8 uf0 uf1 uf2 uf3 uf4 uf5 uf6 uf7 uf8
       generalize (((((((((((((((((((((((((((((((((((((u9).setCell ⟨w.heap.size + 1 + 1, 0, none⟩ (.bool true))).setCell ⟨w.heap.size + 1 + 1, 1, none⟩ (.int .u64 (dg (Q + 1) 0)))).setCell ⟨w.heap.size + 1 + 1, 2, none⟩ (.int .u64 (dg (Q + 1) 1)))).setCell ⟨w.heap.size + 1 + 1, 3, none⟩ (.int .u64 (dg (Q + 1) 2)))).setCell ⟨w.heap.size + 1 + 1, 4, none⟩ (.int .u64 (dg (Q + 1) 3)))).setCell ⟨w.heap.size + 1 + 1, 5, none⟩ (.int .u64 (dg (Q + 1) 4)))).setCell ⟨w.heap.size + 1 + 1, 6, none⟩ (.int .u64 (dg (Q + 1) 5)))).setCell ⟨w.heap.size + 1 + 1, 7, none⟩ (.int .u64 (dg (Q + 1) 6)))).setCell ⟨w.heap.size + 1 + 1, 8, none⟩ (.int .u64 (dg (Q + 1) 7)))).setCell ⟨w.heap.size + 1 + 1 + 1, 0, none⟩ (.bool false))).setCell ⟨w.heap.size + 1 + 1 + 1, 1, none⟩ (.int .u64 (dg (D - R) 0)))).setCell ⟨w.heap.size + 1 + 1 + 1, 2, none⟩ (.int .u64 (dg (D - R) 1)))).setCell ⟨w.heap.size + 1 + 1 + 1, 3, none⟩ (.int .u64 (dg (D - R) 2)))).setCell ⟨w.heap.size + 1 + 1 + 1, 4, none⟩ (.int .u64 (dg (D - R) 3)))).setCell ⟨w.heap.size + 1 + 1 + 1, 5, none⟩ (.int .u64 (dg (D - R) 4)))).setCell ⟨w.heap.size + 1 + 1 + 1, 6, none⟩ (.int .u64 (dg (D - R) 5)))).setCell ⟨w.heap.size + 1 + 1 + 1, 7, none⟩ (.int .u64 (dg (D - R) 6)))).setCell ⟨w.heap.size + 1 + 1 + 1, 8, none⟩ (.int .u64 (dg (D - R) 7)))).drew = wz at *
       go_wp2_with (fail)
       exact ret_Div _ _ (w.heap.size + 1 + 1) (w.heap.size + 1 + 1 + 1) _ _ _ _ _ _ _ _ _ _ _ _ _ _ _ _ _ _ rfl rfl rfl J4 J3 ⟨by rw [HQE.out, HRE.out], JB⟩
   · rw [show ((n + 1 : Nat) : Int) - 1 = (n : Int) by omega]
     obtain ⟨q, hq, hq8⟩ : ∃ q : Nat, n / 32 = q ∧ q < 8 := ⟨_, rfl, by omega⟩
     obtain ⟨m, hm, hm32⟩ : ∃ m : Nat, n % 32 = m ∧ m < 32 := ⟨_, rfl, by omega⟩
     have hqi : (n : Int) / 32 = (q : Int) := by omega
     have hmi : (n : Int) % 32 = (m : Int) := by omega
     have hbit := bit_dg X n
     rw [hq, hm] at hbit
     have rq := dg_rng X q
     have hbt : (dg X q / 2 ^ m).tmod 2 = bitA X n := by rw [Int.tmod_eq_emod_of_nonneg (Int.ediv_nonneg rq.1 (Int.le_of_lt (two_pos m)))]; exact hbit
     have hcx : wr.cell? ⟨w.heap.size, 1 + q, none⟩ = some (.int .u64 (dg X q)) := by
       rw [Nat.add_comm]; exact (cell_of_row _ _ (q + 1) _ _ _ HR.1).trans (fB_get true (dg X) q hq8)
     have hb := bit_rng X n
     have HI := Lib.hid (div_in X D n hD0)
     have HO := Lib.hid (div_out X D n hD0)
     have e0 := Int.emod_nonneg (X / 2 ^ (n + 1)) (Int.ne_of_gt hD0)
     have e1 := Int.emod_lt_of_pos (X / 2 ^ (n + 1)) hD0
     obtain ⟨R, hR⟩ : ∃ R, R = X / 2 ^ (n + 1) % D := ⟨_, rfl⟩
     obtain ⟨Q, hQ⟩ : ∃ Q, Q = X / 2 ^ (n + 1) / D := ⟨_, rfl⟩
     rw [← hR, ← hQ] at HR
     rw [← hR] at e0 e1
     replace HI := Lib.hid (show D ≤ (2 * R + bitA X n) → (2 * R + bitA X n) - D = X / 2 ^ n % D ∧ 2 * Q + 1 = X / 2 ^ n / D from by rw [hR, hQ]; exact HI.out)
     replace HO := Lib.hid (show (2 * R + bitA X n) < D → (2 * R + bitA X n) = X / 2 ^ n % D ∧ 2 * Q = X / 2 ^ n / D from by rw [hR, hQ]; intro h; have h2 := HO.out h; exact ⟨h2.1, (Int.add_zero _).symm.trans h2.2⟩)
     have HDD : Hid (0 ≤ D ∧ D < B8) := Lib.hid ⟨by omega, by unfold B8; omega⟩
     have HRB : Hid (0 ≤ (2 * R + bitA X n) ∧ (2 * R + bitA X n) < B8) := Lib.hid ⟨by omega, by unfold B8; omega⟩
     have hs1 : Hid (D ≤ (2 * R + bitA X n) → 0 ≤ sizeR (2 * R + bitA X n) D) := Lib.hid fun h => by unfold sizeR; split; omega; rw [if_neg (by omega)]; omega
     have hs2 : Hid ((2 * R + bitA X n) < D → sizeR (2 * R + bitA X n) D < 0) := Lib.hid fun h => by unfold sizeR; rw [if_neg (by omega), if_pos h]; omega
     clear hq hm hbit hR hQ e0 e1
     go_upto_region 6 with (fail)
     clear hcx rq hqi hmi hbt hq8 hm32
     by_cases hc : D ≤ (2 * R + bitA X n)
     · have HE := Lib.hid (HI.out hc)
       have hsz := hs1.out hc
       clear HI HO hs1 hs2 hc
       have zr := HR.size
       obtain ⟨rc0, rc1, rc2, rc3, rc4, rc5, rc6, rc7⟩ := HR.rc
       obtain ⟨rf0, rf1, rf2, rf3, rf4, rf5, rf6, rf7⟩ := HR.rf
       go_wp2_with (fail)
       go_at_call 167
       (with_reducible refine (twice_c R (bitA X n) _ hb).mono ?_)
       rintro e w1 ⟨rfl, hb1⟩
       obtain ⟨hc1, hf1⟩ := bcell hb1
       have hz1 := hb1.size
       try simp at hz1
       go_upto_region 7 with (fail)
       have HR1 := (HR.step hb1).putr (2 * R + bitA X n)
       clear rc0 rc1 rc2 rc3 rc4 rc5 rc6 rc7 rf0 rf1 rf2 rf3 rf4 rf5 rf6 rf7
       clear hc1 hf1 HR
       generalize ((((((((w1).setCell ⟨w.heap.size + 1 + 1 + 1 + 1 + 1, 1, none⟩ (.int .u64 (dg (2 * R + bitA X n) 0))).setCell ⟨w.heap.size + 1 + 1 + 1 + 1 + 1, 2, none⟩ (.int .u64 (dg (2 * R + bitA X n) 1))).setCell ⟨w.heap.size + 1 + 1 + 1 + 1 + 1, 3, none⟩ (.int .u64 (dg (2 * R + bitA X n) 2))).setCell ⟨w.heap.size + 1 + 1 + 1 + 1 + 1, 4, none⟩ (.int .u64 (dg (2 * R + bitA X n) 3))).setCell ⟨w.heap.size + 1 + 1 + 1 + 1 + 1, 5, none⟩ (.int .u64 (dg (2 * R + bitA X n) 4))).setCell ⟨w.heap.size + 1 + 1 + 1 + 1 + 1, 6, none⟩ (.int .u64 (dg (2 * R + bitA X n) 5))).setCell ⟨w.heap.size + 1 + 1 + 1 + 1 + 1, 7, none⟩ (.int .u64 (dg (2 * R + bitA X n) 6))).setCell ⟨w.heap.size + 1 + 1 + 1 + 1 + 1, 8, none⟩ (.int .u64 (dg (2 * R + bitA X n) 7)) = u1 at *
       have HR := HR1
       clear HR1
       have zr1 := HR.size
       obtain ⟨rc0, rc1, rc2, rc3, rc4, rc5, rc6, rc7⟩ := HR.rc
       obtain ⟨rf0, rf1, rf2, rf3, rf4, rf5, rf6, rf7⟩ := HR.rf
       obtain ⟨dc0, dc1, dc2, dc3, dc4, dc5, dc6, dc7⟩ := HR.dc
       go_wp2_with (fail)
       go_at_call 71
       (with_reducible refine (size_c (2 * R + bitA X n) D _ HRB HDD).mono ?_)
       rintro e w2 ⟨rfl, hb2⟩
       obtain ⟨hc2, hf2⟩ := bcell hb2
       have hz2 := hb2.size
       try simp at hz2
       have HR2 := HR.step hb2
       clear rc0 rc1 rc2 rc3 rc4 rc5 rc6 rc7 rf0 rf1 rf2 rf3 rf4 rf5 rf6 rf7
       clear dc0 dc1 dc2 dc3 dc4 dc5 dc6 dc7
       clear hc2 hf2 HR
       have HR := HR2
       clear HR2
       have zr2 := HR.size
       generalize sizeR (2 * R + bitA X n) D = sz at *
       have zq2 : w.heap.size + 1 + 1 + 1 + 1 < w2.heap.size := by omega
       obtain ⟨rc0, rc1, rc2, rc3, rc4, rc5, rc6, rc7⟩ := HR.rc
       obtain ⟨rf0, rf1, rf2, rf3, rf4, rf5, rf6, rf7⟩ := HR.rf
       obtain ⟨dc0, dc1, dc2, dc3, dc4, dc5, dc6, dc7⟩ := HR.dc
       go_wp2_with (fail)
       go_at_call 72
       (with_reducible refine (less_c (2 * R + bitA X n) D _).mono ?_)
       rintro e w3 ⟨rfl, hb3⟩
       obtain ⟨hc3, hf3⟩ := bcell hb3
       have hz3 := hb3.size
       try simp at hz3
       go_upto_region 10 with (fail)
       have HR3 := (HR.step hb3).putr ((2 * R + bitA X n) - D)
       clear rc0 rc1 rc2 rc3 rc4 rc5 rc6 rc7 rf0 rf1 rf2 rf3 rf4 rf5 rf6 rf7
       clear dc0 dc1 dc2 dc3 dc4 dc5 dc6 dc7
       clear hc3 hf3 HR
       generalize ((((((((w3).setCell ⟨w.heap.size + 1 + 1 + 1 + 1 + 1, 1, none⟩ (.int .u64 (dg ((2 * R + bitA X n) - D) 0))).setCell ⟨w.heap.size + 1 + 1 + 1 + 1 + 1, 2, none⟩ (.int .u64 (dg ((2 * R + bitA X n) - D) 1))).setCell ⟨w.heap.size + 1 + 1 + 1 + 1 + 1, 3, none⟩ (.int .u64 (dg ((2 * R + bitA X n) - D) 2))).setCell ⟨w.heap.size + 1 + 1 + 1 + 1 + 1, 4, none⟩ (.int .u64 (dg ((2 * R + bitA X n) - D) 3))).setCell ⟨w.heap.size + 1 + 1 + 1 + 1 + 1, 5, none⟩ (.int .u64 (dg ((2 * R + bitA X n) - D) 4))).setCell ⟨w.heap.size + 1 + 1 + 1 + 1 + 1, 6, none⟩ (.int .u64 (dg ((2 * R + bitA X n) - D) 5))).setCell ⟨w.heap.size + 1 + 1 + 1 + 1 + 1, 7, none⟩ (.int .u64 (dg ((2 * R + bitA X n) - D) 6))).setCell ⟨w.heap.size + 1 + 1 + 1 + 1 + 1, 8, none⟩ (.int .u64 (dg ((2 * R + bitA X n) - D) 7)) = u3 at *
       have HR := HR3
       clear HR3
       have zr3 := HR.size
       have zq3 : w.heap.size + 1 + 1 + 1 + 1 < u3.heap.size := by omega
       obtain ⟨qc0, qc1, qc2, qc3, qc4, qc5, qc6, qc7⟩ := HR.qc
       obtain ⟨qf0, qf1, qf2, qf3, qf4, qf5, qf6, qf7⟩ := HR.qf
       go_wp2_with (fail)
       go_at_call 167
       (with_reducible refine (twice_c Q 1 _ (by omega)).mono ?_)
       rintro e w4 ⟨rfl, hb4⟩
       obtain ⟨hc4, hf4⟩ := bcell hb4
       have hz4 := hb4.size
       try simp at hz4
       go_upto_region 4 with (fail)
       have HR4 := (HR.step hb4).putq (2 * Q + 1)
       clear qc0 qc1 qc2 qc3 qc4 qc5 qc6 qc7 qf0 qf1 qf2 qf3 qf4 qf5 qf6 qf7
       clear hc4 hf4 HR
       generalize ((((((((w4).setCell ⟨w.heap.size + 1 + 1 + 1 + 1, 1, none⟩ (.int .u64 (dg (2 * Q + 1) 0))).setCell ⟨w.heap.size + 1 + 1 + 1 + 1, 2, none⟩ (.int .u64 (dg (2 * Q + 1) 1))).setCell ⟨w.heap.size + 1 + 1 + 1 + 1, 3, none⟩ (.int .u64 (dg (2 * Q + 1) 2))).setCell ⟨w.heap.size + 1 + 1 + 1 + 1, 4, none⟩ (.int .u64 (dg (2 * Q + 1) 3))).setCell ⟨w.heap.size + 1 + 1 + 1 + 1, 5, none⟩ (.int .u64 (dg (2 * Q + 1) 4))).setCell ⟨w.heap.size + 1 + 1 + 1 + 1, 6, none⟩ (.int .u64 (dg (2 * Q + 1) 5))).setCell ⟨w.heap.size + 1 + 1 + 1 + 1, 7, none⟩ (.int .u64 (dg (2 * Q + 1) 6))).setCell ⟨w.heap.size + 1 + 1 + 1 + 1, 8, none⟩ (.int .u64 (dg (2 * Q + 1) 7)) = u4 at *
       have zr4 := HR4.size
       go_wp2_with (fail)
       go_roundw
       case rel => exact ⟨n, by omega, by first | rfl | go_num, by rw [← HE.out.1, ← HE.out.2]; exact HR4⟩
       case measure => simp [intOf]
     · have HE := Lib.hid (HO.out (by omega))
       have hsz := hs2.out (by omega)
       clear HI HO hs1 hs2 hc
       have zr := HR.size
       obtain ⟨rc0, rc1, rc2, rc3, rc4, rc5, rc6, rc7⟩ := HR.rc
       obtain ⟨rf0, rf1, rf2, rf3, rf4, rf5, rf6, rf7⟩ := HR.rf
       go_wp2_with (fail)
       go_at_call 167
       (with_reducible refine (twice_c R (bitA X n) _ hb).mono ?_)
       rintro e w1 ⟨rfl, hb1⟩
       obtain ⟨hc1, hf1⟩ := bcell hb1
       have hz1 := hb1.size
       try simp at hz1
       go_upto_region 7 with (fail)
       have HR1 := (HR.step hb1).putr (2 * R + bitA X n)
       clear rc0 rc1 rc2 rc3 rc4 rc5 rc6 rc7 rf0 rf1 rf2 rf3 rf4 rf5 rf6 rf7
       clear hc1 hf1 HR
       generalize ((((((((w1).setCell ⟨w.heap.size + 1 + 1 + 1 + 1 + 1, 1, none⟩ (.int .u64 (dg (2 * R + bitA X n) 0))).setCell ⟨w.heap.size + 1 + 1 + 1 + 1 + 1, 2, none⟩ (.int .u64 (dg (2 * R + bitA X n) 1))).setCell ⟨w.heap.size + 1 + 1 + 1 + 1 + 1, 3, none⟩ (.int .u64 (dg (2 * R + bitA X n) 2))).setCell ⟨w.heap.size + 1 + 1 + 1 + 1 + 1, 4, none⟩ (.int .u64 (dg (2 * R + bitA X n) 3))).setCell ⟨w.heap.size + 1 + 1 + 1 + 1 + 1, 5, none⟩ (.int .u64 (dg (2 * R + bitA X n) 4))).setCell ⟨w.heap.size + 1 + 1 + 1 + 1 + 1, 6, none⟩ (.int .u64 (dg (2 * R + bitA X n) 5))).setCell ⟨w.heap.size + 1 + 1 + 1 + 1 + 1, 7, none⟩ (.int .u64 (dg (2 * R + bitA X n) 6))).setCell ⟨w.heap.size + 1 + 1 + 1 + 1 + 1, 8, none⟩ (.int .u64 (dg (2 * R + bitA X n) 7)) = u1 at *
       have HR := HR1
       clear HR1
       have zr1 := HR.size
       obtain ⟨rc0, rc1, rc2, rc3, rc4, rc5, rc6, rc7⟩ := HR.rc
       obtain ⟨rf0, rf1, rf2, rf3, rf4, rf5, rf6, rf7⟩ := HR.rf
       obtain ⟨dc0, dc1, dc2, dc3, dc4, dc5, dc6, dc7⟩ := HR.dc
       go_wp2_with (fail)
       go_at_call 71
       (with_reducible refine (size_c (2 * R + bitA X n) D _ HRB HDD).mono ?_)
       rintro e w2 ⟨rfl, hb2⟩
       obtain ⟨hc2, hf2⟩ := bcell hb2
       have hz2 := hb2.size
       try simp at hz2
       have HR2 := HR.step hb2
       clear rc0 rc1 rc2 rc3 rc4 rc5 rc6 rc7 rf0 rf1 rf2 rf3 rf4 rf5 rf6 rf7
       clear dc0 dc1 dc2 dc3 dc4 dc5 dc6 dc7
       clear hc2 hf2 HR
       have HR := HR2
       clear HR2
       have zr2 := HR.size
       generalize sizeR (2 * R + bitA X n) D = sz at *
       have zq2 : w.heap.size + 1 + 1 + 1 + 1 < w2.heap.size := by omega
       obtain ⟨qc0, qc1, qc2, qc3, qc4, qc5, qc6, qc7⟩ := HR.qc
       obtain ⟨qf0, qf1, qf2, qf3, qf4, qf5, qf6, qf7⟩ := HR.qf
       go_wp2_with (fail)
       go_at_call 167
       (with_reducible refine (twice_c Q 0 _ (by omega)).mono ?_)
       rintro e w4 ⟨rfl, hb4⟩
       obtain ⟨hc4, hf4⟩ := bcell hb4
       have hz4 := hb4.size
       try simp at hz4
       go_upto_region 4 with (fail)
       have HR4 := (HR.step hb4).putq (2 * Q)
       clear qc0 qc1 qc2 qc3 qc4 qc5 qc6 qc7 qf0 qf1 qf2 qf3 qf4 qf5 qf6 qf7
       clear hc4 hf4 HR
       generalize ((((((((w4).setCell ⟨w.heap.size + 1 + 1 + 1 + 1, 1, none⟩ (.int .u64 (dg (2 * Q) 0))).setCell ⟨w.heap.size + 1 + 1 + 1 + 1, 2, none⟩ (.int .u64 (dg (2 * Q) 1))).setCell ⟨w.heap.size + 1 + 1 + 1 + 1, 3, none⟩ (.int .u64 (dg (2 * Q) 2))).setCell ⟨w.heap.size + 1 + 1 + 1 + 1, 4, none⟩ (.int .u64 (dg (2 * Q) 3))).setCell ⟨w.heap.size + 1 + 1 + 1 + 1, 5, none⟩ (.int .u64 (dg (2 * Q) 4))).setCell ⟨w.heap.size + 1 + 1 + 1 + 1, 6, none⟩ (.int .u64 (dg (2 * Q) 5))).setCell ⟨w.heap.size + 1 + 1 + 1 + 1, 7, none⟩ (.int .u64 (dg (2 * Q) 6))).setCell ⟨w.heap.size + 1 + 1 + 1 + 1, 8, none⟩ (.int .u64 (dg (2 * Q) 7)) = u4 at *
       have zr4 := HR4.size
       go_wp2_with (fail)
       go_roundw
       case rel => exact ⟨n, by omega, by first | rfl | go_num, by rw [← HE.out.1, ← HE.out.2]; exact HR4⟩
       case measure => simp [intOf]
end Go.Proofs.YtgondiedehjkhaaDoor
