/-
 Numbers of digits: division, bit by bit.
-/
import Derived.Test.YtgondiedehjkhaaGreatDoorBig2pgw
import Derived.Deep.Cut
import Derived.Deep.CutRange
import Derived.Deep.RegionWith
import Derived.RegionTactic
namespace Go.Proofs.YtgondiedehjkhaaGreatDoor
open Go.RowKit Go.Extern.Stop Go.Stop Go.Extern
set_option linter.unusedVariables false
set_option linter.unusedSimpArgs false
def DRows (w : World) (s : Bool) (X D : Int) (b : Bool) (q r : Int) (wr : World) : Prop :=
 wr.heap[w.heap.size]? = some (.cells (fB s (dg X)) 158 (0, 0)) ∧ wr.heap[w.heap.size + 1]? = some (.cells (fB false (dg D)) 158 (0, 0)) ∧ wr.heap[w.heap.size + 1 + 1]? = some (.cells Z9 158 (0, 0)) ∧ wr.heap[w.heap.size + 1 + 1 + 1]? = some (.cells Z9 158 (0, 0)) ∧ wr.heap[w.heap.size + 1 + 1 + 1 + 1]? = some (.cells (fB b (dg q)) 158 (0, 0)) ∧ wr.heap[w.heap.size + 1 + 1 + 1 + 1 + 1]? = some (.cells (fB false (dg r)) 158 (0, 0)) ∧ Below w.heap.size w wr
theorem DRows.step {w : World} {s : Bool} {X D : Int} {b : Bool} {q r : Int} {wr w' : World} (h : DRows w s X D b q r wr) (hb : Below wr.heap.size wr w') : DRows w s X D b q r w' := by
 obtain ⟨h0, h1, h2, h3, h4, h5, hB⟩ := h
 have z5 : w.heap.size + 1 + 1 + 1 + 1 + 1 < wr.heap.size := (Array.getElem?_eq_some_iff.1 h5).1
 exact ⟨(hb.block _ (by omega)).trans h0, (hb.block _ (by omega)).trans h1, (hb.block _ (by omega)).trans h2, (hb.block _ (by omega)).trans h3, (hb.block _ (by omega)).trans h4, (hb.block _ (by omega)).trans h5, hB.trans (hb.mono (by omega))⟩
theorem DRows.putr {w : World} {s : Bool} {X D : Int} {b : Bool} {q r : Int} {wr : World} (h : DRows w s X D b q r wr) (z : Int) : DRows w s X D b q z (((((((((wr).setCell ⟨w.heap.size + 1 + 1 + 1 + 1 + 1, 1, none⟩ (.int .u64 (dg (z) 0))).setCell ⟨w.heap.size + 1 + 1 + 1 + 1 + 1, 2, none⟩ (.int .u64 (dg (z) 1))).setCell ⟨w.heap.size + 1 + 1 + 1 + 1 + 1, 3, none⟩ (.int .u64 (dg (z) 2))).setCell ⟨w.heap.size + 1 + 1 + 1 + 1 + 1, 4, none⟩ (.int .u64 (dg (z) 3))).setCell ⟨w.heap.size + 1 + 1 + 1 + 1 + 1, 5, none⟩ (.int .u64 (dg (z) 4))).setCell ⟨w.heap.size + 1 + 1 + 1 + 1 + 1, 6, none⟩ (.int .u64 (dg (z) 5))).setCell ⟨w.heap.size + 1 + 1 + 1 + 1 + 1, 7, none⟩ (.int .u64 (dg (z) 6))).setCell ⟨w.heap.size + 1 + 1 + 1 + 1 + 1, 8, none⟩ (.int .u64 (dg (z) 7))) := by
 obtain ⟨h0, h1, h2, h3, h4, h5, hB⟩ := h
 unfold fB at h5
 exact ⟨(row18' wr _ _ (by omega) _ _ _ _ _ _ _ _).trans h0, (row18' wr _ _ (by omega) _ _ _ _ _ _ _ _).trans h1, (row18' wr _ _ (by omega) _ _ _ _ _ _ _ _).trans h2, (row18' wr _ _ (by omega) _ _ _ _ _ _ _ _).trans h3, (row18' wr _ _ (by omega) _ _ _ _ _ _ _ _).trans h4, row18 h5 _ _ _ _ _ _ _ _, below18 hB (by omega) _ _ _ _ _ _ _ _⟩
theorem DRows.putq {w : World} {s : Bool} {X D : Int} {b : Bool} {q r : Int} {wr : World} (h : DRows w s X D b q r wr) (z : Int) : DRows w s X D b z r (((((((((wr).setCell ⟨w.heap.size + 1 + 1 + 1 + 1, 1, none⟩ (.int .u64 (dg (z) 0))).setCell ⟨w.heap.size + 1 + 1 + 1 + 1, 2, none⟩ (.int .u64 (dg (z) 1))).setCell ⟨w.heap.size + 1 + 1 + 1 + 1, 3, none⟩ (.int .u64 (dg (z) 2))).setCell ⟨w.heap.size + 1 + 1 + 1 + 1, 4, none⟩ (.int .u64 (dg (z) 3))).setCell ⟨w.heap.size + 1 + 1 + 1 + 1, 5, none⟩ (.int .u64 (dg (z) 4))).setCell ⟨w.heap.size + 1 + 1 + 1 + 1, 6, none⟩ (.int .u64 (dg (z) 5))).setCell ⟨w.heap.size + 1 + 1 + 1 + 1, 7, none⟩ (.int .u64 (dg (z) 6))).setCell ⟨w.heap.size + 1 + 1 + 1 + 1, 8, none⟩ (.int .u64 (dg (z) 7))) := by
 obtain ⟨h0, h1, h2, h3, h4, h5, hB⟩ := h
 unfold fB at h4
 exact ⟨(row18' wr _ _ (by omega) _ _ _ _ _ _ _ _).trans h0, (row18' wr _ _ (by omega) _ _ _ _ _ _ _ _).trans h1, (row18' wr _ _ (by omega) _ _ _ _ _ _ _ _).trans h2, (row18' wr _ _ (by omega) _ _ _ _ _ _ _ _).trans h3, row18 h4 _ _ _ _ _ _ _ _, (row18' wr _ _ (by omega) _ _ _ _ _ _ _ _).trans h5, below18 hB (by omega) _ _ _ _ _ _ _ _⟩
theorem DRows.size {w : World} {s : Bool} {X D : Int} {b : Bool} {q r : Int} {wr : World} (h : DRows w s X D b q r wr) : w.heap.size + 1 + 1 + 1 + 1 + 1 < wr.heap.size := (Array.getElem?_eq_some_iff.1 h.2.2.2.2.2.1).1
theorem DRows.dc {w : World} {s : Bool} {X D : Int} {b : Bool} {q r : Int} {wr : World} (h : DRows w s X D b q r wr) : wr.cell? ⟨w.heap.size + 1, 1, none⟩ = some (.int .u64 (dg D 0)) ∧ wr.cell? ⟨w.heap.size + 1, 2, none⟩ = some (.int .u64 (dg D 1)) ∧ wr.cell? ⟨w.heap.size + 1, 3, none⟩ = some (.int .u64 (dg D 2)) ∧ wr.cell? ⟨w.heap.size + 1, 4, none⟩ = some (.int .u64 (dg D 3)) ∧ wr.cell? ⟨w.heap.size + 1, 5, none⟩ = some (.int .u64 (dg D 4)) ∧ wr.cell? ⟨w.heap.size + 1, 6, none⟩ = some (.int .u64 (dg D 5)) ∧ wr.cell? ⟨w.heap.size + 1, 7, none⟩ = some (.int .u64 (dg D 6)) ∧ wr.cell? ⟨w.heap.size + 1, 8, none⟩ = some (.int .u64 (dg D 7)) := by
 have hR := h.2.1
 exact ⟨(cell_of_row _ _ 1 _ _ _ hR).trans rfl, (cell_of_row _ _ 2 _ _ _ hR).trans rfl, (cell_of_row _ _ 3 _ _ _ hR).trans rfl, (cell_of_row _ _ 4 _ _ _ hR).trans rfl, (cell_of_row _ _ 5 _ _ _ hR).trans rfl, (cell_of_row _ _ 6 _ _ _ hR).trans rfl, (cell_of_row _ _ 7 _ _ _ hR).trans rfl, (cell_of_row _ _ 8 _ _ _ hR).trans rfl⟩
theorem DRows.qc {w : World} {s : Bool} {X D : Int} {b : Bool} {q r : Int} {wr : World} (h : DRows w s X D b q r wr) : wr.cell? ⟨w.heap.size + 1 + 1 + 1 + 1, 1, none⟩ = some (.int .u64 (dg q 0)) ∧ wr.cell? ⟨w.heap.size + 1 + 1 + 1 + 1, 2, none⟩ = some (.int .u64 (dg q 1)) ∧ wr.cell? ⟨w.heap.size + 1 + 1 + 1 + 1, 3, none⟩ = some (.int .u64 (dg q 2)) ∧ wr.cell? ⟨w.heap.size + 1 + 1 + 1 + 1, 4, none⟩ = some (.int .u64 (dg q 3)) ∧ wr.cell? ⟨w.heap.size + 1 + 1 + 1 + 1, 5, none⟩ = some (.int .u64 (dg q 4)) ∧ wr.cell? ⟨w.heap.size + 1 + 1 + 1 + 1, 6, none⟩ = some (.int .u64 (dg q 5)) ∧ wr.cell? ⟨w.heap.size + 1 + 1 + 1 + 1, 7, none⟩ = some (.int .u64 (dg q 6)) ∧ wr.cell? ⟨w.heap.size + 1 + 1 + 1 + 1, 8, none⟩ = some (.int .u64 (dg q 7)) := by
 have hR := h.2.2.2.2.1
 exact ⟨(cell_of_row _ _ 1 _ _ _ hR).trans rfl, (cell_of_row _ _ 2 _ _ _ hR).trans rfl, (cell_of_row _ _ 3 _ _ _ hR).trans rfl, (cell_of_row _ _ 4 _ _ _ hR).trans rfl, (cell_of_row _ _ 5 _ _ _ hR).trans rfl, (cell_of_row _ _ 6 _ _ _ hR).trans rfl, (cell_of_row _ _ 7 _ _ _ hR).trans rfl, (cell_of_row _ _ 8 _ _ _ hR).trans rfl⟩
theorem DRows.qf {w : World} {s : Bool} {X D : Int} {b : Bool} {q r : Int} {wr : World} (h : DRows w s X D b q r wr) : wr.frozen? ⟨w.heap.size + 1 + 1 + 1 + 1, 1, none⟩ = false ∧ wr.frozen? ⟨w.heap.size + 1 + 1 + 1 + 1, 2, none⟩ = false ∧ wr.frozen? ⟨w.heap.size + 1 + 1 + 1 + 1, 3, none⟩ = false ∧ wr.frozen? ⟨w.heap.size + 1 + 1 + 1 + 1, 4, none⟩ = false ∧ wr.frozen? ⟨w.heap.size + 1 + 1 + 1 + 1, 5, none⟩ = false ∧ wr.frozen? ⟨w.heap.size + 1 + 1 + 1 + 1, 6, none⟩ = false ∧ wr.frozen? ⟨w.heap.size + 1 + 1 + 1 + 1, 7, none⟩ = false ∧ wr.frozen? ⟨w.heap.size + 1 + 1 + 1 + 1, 8, none⟩ = false := by
 have hR := h.2.2.2.2.1
 exact ⟨row_free hR 1, row_free hR 2, row_free hR 3, row_free hR 4, row_free hR 5, row_free hR 6, row_free hR 7, row_free hR 8⟩
theorem DRows.rc {w : World} {s : Bool} {X D : Int} {b : Bool} {q r : Int} {wr : World} (h : DRows w s X D b q r wr) : wr.cell? ⟨w.heap.size + 1 + 1 + 1 + 1 + 1, 1, none⟩ = some (.int .u64 (dg r 0)) ∧ wr.cell? ⟨w.heap.size + 1 + 1 + 1 + 1 + 1, 2, none⟩ = some (.int .u64 (dg r 1)) ∧ wr.cell? ⟨w.heap.size + 1 + 1 + 1 + 1 + 1, 3, none⟩ = some (.int .u64 (dg r 2)) ∧ wr.cell? ⟨w.heap.size + 1 + 1 + 1 + 1 + 1, 4, none⟩ = some (.int .u64 (dg r 3)) ∧ wr.cell? ⟨w.heap.size + 1 + 1 + 1 + 1 + 1, 5, none⟩ = some (.int .u64 (dg r 4)) ∧ wr.cell? ⟨w.heap.size + 1 + 1 + 1 + 1 + 1, 6, none⟩ = some (.int .u64 (dg r 5)) ∧ wr.cell? ⟨w.heap.size + 1 + 1 + 1 + 1 + 1, 7, none⟩ = some (.int .u64 (dg r 6)) ∧ wr.cell? ⟨w.heap.size + 1 + 1 + 1 + 1 + 1, 8, none⟩ = some (.int .u64 (dg r 7)) := by
 have hR := h.2.2.2.2.2.1
 exact ⟨(cell_of_row _ _ 1 _ _ _ hR).trans rfl, (cell_of_row _ _ 2 _ _ _ hR).trans rfl, (cell_of_row _ _ 3 _ _ _ hR).trans rfl, (cell_of_row _ _ 4 _ _ _ hR).trans rfl, (cell_of_row _ _ 5 _ _ _ hR).trans rfl, (cell_of_row _ _ 6 _ _ _ hR).trans rfl, (cell_of_row _ _ 7 _ _ _ hR).trans rfl, (cell_of_row _ _ 8 _ _ _ hR).trans rfl⟩
theorem DRows.rf {w : World} {s : Bool} {X D : Int} {b : Bool} {q r : Int} {wr : World} (h : DRows w s X D b q r wr) : wr.frozen? ⟨w.heap.size + 1 + 1 + 1 + 1 + 1, 1, none⟩ = false ∧ wr.frozen? ⟨w.heap.size + 1 + 1 + 1 + 1 + 1, 2, none⟩ = false ∧ wr.frozen? ⟨w.heap.size + 1 + 1 + 1 + 1 + 1, 3, none⟩ = false ∧ wr.frozen? ⟨w.heap.size + 1 + 1 + 1 + 1 + 1, 4, none⟩ = false ∧ wr.frozen? ⟨w.heap.size + 1 + 1 + 1 + 1 + 1, 5, none⟩ = false ∧ wr.frozen? ⟨w.heap.size + 1 + 1 + 1 + 1 + 1, 6, none⟩ = false ∧ wr.frozen? ⟨w.heap.size + 1 + 1 + 1 + 1 + 1, 7, none⟩ = false ∧ wr.frozen? ⟨w.heap.size + 1 + 1 + 1 + 1 + 1, 8, none⟩ = false := by
 have hR := h.2.2.2.2.2.1
 exact ⟨row_free hR 1, row_free hR 2, row_free hR 3, row_free hR 4, row_free hR 5, row_free hR 6, row_free hR 7, row_free hR 8⟩
theorem div_start (X D : Int) (hX0 : 0 ≤ X) (hX1 : X < B8) : X / 2 ^ 256 / D = 0 ∧ X / 2 ^ 256 % D = 0 := by
 have h : X / 2 ^ 256 = 0 := by
   rw [show (2 : Int) ^ 256 = B8 by decide]
   exact Int.ediv_eq_zero_of_lt hX0 hX1
 rw [h]; simp
theorem fB_zero : fB false (dg 0) = Z9 := by simp [fB, dg]
set_option maxRecDepth 100000 in
theorem ret_Div (a : Act) (W : World) (g g2 : Nat) (a0 a1 a2 a3 a4 a5 a6 a7 a8 b0 b1 b2 b3 b4 b5 b6 b7 b8 : Value) (ha : a.tmps.getD 4 undef = .pointer (some ⟨g, 0, none⟩)) (hb : a.tmps.getD 5 undef = .pointer (some ⟨g2, 0, none⟩)) (hd : a.defers = []) (hR : W.heap[g]? = some (.cells #[a0, a1, a2, a3, a4, a5, a6, a7, a8] 158 (0, 0))) (hS : W.heap[g2]? = some (.cells #[b0, b1, b2, b3, b4, b5, b6, b7, b8] 158 (0, 0))) {R : Ending → World → Prop} (h : R (.returned (.tuple #[.agg #[a0, a1, a2, a3, a4, a5, a6, a7, a8], .agg #[b0, b1, b2, b3, b4, b5, b6, b7, b8]])) W) :
   bodyPost Tryz.prog Tryz.f68 R Exit.ret a W := by
 have k0 := cell_of_row _ _ 0 _ _ _ hR
 have k1 := cell_of_row _ _ 1 _ _ _ hR
 have k2 := cell_of_row _ _ 2 _ _ _ hR
 have k3 := cell_of_row _ _ 3 _ _ _ hR
 have k4 := cell_of_row _ _ 4 _ _ _ hR
 have k5 := cell_of_row _ _ 5 _ _ _ hR
 have k6 := cell_of_row _ _ 6 _ _ _ hR
 have k7 := cell_of_row _ _ 7 _ _ _ hR
 have k8 := cell_of_row _ _ 8 _ _ _ hR
 have l0 := cell_of_row _ _ 0 _ _ _ hS
 have l1 := cell_of_row _ _ 1 _ _ _ hS
 have l2 := cell_of_row _ _ 2 _ _ _ hS
 have l3 := cell_of_row _ _ 3 _ _ _ hS
 have l4 := cell_of_row _ _ 4 _ _ _ hS
 have l5 := cell_of_row _ _ 5 _ _ _ hS
 have l6 := cell_of_row _ _ 6 _ _ _ hS
 have l7 := cell_of_row _ _ 7 _ _ _ hS
 have l8 := cell_of_row _ _ 8 _ _ _ hS
 simp only [List.getElem?_toArray, List.getElem?_cons_zero, List.getElem?_cons_succ] at k0 k1 k2 k3 k4 k5 k6 k7 k8 l0 l1 l2 l3 l4 l5 l6 l7 l8
 clear hR hS
 refine bodyPost_ret (v := .tuple #[.agg #[a0, a1, a2, a3, a4, a5, a6, a7, a8], .agg #[b0, b1, b2, b3, b4, b5, b6, b7, b8]]) ?_ hd h
 have ha2 : a.tmps[4]?.getD undef = .pointer (some ⟨g, 0, none⟩) := by simpa using ha
 have hb2 : a.tmps[5]?.getD undef = .pointer (some ⟨g2, 0, none⟩) := by simpa using hb
 clear ha hb
 simp only [results, Tryz.results68]
 simp [ha2, hb2, go_sem, k0, k1, k2, k3, k4, k5, k6, k7, k8, l0, l1, l2, l3, l4, l5, l6, l7, l8]
theorem heap9d (w : World) (g2 g : Nat) (hne : g2 ≠ g) (v0 v1 v2 v3 v4 v5 v6 v7 v8 : Value) : ((((((((((((((((((w).setCell ⟨g, 0, none⟩ (v0))).setCell ⟨g, 1, none⟩ (v1))).setCell ⟨g, 2, none⟩ (v2))).setCell ⟨g, 3, none⟩ (v3))).setCell ⟨g, 4, none⟩ (v4))).setCell ⟨g, 5, none⟩ (v5))).setCell ⟨g, 6, none⟩ (v6))).setCell ⟨g, 7, none⟩ (v7))).setCell ⟨g, 8, none⟩ (v8)).heap[g2]? = w.heap[g2]? := by
 repeat (first | (with_reducible rfl) | (with_reducible refine (Below.heap_setCell _ _ _ _ (by exact hne)).trans ?_))
set_option maxRecDepth 100000 in
set_option maxHeartbeats 8000000 in
theorem div_pos_raw (X D : Int) (w : World) (hX0 : 0 ≤ X) (hX1 : X < B8) (hD0 : 0 < D) (hD1 : D ≤ 57896044618658097711785492504343953926634992332820282019728792003956564819968)  :
   Calls Tryz.prog 68 #[.agg (fB false (dg X)), .agg (fB false (dg D))] w fun e w' => e = .returned (.tuple #[.agg (fB false (dg (X / D))), .agg (fB false (dg (X % D)))]) ∧ Below w.heap.size w w' := by
 unfold fB
 go_enter Tryz.func68, Tryz.ntmps68
 go_wp2_with (fail)
 go_loopw [8] (fun i wr => ∃ n : Nat, n ≤ 256 ∧ i = .int .i64 ((n : Int) - 1) ∧ DRows w false X D false (X / 2 ^ n / D) (X / 2 ^ n % D) wr) (fun i _ => (intOf i + 1).toNat)
 case atStart =>
   refine ⟨256, by omega, rfl, ?_⟩
   rw [(div_start X D hX0 hX1).1, (div_start X D hX0 hX1).2]
   unfold DRows
   rw [fB_zero]
   unfold fB
   refine ⟨?_, ?_, ?_, ?_, ?_, ?_, by repeat (first | with_reducible assumption | with_reducible exact Below.refl _ _ | (with_reducible refine Below.setCell ?_ (by first | omega | (simp; done) | (simp; omega)) _) | (with_reducible refine Below.alloc ?_ (by first | omega | (simp; done) | (simp; omega)) _) | (with_reducible refine Below.drew ?_) | (with_reducible refine below_drewN ?_ _))⟩ <;> (repeat (first | with_reducible assumption | (with_reducible refine (Below.heap_setCell _ _ _ _ (by first | omega | (simp; done) | (simp; omega))).trans ?_) | (with_reducible refine (heap_dN _ _ _).trans ?_) | (with_reducible refine (heap_dr _ _).trans ?_) | (with_reducible refine (Below.heap_alloc _ _ _ (by first | omega | (simp; done) | (simp; omega))).trans ?_) | (with_reducible exact heap_new' _ _ _ (by first | omega | (simp; done) | (simp; omega)))))
 case round =>
   obtain ⟨n0, hn, rfl, HR⟩ := hrel
   rcases n0 with _ | n
   · simp only [Int.natCast_zero, Int.zero_sub]
     rw [show X / 2 ^ 0 = X by simp] at HR
     have zr := HR.size
     obtain ⟨Q0, Q1, Q2, Q3, Q4, Q5, HB⟩ := HR
     have x0 := cell_of_row _ _ 0 _ _ _ Q0
     unfold fB at x0 Q4 Q5
     obtain ⟨Q, hQ⟩ : ∃ Q, Q = X / D := ⟨_, rfl⟩
     obtain ⟨R, hR⟩ : ∃ R, R = X % D := ⟨_, rfl⟩
     rw [← hQ] at Q4
     rw [← hR] at Q5
     have HQE := Lib.hid hQ
     have HRE := Lib.hid hR
     clear hQ hR
     have q0 := cell_of_row _ _ 0 _ _ _ Q4
     have q1 := cell_of_row _ _ 1 _ _ _ Q4
     have q2 := cell_of_row _ _ 2 _ _ _ Q4
     have q3 := cell_of_row _ _ 3 _ _ _ Q4
     have q4 := cell_of_row _ _ 4 _ _ _ Q4
     have q5 := cell_of_row _ _ 5 _ _ _ Q4
     have q6 := cell_of_row _ _ 6 _ _ _ Q4
     have q7 := cell_of_row _ _ 7 _ _ _ Q4
     have q8 := cell_of_row _ _ 8 _ _ _ Q4
     have r0 := cell_of_row _ _ 0 _ _ _ Q5
     have r1 := cell_of_row _ _ 1 _ _ _ Q5
     have r2 := cell_of_row _ _ 2 _ _ _ Q5
     have r3 := cell_of_row _ _ 3 _ _ _ Q5
     have r4 := cell_of_row _ _ 4 _ _ _ Q5
     have r5 := cell_of_row _ _ 5 _ _ _ Q5
     have r6 := cell_of_row _ _ 6 _ _ _ Q5
     have r7 := cell_of_row _ _ 7 _ _ _ Q5
     have r8 := cell_of_row _ _ 8 _ _ _ Q5
     have t0 := cell_of_row _ _ 0 _ _ _ Q2
     have t1 := cell_of_row _ _ 1 _ _ _ Q2
     have t2 := cell_of_row _ _ 2 _ _ _ Q2
     have t3 := cell_of_row _ _ 3 _ _ _ Q2
     have t4 := cell_of_row _ _ 4 _ _ _ Q2
     have t5 := cell_of_row _ _ 5 _ _ _ Q2
     have t6 := cell_of_row _ _ 6 _ _ _ Q2
     have t7 := cell_of_row _ _ 7 _ _ _ Q2
     have t8 := cell_of_row _ _ 8 _ _ _ Q2
     have u0 := cell_of_row _ _ 0 _ _ _ Q3
     have u1 := cell_of_row _ _ 1 _ _ _ Q3
     have u2 := cell_of_row _ _ 2 _ _ _ Q3
     have u3 := cell_of_row _ _ 3 _ _ _ Q3
     have u4 := cell_of_row _ _ 4 _ _ _ Q3
     have u5 := cell_of_row _ _ 5 _ _ _ Q3
     have u6 := cell_of_row _ _ 6 _ _ _ Q3
     have u7 := cell_of_row _ _ 7 _ _ _ Q3
     have u8 := cell_of_row _ _ 8 _ _ _ Q3
     have tf0 := row_free Q2 0
     have tf1 := row_free Q2 1
     have tf2 := row_free Q2 2
     have tf3 := row_free Q2 3
     have tf4 := row_free Q2 4
     have tf5 := row_free Q2 5
     have tf6 := row_free Q2 6
     have tf7 := row_free Q2 7
     have tf8 := row_free Q2 8
     have uf0 := row_free Q3 0
     have uf1 := row_free Q3 1
     have uf2 := row_free Q3 2
     have uf3 := row_free Q3 3
     have uf4 := row_free Q3 4
     have uf5 := row_free Q3 5
     have uf6 := row_free Q3 6
     have uf7 := row_free Q3 7
     have uf8 := row_free Q3 8
     simp only [List.getElem?_toArray, List.getElem?_cons_zero, List.getElem?_cons_succ] at x0 q0 q1 q2 q3 q4 q5 q6 q7 q8 r0 r1 r2 r3 r4 r5 r6 r7 r8 t0 t1 t2 t3 t4 t5 t6 t7 t8 u0 u1 u2 u3 u4 u5 u6 u7 u8
     have P2 := Lib.hid Q2
     have P3 := Lib.hid Q3
     have PB := Lib.hid HB
     clear Q0 Q1 Q2 Q3 Q4 Q5 HB
     go_upto_region 17 with (fail)
     go_region
     have J2 := row9' P2.out (.bool false) (.int .u64 (dg (Q) 0)) (.int .u64 (dg (Q) 1)) (.int .u64 (dg (Q) 2)) (.int .u64 (dg (Q) 3)) (.int .u64 (dg (Q) 4)) (.int .u64 (dg (Q) 5)) (.int .u64 (dg (Q) 6)) (.int .u64 (dg (Q) 7))
     have J3 := row9' ((heap9d wr (w.heap.size + 1 + 1 + 1) (w.heap.size + 1 + 1) (by omega) (.bool false) (.int .u64 (dg (Q) 0)) (.int .u64 (dg (Q) 1)) (.int .u64 (dg (Q) 2)) (.int .u64 (dg (Q) 3)) (.int .u64 (dg (Q) 4)) (.int .u64 (dg (Q) 5)) (.int .u64 (dg (Q) 6)) (.int .u64 (dg (Q) 7))).trans P3.out) (.bool false) (.int .u64 (dg (R) 0)) (.int .u64 (dg (R) 1)) (.int .u64 (dg (R) 2)) (.int .u64 (dg (R) 3)) (.int .u64 (dg (R) 4)) (.int .u64 (dg (R) 5)) (.int .u64 (dg (R) 6)) (.int .u64 (dg (R) 7))
     have J4 := (heap9d _ (w.heap.size + 1 + 1) (w.heap.size + 1 + 1 + 1) (by omega) (.bool false) (.int .u64 (dg (R) 0)) (.int .u64 (dg (R) 1)) (.int .u64 (dg (R) 2)) (.int .u64 (dg (R) 3)) (.int .u64 (dg (R) 4)) (.int .u64 (dg (R) 5)) (.int .u64 (dg (R) 6)) (.int .u64 (dg (R) 7))).trans J2
     have JB := (below9 (below9 PB.out (show w.heap.size ≤ w.heap.size + 1 + 1 by omega) (.bool false) (.int .u64 (dg (Q) 0)) (.int .u64 (dg (Q) 1)) (.int .u64 (dg (Q) 2)) (.int .u64 (dg (Q) 3)) (.int .u64 (dg (Q) 4)) (.int .u64 (dg (Q) 5)) (.int .u64 (dg (Q) 6)) (.int .u64 (dg (Q) 7))) (show w.heap.size ≤ w.heap.size + 1 + 1 + 1 by omega) (.bool false) (.int .u64 (dg (R) 0)) (.int .u64 (dg (R) 1)) (.int .u64 (dg (R) 2)) (.int .u64 (dg (R) 3)) (.int .u64 (dg (R) 4)) (.int .u64 (dg (R) 5)) (.int .u64 (dg (R) 6)) (.int .u64 (dg (R) 7))).drew
     replace J4 := (heap_dr _ _).trans J4
     replace J3 := (heap_dr _ _).trans J3
     clear J2 P2 P3 PB q0 q1 q2 q3 q4 q5 q6 q7 q8 r0 r1 r2 r3 r4 r5 r6 r7 r8 t0 t1 t2 t3 t4 t5 t6 t7 t8 u0 u1 u2 u3 u4 u5 u6 u7 u8 tf0 tf1 tf2 tf3 tf4 tf5 tf6 tf7 tf8 uf0 uf1 uf2 uf3 uf4 uf5 uf6 uf7 uf8
     generalize (((((((((((((((((((((((((((((((((((((wr).setCell ⟨w.heap.size + 1 + 1, 0, none⟩ (.bool false))).setCell ⟨w.heap.size + 1 + 1, 1, none⟩ (.int .u64 (dg (Q) 0)))).setCell ⟨w.heap.size + 1 + 1, 2, none⟩ (.int .u64 (dg (Q) 1)))).setCell ⟨w.heap.size + 1 + 1, 3, none⟩ (.int .u64 (dg (Q) 2)))).setCell ⟨w.heap.size + 1 + 1, 4, none⟩ (.int .u64 (dg (Q) 3)))).setCell ⟨w.heap.size + 1 + 1, 5, none⟩ (.int .u64 (dg (Q) 4)))).setCell ⟨w.heap.size + 1 + 1, 6, none⟩ (.int .u64 (dg (Q) 5)))).setCell ⟨w.heap.size + 1 + 1, 7, none⟩ (.int .u64 (dg (Q) 6)))).setCell ⟨w.heap.size + 1 + 1, 8, none⟩ (.int .u64 (dg (Q) 7)))).setCell ⟨w.heap.size + 1 + 1 + 1, 0, none⟩ (.bool false))).setCell ⟨w.heap.size + 1 + 1 + 1, 1, none⟩ (.int .u64 (dg (R) 0)))).setCell ⟨w.heap.size + 1 + 1 + 1, 2, none⟩ (.int .u64 (dg (R) 1)))).setCell ⟨w.heap.size + 1 + 1 + 1, 3, none⟩ (.int .u64 (dg (R) 2)))).setCell ⟨w.heap.size + 1 + 1 + 1, 4, none⟩ (.int .u64 (dg (R) 3)))).setCell ⟨w.heap.size + 1 + 1 + 1, 5, none⟩ (.int .u64 (dg (R) 4)))).setCell ⟨w.heap.size + 1 + 1 + 1, 6, none⟩ (.int .u64 (dg (R) 5)))).setCell ⟨w.heap.size + 1 + 1 + 1, 7, none⟩ (.int .u64 (dg (R) 6)))).setCell ⟨w.heap.size + 1 + 1 + 1, 8, none⟩ (.int .u64 (dg (R) 7)))).drew = wz at *
     go_wp2_with (fail)
     exact ret_Div _ _ (w.heap.size + 1 + 1) (w.heap.size + 1 + 1 + 1) _ _ _ _ _ _ _ _ _ _ _ _ _ _ _ _ _ _ rfl rfl rfl J4 J3 ⟨by rw [HQE.out, HRE.out], JB⟩
   · rw [show ((n + 1 : Nat) : Int) - 1 = (n : Int) by omega]
     obtain ⟨q, hq, hq8⟩ : ∃ q : Nat, n / 32 = q ∧ q < 8 := ⟨_, rfl, by omega⟩
     obtain ⟨m, hm, hm32⟩ : ∃ m : Nat, n % 32 = m ∧ m < 32 := ⟨_, rfl, by omega⟩
     have hqi : (n : Int) / 32 = (q : Int) := by omega
     have hmi : (n : Int) % 32 = (m : Int) := by omega
     have hbit := bit_dg X n
     rw [hq, hm] at hbit
     have rq := dg_rng X q
     have hbt : (dg X q / 2 ^ m).tmod 2 = bitA X n := by rw [Int.tmod_eq_emod_of_nonneg (Int.ediv_nonneg rq.1 (Int.le_of_lt (two_pos m)))]; exact hbit
     have hcx : wr.cell? ⟨w.heap.size, 1 + q, none⟩ = some (.int .u64 (dg X q)) := by
       rw [Nat.add_comm]; exact (cell_of_row _ _ (q + 1) _ _ _ HR.1).trans (fB_get false (dg X) q hq8)
     have hb := bit_rng X n
     have HI := Lib.hid (div_in X D n hD0)
     have HO := Lib.hid (div_out X D n hD0)
     have e0 := Int.emod_nonneg (X / 2 ^ (n + 1)) (Int.ne_of_gt hD0)
     have e1 := Int.emod_lt_of_pos (X / 2 ^ (n + 1)) hD0
     obtain ⟨R, hR⟩ : ∃ R, R = X / 2 ^ (n + 1) % D := ⟨_, rfl⟩
     obtain ⟨Q, hQ⟩ : ∃ Q, Q = X / 2 ^ (n + 1) / D := ⟨_, rfl⟩
     rw [← hR, ← hQ] at HR
     rw [← hR] at e0 e1
     replace HI := Lib.hid (show D ≤ (2 * R + bitA X n) → (2 * R + bitA X n) - D = X / 2 ^ n % D ∧ 2 * Q + 1 = X / 2 ^ n / D from by rw [hR, hQ]; exact HI.out)
     replace HO := Lib.hid (show (2 * R + bitA X n) < D → (2 * R + bitA X n) = X / 2 ^ n % D ∧ 2 * Q = X / 2 ^ n / D from by rw [hR, hQ]; intro h; have h2 := HO.out h; exact ⟨h2.1, (Int.add_zero _).symm.trans h2.2⟩)
     have HDD : Hid (0 ≤ D ∧ D < B8) := Lib.hid ⟨by omega, by unfold B8; omega⟩
     have HRB : Hid (0 ≤ (2 * R + bitA X n) ∧ (2 * R + bitA X n) < B8) := Lib.hid ⟨by omega, by unfold B8; omega⟩
     have hs1 : Hid (D ≤ (2 * R + bitA X n) → 0 ≤ sizeR (2 * R + bitA X n) D) := Lib.hid fun h => by unfold sizeR; split; omega; rw [if_neg (by omega)]; omega
     have hs2 : Hid ((2 * R + bitA X n) < D → sizeR (2 * R + bitA X n) D < 0) := Lib.hid fun h => by unfold sizeR; rw [if_neg (by omega), if_pos h]; omega
     clear hq hm hbit hR hQ e0 e1
     go_upto_region 6 with (fail)
     clear hcx rq hqi hmi hbt hq8 hm32
     by_cases hc : D ≤ (2 * R + bitA X n)
     · have HE := Lib.hid (HI.out hc)
       have hsz := hs1.out hc
       clear HI HO hs1 hs2 hc
       have zr := HR.size
       obtain ⟨rc0, rc1, rc2, rc3, rc4, rc5, rc6, rc7⟩ := HR.rc
       obtain ⟨rf0, rf1, rf2, rf3, rf4, rf5, rf6, rf7⟩ := HR.rf
       go_wp2_with (fail)
       go_at_call 122
       (with_reducible refine (twice_c R (bitA X n) _ hb).mono ?_)
       rintro e w1 ⟨rfl, hb1⟩
       obtain ⟨hc1, hf1⟩ := bcell hb1
       have hz1 := hb1.size
       try simp at hz1
       go_upto_region 7 with (fail)
       have HR1 := (HR.step hb1).putr (2 * R + bitA X n)
       clear rc0 rc1 rc2 rc3 rc4 rc5 rc6 rc7 rf0 rf1 rf2 rf3 rf4 rf5 rf6 rf7
       clear hc1 hf1 HR
       generalize ((((((((w1).setCell ⟨w.heap.size + 1 + 1 + 1 + 1 + 1, 1, none⟩ (.int .u64 (dg (2 * R + bitA X n) 0))).setCell ⟨w.heap.size + 1 + 1 + 1 + 1 + 1, 2, none⟩ (.int .u64 (dg (2 * R + bitA X n) 1))).setCell ⟨w.heap.size + 1 + 1 + 1 + 1 + 1, 3, none⟩ (.int .u64 (dg (2 * R + bitA X n) 2))).setCell ⟨w.heap.size + 1 + 1 + 1 + 1 + 1, 4, none⟩ (.int .u64 (dg (2 * R + bitA X n) 3))).setCell ⟨w.heap.size + 1 + 1 + 1 + 1 + 1, 5, none⟩ (.int .u64 (dg (2 * R + bitA X n) 4))).setCell ⟨w.heap.size + 1 + 1 + 1 + 1 + 1, 6, none⟩ (.int .u64 (dg (2 * R + bitA X n) 5))).setCell ⟨w.heap.size + 1 + 1 + 1 + 1 + 1, 7, none⟩ (.int .u64 (dg (2 * R + bitA X n) 6))).setCell ⟨w.heap.size + 1 + 1 + 1 + 1 + 1, 8, none⟩ (.int .u64 (dg (2 * R + bitA X n) 7)) = u1 at *
       have HR := HR1
       clear HR1
       have zr1 := HR.size
       obtain ⟨rc0, rc1, rc2, rc3, rc4, rc5, rc6, rc7⟩ := HR.rc
       obtain ⟨rf0, rf1, rf2, rf3, rf4, rf5, rf6, rf7⟩ := HR.rf
       obtain ⟨dc0, dc1, dc2, dc3, dc4, dc5, dc6, dc7⟩ := HR.dc
       go_wp2_with (fail)
       go_at_call 123
       (with_reducible refine (size_c (2 * R + bitA X n) D _ HRB HDD).mono ?_)
       rintro e w2 ⟨rfl, hb2⟩
       obtain ⟨hc2, hf2⟩ := bcell hb2
       have hz2 := hb2.size
       try simp at hz2
       have HR2 := HR.step hb2
       clear rc0 rc1 rc2 rc3 rc4 rc5 rc6 rc7 rf0 rf1 rf2 rf3 rf4 rf5 rf6 rf7
       clear dc0 dc1 dc2 dc3 dc4 dc5 dc6 dc7
       clear hc2 hf2 HR
       have HR := HR2
       clear HR2
       have zr2 := HR.size
       generalize sizeR (2 * R + bitA X n) D = sz at *
       have zq2 : w.heap.size + 1 + 1 + 1 + 1 < w2.heap.size := by omega
       obtain ⟨rc0, rc1, rc2, rc3, rc4, rc5, rc6, rc7⟩ := HR.rc
       obtain ⟨rf0, rf1, rf2, rf3, rf4, rf5, rf6, rf7⟩ := HR.rf
       obtain ⟨dc0, dc1, dc2, dc3, dc4, dc5, dc6, dc7⟩ := HR.dc
       go_wp2_with (fail)
       go_at_call 124
       (with_reducible refine (less_c (2 * R + bitA X n) D _).mono ?_)
       rintro e w3 ⟨rfl, hb3⟩
       obtain ⟨hc3, hf3⟩ := bcell hb3
       have hz3 := hb3.size
       try simp at hz3
       go_upto_region 10 with (fail)
       have HR3 := (HR.step hb3).putr ((2 * R + bitA X n) - D)
       clear rc0 rc1 rc2 rc3 rc4 rc5 rc6 rc7 rf0 rf1 rf2 rf3 rf4 rf5 rf6 rf7
       clear dc0 dc1 dc2 dc3 dc4 dc5 dc6 dc7
       clear hc3 hf3 HR
       generalize ((((((((w3).setCell ⟨w.heap.size + 1 + 1 + 1 + 1 + 1, 1, none⟩ (.int .u64 (dg ((2 * R + bitA X n) - D) 0))).setCell ⟨w.heap.size + 1 + 1 + 1 + 1 + 1, 2, none⟩ (.int .u64 (dg ((2 * R + bitA X n) - D) 1))).setCell ⟨w.heap.size + 1 + 1 + 1 + 1 + 1, 3, none⟩ (.int .u64 (dg ((2 * R + bitA X n) - D) 2))).setCell ⟨w.heap.size + 1 + 1 + 1 + 1 + 1, 4, none⟩ (.int .u64 (dg ((2 * R + bitA X n) - D) 3))).setCell ⟨w.heap.size + 1 + 1 + 1 + 1 + 1, 5, none⟩ (.int .u64 (dg ((2 * R + bitA X n) - D) 4))).setCell ⟨w.heap.size + 1 + 1 + 1 + 1 + 1, 6, none⟩ (.int .u64 (dg ((2 * R + bitA X n) - D) 5))).setCell ⟨w.heap.size + 1 + 1 + 1 + 1 + 1, 7, none⟩ (.int .u64 (dg ((2 * R + bitA X n) - D) 6))).setCell ⟨w.heap.size + 1 + 1 + 1 + 1 + 1, 8, none⟩ (.int .u64 (dg ((2 * R + bitA X n) - D) 7)) = u3 at *
       have HR := HR3
       clear HR3
       have zr3 := HR.size
       have zq3 : w.heap.size + 1 + 1 + 1 + 1 < u3.heap.size := by omega
       obtain ⟨qc0, qc1, qc2, qc3, qc4, qc5, qc6, qc7⟩ := HR.qc
       obtain ⟨qf0, qf1, qf2, qf3, qf4, qf5, qf6, qf7⟩ := HR.qf
       go_wp2_with (fail)
       go_at_call 122
       (with_reducible refine (twice_c Q 1 _ (by omega)).mono ?_)
       rintro e w4 ⟨rfl, hb4⟩
       obtain ⟨hc4, hf4⟩ := bcell hb4
       have hz4 := hb4.size
       try simp at hz4
       go_upto_region 4 with (fail)
       have HR4 := (HR.step hb4).putq (2 * Q + 1)
       clear qc0 qc1 qc2 qc3 qc4 qc5 qc6 qc7 qf0 qf1 qf2 qf3 qf4 qf5 qf6 qf7
       clear hc4 hf4 HR
       generalize ((((((((w4).setCell ⟨w.heap.size + 1 + 1 + 1 + 1, 1, none⟩ (.int .u64 (dg (2 * Q + 1) 0))).setCell ⟨w.heap.size + 1 + 1 + 1 + 1, 2, none⟩ (.int .u64 (dg (2 * Q + 1) 1))).setCell ⟨w.heap.size + 1 + 1 + 1 + 1, 3, none⟩ (.int .u64 (dg (2 * Q + 1) 2))).setCell ⟨w.heap.size + 1 + 1 + 1 + 1, 4, none⟩ (.int .u64 (dg (2 * Q + 1) 3))).setCell ⟨w.heap.size + 1 + 1 + 1 + 1, 5, none⟩ (.int .u64 (dg (2 * Q + 1) 4))).setCell ⟨w.heap.size + 1 + 1 + 1 + 1, 6, none⟩ (.int .u64 (dg (2 * Q + 1) 5))).setCell ⟨w.heap.size + 1 + 1 + 1 + 1, 7, none⟩ (.int .u64 (dg (2 * Q + 1) 6))).setCell ⟨w.heap.size + 1 + 1 + 1 + 1, 8, none⟩ (.int .u64 (dg (2 * Q + 1) 7)) = u4 at *
       have zr4 := HR4.size
       go_wp2_with (fail)
       go_roundw
       case rel => exact ⟨n, by omega, by first | rfl | go_num, by rw [← HE.out.1, ← HE.out.2]; exact HR4⟩
       case measure => simp [intOf]
     · have HE := Lib.hid (HO.out (by omega))
       have hsz := hs2.out (by omega)
       clear HI HO hs1 hs2 hc
       have zr := HR.size
       obtain ⟨rc0, rc1, rc2, rc3, rc4, rc5, rc6, rc7⟩ := HR.rc
       obtain ⟨rf0, rf1, rf2, rf3, rf4, rf5, rf6, rf7⟩ := HR.rf
       go_wp2_with (fail)
       go_at_call 122
       (with_reducible refine (twice_c R (bitA X n) _ hb).mono ?_)
       rintro e w1 ⟨rfl, hb1⟩
       obtain ⟨hc1, hf1⟩ := bcell hb1
       have hz1 := hb1.size
       try simp at hz1
       go_upto_region 7 with (fail)
       have HR1 := (HR.step hb1).putr (2 * R + bitA X n)
       clear rc0 rc1 rc2 rc3 rc4 rc5 rc6 rc7 rf0 rf1 rf2 rf3 rf4 rf5 rf6 rf7
       clear hc1 hf1 HR
       generalize ((((((((w1).setCell ⟨w.heap.size + 1 + 1 + 1 + 1 + 1, 1, none⟩ (.int .u64 (dg (2 * R + bitA X n) 0))).setCell ⟨w.heap.size + 1 + 1 + 1 + 1 + 1, 2, none⟩ (.int .u64 (dg (2 * R + bitA X n) 1))).setCell ⟨w.heap.size + 1 + 1 + 1 + 1 + 1, 3, none⟩ (.int .u64 (dg (2 * R + bitA X n) 2))).setCell ⟨w.heap.size + 1 + 1 + 1 + 1 + 1, 4, none⟩ (.int .u64 (dg (2 * R + bitA X n) 3))).setCell ⟨w.heap.size + 1 + 1 + 1 + 1 + 1, 5, none⟩ (.int .u64 (dg (2 * R + bitA X n) 4))).setCell ⟨w.heap.size + 1 + 1 + 1 + 1 + 1, 6, none⟩ (.int .u64 (dg (2 * R + bitA X n) 5))).setCell ⟨w.heap.size + 1 + 1 + 1 + 1 + 1, 7, none⟩ (.int .u64 (dg (2 * R + bitA X n) 6))).setCell ⟨w.heap.size + 1 + 1 + 1 + 1 + 1, 8, none⟩ (.int .u64 (dg (2 * R + bitA X n) 7)) = u1 at *
       have HR := HR1
       clear HR1
       have zr1 := HR.size
       obtain ⟨rc0, rc1, rc2, rc3, rc4, rc5, rc6, rc7⟩ := HR.rc
       obtain ⟨rf0, rf1, rf2, rf3, rf4, rf5, rf6, rf7⟩ := HR.rf
       obtain ⟨dc0, dc1, dc2, dc3, dc4, dc5, dc6, dc7⟩ := HR.dc
       go_wp2_with (fail)
       go_at_call 123
       (with_reducible refine (size_c (2 * R + bitA X n) D _ HRB HDD).mono ?_)
       rintro e w2 ⟨rfl, hb2⟩
       obtain ⟨hc2, hf2⟩ := bcell hb2
       have hz2 := hb2.size
       try simp at hz2
       have HR2 := HR.step hb2
       clear rc0 rc1 rc2 rc3 rc4 rc5 rc6 rc7 rf0 rf1 rf2 rf3 rf4 rf5 rf6 rf7
       clear dc0 dc1 dc2 dc3 dc4 dc5 dc6 dc7
       clear hc2 hf2 HR
       have HR := HR2
       clear HR2
       have zr2 := HR.size
       generalize sizeR (2 * R + bitA X n) D = sz at *
       have zq2 : w.heap.size + 1 + 1 + 1 + 1 < w2.heap.size := by omega
       obtain ⟨qc0, qc1, qc2, qc3, qc4, qc5, qc6, qc7⟩ := HR.qc
       obtain ⟨qf0, qf1, qf2, qf3, qf4, qf5, qf6, qf7⟩ := HR.qf
       go_wp2_with (fail)
       go_at_call 122
       (with_reducible refine (twice_c Q 0 _ (by omega)).mono ?_)
       rintro e w4 ⟨rfl, hb4⟩
       obtain ⟨hc4, hf4⟩ := bcell hb4
       have hz4 := hb4.size
       try simp at hz4
       go_upto_region 4 with (fail)
       have HR4 := (HR.step hb4).putq (2 * Q)
       clear qc0 qc1 qc2 qc3 qc4 qc5 qc6 qc7 qf0 qf1 qf2 qf3 qf4 qf5 qf6 qf7
       clear hc4 hf4 HR
       generalize ((((((((w4).setCell ⟨w.heap.size + 1 + 1 + 1 + 1, 1, none⟩ (.int .u64 (dg (2 * Q) 0))).setCell ⟨w.heap.size + 1 + 1 + 1 + 1, 2, none⟩ (.int .u64 (dg (2 * Q) 1))).setCell ⟨w.heap.size + 1 + 1 + 1 + 1, 3, none⟩ (.int .u64 (dg (2 * Q) 2))).setCell ⟨w.heap.size + 1 + 1 + 1 + 1, 4, none⟩ (.int .u64 (dg (2 * Q) 3))).setCell ⟨w.heap.size + 1 + 1 + 1 + 1, 5, none⟩ (.int .u64 (dg (2 * Q) 4))).setCell ⟨w.heap.size + 1 + 1 + 1 + 1, 6, none⟩ (.int .u64 (dg (2 * Q) 5))).setCell ⟨w.heap.size + 1 + 1 + 1 + 1, 7, none⟩ (.int .u64 (dg (2 * Q) 6))).setCell ⟨w.heap.size + 1 + 1 + 1 + 1, 8, none⟩ (.int .u64 (dg (2 * Q) 7)) = u4 at *
       have zr4 := HR4.size
       go_wp2_with (fail)
       go_roundw
       case rel => exact ⟨n, by omega, by first | rfl | go_num, by rw [← HE.out.1, ← HE.out.2]; exact HR4⟩
       case measure => simp [intOf]
end Go.Proofs.YtgondiedehjkhaaGreatDoor
