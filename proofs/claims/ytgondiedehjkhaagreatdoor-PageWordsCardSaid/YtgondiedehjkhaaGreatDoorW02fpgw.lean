/-
 Numbers of digits: sums and differences of sizes.
-/
import Derived.Test.YtgondiedehjkhaaGreatDoorNumpgw
import Derived.Test.YtgondiedehjkhaaGreatDoorMathpgw
import Derived.ProofKit
import Derived.OpenShut
import Derived.WalkLawsBesides
import Derived.Outline
import Derived.Lib.Hide
import Derived.Deep.QuietTactic
import Derived.BigQuiet
import Derived.Test.YtgondiedehjkhaaGreatDoorBigmpgw
import Derived.LoopTactic
import Derived.RangeFuncBox
namespace Go.Proofs.YtgondiedehjkhaaGreatDoor
open Go.RowKit Go.Extern.Stop Go.Stop Go.Extern
set_option linter.unusedVariables false
set_option linter.unusedSimpArgs false
def mixA (z x : Int) (k : Nat) : Array Value := #[.int .u64 (if 0 < k then dg z 0 else dg x 0), .int .u64 (if 1 < k then dg z 1 else dg x 1), .int .u64 (if 2 < k then dg z 2 else dg x 2), .int .u64 (if 3 < k then dg z 3 else dg x 3), .int .u64 (if 4 < k then dg z 4 else dg x 4), .int .u64 (if 5 < k then dg z 5 else dg x 5), .int .u64 (if 6 < k then dg z 6 else dg x 6), .int .u64 (if 7 < k then dg z 7 else dg x 7)]
theorem mixA_size (z x : Int) (k : Nat) : (mixA z x k).size = 8 := rfl
theorem mixA_get (z x : Int) (k j : Nat) (hj : j < 8) : (mixA z x k)[j]? = some (.int .u64 (if j < k then dg z j else dg x j)) := by
 obtain rfl | rfl | rfl | rfl | rfl | rfl | rfl | rfl : j = 0 ∨ j = 1 ∨ j = 2 ∨ j = 3 ∨ j = 4 ∨ j = 5 ∨ j = 6 ∨ j = 7 := by omega
 all_goals rfl
theorem mixA_zero (z x : Int) : mixA z x 0 = #[.int .u64 (dg (x) 0), .int .u64 (dg (x) 1), .int .u64 (dg (x) 2), .int .u64 (dg (x) 3), .int .u64 (dg (x) 4), .int .u64 (dg (x) 5), .int .u64 (dg (x) 6), .int .u64 (dg (x) 7)] := by
 unfold mixA
 simp
theorem mixA_all (z x : Int) : mixA z x 8 = #[.int .u64 (dg (z) 0), .int .u64 (dg (z) 1), .int .u64 (dg (z) 2), .int .u64 (dg (z) 3), .int .u64 (dg (z) 4), .int .u64 (dg (z) 5), .int .u64 (dg (z) 6), .int .u64 (dg (z) 7)] := by
 unfold mixA
 simp
theorem mixA_set (z x : Int) (k : Nat) (hk : k < 8) : (mixA z x k).setIfInBounds k (.int .u64 (dg z k)) = mixA z x (k + 1) := by
 apply Array.ext_getElem?
 intro j
 rw [Array.getElem?_setIfInBounds]
 rcases Nat.lt_or_ge j 8 with hj | hj
 · rw [mixA_get _ _ _ j hj, mixA_get _ _ _ j hj]
   by_cases e : k = j
   · subst e
     simp [mixA_size, hk]
   · rw [if_neg e]
     by_cases h1 : j < k
     · rw [if_pos h1, if_pos (by omega)]
     · rw [if_neg h1, if_neg (by omega)]
 · rw [if_neg (by omega), Array.getElem?_eq_none (by rw [mixA_size]; exact hj), Array.getElem?_eq_none (by rw [mixA_size]; exact hj)]
theorem set_row {w : World} {g : Nat} {cs : Array Value} {T : TypeId} (h : w.heap[g]? = some (.cells cs T (0, 0))) (i : Nat) (u : Value) : (w.setCell ⟨g, i, none⟩ u).heap[g]? = some (.cells (cs.setIfInBounds i u) T (0, 0)) := by
 simp [World.setCell, Array.getElem?_modify, h]
theorem row_free {w : World} {g : Nat} {cs : Array Value} {T : TypeId} (h : w.heap[g]? = some (.cells cs T (0, 0))) (i : Nat) : w.frozen? ⟨g, i, none⟩ = false := by
 simp [World.frozen?, h]
theorem heap_dN (w : World) (n g : Nat) : (w.drewN n).heap[g]? = w.heap[g]? := (below_drewN (Below.refl (g + 1) w) n).block g (by omega)
theorem row_far {w : World} {g g' : Nat} {o : Option Obj} (h : w.heap[g]? = o) (n i : Nat) (u : Value) (hne : g ≠ g') : ((w.drewN n).setCell ⟨g', i, none⟩ u).heap[g]? = o :=
 (Below.heap_setCell _ _ _ _ hne).trans ((heap_dN w n g).trans h)
theorem row_at {w : World} {g : Nat} {cs : Array Value} {T : TypeId} (h : w.heap[g]? = some (.cells cs T (0, 0))) (n i : Nat) (u : Value) : ((w.drewN n).setCell ⟨g, i, none⟩ u).heap[g]? = some (.cells (cs.setIfInBounds i u) T (0, 0)) :=
 set_row ((heap_dN w n g).trans h) i u
abbrev Z8 : Array Value := #[.int .u64 0, .int .u64 0, .int .u64 0, .int .u64 0, .int .u64 0, .int .u64 0, .int .u64 0, .int .u64 0]
theorem row8 {w : World} {g : Nat} {T : TypeId} (h : w.heap[g]? = some (.cells Z8 T (0, 0))) (v0 v1 v2 v3 v4 v5 v6 v7 : Value) :
   ((((((((w.setCell ⟨g, 0, none⟩ v0).setCell ⟨g, 1, none⟩ v1).setCell ⟨g, 2, none⟩ v2).setCell ⟨g, 3, none⟩ v3).setCell ⟨g, 4, none⟩ v4).setCell ⟨g, 5, none⟩ v5).setCell ⟨g, 6, none⟩ v6).setCell ⟨g, 7, none⟩ v7).heap[g]? = some (.cells #[v0, v1, v2, v3, v4, v5, v6, v7] T (0, 0)) := by
 have h7 := set_row (set_row (set_row (set_row (set_row (set_row (set_row (set_row h 0 v0) 1 v1) 2 v2) 3 v3) 4 v4) 5 v5) 6 v6) 7 v7
 rw [h7]
 simp only [List.setIfInBounds_toArray, List.set_cons_zero, List.set_cons_succ]
theorem below8 {w0 w : World} {g : Nat} (h : Below w0.heap.size w0 w) (hg : w0.heap.size ≤ g) (v0 v1 v2 v3 v4 v5 v6 v7 : Value) :
   Below w0.heap.size w0 ((((((((w.setCell ⟨g, 0, none⟩ v0).setCell ⟨g, 1, none⟩ v1).setCell ⟨g, 2, none⟩ v2).setCell ⟨g, 3, none⟩ v3).setCell ⟨g, 4, none⟩ v4).setCell ⟨g, 5, none⟩ v5).setCell ⟨g, 6, none⟩ v6).setCell ⟨g, 7, none⟩ v7) :=
 (((((((h.setCell (p := ⟨g, 0, none⟩) hg v0).setCell (p := ⟨g, 1, none⟩) hg v1).setCell (p := ⟨g, 2, none⟩) hg v2).setCell (p := ⟨g, 3, none⟩) hg v3).setCell (p := ⟨g, 4, none⟩) hg v4).setCell (p := ⟨g, 5, none⟩) hg v5).setCell (p := ⟨g, 6, none⟩) hg v6).setCell (p := ⟨g, 7, none⟩) hg v7
set_option maxRecDepth 100000 in
set_option maxHeartbeats 4000000 in
theorem plus_c (x y : Int) (w : World) : Calls Tryz.prog 156 #[.agg #[.int .u64 (dg (x) 0), .int .u64 (dg (x) 1), .int .u64 (dg (x) 2), .int .u64 (dg (x) 3), .int .u64 (dg (x) 4), .int .u64 (dg (x) 5), .int .u64 (dg (x) 6), .int .u64 (dg (x) 7)], .agg #[.int .u64 (dg (y) 0), .int .u64 (dg (y) 1), .int .u64 (dg (y) 2), .int .u64 (dg (y) 3), .int .u64 (dg (y) 4), .int .u64 (dg (y) 5), .int .u64 (dg (y) 6), .int .u64 (dg (y) 7)]] w fun e w' => e = .returned (.agg #[.int .u64 (dg (x + y) 0), .int .u64 (dg (x + y) 1), .int .u64 (dg (x + y) 2), .int .u64 (dg (x + y) 3), .int .u64 (dg (x + y) 4), .int .u64 (dg (x + y) 5), .int .u64 (dg (x + y) 6), .int .u64 (dg (x + y) 7)]) ∧ Below w.heap.size w w' := by
 go_enter Tryz.func156, Tryz.ntmps156
 go_wp2_with (fail)
 go_loopw [5, 6] (fun c i wr => ∃ k : Nat, k ≤ 8 ∧ i = .int .i64 k ∧ c = .int .u64 (crr x y k) ∧ wr.heap[w.heap.size]? = some (.cells (mixA (x + y) x k) 156 (0, 0)) ∧ wr.heap[w.heap.size + 1]? = some (.cells #[.int .u64 (dg (y) 0), .int .u64 (dg (y) 1), .int .u64 (dg (y) 2), .int .u64 (dg (y) 3), .int .u64 (dg (y) 4), .int .u64 (dg (y) 5), .int .u64 (dg (y) 6), .int .u64 (dg (y) 7)] 156 (0, 0)) ∧ wr.heap[w.heap.size + 1 + 1]? = some (.cells Z8 156 (0, 0)) ∧ Below w.heap.size w wr) (fun _ i _ => 8 - (intOf i).toNat)
 case atStart =>
   refine ⟨0, by omega, rfl, by rw [crr_zero], ?_, ?_, ?_, (((Below.refl _ _).alloc (Nat.le_refl _) _).alloc (by simp) _).alloc (by simp <;> omega) _⟩
   · rw [mixA_zero]
     exact (Below.heap_alloc _ _ _ (by simp; omega)).trans ((Below.heap_alloc _ _ _ (by simp)).trans (heap_alloc_new w _))
   · have := (Below.heap_alloc ((w.alloc (.cells #[.int .u64 (dg (x) 0), .int .u64 (dg (x) 1), .int .u64 (dg (x) 2), .int .u64 (dg (x) 3), .int .u64 (dg (x) 4), .int .u64 (dg (x) 5), .int .u64 (dg (x) 6), .int .u64 (dg (x) 7)] 156)).alloc (.cells #[.int .u64 (dg (y) 0), .int .u64 (dg (y) 1), .int .u64 (dg (y) 2), .int .u64 (dg (y) 3), .int .u64 (dg (y) 4), .int .u64 (dg (y) 5), .int .u64 (dg (y) 6), .int .u64 (dg (y) 7)] 156)) (.cells #[.int .u64 0, .int .u64 0, .int .u64 0, .int .u64 0, .int .u64 0, .int .u64 0, .int .u64 0, .int .u64 0] 156) (w.heap.size + 1) (by simp)).trans (by have := heap_alloc_new (w.alloc (.cells #[.int .u64 (dg (x) 0), .int .u64 (dg (x) 1), .int .u64 (dg (x) 2), .int .u64 (dg (x) 3), .int .u64 (dg (x) 4), .int .u64 (dg (x) 5), .int .u64 (dg (x) 6), .int .u64 (dg (x) 7)] 156)) (.cells #[.int .u64 (dg (y) 0), .int .u64 (dg (y) 1), .int .u64 (dg (y) 2), .int .u64 (dg (y) 3), .int .u64 (dg (y) 4), .int .u64 (dg (y) 5), .int .u64 (dg (y) 6), .int .u64 (dg (y) 7)] 156); simp only [World.size_alloc] at this; exact this)
     exact this
   · have := heap_alloc_new ((w.alloc (.cells #[.int .u64 (dg (x) 0), .int .u64 (dg (x) 1), .int .u64 (dg (x) 2), .int .u64 (dg (x) 3), .int .u64 (dg (x) 4), .int .u64 (dg (x) 5), .int .u64 (dg (x) 6), .int .u64 (dg (x) 7)] 156)).alloc (.cells #[.int .u64 (dg (y) 0), .int .u64 (dg (y) 1), .int .u64 (dg (y) 2), .int .u64 (dg (y) 3), .int .u64 (dg (y) 4), .int .u64 (dg (y) 5), .int .u64 (dg (y) 6), .int .u64 (dg (y) 7)] 156)) (.cells Z8 156)
     simp only [World.size_alloc] at this
     exact this
 case round =>
   obtain ⟨k, hk, rfl, rfl, hx, hy, hz, hbw⟩ := hrel
   by_cases hlt : k < 8
   · have hcx : wr.cell? ⟨w.heap.size, k, none⟩ = some (.int .u64 (dg x k)) := by rw [cell_of_row _ _ _ _ _ _ hx, mixA_get _ _ _ _ hlt, if_neg (by omega)]
     have hfx := row_free hx k
     have hcy : wr.cell? ⟨w.heap.size + 1, k, none⟩ = some (.int .u64 (dg y k)) := by rw [cell_of_row _ _ _ _ _ _ hy, ← mixA_zero y y, mixA_get _ _ _ _ hlt, if_neg (by omega)]
     have r1 := dg_rng x k
     have r2 := dg_rng y k
     have r3 := crr_rng x y k
     have HP := Lib.hid (plus_step x y k)
     have HM := Lib.hid (mixA_set (x + y) x k hlt)
     go_wp2_with (fail)
     go_quiet (fail)
     go_wp2_with (fail)
     go_roundw
     case rel =>
       refine ⟨k + 1, by omega, by go_num, by rw [HP.out.2], ?_, row_far hy _ _ _ (by omega), row_far hz _ _ _ (by omega), (below_drewN hbw _).setCell (p := ⟨w.heap.size, k, none⟩) (Nat.le_refl _) _⟩
       rw [← HM.out, ← HP.out.1]
       exact row_at hx _ _ _
     case measure => simp [intOf]; omega
   · obtain rfl : k = 8 := by omega
     rw [mixA_all] at hx
     have c0 := cell_of_row _ _ 0 _ _ _ hx
     have c1 := cell_of_row _ _ 1 _ _ _ hx
     have c2 := cell_of_row _ _ 2 _ _ _ hx
     have c3 := cell_of_row _ _ 3 _ _ _ hx
     have c4 := cell_of_row _ _ 4 _ _ _ hx
     have c5 := cell_of_row _ _ 5 _ _ _ hx
     have c6 := cell_of_row _ _ 6 _ _ _ hx
     have c7 := cell_of_row _ _ 7 _ _ _ hx
     have d0 := cell_of_row _ _ 0 _ _ _ hz
     have d1 := cell_of_row _ _ 1 _ _ _ hz
     have d2 := cell_of_row _ _ 2 _ _ _ hz
     have d3 := cell_of_row _ _ 3 _ _ _ hz
     have d4 := cell_of_row _ _ 4 _ _ _ hz
     have d5 := cell_of_row _ _ 5 _ _ _ hz
     have d6 := cell_of_row _ _ 6 _ _ _ hz
     have d7 := cell_of_row _ _ 7 _ _ _ hz
     have f0 := row_free hz 0
     have f1 := row_free hz 1
     have f2 := row_free hz 2
     have f3 := row_free hz 3
     have f4 := row_free hz 4
     have f5 := row_free hz 5
     have f6 := row_free hz 6
     have f7 := row_free hz 7
     simp at c0 c1 c2 c3 c4 c5 c6 c7 d0 d1 d2 d3 d4 d5 d6 d7
     clear hx hy
     have HZ := Lib.hid hz
     clear hz
     go_wp2_with (fail)
     clear c0 c1 c2 c3 c4 c5 c6 c7 d0 d1 d2 d3 d4 d5 d6 d7 f0 f1 f2 f3 f4 f5 f6 f7
     have hR := row8 HZ.out (.int .u64 (dg (x + y) 0)) (.int .u64 (dg (x + y) 1)) (.int .u64 (dg (x + y) 2)) (.int .u64 (dg (x + y) 3)) (.int .u64 (dg (x + y) 4)) (.int .u64 (dg (x + y) 5)) (.int .u64 (dg (x + y) 6)) (.int .u64 (dg (x + y) 7))
     have hB := below8 hbw (show w.heap.size ≤ w.heap.size + 1 + 1 by omega) (.int .u64 (dg (x + y) 0)) (.int .u64 (dg (x + y) 1)) (.int .u64 (dg (x + y) 2)) (.int .u64 (dg (x + y) 3)) (.int .u64 (dg (x + y) 4)) (.int .u64 (dg (x + y) 5)) (.int .u64 (dg (x + y) 6)) (.int .u64 (dg (x + y) 7))
     generalize ((((((((wr.setCell ⟨w.heap.size + 1 + 1, 0, none⟩ (.int .u64 (dg (x + y) 0))).setCell ⟨w.heap.size + 1 + 1, 1, none⟩ (.int .u64 (dg (x + y) 1))).setCell ⟨w.heap.size + 1 + 1, 2, none⟩ (.int .u64 (dg (x + y) 2))).setCell ⟨w.heap.size + 1 + 1, 3, none⟩ (.int .u64 (dg (x + y) 3))).setCell ⟨w.heap.size + 1 + 1, 4, none⟩ (.int .u64 (dg (x + y) 4))).setCell ⟨w.heap.size + 1 + 1, 5, none⟩ (.int .u64 (dg (x + y) 5))).setCell ⟨w.heap.size + 1 + 1, 6, none⟩ (.int .u64 (dg (x + y) 6))).setCell ⟨w.heap.size + 1 + 1, 7, none⟩ (.int .u64 (dg (x + y) 7))) = w9 at *
     have k0 := cell_of_row _ _ 0 _ _ _ hR
     have k1 := cell_of_row _ _ 1 _ _ _ hR
     have k2 := cell_of_row _ _ 2 _ _ _ hR
     have k3 := cell_of_row _ _ 3 _ _ _ hR
     have k4 := cell_of_row _ _ 4 _ _ _ hR
     have k5 := cell_of_row _ _ 5 _ _ _ hR
     have k6 := cell_of_row _ _ 6 _ _ _ hR
     have k7 := cell_of_row _ _ 7 _ _ _ hR
     simp at k0 k1 k2 k3 k4 k5 k6 k7
     refine bodyPost_ret (v := .agg #[.int .u64 (dg (x + y) 0), .int .u64 (dg (x + y) 1), .int .u64 (dg (x + y) 2), .int .u64 (dg (x + y) 3), .int .u64 (dg (x + y) 4), .int .u64 (dg (x + y) 5), .int .u64 (dg (x + y) 6), .int .u64 (dg (x + y) 7)]) (by first | (simp [results, Tryz.results156, go_sem]; done) | (simp only [results, Tryz.results156]; go_simp; done) | (simp only [results, Tryz.results156]; go_simp; omega)) rfl (⟨rfl, hB⟩)
set_option maxRecDepth 100000 in
set_option maxHeartbeats 4000000 in
theorem less_c (x y : Int) (w : World) : Calls Tryz.prog 124 #[.agg #[.int .u64 (dg (x) 0), .int .u64 (dg (x) 1), .int .u64 (dg (x) 2), .int .u64 (dg (x) 3), .int .u64 (dg (x) 4), .int .u64 (dg (x) 5), .int .u64 (dg (x) 6), .int .u64 (dg (x) 7)], .agg #[.int .u64 (dg (y) 0), .int .u64 (dg (y) 1), .int .u64 (dg (y) 2), .int .u64 (dg (y) 3), .int .u64 (dg (y) 4), .int .u64 (dg (y) 5), .int .u64 (dg (y) 6), .int .u64 (dg (y) 7)]] w fun e w' => e = .returned (.agg #[.int .u64 (dg (x - y) 0), .int .u64 (dg (x - y) 1), .int .u64 (dg (x - y) 2), .int .u64 (dg (x - y) 3), .int .u64 (dg (x - y) 4), .int .u64 (dg (x - y) 5), .int .u64 (dg (x - y) 6), .int .u64 (dg (x - y) 7)]) ∧ Below w.heap.size w w' := by
 go_enter Tryz.func124, Tryz.ntmps124
 go_wp2_with (fail)
 go_loopw [5, 6] (fun c i wr => ∃ k : Nat, k ≤ 8 ∧ i = .int .i64 k ∧ c = .int .u64 (brr x y k) ∧ wr.heap[w.heap.size]? = some (.cells (mixA (x - y) x k) 156 (0, 0)) ∧ wr.heap[w.heap.size + 1]? = some (.cells #[.int .u64 (dg (y) 0), .int .u64 (dg (y) 1), .int .u64 (dg (y) 2), .int .u64 (dg (y) 3), .int .u64 (dg (y) 4), .int .u64 (dg (y) 5), .int .u64 (dg (y) 6), .int .u64 (dg (y) 7)] 156 (0, 0)) ∧ wr.heap[w.heap.size + 1 + 1]? = some (.cells Z8 156 (0, 0)) ∧ Below w.heap.size w wr) (fun _ i _ => 8 - (intOf i).toNat)
 case atStart =>
   refine ⟨0, by omega, rfl, by rw [brr_zero], ?_, ?_, ?_, (((Below.refl _ _).alloc (Nat.le_refl _) _).alloc (by simp) _).alloc (by simp <;> omega) _⟩
   · rw [mixA_zero]
     exact (Below.heap_alloc _ _ _ (by simp; omega)).trans ((Below.heap_alloc _ _ _ (by simp)).trans (heap_alloc_new w _))
   · have := (Below.heap_alloc ((w.alloc (.cells #[.int .u64 (dg (x) 0), .int .u64 (dg (x) 1), .int .u64 (dg (x) 2), .int .u64 (dg (x) 3), .int .u64 (dg (x) 4), .int .u64 (dg (x) 5), .int .u64 (dg (x) 6), .int .u64 (dg (x) 7)] 156)).alloc (.cells #[.int .u64 (dg (y) 0), .int .u64 (dg (y) 1), .int .u64 (dg (y) 2), .int .u64 (dg (y) 3), .int .u64 (dg (y) 4), .int .u64 (dg (y) 5), .int .u64 (dg (y) 6), .int .u64 (dg (y) 7)] 156)) (.cells #[.int .u64 0, .int .u64 0, .int .u64 0, .int .u64 0, .int .u64 0, .int .u64 0, .int .u64 0, .int .u64 0] 156) (w.heap.size + 1) (by simp)).trans (by have := heap_alloc_new (w.alloc (.cells #[.int .u64 (dg (x) 0), .int .u64 (dg (x) 1), .int .u64 (dg (x) 2), .int .u64 (dg (x) 3), .int .u64 (dg (x) 4), .int .u64 (dg (x) 5), .int .u64 (dg (x) 6), .int .u64 (dg (x) 7)] 156)) (.cells #[.int .u64 (dg (y) 0), .int .u64 (dg (y) 1), .int .u64 (dg (y) 2), .int .u64 (dg (y) 3), .int .u64 (dg (y) 4), .int .u64 (dg (y) 5), .int .u64 (dg (y) 6), .int .u64 (dg (y) 7)] 156); simp only [World.size_alloc] at this; exact this)
     exact this
   · have := heap_alloc_new ((w.alloc (.cells #[.int .u64 (dg (x) 0), .int .u64 (dg (x) 1), .int .u64 (dg (x) 2), .int .u64 (dg (x) 3), .int .u64 (dg (x) 4), .int .u64 (dg (x) 5), .int .u64 (dg (x) 6), .int .u64 (dg (x) 7)] 156)).alloc (.cells #[.int .u64 (dg (y) 0), .int .u64 (dg (y) 1), .int .u64 (dg (y) 2), .int .u64 (dg (y) 3), .int .u64 (dg (y) 4), .int .u64 (dg (y) 5), .int .u64 (dg (y) 6), .int .u64 (dg (y) 7)] 156)) (.cells Z8 156)
     simp only [World.size_alloc] at this
     exact this
 case round =>
   obtain ⟨k, hk, rfl, rfl, hx, hy, hz, hbw⟩ := hrel
   by_cases hlt : k < 8
   · have hcx : wr.cell? ⟨w.heap.size, k, none⟩ = some (.int .u64 (dg x k)) := by rw [cell_of_row _ _ _ _ _ _ hx, mixA_get _ _ _ _ hlt, if_neg (by omega)]
     have hfx := row_free hx k
     have hcy : wr.cell? ⟨w.heap.size + 1, k, none⟩ = some (.int .u64 (dg y k)) := by rw [cell_of_row _ _ _ _ _ _ hy, ← mixA_zero y y, mixA_get _ _ _ _ hlt, if_neg (by omega)]
     have r1 := dg_rng x k
     have r2 := dg_rng y k
     have r3 := brr_rng x y k
     have HP := Lib.hid (less_step x y k)
     have HM := Lib.hid (mixA_set (x - y) x k hlt)
     go_wp2_with (fail)
     go_quiet (fail)
     go_wp2_with (fail)
     go_roundw
     case rel =>
       refine ⟨k + 1, by omega, by go_num, by rw [HP.out.2], ?_, row_far hy _ _ _ (by omega), row_far hz _ _ _ (by omega), (below_drewN hbw _).setCell (p := ⟨w.heap.size, k, none⟩) (Nat.le_refl _) _⟩
       rw [← HM.out, ← HP.out.1]
       exact row_at hx _ _ _
     case measure => simp [intOf]; omega
   · obtain rfl : k = 8 := by omega
     rw [mixA_all] at hx
     have c0 := cell_of_row _ _ 0 _ _ _ hx
     have c1 := cell_of_row _ _ 1 _ _ _ hx
     have c2 := cell_of_row _ _ 2 _ _ _ hx
     have c3 := cell_of_row _ _ 3 _ _ _ hx
     have c4 := cell_of_row _ _ 4 _ _ _ hx
     have c5 := cell_of_row _ _ 5 _ _ _ hx
     have c6 := cell_of_row _ _ 6 _ _ _ hx
     have c7 := cell_of_row _ _ 7 _ _ _ hx
     have d0 := cell_of_row _ _ 0 _ _ _ hz
     have d1 := cell_of_row _ _ 1 _ _ _ hz
     have d2 := cell_of_row _ _ 2 _ _ _ hz
     have d3 := cell_of_row _ _ 3 _ _ _ hz
     have d4 := cell_of_row _ _ 4 _ _ _ hz
     have d5 := cell_of_row _ _ 5 _ _ _ hz
     have d6 := cell_of_row _ _ 6 _ _ _ hz
     have d7 := cell_of_row _ _ 7 _ _ _ hz
     have f0 := row_free hz 0
     have f1 := row_free hz 1
     have f2 := row_free hz 2
     have f3 := row_free hz 3
     have f4 := row_free hz 4
     have f5 := row_free hz 5
     have f6 := row_free hz 6
     have f7 := row_free hz 7
     simp at c0 c1 c2 c3 c4 c5 c6 c7 d0 d1 d2 d3 d4 d5 d6 d7
     clear hx hy
     have HZ := Lib.hid hz
     clear hz
     go_wp2_with (fail)
     clear c0 c1 c2 c3 c4 c5 c6 c7 d0 d1 d2 d3 d4 d5 d6 d7 f0 f1 f2 f3 f4 f5 f6 f7
     have hR := row8 HZ.out (.int .u64 (dg (x - y) 0)) (.int .u64 (dg (x - y) 1)) (.int .u64 (dg (x - y) 2)) (.int .u64 (dg (x - y) 3)) (.int .u64 (dg (x - y) 4)) (.int .u64 (dg (x - y) 5)) (.int .u64 (dg (x - y) 6)) (.int .u64 (dg (x - y) 7))
     have hB := below8 hbw (show w.heap.size ≤ w.heap.size + 1 + 1 by omega) (.int .u64 (dg (x - y) 0)) (.int .u64 (dg (x - y) 1)) (.int .u64 (dg (x - y) 2)) (.int .u64 (dg (x - y) 3)) (.int .u64 (dg (x - y) 4)) (.int .u64 (dg (x - y) 5)) (.int .u64 (dg (x - y) 6)) (.int .u64 (dg (x - y) 7))
     generalize ((((((((wr.setCell ⟨w.heap.size + 1 + 1, 0, none⟩ (.int .u64 (dg (x - y) 0))).setCell ⟨w.heap.size + 1 + 1, 1, none⟩ (.int .u64 (dg (x - y) 1))).setCell ⟨w.heap.size + 1 + 1, 2, none⟩ (.int .u64 (dg (x - y) 2))).setCell ⟨w.heap.size + 1 + 1, 3, none⟩ (.int .u64 (dg (x - y) 3))).setCell ⟨w.heap.size + 1 + 1, 4, none⟩ (.int .u64 (dg (x - y) 4))).setCell ⟨w.heap.size + 1 + 1, 5, none⟩ (.int .u64 (dg (x - y) 5))).setCell ⟨w.heap.size + 1 + 1, 6, none⟩ (.int .u64 (dg (x - y) 6))).setCell ⟨w.heap.size + 1 + 1, 7, none⟩ (.int .u64 (dg (x - y) 7))) = w9 at *
     have k0 := cell_of_row _ _ 0 _ _ _ hR
     have k1 := cell_of_row _ _ 1 _ _ _ hR
     have k2 := cell_of_row _ _ 2 _ _ _ hR
     have k3 := cell_of_row _ _ 3 _ _ _ hR
     have k4 := cell_of_row _ _ 4 _ _ _ hR
     have k5 := cell_of_row _ _ 5 _ _ _ hR
     have k6 := cell_of_row _ _ 6 _ _ _ hR
     have k7 := cell_of_row _ _ 7 _ _ _ hR
     simp at k0 k1 k2 k3 k4 k5 k6 k7
     refine bodyPost_ret (v := .agg #[.int .u64 (dg (x - y) 0), .int .u64 (dg (x - y) 1), .int .u64 (dg (x - y) 2), .int .u64 (dg (x - y) 3), .int .u64 (dg (x - y) 4), .int .u64 (dg (x - y) 5), .int .u64 (dg (x - y) 6), .int .u64 (dg (x - y) 7)]) (by first | (simp [results, Tryz.results124, go_sem]; done) | (simp only [results, Tryz.results124]; go_simp; done) | (simp only [results, Tryz.results124]; go_simp; omega)) rfl (⟨rfl, hB⟩)
end Go.Proofs.YtgondiedehjkhaaGreatDoor
