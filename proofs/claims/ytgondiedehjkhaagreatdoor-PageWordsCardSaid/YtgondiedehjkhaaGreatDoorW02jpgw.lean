/-
 Numbers of digits: the product.
-/
import Derived.Test.YtgondiedehjkhaaGreatDoorW02ipgw
import Derived.Test.YtgondiedehjkhaaGreatDoorMulmpgw
namespace Go.Proofs.YtgondiedehjkhaaGreatDoor
open Go.RowKit Go.Extern.Stop Go.Stop Go.Extern
set_option linter.unusedVariables false
set_option linter.unusedSimpArgs false
def fB (b : Bool) (f : Nat → Int) : Array Value := #[.bool b, .int .u64 (f 0), .int .u64 (f 1), .int .u64 (f 2), .int .u64 (f 3), .int .u64 (f 4), .int .u64 (f 5), .int .u64 (f 6), .int .u64 (f 7)]
theorem fB_get (b : Bool) (f : Nat → Int) (k : Nat) (hk : k < 8) : (fB b f)[k + 1]? = some (.int .u64 (f k)) := by
 obtain rfl | rfl | rfl | rfl | rfl | rfl | rfl | rfl : k = 0 ∨ k = 1 ∨ k = 2 ∨ k = 3 ∨ k = 4 ∨ k = 5 ∨ k = 6 ∨ k = 7 := by omega
 all_goals rfl
theorem fB_set (b : Bool) (f h : Nat → Int) (k : Nat) (v : Int) (hk : k < 8) (e : ∀ m, m < 8 → h m = if m = k then v else f m) : (fB b f).setIfInBounds (k + 1) (.int .u64 v) = fB b h := by
 unfold fB
 rw [e 0 (by omega), e 1 (by omega), e 2 (by omega), e 3 (by omega), e 4 (by omega), e 5 (by omega), e 6 (by omega), e 7 (by omega)]
 obtain rfl | rfl | rfl | rfl | rfl | rfl | rfl | rfl : k = 0 ∨ k = 1 ∨ k = 2 ∨ k = 3 ∨ k = 4 ∨ k = 5 ∨ k = 6 ∨ k = 7 := by omega
 all_goals rfl
def mF (X Y : Int) (i j m : Nat) : Int := if m < i + j then dg (mS X Y i j) m else dg (X % BS ^ i * Y) m
theorem mF_zero (X Y : Int) (i : Nat) : mF X Y i 0 = dg (X % BS ^ i * Y) := by
 funext m
 unfold mF
 rw [mS_zero]
 split <;> rfl
theorem mF_next (X Y : Int) (i j m : Nat) : mF X Y i (j + 1) m = if m = i + j then dg (mS X Y i (j + 1)) (i + j) else mF X Y i j m := by
 unfold mF
 by_cases h : m = i + j
 · subst h; rw [if_pos (by omega), if_pos rfl]
 · rw [if_neg h]
   by_cases h1 : m < i + j
   · rw [if_pos (by omega), if_pos h1, mS_low _ _ _ _ _ h1]
   · rw [if_neg (by omega), if_neg h1]
theorem mF_end (X Y : Int) (i m : Nat) (h0 : 0 ≤ Y) (h1 : Y < BS ^ 4) : dg (X % BS ^ (i + 1) * Y) m = if m = i + 4 then mC X Y i 4 else mF X Y i 4 m := by
 obtain ⟨p0, p1⟩ := mP_lt X Y i h0 h1
 obtain ⟨q0, q1⟩ := mP_lt X Y (i + 1) h0 h1
 by_cases h : m = i + 4
 · subst h; rw [if_pos rfl, mC_top X Y i h0 h1]
 · rw [if_neg h]
   unfold mF
   by_cases h2 : m < i + 4
   · rw [if_pos h2, mS_four X Y i h0 h1]
   · rw [if_neg h2, dg_high _ m p0 _ p1 (by omega), dg_high _ m q0 _ q1 (by omega)]
theorem mul_fits (a b o c : Int) (ha : 0 ≤ a ∧ a < 4294967296) (hb : 0 ≤ b ∧ b < 4294967296) (ho : 0 ≤ o ∧ o < 4294967296) (hc : 0 ≤ c ∧ c < 4294967296) : 0 ≤ a * b ∧ a * b + o + c < 18446744073709551616 := by
 have h1 : a * b ≤ 4294967295 * 4294967295 := Int.mul_le_mul (by omega) (by omega) (by omega) (by decide)
 exact ⟨Int.mul_nonneg ha.1 hb.1, by omega⟩
def MRows (w : World) (s t : Bool) (X Y : Int) (f : Nat → Int) (wr : World) : Prop :=
 wr.heap[w.heap.size]? = some (.cells (fB s (dg X)) 158 (0, 0)) ∧ wr.heap[w.heap.size + 1]? = some (.cells (fB t (dg Y)) 158 (0, 0)) ∧ wr.heap[w.heap.size + 1 + 1]? = some (.cells Z9 158 (0, 0)) ∧ wr.heap[w.heap.size + 1 + 1 + 1]? = some (.cells (fB false f) 158 (0, 0)) ∧ Below w.heap.size w wr
set_option maxRecDepth 100000 in
theorem ret_Mul (a : Act) (W : World) (g : Nat) (v0 v1 v2 v3 v4 v5 v6 v7 v8 : Value) (ha : a.tmps.getD 4 undef = .pointer (some ⟨g, 0, none⟩)) (hd : a.defers = []) (hR : W.heap[g]? = some (.cells #[v0, v1, v2, v3, v4, v5, v6, v7, v8] 158 (0, 0))) {R : Ending → World → Prop} (h : R (.returned (.agg #[v0, v1, v2, v3, v4, v5, v6, v7, v8])) W) :
   bodyPost Tryz.prog Tryz.f69 R Exit.ret a W := by
 have k0 := cell_of_row _ _ 0 _ _ _ hR
 have k1 := cell_of_row _ _ 1 _ _ _ hR
 have k2 := cell_of_row _ _ 2 _ _ _ hR
 have k3 := cell_of_row _ _ 3 _ _ _ hR
 have k4 := cell_of_row _ _ 4 _ _ _ hR
 have k5 := cell_of_row _ _ 5 _ _ _ hR
 have k6 := cell_of_row _ _ 6 _ _ _ hR
 have k7 := cell_of_row _ _ 7 _ _ _ hR
 have k8 := cell_of_row _ _ 8 _ _ _ hR
 simp only [List.getElem?_toArray, List.getElem?_cons_zero, List.getElem?_cons_succ] at k0 k1 k2 k3 k4 k5 k6 k7 k8
 clear hR
 refine bodyPost_ret (v := .agg #[v0, v1, v2, v3, v4, v5, v6, v7, v8]) ?_ hd h
 have ha2 : a.tmps[4]?.getD undef = .pointer (some ⟨g, 0, none⟩) := by simpa using ha
 clear ha
 simp only [results, Tryz.results69]
 simp [ha2, go_sem, k0, k1, k2, k3, k4, k5, k6, k7, k8]
set_option maxRecDepth 100000 in
set_option maxHeartbeats 4000000 in
theorem mul_raw (s t : Bool) (X Y : Int) (w : World) (hX0 : 0 ≤ X) (hX1 : X < BS ^ 4) (hY0 : 0 ≤ Y) (hY1 : Y < BS ^ 4) :
   Calls Tryz.prog 69 #[.agg (fB s (dg X)), .agg (fB t (dg Y))] w fun e w' => e = .returned (.agg (fB (s != t && decide (X * Y ≠ 0)) (dg (X * Y)))) ∧ Below w.heap.size w w' := by
 unfold fB
 go_enter Tryz.func69, Tryz.ntmps69
 go_wp2_with (fail)
 go_loopw [6] (fun i wr => ∃ n : Nat, n ≤ 4 ∧ i = .int .i64 n ∧ MRows w s t X Y (dg (X % BS ^ n * Y)) wr) (fun i _ => 4 - (intOf i).toNat)
 case atStart =>
   have hz : fB false (dg (X % BS ^ 0 * Y)) = Z9 := by simp [fB, dg, Int.emod_one]
   refine ⟨0, by omega, rfl, ?_⟩
   unfold MRows
   rw [hz]
   unfold fB
   refine ⟨?_, ?_, ?_, ?_, by repeat (first | with_reducible assumption | with_reducible exact Below.refl _ _ | (with_reducible refine Below.setCell ?_ (by first | omega | (simp; done) | (simp; omega)) _) | (with_reducible refine Below.alloc ?_ (by first | omega | (simp; done) | (simp; omega)) _) | (with_reducible refine Below.drew ?_) | (with_reducible refine below_drewN ?_ _))⟩ <;> (repeat (first | with_reducible assumption | (with_reducible refine (Below.heap_setCell _ _ _ _ (by first | omega | (simp; done) | (simp; omega))).trans ?_) | (with_reducible refine (heap_dN _ _ _).trans ?_) | (with_reducible refine (heap_dr _ _).trans ?_) | (with_reducible refine (Below.heap_alloc _ _ _ (by first | omega | (simp; done) | (simp; omega))).trans ?_) | (with_reducible exact heap_new' _ _ _ (by first | omega | (simp; done) | (simp; omega)))))
 case round =>
   obtain ⟨n, hn, rfl, hrow⟩ := hrel
   by_cases hlt : n < 4
   · go_wp2_with (fail)
     go_loopw [7, 8] (fun c j wq => ∃ m : Nat, m ≤ 4 ∧ j = .int .i64 m ∧ c = .int .u64 (mC X Y n m) ∧ MRows w s t X Y (mF X Y n m) wq) (fun _ j _ => 4 - (intOf j).toNat)
     case atStart => exact ⟨0, by omega, rfl, by rw [mC_zero], by rw [mF_zero]; exact hrow⟩
     case round =>
       clear hrow
       obtain ⟨m, hm, rfl, rfl, hx, hy, hz, ho, hbw⟩ := hrel
       by_cases hl2 : m < 4
       · have hcx := (cell_of_row _ _ (n + 1) _ _ _ hx).trans (fB_get s (dg X) n (by omega))
         have hcy := (cell_of_row _ _ (m + 1) _ _ _ hy).trans (fB_get t (dg Y) m (by omega))
         have hco := (cell_of_row _ _ (n + m + 1) _ _ _ ho).trans (fB_get false (mF X Y n m) (n + m) (by omega))
         rw [show mF X Y n m (n + m) = dg (X % BS ^ n * Y) (n + m) by unfold mF; rw [if_neg (by omega)]] at hco
         have hfo := row_free ho (n + m + 1)
         have HP := Lib.hid (mul_step X Y n m)
         have HM := Lib.hid (fB_set false (mF X Y n m) (mF X Y n (m + 1)) (n + m) (dg (mS X Y n (m + 1)) (n + m)) (by omega) (fun k _ => mF_next X Y n m k))
         have r1 := dg_rng X n
         have r2 := dg_rng Y m
         have r3 := dg_rng (X % BS ^ n * Y) (n + m)
         have r4 := mC_rng X Y n m
         obtain ⟨f0, f1⟩ := mul_fits _ _ _ _ r1 r2 r3 r4
         have e1 : IntKind.u64.wrap (dg X n * dg Y m) = dg X n * dg Y m := by rw [IntKind.wrap_u64]; omega
         have e2 : IntKind.u64.wrap (dg X n * dg Y m + dg (X % BS ^ n * Y) (n + m)) = dg X n * dg Y m + dg (X % BS ^ n * Y) (n + m) := by rw [IntKind.wrap_u64]; omega
         have e3 : IntKind.u64.wrap (dg X n * dg Y m + dg (X % BS ^ n * Y) (n + m) + mC X Y n m) = dg X n * dg Y m + dg (X % BS ^ n * Y) (n + m) + mC X Y n m := by rw [IntKind.wrap_u64]; omega
         have e0 : 0 ≤ dg X n * dg Y m + dg (X % BS ^ n * Y) (n + m) + mC X Y n m := by omega
         clear f0
         have K1 := Lib.hid (HP.out.1)
         have K2 := Lib.hid (HP.out.2)
         clear HP
         generalize dg (X % BS ^ n * Y) (n + m) = o at *
         obtain ⟨m1, hm1⟩ : ∃ m1, m1 = m + 1 := ⟨_, rfl⟩
         rw [← hm1] at K1 K2 HM
         generalize mC X Y n m = cc at K1 K2 e0 e2 e3 r4 f1 ⊢
         obtain rfl | rfl | rfl | rfl : n = 0 ∨ n = 1 ∨ n = 2 ∨ n = 3 := by omega
         all_goals obtain rfl | rfl | rfl | rfl : m = 0 ∨ m = 1 ∨ m = 2 ∨ m = 3 := by omega
         all_goals simp only [Nat.zero_add, Nat.reduceAdd] at hcx hcy hco hfo
         all_goals
           go_wp2_with (fail)
           go_quiet (fail)
           go_wp2_with (fail)
           go_roundw
           case rel =>
             unfold MRows
             refine ⟨m1, by omega, by first | rfl | go_num, congrArg (Value.int .u64) K2.out, row_far hx _ _ _ (by omega), row_far hy _ _ _ (by omega), row_far hz _ _ _ (by omega), (row_at ho _ _ _).trans (congrArg (fun cs => some (Obj.cells cs 158 (0, 0))) ((congrArg (fun v => (fB false (mF X Y _ _)).setIfInBounds _ (Value.int .u64 v)) K1.out).trans HM.out)), (below_drewN hbw _).setCell (by first | omega | (simp; done) | (simp; omega)) _⟩
           case measure => simp [intOf]
       · obtain rfl : m = 4 := by omega
         have hco := (cell_of_row _ _ (n + 4 + 1) _ _ _ ho).trans (fB_get false (mF X Y n 4) (n + 4) (by omega))
         have hfo := row_free ho (n + 4 + 1)
         obtain ⟨n1, hn1⟩ : ∃ n1, n1 = n + 1 := ⟨_, rfl⟩
         have HM := Lib.hid (fB_set false (mF X Y n 4) (dg (X % BS ^ (n + 1) * Y)) (n + 4) (mC X Y n 4) (by omega) (fun k _ => mF_end X Y n k hY0 hY1))
         rw [← hn1] at HM
         obtain rfl | rfl | rfl | rfl : n = 0 ∨ n = 1 ∨ n = 2 ∨ n = 3 := by omega
         all_goals simp only [Nat.zero_add, Nat.reduceAdd] at hco hfo
         all_goals
           go_wp2_with (fail)
           go_roundw
           case rel =>
             unfold MRows
             refine ⟨n1, by omega, by first | rfl | go_num, (Below.heap_setCell _ _ _ _ (by first | omega | (simp; done) | (simp; omega))).trans hx, (Below.heap_setCell _ _ _ _ (by first | omega | (simp; done) | (simp; omega))).trans hy, (Below.heap_setCell _ _ _ _ (by first | omega | (simp; done) | (simp; omega))).trans hz, (set_row ho _ _).trans (congrArg (fun cs => some (Obj.cells cs 158 (0, 0))) HM.out), hbw.setCell (by first | omega | (simp; done) | (simp; omega)) _⟩
           case measure => simp [intOf]
   · obtain rfl : n = 4 := by omega
     obtain ⟨hx, hy, hz, ho, hbw⟩ := hrow
     rw [Int.emod_eq_of_lt hX0 hX1] at ho
     have HZ : Hid (0 ≤ X * Y ∧ X * Y < B8) := Lib.hid ⟨Int.mul_nonneg hX0 hY0, by have := (mP_lt X Y 4 hY0 hY1).2; rw [Int.emod_eq_of_lt hX0 hX1] at this; exact this⟩
     have x0 := cell_of_row _ _ 0 _ _ _ hx
     have y0 := cell_of_row _ _ 0 _ _ _ hy
     unfold fB at ho x0 y0
     have c0 := cell_of_row _ _ 0 _ _ _ ho
     have c1 := cell_of_row _ _ 1 _ _ _ ho
     have c2 := cell_of_row _ _ 2 _ _ _ ho
     have c3 := cell_of_row _ _ 3 _ _ _ ho
     have c4 := cell_of_row _ _ 4 _ _ _ ho
     have c5 := cell_of_row _ _ 5 _ _ _ ho
     have c6 := cell_of_row _ _ 6 _ _ _ ho
     have c7 := cell_of_row _ _ 7 _ _ _ ho
     have c8 := cell_of_row _ _ 8 _ _ _ ho
     have d0 := cell_of_row _ _ 0 _ _ _ hz
     have d1 := cell_of_row _ _ 1 _ _ _ hz
     have d2 := cell_of_row _ _ 2 _ _ _ hz
     have d3 := cell_of_row _ _ 3 _ _ _ hz
     have d4 := cell_of_row _ _ 4 _ _ _ hz
     have d5 := cell_of_row _ _ 5 _ _ _ hz
     have d6 := cell_of_row _ _ 6 _ _ _ hz
     have d7 := cell_of_row _ _ 7 _ _ _ hz
     have d8 := cell_of_row _ _ 8 _ _ _ hz
     have f0 := row_free hz 0
     have f1 := row_free hz 1
     have f2 := row_free hz 2
     have f3 := row_free hz 3
     have f4 := row_free hz 4
     have f5 := row_free hz 5
     have f6 := row_free hz 6
     have f7 := row_free hz 7
     have f8 := row_free hz 8
     have g0 := row_free ho 0
     have zz1 : w.heap.size + 1 + 1 + 1 < wr.heap.size := (Array.getElem?_eq_some_iff.1 ho).1
     have zz2 : w.heap.size + 1 + 1 < wr.heap.size := by omega
     simp only [List.getElem?_toArray, List.getElem?_cons_zero, List.getElem?_cons_succ] at x0 y0 c0 d0 c1 d1 c2 d2 c3 d3 c4 d4 c5 d5 c6 d6 c7 d7 c8 d8
     have HQ := Lib.hid hz
     clear hx hy hz ho
     by_cases hst : s = t
     · subst hst
       cases s
       all_goals
         go_wp2_with (fail)
         exact ret_Mul _ _ (w.heap.size + 1 + 1) _ _ _ _ _ _ _ _ _ rfl rfl (row9 (by have hh := HQ.out; exact (by repeat (first | with_reducible assumption | (with_reducible refine (Below.heap_setCell _ _ _ _ (by first | omega | (simp; done) | (simp; omega))).trans ?_) | (with_reducible refine (heap_dN _ _ _).trans ?_) | (with_reducible refine (heap_dr _ _).trans ?_) | (with_reducible refine (Below.heap_alloc _ _ _ (by first | omega | (simp; done) | (simp; omega))).trans ?_) | (with_reducible exact heap_new' _ _ _ (by first | omega | (simp; done) | (simp; omega)))))) _ _ _ _ _ _ _ _ _) ⟨by rfl, by repeat (first | with_reducible assumption | with_reducible exact Below.refl _ _ | (with_reducible refine Below.setCell ?_ (by first | omega | (simp; done) | (simp; omega)) _) | (with_reducible refine Below.alloc ?_ (by first | omega | (simp; done) | (simp; omega)) _) | (with_reducible refine Below.drew ?_) | (with_reducible refine below_drewN ?_ _))⟩
     · by_cases hZ : X * Y = 0
       · have hd : decide (X * Y ≠ 0) = false := by simp [hZ]
         rw [hZ] at c1 c2 c3 c4 c5 c6 c7 c8
         have HD := Lib.hid hd
         have HE := Lib.hid hZ
         clear hd hZ
         cases s <;> cases t
         all_goals first
           | exact absurd rfl hst
           | (go_wp2_with (go_at_call 74; (with_reducible refine (zero_yes _).mono ?_); rintro e w1 ⟨rfl, hb1⟩; obtain ⟨hc1, hf1⟩ := bcell hb1; have hz1 := hb1.size; (try simp at hz1); have z11 : w.heap.size + 1 + 1 + 1 < w1.heap.size := (by omega); have z12 : w.heap.size + 1 + 1 < w1.heap.size := (by omega))
              exact ret_Mul _ _ (w.heap.size + 1 + 1) _ _ _ _ _ _ _ _ _ rfl rfl (row9 (by have hh := HQ.out; exact (by repeat (first | with_reducible assumption | (with_reducible refine (Below.heap_setCell _ _ _ _ (by first | omega | (simp; done) | (simp; omega))).trans ?_) | (with_reducible refine (heap_dN _ _ _).trans ?_) | (with_reducible refine (heap_dr _ _).trans ?_) | (with_reducible refine (Below.heap_alloc _ _ _ (by first | omega | (simp; done) | (simp; omega))).trans ?_) | (with_reducible refine (hb1.block _ (by first | omega | (simp; done) | (simp; omega))).trans ?_) | (with_reducible exact heap_new' _ _ _ (by first | omega | (simp; done) | (simp; omega)))))) _ _ _ _ _ _ _ _ _) ⟨by rw [HD.out, HE.out]; rfl, by repeat (first | with_reducible assumption | with_reducible exact Below.refl _ _ | (with_reducible refine Below.setCell ?_ (by first | omega | (simp; done) | (simp; omega)) _) | (with_reducible refine Below.alloc ?_ (by first | omega | (simp; done) | (simp; omega)) _) | (with_reducible refine Below.drew ?_) | (with_reducible refine Below.trans ?_ (Below.mono hb1 (by first | omega | (simp; done) | (simp; omega)))) | (with_reducible refine below_drewN ?_ _))⟩)
       · have hd : decide (X * Y ≠ 0) = true := by simp [hZ]
         have HD := Lib.hid hd
         have HE : Hid (X * Y ≠ 0) := Lib.hid hZ
         clear hd hZ
         cases s <;> cases t
         all_goals first
           | exact absurd rfl hst
           | (go_wp2_with (go_at_call 74; (with_reducible refine (zero_no _ _ HZ HE).mono ?_); rintro e w1 ⟨rfl, hb1⟩; obtain ⟨hc1, hf1⟩ := bcell hb1; have hz1 := hb1.size; (try simp at hz1); have z11 : w.heap.size + 1 + 1 + 1 < w1.heap.size := (by omega); have z12 : w.heap.size + 1 + 1 < w1.heap.size := (by omega))
              exact ret_Mul _ _ (w.heap.size + 1 + 1) _ _ _ _ _ _ _ _ _ rfl rfl (row9 (by have hh := HQ.out; exact (by repeat (first | with_reducible assumption | (with_reducible refine (Below.heap_setCell _ _ _ _ (by first | omega | (simp; done) | (simp; omega))).trans ?_) | (with_reducible refine (heap_dN _ _ _).trans ?_) | (with_reducible refine (heap_dr _ _).trans ?_) | (with_reducible refine (Below.heap_alloc _ _ _ (by first | omega | (simp; done) | (simp; omega))).trans ?_) | (with_reducible refine (hb1.block _ (by first | omega | (simp; done) | (simp; omega))).trans ?_) | (with_reducible exact heap_new' _ _ _ (by first | omega | (simp; done) | (simp; omega)))))) _ _ _ _ _ _ _ _ _) ⟨by rw [HD.out]; rfl, by repeat (first | with_reducible assumption | with_reducible exact Below.refl _ _ | (with_reducible refine Below.setCell ?_ (by first | omega | (simp; done) | (simp; omega)) _) | (with_reducible refine Below.alloc ?_ (by first | omega | (simp; done) | (simp; omega)) _) | (with_reducible refine Below.drew ?_) | (with_reducible refine Below.trans ?_ (Below.mono hb1 (by first | omega | (simp; done) | (simp; omega)))) | (with_reducible refine below_drewN ?_ _))⟩)
theorem fB_big (x : Int) : .agg (fB (decide (x < 0)) (dg (if x < 0 then -x else x))) = bigV x := rfl
theorem mul_c (x y z : Int) (w : World) (hx : -BS ^ 4 < x ∧ x < BS ^ 4) (hy : -BS ^ 4 < y ∧ y < BS ^ 4) (hz : x * y = z) : Calls Tryz.prog 69 #[bigV x, bigV y] w fun e w' => e = .returned (bigV z) ∧ Below w.heap.size w w' := by
 subst hz
 have h := mul_raw (decide (x < 0)) (decide (y < 0)) (if x < 0 then -x else x) (if y < 0 then -y else y) w (by split <;> omega) (by split <;> omega) (by split <;> omega) (by split <;> omega)
 have e : (.agg (fB (decide (x < 0) != decide (y < 0) && decide ((if x < 0 then -x else x) * (if y < 0 then -y else y) ≠ 0)) (dg ((if x < 0 then -x else x) * (if y < 0 then -y else y)))) : Value) = bigV (x * y) := by
   rw [← fB_big]
   by_cases h1 : x < 0
   · by_cases h2 : y < 0
     · have h3 : 0 < x * y := Int.mul_pos_of_neg_of_neg h1 h2
       rw [if_pos h1, if_pos h2, if_neg (by omega), decide_eq_true h1, decide_eq_true h2, decide_eq_false (by omega : ¬ x * y < 0), Int.neg_mul_neg]
       rfl
     · rw [if_pos h1, if_neg h2, decide_eq_true h1, decide_eq_false h2, Int.neg_mul]
       have h3 : x * y ≤ 0 := Int.mul_nonpos_of_nonpos_of_nonneg (by omega) (by omega)
       by_cases h4 : x * y = 0
       · rw [h4]; rfl
       · rw [if_pos (by omega), decide_eq_true (by omega : x * y < 0), decide_eq_true (by omega : -(x * y) ≠ 0)]
         rfl
   · by_cases h2 : y < 0
     · rw [if_neg h1, if_pos h2, decide_eq_false h1, decide_eq_true h2, Int.mul_neg]
       have h3 : x * y ≤ 0 := Int.mul_nonpos_of_nonneg_of_nonpos (by omega) (by omega)
       by_cases h4 : x * y = 0
       · rw [h4]; rfl
       · rw [if_pos (by omega), decide_eq_true (by omega : x * y < 0), decide_eq_true (by omega : -(x * y) ≠ 0)]
         rfl
     · have h3 : 0 ≤ x * y := Int.mul_nonneg (by omega) (by omega)
       rw [if_neg h1, if_neg h2, if_neg (by omega), decide_eq_false h1, decide_eq_false h2, decide_eq_false (by omega : ¬ x * y < 0)]
       rfl
 rw [e] at h
 exact h
end Go.Proofs.YtgondiedehjkhaaGreatDoor
