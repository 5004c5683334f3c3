/-
 The statement fuseelaw19.PageWords, closed: the row from its walk, the card from the row and the given tie.
-/
import Derived.Test.YtgondiedehjkhaaGreatDoorPwpgw
import Derived.Test.YtgondiedehjkhaaGreatDoorFramepgw
import Derived.Test.YtgondiedehjkhaaGreatDoorTie
import Derived.Test.YtgondiedehjkhaaGreatDoorCards
import Derived.Test.YtgondiedehjkhaaGreatDoorOpnpgw
import Derived.SevenTiedAt
namespace Go.Proofs.YtgondiedehjkhaaGreatDoor.pageWords
open Go.ChangeShapes Go.WideShapes Go.RowKit Go.Proofs.YtgondiedehjkhaaGreatDoor.Sy
set_option linter.unusedVariables false

theorem arr_of1 {xs : Array Value} (h : xs.size = 1) : ∃ c0, xs = #[c0] := by
 obtain ⟨l⟩ := xs
 match l, h with
 | [c0], _ => exact ⟨c0, rfl⟩
theorem list_of1 {α : Type} {xs : List α} (h : xs.length = 1) : ∃ c0, xs = [c0] := by
 match xs, h with
 | [c0], _ => exact ⟨c0, rfl⟩
theorem arr_of10 {xs : Array Value} (h : xs.size = 10) : ∃ c0 c1 c2 c3 c4 c5 c6 c7 c8 c9, xs = #[c0, c1, c2, c3, c4, c5, c6, c7, c8, c9] := by
 obtain ⟨l⟩ := xs
 match l, h with
 | [c0, c1, c2, c3, c4, c5, c6, c7, c8, c9], _ => exact ⟨c0, c1, c2, c3, c4, c5, c6, c7, c8, c9, rfl⟩
theorem list_of10 {α : Type} {xs : List α} (h : xs.length = 10) : ∃ c0 c1 c2 c3 c4 c5 c6 c7 c8 c9, xs = [c0, c1, c2, c3, c4, c5, c6, c7, c8, c9] := by
 match xs, h with
 | [c0, c1, c2, c3, c4, c5, c6, c7, c8, c9], _ => exact ⟨c0, c1, c2, c3, c4, c5, c6, c7, c8, c9, rfl⟩
theorem arr_of13 {xs : Array Value} (h : xs.size = 13) : ∃ c0 c1 c2 c3 c4 c5 c6 c7 c8 c9 c10 c11 c12, xs = #[c0, c1, c2, c3, c4, c5, c6, c7, c8, c9, c10, c11, c12] := by
 obtain ⟨l⟩ := xs
 match l, h with
 | [c0, c1, c2, c3, c4, c5, c6, c7, c8, c9, c10, c11, c12], _ => exact ⟨c0, c1, c2, c3, c4, c5, c6, c7, c8, c9, c10, c11, c12, rfl⟩
theorem list_of13 {α : Type} {xs : List α} (h : xs.length = 13) : ∃ c0 c1 c2 c3 c4 c5 c6 c7 c8 c9 c10 c11 c12, xs = [c0, c1, c2, c3, c4, c5, c6, c7, c8, c9, c10, c11, c12] := by
 match xs, h with
 | [c0, c1, c2, c3, c4, c5, c6, c7, c8, c9, c10, c11, c12], _ => exact ⟨c0, c1, c2, c3, c4, c5, c6, c7, c8, c9, c10, c11, c12, rfl⟩
theorem arr_of16 {xs : Array Value} (h : xs.size = 16) : ∃ c0 c1 c2 c3 c4 c5 c6 c7 c8 c9 c10 c11 c12 c13 c14 c15, xs = #[c0, c1, c2, c3, c4, c5, c6, c7, c8, c9, c10, c11, c12, c13, c14, c15] := by
 obtain ⟨l⟩ := xs
 match l, h with
 | [c0, c1, c2, c3, c4, c5, c6, c7, c8, c9, c10, c11, c12, c13, c14, c15], _ => exact ⟨c0, c1, c2, c3, c4, c5, c6, c7, c8, c9, c10, c11, c12, c13, c14, c15, rfl⟩
theorem list_of16 {α : Type} {xs : List α} (h : xs.length = 16) : ∃ c0 c1 c2 c3 c4 c5 c6 c7 c8 c9 c10 c11 c12 c13 c14 c15, xs = [c0, c1, c2, c3, c4, c5, c6, c7, c8, c9, c10, c11, c12, c13, c14, c15] := by
 match xs, h with
 | [c0, c1, c2, c3, c4, c5, c6, c7, c8, c9, c10, c11, c12, c13, c14, c15], _ => exact ⟨c0, c1, c2, c3, c4, c5, c6, c7, c8, c9, c10, c11, c12, c13, c14, c15, rfl⟩
theorem okWide_arr {P : Program} {w : World} {r : Reach} {base : Nat} {t e : TypeId} {n : Nat} {v : Value} (ht : P.underlying t = some (.array n e)) (h : Value.okWide P w r base t v) : ∃ cs, v = .agg cs ∧ cs.size = P.cellsOf t := by
 simp only [Value.okWide, ht] at h
 obtain ⟨cs, h1, h2, _⟩ := h
 exact ⟨cs, h1, h2⟩
set_option linter.unusedSimpArgs false
set_option maxRecDepth 100000 in
theorem lifted (os : Os) (started : os.Started) (H : Type) (enc : TypeId × Value → H) :
   ReturnsInHanded {} Tryz.checked os 3 .any (fun w args => (Rows.pageWordsSpec.pre enc Tryz.prog Tryz.f3 [] false w args ∧ laidMetH Tryz.prog Rows.pageWordsRow.laid w) ∧ sizedMet enc Tryz.prog Tryz.f3 (OpenSpec.ofChange Rows.pageWordsSpec) false w args)
     (Rows.pageWordsSpec.post enc Tryz.prog Tryz.f3 false true false false) := by
 refine returnsInHanded_of_change_and (C := Tryz.checked) (X := fun w _ => laidMetH Tryz.prog Rows.pageWordsRow.laid w) (fun _ _ _ hh h => h.of_heap hh) Tryz.own started (by kernel_rfl) Tryz.func3
   (ChangeSpec.witness_at (enc := enc) (C := Tryz.checked) (os := os) (X := fun w _ => laidMetH Tryz.prog Rows.pageWordsRow.laid w) false (laidWorld os) #[.agg #[.int .u32 0, .int .i64 0, .int .i64 0, .int .i64 0, .int .i64 0, .int .i64 0, .int .i64 0, .bool false, .int .i64 0, .int .i64 0, .int .i64 0, .int .i64 0, .int .i64 0], .agg #[.int .i64 0, .int .i64 0, .int .i64 0, .int .i64 0, .int .u32 0, .int .i64 0, .int .u32 0, .int .i64 0, .int .i64 0, .int .i64 0], .agg #[.int .u64 0, .int .u64 0, .int .u64 0, .int .u64 0, .int .u64 0, .int .u64 0, .int .u64 0, .int .u64 0, .int .u64 0, .int .u64 0, .int .u64 0, .int .u64 0, .int .u64 0, .int .u64 0, .int .u64 0, .int .u64 0]] 8 rfl (by kernel_rfl) (by kernel_rfl) (by kernel_rfl) (by kernel_rfl) (by kernel_rfl) (laidWorld_met os _)) ?_
 intro W base args ds gs before hval0 hW _ hsz hL _
 have hval : ∀ (j : Nat) t v, Tryz.f3.params[j]? = some t → args[j]? = some v → Value.okWide Tryz.prog W .any base t v := hval0
 have hW0 := hW
 obtain ⟨p, q, hA0, hV, rfl, hfz, hnd⟩ := hW0
 have hA : DataW.TrodAll enc Tryz.prog W 0 (fun _ => true) true Tryz.f3.params.toList args.toList ds p := hA0
 rw [Tryz.params3] at hA hval hsz
 obtain ⟨v0, vs0, d0, ds0, p0, q0, hargs, rfl, rfl, h0, r0⟩ := trodAll_cons hA
 obtain ⟨v1, vs1, d1, ds1, p1, q1, rfl, rfl, rfl, h1, r1⟩ := trodAll_cons r0
 obtain ⟨v2, vs2, d2, ds2, p2, q2, rfl, rfl, rfl, h2, r2⟩ := trodAll_cons r1
 obtain ⟨rfl, rfl, rfl⟩ := trodAll_nil r2
 obtain rfl : args = #[v0, v1, v2] := by cases args; simp_all
 have hg := handle_of_laid hL
 have fin : ∀ (e : Ending) (W' : World), (e = .returned (.bool true) ∧ Below W.heap.size W W') → ∃ v, e = .returned v ∧ Rows.pageWordsSpec.post enc Tryz.prog Tryz.f3 false true false false W _ v W' := fun e W' ⟨he, hb⟩ =>
   ⟨_, he, law_post 4 rfl Tryz.underlying4 (by kernel_rfl) hW rfl rfl hb⟩
 have hK0 : layK Tryz.prog 16 32 = some (.cons (.int .u32) (.cons (.int .i64) (.cons (.int .i64) (.cons (.int .i64) (.cons (.int .i64) (.cons (.int .i64) (.cons (.int .i64) (.cons .bool (.cons (.int .i64) (.cons (.int .i64) (.cons (.int .i64) (.cons (.int .i64) (.cons (.int .i64) .nil))))))))))))) := by kernel_rfl
 have hC0 : Tryz.prog.cellsOf 32 = 13 := by kernel_rfl
 obtain ⟨cs0, rfl, hsz0⟩ := okWide_struct Tryz.underlying32 (hval 0 32 v0 rfl rfl)
 rw [hC0] at hsz0
 obtain ⟨c0_0, c0_1, c0_2, c0_3, c0_4, c0_5, c0_6, c0_7, c0_8, c0_9, c0_10, c0_11, c0_12, rfl⟩ := arr_of13 hsz0
 obtain ⟨fu0, hr0⟩ := h0
 replace hr0 : DataW.trod enc Tryz.prog W _ _ _ fu0 32 [c0_0, c0_1, c0_2, c0_3, c0_4, c0_5, c0_6, c0_7, c0_8, c0_9, c0_10, c0_11, c0_12] = some (_, _) := hr0
 obtain ⟨ys0, hO0⟩ := lay_open _ _ _ hK0 _ _ _ hr0 (light_of hsz (j := 0) (t := 32) rfl rfl)
 obtain ⟨y0_0, y0_1, y0_2, y0_3, y0_4, y0_5, y0_6, y0_7, y0_8, y0_9, y0_10, y0_11, y0_12, rfl⟩ := list_of13 hO0.ld
 obtain ⟨a0_0, e0_0, _, w0_0⟩ := cell_int (hO0.at_ 0 _ rfl)
 have hb0_0 := bounds_u32 w0_0
 obtain ⟨a0_1, e0_1, _, w0_1⟩ := cell_int (hO0.at_ 1 _ rfl)
 have hb0_1 := bounds_i64 w0_1
 obtain ⟨a0_2, e0_2, _, w0_2⟩ := cell_int (hO0.at_ 2 _ rfl)
 have hb0_2 := bounds_i64 w0_2
 obtain ⟨a0_3, e0_3, _, w0_3⟩ := cell_int (hO0.at_ 3 _ rfl)
 have hb0_3 := bounds_i64 w0_3
 obtain ⟨a0_4, e0_4, _, w0_4⟩ := cell_int (hO0.at_ 4 _ rfl)
 have hb0_4 := bounds_i64 w0_4
 obtain ⟨a0_5, e0_5, _, w0_5⟩ := cell_int (hO0.at_ 5 _ rfl)
 have hb0_5 := bounds_i64 w0_5
 obtain ⟨a0_6, e0_6, _, w0_6⟩ := cell_int (hO0.at_ 6 _ rfl)
 have hb0_6 := bounds_i64 w0_6
 obtain ⟨a0_7, e0_7, _⟩ := cell_bool (hO0.at_ 7 _ rfl)
 obtain ⟨a0_8, e0_8, _, w0_8⟩ := cell_int (hO0.at_ 8 _ rfl)
 have hb0_8 := bounds_i64 w0_8
 obtain ⟨a0_9, e0_9, _, w0_9⟩ := cell_int (hO0.at_ 9 _ rfl)
 have hb0_9 := bounds_i64 w0_9
 obtain ⟨a0_10, e0_10, _, w0_10⟩ := cell_int (hO0.at_ 10 _ rfl)
 have hb0_10 := bounds_i64 w0_10
 obtain ⟨a0_11, e0_11, _, w0_11⟩ := cell_int (hO0.at_ 11 _ rfl)
 have hb0_11 := bounds_i64 w0_11
 obtain ⟨a0_12, e0_12, _, w0_12⟩ := cell_int (hO0.at_ 12 _ rfl)
 have hb0_12 := bounds_i64 w0_12
 have hK1 : layK Tryz.prog 16 34 = some (.cons (.int .i64) (.cons (.int .i64) (.cons (.int .i64) (.cons (.int .i64) (.cons (.int .u32) (.cons (.int .i64) (.cons (.int .u32) (.cons (.int .i64) (.cons (.int .i64) (.cons (.int .i64) .nil)))))))))) := by kernel_rfl
 have hC1 : Tryz.prog.cellsOf 34 = 10 := by kernel_rfl
 obtain ⟨cs1, rfl, hsz1⟩ := okWide_struct Tryz.underlying34 (hval 1 34 v1 rfl rfl)
 rw [hC1] at hsz1
 obtain ⟨c1_0, c1_1, c1_2, c1_3, c1_4, c1_5, c1_6, c1_7, c1_8, c1_9, rfl⟩ := arr_of10 hsz1
 obtain ⟨fu1, hr1⟩ := h1
 replace hr1 : DataW.trod enc Tryz.prog W _ _ _ fu1 34 [c1_0, c1_1, c1_2, c1_3, c1_4, c1_5, c1_6, c1_7, c1_8, c1_9] = some (_, _) := hr1
 obtain ⟨ys1, hO1⟩ := lay_open _ _ _ hK1 _ _ _ hr1 (light_of hsz (j := 1) (t := 34) rfl rfl)
 obtain ⟨y1_0, y1_1, y1_2, y1_3, y1_4, y1_5, y1_6, y1_7, y1_8, y1_9, rfl⟩ := list_of10 hO1.ld
 obtain ⟨a1_0, e1_0, _, w1_0⟩ := cell_int (hO1.at_ 0 _ rfl)
 have hb1_0 := bounds_i64 w1_0
 obtain ⟨a1_1, e1_1, _, w1_1⟩ := cell_int (hO1.at_ 1 _ rfl)
 have hb1_1 := bounds_i64 w1_1
 obtain ⟨a1_2, e1_2, _, w1_2⟩ := cell_int (hO1.at_ 2 _ rfl)
 have hb1_2 := bounds_i64 w1_2
 obtain ⟨a1_3, e1_3, _, w1_3⟩ := cell_int (hO1.at_ 3 _ rfl)
 have hb1_3 := bounds_i64 w1_3
 obtain ⟨a1_4, e1_4, _, w1_4⟩ := cell_int (hO1.at_ 4 _ rfl)
 have hb1_4 := bounds_u32 w1_4
 obtain ⟨a1_5, e1_5, _, w1_5⟩ := cell_int (hO1.at_ 5 _ rfl)
 have hb1_5 := bounds_i64 w1_5
 obtain ⟨a1_6, e1_6, _, w1_6⟩ := cell_int (hO1.at_ 6 _ rfl)
 have hb1_6 := bounds_u32 w1_6
 obtain ⟨a1_7, e1_7, _, w1_7⟩ := cell_int (hO1.at_ 7 _ rfl)
 have hb1_7 := bounds_i64 w1_7
 obtain ⟨a1_8, e1_8, _, w1_8⟩ := cell_int (hO1.at_ 8 _ rfl)
 have hb1_8 := bounds_i64 w1_8
 obtain ⟨a1_9, e1_9, _, w1_9⟩ := cell_int (hO1.at_ 9 _ rfl)
 have hb1_9 := bounds_i64 w1_9
 have hK2 : layK Tryz.prog 16 36 = some (.cons (.int .u64) (.cons (.int .u64) (.cons (.int .u64) (.cons (.int .u64) (.cons (.int .u64) (.cons (.int .u64) (.cons (.int .u64) (.cons (.int .u64) (.cons (.int .u64) (.cons (.int .u64) (.cons (.int .u64) (.cons (.int .u64) (.cons (.int .u64) (.cons (.int .u64) (.cons (.int .u64) (.cons (.int .u64) .nil)))))))))))))))) := by kernel_rfl
 have hC2 : Tryz.prog.cellsOf 36 = 16 := by kernel_rfl
 obtain ⟨cs2, rfl, hsz2⟩ := okWide_arr Tryz.underlying36 (hval 2 36 v2 rfl rfl)
 rw [hC2] at hsz2
 obtain ⟨c2_0, c2_1, c2_2, c2_3, c2_4, c2_5, c2_6, c2_7, c2_8, c2_9, c2_10, c2_11, c2_12, c2_13, c2_14, c2_15, rfl⟩ := arr_of16 hsz2
 obtain ⟨fu2, hr2⟩ := h2
 replace hr2 : DataW.trod enc Tryz.prog W _ _ _ fu2 36 [c2_0, c2_1, c2_2, c2_3, c2_4, c2_5, c2_6, c2_7, c2_8, c2_9, c2_10, c2_11, c2_12, c2_13, c2_14, c2_15] = some (_, _) := hr2
 obtain ⟨ys2, hO2⟩ := lay_open _ _ _ hK2 _ _ _ hr2 (light_of hsz (j := 2) (t := 36) rfl rfl)
 obtain ⟨y2_0, y2_1, y2_2, y2_3, y2_4, y2_5, y2_6, y2_7, y2_8, y2_9, y2_10, y2_11, y2_12, y2_13, y2_14, y2_15, rfl⟩ := list_of16 hO2.ld
 obtain ⟨a2_0, e2_0, _, w2_0⟩ := cell_int (hO2.at_ 0 _ rfl)
 have hb2_0 := bounds_u64 w2_0
 obtain ⟨a2_1, e2_1, _, w2_1⟩ := cell_int (hO2.at_ 1 _ rfl)
 have hb2_1 := bounds_u64 w2_1
 obtain ⟨a2_2, e2_2, _, w2_2⟩ := cell_int (hO2.at_ 2 _ rfl)
 have hb2_2 := bounds_u64 w2_2
 obtain ⟨a2_3, e2_3, _, w2_3⟩ := cell_int (hO2.at_ 3 _ rfl)
 have hb2_3 := bounds_u64 w2_3
 obtain ⟨a2_4, e2_4, _, w2_4⟩ := cell_int (hO2.at_ 4 _ rfl)
 have hb2_4 := bounds_u64 w2_4
 obtain ⟨a2_5, e2_5, _, w2_5⟩ := cell_int (hO2.at_ 5 _ rfl)
 have hb2_5 := bounds_u64 w2_5
 obtain ⟨a2_6, e2_6, _, w2_6⟩ := cell_int (hO2.at_ 6 _ rfl)
 have hb2_6 := bounds_u64 w2_6
 obtain ⟨a2_7, e2_7, _, w2_7⟩ := cell_int (hO2.at_ 7 _ rfl)
 have hb2_7 := bounds_u64 w2_7
 obtain ⟨a2_8, e2_8, _, w2_8⟩ := cell_int (hO2.at_ 8 _ rfl)
 have hb2_8 := bounds_u64 w2_8
 obtain ⟨a2_9, e2_9, _, w2_9⟩ := cell_int (hO2.at_ 9 _ rfl)
 have hb2_9 := bounds_u64 w2_9
 obtain ⟨a2_10, e2_10, _, w2_10⟩ := cell_int (hO2.at_ 10 _ rfl)
 have hb2_10 := bounds_u64 w2_10
 obtain ⟨a2_11, e2_11, _, w2_11⟩ := cell_int (hO2.at_ 11 _ rfl)
 have hb2_11 := bounds_u64 w2_11
 obtain ⟨a2_12, e2_12, _, w2_12⟩ := cell_int (hO2.at_ 12 _ rfl)
 have hb2_12 := bounds_u64 w2_12
 obtain ⟨a2_13, e2_13, _, w2_13⟩ := cell_int (hO2.at_ 13 _ rfl)
 have hb2_13 := bounds_u64 w2_13
 obtain ⟨a2_14, e2_14, _, w2_14⟩ := cell_int (hO2.at_ 14 _ rfl)
 have hb2_14 := bounds_u64 w2_14
 obtain ⟨a2_15, e2_15, _, w2_15⟩ := cell_int (hO2.at_ 15 _ rfl)
 have hb2_15 := bounds_u64 w2_15
 exact (good_run pwg_wWords rfl rfl [a0_0, a0_1, a0_2, a0_3, a0_4, a0_5, a0_6, a0_8, a0_9, a0_10, a0_11, a0_12, a1_0, a1_1, a1_2, a1_3, a1_4, a1_5, a1_6, a1_7, a1_8, a1_9, a2_0, a2_1, a2_2, a2_3, a2_4, a2_5, a2_6, a2_7, a2_8, a2_9, a2_10, a2_11, a2_12, a2_13, a2_14, a2_15] [a0_7] [] [] W [.agg #[c0_0, c0_1, c0_2, c0_3, c0_4, c0_5, c0_6, c0_7, c0_8, c0_9, c0_10, c0_11, c0_12], .agg #[c1_0, c1_1, c1_2, c1_3, c1_4, c1_5, c1_6, c1_7, c1_8, c1_9], .agg #[c2_0, c2_1, c2_2, c2_3, c2_4, c2_5, c2_6, c2_7, c2_8, c2_9, c2_10, c2_11, c2_12, c2_13, c2_14, c2_15]] rfl rfl rfl rfl (by exact ⟨⟨hb0_0, hb0_1, hb0_2, hb0_3, hb0_4, hb0_5, hb0_6, hb0_8, hb0_9, hb0_10, hb0_11, hb0_12⟩, ⟨hb1_0, hb1_1, hb1_2, hb1_3, hb1_4, hb1_5, hb1_6, hb1_7, hb1_8, hb1_9⟩, hb2_0, hb2_1, hb2_2, hb2_3, hb2_4, hb2_5, hb2_6, hb2_7, hb2_8, hb2_9, hb2_10, hb2_11, hb2_12, hb2_13, hb2_14, hb2_15⟩)
   (fun x hx => by
     obtain rfl := List.mem_singleton.1 hx
     exact ⟨trivial, handle_lt hg, hg⟩)
   ⟨⟨[c0_0, c0_1, c0_2, c0_3, c0_4, c0_5, c0_6, c0_7, c0_8, c0_9, c0_10, c0_11, c0_12], rfl, e0_0, e0_1, e0_2, e0_3, e0_4, e0_5, e0_6, e0_7, e0_8, e0_9, e0_10, e0_11, e0_12, rfl⟩, ⟨[c1_0, c1_1, c1_2, c1_3, c1_4, c1_5, c1_6, c1_7, c1_8, c1_9], rfl, e1_0, e1_1, e1_2, e1_3, e1_4, e1_5, e1_6, e1_7, e1_8, e1_9, rfl⟩, ⟨[c2_0, c2_1, c2_2, c2_3, c2_4, c2_5, c2_6, c2_7, c2_8, c2_9, c2_10, c2_11, c2_12, c2_13, c2_14, c2_15], rfl, e2_0, e2_1, e2_2, e2_3, e2_4, e2_5, e2_6, e2_7, e2_8, e2_9, e2_10, e2_11, e2_12, e2_13, e2_14, e2_15, rfl⟩, trivial⟩).mono fin

theorem and_lim {a b : Bool} (ha : a = true) (hb : b = true) : (a && b) = true := by rw [ha, hb]; rfl
set_option maxHeartbeats 8000000 in
theorem jf : joinedFacts Tryz.pinned.checked.prog 3 Tryz.f3 Rows.pageWordsSpec Rows.pageWordsRow = true := by
 delta joinedFacts
 repeat' (with_reducible refine and_lim ?_ ?_)
 all_goals as_aux_lemma => kernel_rfl
theorem nf : Tryz.pinned.checked.prog.funcNamed Rows.pageWordsRow.func = some 3 := by kernel_rfl
theorem ins : Tryz.f3.isInstance Tryz.pinned.checked.prog Rows.pageWordsRow.origin Rows.pageWordsRow.targs := of_decide_eq_true (by kernel_rfl)
theorem wrp : Tryz.f3.isWrapper Tryz.pinned.checked.prog Rows.pageWordsRow.wrapper Rows.pageWordsRow.mainSum := by unfold Func.isWrapper; rw [if_neg (of_decide_eq_false (by kernel_rfl))]; exact ⟨rfl, rfl⟩

theorem row_holds : Rows.PageWordsSaid :=
 OpenClaim.holds_of_wide 3 Tryz.f3 rfl rfl rfl rfl rfl rfl rfl ⟨rfl, rfl, rfl, rfl, rfl⟩ rfl rfl rfl rfl rfl nf Tryz.func3 jf ins wrp
   (fun os started H enc _ => lifted os started H enc)

theorem card_holds : Rows.PageWordsCardSaid :=
 Claim7.holds_tied_plain_at .later [] [.handle] true Rows.pageWordsCard.stood.harness true
   row_holds (fun _ h => by cases h) (by as_aux_lemma => kernel_rfl) (fun _ h => by cases h) pageWords_row_tie rfl ⟨rfl, rfl⟩ (by as_aux_lemma => kernel_rfl) rfl
   (fun f fn hf hfn => by
     obtain rfl : f = 3 := Option.some.inj ((show Tryz.prog.funcNamed "fusee/fuseelaw19.PageWords" = some 3 by kernel_rfl).symm.trans hf) |>.symm
     obtain rfl : fn = Tryz.f3 := (Option.some.inj (Tryz.func3.symm.trans hfn)).symm
     exact ⟨by as_aux_lemma => kernel_rfl, fun j t ht => by
       rw [Tryz.params3] at ht
       have hall : ∀ x ∈ Tryz.f3.params.toList, Tryz.prog.wantsStandIn x = false := by rw [Tryz.params3]; intro x hx; simp only [List.mem_cons, List.not_mem_nil, or_false] at hx; first | (rcases hx with rfl | rfl | rfl | rfl | rfl | rfl <;> kernel_rfl) | (rcases hx with rfl | rfl | rfl | rfl | rfl <;> kernel_rfl) | (rcases hx with rfl | rfl | rfl | rfl <;> kernel_rfl) | (rcases hx with rfl | rfl | rfl <;> kernel_rfl) | (rcases hx with rfl | rfl <;> kernel_rfl) | (obtain rfl := hx; kernel_rfl)
       refine hall t ?_
       rw [Tryz.params3]
       exact Array.mem_toList_iff.2 (Array.mem_of_getElem? ht)⟩)
   (by as_aux_lemma => kernel_rfl)
#print axioms card_holds
end Go.Proofs.YtgondiedehjkhaaGreatDoor.pageWords
