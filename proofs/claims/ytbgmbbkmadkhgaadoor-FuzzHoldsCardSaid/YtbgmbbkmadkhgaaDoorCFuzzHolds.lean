/-
  The statement fuseelaw25.FuzzHolds, closed: the row from its walk, the card from the row and the given tie.
-/
import Derived.Test.YtbgmbbkmadkhgaaDoorZfqa
import Derived.Test.YtbgmbbkmadkhgaaDoorFrameqa
import Derived.Test.YtbgmbbkmadkhgaaDoorTie
import Derived.Test.YtbgmbbkmadkhgaaDoorCards
import Derived.Test.YtbgmbbkmadkhgaaDoorOpnqa
import Derived.SevenTiedAt
namespace Go.Proofs.YtbgmbbkmadkhgaaDoor.fuzzHolds
open Go.ChangeShapes Go.WideShapes Go.RowKit Go.Proofs.YtbgmbbkmadkhgaaDoor.Sy
set_option linter.unusedVariables false

theorem arr_of1 {xs : Array Value} (h : xs.size = 1) : ∃ c0, xs = #[c0] := by
  obtain ⟨l⟩ := xs
  match l, h with
  | [c0], _ => exact ⟨c0, rfl⟩
theorem list_of1 {α : Type} {xs : List α} (h : xs.length = 1) : ∃ c0, xs = [c0] := by
  match xs, h with
  | [c0], _ => exact ⟨c0, rfl⟩
theorem arr_of2 {xs : Array Value} (h : xs.size = 2) : ∃ c0 c1, xs = #[c0, c1] := by
  obtain ⟨l⟩ := xs
  match l, h with
  | [c0, c1], _ => exact ⟨c0, c1, rfl⟩
theorem list_of2 {α : Type} {xs : List α} (h : xs.length = 2) : ∃ c0 c1, xs = [c0, c1] := by
  match xs, h with
  | [c0, c1], _ => exact ⟨c0, c1, rfl⟩
theorem arr_of16 {xs : Array Value} (h : xs.size = 16) : ∃ c0 c1 c2 c3 c4 c5 c6 c7 c8 c9 c10 c11 c12 c13 c14 c15, xs = #[c0, c1, c2, c3, c4, c5, c6, c7, c8, c9, c10, c11, c12, c13, c14, c15] := by
  obtain ⟨l⟩ := xs
  match l, h with
  | [c0, c1, c2, c3, c4, c5, c6, c7, c8, c9, c10, c11, c12, c13, c14, c15], _ => exact ⟨c0, c1, c2, c3, c4, c5, c6, c7, c8, c9, c10, c11, c12, c13, c14, c15, rfl⟩
theorem list_of16 {α : Type} {xs : List α} (h : xs.length = 16) : ∃ c0 c1 c2 c3 c4 c5 c6 c7 c8 c9 c10 c11 c12 c13 c14 c15, xs = [c0, c1, c2, c3, c4, c5, c6, c7, c8, c9, c10, c11, c12, c13, c14, c15] := by
  match xs, h with
  | [c0, c1, c2, c3, c4, c5, c6, c7, c8, c9, c10, c11, c12, c13, c14, c15], _ => exact ⟨c0, c1, c2, c3, c4, c5, c6, c7, c8, c9, c10, c11, c12, c13, c14, c15, rfl⟩
theorem okWide_arr {P : Program} {w : World} {r : Reach} {base : Nat} {t e : TypeId} {n : Nat} {v : Value} (ht : P.underlying t = some (.array n e)) (h : Value.okWide P w r base t v) : ∃ cs, v = .agg cs ∧ cs.size = P.cellsOf t := by
  simp only [Value.okWide, ht] at h
  obtain ⟨cs, h1, h2, _⟩ := h
  exact ⟨cs, h1, h2⟩
set_option linter.unusedSimpArgs false
set_option maxRecDepth 100000 in
theorem lifted (os : Os) (started : os.Started) (H : Type) (enc : TypeId × Value → H) :
    ReturnsInHanded {} Tryd.checked os 10 .any (fun w args => (Rows.fuzzHoldsSpec.pre enc Tryd.prog Tryd.f10 [] false w args ∧ laidMetH Tryd.prog Rows.fuzzHoldsRow.laid w) ∧ sizedMet enc Tryd.prog Tryd.f10 (OpenSpec.ofChange Rows.fuzzHoldsSpec) false w args)
      (Rows.fuzzHoldsSpec.post enc Tryd.prog Tryd.f10 false true false false) := by
  refine returnsInHanded_of_change_and (C := Tryd.checked) (X := fun w _ => laidMetH Tryd.prog Rows.fuzzHoldsRow.laid w) (fun _ _ _ hh h => h.of_heap hh) Tryd.own started (by kernel_rfl) Tryd.func10
    (ChangeSpec.witness_at (enc := enc) (C := Tryd.checked) (os := os) (X := fun w _ => laidMetH Tryd.prog Rows.fuzzHoldsRow.laid w) false (laidWorld os) #[.agg #[.int .i64 0, .int .i64 0], .agg #[.int .u8 0, .int .u8 0, .int .u8 0, .int .u8 0, .int .u8 0, .int .u8 0, .int .u8 0, .int .u8 0, .int .u8 0, .int .u8 0, .int .u8 0, .int .u8 0, .int .u8 0, .int .u8 0, .int .u8 0, .int .u8 0], .agg #[.int .i64 0, .int .i64 0]] 8 rfl (by kernel_rfl) (by kernel_rfl) (by kernel_rfl) (by kernel_rfl) (by kernel_rfl) (laidWorld_met os _)) ?_
  intro W base args ds gs before hval0 hW _ hsz hL _
  have hval : ∀ (j : Nat) t v, Tryd.f10.params[j]? = some t → args[j]? = some v → Value.okWide Tryd.prog W .any base t v := hval0
  have hW0 := hW
  obtain ⟨p, q, hA0, hV, rfl, hfz, hnd⟩ := hW0
  have hA : DataW.TrodAll enc Tryd.prog W 0 (fun _ => true) true Tryd.f10.params.toList args.toList ds p := hA0
  rw [Tryd.params10] at hA hval hsz
  obtain ⟨v0, vs0, d0, ds0, p0, q0, hargs, rfl, rfl, h0, r0⟩ := trodAll_cons hA
  obtain ⟨v1, vs1, d1, ds1, p1, q1, rfl, rfl, rfl, h1, r1⟩ := trodAll_cons r0
  obtain ⟨v2, vs2, d2, ds2, p2, q2, rfl, rfl, rfl, h2, r2⟩ := trodAll_cons r1
  obtain ⟨rfl, rfl, rfl⟩ := trodAll_nil r2
  obtain rfl : args = #[v0, v1, v2] := by cases args; simp_all
  have hg := handle_of_laid hL
  have fin : ∀ (e : Ending) (W' : World), (e = .returned (.bool true) ∧ Below W.heap.size W W') → ∃ v, e = .returned v ∧ Rows.fuzzHoldsSpec.post enc Tryd.prog Tryd.f10 false true false false W _ v W' := fun e W' ⟨he, hb⟩ =>
    ⟨_, he, law_post 4 rfl Tryd.underlying4 (by kernel_rfl) hW rfl rfl hb⟩
  have hK0 : layK Tryd.prog 16 121 = some (.cons (.int .i64) (.cons (.int .i64) .nil)) := by kernel_rfl
  have hC0 : Tryd.prog.cellsOf 121 = 2 := by kernel_rfl
  obtain ⟨cs0, rfl, hsz0⟩ := okWide_struct Tryd.underlying121 (hval 0 121 v0 rfl rfl)
  rw [hC0] at hsz0
  obtain ⟨c0_0, c0_1, rfl⟩ := arr_of2 hsz0
  obtain ⟨fu0, hr0⟩ := h0
  replace hr0 : DataW.trod enc Tryd.prog W _ _ _ fu0 121 [c0_0, c0_1] = some (_, _) := hr0
  obtain ⟨ys0, hO0⟩ := lay_open _ _ _ hK0 _ _ _ hr0 (light_of hsz (j := 0) (t := 121) rfl rfl)
  obtain ⟨y0_0, y0_1, rfl⟩ := list_of2 hO0.ld
  obtain ⟨a0_0, e0_0, _, w0_0⟩ := cell_int (hO0.at_ 0 _ rfl)
  have hb0_0 := bounds_i64 w0_0
  obtain ⟨a0_1, e0_1, _, w0_1⟩ := cell_int (hO0.at_ 1 _ rfl)
  have hb0_1 := bounds_i64 w0_1
  have hK1 : layK Tryd.prog 16 122 = some (.cons (.int .u8) (.cons (.int .u8) (.cons (.int .u8) (.cons (.int .u8) (.cons (.int .u8) (.cons (.int .u8) (.cons (.int .u8) (.cons (.int .u8) (.cons (.int .u8) (.cons (.int .u8) (.cons (.int .u8) (.cons (.int .u8) (.cons (.int .u8) (.cons (.int .u8) (.cons (.int .u8) (.cons (.int .u8) .nil)))))))))))))))) := by kernel_rfl
  have hC1 : Tryd.prog.cellsOf 122 = 16 := by kernel_rfl
  obtain ⟨cs1, rfl, hsz1⟩ := okWide_arr Tryd.underlying122 (hval 1 122 v1 rfl rfl)
  rw [hC1] at hsz1
  obtain ⟨c1_0, c1_1, c1_2, c1_3, c1_4, c1_5, c1_6, c1_7, c1_8, c1_9, c1_10, c1_11, c1_12, c1_13, c1_14, c1_15, rfl⟩ := arr_of16 hsz1
  obtain ⟨fu1, hr1⟩ := h1
  replace hr1 : DataW.trod enc Tryd.prog W _ _ _ fu1 122 [c1_0, c1_1, c1_2, c1_3, c1_4, c1_5, c1_6, c1_7, c1_8, c1_9, c1_10, c1_11, c1_12, c1_13, c1_14, c1_15] = some (_, _) := hr1
  obtain ⟨ys1, hO1⟩ := lay_open _ _ _ hK1 _ _ _ hr1 (light_of hsz (j := 1) (t := 122) rfl rfl)
  obtain ⟨y1_0, y1_1, y1_2, y1_3, y1_4, y1_5, y1_6, y1_7, y1_8, y1_9, y1_10, y1_11, y1_12, y1_13, y1_14, y1_15, rfl⟩ := list_of16 hO1.ld
  obtain ⟨a1_0, e1_0, _, w1_0⟩ := cell_int (hO1.at_ 0 _ rfl)
  have hb1_0 := bounds_u8 w1_0
  obtain ⟨a1_1, e1_1, _, w1_1⟩ := cell_int (hO1.at_ 1 _ rfl)
  have hb1_1 := bounds_u8 w1_1
  obtain ⟨a1_2, e1_2, _, w1_2⟩ := cell_int (hO1.at_ 2 _ rfl)
  have hb1_2 := bounds_u8 w1_2
  obtain ⟨a1_3, e1_3, _, w1_3⟩ := cell_int (hO1.at_ 3 _ rfl)
  have hb1_3 := bounds_u8 w1_3
  obtain ⟨a1_4, e1_4, _, w1_4⟩ := cell_int (hO1.at_ 4 _ rfl)
  have hb1_4 := bounds_u8 w1_4
  obtain ⟨a1_5, e1_5, _, w1_5⟩ := cell_int (hO1.at_ 5 _ rfl)
  have hb1_5 := bounds_u8 w1_5
  obtain ⟨a1_6, e1_6, _, w1_6⟩ := cell_int (hO1.at_ 6 _ rfl)
  have hb1_6 := bounds_u8 w1_6
  obtain ⟨a1_7, e1_7, _, w1_7⟩ := cell_int (hO1.at_ 7 _ rfl)
  have hb1_7 := bounds_u8 w1_7
  obtain ⟨a1_8, e1_8, _, w1_8⟩ := cell_int (hO1.at_ 8 _ rfl)
  have hb1_8 := bounds_u8 w1_8
  obtain ⟨a1_9, e1_9, _, w1_9⟩ := cell_int (hO1.at_ 9 _ rfl)
  have hb1_9 := bounds_u8 w1_9
  obtain ⟨a1_10, e1_10, _, w1_10⟩ := cell_int (hO1.at_ 10 _ rfl)
  have hb1_10 := bounds_u8 w1_10
  obtain ⟨a1_11, e1_11, _, w1_11⟩ := cell_int (hO1.at_ 11 _ rfl)
  have hb1_11 := bounds_u8 w1_11
  obtain ⟨a1_12, e1_12, _, w1_12⟩ := cell_int (hO1.at_ 12 _ rfl)
  have hb1_12 := bounds_u8 w1_12
  obtain ⟨a1_13, e1_13, _, w1_13⟩ := cell_int (hO1.at_ 13 _ rfl)
  have hb1_13 := bounds_u8 w1_13
  obtain ⟨a1_14, e1_14, _, w1_14⟩ := cell_int (hO1.at_ 14 _ rfl)
  have hb1_14 := bounds_u8 w1_14
  obtain ⟨a1_15, e1_15, _, w1_15⟩ := cell_int (hO1.at_ 15 _ rfl)
  have hb1_15 := bounds_u8 w1_15
  have hK2 : layK Tryd.prog 16 25 = some (.cons (.int .i64) (.cons (.int .i64) .nil)) := by kernel_rfl
  have hC2 : Tryd.prog.cellsOf 25 = 2 := by kernel_rfl
  obtain ⟨cs2, rfl, hsz2⟩ := okWide_arr Tryd.underlying25 (hval 2 25 v2 rfl rfl)
  rw [hC2] at hsz2
  obtain ⟨c2_0, c2_1, rfl⟩ := arr_of2 hsz2
  obtain ⟨fu2, hr2⟩ := h2
  replace hr2 : DataW.trod enc Tryd.prog W _ _ _ fu2 25 [c2_0, c2_1] = some (_, _) := hr2
  obtain ⟨ys2, hO2⟩ := lay_open _ _ _ hK2 _ _ _ hr2 (light_of hsz (j := 2) (t := 25) rfl rfl)
  obtain ⟨y2_0, y2_1, rfl⟩ := list_of2 hO2.ld
  obtain ⟨a2_0, e2_0, _, w2_0⟩ := cell_int (hO2.at_ 0 _ rfl)
  have hb2_0 := bounds_i64 w2_0
  obtain ⟨a2_1, e2_1, _, w2_1⟩ := cell_int (hO2.at_ 1 _ rfl)
  have hb2_1 := bounds_i64 w2_1
  exact (good_run zfg_wHolds rfl rfl [a0_0, a0_1, a1_0, a1_1, a1_2, a1_3, a1_4, a1_5, a1_6, a1_7, a1_8, a1_9, a1_10, a1_11, a1_12, a1_13, a1_14, a1_15, a2_0, a2_1] [] [] [] W [.agg #[c0_0, c0_1], .agg #[c1_0, c1_1, c1_2, c1_3, c1_4, c1_5, c1_6, c1_7, c1_8, c1_9, c1_10, c1_11, c1_12, c1_13, c1_14, c1_15], .agg #[c2_0, c2_1]] rfl rfl rfl rfl (by exact ⟨⟨⟨hb0_0, hb0_1⟩, hb2_0, okR_isB (.cons hb1_0.1 hb1_0.2 (.cons hb1_1.1 hb1_1.2 (.cons hb1_2.1 hb1_2.2 (.cons hb1_3.1 hb1_3.2 (.cons hb1_4.1 hb1_4.2 (.cons hb1_5.1 hb1_5.2 (.cons hb1_6.1 hb1_6.2 (.cons hb1_7.1 hb1_7.2 (.cons hb1_8.1 hb1_8.2 (.cons hb1_9.1 hb1_9.2 (.cons hb1_10.1 hb1_10.2 (.cons hb1_11.1 hb1_11.2 (.cons hb1_12.1 hb1_12.2 (.cons hb1_13.1 hb1_13.2 (.cons hb1_14.1 hb1_14.2 (.cons hb1_15.1 hb1_15.2 (.nil)))))))))))))))))⟩, hb2_1⟩)
    (fun x hx => by
      obtain rfl := List.mem_singleton.1 hx
      exact ⟨trivial, handle_lt hg, hg⟩)
    ⟨⟨[c0_0, c0_1], rfl, e0_0, e0_1, rfl⟩, ⟨[c1_0, c1_1, c1_2, c1_3, c1_4, c1_5, c1_6, c1_7, c1_8, c1_9, c1_10, c1_11, c1_12, c1_13, c1_14, c1_15], rfl, e1_0, e1_1, e1_2, e1_3, e1_4, e1_5, e1_6, e1_7, e1_8, e1_9, e1_10, e1_11, e1_12, e1_13, e1_14, e1_15, rfl⟩, ⟨[c2_0, c2_1], rfl, e2_0, e2_1, rfl⟩, trivial⟩).mono fin

theorem row_holds : Rows.FuzzHoldsSaid :=
  OpenClaim.holds_of_wide 10 Tryd.f10 rfl rfl rfl rfl rfl rfl rfl ⟨rfl, rfl, rfl, rfl, rfl⟩ rfl rfl rfl rfl rfl (by kernel_rfl) Tryd.func10 (by kernel_rfl)
    (of_decide_eq_true (by kernel_rfl)) (by unfold Func.isWrapper; rw [if_neg (of_decide_eq_false (by kernel_rfl))]; exact ⟨rfl, rfl⟩)
    (fun os started H enc _ => lifted os started H enc)

theorem card_holds : Rows.FuzzHoldsCardSaid :=
  Claim7.holds_tied_plain_at .later [] [.handle] true Rows.fuzzHoldsCard.stood.harness true
    row_holds (fun _ h => by cases h) (by kernel_rfl) (fun _ h => by cases h) fuzzHolds_row_tie rfl ⟨rfl, rfl⟩ (by kernel_rfl) rfl
    (fun f fn hf hfn => by
      obtain rfl : f = 10 := Option.some.inj ((show Tryd.prog.funcNamed "fusee/fuseelaw25.FuzzHolds" = some 10 by kernel_rfl).symm.trans hf) |>.symm
      obtain rfl : fn = Tryd.f10 := (Option.some.inj (Tryd.func10.symm.trans hfn)).symm
      exact ⟨by kernel_rfl, fun j t ht => by
        rw [Tryd.params10] at ht
        have hall : ∀ x ∈ Tryd.f10.params.toList, Tryd.prog.wantsStandIn x = false := by rw [Tryd.params10]; intro x hx; simp only [List.mem_cons, List.not_mem_nil, or_false] at hx; first | (rcases hx with rfl | rfl | rfl | rfl | rfl | rfl <;> kernel_rfl) | (rcases hx with rfl | rfl | rfl | rfl | rfl <;> kernel_rfl) | (rcases hx with rfl | rfl | rfl | rfl <;> kernel_rfl) | (rcases hx with rfl | rfl | rfl <;> kernel_rfl) | (rcases hx with rfl | rfl <;> kernel_rfl) | (obtain rfl := hx; kernel_rfl)
        refine hall t ?_
        rw [Tryd.params10]
        exact Array.mem_toList_iff.2 (Array.mem_of_getElem? ht)⟩)
    (by kernel_rfl)
#print axioms card_holds
end Go.Proofs.YtbgmbbkmadkhgaaDoor.fuzzHolds
