/-
 The statement fuseelaw30.BoundTells, closed: the row from its walk, the card from the row and the given tie.
-/
import Derived.Test.YtgondiedehjkhaaGreatDoorBubnd
import Derived.Test.YtgondiedehjkhaaGreatDoorFramebnd
import Derived.Test.YtgondiedehjkhaaGreatDoorTie
import Derived.Test.YtgondiedehjkhaaGreatDoorCards
import Derived.Test.YtgondiedehjkhaaGreatDoorOpnbnd
import Derived.SevenTiedAt
namespace Go.Proofs.YtgondiedehjkhaaGreatDoor.boundTells
open Go.ChangeShapes Go.WideShapes Go.RowKit Go.Proofs.YtgondiedehjkhaaGreatDoor.Sy
set_option linter.unusedVariables false

theorem arr_of1 {xs : Array Value} (h : xs.size = 1) : ∃ c0, xs = #[c0] := by
 obtain ⟨l⟩ := xs
 match l, h with
 | [c0], _ => exact ⟨c0, rfl⟩
theorem list_of1 {α : Type} {xs : List α} (h : xs.length = 1) : ∃ c0, xs = [c0] := by
 match xs, h with
 | [c0], _ => exact ⟨c0, rfl⟩
theorem arr_of3 {xs : Array Value} (h : xs.size = 3) : ∃ c0 c1 c2, xs = #[c0, c1, c2] := by
 obtain ⟨l⟩ := xs
 match l, h with
 | [c0, c1, c2], _ => exact ⟨c0, c1, c2, rfl⟩
theorem list_of3 {α : Type} {xs : List α} (h : xs.length = 3) : ∃ c0 c1 c2, xs = [c0, c1, c2] := by
 match xs, h with
 | [c0, c1, c2], _ => exact ⟨c0, c1, c2, rfl⟩
theorem arr_of10 {xs : Array Value} (h : xs.size = 10) : ∃ c0 c1 c2 c3 c4 c5 c6 c7 c8 c9, xs = #[c0, c1, c2, c3, c4, c5, c6, c7, c8, c9] := by
 obtain ⟨l⟩ := xs
 match l, h with
 | [c0, c1, c2, c3, c4, c5, c6, c7, c8, c9], _ => exact ⟨c0, c1, c2, c3, c4, c5, c6, c7, c8, c9, rfl⟩
theorem list_of10 {α : Type} {xs : List α} (h : xs.length = 10) : ∃ c0 c1 c2 c3 c4 c5 c6 c7 c8 c9, xs = [c0, c1, c2, c3, c4, c5, c6, c7, c8, c9] := by
 match xs, h with
 | [c0, c1, c2, c3, c4, c5, c6, c7, c8, c9], _ => exact ⟨c0, c1, c2, c3, c4, c5, c6, c7, c8, c9, rfl⟩
theorem okWide_arr {P : Program} {w : World} {r : Reach} {base : Nat} {t e : TypeId} {n : Nat} {v : Value} (ht : P.underlying t = some (.array n e)) (h : Value.okWide P w r base t v) : ∃ cs, v = .agg cs ∧ cs.size = P.cellsOf t := by
 simp only [Value.okWide, ht] at h
 obtain ⟨cs, h1, h2, _⟩ := h
 exact ⟨cs, h1, h2⟩
set_option linter.unusedSimpArgs false
set_option maxRecDepth 100000 in
theorem lifted (os : Os) (started : os.Started) (H : Type) (enc : TypeId × Value → H) :
   ReturnsInHanded {} Tryz.checked os 5 .any (fun w args => (Rows.boundTellsSpec.pre enc Tryz.prog Tryz.f5 [] false w args ∧ laidMetH Tryz.prog Rows.boundTellsRow.laid w) ∧ sizedMet enc Tryz.prog Tryz.f5 (OpenSpec.ofChange Rows.boundTellsSpec) false w args)
     (Rows.boundTellsSpec.post enc Tryz.prog Tryz.f5 false true false false) := by
 refine returnsInHanded_of_change_and (C := Tryz.checked) (X := fun w _ => laidMetH Tryz.prog Rows.boundTellsRow.laid w) (fun _ _ _ hh h => h.of_heap hh) Tryz.own started (by kernel_rfl) Tryz.func5
   (ChangeSpec.witness_at (enc := enc) (C := Tryz.checked) (os := os) (X := fun w _ => laidMetH Tryz.prog Rows.boundTellsRow.laid w) false (laidWorld os) #[.agg #[.int .i64 0, .int .i64 0, .int .i64 0, .int .i64 0, .int .u32 0, .int .i64 0, .int .u32 0, .int .i64 0, .int .i64 0, .int .i64 0], .agg #[.int .i64 0, .int .i64 0, .int .i64 0, .int .i64 0, .int .i64 0, .int .i64 0, .bool false, .string ⟨#[]⟩, .int .i64 0, .slice none 0 0], .agg #[.int .i64 0, .int .i64 0, .int .i64 0]] 8 rfl (by kernel_rfl) (by kernel_rfl) (by kernel_rfl) (by kernel_rfl) (by kernel_rfl) (laidWorld_met os _)) ?_
 intro W base args ds gs before hval0 hW _ hsz hL _
 have hval : ∀ (j : Nat) t v, Tryz.f5.params[j]? = some t → args[j]? = some v → Value.okWide Tryz.prog W .any base t v := hval0
 have hW0 := hW
 obtain ⟨p, q, hA0, hV, rfl, hfz, hnd⟩ := hW0
 have hA : DataW.TrodAll enc Tryz.prog W 0 (fun _ => true) true Tryz.f5.params.toList args.toList ds p := hA0
 rw [Tryz.params5] at hA hval hsz
 obtain ⟨v0, vs0, d0, ds0, p0, q0, hargs, rfl, rfl, h0, r0⟩ := trodAll_cons hA
 obtain ⟨v1, vs1, d1, ds1, p1, q1, rfl, rfl, rfl, h1, r1⟩ := trodAll_cons r0
 obtain ⟨v2, vs2, d2, ds2, p2, q2, rfl, rfl, rfl, h2, r2⟩ := trodAll_cons r1
 obtain ⟨rfl, rfl, rfl⟩ := trodAll_nil r2
 obtain rfl : args = #[v0, v1, v2] := by cases args; simp_all
 have hg := handle_of_laid hL
 have fin : ∀ (e : Ending) (W' : World), (e = .returned (.bool true) ∧ Below W.heap.size W W') → ∃ v, e = .returned v ∧ Rows.boundTellsSpec.post enc Tryz.prog Tryz.f5 false true false false W _ v W' := fun e W' ⟨he, hb⟩ =>
   ⟨_, he, law_post 4 rfl Tryz.underlying4 (by kernel_rfl) hW rfl rfl hb⟩
 have hK0 : layK Tryz.prog 16 34 = some (.cons (.int .i64) (.cons (.int .i64) (.cons (.int .i64) (.cons (.int .i64) (.cons (.int .u32) (.cons (.int .i64) (.cons (.int .u32) (.cons (.int .i64) (.cons (.int .i64) (.cons (.int .i64) .nil)))))))))) := by kernel_rfl
 have hC0 : Tryz.prog.cellsOf 34 = 10 := by kernel_rfl
 obtain ⟨cs0, rfl, hsz0⟩ := okWide_struct Tryz.underlying34 (hval 0 34 v0 rfl rfl)
 rw [hC0] at hsz0
 obtain ⟨c0_0, c0_1, c0_2, c0_3, c0_4, c0_5, c0_6, c0_7, c0_8, c0_9, rfl⟩ := arr_of10 hsz0
 obtain ⟨fu0, hr0⟩ := h0
 replace hr0 : DataW.trod enc Tryz.prog W _ _ _ fu0 34 [c0_0, c0_1, c0_2, c0_3, c0_4, c0_5, c0_6, c0_7, c0_8, c0_9] = some (_, _) := hr0
 obtain ⟨ys0, hO0⟩ := lay_open _ _ _ hK0 _ _ _ hr0 (light_of hsz (j := 0) (t := 34) rfl rfl)
 obtain ⟨y0_0, y0_1, y0_2, y0_3, y0_4, y0_5, y0_6, y0_7, y0_8, y0_9, rfl⟩ := list_of10 hO0.ld
 obtain ⟨a0_0, e0_0, _, w0_0⟩ := cell_int (hO0.at_ 0 _ rfl)
 have hb0_0 := bounds_i64 w0_0
 obtain ⟨a0_1, e0_1, _, w0_1⟩ := cell_int (hO0.at_ 1 _ rfl)
 have hb0_1 := bounds_i64 w0_1
 obtain ⟨a0_2, e0_2, _, w0_2⟩ := cell_int (hO0.at_ 2 _ rfl)
 have hb0_2 := bounds_i64 w0_2
 obtain ⟨a0_3, e0_3, _, w0_3⟩ := cell_int (hO0.at_ 3 _ rfl)
 have hb0_3 := bounds_i64 w0_3
 obtain ⟨a0_4, e0_4, _, w0_4⟩ := cell_int (hO0.at_ 4 _ rfl)
 have hb0_4 := bounds_u32 w0_4
 obtain ⟨a0_5, e0_5, _, w0_5⟩ := cell_int (hO0.at_ 5 _ rfl)
 have hb0_5 := bounds_i64 w0_5
 obtain ⟨a0_6, e0_6, _, w0_6⟩ := cell_int (hO0.at_ 6 _ rfl)
 have hb0_6 := bounds_u32 w0_6
 obtain ⟨a0_7, e0_7, _, w0_7⟩ := cell_int (hO0.at_ 7 _ rfl)
 have hb0_7 := bounds_i64 w0_7
 obtain ⟨a0_8, e0_8, _, w0_8⟩ := cell_int (hO0.at_ 8 _ rfl)
 have hb0_8 := bounds_i64 w0_8
 obtain ⟨a0_9, e0_9, _, w0_9⟩ := cell_int (hO0.at_ 9 _ rfl)
 have hb0_9 := bounds_i64 w0_9
 have hK1 : layK Tryz.prog 16 82 = some (.cons (.int .i64) (.cons (.int .i64) (.cons (.int .i64) (.cons (.int .i64) (.cons (.int .i64) (.cons (.int .i64) (.cons .bool (.cons .str (.cons (.int .i64) (.cons (.sl (.cons (.int .i64) (.cons (.int .i64) (.cons .str .nil)))) .nil)))))))))) := by kernel_rfl
 have hC1 : Tryz.prog.cellsOf 82 = 10 := by kernel_rfl
 obtain ⟨cs1, rfl, hsz1⟩ := okWide_struct Tryz.underlying82 (hval 1 82 v1 rfl rfl)
 rw [hC1] at hsz1
 obtain ⟨c1_0, c1_1, c1_2, c1_3, c1_4, c1_5, c1_6, c1_7, c1_8, c1_9, rfl⟩ := arr_of10 hsz1
 obtain ⟨fu1, hr1⟩ := h1
 replace hr1 : DataW.trod enc Tryz.prog W _ _ _ fu1 82 [c1_0, c1_1, c1_2, c1_3, c1_4, c1_5, c1_6, c1_7, c1_8, c1_9] = some (_, _) := hr1
 obtain ⟨ys1, hO1⟩ := lay_open _ _ _ hK1 _ _ _ hr1 (light_of hsz (j := 1) (t := 82) rfl rfl)
 obtain ⟨y1_0, y1_1, y1_2, y1_3, y1_4, y1_5, y1_6, y1_7, y1_8, y1_9, rfl⟩ := list_of10 hO1.ld
 obtain ⟨a1_0, e1_0, _, w1_0⟩ := cell_int (hO1.at_ 0 _ rfl)
 have hb1_0 := bounds_i64 w1_0
 obtain ⟨a1_1, e1_1, _, w1_1⟩ := cell_int (hO1.at_ 1 _ rfl)
 have hb1_1 := bounds_i64 w1_1
 obtain ⟨a1_2, e1_2, _, w1_2⟩ := cell_int (hO1.at_ 2 _ rfl)
 have hb1_2 := bounds_i64 w1_2
 obtain ⟨a1_3, e1_3, _, w1_3⟩ := cell_int (hO1.at_ 3 _ rfl)
 have hb1_3 := bounds_i64 w1_3
 obtain ⟨a1_4, e1_4, _, w1_4⟩ := cell_int (hO1.at_ 4 _ rfl)
 have hb1_4 := bounds_i64 w1_4
 obtain ⟨a1_5, e1_5, _, w1_5⟩ := cell_int (hO1.at_ 5 _ rfl)
 have hb1_5 := bounds_i64 w1_5
 obtain ⟨a1_6, e1_6, _⟩ := cell_bool (hO1.at_ 6 _ rfl)
 obtain ⟨a1_7, e1_7, _, w1_7⟩ := cell_str (hO1.at_ 7 _ rfl)
 obtain ⟨a1_8, e1_8, _, w1_8⟩ := cell_int (hO1.at_ 8 _ rfl)
 have hb1_8 := bounds_i64 w1_8
 obtain ⟨hd1_9, hf1_9⟩ := hO1.at_ 9 _ rfl
 have ht1_9 := (deep_typ _).1 _ _ hd1_9
 have hK2 : layK Tryz.prog 16 83 = some (.cons (.int .i64) (.cons (.int .i64) (.cons (.int .i64) .nil))) := by kernel_rfl
 have hC2 : Tryz.prog.cellsOf 83 = 3 := by kernel_rfl
 obtain ⟨cs2, rfl, hsz2⟩ := okWide_arr Tryz.underlying83 (hval 2 83 v2 rfl rfl)
 rw [hC2] at hsz2
 obtain ⟨c2_0, c2_1, c2_2, rfl⟩ := arr_of3 hsz2
 obtain ⟨fu2, hr2⟩ := h2
 replace hr2 : DataW.trod enc Tryz.prog W _ _ _ fu2 83 [c2_0, c2_1, c2_2] = some (_, _) := hr2
 obtain ⟨ys2, hO2⟩ := lay_open _ _ _ hK2 _ _ _ hr2 (light_of hsz (j := 2) (t := 83) rfl rfl)
 obtain ⟨y2_0, y2_1, y2_2, rfl⟩ := list_of3 hO2.ld
 obtain ⟨a2_0, e2_0, _, w2_0⟩ := cell_int (hO2.at_ 0 _ rfl)
 have hb2_0 := bounds_i64 w2_0
 obtain ⟨a2_1, e2_1, _, w2_1⟩ := cell_int (hO2.at_ 1 _ rfl)
 have hb2_1 := bounds_i64 w2_1
 obtain ⟨a2_2, e2_2, _, w2_2⟩ := cell_int (hO2.at_ 2 _ rfl)
 have hb2_2 := bounds_i64 w2_2
 exact (good_run bug_wTells rfl rfl [a0_0, a0_1, a0_2, a0_3, a0_4, a0_5, a0_6, a0_7, a0_8, a0_9, a1_0, a1_1, a1_2, a1_3, a1_4, a1_5, a1_8, a2_0, a2_1, a2_2] [a1_6] [y1_9] [a1_7] W [.agg #[c0_0, c0_1, c0_2, c0_3, c0_4, c0_5, c0_6, c0_7, c0_8, c0_9], .agg #[c1_0, c1_1, c1_2, c1_3, c1_4, c1_5, c1_6, c1_7, c1_8, c1_9], .agg #[c2_0, c2_1, c2_2]] rfl rfl rfl rfl (by exact ⟨⟨hb0_0, hb0_1, hb0_2, hb0_3, hb0_4, hb0_5, hb0_6, hb0_7, hb0_8, hb0_9⟩, ⟨hb1_0, hb1_1, hb1_2, hb1_3, hb1_4, hb1_5, hb1_8⟩, hb2_0, hb2_1, hb2_2⟩)
   (fun x hx => by
     obtain rfl := List.mem_singleton.1 hx
     exact ⟨trivial, handle_lt hg, hg⟩)
   ⟨⟨[c0_0, c0_1, c0_2, c0_3, c0_4, c0_5, c0_6, c0_7, c0_8, c0_9], rfl, e0_0, e0_1, e0_2, e0_3, e0_4, e0_5, e0_6, e0_7, e0_8, e0_9, rfl⟩, ⟨[c1_0, c1_1, c1_2, c1_3, c1_4, c1_5, c1_6, c1_7, c1_8, c1_9], rfl, e1_0, e1_1, e1_2, e1_3, e1_4, e1_5, e1_6, e1_7, e1_8, ⟨hd1_9, fun _ _ h => by cases h⟩, rfl⟩, ⟨[c2_0, c2_1, c2_2], rfl, e2_0, e2_1, e2_2, rfl⟩, trivial⟩).mono fin

theorem and_lim {a b : Bool} (ha : a = true) (hb : b = true) : (a && b) = true := by rw [ha, hb]; rfl
set_option maxHeartbeats 8000000 in
theorem jf : joinedFacts Tryz.pinned.checked.prog 5 Tryz.f5 Rows.boundTellsSpec Rows.boundTellsRow = true := by
 delta joinedFacts
 repeat' (with_reducible refine and_lim ?_ ?_)
 all_goals as_aux_lemma => kernel_rfl
theorem nf : Tryz.pinned.checked.prog.funcNamed Rows.boundTellsRow.func = some 5 := by kernel_rfl
theorem ins : Tryz.f5.isInstance Tryz.pinned.checked.prog Rows.boundTellsRow.origin Rows.boundTellsRow.targs := of_decide_eq_true (by kernel_rfl)
theorem wrp : Tryz.f5.isWrapper Tryz.pinned.checked.prog Rows.boundTellsRow.wrapper Rows.boundTellsRow.mainSum := by unfold Func.isWrapper; rw [if_neg (of_decide_eq_false (by kernel_rfl))]; exact ⟨rfl, rfl⟩

theorem row_holds : Rows.BoundTellsSaid :=
 OpenClaim.holds_of_wide 5 Tryz.f5 rfl rfl rfl rfl rfl rfl rfl ⟨rfl, rfl, rfl, rfl, rfl⟩ rfl rfl rfl rfl rfl nf Tryz.func5 jf ins wrp
   (fun os started H enc _ => lifted os started H enc)

theorem card_holds : Rows.BoundTellsCardSaid :=
 Claim7.holds_tied_plain_at .later [] [.handle] true Rows.boundTellsCard.stood.harness true
   row_holds (fun _ h => by cases h) (by as_aux_lemma => kernel_rfl) (fun _ h => by cases h) boundTells_row_tie rfl ⟨rfl, rfl⟩ (by as_aux_lemma => kernel_rfl) rfl
   (fun f fn hf hfn => by
     obtain rfl : f = 5 := Option.some.inj ((show Tryz.prog.funcNamed "fusee/fuseelaw30.BoundTells" = some 5 by kernel_rfl).symm.trans hf) |>.symm
     obtain rfl : fn = Tryz.f5 := (Option.some.inj (Tryz.func5.symm.trans hfn)).symm
     exact ⟨by as_aux_lemma => kernel_rfl, fun j t ht => by
       rw [Tryz.params5] at ht
       have hall : ∀ x ∈ Tryz.f5.params.toList, Tryz.prog.wantsStandIn x = false := by rw [Tryz.params5]; intro x hx; simp only [List.mem_cons, List.not_mem_nil, or_false] at hx; first | (rcases hx with rfl | rfl | rfl | rfl | rfl | rfl <;> kernel_rfl) | (rcases hx with rfl | rfl | rfl | rfl | rfl <;> kernel_rfl) | (rcases hx with rfl | rfl | rfl | rfl <;> kernel_rfl) | (rcases hx with rfl | rfl | rfl <;> kernel_rfl) | (rcases hx with rfl | rfl <;> kernel_rfl) | (obtain rfl := hx; kernel_rfl)
       refine hall t ?_
       rw [Tryz.params5]
       exact Array.mem_toList_iff.2 (Array.mem_of_getElem? ht)⟩)
   (by as_aux_lemma => kernel_rfl)
#print axioms card_holds
end Go.Proofs.YtgondiedehjkhaaGreatDoor.boundTells
