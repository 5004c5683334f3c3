/-
 The statement fuseelaw19.PageBack, closed: the row from its walk, the card from the row and the given tie.
-/
import Derived.Test.YtgondiedehjkhaaGreatDoorYypgb
import Derived.Test.YtgondiedehjkhaaGreatDoorFramepgb
import Derived.Test.YtgondiedehjkhaaGreatDoorTie
import Derived.Test.YtgondiedehjkhaaGreatDoorCards
import Derived.Test.YtgondiedehjkhaaGreatDoorOpnpgb
import Derived.SevenTiedAt
namespace Go.Proofs.YtgondiedehjkhaaGreatDoor.pageBack
open Go.ChangeShapes Go.WideShapes Go.RowKit Go.Proofs.YtgondiedehjkhaaGreatDoor.Sy
set_option linter.unusedVariables false

theorem arr_of1 {xs : Array Value} (h : xs.size = 1) : ∃ c0, xs = #[c0] := by
 obtain ⟨l⟩ := xs
 match l, h with
 | [c0], _ => exact ⟨c0, rfl⟩
theorem list_of1 {α : Type} {xs : List α} (h : xs.length = 1) : ∃ c0, xs = [c0] := by
 match xs, h with
 | [c0], _ => exact ⟨c0, rfl⟩
theorem arr_of10 {xs : Array Value} (h : xs.size = 10) : ∃ c0 c1 c2 c3 c4 c5 c6 c7 c8 c9, xs = #[c0, c1, c2, c3, c4, c5, c6, c7, c8, c9] := by
 obtain ⟨l⟩ := xs
 match l, h with
 | [c0, c1, c2, c3, c4, c5, c6, c7, c8, c9], _ => exact ⟨c0, c1, c2, c3, c4, c5, c6, c7, c8, c9, rfl⟩
theorem list_of10 {α : Type} {xs : List α} (h : xs.length = 10) : ∃ c0 c1 c2 c3 c4 c5 c6 c7 c8 c9, xs = [c0, c1, c2, c3, c4, c5, c6, c7, c8, c9] := by
 match xs, h with
 | [c0, c1, c2, c3, c4, c5, c6, c7, c8, c9], _ => exact ⟨c0, c1, c2, c3, c4, c5, c6, c7, c8, c9, rfl⟩
theorem okWide_arr {P : Program} {w : World} {r : Reach} {base : Nat} {t e : TypeId} {n : Nat} {v : Value} (ht : P.underlying t = some (.array n e)) (h : Value.okWide P w r base t v) : ∃ cs, v = .agg cs ∧ cs.size = P.cellsOf t := by
 simp only [Value.okWide, ht] at h
 obtain ⟨cs, h1, h2, _⟩ := h
 exact ⟨cs, h1, h2⟩
set_option linter.unusedSimpArgs false
set_option maxRecDepth 100000 in
theorem lifted (os : Os) (started : os.Started) (H : Type) (enc : TypeId × Value → H) :
   ReturnsInHanded {} Tryz.checked os 4 .any (fun w args => (Rows.pageBackSpec.pre enc Tryz.prog Tryz.f4 [] false w args ∧ laidMetH Tryz.prog Rows.pageBackRow.laid w) ∧ sizedMet enc Tryz.prog Tryz.f4 (OpenSpec.ofChange Rows.pageBackSpec) false w args)
     (Rows.pageBackSpec.post enc Tryz.prog Tryz.f4 false true false false) := by
 refine returnsInHanded_of_change_and (C := Tryz.checked) (X := fun w _ => laidMetH Tryz.prog Rows.pageBackRow.laid w) (fun _ _ _ hh h => h.of_heap hh) Tryz.own started (by kernel_rfl) Tryz.func4
   (ChangeSpec.witness_at (enc := enc) (C := Tryz.checked) (os := os) (X := fun w _ => laidMetH Tryz.prog Rows.pageBackRow.laid w) false (laidWorld os) #[.agg #[.int .i64 0, .int .i64 0, .int .i64 0, .int .i64 0, .int .u32 0, .int .i64 0, .int .u32 0, .int .i64 0, .int .i64 0, .int .i64 0], .int .u64 0, .int .i64 0] 8 rfl (by kernel_rfl) (by kernel_rfl) (by kernel_rfl) (by kernel_rfl) (by kernel_rfl) (laidWorld_met os _)) ?_
 intro W base args ds gs before hval0 hW _ hsz hL _
 have hval : ∀ (j : Nat) t v, Tryz.f4.params[j]? = some t → args[j]? = some v → Value.okWide Tryz.prog W .any base t v := hval0
 have hW0 := hW
 obtain ⟨p, q, hA0, hV, rfl, hfz, hnd⟩ := hW0
 have hA : DataW.TrodAll enc Tryz.prog W 0 (fun _ => true) true Tryz.f4.params.toList args.toList ds p := hA0
 rw [Tryz.params4] at hA hval hsz
 obtain ⟨v0, vs0, d0, ds0, p0, q0, hargs, rfl, rfl, h0, r0⟩ := trodAll_cons hA
 obtain ⟨v1, vs1, d1, ds1, p1, q1, rfl, rfl, rfl, h1, r1⟩ := trodAll_cons r0
 obtain ⟨v2, vs2, d2, ds2, p2, q2, rfl, rfl, rfl, h2, r2⟩ := trodAll_cons r1
 obtain ⟨rfl, rfl, rfl⟩ := trodAll_nil r2
 obtain rfl : args = #[v0, v1, v2] := by cases args; simp_all
 have hg := handle_of_laid hL
 have fin : ∀ (e : Ending) (W' : World), (e = .returned (.bool true) ∧ Below W.heap.size W W') → ∃ v, e = .returned v ∧ Rows.pageBackSpec.post enc Tryz.prog Tryz.f4 false true false false W _ v W' := fun e W' ⟨he, hb⟩ =>
   ⟨_, he, law_post 4 rfl Tryz.underlying4 (by kernel_rfl) hW rfl rfl hb⟩
 have hK0 : layK Tryz.prog 16 34 = some (.cons (.int .i64) (.cons (.int .i64) (.cons (.int .i64) (.cons (.int .i64) (.cons (.int .u32) (.cons (.int .i64) (.cons (.int .u32) (.cons (.int .i64) (.cons (.int .i64) (.cons (.int .i64) .nil)))))))))) := by kernel_rfl
 have hC0 : Tryz.prog.cellsOf 34 = 10 := by kernel_rfl
 obtain ⟨cs0, rfl, hsz0⟩ := okWide_struct Tryz.underlying34 (hval 0 34 v0 rfl rfl)
 rw [hC0] at hsz0
 obtain ⟨c0_0, c0_1, c0_2, c0_3, c0_4, c0_5, c0_6, c0_7, c0_8, c0_9, rfl⟩ := arr_of10 hsz0
 obtain ⟨fu0, hr0⟩ := h0
 replace hr0 : DataW.trod enc Tryz.prog W _ _ _ fu0 34 [c0_0, c0_1, c0_2, c0_3, c0_4, c0_5, c0_6, c0_7, c0_8, c0_9] = some (_, _) := hr0
 obtain ⟨ys0, hO0⟩ := lay_open _ _ _ hK0 _ _ _ hr0 (light_of hsz (j := 0) (t := 34) rfl rfl)
 obtain ⟨y0_0, y0_1, y0_2, y0_3, y0_4, y0_5, y0_6, y0_7, y0_8, y0_9, rfl⟩ := list_of10 hO0.ld
 obtain ⟨a0_0, e0_0, _, w0_0⟩ := cell_int (hO0.at_ 0 _ rfl)
 have hb0_0 := bounds_i64 w0_0
 obtain ⟨a0_1, e0_1, _, w0_1⟩ := cell_int (hO0.at_ 1 _ rfl)
 have hb0_1 := bounds_i64 w0_1
 obtain ⟨a0_2, e0_2, _, w0_2⟩ := cell_int (hO0.at_ 2 _ rfl)
 have hb0_2 := bounds_i64 w0_2
 obtain ⟨a0_3, e0_3, _, w0_3⟩ := cell_int (hO0.at_ 3 _ rfl)
 have hb0_3 := bounds_i64 w0_3
 obtain ⟨a0_4, e0_4, _, w0_4⟩ := cell_int (hO0.at_ 4 _ rfl)
 have hb0_4 := bounds_u32 w0_4
 obtain ⟨a0_5, e0_5, _, w0_5⟩ := cell_int (hO0.at_ 5 _ rfl)
 have hb0_5 := bounds_i64 w0_5
 obtain ⟨a0_6, e0_6, _, w0_6⟩ := cell_int (hO0.at_ 6 _ rfl)
 have hb0_6 := bounds_u32 w0_6
 obtain ⟨a0_7, e0_7, _, w0_7⟩ := cell_int (hO0.at_ 7 _ rfl)
 have hb0_7 := bounds_i64 w0_7
 obtain ⟨a0_8, e0_8, _, w0_8⟩ := cell_int (hO0.at_ 8 _ rfl)
 have hb0_8 := bounds_i64 w0_8
 obtain ⟨a0_9, e0_9, _, w0_9⟩ := cell_int (hO0.at_ 9 _ rfl)
 have hb0_9 := bounds_i64 w0_9
 obtain ⟨a1, rfl, rfl, rfl, w1⟩ := open_int Tryz.underlying35 (hval 1 35 v1 rfl rfl) h1
 have hb1 := bounds_u64 w1
 obtain ⟨a2, rfl, rfl, rfl, w2⟩ := open_int Tryz.underlying3 (hval 2 3 v2 rfl rfl) h2
 have hb2 := bounds_i64 w2
 exact (good_run yyg_wBack rfl rfl [a0_0, a0_1, a0_2, a0_3, a0_4, a0_5, a0_6, a0_7, a0_8, a0_9, a1, a2] [] [] [] W [.agg #[c0_0, c0_1, c0_2, c0_3, c0_4, c0_5, c0_6, c0_7, c0_8, c0_9], .int .u64 a1, .int .i64 a2] rfl rfl rfl rfl (by exact ⟨⟨hb0_0, hb0_1, hb0_2, hb0_3, hb0_4, hb0_5, hb0_6, hb0_7, hb0_8, hb0_9⟩, hb1, hb2⟩)
   (fun x hx => by
     obtain rfl := List.mem_singleton.1 hx
     exact ⟨trivial, handle_lt hg, hg⟩)
   ⟨⟨[c0_0, c0_1, c0_2, c0_3, c0_4, c0_5, c0_6, c0_7, c0_8, c0_9], rfl, e0_0, e0_1, e0_2, e0_3, e0_4, e0_5, e0_6, e0_7, e0_8, e0_9, rfl⟩, rfl, rfl, trivial⟩).mono fin

theorem and_lim {a b : Bool} (ha : a = true) (hb : b = true) : (a && b) = true := by rw [ha, hb]; rfl
set_option maxHeartbeats 8000000 in
theorem jf : joinedFacts Tryz.pinned.checked.prog 4 Tryz.f4 Rows.pageBackSpec Rows.pageBackRow = true := by
 delta joinedFacts
 repeat' (with_reducible refine and_lim ?_ ?_)
 all_goals as_aux_lemma => kernel_rfl
theorem nf : Tryz.pinned.checked.prog.funcNamed Rows.pageBackRow.func = some 4 := by kernel_rfl
theorem ins : Tryz.f4.isInstance Tryz.pinned.checked.prog Rows.pageBackRow.origin Rows.pageBackRow.targs := of_decide_eq_true (by kernel_rfl)
theorem wrp : Tryz.f4.isWrapper Tryz.pinned.checked.prog Rows.pageBackRow.wrapper Rows.pageBackRow.mainSum := by unfold Func.isWrapper; rw [if_neg (of_decide_eq_false (by kernel_rfl))]; exact ⟨rfl, rfl⟩

theorem row_holds : Rows.PageBackSaid :=
 OpenClaim.holds_of_wide 4 Tryz.f4 rfl rfl rfl rfl rfl rfl rfl ⟨rfl, rfl, rfl, rfl, rfl⟩ rfl rfl rfl rfl rfl nf Tryz.func4 jf ins wrp
   (fun os started H enc _ => lifted os started H enc)

theorem card_holds : Rows.PageBackCardSaid :=
 Claim7.holds_tied_plain_at .later [] [.handle] true Rows.pageBackCard.stood.harness true
   row_holds (fun _ h => by cases h) (by as_aux_lemma => kernel_rfl) (fun _ h => by cases h) pageBack_row_tie rfl ⟨rfl, rfl⟩ (by as_aux_lemma => kernel_rfl) rfl
   (fun f fn hf hfn => by
     obtain rfl : f = 4 := Option.some.inj ((show Tryz.prog.funcNamed "fusee/fuseelaw19.PageBack" = some 4 by kernel_rfl).symm.trans hf) |>.symm
     obtain rfl : fn = Tryz.f4 := (Option.some.inj (Tryz.func4.symm.trans hfn)).symm
     exact ⟨by as_aux_lemma => kernel_rfl, fun j t ht => by
       rw [Tryz.params4] at ht
       have hall : ∀ x ∈ Tryz.f4.params.toList, Tryz.prog.wantsStandIn x = false := by rw [Tryz.params4]; intro x hx; simp only [List.mem_cons, List.not_mem_nil, or_false] at hx; first | (rcases hx with rfl | rfl | rfl | rfl | rfl | rfl <;> kernel_rfl) | (rcases hx with rfl | rfl | rfl | rfl | rfl <;> kernel_rfl) | (rcases hx with rfl | rfl | rfl | rfl <;> kernel_rfl) | (rcases hx with rfl | rfl | rfl <;> kernel_rfl) | (rcases hx with rfl | rfl <;> kernel_rfl) | (obtain rfl := hx; kernel_rfl)
       refine hall t ?_
       rw [Tryz.params4]
       exact Array.mem_toList_iff.2 (Array.mem_of_getElem? ht)⟩)
   (by as_aux_lemma => kernel_rfl)
#print axioms card_holds
end Go.Proofs.YtgondiedehjkhaaGreatDoor.pageBack
