/-
 The statement fuseelaw44.CallsBack, closed: the row from its walk, the card from the row and the given tie.
-/
import Derived.Test.YtmlidfpjeomcmaaDoorCdclb
import Derived.Test.YtmlidfpjeomcmaaDoorFrameclb
import Derived.Test.YtmlidfpjeomcmaaDoorTie
import Derived.Test.YtmlidfpjeomcmaaDoorCards
import Derived.Test.YtmlidfpjeomcmaaDoorOpnclb
import Derived.SevenTiedAt
namespace Go.Proofs.YtmlidfpjeomcmaaDoor.callsBack
open Go.ChangeShapes Go.WideShapes Go.RowKit Go.Proofs.YtmlidfpjeomcmaaDoor.Sy
set_option linter.unusedVariables false

theorem arr_of1 {xs : Array Value} (h : xs.size = 1) : ∃ c0, xs = #[c0] := by
 obtain ⟨l⟩ := xs
 match l, h with
 | [c0], _ => exact ⟨c0, rfl⟩
theorem list_of1 {α : Type} {xs : List α} (h : xs.length = 1) : ∃ c0, xs = [c0] := by
 match xs, h with
 | [c0], _ => exact ⟨c0, rfl⟩
theorem arr_of4 {xs : Array Value} (h : xs.size = 4) : ∃ c0 c1 c2 c3, xs = #[c0, c1, c2, c3] := by
 obtain ⟨l⟩ := xs
 match l, h with
 | [c0, c1, c2, c3], _ => exact ⟨c0, c1, c2, c3, rfl⟩
theorem list_of4 {α : Type} {xs : List α} (h : xs.length = 4) : ∃ c0 c1 c2 c3, xs = [c0, c1, c2, c3] := by
 match xs, h with
 | [c0, c1, c2, c3], _ => exact ⟨c0, c1, c2, c3, rfl⟩
theorem arr_of7 {xs : Array Value} (h : xs.size = 7) : ∃ c0 c1 c2 c3 c4 c5 c6, xs = #[c0, c1, c2, c3, c4, c5, c6] := by
 obtain ⟨l⟩ := xs
 match l, h with
 | [c0, c1, c2, c3, c4, c5, c6], _ => exact ⟨c0, c1, c2, c3, c4, c5, c6, rfl⟩
theorem list_of7 {α : Type} {xs : List α} (h : xs.length = 7) : ∃ c0 c1 c2 c3 c4 c5 c6, xs = [c0, c1, c2, c3, c4, c5, c6] := by
 match xs, h with
 | [c0, c1, c2, c3, c4, c5, c6], _ => exact ⟨c0, c1, c2, c3, c4, c5, c6, rfl⟩
theorem okWide_arr {P : Program} {w : World} {r : Reach} {base : Nat} {t e : TypeId} {n : Nat} {v : Value} (ht : P.underlying t = some (.array n e)) (h : Value.okWide P w r base t v) : ∃ cs, v = .agg cs ∧ cs.size = P.cellsOf t := by
 simp only [Value.okWide, ht] at h
 obtain ⟨cs, h1, h2, _⟩ := h
 exact ⟨cs, h1, h2⟩
set_option linter.unusedSimpArgs false
set_option maxRecDepth 100000 in
theorem lifted (os : Os) (started : os.Started) (H : Type) (enc : TypeId × Value → H) :
   ReturnsInHanded {} Tryd.checked os 4 .any (fun w args => (Rows.callsBackSpec.pre enc Tryd.prog Tryd.f4 [] false w args ∧ laidMetH Tryd.prog Rows.callsBackRow.laid w) ∧ sizedMet enc Tryd.prog Tryd.f4 (OpenSpec.ofChange Rows.callsBackSpec) false w args)
     (Rows.callsBackSpec.post enc Tryd.prog Tryd.f4 false true false false) := by
 refine returnsInHanded_of_change_and (C := Tryd.checked) (X := fun w _ => laidMetH Tryd.prog Rows.callsBackRow.laid w) (fun _ _ _ hh h => h.of_heap hh) Tryd.own started (by kernel_rfl) Tryd.func4
   (ChangeSpec.witness_at (enc := enc) (C := Tryd.checked) (os := os) (X := fun w _ => laidMetH Tryd.prog Rows.callsBackRow.laid w) false (laidWorld os) #[.agg #[.int .i64 0, .string ⟨#[]⟩, .slice none 0 0, .int .i64 0], .agg #[.int .i64 0, .int .i64 0, .int .i64 0, .int .i64 0, .int .i64 0, .int .i64 0, .int .i64 0], .int .u16 0] 8 rfl (by kernel_rfl) (by kernel_rfl) (by kernel_rfl) (by kernel_rfl) (by kernel_rfl) (laidWorld_met os _)) ?_
 intro W base args ds gs before hval0 hW _ hsz hL _
 have hval : ∀ (j : Nat) t v, Tryd.f4.params[j]? = some t → args[j]? = some v → Value.okWide Tryd.prog W .any base t v := hval0
 have hW0 := hW
 obtain ⟨p, q, hA0, hV, rfl, hfz, hnd⟩ := hW0
 have hA : DataW.TrodAll enc Tryd.prog W 0 (fun _ => true) true Tryd.f4.params.toList args.toList ds p := hA0
 rw [Tryd.params4] at hA hval hsz
 obtain ⟨v0, vs0, d0, ds0, p0, q0, hargs, rfl, rfl, h0, r0⟩ := trodAll_cons hA
 obtain ⟨v1, vs1, d1, ds1, p1, q1, rfl, rfl, rfl, h1, r1⟩ := trodAll_cons r0
 obtain ⟨v2, vs2, d2, ds2, p2, q2, rfl, rfl, rfl, h2, r2⟩ := trodAll_cons r1
 obtain ⟨rfl, rfl, rfl⟩ := trodAll_nil r2
 obtain rfl : args = #[v0, v1, v2] := by cases args; simp_all
 have hg := handle_of_laid hL
 have fin : ∀ (e : Ending) (W' : World), (e = .returned (.bool true) ∧ Below W.heap.size W W') → ∃ v, e = .returned v ∧ Rows.callsBackSpec.post enc Tryd.prog Tryd.f4 false true false false W _ v W' := fun e W' ⟨he, hb⟩ =>
   ⟨_, he, law_post 4 rfl Tryd.underlying4 (by kernel_rfl) hW rfl rfl hb⟩
 have hK0 : layK Tryd.prog 16 24 = some (.cons (.int .i64) (.cons .str (.cons (.sl (.cons (.int .u8) .nil)) (.cons (.int .i64) .nil)))) := by kernel_rfl
 have hC0 : Tryd.prog.cellsOf 24 = 4 := by kernel_rfl
 obtain ⟨cs0, rfl, hsz0⟩ := okWide_struct Tryd.underlying24 (hval 0 24 v0 rfl rfl)
 rw [hC0] at hsz0
 obtain ⟨c0_0, c0_1, c0_2, c0_3, rfl⟩ := arr_of4 hsz0
 obtain ⟨fu0, hr0⟩ := h0
 replace hr0 : DataW.trod enc Tryd.prog W _ _ _ fu0 24 [c0_0, c0_1, c0_2, c0_3] = some (_, _) := hr0
 obtain ⟨ys0, hO0⟩ := lay_open _ _ _ hK0 _ _ _ hr0 (light_of hsz (j := 0) (t := 24) rfl rfl)
 obtain ⟨y0_0, y0_1, y0_2, y0_3, rfl⟩ := list_of4 hO0.ld
 obtain ⟨a0_0, e0_0, _, w0_0⟩ := cell_int (hO0.at_ 0 _ rfl)
 have hb0_0 := bounds_i64 w0_0
 obtain ⟨a0_1, e0_1, _, w0_1⟩ := cell_str (hO0.at_ 1 _ rfl)
 obtain ⟨hd0_2, hf0_2⟩ := hO0.at_ 2 _ rfl
 have ht0_2 := (deep_typ _).1 _ _ hd0_2
 obtain ⟨a0_3, e0_3, _, w0_3⟩ := cell_int (hO0.at_ 3 _ rfl)
 have hb0_3 := bounds_i64 w0_3
 have hK1 : layK Tryd.prog 16 30 = some (.cons (.int .i64) (.cons (.int .i64) (.cons (.int .i64) (.cons (.int .i64) (.cons (.int .i64) (.cons (.int .i64) (.cons (.int .i64) .nil))))))) := by kernel_rfl
 have hC1 : Tryd.prog.cellsOf 30 = 7 := by kernel_rfl
 obtain ⟨cs1, rfl, hsz1⟩ := okWide_struct Tryd.underlying30 (hval 1 30 v1 rfl rfl)
 rw [hC1] at hsz1
 obtain ⟨c1_0, c1_1, c1_2, c1_3, c1_4, c1_5, c1_6, rfl⟩ := arr_of7 hsz1
 obtain ⟨fu1, hr1⟩ := h1
 replace hr1 : DataW.trod enc Tryd.prog W _ _ _ fu1 30 [c1_0, c1_1, c1_2, c1_3, c1_4, c1_5, c1_6] = some (_, _) := hr1
 obtain ⟨ys1, hO1⟩ := lay_open _ _ _ hK1 _ _ _ hr1 (light_of hsz (j := 1) (t := 30) rfl rfl)
 obtain ⟨y1_0, y1_1, y1_2, y1_3, y1_4, y1_5, y1_6, rfl⟩ := list_of7 hO1.ld
 obtain ⟨a1_0, e1_0, _, w1_0⟩ := cell_int (hO1.at_ 0 _ rfl)
 have hb1_0 := bounds_i64 w1_0
 obtain ⟨a1_1, e1_1, _, w1_1⟩ := cell_int (hO1.at_ 1 _ rfl)
 have hb1_1 := bounds_i64 w1_1
 obtain ⟨a1_2, e1_2, _, w1_2⟩ := cell_int (hO1.at_ 2 _ rfl)
 have hb1_2 := bounds_i64 w1_2
 obtain ⟨a1_3, e1_3, _, w1_3⟩ := cell_int (hO1.at_ 3 _ rfl)
 have hb1_3 := bounds_i64 w1_3
 obtain ⟨a1_4, e1_4, _, w1_4⟩ := cell_int (hO1.at_ 4 _ rfl)
 have hb1_4 := bounds_i64 w1_4
 obtain ⟨a1_5, e1_5, _, w1_5⟩ := cell_int (hO1.at_ 5 _ rfl)
 have hb1_5 := bounds_i64 w1_5
 obtain ⟨a1_6, e1_6, _, w1_6⟩ := cell_int (hO1.at_ 6 _ rfl)
 have hb1_6 := bounds_i64 w1_6
 obtain ⟨a2, rfl, rfl, rfl, w2⟩ := open_int Tryd.underlying59 (hval 2 59 v2 rfl rfl) h2
 have hb2 := bounds_u16 w2
 exact (good_run cdg_wBack rfl rfl [a0_0, a0_3, a1_0, a1_1, a1_2, a1_3, a1_4, a1_5, a1_6, a2] [] [y0_2] [a0_1] W [.agg #[c0_0, c0_1, c0_2, c0_3], .agg #[c1_0, c1_1, c1_2, c1_3, c1_4, c1_5, c1_6], .int .u16 a2] rfl rfl rfl rfl (by exact ⟨hb0_0, hb0_3, hb1_0, hb1_1, hb1_2, hb1_3, hb1_4, hb1_5, hb1_6, okR_iff.2 (fine_one ht0_2 hf0_2), hb2.1, hb2.2⟩)
   (fun x hx => by
     obtain rfl := List.mem_singleton.1 hx
     exact ⟨trivial, handle_lt hg, hg⟩)
   ⟨⟨[c0_0, c0_1, c0_2, c0_3], rfl, e0_0, e0_1, ⟨hd0_2, fun _ _ h => by cases h⟩, e0_3, rfl⟩, ⟨[c1_0, c1_1, c1_2, c1_3, c1_4, c1_5, c1_6], rfl, e1_0, e1_1, e1_2, e1_3, e1_4, e1_5, e1_6, rfl⟩, rfl, trivial⟩).mono fin

theorem and_lim {a b : Bool} (ha : a = true) (hb : b = true) : (a && b) = true := by rw [ha, hb]; rfl
set_option maxHeartbeats 8000000 in
theorem jf : joinedFacts Tryd.pinned.checked.prog 4 Tryd.f4 Rows.callsBackSpec Rows.callsBackRow = true := by
 delta joinedFacts
 repeat' (with_reducible refine and_lim ?_ ?_)
 all_goals as_aux_lemma => kernel_rfl
theorem nf : Tryd.pinned.checked.prog.funcNamed Rows.callsBackRow.func = some 4 := by kernel_rfl
theorem ins : Tryd.f4.isInstance Tryd.pinned.checked.prog Rows.callsBackRow.origin Rows.callsBackRow.targs := of_decide_eq_true (by kernel_rfl)
theorem wrp : Tryd.f4.isWrapper Tryd.pinned.checked.prog Rows.callsBackRow.wrapper Rows.callsBackRow.mainSum := by unfold Func.isWrapper; rw [if_neg (of_decide_eq_false (by kernel_rfl))]; exact ⟨rfl, rfl⟩

theorem row_holds : Rows.CallsBackSaid :=
 OpenClaim.holds_of_wide 4 Tryd.f4 rfl rfl rfl rfl rfl rfl rfl ⟨rfl, rfl, rfl, rfl, rfl⟩ rfl rfl rfl rfl rfl nf Tryd.func4 jf ins wrp
   (fun os started H enc _ => lifted os started H enc)

theorem card_holds : Rows.CallsBackCardSaid :=
 Claim7.holds_tied_plain_at .later [] [.handle] true Rows.callsBackCard.stood.harness true
   row_holds (fun _ h => by cases h) (by as_aux_lemma => kernel_rfl) (fun _ h => by cases h) callsBack_row_tie rfl ⟨rfl, rfl⟩ (by as_aux_lemma => kernel_rfl) rfl
   (fun f fn hf hfn => by
     obtain rfl : f = 4 := Option.some.inj ((show Tryd.prog.funcNamed "fusee/fuseelaw44.CallsBack" = some 4 by kernel_rfl).symm.trans hf) |>.symm
     obtain rfl : fn = Tryd.f4 := (Option.some.inj (Tryd.func4.symm.trans hfn)).symm
     exact ⟨by as_aux_lemma => kernel_rfl, fun j t ht => by
       rw [Tryd.params4] at ht
       have hall : ∀ x ∈ Tryd.f4.params.toList, Tryd.prog.wantsStandIn x = false := by rw [Tryd.params4]; intro x hx; simp only [List.mem_cons, List.not_mem_nil, or_false] at hx; first | (rcases hx with rfl | rfl | rfl | rfl | rfl | rfl <;> kernel_rfl) | (rcases hx with rfl | rfl | rfl | rfl | rfl <;> kernel_rfl) | (rcases hx with rfl | rfl | rfl | rfl <;> kernel_rfl) | (rcases hx with rfl | rfl | rfl <;> kernel_rfl) | (rcases hx with rfl | rfl <;> kernel_rfl) | (obtain rfl := hx; kernel_rfl)
       refine hall t ?_
       rw [Tryd.params4]
       exact Array.mem_toList_iff.2 (Array.mem_of_getElem? ht)⟩)
   (by as_aux_lemma => kernel_rfl)
#print axioms card_holds
end Go.Proofs.YtmlidfpjeomcmaaDoor.callsBack
