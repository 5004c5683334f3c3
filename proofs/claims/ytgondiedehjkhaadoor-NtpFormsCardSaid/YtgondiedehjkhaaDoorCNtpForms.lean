/-
 The statement fuseelaw41.NtpForms, closed: the row from its walk, the card from the row and the given tie.
-/
import Derived.Test.YtgondiedehjkhaaDoorNwforms
import Derived.Test.YtgondiedehjkhaaDoorFrameforms
import Derived.Test.YtgondiedehjkhaaDoorTie
import Derived.Test.YtgondiedehjkhaaDoorCards
import Derived.Test.YtgondiedehjkhaaDoorOpnforms
import Derived.SevenTiedAt
namespace Go.Proofs.YtgondiedehjkhaaDoor.ntpForms
open Go.ChangeShapes Go.WideShapes Go.RowKit Go.Proofs.YtgondiedehjkhaaDoor.Sy
set_option linter.unusedVariables false

theorem arr_of1 {xs : Array Value} (h : xs.size = 1) : ∃ c0, xs = #[c0] := by
 obtain ⟨l⟩ := xs
 match l, h with
 | [c0], _ => exact ⟨c0, rfl⟩
theorem list_of1 {α : Type} {xs : List α} (h : xs.length = 1) : ∃ c0, xs = [c0] := by
 match xs, h with
 | [c0], _ => exact ⟨c0, rfl⟩
theorem arr_of16 {xs : Array Value} (h : xs.size = 16) : ∃ c0 c1 c2 c3 c4 c5 c6 c7 c8 c9 c10 c11 c12 c13 c14 c15, xs = #[c0, c1, c2, c3, c4, c5, c6, c7, c8, c9, c10, c11, c12, c13, c14, c15] := by
 obtain ⟨l⟩ := xs
 match l, h with
 | [c0, c1, c2, c3, c4, c5, c6, c7, c8, c9, c10, c11, c12, c13, c14, c15], _ => exact ⟨c0, c1, c2, c3, c4, c5, c6, c7, c8, c9, c10, c11, c12, c13, c14, c15, rfl⟩
theorem list_of16 {α : Type} {xs : List α} (h : xs.length = 16) : ∃ c0 c1 c2 c3 c4 c5 c6 c7 c8 c9 c10 c11 c12 c13 c14 c15, xs = [c0, c1, c2, c3, c4, c5, c6, c7, c8, c9, c10, c11, c12, c13, c14, c15] := by
 match xs, h with
 | [c0, c1, c2, c3, c4, c5, c6, c7, c8, c9, c10, c11, c12, c13, c14, c15], _ => exact ⟨c0, c1, c2, c3, c4, c5, c6, c7, c8, c9, c10, c11, c12, c13, c14, c15, rfl⟩
theorem okWide_arr {P : Program} {w : World} {r : Reach} {base : Nat} {t e : TypeId} {n : Nat} {v : Value} (ht : P.underlying t = some (.array n e)) (h : Value.okWide P w r base t v) : ∃ cs, v = .agg cs ∧ cs.size = P.cellsOf t := by
 simp only [Value.okWide, ht] at h
 obtain ⟨cs, h1, h2, _⟩ := h
 exact ⟨cs, h1, h2⟩
set_option linter.unusedSimpArgs false
set_option maxRecDepth 100000 in
theorem lifted (os : Os) (started : os.Started) (H : Type) (enc : TypeId × Value → H) :
   ReturnsInHanded {} Tryd.checked os 8 .any (fun w args => (Rows.ntpFormsSpec.pre enc Tryd.prog Tryd.f8 [] false w args ∧ laidMetH Tryd.prog Rows.ntpFormsRow.laid w) ∧ sizedMet enc Tryd.prog Tryd.f8 (OpenSpec.ofChange Rows.ntpFormsSpec) false w args)
     (Rows.ntpFormsSpec.post enc Tryd.prog Tryd.f8 false true false false) := by
 refine returnsInHanded_of_change_and (C := Tryd.checked) (X := fun w _ => laidMetH Tryd.prog Rows.ntpFormsRow.laid w) (fun _ _ _ hh h => h.of_heap hh) Tryd.own started (by kernel_rfl) Tryd.func8
   (ChangeSpec.witness_at (enc := enc) (C := Tryd.checked) (os := os) (X := fun w _ => laidMetH Tryd.prog Rows.ntpFormsRow.laid w) false (laidWorld os) #[.agg #[.int .u8 0, .int .u8 0, .int .u8 0, .int .u8 0, .int .i8 0, .int .i8 0, .int .u32 0, .int .u32 0, .int .u8 0, .int .u8 0, .int .u8 0, .int .u8 0, .int .u64 0, .int .u64 0, .int .u64 0, .int .u64 0], .slice none 0 0, .int .i64 0] 8 rfl (by kernel_rfl) (by kernel_rfl) (by kernel_rfl) (by kernel_rfl) (by kernel_rfl) (laidWorld_met os _)) ?_
 intro W base args ds gs before hval0 hW _ hsz hL _
 have hval : ∀ (j : Nat) t v, Tryd.f8.params[j]? = some t → args[j]? = some v → Value.okWide Tryd.prog W .any base t v := hval0
 have hW0 := hW
 obtain ⟨p, q, hA0, hV, rfl, hfz, hnd⟩ := hW0
 have hA : DataW.TrodAll enc Tryd.prog W 0 (fun _ => true) true Tryd.f8.params.toList args.toList ds p := hA0
 rw [Tryd.params8] at hA hval hsz
 obtain ⟨v0, vs0, d0, ds0, p0, q0, hargs, rfl, rfl, h0, r0⟩ := trodAll_cons hA
 obtain ⟨v1, vs1, d1, ds1, p1, q1, rfl, rfl, rfl, h1, r1⟩ := trodAll_cons r0
 obtain ⟨v2, vs2, d2, ds2, p2, q2, rfl, rfl, rfl, h2, r2⟩ := trodAll_cons r1
 obtain ⟨rfl, rfl, rfl⟩ := trodAll_nil r2
 obtain rfl : args = #[v0, v1, v2] := by cases args; simp_all
 have hg := handle_of_laid hL
 have fin : ∀ (e : Ending) (W' : World), (e = .returned (.bool true) ∧ Below W.heap.size W W') → ∃ v, e = .returned v ∧ Rows.ntpFormsSpec.post enc Tryd.prog Tryd.f8 false true false false W _ v W' := fun e W' ⟨he, hb⟩ =>
   ⟨_, he, law_post 4 rfl Tryd.underlying4 (by kernel_rfl) hW rfl rfl hb⟩
 have hK0 : layK Tryd.prog 16 106 = some (.cons (.int .u8) (.cons (.int .u8) (.cons (.int .u8) (.cons (.int .u8) (.cons (.int .i8) (.cons (.int .i8) (.cons (.int .u32) (.cons (.int .u32) (.cons (.int .u8) (.cons (.int .u8) (.cons (.int .u8) (.cons (.int .u8) (.cons (.int .u64) (.cons (.int .u64) (.cons (.int .u64) (.cons (.int .u64) .nil)))))))))))))))) := by kernel_rfl
 have hC0 : Tryd.prog.cellsOf 106 = 16 := by kernel_rfl
 obtain ⟨cs0, rfl, hsz0⟩ := okWide_struct Tryd.underlying106 (hval 0 106 v0 rfl rfl)
 rw [hC0] at hsz0
 obtain ⟨c0_0, c0_1, c0_2, c0_3, c0_4, c0_5, c0_6, c0_7, c0_8, c0_9, c0_10, c0_11, c0_12, c0_13, c0_14, c0_15, rfl⟩ := arr_of16 hsz0
 obtain ⟨fu0, hr0⟩ := h0
 replace hr0 : DataW.trod enc Tryd.prog W _ _ _ fu0 106 [c0_0, c0_1, c0_2, c0_3, c0_4, c0_5, c0_6, c0_7, c0_8, c0_9, c0_10, c0_11, c0_12, c0_13, c0_14, c0_15] = some (_, _) := hr0
 obtain ⟨ys0, hO0⟩ := lay_open _ _ _ hK0 _ _ _ hr0 (light_of hsz (j := 0) (t := 106) rfl rfl)
 obtain ⟨y0_0, y0_1, y0_2, y0_3, y0_4, y0_5, y0_6, y0_7, y0_8, y0_9, y0_10, y0_11, y0_12, y0_13, y0_14, y0_15, rfl⟩ := list_of16 hO0.ld
 obtain ⟨a0_0, e0_0, _, w0_0⟩ := cell_int (hO0.at_ 0 _ rfl)
 have hb0_0 := bounds_u8 w0_0
 obtain ⟨a0_1, e0_1, _, w0_1⟩ := cell_int (hO0.at_ 1 _ rfl)
 have hb0_1 := bounds_u8 w0_1
 obtain ⟨a0_2, e0_2, _, w0_2⟩ := cell_int (hO0.at_ 2 _ rfl)
 have hb0_2 := bounds_u8 w0_2
 obtain ⟨a0_3, e0_3, _, w0_3⟩ := cell_int (hO0.at_ 3 _ rfl)
 have hb0_3 := bounds_u8 w0_3
 obtain ⟨a0_4, e0_4, _, w0_4⟩ := cell_int (hO0.at_ 4 _ rfl)
 have hb0_4 := bounds_i8 w0_4
 obtain ⟨a0_5, e0_5, _, w0_5⟩ := cell_int (hO0.at_ 5 _ rfl)
 have hb0_5 := bounds_i8 w0_5
 obtain ⟨a0_6, e0_6, _, w0_6⟩ := cell_int (hO0.at_ 6 _ rfl)
 have hb0_6 := bounds_u32 w0_6
 obtain ⟨a0_7, e0_7, _, w0_7⟩ := cell_int (hO0.at_ 7 _ rfl)
 have hb0_7 := bounds_u32 w0_7
 obtain ⟨a0_8, e0_8, _, w0_8⟩ := cell_int (hO0.at_ 8 _ rfl)
 have hb0_8 := bounds_u8 w0_8
 obtain ⟨a0_9, e0_9, _, w0_9⟩ := cell_int (hO0.at_ 9 _ rfl)
 have hb0_9 := bounds_u8 w0_9
 obtain ⟨a0_10, e0_10, _, w0_10⟩ := cell_int (hO0.at_ 10 _ rfl)
 have hb0_10 := bounds_u8 w0_10
 obtain ⟨a0_11, e0_11, _, w0_11⟩ := cell_int (hO0.at_ 11 _ rfl)
 have hb0_11 := bounds_u8 w0_11
 obtain ⟨a0_12, e0_12, _, w0_12⟩ := cell_int (hO0.at_ 12 _ rfl)
 have hb0_12 := bounds_u64 w0_12
 obtain ⟨a0_13, e0_13, _, w0_13⟩ := cell_int (hO0.at_ 13 _ rfl)
 have hb0_13 := bounds_u64 w0_13
 obtain ⟨a0_14, e0_14, _, w0_14⟩ := cell_int (hO0.at_ 14 _ rfl)
 have hb0_14 := bounds_u64 w0_14
 obtain ⟨a0_15, e0_15, _, w0_15⟩ := cell_int (hO0.at_ 15 _ rfl)
 have hb0_15 := bounds_u64 w0_15
 have hK1 : layK Tryd.prog 16 52 = some (.cons (.sl (.cons (.int .u8) .nil)) .nil) := by kernel_rfl
 obtain ⟨o1, l1, c1, rfl⟩ := okWide_slice Tryd.underlying52 (hval 1 52 v1 rfl rfl)
 obtain ⟨fu1, hr1⟩ := h1
 replace hr1 : DataW.trod enc Tryd.prog W _ _ _ fu1 52 [.slice o1 l1 c1] = some (_, _) := hr1
 obtain ⟨ys1, hO1⟩ := lay_open _ _ _ hK1 _ _ _ hr1 (light_of hsz (j := 1) (t := 52) rfl rfl)
 obtain ⟨y1_0, rfl⟩ := list_of1 hO1.ld
 obtain ⟨hd1, hf1⟩ := hO1.at_ 0 _ rfl
 have ht1 := (deep_typ _).1 _ _ hd1
 obtain ⟨a2, rfl, rfl, rfl, w2⟩ := open_int Tryd.underlying2 (hval 2 2 v2 rfl rfl) h2
 have hb2 := bounds_i64 w2
 exact (good_run nwg_wForms rfl rfl [a0_0, a0_1, a0_2, a0_3, a0_4, a0_5, a0_6, a0_7, a0_8, a0_9, a0_10, a0_11, a0_12, a0_13, a0_14, a0_15, a2] [] [y1_0] [] W [.agg #[c0_0, c0_1, c0_2, c0_3, c0_4, c0_5, c0_6, c0_7, c0_8, c0_9, c0_10, c0_11, c0_12, c0_13, c0_14, c0_15], .slice o1 l1 c1, .int .i64 a2] rfl rfl rfl rfl (by exact ⟨⟨hb0_0, hb0_1, hb0_2, hb0_3, hb0_6, hb0_7, hb0_12, hb0_13, hb0_14, hb0_15⟩, hb2, okR_iff.2 (fine_one ht1 hf1)⟩)
   (fun x hx => by
     obtain rfl := List.mem_singleton.1 hx
     exact ⟨trivial, handle_lt hg, hg⟩)
   ⟨⟨[c0_0, c0_1, c0_2, c0_3, c0_4, c0_5, c0_6, c0_7, c0_8, c0_9, c0_10, c0_11, c0_12, c0_13, c0_14, c0_15], rfl, e0_0, e0_1, e0_2, e0_3, e0_4, e0_5, e0_6, e0_7, e0_8, e0_9, e0_10, e0_11, e0_12, e0_13, e0_14, e0_15, rfl⟩, ⟨hd1, fun _ _ h => by cases h⟩, rfl, trivial⟩).mono fin

theorem and_lim {a b : Bool} (ha : a = true) (hb : b = true) : (a && b) = true := by rw [ha, hb]; rfl
set_option maxHeartbeats 8000000 in
theorem jf : joinedFacts Tryd.pinned.checked.prog 8 Tryd.f8 Rows.ntpFormsSpec Rows.ntpFormsRow = true := by
 delta joinedFacts
 repeat' (with_reducible refine and_lim ?_ ?_)
 all_goals as_aux_lemma => kernel_rfl
theorem nf : Tryd.pinned.checked.prog.funcNamed Rows.ntpFormsRow.func = some 8 := by kernel_rfl
theorem ins : Tryd.f8.isInstance Tryd.pinned.checked.prog Rows.ntpFormsRow.origin Rows.ntpFormsRow.targs := of_decide_eq_true (by kernel_rfl)
theorem wrp : Tryd.f8.isWrapper Tryd.pinned.checked.prog Rows.ntpFormsRow.wrapper Rows.ntpFormsRow.mainSum := by unfold Func.isWrapper; rw [if_neg (of_decide_eq_false (by kernel_rfl))]; exact ⟨rfl, rfl⟩

theorem row_holds : Rows.NtpFormsSaid :=
 OpenClaim.holds_of_wide 8 Tryd.f8 rfl rfl rfl rfl rfl rfl rfl ⟨rfl, rfl, rfl, rfl, rfl⟩ rfl rfl rfl rfl rfl nf Tryd.func8 jf ins wrp
   (fun os started H enc _ => lifted os started H enc)

theorem card_holds : Rows.NtpFormsCardSaid :=
 Claim7.holds_tied_plain_at .later [] [.handle] true Rows.ntpFormsCard.stood.harness true
   row_holds (fun _ h => by cases h) (by as_aux_lemma => kernel_rfl) (fun _ h => by cases h) ntpForms_row_tie rfl ⟨rfl, rfl⟩ (by as_aux_lemma => kernel_rfl) rfl
   (fun f fn hf hfn => by
     obtain rfl : f = 8 := Option.some.inj ((show Tryd.prog.funcNamed "fusee/fuseelaw41.NtpForms" = some 8 by kernel_rfl).symm.trans hf) |>.symm
     obtain rfl : fn = Tryd.f8 := (Option.some.inj (Tryd.func8.symm.trans hfn)).symm
     exact ⟨by as_aux_lemma => kernel_rfl, fun j t ht => by
       rw [Tryd.params8] at ht
       have hall : ∀ x ∈ Tryd.f8.params.toList, Tryd.prog.wantsStandIn x = false := by rw [Tryd.params8]; intro x hx; simp only [List.mem_cons, List.not_mem_nil, or_false] at hx; first | (rcases hx with rfl | rfl | rfl | rfl | rfl | rfl <;> kernel_rfl) | (rcases hx with rfl | rfl | rfl | rfl | rfl <;> kernel_rfl) | (rcases hx with rfl | rfl | rfl | rfl <;> kernel_rfl) | (rcases hx with rfl | rfl | rfl <;> kernel_rfl) | (rcases hx with rfl | rfl <;> kernel_rfl) | (obtain rfl := hx; kernel_rfl)
       refine hall t ?_
       rw [Tryd.params8]
       exact Array.mem_toList_iff.2 (Array.mem_of_getElem? ht)⟩)
   (by as_aux_lemma => kernel_rfl)
#print axioms card_holds
end Go.Proofs.YtgondiedehjkhaaDoor.ntpForms
