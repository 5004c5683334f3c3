/-
 The statement fuseelaw41.NtpHolds, closed: the row from its walk, the card from the row and the given tie.
-/
import Derived.Test.YtjcgmdgkdkfdpaaDoorNuqnh
import Derived.Test.YtjcgmdgkdkfdpaaDoorFrameqnh
import Derived.Test.YtjcgmdgkdkfdpaaDoorTie
import Derived.Test.YtjcgmdgkdkfdpaaDoorCards
import Derived.Test.YtjcgmdgkdkfdpaaDoorOpnqnh
import Derived.SevenTiedAt
namespace Go.Proofs.YtjcgmdgkdkfdpaaDoor.ntpHolds
open Go.ChangeShapes Go.WideShapes Go.RowKit Go.Proofs.YtjcgmdgkdkfdpaaDoor.Sy
set_option linter.unusedVariables false

theorem arr_of1 {xs : Array Value} (h : xs.size = 1) : ∃ c0, xs = #[c0] := by
 obtain ⟨l⟩ := xs
 match l, h with
 | [c0], _ => exact ⟨c0, rfl⟩
theorem list_of1 {α : Type} {xs : List α} (h : xs.length = 1) : ∃ c0, xs = [c0] := by
 match xs, h with
 | [c0], _ => exact ⟨c0, rfl⟩
theorem arr_of4 {xs : Array Value} (h : xs.size = 4) : ∃ c0 c1 c2 c3, xs = #[c0, c1, c2, c3] := by
 obtain ⟨l⟩ := xs
 match l, h with
 | [c0, c1, c2, c3], _ => exact ⟨c0, c1, c2, c3, rfl⟩
theorem list_of4 {α : Type} {xs : List α} (h : xs.length = 4) : ∃ c0 c1 c2 c3, xs = [c0, c1, c2, c3] := by
 match xs, h with
 | [c0, c1, c2, c3], _ => exact ⟨c0, c1, c2, c3, rfl⟩
theorem okWide_arr {P : Program} {w : World} {r : Reach} {base : Nat} {t e : TypeId} {n : Nat} {v : Value} (ht : P.underlying t = some (.array n e)) (h : Value.okWide P w r base t v) : ∃ cs, v = .agg cs ∧ cs.size = P.cellsOf t := by
 simp only [Value.okWide, ht] at h
 obtain ⟨cs, h1, h2, _⟩ := h
 exact ⟨cs, h1, h2⟩
set_option linter.unusedSimpArgs false
set_option maxRecDepth 100000 in
theorem lifted (os : Os) (started : os.Started) (H : Type) (enc : TypeId × Value → H) :
   ReturnsInHanded {} Tryd.checked os 13 .any (fun w args => (Rows.ntpHoldsSpec.pre enc Tryd.prog Tryd.f13 [] false w args ∧ laidMetH Tryd.prog Rows.ntpHoldsRow.laid w) ∧ sizedMet enc Tryd.prog Tryd.f13 (OpenSpec.ofChange Rows.ntpHoldsSpec) false w args)
     (Rows.ntpHoldsSpec.post enc Tryd.prog Tryd.f13 false true false false) := by
 refine returnsInHanded_of_change_and (C := Tryd.checked) (X := fun w _ => laidMetH Tryd.prog Rows.ntpHoldsRow.laid w) (fun _ _ _ hh h => h.of_heap hh) Tryd.own started (by kernel_rfl) Tryd.func13
   (ChangeSpec.witness_at (enc := enc) (C := Tryd.checked) (os := os) (X := fun w _ => laidMetH Tryd.prog Rows.ntpHoldsRow.laid w) false (laidWorld os) #[.int .i64 0, .int .i64 0, .agg #[.int .u32 0, .int .u32 0, .int .u32 0, .int .u32 0]] 8 rfl (by kernel_rfl) (by kernel_rfl) (by kernel_rfl) (by kernel_rfl) (by kernel_rfl) (laidWorld_met os _)) ?_
 intro W base args ds gs before hval0 hW _ hsz hL _
 have hval : ∀ (j : Nat) t v, Tryd.f13.params[j]? = some t → args[j]? = some v → Value.okWide Tryd.prog W .any base t v := hval0
 have hW0 := hW
 obtain ⟨p, q, hA0, hV, rfl, hfz, hnd⟩ := hW0
 have hA : DataW.TrodAll enc Tryd.prog W 0 (fun _ => true) true Tryd.f13.params.toList args.toList ds p := hA0
 rw [Tryd.params13] at hA hval hsz
 obtain ⟨v0, vs0, d0, ds0, p0, q0, hargs, rfl, rfl, h0, r0⟩ := trodAll_cons hA
 obtain ⟨v1, vs1, d1, ds1, p1, q1, rfl, rfl, rfl, h1, r1⟩ := trodAll_cons r0
 obtain ⟨v2, vs2, d2, ds2, p2, q2, rfl, rfl, rfl, h2, r2⟩ := trodAll_cons r1
 obtain ⟨rfl, rfl, rfl⟩ := trodAll_nil r2
 obtain rfl : args = #[v0, v1, v2] := by cases args; simp_all
 have hg := handle_of_laid hL
 have fin : ∀ (e : Ending) (W' : World), (e = .returned (.bool true) ∧ Below W.heap.size W W') → ∃ v, e = .returned v ∧ Rows.ntpHoldsSpec.post enc Tryd.prog Tryd.f13 false true false false W _ v W' := fun e W' ⟨he, hb⟩ =>
   ⟨_, he, law_post 4 rfl Tryd.underlying4 (by kernel_rfl) hW rfl rfl hb⟩
 obtain ⟨a0, rfl, rfl, rfl, w0⟩ := open_int Tryd.underlying2 (hval 0 2 v0 rfl rfl) h0
 have hb0 := bounds_i64 w0
 obtain ⟨a1, rfl, rfl, rfl, w1⟩ := open_int Tryd.underlying2 (hval 1 2 v1 rfl rfl) h1
 have hb1 := bounds_i64 w1
 have hK2 : layK Tryd.prog 16 175 = some (.cons (.int .u32) (.cons (.int .u32) (.cons (.int .u32) (.cons (.int .u32) .nil)))) := by kernel_rfl
 have hC2 : Tryd.prog.cellsOf 175 = 4 := by kernel_rfl
 obtain ⟨cs2, rfl, hsz2⟩ := okWide_arr Tryd.underlying175 (hval 2 175 v2 rfl rfl)
 rw [hC2] at hsz2
 obtain ⟨c2_0, c2_1, c2_2, c2_3, rfl⟩ := arr_of4 hsz2
 obtain ⟨fu2, hr2⟩ := h2
 replace hr2 : DataW.trod enc Tryd.prog W _ _ _ fu2 175 [c2_0, c2_1, c2_2, c2_3] = some (_, _) := hr2
 obtain ⟨ys2, hO2⟩ := lay_open _ _ _ hK2 _ _ _ hr2 (light_of hsz (j := 2) (t := 175) rfl rfl)
 obtain ⟨y2_0, y2_1, y2_2, y2_3, rfl⟩ := list_of4 hO2.ld
 obtain ⟨a2_0, e2_0, _, w2_0⟩ := cell_int (hO2.at_ 0 _ rfl)
 have hb2_0 := bounds_u32 w2_0
 obtain ⟨a2_1, e2_1, _, w2_1⟩ := cell_int (hO2.at_ 1 _ rfl)
 have hb2_1 := bounds_u32 w2_1
 obtain ⟨a2_2, e2_2, _, w2_2⟩ := cell_int (hO2.at_ 2 _ rfl)
 have hb2_2 := bounds_u32 w2_2
 obtain ⟨a2_3, e2_3, _, w2_3⟩ := cell_int (hO2.at_ 3 _ rfl)
 have hb2_3 := bounds_u32 w2_3
 exact (good_run nug_wHolds rfl rfl [a0, a1, a2_0, a2_1, a2_2, a2_3] [] [] [] W [.int .i64 a0, .int .i64 a1, .agg #[c2_0, c2_1, c2_2, c2_3]] rfl rfl rfl rfl (by exact ⟨hb0, hb1, hb2_0, hb2_1, hb2_2, hb2_3⟩)
   (fun x hx => by
     obtain rfl := List.mem_singleton.1 hx
     exact ⟨trivial, handle_lt hg, hg⟩)
   ⟨rfl, rfl, ⟨[c2_0, c2_1, c2_2, c2_3], rfl, e2_0, e2_1, e2_2, e2_3, rfl⟩, trivial⟩).mono fin

theorem and_lim {a b : Bool} (ha : a = true) (hb : b = true) : (a && b) = true := by rw [ha, hb]; rfl
set_option maxHeartbeats 8000000 in
theorem jf : joinedFacts Tryd.pinned.checked.prog 13 Tryd.f13 Rows.ntpHoldsSpec Rows.ntpHoldsRow = true := by
 delta joinedFacts
 repeat' (with_reducible refine and_lim ?_ ?_)
 all_goals as_aux_lemma => kernel_rfl
theorem nf : Tryd.pinned.checked.prog.funcNamed Rows.ntpHoldsRow.func = some 13 := by kernel_rfl
theorem ins : Tryd.f13.isInstance Tryd.pinned.checked.prog Rows.ntpHoldsRow.origin Rows.ntpHoldsRow.targs := of_decide_eq_true (by kernel_rfl)
theorem wrp : Tryd.f13.isWrapper Tryd.pinned.checked.prog Rows.ntpHoldsRow.wrapper Rows.ntpHoldsRow.mainSum := by unfold Func.isWrapper; rw [if_neg (of_decide_eq_false (by kernel_rfl))]; exact ⟨rfl, rfl⟩

theorem row_holds : Rows.NtpHoldsSaid :=
 OpenClaim.holds_of_wide 13 Tryd.f13 rfl rfl rfl rfl rfl rfl rfl ⟨rfl, rfl, rfl, rfl, rfl⟩ rfl rfl rfl rfl rfl nf Tryd.func13 jf ins wrp
   (fun os started H enc _ => lifted os started H enc)

theorem card_holds : Rows.NtpHoldsCardSaid :=
 Claim7.holds_tied_plain_at .later [] [.handle] true Rows.ntpHoldsCard.stood.harness true
   row_holds (fun _ h => by cases h) (by as_aux_lemma => kernel_rfl) (fun _ h => by cases h) ntpHolds_row_tie rfl ⟨rfl, rfl⟩ (by as_aux_lemma => kernel_rfl) rfl
   (fun f fn hf hfn => by
     obtain rfl : f = 13 := Option.some.inj ((show Tryd.prog.funcNamed "fusee/fuseelaw41.NtpHolds" = some 13 by kernel_rfl).symm.trans hf) |>.symm
     obtain rfl : fn = Tryd.f13 := (Option.some.inj (Tryd.func13.symm.trans hfn)).symm
     exact ⟨by as_aux_lemma => kernel_rfl, fun j t ht => by
       rw [Tryd.params13] at ht
       have hall : ∀ x ∈ Tryd.f13.params.toList, Tryd.prog.wantsStandIn x = false := by rw [Tryd.params13]; intro x hx; simp only [List.mem_cons, List.not_mem_nil, or_false] at hx; first | (rcases hx with rfl | rfl | rfl | rfl | rfl | rfl <;> kernel_rfl) | (rcases hx with rfl | rfl | rfl | rfl | rfl <;> kernel_rfl) | (rcases hx with rfl | rfl | rfl | rfl <;> kernel_rfl) | (rcases hx with rfl | rfl | rfl <;> kernel_rfl) | (rcases hx with rfl | rfl <;> kernel_rfl) | (obtain rfl := hx; kernel_rfl)
       refine hall t ?_
       rw [Tryd.params13]
       exact Array.mem_toList_iff.2 (Array.mem_of_getElem? ht)⟩)
   (by as_aux_lemma => kernel_rfl)
#print axioms card_holds
end Go.Proofs.YtjcgmdgkdkfdpaaDoor.ntpHolds
