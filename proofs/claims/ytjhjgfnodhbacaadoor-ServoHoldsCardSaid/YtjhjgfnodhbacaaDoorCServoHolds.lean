/-
  The statement fuseelaw16.ServoHolds, closed: the row from its walk, the card from the row and the given tie.
-/
import Derived.Test.YtjhjgfnodhbacaaDoorYqhs
import Derived.Test.YtjhjgfnodhbacaaDoorFramehs
import Derived.Test.YtjhjgfnodhbacaaDoorTie
import Derived.Test.YtjhjgfnodhbacaaDoorCards
import Derived.Test.YtjhjgfnodhbacaaDoorOpnhs
import Derived.SevenTiedAt
namespace Go.Proofs.YtjhjgfnodhbacaaDoor.servoHolds
open Go.ChangeShapes Go.WideShapes Go.RowKit Go.Proofs.YtjhjgfnodhbacaaDoor.Sy
set_option linter.unusedVariables false

theorem arr_of1 {xs : Array Value} (h : xs.size = 1) : ∃ c0, xs = #[c0] := by
  obtain ⟨l⟩ := xs
  match l, h with
  | [c0], _ => exact ⟨c0, rfl⟩
theorem list_of1 {α : Type} {xs : List α} (h : xs.length = 1) : ∃ c0, xs = [c0] := by
  match xs, h with
  | [c0], _ => exact ⟨c0, rfl⟩
theorem arr_of2 {xs : Array Value} (h : xs.size = 2) : ∃ c0 c1, xs = #[c0, c1] := by
  obtain ⟨l⟩ := xs
  match l, h with
  | [c0, c1], _ => exact ⟨c0, c1, rfl⟩
theorem list_of2 {α : Type} {xs : List α} (h : xs.length = 2) : ∃ c0 c1, xs = [c0, c1] := by
  match xs, h with
  | [c0, c1], _ => exact ⟨c0, c1, rfl⟩
theorem okWide_arr {P : Program} {w : World} {r : Reach} {base : Nat} {t e : TypeId} {n : Nat} {v : Value} (ht : P.underlying t = some (.array n e)) (h : Value.okWide P w r base t v) : ∃ cs, v = .agg cs ∧ cs.size = P.cellsOf t := by
  simp only [Value.okWide, ht] at h
  obtain ⟨cs, h1, h2, _⟩ := h
  exact ⟨cs, h1, h2⟩
set_option linter.unusedSimpArgs false
set_option maxRecDepth 100000 in
theorem lifted (os : Os) (started : os.Started) (H : Type) (enc : TypeId × Value → H) :
    ReturnsInHanded {} Tryd.checked os 7 .any (fun w args => (Rows.servoHoldsSpec.pre enc Tryd.prog Tryd.f7 [] false w args ∧ laidMetH Tryd.prog Rows.servoHoldsRow.laid w) ∧ sizedMet enc Tryd.prog Tryd.f7 (OpenSpec.ofChange Rows.servoHoldsSpec) false w args)
      (Rows.servoHoldsSpec.post enc Tryd.prog Tryd.f7 false true false false) := by
  refine returnsInHanded_of_change_and (C := Tryd.checked) (X := fun w _ => laidMetH Tryd.prog Rows.servoHoldsRow.laid w) (fun _ _ _ hh h => h.of_heap hh) Tryd.own started (by kernel_rfl) Tryd.func7
    (ChangeSpec.witness_at (enc := enc) (C := Tryd.checked) (os := os) (X := fun w _ => laidMetH Tryd.prog Rows.servoHoldsRow.laid w) false (laidWorld os) #[.agg #[.int .i64 0, .int .i64 0], .int .i64 0, .slice none 0 0] 8 rfl (by kernel_rfl) (by kernel_rfl) (by kernel_rfl) (by kernel_rfl) (by kernel_rfl) (laidWorld_met os _)) ?_
  intro W base args ds gs before hval0 hW _ hsz hL _
  have hval : ∀ (j : Nat) t v, Tryd.f7.params[j]? = some t → args[j]? = some v → Value.okWide Tryd.prog W .any base t v := hval0
  have hW0 := hW
  obtain ⟨p, q, hA0, hV, rfl, hfz, hnd⟩ := hW0
  have hA : DataW.TrodAll enc Tryd.prog W 0 (fun _ => true) true Tryd.f7.params.toList args.toList ds p := hA0
  rw [Tryd.params7] at hA hval hsz
  obtain ⟨v0, vs0, d0, ds0, p0, q0, hargs, rfl, rfl, h0, r0⟩ := trodAll_cons hA
  obtain ⟨v1, vs1, d1, ds1, p1, q1, rfl, rfl, rfl, h1, r1⟩ := trodAll_cons r0
  obtain ⟨v2, vs2, d2, ds2, p2, q2, rfl, rfl, rfl, h2, r2⟩ := trodAll_cons r1
  obtain ⟨rfl, rfl, rfl⟩ := trodAll_nil r2
  obtain rfl : args = #[v0, v1, v2] := by cases args; simp_all
  have hg := handle_of_laid hL
  have fin : ∀ (e : Ending) (W' : World), (e = .returned (.bool true) ∧ Below W.heap.size W W') → ∃ v, e = .returned v ∧ Rows.servoHoldsSpec.post enc Tryd.prog Tryd.f7 false true false false W _ v W' := fun e W' ⟨he, hb⟩ =>
    ⟨_, he, law_post 4 rfl Tryd.underlying4 (by kernel_rfl) hW rfl rfl hb⟩
  have hK0 : layK Tryd.prog 16 67 = some (.cons (.int .i64) (.cons (.int .i64) .nil)) := by kernel_rfl
  have hC0 : Tryd.prog.cellsOf 67 = 2 := by kernel_rfl
  obtain ⟨cs0, rfl, hsz0⟩ := okWide_struct Tryd.underlying67 (hval 0 67 v0 rfl rfl)
  rw [hC0] at hsz0
  obtain ⟨c0_0, c0_1, rfl⟩ := arr_of2 hsz0
  obtain ⟨fu0, hr0⟩ := h0
  replace hr0 : DataW.trod enc Tryd.prog W _ _ _ fu0 67 [c0_0, c0_1] = some (_, _) := hr0
  obtain ⟨ys0, hO0⟩ := lay_open _ _ _ hK0 _ _ _ hr0 (light_of hsz (j := 0) (t := 67) rfl rfl)
  obtain ⟨y0_0, y0_1, rfl⟩ := list_of2 hO0.ld
  obtain ⟨a0_0, e0_0, _, w0_0⟩ := cell_int (hO0.at_ 0 _ rfl)
  have hb0_0 := bounds_i64 w0_0
  obtain ⟨a0_1, e0_1, _, w0_1⟩ := cell_int (hO0.at_ 1 _ rfl)
  have hb0_1 := bounds_i64 w0_1
  obtain ⟨a1, rfl, rfl, rfl, w1⟩ := open_int Tryd.underlying2 (hval 1 2 v1 rfl rfl) h1
  have hb1 := bounds_i64 w1
  have hK2 : layK Tryd.prog 16 87 = some (.cons (.sl (.cons (.int .i16) .nil)) .nil) := by kernel_rfl
  obtain ⟨o2, l2, c2, rfl⟩ := okWide_slice Tryd.underlying87 (hval 2 87 v2 rfl rfl)
  obtain ⟨fu2, hr2⟩ := h2
  replace hr2 : DataW.trod enc Tryd.prog W _ _ _ fu2 87 [.slice o2 l2 c2] = some (_, _) := hr2
  obtain ⟨ys2, hO2⟩ := lay_open _ _ _ hK2 _ _ _ hr2 (light_of hsz (j := 2) (t := 87) rfl rfl)
  obtain ⟨y2_0, rfl⟩ := list_of1 hO2.ld
  obtain ⟨hd2, hf2⟩ := hO2.at_ 0 _ rfl
  have ht2 := (deep_typ _).1 _ _ hd2
  exact (good_run yqg_wHolds16 rfl rfl [a0_0, a0_1, a1] [] [y2_0] [] W [.agg #[c0_0, c0_1], .int .i64 a1, .slice o2 l2 c2] rfl rfl rfl rfl (by exact ⟨hb0_0, hb0_1, hb1, okR_iff.2 (fine_one ht2 hf2)⟩)
    (fun x hx => by
      obtain rfl := List.mem_singleton.1 hx
      exact ⟨trivial, handle_lt hg, hg⟩)
    ⟨⟨[c0_0, c0_1], rfl, e0_0, e0_1, rfl⟩, rfl, ⟨hd2, fun _ _ h => by cases h⟩, trivial⟩).mono fin

theorem and_lim {a b : Bool} (ha : a = true) (hb : b = true) : (a && b) = true := by rw [ha, hb]; rfl
set_option maxHeartbeats 8000000 in
theorem jf : joinedFacts Tryd.pinned.checked.prog 7 Tryd.f7 Rows.servoHoldsSpec Rows.servoHoldsRow = true := by
  delta joinedFacts
  repeat' (with_reducible refine and_lim ?_ ?_)
  all_goals as_aux_lemma => kernel_rfl
theorem nf : Tryd.pinned.checked.prog.funcNamed Rows.servoHoldsRow.func = some 7 := by kernel_rfl
theorem ins : Tryd.f7.isInstance Tryd.pinned.checked.prog Rows.servoHoldsRow.origin Rows.servoHoldsRow.targs := of_decide_eq_true (by kernel_rfl)
theorem wrp : Tryd.f7.isWrapper Tryd.pinned.checked.prog Rows.servoHoldsRow.wrapper Rows.servoHoldsRow.mainSum := by unfold Func.isWrapper; rw [if_neg (of_decide_eq_false (by kernel_rfl))]; exact ⟨rfl, rfl⟩

theorem row_holds : Rows.ServoHoldsSaid :=
  OpenClaim.holds_of_wide 7 Tryd.f7 rfl rfl rfl rfl rfl rfl rfl ⟨rfl, rfl, rfl, rfl, rfl⟩ rfl rfl rfl rfl rfl nf Tryd.func7 jf ins wrp
    (fun os started H enc _ => lifted os started H enc)

theorem card_holds : Rows.ServoHoldsCardSaid :=
  Claim7.holds_tied_plain_at .later [] [.handle] true Rows.servoHoldsCard.stood.harness true
    row_holds (fun _ h => by cases h) (by as_aux_lemma => kernel_rfl) (fun _ h => by cases h) servoHolds_row_tie rfl ⟨rfl, rfl⟩ (by as_aux_lemma => kernel_rfl) rfl
    (fun f fn hf hfn => by
      obtain rfl : f = 7 := Option.some.inj ((show Tryd.prog.funcNamed "fusee/fuseelaw16.ServoHolds" = some 7 by kernel_rfl).symm.trans hf) |>.symm
      obtain rfl : fn = Tryd.f7 := (Option.some.inj (Tryd.func7.symm.trans hfn)).symm
      exact ⟨by as_aux_lemma => kernel_rfl, fun j t ht => by
        rw [Tryd.params7] at ht
        have hall : ∀ x ∈ Tryd.f7.params.toList, Tryd.prog.wantsStandIn x = false := by rw [Tryd.params7]; intro x hx; simp only [List.mem_cons, List.not_mem_nil, or_false] at hx; first | (rcases hx with rfl | rfl | rfl | rfl | rfl | rfl <;> kernel_rfl) | (rcases hx with rfl | rfl | rfl | rfl | rfl <;> kernel_rfl) | (rcases hx with rfl | rfl | rfl | rfl <;> kernel_rfl) | (rcases hx with rfl | rfl | rfl <;> kernel_rfl) | (rcases hx with rfl | rfl <;> kernel_rfl) | (obtain rfl := hx; kernel_rfl)
        refine hall t ?_
        rw [Tryd.params7]
        exact Array.mem_toList_iff.2 (Array.mem_of_getElem? ht)⟩)
    (by as_aux_lemma => kernel_rfl)
#print axioms card_holds
end Go.Proofs.YtjhjgfnodhbacaaDoor.servoHolds
