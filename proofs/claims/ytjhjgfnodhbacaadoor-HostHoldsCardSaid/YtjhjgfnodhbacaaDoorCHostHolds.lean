/-
  The statement fuseelaw18.HostHolds, closed: the row from its walk, the card from the row and the given tie.
-/
import Derived.Test.YtjhjgfnodhbacaaDoorYmhb
import Derived.Test.YtjhjgfnodhbacaaDoorFramehb
import Derived.Test.YtjhjgfnodhbacaaDoorTie
import Derived.Test.YtjhjgfnodhbacaaDoorCards
import Derived.Test.YtjhjgfnodhbacaaDoorOpnhb
import Derived.SevenTiedAt
namespace Go.Proofs.YtjhjgfnodhbacaaDoor.hostHolds
open Go.ChangeShapes Go.WideShapes Go.RowKit Go.Proofs.YtjhjgfnodhbacaaDoor.Sy
set_option linter.unusedVariables false

theorem arr_of1 {xs : Array Value} (h : xs.size = 1) : ∃ c0, xs = #[c0] := by
  obtain ⟨l⟩ := xs
  match l, h with
  | [c0], _ => exact ⟨c0, rfl⟩
theorem list_of1 {α : Type} {xs : List α} (h : xs.length = 1) : ∃ c0, xs = [c0] := by
  match xs, h with
  | [c0], _ => exact ⟨c0, rfl⟩
theorem arr_of3 {xs : Array Value} (h : xs.size = 3) : ∃ c0 c1 c2, xs = #[c0, c1, c2] := by
  obtain ⟨l⟩ := xs
  match l, h with
  | [c0, c1, c2], _ => exact ⟨c0, c1, c2, rfl⟩
theorem list_of3 {α : Type} {xs : List α} (h : xs.length = 3) : ∃ c0 c1 c2, xs = [c0, c1, c2] := by
  match xs, h with
  | [c0, c1, c2], _ => exact ⟨c0, c1, c2, rfl⟩
theorem okWide_arr {P : Program} {w : World} {r : Reach} {base : Nat} {t e : TypeId} {n : Nat} {v : Value} (ht : P.underlying t = some (.array n e)) (h : Value.okWide P w r base t v) : ∃ cs, v = .agg cs ∧ cs.size = P.cellsOf t := by
  simp only [Value.okWide, ht] at h
  obtain ⟨cs, h1, h2, _⟩ := h
  exact ⟨cs, h1, h2⟩
set_option linter.unusedSimpArgs false
set_option maxRecDepth 100000 in
theorem lifted (os : Os) (started : os.Started) (H : Type) (enc : TypeId × Value → H) :
    ReturnsInHanded {} Tryd.checked os 9 .any (fun w args => (Rows.hostHoldsSpec.pre enc Tryd.prog Tryd.f9 [] false w args ∧ laidMetH Tryd.prog Rows.hostHoldsRow.laid w) ∧ sizedMet enc Tryd.prog Tryd.f9 (OpenSpec.ofChange Rows.hostHoldsSpec) false w args)
      (Rows.hostHoldsSpec.post enc Tryd.prog Tryd.f9 false true false false) := by
  refine returnsInHanded_of_change_and (C := Tryd.checked) (X := fun w _ => laidMetH Tryd.prog Rows.hostHoldsRow.laid w) (fun _ _ _ hh h => h.of_heap hh) Tryd.own started (by kernel_rfl) Tryd.func9
    (ChangeSpec.witness_at (enc := enc) (C := Tryd.checked) (os := os) (X := fun w _ => laidMetH Tryd.prog Rows.hostHoldsRow.laid w) false (laidWorld os) #[.int .i64 0, .agg #[.int .i16 0, .int .i16 0, .int .i16 0], .slice none 0 0] 8 rfl (by kernel_rfl) (by kernel_rfl) (by kernel_rfl) (by kernel_rfl) (by kernel_rfl) (laidWorld_met os _)) ?_
  intro W base args ds gs before hval0 hW _ hsz hL _
  have hval : ∀ (j : Nat) t v, Tryd.f9.params[j]? = some t → args[j]? = some v → Value.okWide Tryd.prog W .any base t v := hval0
  have hW0 := hW
  obtain ⟨p, q, hA0, hV, rfl, hfz, hnd⟩ := hW0
  have hA : DataW.TrodAll enc Tryd.prog W 0 (fun _ => true) true Tryd.f9.params.toList args.toList ds p := hA0
  rw [Tryd.params9] at hA hval hsz
  obtain ⟨v0, vs0, d0, ds0, p0, q0, hargs, rfl, rfl, h0, r0⟩ := trodAll_cons hA
  obtain ⟨v1, vs1, d1, ds1, p1, q1, rfl, rfl, rfl, h1, r1⟩ := trodAll_cons r0
  obtain ⟨v2, vs2, d2, ds2, p2, q2, rfl, rfl, rfl, h2, r2⟩ := trodAll_cons r1
  obtain ⟨rfl, rfl, rfl⟩ := trodAll_nil r2
  obtain rfl : args = #[v0, v1, v2] := by cases args; simp_all
  have hg := handle_of_laid hL
  have fin : ∀ (e : Ending) (W' : World), (e = .returned (.bool true) ∧ Below W.heap.size W W') → ∃ v, e = .returned v ∧ Rows.hostHoldsSpec.post enc Tryd.prog Tryd.f9 false true false false W _ v W' := fun e W' ⟨he, hb⟩ =>
    ⟨_, he, law_post 4 rfl Tryd.underlying4 (by kernel_rfl) hW rfl rfl hb⟩
  obtain ⟨a0, rfl, rfl, rfl, w0⟩ := open_int Tryd.underlying2 (hval 0 2 v0 rfl rfl) h0
  have hb0 := bounds_i64 w0
  have hK1 : layK Tryd.prog 16 92 = some (.cons (.int .i16) (.cons (.int .i16) (.cons (.int .i16) .nil))) := by kernel_rfl
  have hC1 : Tryd.prog.cellsOf 92 = 3 := by kernel_rfl
  obtain ⟨cs1, rfl, hsz1⟩ := okWide_arr Tryd.underlying92 (hval 1 92 v1 rfl rfl)
  rw [hC1] at hsz1
  obtain ⟨c1_0, c1_1, c1_2, rfl⟩ := arr_of3 hsz1
  obtain ⟨fu1, hr1⟩ := h1
  replace hr1 : DataW.trod enc Tryd.prog W _ _ _ fu1 92 [c1_0, c1_1, c1_2] = some (_, _) := hr1
  obtain ⟨ys1, hO1⟩ := lay_open _ _ _ hK1 _ _ _ hr1 (light_of hsz (j := 1) (t := 92) rfl rfl)
  obtain ⟨y1_0, y1_1, y1_2, rfl⟩ := list_of3 hO1.ld
  obtain ⟨a1_0, e1_0, _, w1_0⟩ := cell_int (hO1.at_ 0 _ rfl)
  have hb1_0 := bounds_i16 w1_0
  obtain ⟨a1_1, e1_1, _, w1_1⟩ := cell_int (hO1.at_ 1 _ rfl)
  have hb1_1 := bounds_i16 w1_1
  obtain ⟨a1_2, e1_2, _, w1_2⟩ := cell_int (hO1.at_ 2 _ rfl)
  have hb1_2 := bounds_i16 w1_2
  have hK2 : layK Tryd.prog 16 93 = some (.cons (.sl (.cons (.int .u32) (.cons (.int .i16) (.cons .bool (.cons (.int .u16) (.cons (.int .u16) .nil)))))) .nil) := by kernel_rfl
  obtain ⟨o2, l2, c2, rfl⟩ := okWide_slice Tryd.underlying93 (hval 2 93 v2 rfl rfl)
  obtain ⟨fu2, hr2⟩ := h2
  replace hr2 : DataW.trod enc Tryd.prog W _ _ _ fu2 93 [.slice o2 l2 c2] = some (_, _) := hr2
  obtain ⟨ys2, hO2⟩ := lay_open _ _ _ hK2 _ _ _ hr2 (light_of hsz (j := 2) (t := 93) rfl rfl)
  obtain ⟨y2_0, rfl⟩ := list_of1 hO2.ld
  obtain ⟨hd2, hf2⟩ := hO2.at_ 0 _ rfl
  have ht2 := (deep_typ _).1 _ _ hd2
  exact (good_run ymg_wHolds rfl rfl [a0, a1_0, a1_1, a1_2] [] [y2_0] [] W [.int .i64 a0, .agg #[c1_0, c1_1, c1_2], .slice o2 l2 c2] rfl rfl rfl rfl (by exact ⟨hb0, okR_iff.2 (fine_all rfl (by decide) ht2 hf2)⟩)
    (fun x hx => by
      obtain rfl := List.mem_singleton.1 hx
      exact ⟨trivial, handle_lt hg, hg⟩)
    ⟨rfl, ⟨[c1_0, c1_1, c1_2], rfl, e1_0, e1_1, e1_2, rfl⟩, ⟨hd2, fun _ _ h => by cases h⟩, trivial⟩).mono fin

theorem and_lim {a b : Bool} (ha : a = true) (hb : b = true) : (a && b) = true := by rw [ha, hb]; rfl
set_option maxHeartbeats 8000000 in
theorem jf : joinedFacts Tryd.pinned.checked.prog 9 Tryd.f9 Rows.hostHoldsSpec Rows.hostHoldsRow = true := by
  delta joinedFacts
  repeat' (with_reducible refine and_lim ?_ ?_)
  all_goals as_aux_lemma => kernel_rfl
theorem nf : Tryd.pinned.checked.prog.funcNamed Rows.hostHoldsRow.func = some 9 := by kernel_rfl
theorem ins : Tryd.f9.isInstance Tryd.pinned.checked.prog Rows.hostHoldsRow.origin Rows.hostHoldsRow.targs := of_decide_eq_true (by kernel_rfl)
theorem wrp : Tryd.f9.isWrapper Tryd.pinned.checked.prog Rows.hostHoldsRow.wrapper Rows.hostHoldsRow.mainSum := by unfold Func.isWrapper; rw [if_neg (of_decide_eq_false (by kernel_rfl))]; exact ⟨rfl, rfl⟩

theorem row_holds : Rows.HostHoldsSaid :=
  OpenClaim.holds_of_wide 9 Tryd.f9 rfl rfl rfl rfl rfl rfl rfl ⟨rfl, rfl, rfl, rfl, rfl⟩ rfl rfl rfl rfl rfl nf Tryd.func9 jf ins wrp
    (fun os started H enc _ => lifted os started H enc)

theorem card_holds : Rows.HostHoldsCardSaid :=
  Claim7.holds_tied_plain_at .later [] [.handle] true Rows.hostHoldsCard.stood.harness true
    row_holds (fun _ h => by cases h) (by as_aux_lemma => kernel_rfl) (fun _ h => by cases h) hostHolds_row_tie rfl ⟨rfl, rfl⟩ (by as_aux_lemma => kernel_rfl) rfl
    (fun f fn hf hfn => by
      obtain rfl : f = 9 := Option.some.inj ((show Tryd.prog.funcNamed "fusee/fuseelaw18.HostHolds" = some 9 by kernel_rfl).symm.trans hf) |>.symm
      obtain rfl : fn = Tryd.f9 := (Option.some.inj (Tryd.func9.symm.trans hfn)).symm
      exact ⟨by as_aux_lemma => kernel_rfl, fun j t ht => by
        rw [Tryd.params9] at ht
        have hall : ∀ x ∈ Tryd.f9.params.toList, Tryd.prog.wantsStandIn x = false := by rw [Tryd.params9]; intro x hx; simp only [List.mem_cons, List.not_mem_nil, or_false] at hx; first | (rcases hx with rfl | rfl | rfl | rfl | rfl | rfl <;> kernel_rfl) | (rcases hx with rfl | rfl | rfl | rfl | rfl <;> kernel_rfl) | (rcases hx with rfl | rfl | rfl | rfl <;> kernel_rfl) | (rcases hx with rfl | rfl | rfl <;> kernel_rfl) | (rcases hx with rfl | rfl <;> kernel_rfl) | (obtain rfl := hx; kernel_rfl)
        refine hall t ?_
        rw [Tryd.params9]
        exact Array.mem_toList_iff.2 (Array.mem_of_getElem? ht)⟩)
    (by as_aux_lemma => kernel_rfl)
#print axioms card_holds
end Go.Proofs.YtjhjgfnodhbacaaDoor.hostHolds
