/-
  The statement fuseelaw35.SlotRound, closed: the row from its walk, the card from the row and the given tie.
-/
import Derived.Test.YtgkpbokipnfddaaDoorX35c
import Derived.Test.YtgkpbokipnfddaaDoorFrame
import Derived.Test.YtgkpbokipnfddaaDoorTie
import Derived.Test.YtgkpbokipnfddaaDoorCards
import Derived.SevenTiedAt
import Derived.Test.YtgkpbokipnfddaaDoorSlo
namespace Go.Proofs.YtgkpbokipnfddaaDoor.slotRound
open Go.ChangeShapes Go.WideShapes Go.RowKit

theorem arr_of2 {xs : Array Value} (h : xs.size = 2) : ∃ c0 c1, xs = #[c0, c1] := by
  obtain ⟨l⟩ := xs
  match l, h with
  | [c0, c1], _ => exact ⟨c0, c1, rfl⟩
theorem list_of2 {α : Type} {xs : List α} (h : xs.length = 2) : ∃ c0 c1, xs = [c0, c1] := by
  match xs, h with
  | [c0, c1], _ => exact ⟨c0, c1, rfl⟩
theorem okWide_arr {P : Program} {w : World} {r : Reach} {base : Nat} {t e : TypeId} {n : Nat} {v : Value} (ht : P.underlying t = some (.array n e)) (h : Value.okWide P w r base t v) : ∃ cs, v = .agg cs ∧ cs.size = P.cellsOf t := by
  simp only [Value.okWide, ht] at h
  obtain ⟨cs, h1, h2, _⟩ := h
  exact ⟨cs, h1, h2⟩
set_option linter.unusedSimpArgs false
set_option maxRecDepth 100000 in
theorem lifted (os : Os) (started : os.Started) (H : Type) (enc : TypeId × Value → H) :
    ReturnsInHanded {} Tryd.checked os 13 .any (fun w args => (Rows.slotRoundSpec.pre enc Tryd.prog Tryd.f13 [] false w args ∧ laidMetH Tryd.prog Rows.slotRoundRow.laid w) ∧ sizedMet enc Tryd.prog Tryd.f13 (OpenSpec.ofChange Rows.slotRoundSpec) false w args)
      (Rows.slotRoundSpec.post enc Tryd.prog Tryd.f13 false true false false) := by
  refine returnsInHanded_of_change_and (C := Tryd.checked) (X := fun w _ => laidMetH Tryd.prog Rows.slotRoundRow.laid w) (fun _ _ _ hh h => h.of_heap hh) Tryd.own started (by kernel_rfl) Tryd.func13
    (ChangeSpec.witness_at (enc := enc) (C := Tryd.checked) (os := os) (X := fun w _ => laidMetH Tryd.prog Rows.slotRoundRow.laid w) false (laidWorld os) #[.agg #[.int .i64 0, .slice none 0 0], .string ⟨#[]⟩, .int .u32 0] 8 rfl (by kernel_rfl) (by kernel_rfl) (by kernel_rfl) (by kernel_rfl) (by kernel_rfl) (laidWorld_met os _)) ?_
  intro W base args ds gs before hval0 hW _ hsz hL _
  have hval : ∀ (j : Nat) t v, Tryd.f13.params[j]? = some t → args[j]? = some v → Value.okWide Tryd.prog W .any base t v := hval0
  have hW0 := hW
  obtain ⟨p, q, hA0, hV, rfl, hfz, hnd⟩ := hW0
  have hA : DataW.TrodAll enc Tryd.prog W 0 (fun _ => true) true Tryd.f13.params.toList args.toList ds p := hA0
  rw [Tryd.params13] at hA hval
  obtain ⟨v0, vs0, d0, ds0, p0, q0, hargs, rfl, rfl, h0, r0⟩ := trodAll_cons hA
  obtain ⟨v1, vs1, d1, ds1, p1, q1, rfl, rfl, rfl, h1, r1⟩ := trodAll_cons r0
  obtain ⟨v2, vs2, d2, ds2, p2, q2, rfl, rfl, rfl, h2, r2⟩ := trodAll_cons r1
  obtain ⟨rfl, rfl, rfl⟩ := trodAll_nil r2
  obtain rfl : args = #[v0, v1, v2] := by cases args; simp_all
  have hg := handle_of_laid hL
  have fin : ∀ (e : Ending) (W' : World), (e = .returned (.bool true) ∧ Below W.heap.size W W') → ∃ v, e = .returned v ∧ Rows.slotRoundSpec.post enc Tryd.prog Tryd.f13 false true false false W _ v W' := fun e W' ⟨he, hb⟩ =>
    ⟨_, he, law_post 4 rfl Tryd.underlying4 (by kernel_rfl) hW rfl rfl hb⟩
  have hC0_0 : Tryd.prog.cellsOf 95 = 2 := by kernel_rfl
  have hC0_1 : Tryd.prog.cellsOf 2 = 1 := by kernel_rfl
  have hC0_2 : Tryd.prog.cellsOf 93 = 1 := by kernel_rfl
  obtain ⟨cs0, rfl, hsz0⟩ := okWide_struct Tryd.underlying95 (hval 0 95 v0 rfl rfl)
  rw [hC0_0] at hsz0
  obtain ⟨c0_0, c0_1, rfl⟩ := arr_of2 hsz0
  obtain ⟨fu0, hr0⟩ := h0
  replace hr0 : DataW.trod enc Tryd.prog W _ _ _ fu0 95 [c0_0, c0_1] = some (_, _) := hr0
  obtain ⟨ys0, m0, _, hx0, _, hl0, hf0⟩ := Go.DataW.trod_struct Tryd.underlying95 hr0
  obtain ⟨y0_0, y0_1, rfl⟩ := list_of2 hl0
  simp only [Prod.mk.injEq] at hx0
  obtain ⟨rfl, rfl⟩ := hx0
  have hy0_0 := hf0 0 _ rfl
  have hy0_1 := hf0 1 _ rfl
  simp [hC0_0, hC0_1, hC0_2] at hy0_0 hy0_1
  obtain ⟨a0_0, e_a0_0, rfl, w0_0⟩ := Go.DataW.trod_int Tryd.underlying2 hy0_0
  obtain ⟨a0_1, rfl, sk0_1, sn0_1⟩ := slc_open_str Tryd.underlying93 Tryd.underlying9 (by kernel_rfl) hy0_1
  simp at e_a0_0
  subst e_a0_0
  obtain ⟨a1, rfl, rfl, rfl, w1⟩ := Go.ChangeMaps.open_string Tryd.underlying9 (hval 1 9 v1 rfl rfl) h1
  unfold maxLen at w1
  obtain ⟨a2, rfl, rfl, rfl, w2⟩ := open_int Tryd.underlying109 (hval 2 109 v2 rfl rfl) h2
  exact (walkSlotRound a0_0 a0_1 a1 a2 sk0_1.1.symm sn0_1 (bounds_u32 w2).1 (bounds_u32 w2).2 W sk0_1 hg).mono fin

theorem row_holds : Rows.SlotRoundSaid :=
  OpenClaim.holds_of_wide 13 Tryd.f13 rfl rfl rfl rfl rfl rfl rfl ⟨rfl, rfl, rfl, rfl, rfl⟩ rfl rfl rfl rfl rfl (by kernel_rfl) Tryd.func13 (by kernel_rfl)
    (of_decide_eq_true (by kernel_rfl)) (by unfold Func.isWrapper; rw [if_neg (of_decide_eq_false (by kernel_rfl))]; exact ⟨rfl, rfl⟩)
    (fun os started H enc _ => lifted os started H enc)

theorem card_holds : Rows.SlotRoundCardSaid :=
  Claim7.holds_tied_plain_at .later [] [.handle] true Rows.slotRoundCard.stood.harness true
    row_holds (fun _ h => by cases h) (by kernel_rfl) (fun _ h => by cases h) slotRound_row_tie rfl ⟨rfl, rfl⟩ (by kernel_rfl) rfl
    (fun f fn hf hfn => by
      obtain rfl : f = 13 := Option.some.inj ((show Tryd.prog.funcNamed "fusee/fuseelaw35.SlotRound" = some 13 by kernel_rfl).symm.trans hf) |>.symm
      obtain rfl : fn = Tryd.f13 := (Option.some.inj (Tryd.func13.symm.trans hfn)).symm
      exact ⟨by kernel_rfl, fun j t ht => by
        rw [Tryd.params13] at ht
        have hall : ∀ x ∈ Tryd.f13.params.toList, Tryd.prog.wantsStandIn x = false := by rw [Tryd.params13]; intro x hx; simp only [List.mem_cons, List.not_mem_nil, or_false] at hx; first | (rcases hx with rfl | rfl | rfl | rfl | rfl | rfl <;> kernel_rfl) | (rcases hx with rfl | rfl | rfl | rfl | rfl <;> kernel_rfl) | (rcases hx with rfl | rfl | rfl | rfl <;> kernel_rfl) | (rcases hx with rfl | rfl | rfl <;> kernel_rfl) | (rcases hx with rfl | rfl <;> kernel_rfl) | (obtain rfl := hx; kernel_rfl)
        refine hall t ?_
        rw [Tryd.params13]
        exact Array.mem_toList_iff.2 (Array.mem_of_getElem? ht)⟩)
    (by kernel_rfl)
#print axioms card_holds
end Go.Proofs.YtgkpbokipnfddaaDoor.slotRound
