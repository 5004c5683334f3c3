/-
  The statement fuseelaw14.SampleHolds, closed: the row from its walk, the card from the row and the given tie.
-/
import Derived.Test.YtffdglhdklmjoaaDoorV14
import Derived.Test.YtffdglhdklmjoaaDoorFrame
import Derived.Test.YtffdglhdklmjoaaDoorTie
import Derived.Test.YtffdglhdklmjoaaDoorCards
import Derived.SevenTiedAt
namespace Go.Proofs.YtffdglhdklmjoaaDoor.sampleHolds
open Go.ChangeShapes Go.WideShapes Go.RowKit

theorem arr_of4 {xs : Array Value} (h : xs.size = 4) : ∃ c0 c1 c2 c3, xs = #[c0, c1, c2, c3] := by
  obtain ⟨l⟩ := xs
  match l, h with
  | [c0, c1, c2, c3], _ => exact ⟨c0, c1, c2, c3, rfl⟩
theorem list_of4 {α : Type} {xs : List α} (h : xs.length = 4) : ∃ c0 c1 c2 c3, xs = [c0, c1, c2, c3] := by
  match xs, h with
  | [c0, c1, c2, c3], _ => exact ⟨c0, c1, c2, c3, rfl⟩
theorem okWide_arr {P : Program} {w : World} {r : Reach} {base : Nat} {t e : TypeId} {n : Nat} {v : Value} (ht : P.underlying t = some (.array n e)) (h : Value.okWide P w r base t v) : ∃ cs, v = .agg cs ∧ cs.size = P.cellsOf t := by
  simp only [Value.okWide, ht] at h
  obtain ⟨cs, h1, h2, _⟩ := h
  exact ⟨cs, h1, h2⟩
set_option linter.unusedSimpArgs false
set_option maxRecDepth 100000 in
theorem lifted (os : Os) (started : os.Started) (H : Type) (enc : TypeId × Value → H) :
    ReturnsInHanded {} Tryd.checked os 16 .any (fun w args => (Rows.sampleHoldsSpec.pre enc Tryd.prog Tryd.f16 [] false w args ∧ laidMetH Tryd.prog Rows.sampleHoldsRow.laid w) ∧ sizedMet enc Tryd.prog Tryd.f16 (OpenSpec.ofChange Rows.sampleHoldsSpec) false w args)
      (Rows.sampleHoldsSpec.post enc Tryd.prog Tryd.f16 false true false false) := by
  refine returnsInHanded_of_change_and (C := Tryd.checked) (X := fun w _ => laidMetH Tryd.prog Rows.sampleHoldsRow.laid w) (fun _ _ _ hh h => h.of_heap hh) Tryd.own started (by kernel_rfl) Tryd.func16
    (ChangeSpec.witness_at (enc := enc) (C := Tryd.checked) (os := os) (X := fun w _ => laidMetH Tryd.prog Rows.sampleHoldsRow.laid w) false (laidWorld os) #[.int .i64 0, .agg #[.int .u32 0, .int .u32 0, .int .u32 0, .int .u32 0], .int .i64 0] 8 rfl (by kernel_rfl) (by kernel_rfl) (by kernel_rfl) (by kernel_rfl) (by kernel_rfl) (laidWorld_met os _)) ?_
  intro W base args ds gs before hval0 hW _ hsz hL _
  have hval : ∀ (j : Nat) t v, Tryd.f16.params[j]? = some t → args[j]? = some v → Value.okWide Tryd.prog W .any base t v := hval0
  have hW0 := hW
  obtain ⟨p, q, hA0, hV, rfl, hfz, hnd⟩ := hW0
  have hA : DataW.TrodAll enc Tryd.prog W 0 (fun _ => true) true Tryd.f16.params.toList args.toList ds p := hA0
  rw [Tryd.params16] at hA hval
  obtain ⟨v0, vs0, d0, ds0, p0, q0, hargs, rfl, rfl, h0, r0⟩ := trodAll_cons hA
  obtain ⟨v1, vs1, d1, ds1, p1, q1, rfl, rfl, rfl, h1, r1⟩ := trodAll_cons r0
  obtain ⟨v2, vs2, d2, ds2, p2, q2, rfl, rfl, rfl, h2, r2⟩ := trodAll_cons r1
  obtain ⟨rfl, rfl, rfl⟩ := trodAll_nil r2
  obtain rfl : args = #[v0, v1, v2] := by cases args; simp_all
  have hg := handle_of_laid hL
  have fin : ∀ (e : Ending) (W' : World), (e = .returned (.bool true) ∧ Below W.heap.size W W') → ∃ v, e = .returned v ∧ Rows.sampleHoldsSpec.post enc Tryd.prog Tryd.f16 false true false false W _ v W' := fun e W' ⟨he, hb⟩ =>
    ⟨_, he, law_post 4 rfl Tryd.underlying4 (by kernel_rfl) hW rfl rfl hb⟩
  obtain ⟨a0, rfl, rfl, rfl, w0⟩ := open_int Tryd.underlying2 (hval 0 2 v0 rfl rfl) h0
  have hC1_0 : Tryd.prog.cellsOf 139 = 4 := by kernel_rfl
  have hC1_1 : Tryd.prog.cellsOf 63 = 1 := by kernel_rfl
  obtain ⟨cs1, rfl, hsz1⟩ := okWide_arr Tryd.underlying139 (hval 1 139 v1 rfl rfl)
  rw [hC1_0] at hsz1
  obtain ⟨c1_0, c1_1, c1_2, c1_3, rfl⟩ := arr_of4 hsz1
  obtain ⟨fu1, hr1⟩ := h1
  replace hr1 : DataW.trod enc Tryd.prog W _ _ _ fu1 139 [c1_0, c1_1, c1_2, c1_3] = some (_, _) := hr1
  obtain ⟨ys1, m1, _, hx1, _, hl1, hf1⟩ := Go.DataW.trod_array Tryd.underlying139 hr1
  obtain ⟨y1_0, y1_1, y1_2, y1_3, rfl⟩ := list_of4 hl1
  simp only [Prod.mk.injEq] at hx1
  obtain ⟨rfl, rfl⟩ := hx1
  have hy1_0 := hf1 0 (by omega)
  have hy1_1 := hf1 1 (by omega)
  have hy1_2 := hf1 2 (by omega)
  have hy1_3 := hf1 3 (by omega)
  simp [hC1_0, hC1_1] at hy1_0 hy1_1 hy1_2 hy1_3
  obtain ⟨a1_0, e_a1_0, rfl, w1_0⟩ := Go.DataW.trod_int Tryd.underlying63 hy1_0
  obtain ⟨a1_1, e_a1_1, rfl, w1_1⟩ := Go.DataW.trod_int Tryd.underlying63 hy1_1
  obtain ⟨a1_2, e_a1_2, rfl, w1_2⟩ := Go.DataW.trod_int Tryd.underlying63 hy1_2
  obtain ⟨a1_3, e_a1_3, rfl, w1_3⟩ := Go.DataW.trod_int Tryd.underlying63 hy1_3
  simp at e_a1_0 e_a1_1 e_a1_2 e_a1_3
  subst e_a1_0 e_a1_1 e_a1_2 e_a1_3
  obtain ⟨a2, rfl, rfl, rfl, w2⟩ := open_int Tryd.underlying2 (hval 2 2 v2 rfl rfl) h2
  exact (walkSampleHolds a0 a1_0 a1_1 a1_2 a1_3 a2 (bounds_i64 w0) (bounds_u32 w1_0) (bounds_u32 w1_1) (bounds_u32 w1_2) (bounds_u32 w1_3) (bounds_i64 w2) W hg).mono fin

theorem row_holds : Rows.SampleHoldsSaid :=
  OpenClaim.holds_of_wide 16 Tryd.f16 rfl rfl rfl rfl rfl rfl rfl ⟨rfl, rfl, rfl, rfl, rfl⟩ rfl rfl rfl rfl rfl (by kernel_rfl) Tryd.func16 (by kernel_rfl)
    (of_decide_eq_true (by kernel_rfl)) (by unfold Func.isWrapper; rw [if_neg (of_decide_eq_false (by kernel_rfl))]; exact ⟨rfl, rfl⟩)
    (fun os started H enc _ => lifted os started H enc)

theorem card_holds : Rows.SampleHoldsCardSaid :=
  Claim7.holds_tied_plain_at .later [] [.handle] true Rows.sampleHoldsCard.stood.harness true
    row_holds (fun _ h => by cases h) (by kernel_rfl) (fun _ h => by cases h) sampleHolds_row_tie rfl ⟨rfl, rfl⟩ (by kernel_rfl) rfl
    (fun f fn hf hfn => by
      obtain rfl : f = 16 := Option.some.inj ((show Tryd.prog.funcNamed "fusee/fuseelaw14.SampleHolds" = some 16 by kernel_rfl).symm.trans hf) |>.symm
      obtain rfl : fn = Tryd.f16 := (Option.some.inj (Tryd.func16.symm.trans hfn)).symm
      exact ⟨by kernel_rfl, fun j t ht => by
        rw [Tryd.params16] at ht
        have hall : ∀ x ∈ Tryd.f16.params.toList, Tryd.prog.wantsStandIn x = false := by rw [Tryd.params16]; intro x hx; simp only [List.mem_cons, List.not_mem_nil, or_false] at hx; first | (rcases hx with rfl | rfl | rfl | rfl | rfl | rfl <;> kernel_rfl) | (rcases hx with rfl | rfl | rfl | rfl | rfl <;> kernel_rfl) | (rcases hx with rfl | rfl | rfl | rfl <;> kernel_rfl) | (rcases hx with rfl | rfl | rfl <;> kernel_rfl) | (rcases hx with rfl | rfl <;> kernel_rfl) | (obtain rfl := hx; kernel_rfl)
        refine hall t ?_
        rw [Tryd.params16]
        exact Array.mem_toList_iff.2 (Array.mem_of_getElem? ht)⟩)
    (by kernel_rfl)
#print axioms card_holds
end Go.Proofs.YtffdglhdklmjoaaDoor.sampleHolds
