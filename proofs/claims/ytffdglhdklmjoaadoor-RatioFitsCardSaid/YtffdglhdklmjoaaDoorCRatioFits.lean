/-
  The statement fuseelaw03.RatioFits, closed: the row from its walk, the card from the row and the given tie.
-/
import Derived.Test.YtffdglhdklmjoaaDoorV03e
import Derived.Test.YtffdglhdklmjoaaDoorFrame
import Derived.Test.YtffdglhdklmjoaaDoorTie
import Derived.Test.YtffdglhdklmjoaaDoorCards
import Derived.SevenTiedAt
namespace Go.Proofs.YtffdglhdklmjoaaDoor.ratioFits
open Go.ChangeShapes Go.WideShapes Go.RowKit

theorem arr_of2 {xs : Array Value} (h : xs.size = 2) : ∃ c0 c1, xs = #[c0, c1] := by
  obtain ⟨l⟩ := xs
  match l, h with
  | [c0, c1], _ => exact ⟨c0, c1, rfl⟩
theorem list_of2 {α : Type} {xs : List α} (h : xs.length = 2) : ∃ c0 c1, xs = [c0, c1] := by
  match xs, h with
  | [c0, c1], _ => exact ⟨c0, c1, rfl⟩
theorem arr_of3 {xs : Array Value} (h : xs.size = 3) : ∃ c0 c1 c2, xs = #[c0, c1, c2] := by
  obtain ⟨l⟩ := xs
  match l, h with
  | [c0, c1, c2], _ => exact ⟨c0, c1, c2, rfl⟩
theorem list_of3 {α : Type} {xs : List α} (h : xs.length = 3) : ∃ c0 c1 c2, xs = [c0, c1, c2] := by
  match xs, h with
  | [c0, c1, c2], _ => exact ⟨c0, c1, c2, rfl⟩
theorem arr_of4 {xs : Array Value} (h : xs.size = 4) : ∃ c0 c1 c2 c3, xs = #[c0, c1, c2, c3] := by
  obtain ⟨l⟩ := xs
  match l, h with
  | [c0, c1, c2, c3], _ => exact ⟨c0, c1, c2, c3, rfl⟩
theorem list_of4 {α : Type} {xs : List α} (h : xs.length = 4) : ∃ c0 c1 c2 c3, xs = [c0, c1, c2, c3] := by
  match xs, h with
  | [c0, c1, c2, c3], _ => exact ⟨c0, c1, c2, c3, rfl⟩
theorem okWide_arr {P : Program} {w : World} {r : Reach} {base : Nat} {t e : TypeId} {n : Nat} {v : Value} (ht : P.underlying t = some (.array n e)) (h : Value.okWide P w r base t v) : ∃ cs, v = .agg cs ∧ cs.size = P.cellsOf t := by
  simp only [Value.okWide, ht] at h
  obtain ⟨cs, h1, h2, _⟩ := h
  exact ⟨cs, h1, h2⟩
set_option linter.unusedSimpArgs false
set_option maxRecDepth 100000 in
theorem lifted (os : Os) (started : os.Started) (H : Type) (enc : TypeId × Value → H) :
    ReturnsInHanded {} Tryd.checked os 7 .any (fun w args => (Rows.ratioFitsSpec.pre enc Tryd.prog Tryd.f7 [] false w args ∧ laidMetH Tryd.prog Rows.ratioFitsRow.laid w) ∧ sizedMet enc Tryd.prog Tryd.f7 (OpenSpec.ofChange Rows.ratioFitsSpec) false w args)
      (Rows.ratioFitsSpec.post enc Tryd.prog Tryd.f7 false true false false) := by
  refine returnsInHanded_of_change_and (C := Tryd.checked) (X := fun w _ => laidMetH Tryd.prog Rows.ratioFitsRow.laid w) (fun _ _ _ hh h => h.of_heap hh) Tryd.own started (by kernel_rfl) Tryd.func7
    (ChangeSpec.witness_at (enc := enc) (C := Tryd.checked) (os := os) (X := fun w _ => laidMetH Tryd.prog Rows.ratioFitsRow.laid w) false (laidWorld os) #[.int .u64 0, .int .u64 0, .agg #[.int .u32 0, .int .i64 0, .int .i64 0, .int .i64 0]] 8 rfl (by kernel_rfl) (by kernel_rfl) (by kernel_rfl) (by kernel_rfl) (by kernel_rfl) (laidWorld_met os _)) ?_
  intro W base args ds gs before hval0 hW _ hsz hL _
  have hval : ∀ (j : Nat) t v, Tryd.f7.params[j]? = some t → args[j]? = some v → Value.okWide Tryd.prog W .any base t v := hval0
  have hW0 := hW
  obtain ⟨p, q, hA0, hV, rfl, hfz, hnd⟩ := hW0
  have hA : DataW.TrodAll enc Tryd.prog W 0 (fun _ => true) true Tryd.f7.params.toList args.toList ds p := hA0
  rw [Tryd.params7] at hA hval
  obtain ⟨v0, vs0, d0, ds0, p0, q0, hargs, rfl, rfl, h0, r0⟩ := trodAll_cons hA
  obtain ⟨v1, vs1, d1, ds1, p1, q1, rfl, rfl, rfl, h1, r1⟩ := trodAll_cons r0
  obtain ⟨v2, vs2, d2, ds2, p2, q2, rfl, rfl, rfl, h2, r2⟩ := trodAll_cons r1
  obtain ⟨rfl, rfl, rfl⟩ := trodAll_nil r2
  obtain rfl : args = #[v0, v1, v2] := by cases args; simp_all
  have hg := handle_of_laid hL
  have fin : ∀ (e : Ending) (W' : World), (e = .returned (.bool true) ∧ Below W.heap.size W W') → ∃ v, e = .returned v ∧ Rows.ratioFitsSpec.post enc Tryd.prog Tryd.f7 false true false false W _ v W' := fun e W' ⟨he, hb⟩ =>
    ⟨_, he, law_post 4 rfl Tryd.underlying4 (by kernel_rfl) hW rfl rfl hb⟩
  obtain ⟨a0, rfl, rfl, rfl, w0⟩ := open_int Tryd.underlying22 (hval 0 22 v0 rfl rfl) h0
  obtain ⟨a1, rfl, rfl, rfl, w1⟩ := open_int Tryd.underlying22 (hval 1 22 v1 rfl rfl) h1
  have hC2_0 : Tryd.prog.cellsOf 71 = 4 := by kernel_rfl
  have hC2_1 : Tryd.prog.cellsOf 69 = 2 := by kernel_rfl
  have hC2_2 : Tryd.prog.cellsOf 63 = 1 := by kernel_rfl
  have hC2_3 : Tryd.prog.cellsOf 3 = 1 := by kernel_rfl
  have hC2_4 : Tryd.prog.cellsOf 2 = 1 := by kernel_rfl
  obtain ⟨cs2, rfl, hsz2⟩ := okWide_struct Tryd.underlying71 (hval 2 71 v2 rfl rfl)
  rw [hC2_0] at hsz2
  obtain ⟨c2_0, c2_1, c2_2, c2_3, rfl⟩ := arr_of4 hsz2
  obtain ⟨fu2, hr2⟩ := h2
  replace hr2 : DataW.trod enc Tryd.prog W _ _ _ fu2 71 [c2_0, c2_1, c2_2, c2_3] = some (_, _) := hr2
  obtain ⟨ys2, m2, _, hx2, _, hl2, hf2⟩ := Go.DataW.trod_struct Tryd.underlying71 hr2
  obtain ⟨y2_0, y2_1, y2_2, rfl⟩ := list_of3 hl2
  simp only [Prod.mk.injEq] at hx2
  obtain ⟨rfl, rfl⟩ := hx2
  have hy2_0 := hf2 0 _ rfl
  have hy2_1 := hf2 1 _ rfl
  have hy2_2 := hf2 2 _ rfl
  simp [hC2_0, hC2_1, hC2_2, hC2_3, hC2_4] at hy2_0 hy2_1 hy2_2
  obtain ⟨ys2_0, m2_0, _, hx2_0, _, hl2_0, hf2_0⟩ := Go.DataW.trod_struct Tryd.underlying69 hy2_0
  obtain ⟨y2_0_0, y2_0_1, rfl⟩ := list_of2 hl2_0
  subst hx2_0
  have hy2_0_0 := hf2_0 0 _ rfl
  have hy2_0_1 := hf2_0 1 _ rfl
  simp [hC2_0, hC2_1, hC2_2, hC2_3, hC2_4] at hy2_0_0 hy2_0_1
  obtain ⟨a2_0, e_a2_0, rfl, w2_0⟩ := Go.DataW.trod_int Tryd.underlying63 hy2_0_0
  obtain ⟨a2_1, e_a2_1, rfl, w2_1⟩ := Go.DataW.trod_int Tryd.underlying3 hy2_0_1
  obtain ⟨a2_2, e_a2_2, rfl, w2_2⟩ := Go.DataW.trod_int Tryd.underlying2 hy2_1
  obtain ⟨a2_3, e_a2_3, rfl, w2_3⟩ := Go.DataW.trod_int Tryd.underlying2 hy2_2
  simp at e_a2_0 e_a2_1 e_a2_2 e_a2_3
  subst e_a2_0 e_a2_1 e_a2_2 e_a2_3
  exact (walkRatioFits a0 a1 a2_0 a2_1 a2_2 a2_3 (bounds_u64 w0) (bounds_u64 w1) (bounds_u32 w2_0) (bounds_i64 w2_1) (bounds_i64 w2_2) (bounds_i64 w2_3) W hg).mono fin

theorem row_holds : Rows.RatioFitsSaid :=
  OpenClaim.holds_of_wide 7 Tryd.f7 rfl rfl rfl rfl rfl rfl rfl ⟨rfl, rfl, rfl, rfl, rfl⟩ rfl rfl rfl rfl rfl (by kernel_rfl) Tryd.func7 (by kernel_rfl)
    (of_decide_eq_true (by kernel_rfl)) (by unfold Func.isWrapper; rw [if_neg (of_decide_eq_false (by kernel_rfl))]; exact ⟨rfl, rfl⟩)
    (fun os started H enc _ => lifted os started H enc)

theorem card_holds : Rows.RatioFitsCardSaid :=
  Claim7.holds_tied_plain_at .later [] [.handle] true Rows.ratioFitsCard.stood.harness true
    row_holds (fun _ h => by cases h) (by kernel_rfl) (fun _ h => by cases h) ratioFits_row_tie rfl ⟨rfl, rfl⟩ (by kernel_rfl) rfl
    (fun f fn hf hfn => by
      obtain rfl : f = 7 := Option.some.inj ((show Tryd.prog.funcNamed "fusee/fuseelaw03.RatioFits" = some 7 by kernel_rfl).symm.trans hf) |>.symm
      obtain rfl : fn = Tryd.f7 := (Option.some.inj (Tryd.func7.symm.trans hfn)).symm
      exact ⟨by kernel_rfl, fun j t ht => by
        rw [Tryd.params7] at ht
        have hall : ∀ x ∈ Tryd.f7.params.toList, Tryd.prog.wantsStandIn x = false := by rw [Tryd.params7]; intro x hx; simp only [List.mem_cons, List.not_mem_nil, or_false] at hx; first | (rcases hx with rfl | rfl | rfl | rfl | rfl | rfl <;> kernel_rfl) | (rcases hx with rfl | rfl | rfl | rfl | rfl <;> kernel_rfl) | (rcases hx with rfl | rfl | rfl | rfl <;> kernel_rfl) | (rcases hx with rfl | rfl | rfl <;> kernel_rfl) | (rcases hx with rfl | rfl <;> kernel_rfl) | (obtain rfl := hx; kernel_rfl)
        refine hall t ?_
        rw [Tryd.params7]
        exact Array.mem_toList_iff.2 (Array.mem_of_getElem? ht)⟩)
    (by kernel_rfl)
#print axioms card_holds
end Go.Proofs.YtffdglhdklmjoaaDoor.ratioFits
