/-
  The statement fuseelaw09.LeapMore, closed: the row from its walk, the card from the row and the given tie.
-/
import Derived.Test.YtehiienjodicpaaDoorZ9
import Derived.Test.YtehiienjodicpaaDoorFrame
import Derived.Test.YtehiienjodicpaaDoorTie
import Derived.Test.YtehiienjodicpaaDoorCards
import Derived.SevenTiedAt
import Derived.Test.YtehiienjodicpaaDoorSyp
namespace Go.Proofs.YtehiienjodicpaaDoor.leapMore
open Go.ChangeShapes Go.WideShapes Go.RowKit Go.Proofs.YtehiienjodicpaaDoor.Sy

theorem arr_of3 {xs : Array Value} (h : xs.size = 3) : ∃ c0 c1 c2, xs = #[c0, c1, c2] := by
  obtain ⟨l⟩ := xs
  match l, h with
  | [c0, c1, c2], _ => exact ⟨c0, c1, c2, rfl⟩
theorem list_of3 {α : Type} {xs : List α} (h : xs.length = 3) : ∃ c0 c1 c2, xs = [c0, c1, c2] := by
  match xs, h with
  | [c0, c1, c2], _ => exact ⟨c0, c1, c2, rfl⟩
theorem okWide_arr {P : Program} {w : World} {r : Reach} {base : Nat} {t e : TypeId} {n : Nat} {v : Value} (ht : P.underlying t = some (.array n e)) (h : Value.okWide P w r base t v) : ∃ cs, v = .agg cs ∧ cs.size = P.cellsOf t := by
  simp only [Value.okWide, ht] at h
  obtain ⟨cs, h1, h2, _⟩ := h
  exact ⟨cs, h1, h2⟩
set_option linter.unusedSimpArgs false
set_option maxRecDepth 100000 in
theorem lifted (os : Os) (started : os.Started) (H : Type) (enc : TypeId × Value → H) :
    ReturnsInHanded {} Tryd.checked os 7 .any (fun w args => (Rows.leapMoreSpec.pre enc Tryd.prog Tryd.f7 [] false w args ∧ laidMetH Tryd.prog Rows.leapMoreRow.laid w) ∧ sizedMet enc Tryd.prog Tryd.f7 (OpenSpec.ofChange Rows.leapMoreSpec) false w args)
      (Rows.leapMoreSpec.post enc Tryd.prog Tryd.f7 false true false false) := by
  refine returnsInHanded_of_change_and (C := Tryd.checked) (X := fun w _ => laidMetH Tryd.prog Rows.leapMoreRow.laid w) (fun _ _ _ hh h => h.of_heap hh) Tryd.own started (by kernel_rfl) Tryd.func7
    (ChangeSpec.witness_at (enc := enc) (C := Tryd.checked) (os := os) (X := fun w _ => laidMetH Tryd.prog Rows.leapMoreRow.laid w) false (laidWorld os) #[.agg #[.int .i64 0, .int .i64 0, .slice none 0 0], .int .i64 0, .int .i64 0] 8 rfl (by kernel_rfl) (by kernel_rfl) (by kernel_rfl) (by kernel_rfl) (by kernel_rfl) (laidWorld_met os _)) ?_
  intro W base args ds gs before hval0 hW _ hsz hL _
  have hval : ∀ (j : Nat) t v, Tryd.f7.params[j]? = some t → args[j]? = some v → Value.okWide Tryd.prog W .any base t v := hval0
  have hW0 := hW
  obtain ⟨p, q, hA0, hV, rfl, hfz, hnd⟩ := hW0
  have hA : DataW.TrodAll enc Tryd.prog W 0 (fun _ => true) true Tryd.f7.params.toList args.toList ds p := hA0
  rw [Tryd.params7] at hA hval hsz
  obtain ⟨v0, vs0, d0, ds0, p0, q0, hargs, rfl, rfl, h0, r0⟩ := trodAll_cons hA
  obtain ⟨v1, vs1, d1, ds1, p1, q1, rfl, rfl, rfl, h1, r1⟩ := trodAll_cons r0
  obtain ⟨v2, vs2, d2, ds2, p2, q2, rfl, rfl, rfl, h2, r2⟩ := trodAll_cons r1
  obtain ⟨rfl, rfl, rfl⟩ := trodAll_nil r2
  obtain rfl : args = #[v0, v1, v2] := by cases args; simp_all
  have hg := handle_of_laid hL
  have fin : ∀ (e : Ending) (W' : World), (e = .returned (.bool true) ∧ Below W.heap.size W W') → ∃ v, e = .returned v ∧ Rows.leapMoreSpec.post enc Tryd.prog Tryd.f7 false true false false W _ v W' := fun e W' ⟨he, hb⟩ =>
    ⟨_, he, law_post 4 rfl Tryd.underlying4 (by kernel_rfl) hW rfl rfl hb⟩
  have hC0_0 : Tryd.prog.cellsOf 24 = 3 := by kernel_rfl
  have hC0_1 : Tryd.prog.cellsOf 2 = 1 := by kernel_rfl
  have hC0_2 : Tryd.prog.cellsOf 22 = 1 := by kernel_rfl
  obtain ⟨cs0, rfl, hsz0⟩ := okWide_struct Tryd.underlying24 (hval 0 24 v0 rfl rfl)
  rw [hC0_0] at hsz0
  obtain ⟨c0_0, c0_1, c0_2, rfl⟩ := arr_of3 hsz0
  obtain ⟨fu0, hr0⟩ := h0
  replace hr0 : DataW.trod enc Tryd.prog W _ _ _ fu0 24 [c0_0, c0_1, c0_2] = some (_, _) := hr0
  obtain ⟨ys0, m0, _, hx0, _, hl0, hf0⟩ := Go.DataW.trod_struct Tryd.underlying24 hr0
  obtain ⟨y0_0, y0_1, y0_2, rfl⟩ := list_of3 hl0
  simp only [Prod.mk.injEq] at hx0
  obtain ⟨rfl, rfl⟩ := hx0
  have hy0_0 := hf0 0 _ rfl
  have hy0_1 := hf0 1 _ rfl
  have hy0_2 := hf0 2 _ rfl
  simp [hC0_0, hC0_1, hC0_2] at hy0_0 hy0_1 hy0_2
  obtain ⟨a0_0, e_a0_0, _, w0_0⟩ := Go.DataW.trod_int Tryd.underlying2 hy0_0
  obtain ⟨a0_1, e_a0_1, _, w0_1⟩ := Go.DataW.trod_int Tryd.underlying2 hy0_1
  simp at e_a0_0 e_a0_1
  subst e_a0_0 e_a0_1
  have hq : ∀ (n : Nat) (cs' : List Value) (y : DataW H × List MemPlace), cs'.length = (SK.cons (.int .i64) .nil).wd → DataW.trod enc Tryd.prog W 0 (fun _ => true) true n 2 cs' = some y → ∃ ds : List Value, ds.length = (SK.cons (.int .i64) .nil).wd ∧ ∀ j a, (SK.cons (.int .i64) .nil).get j = some a → deepC (fun _ _ => True) W a (cs'.getD j Go.undef) (ds.getD j Go.undef) := by
    intro n cs' y hl hh
    match cs', hl with
    | [b0], hl =>
      obtain ⟨n0, e0, _, _⟩ := Go.DataW.trod_int Tryd.underlying2 hh
      obtain rfl := (List.cons.inj e0).1
      refine ⟨_, hl, fun j a ha => ?_⟩
      match j, ha with
      | 0, ha => obtain rfl := Option.some.inj ha; exact ⟨rfl, rfl⟩
  obtain ⟨l, hd, hwt⟩ := deep_open (K := .cons (.int .i64) .nil) Tryd.underlying22 hC0_1 (by decide) (of_decide_eq_true (by kernel_rfl)) hq hy0_2 (fun el sp e => by
    have hs := sized_field hsz (j := 0) (t := 24) rfl rfl Tryd.underlying24
    exact sized_slice hs (j := 2) (t := 22) (e := 2) rfl (congrArg some e) Tryd.underlying22)
  obtain ⟨a1, rfl, rfl, rfl, w1⟩ := open_int Tryd.underlying2 (hval 1 2 v1 rfl rfl) h1
  obtain ⟨a2, rfl, rfl, rfl, w2⟩ := open_int Tryd.underlying2 (hval 2 2 v2 rfl rfl) h2
  exact (good_run yg_wMore rfl rfl [a0_0, a0_1, a1, a2] [] [l] [] W [.agg #[.int .i64 a0_0, .int .i64 a0_1, c0_2], .int .i64 a1, .int .i64 a2] rfl rfl rfl rfl (bounds_i64 w2)
    (fun x hx => by
      obtain rfl := List.mem_singleton.1 hx
      exact ⟨trivial, handle_lt hg, hg⟩)
    ⟨⟨[.int .i64 a0_0, .int .i64 a0_1, c0_2], rfl, rfl, rfl, ⟨hd, fun _ _ h => by cases h⟩, rfl⟩, rfl, rfl, trivial⟩).mono fin

theorem row_holds : Rows.LeapMoreSaid :=
  OpenClaim.holds_of_wide 7 Tryd.f7 rfl rfl rfl rfl rfl rfl rfl ⟨rfl, rfl, rfl, rfl, rfl⟩ rfl rfl rfl rfl rfl (by kernel_rfl) Tryd.func7 (by kernel_rfl)
    (of_decide_eq_true (by kernel_rfl)) (by unfold Func.isWrapper; rw [if_neg (of_decide_eq_false (by kernel_rfl))]; exact ⟨rfl, rfl⟩)
    (fun os started H enc _ => lifted os started H enc)

theorem card_holds : Rows.LeapMoreCardSaid :=
  Claim7.holds_tied_plain_at .later [] [.handle] true Rows.leapMoreCard.stood.harness true
    row_holds (fun _ h => by cases h) (by kernel_rfl) (fun _ h => by cases h) leapMore_row_tie rfl ⟨rfl, rfl⟩ (by kernel_rfl) rfl
    (fun f fn hf hfn => by
      obtain rfl : f = 7 := Option.some.inj ((show Tryd.prog.funcNamed "fusee/fuseelaw09.LeapMore" = some 7 by kernel_rfl).symm.trans hf) |>.symm
      obtain rfl : fn = Tryd.f7 := (Option.some.inj (Tryd.func7.symm.trans hfn)).symm
      exact ⟨by kernel_rfl, fun j t ht => by
        rw [Tryd.params7] at ht
        have hall : ∀ x ∈ Tryd.f7.params.toList, Tryd.prog.wantsStandIn x = false := by rw [Tryd.params7]; intro x hx; simp only [List.mem_cons, List.not_mem_nil, or_false] at hx; first | (rcases hx with rfl | rfl | rfl | rfl | rfl | rfl <;> kernel_rfl) | (rcases hx with rfl | rfl | rfl | rfl | rfl <;> kernel_rfl) | (rcases hx with rfl | rfl | rfl | rfl <;> kernel_rfl) | (rcases hx with rfl | rfl | rfl <;> kernel_rfl) | (rcases hx with rfl | rfl <;> kernel_rfl) | (obtain rfl := hx; kernel_rfl)
        refine hall t ?_
        rw [Tryd.params7]
        exact Array.mem_toList_iff.2 (Array.mem_of_getElem? ht)⟩)
    (by kernel_rfl)
#print axioms card_holds
end Go.Proofs.YtehiienjodicpaaDoor.leapMore
