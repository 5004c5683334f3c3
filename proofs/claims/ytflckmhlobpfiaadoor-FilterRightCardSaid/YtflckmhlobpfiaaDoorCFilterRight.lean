/-
  The statement fuseelaw15.FilterRight, closed: the row from its walk, the card from the row and the given tie.
-/
import Derived.Test.YtflckmhlobpfiaaDoorZ15gqb
import Derived.Test.YtflckmhlobpfiaaDoorFrameqb
import Derived.Test.YtflckmhlobpfiaaDoorTie
import Derived.Test.YtflckmhlobpfiaaDoorCards
import Derived.Test.YtflckmhlobpfiaaDoorSyoqb
import Derived.SevenTiedAt
namespace Go.Proofs.YtflckmhlobpfiaaDoor.filterRight
open Go.ChangeShapes Go.WideShapes Go.RowKit Go.Proofs.YtflckmhlobpfiaaDoor.Sy
set_option linter.unusedVariables false

theorem arr_of1 {xs : Array Value} (h : xs.size = 1) : ∃ c0, xs = #[c0] := by
  obtain ⟨l⟩ := xs
  match l, h with
  | [c0], _ => exact ⟨c0, rfl⟩
theorem list_of1 {α : Type} {xs : List α} (h : xs.length = 1) : ∃ c0, xs = [c0] := by
  match xs, h with
  | [c0], _ => exact ⟨c0, rfl⟩
theorem arr_of3 {xs : Array Value} (h : xs.size = 3) : ∃ c0 c1 c2, xs = #[c0, c1, c2] := by
  obtain ⟨l⟩ := xs
  match l, h with
  | [c0, c1, c2], _ => exact ⟨c0, c1, c2, rfl⟩
theorem list_of3 {α : Type} {xs : List α} (h : xs.length = 3) : ∃ c0 c1 c2, xs = [c0, c1, c2] := by
  match xs, h with
  | [c0, c1, c2], _ => exact ⟨c0, c1, c2, rfl⟩
theorem okWide_arr {P : Program} {w : World} {r : Reach} {base : Nat} {t e : TypeId} {n : Nat} {v : Value} (ht : P.underlying t = some (.array n e)) (h : Value.okWide P w r base t v) : ∃ cs, v = .agg cs ∧ cs.size = P.cellsOf t := by
  simp only [Value.okWide, ht] at h
  obtain ⟨cs, h1, h2, _⟩ := h
  exact ⟨cs, h1, h2⟩
set_option linter.unusedSimpArgs false
set_option maxRecDepth 100000 in
theorem lifted (os : Os) (started : os.Started) (H : Type) (enc : TypeId × Value → H) :
    ReturnsInHanded {} Tryd.checked os 12 .any (fun w args => (Rows.filterRightSpec.pre enc Tryd.prog Tryd.f12 [] false w args ∧ laidMetH Tryd.prog Rows.filterRightRow.laid w) ∧ sizedMet enc Tryd.prog Tryd.f12 (OpenSpec.ofChange Rows.filterRightSpec) false w args)
      (Rows.filterRightSpec.post enc Tryd.prog Tryd.f12 false true false false) := by
  refine returnsInHanded_of_change_and (C := Tryd.checked) (X := fun w _ => laidMetH Tryd.prog Rows.filterRightRow.laid w) (fun _ _ _ hh h => h.of_heap hh) Tryd.own started (by kernel_rfl) Tryd.func12
    (ChangeSpec.witness_at (enc := enc) (C := Tryd.checked) (os := os) (X := fun w _ => laidMetH Tryd.prog Rows.filterRightRow.laid w) false (laidWorld os) #[.int .i64 0, .slice none 0 0, .slice none 0 0] 8 rfl (by kernel_rfl) (by kernel_rfl) (by kernel_rfl) (by kernel_rfl) (by kernel_rfl) (laidWorld_met os _)) ?_
  intro W base args ds gs before hval0 hW _ hsz hL _
  have hval : ∀ (j : Nat) t v, Tryd.f12.params[j]? = some t → args[j]? = some v → Value.okWide Tryd.prog W .any base t v := hval0
  have hW0 := hW
  obtain ⟨p, q, hA0, hV, rfl, hfz, hnd⟩ := hW0
  have hA : DataW.TrodAll enc Tryd.prog W 0 (fun _ => true) true Tryd.f12.params.toList args.toList ds p := hA0
  rw [Tryd.params12] at hA hval hsz
  obtain ⟨v0, vs0, d0, ds0, p0, q0, hargs, rfl, rfl, h0, r0⟩ := trodAll_cons hA
  obtain ⟨v1, vs1, d1, ds1, p1, q1, rfl, rfl, rfl, h1, r1⟩ := trodAll_cons r0
  obtain ⟨v2, vs2, d2, ds2, p2, q2, rfl, rfl, rfl, h2, r2⟩ := trodAll_cons r1
  obtain ⟨rfl, rfl, rfl⟩ := trodAll_nil r2
  obtain rfl : args = #[v0, v1, v2] := by cases args; simp_all
  have hg := handle_of_laid hL
  have fin : ∀ (e : Ending) (W' : World), (e = .returned (.bool true) ∧ Below W.heap.size W W') → ∃ v, e = .returned v ∧ Rows.filterRightSpec.post enc Tryd.prog Tryd.f12 false true false false W _ v W' := fun e W' ⟨he, hb⟩ =>
    ⟨_, he, law_post 4 rfl Tryd.underlying4 (by kernel_rfl) hW rfl rfl hb⟩
  have hC0 : Tryd.prog.cellsOf 2 = 1 := by kernel_rfl
  have hC1 : Tryd.prog.cellsOf 123 = 1 := by kernel_rfl
  have hC2 : Tryd.prog.cellsOf 125 = 3 := by kernel_rfl
  have hC3 : Tryd.prog.cellsOf 124 = 1 := by kernel_rfl
  have hC4 : Tryd.prog.cellsOf 38 = 1 := by kernel_rfl
  obtain ⟨a0, rfl, rfl, rfl, w0⟩ := open_int Tryd.underlying2 (hval 0 2 v0 rfl rfl) h0
  have hb0 := bounds_i64 w0
  obtain ⟨o1, l1, c1, rfl⟩ := okWide_slice Tryd.underlying123 (hval 1 123 v1 rfl rfl)
  obtain ⟨fu1, hr1⟩ := h1
  replace hr1 : DataW.trod enc Tryd.prog W _ _ _ fu1 123 [.slice o1 l1 c1] = some (_, _) := hr1
  have hq1 : ∀ (n : Nat) (cs' : List Value) (y : DataW H × List MemPlace), cs'.length = ((.cons (.int .u32) (.cons (.int .u32) (.cons (.int .u32) .nil))) : SK).wd → DataW.trod enc Tryd.prog W 0 (fun _ => true) true n 125 cs' = some y → ∃ ds : List Value, ds.length = ((.cons (.int .u32) (.cons (.int .u32) (.cons (.int .u32) .nil))) : SK).wd ∧ (∀ x ∈ ds, inK x) ∧ ∀ j a, ((.cons (.int .u32) (.cons (.int .u32) (.cons (.int .u32) .nil))) : SK).get j = some a → deepC (fun _ _ => True) W a (cs'.getD j Go.undef) (ds.getD j Go.undef) := by
    intro n cs' y hl hh
    obtain ⟨b0, b1, b2, rfl⟩ := list_of3 hl
    obtain ⟨ysq1, mq1, _, hxq1, _, hlq1, hfq1⟩ := Go.DataW.trod_array Tryd.underlying125 hh
    obtain ⟨zq1_0, zq1_1, zq1_2, rfl⟩ := list_of3 hlq1
    have yq1_0 := hfq1 0 (by omega)
    have yq1_1 := hfq1 1 (by omega)
    have yq1_2 := hfq1 2 (by omega)
    simp [hC0, hC1, hC2, hC3, hC4] at yq1_0 yq1_1 yq1_2
    obtain ⟨aq1_0, eq1_0, _, wq1_0⟩ := Go.DataW.trod_int Tryd.underlying124 yq1_0
    obtain ⟨aq1_1, eq1_1, _, wq1_1⟩ := Go.DataW.trod_int Tryd.underlying124 yq1_1
    obtain ⟨aq1_2, eq1_2, _, wq1_2⟩ := Go.DataW.trod_int Tryd.underlying124 yq1_2
    simp at eq1_0 eq1_1 eq1_2
    subst eq1_0 eq1_1 eq1_2
    refine ⟨_, hl, fun x hx => ?_, fun j a ha => ?_⟩
    · simp only [List.mem_cons, List.not_mem_nil, or_false] at hx
      rcases hx with rfl | rfl | rfl
      · intro k n e; cases e; exact wq1_0
      · intro k n e; cases e; exact wq1_1
      · intro k n e; cases e; exact wq1_2
    match j, ha with
    | 0, ha => obtain rfl := Option.some.inj ha; exact ⟨rfl, rfl⟩
    | 1, ha => obtain rfl := Option.some.inj ha; exact ⟨rfl, rfl⟩
    | 2, ha => obtain rfl := Option.some.inj ha; exact ⟨rfl, rfl⟩
  obtain ⟨s1, hd1, hwt1, hk1⟩ := deep_openQ (Q := inK) (K := (.cons (.int .u32) (.cons (.int .u32) (.cons (.int .u32) .nil)))) Tryd.underlying123 hC2 (by decide) (of_decide_eq_true (by kernel_rfl)) hq1 hr1 (fun el sp e => sized_slice hsz (j := 1) (t := 123) (e := 125) rfl (congrArg some e) Tryd.underlying123)
  obtain ⟨o2, l2, c2, rfl⟩ := okWide_slice Tryd.underlying38 (hval 2 38 v2 rfl rfl)
  obtain ⟨fu2, hr2⟩ := h2
  replace hr2 : DataW.trod enc Tryd.prog W _ _ _ fu2 38 [.slice o2 l2 c2] = some (_, _) := hr2
  have hq2 : ∀ (n : Nat) (cs' : List Value) (y : DataW H × List MemPlace), cs'.length = ((.cons (.int .i64) .nil) : SK).wd → DataW.trod enc Tryd.prog W 0 (fun _ => true) true n 2 cs' = some y → ∃ ds : List Value, ds.length = ((.cons (.int .i64) .nil) : SK).wd ∧ (∀ x ∈ ds, inK x) ∧ ∀ j a, ((.cons (.int .i64) .nil) : SK).get j = some a → deepC (fun _ _ => True) W a (cs'.getD j Go.undef) (ds.getD j Go.undef) := by
    intro n cs' y hl hh
    obtain ⟨b0, rfl⟩ := list_of1 hl
    obtain ⟨n0, e0, _, w0⟩ := Go.DataW.trod_int Tryd.underlying2 hh
    obtain rfl := (List.cons.inj e0).1
    refine ⟨_, hl, fun x hx => ?_, fun j a ha => ?_⟩
    · simp only [List.mem_cons, List.not_mem_nil, or_false] at hx
      rcases hx with rfl
      · intro k n e; cases e; exact w0
    match j, ha with
    | 0, ha => obtain rfl := Option.some.inj ha; exact ⟨rfl, rfl⟩
  obtain ⟨s2, hd2, hwt2, hk2⟩ := deep_openQ (Q := inK) (K := (.cons (.int .i64) .nil)) Tryd.underlying38 hC0 (by decide) (of_decide_eq_true (by kernel_rfl)) hq2 hr2 (fun el sp e => sized_slice hsz (j := 2) (t := 38) (e := 2) rfl (congrArg some e) Tryd.underlying38)
  exact (good_run fgg_wRight rfl rfl [a0] [] [s1, s2] [] W [.int .i64 a0, .slice o1 l1 c1, .slice o2 l2 c2] rfl rfl rfl rfl (by 
      exact ⟨hb0, okR_iff.2 hk1, okR_iff.2 hk2⟩)
    (fun x hx => by
      obtain rfl := List.mem_singleton.1 hx
      exact ⟨trivial, handle_lt hg, hg⟩)
    ⟨rfl, ⟨hd1, fun _ _ h => by cases h⟩, ⟨hd2, fun _ _ h => by cases h⟩, trivial⟩).mono fin

theorem row_holds : Rows.FilterRightSaid :=
  OpenClaim.holds_of_wide 12 Tryd.f12 rfl rfl rfl rfl rfl rfl rfl ⟨rfl, rfl, rfl, rfl, rfl⟩ rfl rfl rfl rfl rfl (by kernel_rfl) Tryd.func12 (by kernel_rfl)
    (of_decide_eq_true (by kernel_rfl)) (by unfold Func.isWrapper; rw [if_neg (of_decide_eq_false (by kernel_rfl))]; exact ⟨rfl, rfl⟩)
    (fun os started H enc _ => lifted os started H enc)

theorem card_holds : Rows.FilterRightCardSaid :=
  Claim7.holds_tied_plain_at .later [] [.handle] true Rows.filterRightCard.stood.harness true
    row_holds (fun _ h => by cases h) (by kernel_rfl) (fun _ h => by cases h) filterRight_row_tie rfl ⟨rfl, rfl⟩ (by kernel_rfl) rfl
    (fun f fn hf hfn => by
      obtain rfl : f = 12 := Option.some.inj ((show Tryd.prog.funcNamed "fusee/fuseelaw15.FilterRight" = some 12 by kernel_rfl).symm.trans hf) |>.symm
      obtain rfl : fn = Tryd.f12 := (Option.some.inj (Tryd.func12.symm.trans hfn)).symm
      exact ⟨by kernel_rfl, fun j t ht => by
        rw [Tryd.params12] at ht
        have hall : ∀ x ∈ Tryd.f12.params.toList, Tryd.prog.wantsStandIn x = false := by rw [Tryd.params12]; intro x hx; simp only [List.mem_cons, List.not_mem_nil, or_false] at hx; first | (rcases hx with rfl | rfl | rfl | rfl | rfl | rfl <;> kernel_rfl) | (rcases hx with rfl | rfl | rfl | rfl | rfl <;> kernel_rfl) | (rcases hx with rfl | rfl | rfl | rfl <;> kernel_rfl) | (rcases hx with rfl | rfl | rfl <;> kernel_rfl) | (rcases hx with rfl | rfl <;> kernel_rfl) | (obtain rfl := hx; kernel_rfl)
        refine hall t ?_
        rw [Tryd.params12]
        exact Array.mem_toList_iff.2 (Array.mem_of_getElem? ht)⟩)
    (by kernel_rfl)
#print axioms card_holds
end Go.Proofs.YtflckmhlobpfiaaDoor.filterRight
