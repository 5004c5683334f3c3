/-
  The statement fuseelaw15.FilterOld, closed: the row from its walk, the card from the row and the given tie.
-/
import Derived.Test.YtflckmhlobpfiaaDoorZ15fqb
import Derived.Test.YtflckmhlobpfiaaDoorFrameqb
import Derived.Test.YtflckmhlobpfiaaDoorTie
import Derived.Test.YtflckmhlobpfiaaDoorCards
import Derived.Test.YtflckmhlobpfiaaDoorSyoqb
import Derived.SevenTiedAt
namespace Go.Proofs.YtflckmhlobpfiaaDoor.filterOld
open Go.ChangeShapes Go.WideShapes Go.RowKit Go.Proofs.YtflckmhlobpfiaaDoor.Sy
set_option linter.unusedVariables false

theorem arr_of1 {xs : Array Value} (h : xs.size = 1) : ∃ c0, xs = #[c0] := by
  obtain ⟨l⟩ := xs
  match l, h with
  | [c0], _ => exact ⟨c0, rfl⟩
theorem list_of1 {α : Type} {xs : List α} (h : xs.length = 1) : ∃ c0, xs = [c0] := by
  match xs, h with
  | [c0], _ => exact ⟨c0, rfl⟩
theorem arr_of2 {xs : Array Value} (h : xs.size = 2) : ∃ c0 c1, xs = #[c0, c1] := by
  obtain ⟨l⟩ := xs
  match l, h with
  | [c0, c1], _ => exact ⟨c0, c1, rfl⟩
theorem list_of2 {α : Type} {xs : List α} (h : xs.length = 2) : ∃ c0 c1, xs = [c0, c1] := by
  match xs, h with
  | [c0, c1], _ => exact ⟨c0, c1, rfl⟩
theorem arr_of3 {xs : Array Value} (h : xs.size = 3) : ∃ c0 c1 c2, xs = #[c0, c1, c2] := by
  obtain ⟨l⟩ := xs
  match l, h with
  | [c0, c1, c2], _ => exact ⟨c0, c1, c2, rfl⟩
theorem list_of3 {α : Type} {xs : List α} (h : xs.length = 3) : ∃ c0 c1 c2, xs = [c0, c1, c2] := by
  match xs, h with
  | [c0, c1, c2], _ => exact ⟨c0, c1, c2, rfl⟩
theorem arr_of4 {xs : Array Value} (h : xs.size = 4) : ∃ c0 c1 c2 c3, xs = #[c0, c1, c2, c3] := by
  obtain ⟨l⟩ := xs
  match l, h with
  | [c0, c1, c2, c3], _ => exact ⟨c0, c1, c2, c3, rfl⟩
theorem list_of4 {α : Type} {xs : List α} (h : xs.length = 4) : ∃ c0 c1 c2 c3, xs = [c0, c1, c2, c3] := by
  match xs, h with
  | [c0, c1, c2, c3], _ => exact ⟨c0, c1, c2, c3, rfl⟩
theorem okWide_arr {P : Program} {w : World} {r : Reach} {base : Nat} {t e : TypeId} {n : Nat} {v : Value} (ht : P.underlying t = some (.array n e)) (h : Value.okWide P w r base t v) : ∃ cs, v = .agg cs ∧ cs.size = P.cellsOf t := by
  simp only [Value.okWide, ht] at h
  obtain ⟨cs, h1, h2, _⟩ := h
  exact ⟨cs, h1, h2⟩
set_option linter.unusedSimpArgs false
set_option maxRecDepth 100000 in
theorem lifted (os : Os) (started : os.Started) (H : Type) (enc : TypeId × Value → H) :
    ReturnsInHanded {} Tryd.checked os 13 .any (fun w args => (Rows.filterOldSpec.pre enc Tryd.prog Tryd.f13 [] false w args ∧ laidMetH Tryd.prog Rows.filterOldRow.laid w) ∧ sizedMet enc Tryd.prog Tryd.f13 (OpenSpec.ofChange Rows.filterOldSpec) false w args)
      (Rows.filterOldSpec.post enc Tryd.prog Tryd.f13 false true false false) := by
  refine returnsInHanded_of_change_and (C := Tryd.checked) (X := fun w _ => laidMetH Tryd.prog Rows.filterOldRow.laid w) (fun _ _ _ hh h => h.of_heap hh) Tryd.own started (by kernel_rfl) Tryd.func13
    (ChangeSpec.witness_at (enc := enc) (C := Tryd.checked) (os := os) (X := fun w _ => laidMetH Tryd.prog Rows.filterOldRow.laid w) false (laidWorld os) #[.agg #[.slice none 0 0], .agg #[.int .i64 0, .int .i64 0, .int .i64 0, .int .i64 0], .int .i64 0] 8 rfl (by kernel_rfl) (by kernel_rfl) (by kernel_rfl) (by kernel_rfl) (by kernel_rfl) (laidWorld_met os _)) ?_
  intro W base args ds gs before hval0 hW _ hsz hL _
  have hval : ∀ (j : Nat) t v, Tryd.f13.params[j]? = some t → args[j]? = some v → Value.okWide Tryd.prog W .any base t v := hval0
  have hW0 := hW
  obtain ⟨p, q, hA0, hV, rfl, hfz, hnd⟩ := hW0
  have hA : DataW.TrodAll enc Tryd.prog W 0 (fun _ => true) true Tryd.f13.params.toList args.toList ds p := hA0
  rw [Tryd.params13] at hA hval hsz
  obtain ⟨v0, vs0, d0, ds0, p0, q0, hargs, rfl, rfl, h0, r0⟩ := trodAll_cons hA
  obtain ⟨v1, vs1, d1, ds1, p1, q1, rfl, rfl, rfl, h1, r1⟩ := trodAll_cons r0
  obtain ⟨v2, vs2, d2, ds2, p2, q2, rfl, rfl, rfl, h2, r2⟩ := trodAll_cons r1
  obtain ⟨rfl, rfl, rfl⟩ := trodAll_nil r2
  obtain rfl : args = #[v0, v1, v2] := by cases args; simp_all
  have hg := handle_of_laid hL
  have fin : ∀ (e : Ending) (W' : World), (e = .returned (.bool true) ∧ Below W.heap.size W W') → ∃ v, e = .returned v ∧ Rows.filterOldSpec.post enc Tryd.prog Tryd.f13 false true false false W _ v W' := fun e W' ⟨he, hb⟩ =>
    ⟨_, he, law_post 4 rfl Tryd.underlying4 (by kernel_rfl) hW rfl rfl hb⟩
  have hC0 : Tryd.prog.cellsOf 100 = 1 := by kernel_rfl
  have hC1 : Tryd.prog.cellsOf 98 = 1 := by kernel_rfl
  have hC2 : Tryd.prog.cellsOf 102 = 4 := by kernel_rfl
  have hC3 : Tryd.prog.cellsOf 3 = 1 := by kernel_rfl
  have hC4 : Tryd.prog.cellsOf 2 = 1 := by kernel_rfl
  have hC5 : Tryd.prog.cellsOf 91 = 2 := by kernel_rfl
  obtain ⟨cs0, rfl, hsz0⟩ := okWide_struct Tryd.underlying100 (hval 0 100 v0 rfl rfl)
  rw [hC0] at hsz0
  obtain ⟨c0_0, rfl⟩ := arr_of1 hsz0
  obtain ⟨fu0, hr0⟩ := h0
  replace hr0 : DataW.trod enc Tryd.prog W _ _ _ fu0 100 [c0_0] = some (_, _) := hr0
  obtain ⟨ys0, m0, _, hx0, _, hl0, hf0⟩ := Go.DataW.trod_struct Tryd.underlying100 hr0
  obtain ⟨z0_0, rfl⟩ := list_of1 hl0
  simp only [Prod.mk.injEq] at hx0
  obtain ⟨rfl, rfl⟩ := hx0
  have y0_0 := hf0 0 _ rfl
  simp [hC0, hC1, hC2, hC3, hC4, hC5] at y0_0
  have hq0_0 : ∀ (n : Nat) (cs' : List Value) (y : DataW H × List MemPlace), cs'.length = ((.cons (.int .i64) (.cons (.int .i64) (.cons (.int .i64) (.cons (.int .i64) .nil)))) : SK).wd → DataW.trod enc Tryd.prog W 0 (fun _ => true) true n 102 cs' = some y → ∃ ds : List Value, ds.length = ((.cons (.int .i64) (.cons (.int .i64) (.cons (.int .i64) (.cons (.int .i64) .nil)))) : SK).wd ∧ (∀ x ∈ ds, inK x) ∧ ∀ j a, ((.cons (.int .i64) (.cons (.int .i64) (.cons (.int .i64) (.cons (.int .i64) .nil)))) : SK).get j = some a → deepC (fun _ _ => True) W a (cs'.getD j Go.undef) (ds.getD j Go.undef) := by
    intro n cs' y hl hh
    obtain ⟨b0, b1, b2, b3, rfl⟩ := list_of4 hl
    obtain ⟨ysq0_0, mq0_0, _, hxq0_0, _, hlq0_0, hfq0_0⟩ := Go.DataW.trod_struct Tryd.underlying102 hh
    obtain ⟨zq0_0_0, zq0_0_1, zq0_0_2, rfl⟩ := list_of3 hlq0_0
    have yq0_0_0 := hfq0_0 0 _ rfl
    have yq0_0_1 := hfq0_0 1 _ rfl
    have yq0_0_2 := hfq0_0 2 _ rfl
    simp [hC0, hC1, hC2, hC3, hC4, hC5] at yq0_0_0 yq0_0_1 yq0_0_2
    obtain ⟨aq0_0_0, eq0_0_0, _, wq0_0_0⟩ := Go.DataW.trod_int Tryd.underlying3 yq0_0_0
    obtain ⟨aq0_0_1, eq0_0_1, _, wq0_0_1⟩ := Go.DataW.trod_int Tryd.underlying2 yq0_0_1
    obtain ⟨ysq0_0_2, mq0_0_2, _, hxq0_0_2, _, hlq0_0_2, hfq0_0_2⟩ := Go.DataW.trod_struct Tryd.underlying91 yq0_0_2
    obtain ⟨zq0_0_2_0, zq0_0_2_1, rfl⟩ := list_of2 hlq0_0_2
    have yq0_0_2_0 := hfq0_0_2 0 _ rfl
    have yq0_0_2_1 := hfq0_0_2 1 _ rfl
    simp [hC0, hC1, hC2, hC3, hC4, hC5] at yq0_0_2_0 yq0_0_2_1
    obtain ⟨aq0_0_2_0, eq0_0_2_0, _, wq0_0_2_0⟩ := Go.DataW.trod_int Tryd.underlying2 yq0_0_2_0
    obtain ⟨aq0_0_2_1, eq0_0_2_1, _, wq0_0_2_1⟩ := Go.DataW.trod_int Tryd.underlying2 yq0_0_2_1
    simp at eq0_0_0 eq0_0_1 eq0_0_2_0 eq0_0_2_1
    subst eq0_0_0 eq0_0_1 eq0_0_2_0 eq0_0_2_1
    refine ⟨_, hl, fun x hx => ?_, fun j a ha => ?_⟩
    · simp only [List.mem_cons, List.not_mem_nil, or_false] at hx
      rcases hx with rfl | rfl | rfl | rfl
      · intro k n e; cases e; exact wq0_0_0
      · intro k n e; cases e; exact wq0_0_1
      · intro k n e; cases e; exact wq0_0_2_0
      · intro k n e; cases e; exact wq0_0_2_1
    match j, ha with
    | 0, ha => obtain rfl := Option.some.inj ha; exact ⟨rfl, rfl⟩
    | 1, ha => obtain rfl := Option.some.inj ha; exact ⟨rfl, rfl⟩
    | 2, ha => obtain rfl := Option.some.inj ha; exact ⟨rfl, rfl⟩
    | 3, ha => obtain rfl := Option.some.inj ha; exact ⟨rfl, rfl⟩
  obtain ⟨s0_0, hd0_0, hwt0_0, hk0_0⟩ := deep_openQ (Q := inK) (K := (.cons (.int .i64) (.cons (.int .i64) (.cons (.int .i64) (.cons (.int .i64) .nil))))) Tryd.underlying98 hC2 (by decide) (of_decide_eq_true (by kernel_rfl)) hq0_0 y0_0 (fun el sp e => by
    have hs := sized_field hsz (j := 0) (t := 100) rfl rfl Tryd.underlying100
    exact sized_slice hs (j := 0) (t := 98) (e := 102) rfl (congrArg some e) Tryd.underlying98)
  obtain ⟨cs1, rfl, hsz1⟩ := okWide_struct Tryd.underlying102 (hval 1 102 v1 rfl rfl)
  rw [hC2] at hsz1
  obtain ⟨c1_0, c1_1, c1_2, c1_3, rfl⟩ := arr_of4 hsz1
  obtain ⟨fu1, hr1⟩ := h1
  replace hr1 : DataW.trod enc Tryd.prog W _ _ _ fu1 102 [c1_0, c1_1, c1_2, c1_3] = some (_, _) := hr1
  obtain ⟨ys1, m1, _, hx1, _, hl1, hf1⟩ := Go.DataW.trod_struct Tryd.underlying102 hr1
  obtain ⟨z1_0, z1_1, z1_2, rfl⟩ := list_of3 hl1
  simp only [Prod.mk.injEq] at hx1
  obtain ⟨rfl, rfl⟩ := hx1
  have y1_0 := hf1 0 _ rfl
  have y1_1 := hf1 1 _ rfl
  have y1_2 := hf1 2 _ rfl
  simp [hC0, hC1, hC2, hC3, hC4, hC5] at y1_0 y1_1 y1_2
  obtain ⟨a1_0, e1_0, _, w1_0⟩ := Go.DataW.trod_int Tryd.underlying3 y1_0
  obtain ⟨a1_1, e1_1, _, w1_1⟩ := Go.DataW.trod_int Tryd.underlying2 y1_1
  obtain ⟨ys1_2, m1_2, _, hx1_2, _, hl1_2, hf1_2⟩ := Go.DataW.trod_struct Tryd.underlying91 y1_2
  obtain ⟨z1_2_0, z1_2_1, rfl⟩ := list_of2 hl1_2
  have y1_2_0 := hf1_2 0 _ rfl
  have y1_2_1 := hf1_2 1 _ rfl
  simp [hC0, hC1, hC2, hC3, hC4, hC5] at y1_2_0 y1_2_1
  obtain ⟨a1_2_0, e1_2_0, _, w1_2_0⟩ := Go.DataW.trod_int Tryd.underlying2 y1_2_0
  obtain ⟨a1_2_1, e1_2_1, _, w1_2_1⟩ := Go.DataW.trod_int Tryd.underlying2 y1_2_1
  simp at e1_0 e1_1 e1_2_0 e1_2_1
  subst e1_0 e1_1 e1_2_0 e1_2_1
  have hba1_0 := bounds_i64 w1_0
  have hba1_1 := bounds_i64 w1_1
  have hba1_2_0 := bounds_i64 w1_2_0
  have hba1_2_1 := bounds_i64 w1_2_1
  obtain ⟨a2, rfl, rfl, rfl, w2⟩ := open_int Tryd.underlying2 (hval 2 2 v2 rfl rfl) h2
  have hb2 := bounds_i64 w2
  exact (good_run ffg_wOld rfl rfl [a1_0, a1_1, a1_2_0, a1_2_1, a2] [] [s0_0] [] W [.agg #[c0_0], .agg #[.int .i64 a1_0, .int .i64 a1_1, .int .i64 a1_2_0, .int .i64 a1_2_1], .int .i64 a2] rfl rfl rfl rfl (by 
      have hw : (Sy.rows s0_0).length / 4 * 32 ≤ reachBytes := by
        have hby : Tryd.prog.bytesOf 102 = 32 := by kernel_rfl
        rw [hby] at hwt0_0
        exact hwt0_0
      have h3 : (((Sy.rows s0_0).length / 4 : Nat) : Int) ≤ 4398046511103 := by
        have := reachBytes_lt
        omega
      exact ⟨okR_iff.2 hk0_0, hba1_0, hba1_1, hba1_2_0, hba1_2_1, hb2, h3⟩)
    (fun x hx => by
      obtain rfl := List.mem_singleton.1 hx
      exact ⟨trivial, handle_lt hg, hg⟩)
    ⟨⟨[c0_0], rfl, ⟨hd0_0, fun _ _ h => by cases h⟩, rfl⟩, ⟨[.int .i64 a1_0, .int .i64 a1_1, .int .i64 a1_2_0, .int .i64 a1_2_1], rfl, rfl, rfl, rfl, rfl, rfl⟩, rfl, trivial⟩).mono fin

theorem row_holds : Rows.FilterOldSaid :=
  OpenClaim.holds_of_wide 13 Tryd.f13 rfl rfl rfl rfl rfl rfl rfl ⟨rfl, rfl, rfl, rfl, rfl⟩ rfl rfl rfl rfl rfl (by kernel_rfl) Tryd.func13 (by kernel_rfl)
    (of_decide_eq_true (by kernel_rfl)) (by unfold Func.isWrapper; rw [if_neg (of_decide_eq_false (by kernel_rfl))]; exact ⟨rfl, rfl⟩)
    (fun os started H enc _ => lifted os started H enc)

theorem card_holds : Rows.FilterOldCardSaid :=
  Claim7.holds_tied_plain_at .later [] [.handle] true Rows.filterOldCard.stood.harness true
    row_holds (fun _ h => by cases h) (by kernel_rfl) (fun _ h => by cases h) filterOld_row_tie rfl ⟨rfl, rfl⟩ (by kernel_rfl) rfl
    (fun f fn hf hfn => by
      obtain rfl : f = 13 := Option.some.inj ((show Tryd.prog.funcNamed "fusee/fuseelaw15.FilterOld" = some 13 by kernel_rfl).symm.trans hf) |>.symm
      obtain rfl : fn = Tryd.f13 := (Option.some.inj (Tryd.func13.symm.trans hfn)).symm
      exact ⟨by kernel_rfl, fun j t ht => by
        rw [Tryd.params13] at ht
        have hall : ∀ x ∈ Tryd.f13.params.toList, Tryd.prog.wantsStandIn x = false := by rw [Tryd.params13]; intro x hx; simp only [List.mem_cons, List.not_mem_nil, or_false] at hx; first | (rcases hx with rfl | rfl | rfl | rfl | rfl | rfl <;> kernel_rfl) | (rcases hx with rfl | rfl | rfl | rfl | rfl <;> kernel_rfl) | (rcases hx with rfl | rfl | rfl | rfl <;> kernel_rfl) | (rcases hx with rfl | rfl | rfl <;> kernel_rfl) | (rcases hx with rfl | rfl <;> kernel_rfl) | (obtain rfl := hx; kernel_rfl)
        refine hall t ?_
        rw [Tryd.params13]
        exact Array.mem_toList_iff.2 (Array.mem_of_getElem? ht)⟩)
    (by kernel_rfl)
#print axioms card_holds
end Go.Proofs.YtflckmhlobpfiaaDoor.filterOld
