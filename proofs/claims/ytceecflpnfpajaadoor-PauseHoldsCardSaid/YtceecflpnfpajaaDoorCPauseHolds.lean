/-
  The statement fuseelaw27.PauseHolds, closed: the row from its walk, the card from the row and the given tie.
-/
import Derived.Test.YtceecflpnfpajaaDoorZ27qa
import Derived.Test.YtceecflpnfpajaaDoorFrameqa
import Derived.Test.YtceecflpnfpajaaDoorTie
import Derived.Test.YtceecflpnfpajaaDoorCards
import Derived.Test.YtceecflpnfpajaaDoorSyoqa
import Derived.SevenTiedAt
namespace Go.Proofs.YtceecflpnfpajaaDoor.pauseHolds
open Go.ChangeShapes Go.WideShapes Go.RowKit Go.Proofs.YtceecflpnfpajaaDoor.Sy
set_option linter.unusedVariables false

theorem arr_of1 {xs : Array Value} (h : xs.size = 1) : ∃ c0, xs = #[c0] := by
  obtain ⟨l⟩ := xs
  match l, h with
  | [c0], _ => exact ⟨c0, rfl⟩
theorem list_of1 {α : Type} {xs : List α} (h : xs.length = 1) : ∃ c0, xs = [c0] := by
  match xs, h with
  | [c0], _ => exact ⟨c0, rfl⟩
theorem arr_of2 {xs : Array Value} (h : xs.size = 2) : ∃ c0 c1, xs = #[c0, c1] := by
  obtain ⟨l⟩ := xs
  match l, h with
  | [c0, c1], _ => exact ⟨c0, c1, rfl⟩
theorem list_of2 {α : Type} {xs : List α} (h : xs.length = 2) : ∃ c0 c1, xs = [c0, c1] := by
  match xs, h with
  | [c0, c1], _ => exact ⟨c0, c1, rfl⟩
theorem okWide_arr {P : Program} {w : World} {r : Reach} {base : Nat} {t e : TypeId} {n : Nat} {v : Value} (ht : P.underlying t = some (.array n e)) (h : Value.okWide P w r base t v) : ∃ cs, v = .agg cs ∧ cs.size = P.cellsOf t := by
  simp only [Value.okWide, ht] at h
  obtain ⟨cs, h1, h2, _⟩ := h
  exact ⟨cs, h1, h2⟩
set_option linter.unusedSimpArgs false
set_option maxRecDepth 100000 in
theorem lifted (os : Os) (started : os.Started) (H : Type) (enc : TypeId × Value → H) :
    ReturnsInHanded {} Tryd.checked os 9 .any (fun w args => (Rows.pauseHoldsSpec.pre enc Tryd.prog Tryd.f9 [] false w args ∧ laidMetH Tryd.prog Rows.pauseHoldsRow.laid w) ∧ sizedMet enc Tryd.prog Tryd.f9 (OpenSpec.ofChange Rows.pauseHoldsSpec) false w args)
      (Rows.pauseHoldsSpec.post enc Tryd.prog Tryd.f9 false true false false) := by
  refine returnsInHanded_of_change_and (C := Tryd.checked) (X := fun w _ => laidMetH Tryd.prog Rows.pauseHoldsRow.laid w) (fun _ _ _ hh h => h.of_heap hh) Tryd.own started (by kernel_rfl) Tryd.func9
    (ChangeSpec.witness_at (enc := enc) (C := Tryd.checked) (os := os) (X := fun w _ => laidMetH Tryd.prog Rows.pauseHoldsRow.laid w) false (laidWorld os) #[.slice none 0 0] 8 rfl (by kernel_rfl) (by kernel_rfl) (by kernel_rfl) (by kernel_rfl) (by kernel_rfl) (laidWorld_met os _)) ?_
  intro W base args ds gs before hval0 hW _ hsz hL _
  have hval : ∀ (j : Nat) t v, Tryd.f9.params[j]? = some t → args[j]? = some v → Value.okWide Tryd.prog W .any base t v := hval0
  have hW0 := hW
  obtain ⟨p, q, hA0, hV, rfl, hfz, hnd⟩ := hW0
  have hA : DataW.TrodAll enc Tryd.prog W 0 (fun _ => true) true Tryd.f9.params.toList args.toList ds p := hA0
  rw [Tryd.params9] at hA hval hsz
  obtain ⟨v0, vs0, d0, ds0, p0, q0, hargs, rfl, rfl, h0, r0⟩ := trodAll_cons hA
  obtain ⟨rfl, rfl, rfl⟩ := trodAll_nil r0
  obtain rfl : args = #[v0] := by cases args; simp_all
  have hg := handle_of_laid hL
  have fin : ∀ (e : Ending) (W' : World), (e = .returned (.bool true) ∧ Below W.heap.size W W') → ∃ v, e = .returned v ∧ Rows.pauseHoldsSpec.post enc Tryd.prog Tryd.f9 false true false false W _ v W' := fun e W' ⟨he, hb⟩ =>
    ⟨_, he, law_post 4 rfl Tryd.underlying4 (by kernel_rfl) hW rfl rfl hb⟩
  have hC0 : Tryd.prog.cellsOf 86 = 1 := by kernel_rfl
  have hC1 : Tryd.prog.cellsOf 91 = 2 := by kernel_rfl
  have hC2 : Tryd.prog.cellsOf 90 = 1 := by kernel_rfl
  obtain ⟨o0, l0, c0, rfl⟩ := okWide_slice Tryd.underlying86 (hval 0 86 v0 rfl rfl)
  obtain ⟨fu0, hr0⟩ := h0
  replace hr0 : DataW.trod enc Tryd.prog W _ _ _ fu0 86 [.slice o0 l0 c0] = some (_, _) := hr0
  have hq0 : ∀ (n : Nat) (cs' : List Value) (y : DataW H × List MemPlace), cs'.length = ((.cons (.int .u16) (.cons (.int .u16) .nil)) : SK).wd → DataW.trod enc Tryd.prog W 0 (fun _ => true) true n 91 cs' = some y → ∃ ds : List Value, ds.length = ((.cons (.int .u16) (.cons (.int .u16) .nil)) : SK).wd ∧ (∀ x ∈ ds, inK x) ∧ ∀ j a, ((.cons (.int .u16) (.cons (.int .u16) .nil)) : SK).get j = some a → deepC (fun _ _ => True) W a (cs'.getD j Go.undef) (ds.getD j Go.undef) := by
    intro n cs' y hl hh
    obtain ⟨b0, b1, rfl⟩ := list_of2 hl
    obtain ⟨ysq0, mq0, _, hxq0, _, hlq0, hfq0⟩ := Go.DataW.trod_array Tryd.underlying91 hh
    obtain ⟨zq0_0, zq0_1, rfl⟩ := list_of2 hlq0
    have yq0_0 := hfq0 0 (by omega)
    have yq0_1 := hfq0 1 (by omega)
    simp [hC0, hC1, hC2] at yq0_0 yq0_1
    obtain ⟨aq0_0, eq0_0, _, wq0_0⟩ := Go.DataW.trod_int Tryd.underlying90 yq0_0
    obtain ⟨aq0_1, eq0_1, _, wq0_1⟩ := Go.DataW.trod_int Tryd.underlying90 yq0_1
    simp at eq0_0 eq0_1
    subst eq0_0 eq0_1
    refine ⟨_, hl, fun x hx => ?_, fun j a ha => ?_⟩
    · simp only [List.mem_cons, List.not_mem_nil, or_false] at hx
      rcases hx with rfl | rfl
      · intro k n e; cases e; exact wq0_0
      · intro k n e; cases e; exact wq0_1
    match j, ha with
    | 0, ha => obtain rfl := Option.some.inj ha; exact ⟨rfl, rfl⟩
    | 1, ha => obtain rfl := Option.some.inj ha; exact ⟨rfl, rfl⟩
  obtain ⟨s0, hd0, hwt0, hk0⟩ := deep_openQ (Q := inK) (K := (.cons (.int .u16) (.cons (.int .u16) .nil))) Tryd.underlying86 hC1 (by decide) (of_decide_eq_true (by kernel_rfl)) hq0 hr0 (fun el sp e => sized_slice hsz (j := 0) (t := 86) (e := 91) rfl (congrArg some e) Tryd.underlying86)
  exact (good_run pg_wHolds rfl rfl [] [] [s0] [] W [.slice o0 l0 c0] rfl rfl rfl rfl (by exact okR_iff.2 hk0)
    (fun x hx => by
      obtain rfl := List.mem_singleton.1 hx
      exact ⟨trivial, handle_lt hg, hg⟩)
    ⟨⟨hd0, fun _ _ h => by cases h⟩, trivial⟩).mono fin

theorem row_holds : Rows.PauseHoldsSaid :=
  OpenClaim.holds_of_wide 9 Tryd.f9 rfl rfl rfl rfl rfl rfl rfl ⟨rfl, rfl, rfl, rfl, rfl⟩ rfl rfl rfl rfl rfl (by kernel_rfl) Tryd.func9 (by kernel_rfl)
    (of_decide_eq_true (by kernel_rfl)) (by unfold Func.isWrapper; rw [if_neg (of_decide_eq_false (by kernel_rfl))]; exact ⟨rfl, rfl⟩)
    (fun os started H enc _ => lifted os started H enc)

theorem card_holds : Rows.PauseHoldsCardSaid :=
  Claim7.holds_tied_plain_at .later [] [.handle] true Rows.pauseHoldsCard.stood.harness true
    row_holds (fun _ h => by cases h) (by kernel_rfl) (fun _ h => by cases h) pauseHolds_row_tie rfl ⟨rfl, rfl⟩ (by kernel_rfl) rfl
    (fun f fn hf hfn => by
      obtain rfl : f = 9 := Option.some.inj ((show Tryd.prog.funcNamed "fusee/fuseelaw27.PauseHolds" = some 9 by kernel_rfl).symm.trans hf) |>.symm
      obtain rfl : fn = Tryd.f9 := (Option.some.inj (Tryd.func9.symm.trans hfn)).symm
      exact ⟨by kernel_rfl, fun j t ht => by
        rw [Tryd.params9] at ht
        have hall : ∀ x ∈ Tryd.f9.params.toList, Tryd.prog.wantsStandIn x = false := by rw [Tryd.params9]; intro x hx; simp only [List.mem_cons, List.not_mem_nil, or_false] at hx; first | (rcases hx with rfl | rfl | rfl | rfl | rfl | rfl <;> kernel_rfl) | (rcases hx with rfl | rfl | rfl | rfl | rfl <;> kernel_rfl) | (rcases hx with rfl | rfl | rfl | rfl <;> kernel_rfl) | (rcases hx with rfl | rfl | rfl <;> kernel_rfl) | (rcases hx with rfl | rfl <;> kernel_rfl) | (obtain rfl := hx; kernel_rfl)
        refine hall t ?_
        rw [Tryd.params9]
        exact Array.mem_toList_iff.2 (Array.mem_of_getElem? ht)⟩)
    (by kernel_rfl)
#print axioms card_holds
end Go.Proofs.YtceecflpnfpajaaDoor.pauseHolds
