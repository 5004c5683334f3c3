/-
  The statement fuseelaw32.NetSteps, closed: the row from its walk, the card from the row and the given tie.
-/
import Derived.Test.YtbjgopehomnpgaaDoorZ32b
import Derived.Test.YtbjgopehomnpgaaDoorFrame
import Derived.Test.YtbjgopehomnpgaaDoorTie
import Derived.Test.YtbjgopehomnpgaaDoorCards
import Derived.Test.YtbjgopehomnpgaaDoorOpn
import Derived.SevenTiedAt
namespace Go.Proofs.YtbjgopehomnpgaaDoor.netSteps
open Go.ChangeShapes Go.WideShapes Go.RowKit Go.Proofs.YtbjgopehomnpgaaDoor.Sy
set_option linter.unusedVariables false

theorem arr_of1 {xs : Array Value} (h : xs.size = 1) : ∃ c0, xs = #[c0] := by
  obtain ⟨l⟩ := xs
  match l, h with
  | [c0], _ => exact ⟨c0, rfl⟩
theorem list_of1 {α : Type} {xs : List α} (h : xs.length = 1) : ∃ c0, xs = [c0] := by
  match xs, h with
  | [c0], _ => exact ⟨c0, rfl⟩
theorem arr_of2 {xs : Array Value} (h : xs.size = 2) : ∃ c0 c1, xs = #[c0, c1] := by
  obtain ⟨l⟩ := xs
  match l, h with
  | [c0, c1], _ => exact ⟨c0, c1, rfl⟩
theorem list_of2 {α : Type} {xs : List α} (h : xs.length = 2) : ∃ c0 c1, xs = [c0, c1] := by
  match xs, h with
  | [c0, c1], _ => exact ⟨c0, c1, rfl⟩
theorem okWide_arr {P : Program} {w : World} {r : Reach} {base : Nat} {t e : TypeId} {n : Nat} {v : Value} (ht : P.underlying t = some (.array n e)) (h : Value.okWide P w r base t v) : ∃ cs, v = .agg cs ∧ cs.size = P.cellsOf t := by
  simp only [Value.okWide, ht] at h
  obtain ⟨cs, h1, h2, _⟩ := h
  exact ⟨cs, h1, h2⟩
set_option linter.unusedSimpArgs false
set_option maxRecDepth 100000 in
theorem lifted (os : Os) (started : os.Started) (H : Type) (enc : TypeId × Value → H) :
    ReturnsInHanded {} Tryd.checked os 17 .any (fun w args => (Rows.netStepsSpec.pre enc Tryd.prog Tryd.f17 [] false w args ∧ laidMetH Tryd.prog Rows.netStepsRow.laid w) ∧ sizedMet enc Tryd.prog Tryd.f17 (OpenSpec.ofChange Rows.netStepsSpec) false w args)
      (Rows.netStepsSpec.post enc Tryd.prog Tryd.f17 false true false false) := by
  refine returnsInHanded_of_change_and (C := Tryd.checked) (X := fun w _ => laidMetH Tryd.prog Rows.netStepsRow.laid w) (fun _ _ _ hh h => h.of_heap hh) Tryd.own started (by kernel_rfl) Tryd.func17
    (ChangeSpec.witness_at (enc := enc) (C := Tryd.checked) (os := os) (X := fun w _ => laidMetH Tryd.prog Rows.netStepsRow.laid w) false (laidWorld os) #[.slice none 0 0, .agg #[.int .i64 0, .slice none 0 0], .int .i64 0] 8 rfl (by kernel_rfl) (by kernel_rfl) (by kernel_rfl) (by kernel_rfl) (by kernel_rfl) (laidWorld_met os _)) ?_
  intro W base args ds gs before hval0 hW _ hsz hL _
  have hval : ∀ (j : Nat) t v, Tryd.f17.params[j]? = some t → args[j]? = some v → Value.okWide Tryd.prog W .any base t v := hval0
  have hW0 := hW
  obtain ⟨p, q, hA0, hV, rfl, hfz, hnd⟩ := hW0
  have hA : DataW.TrodAll enc Tryd.prog W 0 (fun _ => true) true Tryd.f17.params.toList args.toList ds p := hA0
  rw [Tryd.params17] at hA hval hsz
  obtain ⟨v0, vs0, d0, ds0, p0, q0, hargs, rfl, rfl, h0, r0⟩ := trodAll_cons hA
  obtain ⟨v1, vs1, d1, ds1, p1, q1, rfl, rfl, rfl, h1, r1⟩ := trodAll_cons r0
  obtain ⟨v2, vs2, d2, ds2, p2, q2, rfl, rfl, rfl, h2, r2⟩ := trodAll_cons r1
  obtain ⟨rfl, rfl, rfl⟩ := trodAll_nil r2
  obtain rfl : args = #[v0, v1, v2] := by cases args; simp_all
  have hg := handle_of_laid hL
  have fin : ∀ (e : Ending) (W' : World), (e = .returned (.bool true) ∧ Below W.heap.size W W') → ∃ v, e = .returned v ∧ Rows.netStepsSpec.post enc Tryd.prog Tryd.f17 false true false false W _ v W' := fun e W' ⟨he, hb⟩ =>
    ⟨_, he, law_post 4 rfl Tryd.underlying4 (by kernel_rfl) hW rfl rfl hb⟩
  have hK0 : layK Tryd.prog 16 150 = some (.cons (.sl (.cons (.int .i64) (.cons (.sl (.cons (.int .u8) .nil)) .nil))) .nil) := by kernel_rfl
  obtain ⟨o0, l0, c0, rfl⟩ := okWide_slice Tryd.underlying150 (hval 0 150 v0 rfl rfl)
  obtain ⟨fu0, hr0⟩ := h0
  replace hr0 : DataW.trod enc Tryd.prog W _ _ _ fu0 150 [.slice o0 l0 c0] = some (_, _) := hr0
  obtain ⟨ys0, hO0⟩ := lay_open _ _ _ hK0 _ _ _ hr0 (light_of hsz (j := 0) (t := 150) rfl rfl)
  obtain ⟨y0_0, rfl⟩ := list_of1 hO0.ld
  obtain ⟨hd0, hf0⟩ := hO0.at_ 0 _ rfl
  have ht0 := (deep_typ _).1 _ _ hd0
  have hK1 : layK Tryd.prog 16 152 = some (.cons (.int .i64) (.cons (.sl (.cons (.int .u8) .nil)) .nil)) := by kernel_rfl
  have hC1 : Tryd.prog.cellsOf 152 = 2 := by kernel_rfl
  obtain ⟨cs1, rfl, hsz1⟩ := okWide_struct Tryd.underlying152 (hval 1 152 v1 rfl rfl)
  rw [hC1] at hsz1
  obtain ⟨c1_0, c1_1, rfl⟩ := arr_of2 hsz1
  obtain ⟨fu1, hr1⟩ := h1
  replace hr1 : DataW.trod enc Tryd.prog W _ _ _ fu1 152 [c1_0, c1_1] = some (_, _) := hr1
  obtain ⟨ys1, hO1⟩ := lay_open _ _ _ hK1 _ _ _ hr1 (light_of hsz (j := 1) (t := 152) rfl rfl)
  obtain ⟨y1_0, y1_1, rfl⟩ := list_of2 hO1.ld
  obtain ⟨a1_0, e1_0, _, w1_0⟩ := cell_int (hO1.at_ 0 _ rfl)
  have hb1_0 := bounds_i64 w1_0
  obtain ⟨hd1_1, hf1_1⟩ := hO1.at_ 1 _ rfl
  have ht1_1 := (deep_typ _).1 _ _ hd1_1
  obtain ⟨a2, rfl, rfl, rfl, w2⟩ := open_int Tryd.underlying3 (hval 2 3 v2 rfl rfl) h2
  have hb2 := bounds_i64 w2
  exact (good_run nbg_wSteps rfl rfl [a1_0, a2] [] [y0_0, y1_1] [] W [.slice o0 l0 c0, .agg #[c1_0, c1_1], .int .i64 a2] rfl rfl rfl rfl (by trivial)
    (fun x hx => by
      obtain rfl := List.mem_singleton.1 hx
      exact ⟨trivial, handle_lt hg, hg⟩)
    ⟨⟨hd0, fun _ _ h => by cases h⟩, ⟨[c1_0, c1_1], rfl, e1_0, ⟨hd1_1, fun _ _ h => by cases h⟩, rfl⟩, rfl, trivial⟩).mono fin

theorem row_holds : Rows.NetStepsSaid :=
  OpenClaim.holds_of_wide 17 Tryd.f17 rfl rfl rfl rfl rfl rfl rfl ⟨rfl, rfl, rfl, rfl, rfl⟩ rfl rfl rfl rfl rfl (by kernel_rfl) Tryd.func17 (by kernel_rfl)
    (of_decide_eq_true (by kernel_rfl)) (by unfold Func.isWrapper; rw [if_neg (of_decide_eq_false (by kernel_rfl))]; exact ⟨rfl, rfl⟩)
    (fun os started H enc _ => lifted os started H enc)

theorem card_holds : Rows.NetStepsCardSaid :=
  Claim7.holds_tied_plain_at .later [] [.handle] true Rows.netStepsCard.stood.harness true
    row_holds (fun _ h => by cases h) (by kernel_rfl) (fun _ h => by cases h) netSteps_row_tie rfl ⟨rfl, rfl⟩ (by kernel_rfl) rfl
    (fun f fn hf hfn => by
      obtain rfl : f = 17 := Option.some.inj ((show Tryd.prog.funcNamed "fusee/fuseelaw32.NetSteps" = some 17 by kernel_rfl).symm.trans hf) |>.symm
      obtain rfl : fn = Tryd.f17 := (Option.some.inj (Tryd.func17.symm.trans hfn)).symm
      exact ⟨by kernel_rfl, fun j t ht => by
        rw [Tryd.params17] at ht
        have hall : ∀ x ∈ Tryd.f17.params.toList, Tryd.prog.wantsStandIn x = false := by rw [Tryd.params17]; intro x hx; simp only [List.mem_cons, List.not_mem_nil, or_false] at hx; first | (rcases hx with rfl | rfl | rfl | rfl | rfl | rfl <;> kernel_rfl) | (rcases hx with rfl | rfl | rfl | rfl | rfl <;> kernel_rfl) | (rcases hx with rfl | rfl | rfl | rfl <;> kernel_rfl) | (rcases hx with rfl | rfl | rfl <;> kernel_rfl) | (rcases hx with rfl | rfl <;> kernel_rfl) | (obtain rfl := hx; kernel_rfl)
        refine hall t ?_
        rw [Tryd.params17]
        exact Array.mem_toList_iff.2 (Array.mem_of_getElem? ht)⟩)
    (by kernel_rfl)
#print axioms card_holds
end Go.Proofs.YtbjgopehomnpgaaDoor.netSteps
