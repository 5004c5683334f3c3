/-
  The statement fuseelaw10.ZoneForms, closed: the row from its walk, the card from the row and the given tie.
-/
import Derived.Test.YtbgmbbkmadkhgaaDoorZmqb
import Derived.Test.YtbgmbbkmadkhgaaDoorFrameqb
import Derived.Test.YtbgmbbkmadkhgaaDoorTie
import Derived.Test.YtbgmbbkmadkhgaaDoorCards
import Derived.Test.YtbgmbbkmadkhgaaDoorOpnqb
import Derived.SevenTiedAt
namespace Go.Proofs.YtbgmbbkmadkhgaaDoor.zoneForms
open Go.ChangeShapes Go.WideShapes Go.RowKit Go.Proofs.YtbgmbbkmadkhgaaDoor.Sy
set_option linter.unusedVariables false

theorem arr_of1 {xs : Array Value} (h : xs.size = 1) : ∃ c0, xs = #[c0] := by
  obtain ⟨l⟩ := xs
  match l, h with
  | [c0], _ => exact ⟨c0, rfl⟩
theorem list_of1 {α : Type} {xs : List α} (h : xs.length = 1) : ∃ c0, xs = [c0] := by
  match xs, h with
  | [c0], _ => exact ⟨c0, rfl⟩
theorem arr_of3 {xs : Array Value} (h : xs.size = 3) : ∃ c0 c1 c2, xs = #[c0, c1, c2] := by
  obtain ⟨l⟩ := xs
  match l, h with
  | [c0, c1, c2], _ => exact ⟨c0, c1, c2, rfl⟩
theorem list_of3 {α : Type} {xs : List α} (h : xs.length = 3) : ∃ c0 c1 c2, xs = [c0, c1, c2] := by
  match xs, h with
  | [c0, c1, c2], _ => exact ⟨c0, c1, c2, rfl⟩
theorem okWide_arr {P : Program} {w : World} {r : Reach} {base : Nat} {t e : TypeId} {n : Nat} {v : Value} (ht : P.underlying t = some (.array n e)) (h : Value.okWide P w r base t v) : ∃ cs, v = .agg cs ∧ cs.size = P.cellsOf t := by
  simp only [Value.okWide, ht] at h
  obtain ⟨cs, h1, h2, _⟩ := h
  exact ⟨cs, h1, h2⟩
set_option linter.unusedSimpArgs false
set_option maxRecDepth 100000 in
theorem lifted (os : Os) (started : os.Started) (H : Type) (enc : TypeId × Value → H) :
    ReturnsInHanded {} Tryd.checked os 6 .any (fun w args => (Rows.zoneFormsSpec.pre enc Tryd.prog Tryd.f6 [] false w args ∧ laidMetH Tryd.prog Rows.zoneFormsRow.laid w) ∧ sizedMet enc Tryd.prog Tryd.f6 (OpenSpec.ofChange Rows.zoneFormsSpec) false w args)
      (Rows.zoneFormsSpec.post enc Tryd.prog Tryd.f6 false true false false) := by
  refine returnsInHanded_of_change_and (C := Tryd.checked) (X := fun w _ => laidMetH Tryd.prog Rows.zoneFormsRow.laid w) (fun _ _ _ hh h => h.of_heap hh) Tryd.own started (by kernel_rfl) Tryd.func6
    (ChangeSpec.witness_at (enc := enc) (C := Tryd.checked) (os := os) (X := fun w _ => laidMetH Tryd.prog Rows.zoneFormsRow.laid w) false (laidWorld os) #[.agg #[.string ⟨#[]⟩, .int .i64 0, .slice none 0 0], .slice none 0 0] 8 rfl (by kernel_rfl) (by kernel_rfl) (by kernel_rfl) (by kernel_rfl) (by kernel_rfl) (laidWorld_met os _)) ?_
  intro W base args ds gs before hval0 hW _ hsz hL _
  have hval : ∀ (j : Nat) t v, Tryd.f6.params[j]? = some t → args[j]? = some v → Value.okWide Tryd.prog W .any base t v := hval0
  have hW0 := hW
  obtain ⟨p, q, hA0, hV, rfl, hfz, hnd⟩ := hW0
  have hA : DataW.TrodAll enc Tryd.prog W 0 (fun _ => true) true Tryd.f6.params.toList args.toList ds p := hA0
  rw [Tryd.params6] at hA hval hsz
  obtain ⟨v0, vs0, d0, ds0, p0, q0, hargs, rfl, rfl, h0, r0⟩ := trodAll_cons hA
  obtain ⟨v1, vs1, d1, ds1, p1, q1, rfl, rfl, rfl, h1, r1⟩ := trodAll_cons r0
  obtain ⟨rfl, rfl, rfl⟩ := trodAll_nil r1
  obtain rfl : args = #[v0, v1] := by cases args; simp_all
  have hg := handle_of_laid hL
  have fin : ∀ (e : Ending) (W' : World), (e = .returned (.bool true) ∧ Below W.heap.size W W') → ∃ v, e = .returned v ∧ Rows.zoneFormsSpec.post enc Tryd.prog Tryd.f6 false true false false W _ v W' := fun e W' ⟨he, hb⟩ =>
    ⟨_, he, law_post 4 rfl Tryd.underlying4 (by kernel_rfl) hW rfl rfl hb⟩
  have hK0 : layK Tryd.prog 16 66 = some (.cons .str (.cons (.int .i64) (.cons (.sl (.cons (.int .i64) (.cons (.int .i64) (.cons .str .nil)))) .nil))) := by kernel_rfl
  have hC0 : Tryd.prog.cellsOf 66 = 3 := by kernel_rfl
  obtain ⟨cs0, rfl, hsz0⟩ := okWide_struct Tryd.underlying66 (hval 0 66 v0 rfl rfl)
  rw [hC0] at hsz0
  obtain ⟨c0_0, c0_1, c0_2, rfl⟩ := arr_of3 hsz0
  obtain ⟨fu0, hr0⟩ := h0
  replace hr0 : DataW.trod enc Tryd.prog W _ _ _ fu0 66 [c0_0, c0_1, c0_2] = some (_, _) := hr0
  obtain ⟨ys0, hO0⟩ := lay_open _ _ _ hK0 _ _ _ hr0 (light_of hsz (j := 0) (t := 66) rfl rfl)
  obtain ⟨y0_0, y0_1, y0_2, rfl⟩ := list_of3 hO0.ld
  obtain ⟨a0_0, e0_0, _, w0_0⟩ := cell_str (hO0.at_ 0 _ rfl)
  obtain ⟨a0_1, e0_1, _, w0_1⟩ := cell_int (hO0.at_ 1 _ rfl)
  have hb0_1 := bounds_i64 w0_1
  obtain ⟨hd0_2, hf0_2⟩ := hO0.at_ 2 _ rfl
  have ht0_2 := (deep_typ _).1 _ _ hd0_2
  have hK1 : layK Tryd.prog 16 59 = some (.cons (.sl (.cons (.int .u8) .nil)) .nil) := by kernel_rfl
  obtain ⟨o1, l1, c1, rfl⟩ := okWide_slice Tryd.underlying59 (hval 1 59 v1 rfl rfl)
  obtain ⟨fu1, hr1⟩ := h1
  replace hr1 : DataW.trod enc Tryd.prog W _ _ _ fu1 59 [.slice o1 l1 c1] = some (_, _) := hr1
  obtain ⟨ys1, hO1⟩ := lay_open _ _ _ hK1 _ _ _ hr1 (light_of hsz (j := 1) (t := 59) rfl rfl)
  obtain ⟨y1_0, rfl⟩ := list_of1 hO1.ld
  obtain ⟨hd1, hf1⟩ := hO1.at_ 0 _ rfl
  have ht1 := (deep_typ _).1 _ _ hd1
  exact (good_run zm_g_wForms rfl rfl [a0_1] [] [y0_2, y1_0] [a0_0] W [.agg #[c0_0, c0_1, c0_2], .slice o1 l1 c1] rfl rfl rfl rfl (by exact ⟨hb0_1, okR_iff.2 (fine_one ht1 hf1)⟩)
    (fun x hx => by
      obtain rfl := List.mem_singleton.1 hx
      exact ⟨trivial, handle_lt hg, hg⟩)
    ⟨⟨[c0_0, c0_1, c0_2], rfl, e0_0, e0_1, ⟨hd0_2, fun _ _ h => by cases h⟩, rfl⟩, ⟨hd1, fun _ _ h => by cases h⟩, trivial⟩).mono fin

theorem and_lim {a b : Bool} (ha : a = true) (hb : b = true) : (a && b) = true := by rw [ha, hb]; rfl
set_option maxHeartbeats 8000000 in
theorem jf : joinedFacts Tryd.pinned.checked.prog 6 Tryd.f6 Rows.zoneFormsSpec Rows.zoneFormsRow = true := by
  delta joinedFacts
  repeat' (with_reducible refine and_lim ?_ ?_)
  all_goals as_aux_lemma => kernel_rfl
theorem nf : Tryd.pinned.checked.prog.funcNamed Rows.zoneFormsRow.func = some 6 := by kernel_rfl
theorem ins : Tryd.f6.isInstance Tryd.pinned.checked.prog Rows.zoneFormsRow.origin Rows.zoneFormsRow.targs := of_decide_eq_true (by kernel_rfl)
theorem wrp : Tryd.f6.isWrapper Tryd.pinned.checked.prog Rows.zoneFormsRow.wrapper Rows.zoneFormsRow.mainSum := by unfold Func.isWrapper; rw [if_neg (of_decide_eq_false (by kernel_rfl))]; exact ⟨rfl, rfl⟩

theorem row_holds : Rows.ZoneFormsSaid :=
  OpenClaim.holds_of_wide 6 Tryd.f6 rfl rfl rfl rfl rfl rfl rfl ⟨rfl, rfl, rfl, rfl, rfl⟩ rfl rfl rfl rfl rfl nf Tryd.func6 jf ins wrp
    (fun os started H enc _ => lifted os started H enc)

theorem card_holds : Rows.ZoneFormsCardSaid :=
  Claim7.holds_tied_plain_at .later [] [.handle] true Rows.zoneFormsCard.stood.harness true
    row_holds (fun _ h => by cases h) (by kernel_rfl) (fun _ h => by cases h) zoneForms_row_tie rfl ⟨rfl, rfl⟩ (by kernel_rfl) rfl
    (fun f fn hf hfn => by
      obtain rfl : f = 6 := Option.some.inj ((show Tryd.prog.funcNamed "fusee/fuseelaw10.ZoneForms" = some 6 by kernel_rfl).symm.trans hf) |>.symm
      obtain rfl : fn = Tryd.f6 := (Option.some.inj (Tryd.func6.symm.trans hfn)).symm
      exact ⟨by kernel_rfl, fun j t ht => by
        rw [Tryd.params6] at ht
        have hall : ∀ x ∈ Tryd.f6.params.toList, Tryd.prog.wantsStandIn x = false := by rw [Tryd.params6]; intro x hx; simp only [List.mem_cons, List.not_mem_nil, or_false] at hx; first | (rcases hx with rfl | rfl | rfl | rfl | rfl | rfl <;> kernel_rfl) | (rcases hx with rfl | rfl | rfl | rfl | rfl <;> kernel_rfl) | (rcases hx with rfl | rfl | rfl | rfl <;> kernel_rfl) | (rcases hx with rfl | rfl | rfl <;> kernel_rfl) | (rcases hx with rfl | rfl <;> kernel_rfl) | (obtain rfl := hx; kernel_rfl)
        refine hall t ?_
        rw [Tryd.params6]
        exact Array.mem_toList_iff.2 (Array.mem_of_getElem? ht)⟩)
    (by kernel_rfl)
#print axioms card_holds
end Go.Proofs.YtbgmbbkmadkhgaaDoor.zoneForms
