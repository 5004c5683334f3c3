/-
  The statement fuseelaw06.BlobForms, closed: the row from its walk, the card from the row and the given tie.
-/
import Derived.Test.YtbjgopehomnpgaaDoorZ6c
import Derived.Test.YtbjgopehomnpgaaDoorFrame
import Derived.Test.YtbjgopehomnpgaaDoorTie
import Derived.Test.YtbjgopehomnpgaaDoorCards
import Derived.Test.YtbjgopehomnpgaaDoorOpn
import Derived.SevenTiedAt
namespace Go.Proofs.YtbjgopehomnpgaaDoor.blobForms
open Go.ChangeShapes Go.WideShapes Go.RowKit Go.Proofs.YtbjgopehomnpgaaDoor.Sy
set_option linter.unusedVariables false

theorem arr_of1 {xs : Array Value} (h : xs.size = 1) : ∃ c0, xs = #[c0] := by
  obtain ⟨l⟩ := xs
  match l, h with
  | [c0], _ => exact ⟨c0, rfl⟩
theorem list_of1 {α : Type} {xs : List α} (h : xs.length = 1) : ∃ c0, xs = [c0] := by
  match xs, h with
  | [c0], _ => exact ⟨c0, rfl⟩
theorem okWide_arr {P : Program} {w : World} {r : Reach} {base : Nat} {t e : TypeId} {n : Nat} {v : Value} (ht : P.underlying t = some (.array n e)) (h : Value.okWide P w r base t v) : ∃ cs, v = .agg cs ∧ cs.size = P.cellsOf t := by
  simp only [Value.okWide, ht] at h
  obtain ⟨cs, h1, h2, _⟩ := h
  exact ⟨cs, h1, h2⟩
set_option linter.unusedSimpArgs false
set_option maxRecDepth 100000 in
theorem lifted (os : Os) (started : os.Started) (H : Type) (enc : TypeId × Value → H) :
    ReturnsInHanded {} Tryd.checked os 5 .any (fun w args => (Rows.blobFormsSpec.pre enc Tryd.prog Tryd.f5 [] false w args ∧ laidMetH Tryd.prog Rows.blobFormsRow.laid w) ∧ sizedMet enc Tryd.prog Tryd.f5 (OpenSpec.ofChange Rows.blobFormsSpec) false w args)
      (Rows.blobFormsSpec.post enc Tryd.prog Tryd.f5 false true false false) := by
  refine returnsInHanded_of_change_and (C := Tryd.checked) (X := fun w _ => laidMetH Tryd.prog Rows.blobFormsRow.laid w) (fun _ _ _ hh h => h.of_heap hh) Tryd.own started (by kernel_rfl) Tryd.func5
    (ChangeSpec.witness_at (enc := enc) (C := Tryd.checked) (os := os) (X := fun w _ => laidMetH Tryd.prog Rows.blobFormsRow.laid w) false (laidWorld os) #[.int .u8 0, .slice none 0 0, .slice none 0 0] 8 rfl (by kernel_rfl) (by kernel_rfl) (by kernel_rfl) (by kernel_rfl) (by kernel_rfl) (laidWorld_met os _)) ?_
  intro W base args ds gs before hval0 hW _ hsz hL _
  have hval : ∀ (j : Nat) t v, Tryd.f5.params[j]? = some t → args[j]? = some v → Value.okWide Tryd.prog W .any base t v := hval0
  have hW0 := hW
  obtain ⟨p, q, hA0, hV, rfl, hfz, hnd⟩ := hW0
  have hA : DataW.TrodAll enc Tryd.prog W 0 (fun _ => true) true Tryd.f5.params.toList args.toList ds p := hA0
  rw [Tryd.params5] at hA hval hsz
  obtain ⟨v0, vs0, d0, ds0, p0, q0, hargs, rfl, rfl, h0, r0⟩ := trodAll_cons hA
  obtain ⟨v1, vs1, d1, ds1, p1, q1, rfl, rfl, rfl, h1, r1⟩ := trodAll_cons r0
  obtain ⟨v2, vs2, d2, ds2, p2, q2, rfl, rfl, rfl, h2, r2⟩ := trodAll_cons r1
  obtain ⟨rfl, rfl, rfl⟩ := trodAll_nil r2
  obtain rfl : args = #[v0, v1, v2] := by cases args; simp_all
  have hg := handle_of_laid hL
  have fin : ∀ (e : Ending) (W' : World), (e = .returned (.bool true) ∧ Below W.heap.size W W') → ∃ v, e = .returned v ∧ Rows.blobFormsSpec.post enc Tryd.prog Tryd.f5 false true false false W _ v W' := fun e W' ⟨he, hb⟩ =>
    ⟨_, he, law_post 4 rfl Tryd.underlying4 (by kernel_rfl) hW rfl rfl hb⟩
  obtain ⟨a0, rfl, rfl, rfl, w0⟩ := open_int Tryd.underlying5 (hval 0 5 v0 rfl rfl) h0
  have hb0 := bounds_u8 w0
  have hK1 : layK Tryd.prog 16 59 = some (.cons (.sl (.cons (.int .u8) .nil)) .nil) := by kernel_rfl
  obtain ⟨o1, l1, c1, rfl⟩ := okWide_slice Tryd.underlying59 (hval 1 59 v1 rfl rfl)
  obtain ⟨fu1, hr1⟩ := h1
  replace hr1 : DataW.trod enc Tryd.prog W _ _ _ fu1 59 [.slice o1 l1 c1] = some (_, _) := hr1
  obtain ⟨ys1, hO1⟩ := lay_open _ _ _ hK1 _ _ _ hr1 (light_of hsz (j := 1) (t := 59) rfl rfl)
  obtain ⟨y1_0, rfl⟩ := list_of1 hO1.ld
  obtain ⟨hd1, hf1⟩ := hO1.at_ 0 _ rfl
  have ht1 := (deep_typ _).1 _ _ hd1
  have hK2 : layK Tryd.prog 16 59 = some (.cons (.sl (.cons (.int .u8) .nil)) .nil) := by kernel_rfl
  obtain ⟨o2, l2, c2, rfl⟩ := okWide_slice Tryd.underlying59 (hval 2 59 v2 rfl rfl)
  obtain ⟨fu2, hr2⟩ := h2
  replace hr2 : DataW.trod enc Tryd.prog W _ _ _ fu2 59 [.slice o2 l2 c2] = some (_, _) := hr2
  obtain ⟨ys2, hO2⟩ := lay_open _ _ _ hK2 _ _ _ hr2 (light_of hsz (j := 2) (t := 59) rfl rfl)
  obtain ⟨y2_0, rfl⟩ := list_of1 hO2.ld
  obtain ⟨hd2, hf2⟩ := hO2.at_ 0 _ rfl
  have ht2 := (deep_typ _).1 _ _ hd2
  exact (good_run zc6g_wForms rfl rfl [a0] [] [y1_0, y2_0] [] W [.int .u8 a0, .slice o1 l1 c1, .slice o2 l2 c2] rfl rfl rfl rfl (by exact ⟨okR_iff.2 (fine_one ht1 hf1), okR_iff.2 (fine_one ht2 hf2), hb0.1, hb0.2⟩)
    (fun x hx => by
      obtain rfl := List.mem_singleton.1 hx
      exact ⟨trivial, handle_lt hg, hg⟩)
    ⟨rfl, ⟨hd1, fun _ _ h => by cases h⟩, ⟨hd2, fun _ _ h => by cases h⟩, trivial⟩).mono fin

theorem row_holds : Rows.BlobFormsSaid :=
  OpenClaim.holds_of_wide 5 Tryd.f5 rfl rfl rfl rfl rfl rfl rfl ⟨rfl, rfl, rfl, rfl, rfl⟩ rfl rfl rfl rfl rfl (by kernel_rfl) Tryd.func5 (by kernel_rfl)
    (of_decide_eq_true (by kernel_rfl)) (by unfold Func.isWrapper; rw [if_neg (of_decide_eq_false (by kernel_rfl))]; exact ⟨rfl, rfl⟩)
    (fun os started H enc _ => lifted os started H enc)

theorem card_holds : Rows.BlobFormsCardSaid :=
  Claim7.holds_tied_plain_at .later [] [.handle] true Rows.blobFormsCard.stood.harness true
    row_holds (fun _ h => by cases h) (by kernel_rfl) (fun _ h => by cases h) blobForms_row_tie rfl ⟨rfl, rfl⟩ (by kernel_rfl) rfl
    (fun f fn hf hfn => by
      obtain rfl : f = 5 := Option.some.inj ((show Tryd.prog.funcNamed "fusee/fuseelaw06.BlobForms" = some 5 by kernel_rfl).symm.trans hf) |>.symm
      obtain rfl : fn = Tryd.f5 := (Option.some.inj (Tryd.func5.symm.trans hfn)).symm
      exact ⟨by kernel_rfl, fun j t ht => by
        rw [Tryd.params5] at ht
        have hall : ∀ x ∈ Tryd.f5.params.toList, Tryd.prog.wantsStandIn x = false := by rw [Tryd.params5]; intro x hx; simp only [List.mem_cons, List.not_mem_nil, or_false] at hx; first | (rcases hx with rfl | rfl | rfl | rfl | rfl | rfl <;> kernel_rfl) | (rcases hx with rfl | rfl | rfl | rfl | rfl <;> kernel_rfl) | (rcases hx with rfl | rfl | rfl | rfl <;> kernel_rfl) | (rcases hx with rfl | rfl | rfl <;> kernel_rfl) | (rcases hx with rfl | rfl <;> kernel_rfl) | (obtain rfl := hx; kernel_rfl)
        refine hall t ?_
        rw [Tryd.params5]
        exact Array.mem_toList_iff.2 (Array.mem_of_getElem? ht)⟩)
    (by kernel_rfl)
#print axioms card_holds
end Go.Proofs.YtbjgopehomnpgaaDoor.blobForms
