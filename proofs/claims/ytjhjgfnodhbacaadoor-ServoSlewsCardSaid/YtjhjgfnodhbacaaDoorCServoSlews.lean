/-
  The statement fuseelaw16.ServoSlews, closed: the row from its walk, the card from the row and the given tie.
-/
import Derived.Test.YtjhjgfnodhbacaaDoorYqhs
import Derived.Test.YtjhjgfnodhbacaaDoorFramehs
import Derived.Test.YtjhjgfnodhbacaaDoorTie
import Derived.Test.YtjhjgfnodhbacaaDoorCards
import Derived.Test.YtjhjgfnodhbacaaDoorOpnhs
import Derived.SevenTiedAt
namespace Go.Proofs.YtjhjgfnodhbacaaDoor.servoSlews
open Go.ChangeShapes Go.WideShapes Go.RowKit Go.Proofs.YtjhjgfnodhbacaaDoor.Sy
set_option linter.unusedVariables false

theorem arr_of1 {xs : Array Value} (h : xs.size = 1) : ∃ c0, xs = #[c0] := by
  obtain ⟨l⟩ := xs
  match l, h with
  | [c0], _ => exact ⟨c0, rfl⟩
theorem list_of1 {α : Type} {xs : List α} (h : xs.length = 1) : ∃ c0, xs = [c0] := by
  match xs, h with
  | [c0], _ => exact ⟨c0, rfl⟩
theorem okWide_arr {P : Program} {w : World} {r : Reach} {base : Nat} {t e : TypeId} {n : Nat} {v : Value} (ht : P.underlying t = some (.array n e)) (h : Value.okWide P w r base t v) : ∃ cs, v = .agg cs ∧ cs.size = P.cellsOf t := by
  simp only [Value.okWide, ht] at h
  obtain ⟨cs, h1, h2, _⟩ := h
  exact ⟨cs, h1, h2⟩
set_option linter.unusedSimpArgs false
set_option maxRecDepth 100000 in
theorem lifted (os : Os) (started : os.Started) (H : Type) (enc : TypeId × Value → H) :
    ReturnsInHanded {} Tryd.checked os 8 .any (fun w args => (Rows.servoSlewsSpec.pre enc Tryd.prog Tryd.f8 [] false w args ∧ laidMetH Tryd.prog Rows.servoSlewsRow.laid w) ∧ sizedMet enc Tryd.prog Tryd.f8 (OpenSpec.ofChange Rows.servoSlewsSpec) false w args)
      (Rows.servoSlewsSpec.post enc Tryd.prog Tryd.f8 false true false false) := by
  refine returnsInHanded_of_change_and (C := Tryd.checked) (X := fun w _ => laidMetH Tryd.prog Rows.servoSlewsRow.laid w) (fun _ _ _ hh h => h.of_heap hh) Tryd.own started (by kernel_rfl) Tryd.func8
    (ChangeSpec.witness_at (enc := enc) (C := Tryd.checked) (os := os) (X := fun w _ => laidMetH Tryd.prog Rows.servoSlewsRow.laid w) false (laidWorld os) #[.int .i32 0, .int .u16 0] 8 rfl (by kernel_rfl) (by kernel_rfl) (by kernel_rfl) (by kernel_rfl) (by kernel_rfl) (laidWorld_met os _)) ?_
  intro W base args ds gs before hval0 hW _ hsz hL _
  have hval : ∀ (j : Nat) t v, Tryd.f8.params[j]? = some t → args[j]? = some v → Value.okWide Tryd.prog W .any base t v := hval0
  have hW0 := hW
  obtain ⟨p, q, hA0, hV, rfl, hfz, hnd⟩ := hW0
  have hA : DataW.TrodAll enc Tryd.prog W 0 (fun _ => true) true Tryd.f8.params.toList args.toList ds p := hA0
  rw [Tryd.params8] at hA hval hsz
  obtain ⟨v0, vs0, d0, ds0, p0, q0, hargs, rfl, rfl, h0, r0⟩ := trodAll_cons hA
  obtain ⟨v1, vs1, d1, ds1, p1, q1, rfl, rfl, rfl, h1, r1⟩ := trodAll_cons r0
  obtain ⟨rfl, rfl, rfl⟩ := trodAll_nil r1
  obtain rfl : args = #[v0, v1] := by cases args; simp_all
  have hg := handle_of_laid hL
  have fin : ∀ (e : Ending) (W' : World), (e = .returned (.bool true) ∧ Below W.heap.size W W') → ∃ v, e = .returned v ∧ Rows.servoSlewsSpec.post enc Tryd.prog Tryd.f8 false true false false W _ v W' := fun e W' ⟨he, hb⟩ =>
    ⟨_, he, law_post 4 rfl Tryd.underlying4 (by kernel_rfl) hW rfl rfl hb⟩
  obtain ⟨a0, rfl, rfl, rfl, w0⟩ := open_int Tryd.underlying21 (hval 0 21 v0 rfl rfl) h0
  have hb0 := bounds_i32 w0
  obtain ⟨a1, rfl, rfl, rfl, w1⟩ := open_int Tryd.underlying90 (hval 1 90 v1 rfl rfl) h1
  have hb1 := bounds_u16 w1
  exact (good_run yqg_wSlews16 rfl rfl [a0, a1] [] [] [] W [.int .i32 a0, .int .u16 a1] rfl rfl rfl rfl (by exact ⟨hb0.1, hb0.2, hb1.1, hb1.2⟩)
    (fun x hx => by
      obtain rfl := List.mem_singleton.1 hx
      exact ⟨trivial, handle_lt hg, hg⟩)
    ⟨rfl, rfl, trivial⟩).mono fin

theorem and_lim {a b : Bool} (ha : a = true) (hb : b = true) : (a && b) = true := by rw [ha, hb]; rfl
set_option maxHeartbeats 8000000 in
theorem jf : joinedFacts Tryd.pinned.checked.prog 8 Tryd.f8 Rows.servoSlewsSpec Rows.servoSlewsRow = true := by
  delta joinedFacts
  repeat' (with_reducible refine and_lim ?_ ?_)
  all_goals as_aux_lemma => kernel_rfl
theorem nf : Tryd.pinned.checked.prog.funcNamed Rows.servoSlewsRow.func = some 8 := by kernel_rfl
theorem ins : Tryd.f8.isInstance Tryd.pinned.checked.prog Rows.servoSlewsRow.origin Rows.servoSlewsRow.targs := of_decide_eq_true (by kernel_rfl)
theorem wrp : Tryd.f8.isWrapper Tryd.pinned.checked.prog Rows.servoSlewsRow.wrapper Rows.servoSlewsRow.mainSum := by unfold Func.isWrapper; rw [if_neg (of_decide_eq_false (by kernel_rfl))]; exact ⟨rfl, rfl⟩

theorem row_holds : Rows.ServoSlewsSaid :=
  OpenClaim.holds_of_wide 8 Tryd.f8 rfl rfl rfl rfl rfl rfl rfl ⟨rfl, rfl, rfl, rfl, rfl⟩ rfl rfl rfl rfl rfl nf Tryd.func8 jf ins wrp
    (fun os started H enc _ => lifted os started H enc)

theorem card_holds : Rows.ServoSlewsCardSaid :=
  Claim7.holds_tied_plain_at .later [] [.handle] true Rows.servoSlewsCard.stood.harness true
    row_holds (fun _ h => by cases h) (by as_aux_lemma => kernel_rfl) (fun _ h => by cases h) servoSlews_row_tie rfl ⟨rfl, rfl⟩ (by as_aux_lemma => kernel_rfl) rfl
    (fun f fn hf hfn => by
      obtain rfl : f = 8 := Option.some.inj ((show Tryd.prog.funcNamed "fusee/fuseelaw16.ServoSlews" = some 8 by kernel_rfl).symm.trans hf) |>.symm
      obtain rfl : fn = Tryd.f8 := (Option.some.inj (Tryd.func8.symm.trans hfn)).symm
      exact ⟨by as_aux_lemma => kernel_rfl, fun j t ht => by
        rw [Tryd.params8] at ht
        have hall : ∀ x ∈ Tryd.f8.params.toList, Tryd.prog.wantsStandIn x = false := by rw [Tryd.params8]; intro x hx; simp only [List.mem_cons, List.not_mem_nil, or_false] at hx; first | (rcases hx with rfl | rfl | rfl | rfl | rfl | rfl <;> kernel_rfl) | (rcases hx with rfl | rfl | rfl | rfl | rfl <;> kernel_rfl) | (rcases hx with rfl | rfl | rfl | rfl <;> kernel_rfl) | (rcases hx with rfl | rfl | rfl <;> kernel_rfl) | (rcases hx with rfl | rfl <;> kernel_rfl) | (obtain rfl := hx; kernel_rfl)
        refine hall t ?_
        rw [Tryd.params8]
        exact Array.mem_toList_iff.2 (Array.mem_of_getElem? ht)⟩)
    (by as_aux_lemma => kernel_rfl)
#print axioms card_holds
end Go.Proofs.YtjhjgfnodhbacaaDoor.servoSlews
