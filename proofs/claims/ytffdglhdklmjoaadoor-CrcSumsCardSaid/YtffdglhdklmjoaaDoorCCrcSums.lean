/-
  The statement fuseelaw04.CrcSums, closed: the row from its walk, the card from the row and the given tie.
-/
import Derived.Test.YtffdglhdklmjoaaDoorV04d
import Derived.Test.YtffdglhdklmjoaaDoorFrame
import Derived.Test.YtffdglhdklmjoaaDoorTie
import Derived.Test.YtffdglhdklmjoaaDoorCards
import Derived.SevenTiedAt
import Derived.Test.YtffdglhdklmjoaaDoorByt
import Derived.SizedLaws
namespace Go.Proofs.YtffdglhdklmjoaaDoor.crcSums
open Go.ChangeShapes Go.WideShapes Go.RowKit

set_option linter.unusedSimpArgs false
set_option maxRecDepth 100000 in
theorem lifted (os : Os) (started : os.Started) (H : Type) (enc : TypeId × Value → H) :
    ReturnsInHanded {} Tryd.checked os 10 .any (fun w args => (Rows.crcSumsSpec.pre enc Tryd.prog Tryd.f10 [] false w args ∧ laidMetH Tryd.prog Rows.crcSumsRow.laid w) ∧ sizedMet enc Tryd.prog Tryd.f10 (OpenSpec.ofChange Rows.crcSumsSpec) false w args)
      (Rows.crcSumsSpec.post enc Tryd.prog Tryd.f10 false true false false) := by
  refine returnsInHanded_of_change_and (C := Tryd.checked) (X := fun w _ => laidMetH Tryd.prog Rows.crcSumsRow.laid w) (fun _ _ _ hh h => h.of_heap hh) Tryd.own started (by kernel_rfl) Tryd.func10
    (ChangeSpec.witness_at (enc := enc) (C := Tryd.checked) (os := os) (X := fun w _ => laidMetH Tryd.prog Rows.crcSumsRow.laid w) false (laidWorld os) #[.slice none 0 0, .slice none 0 0] 8 rfl (by kernel_rfl) (by kernel_rfl) (by kernel_rfl) (by kernel_rfl) (by kernel_rfl) (laidWorld_met os _)) ?_
  intro W base args ds gs before hval0 hW _ hsz hL _
  have hval : ∀ (j : Nat) t v, Tryd.f10.params[j]? = some t → args[j]? = some v → Value.okWide Tryd.prog W .any base t v := hval0
  have hW0 := hW
  obtain ⟨p, q, hA0, hV, rfl, hfz, hnd⟩ := hW0
  have hA : DataW.TrodAll enc Tryd.prog W 0 (fun _ => true) true Tryd.f10.params.toList args.toList ds p := hA0
  rw [Tryd.params10] at hA hval hsz
  obtain ⟨v0, vs0, d0, ds0, p0, q0, hargs, rfl, rfl, h0, r0⟩ := trodAll_cons hA
  obtain ⟨v1, vs1, d1, ds1, p1, q1, rfl, rfl, rfl, h1, r1⟩ := trodAll_cons r0
  obtain ⟨rfl, rfl, rfl⟩ := trodAll_nil r1
  obtain rfl : args = #[v0, v1] := by cases args; simp_all
  have hg := handle_of_laid hL
  have fin : ∀ (e : Ending) (W' : World), (e = .returned (.bool true) ∧ Below W.heap.size W W') → ∃ v, e = .returned v ∧ Rows.crcSumsSpec.post enc Tryd.prog Tryd.f10 false true false false W _ v W' := fun e W' ⟨he, hb⟩ =>
    ⟨_, he, law_post 4 rfl Tryd.underlying4 (by kernel_rfl) hW rfl rfl hb⟩
  obtain ⟨o0, l0, c0, rfl⟩ := okWide_slice Tryd.underlying87 (hval 0 87 v0 rfl rfl)
  obtain ⟨fu0, hr0⟩ := h0
  replace hr0 : DataW.trod enc Tryd.prog W _ _ _ fu0 87 [.slice o0 l0 c0] = some (_, _) := hr0
  obtain ⟨b0, hR0, hn0, hle0, hcap0, hz0⟩ := bytes_open Tryd.underlying87 Tryd.underlying5 (by kernel_rfl) (by kernel_rfl) hr0 (fun el sp e => by subst e; exact sized_slice hsz (j := 0) (t := 87) (e := 5) rfl rfl Tryd.underlying87)
  subst hn0
  obtain ⟨o1, l1, c1, rfl⟩ := okWide_slice Tryd.underlying87 (hval 1 87 v1 rfl rfl)
  obtain ⟨fu1, hr1⟩ := h1
  replace hr1 : DataW.trod enc Tryd.prog W _ _ _ fu1 87 [.slice o1 l1 c1] = some (_, _) := hr1
  obtain ⟨b1, hR1, hn1, hle1, hcap1, hz1⟩ := bytes_open Tryd.underlying87 Tryd.underlying5 (by kernel_rfl) (by kernel_rfl) hr1 (fun el sp e => by subst e; exact sized_slice hsz (j := 1) (t := 87) (e := 5) rfl rfl Tryd.underlying87)
  subst hn1
  exact (walkCrcSums o0 c0 b0 o1 c1 b1 hR0 hz0 (Nat.le_trans hle0 hcap0) hR1 hz1 (Nat.le_trans hle1 hcap1) hle1 hg).mono fin

theorem row_holds : Rows.CrcSumsSaid :=
  OpenClaim.holds_of_wide 10 Tryd.f10 rfl rfl rfl rfl rfl rfl rfl ⟨rfl, rfl, rfl, rfl, rfl⟩ rfl rfl rfl rfl rfl (by kernel_rfl) Tryd.func10 (by kernel_rfl)
    (of_decide_eq_true (by kernel_rfl)) (by unfold Func.isWrapper; rw [if_neg (of_decide_eq_false (by kernel_rfl))]; exact ⟨rfl, rfl⟩)
    (fun os started H enc _ => lifted os started H enc)

theorem card_holds : Rows.CrcSumsCardSaid :=
  Claim7.holds_tied_plain_at .later [] [.handle] true Rows.crcSumsCard.stood.harness true
    row_holds (fun _ h => by cases h) (by kernel_rfl) (fun _ h => by cases h) crcSums_row_tie rfl ⟨rfl, rfl⟩ (by kernel_rfl) rfl
    (fun f fn hf hfn => by
      obtain rfl : f = 10 := Option.some.inj ((show Tryd.prog.funcNamed "fusee/fuseelaw04.CrcSums" = some 10 by kernel_rfl).symm.trans hf) |>.symm
      obtain rfl : fn = Tryd.f10 := (Option.some.inj (Tryd.func10.symm.trans hfn)).symm
      exact ⟨by kernel_rfl, fun j t ht => by
        rw [Tryd.params10] at ht
        have hall : ∀ x ∈ Tryd.f10.params.toList, Tryd.prog.wantsStandIn x = false := by rw [Tryd.params10]; intro x hx; simp only [List.mem_cons, List.not_mem_nil, or_false] at hx; first | (rcases hx with rfl | rfl | rfl | rfl | rfl | rfl <;> kernel_rfl) | (rcases hx with rfl | rfl | rfl | rfl | rfl <;> kernel_rfl) | (rcases hx with rfl | rfl | rfl | rfl <;> kernel_rfl) | (rcases hx with rfl | rfl | rfl <;> kernel_rfl) | (rcases hx with rfl | rfl <;> kernel_rfl) | (obtain rfl := hx; kernel_rfl)
        refine hall t ?_
        rw [Tryd.params10]
        exact Array.mem_toList_iff.2 (Array.mem_of_getElem? ht)⟩)
    (by kernel_rfl)
#print axioms card_holds
end Go.Proofs.YtffdglhdklmjoaaDoor.crcSums
