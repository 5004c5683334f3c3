import Derived.Test.YtflckmhlobpfiaaDoorSycqb
import Derived.Test.YtflckmhlobpfiaaDoorZ13eqb
import Derived.Test.YtflckmhlobpfiaaDoorSyoqb
/-
  Layer 13 by the second engine: SpanMost.
-/
namespace Go.Proofs.YtflckmhlobpfiaaDoor
open Go.RowKit Go.Extern.Stop Go.Stop Go.Extern Go.Proofs.YtflckmhlobpfiaaDoor.Sy
set_option linter.unusedVariables false
set_option linter.unusedSimpArgs false
noncomputable def okR (l : List Value) : Bool := @decide (∀ x ∈ l, inK x) (Classical.propDecidable _)
theorem okR_iff {l : List Value} : okR l = true ↔ ∀ x ∈ l, inK x := @decide_eq_true_iff _ (Classical.propDecidable _)
theorem okR_at {l : List Value} (h : okR l = true) {k : Nat} (hk : k < l.length) (ht : l.getD k Go.undef = .int .i64 (Go.RowKit.intOf (l.getD k Go.undef))) : -9223372036854775808 ≤ Go.RowKit.intOf (l.getD k Go.undef) ∧ Go.RowKit.intOf (l.getD k Go.undef) ≤ 9223372036854775807 := by
  have hm : l.getD k Go.undef ∈ l := by rw [List.getD_eq_getElem?_getD, List.getElem?_eq_getElem hk]; exact List.getElem_mem hk
  exact bounds_i64 (okR_iff.1 h _ hm _ _ ht)
theorem arH_ge (l : List Value) (n : Int) : ∀ k, n ≤ arH l n k
  | 0 => Int.le_refl _
  | k + 1 => by
    have ih := arH_ge l n k
    rw [arH]
    split
    · rename_i h
      split <;> omega
    · exact ih
/-- whoever has a number, the last that begins does -/
theorem last_has {l : List Value} {n : Int} : ∀ {k : Nat}, 0 < ofN l n k → ∃ i, i < k ∧ hasV13 l i n ∧ ∀ j, j < k → hasV13 l j n → Go.RowKit.intOf (l.getD (j * 2) Go.undef) ≤ Go.RowKit.intOf (l.getD (i * 2) Go.undef)
  | 0, h => by simp [ofN] at h
  | k + 1, h => by
    by_cases hk : hasV13 l k n
    · by_cases h0 : 0 < ofN l n k
      · obtain ⟨i, i1, i2, i3⟩ := last_has h0
        by_cases hc : Go.RowKit.intOf (l.getD (i * 2) Go.undef) ≤ Go.RowKit.intOf (l.getD (k * 2) Go.undef)
        · exact ⟨k, by omega, hk, fun j hj hh => by
            rcases Nat.lt_succ_iff_lt_or_eq.1 hj with h1 | rfl
            · have := i3 j h1 hh; omega
            · omega⟩
        · exact ⟨i, by omega, i2, fun j hj hh => by
            rcases Nat.lt_succ_iff_lt_or_eq.1 hj with h1 | rfl
            · exact i3 j h1 hh
            · omega⟩
      · refine ⟨k, by omega, hk, fun j hj hh => ?_⟩
        rcases Nat.lt_succ_iff_lt_or_eq.1 hj with h1 | rfl
        · have := ofN_pos hh h1; omega
        · omega
    · rw [ofN_no hk] at h
      obtain ⟨i, i1, i2, i3⟩ := last_has h
      exact ⟨i, by omega, i2, fun j hj hh => by
        rcases Nat.lt_succ_iff_lt_or_eq.1 hj with h1 | rfl
        · exact i3 j h1 hh
        · exact absurd hh hk⟩
/-- nobody is in more -/
theorem best_any {l : List Value} {N : Nat} (hp : preW l N = true) (h0 : 0 < N) (n : Int) : ofN l n N ≤ (vo l N N).1 ∧ (ofN l n N = (vo l N N).1 → (vo l N N).2.1 ≤ n) := by
  obtain ⟨_, v2, v3⟩ := vo_spec hp (Nat.le_refl N) h0
  by_cases hz : 0 < ofN l n N
  · obtain ⟨i, i1, i2, i3⟩ := last_has hz
    have h1 := ofN_mono (l := l) (a := n) (b := Go.RowKit.intOf (l.getD (i * 2) Go.undef)) (k := N) (fun j hj hh => ⟨i3 j hj hh, by have h2 := hh.2; have h3 := i2.1; omega⟩)
    have h2 := v2 i i1
    have h3 := i2.1
    exact ⟨by omega, fun he => by have := h2.2 (by omega); omega⟩
  · exact ⟨by omega, fun he => by omega⟩
/-- all along it is in the same -/
theorem same_all {l : List Value} {N : Nat} (hp : preW l N = true) (h0 : 0 < N) {x : Int} (h1 : (vo l N N).2.1 ≤ x) (h2 : x ≤ (vo l N N).2.2) : ∀ j, j < N → (hasV13 l j (vo l N N).2.1 ↔ hasV13 l j x) := by
  obtain ⟨_, _, g3, _, _⟩ := at_vo hp h0
  intro j hj
  constructor
  · intro h
    have := arH_le h hj
    exact ⟨by have := h.1; omega, by omega⟩
  · intro h
    by_cases hc : Go.RowKit.intOf (l.getD (j * 2) Go.undef) ≤ (vo l N N).2.1
    · exact ⟨hc, by have := h.2; omega⟩
    · exact (no_later hp h0 hj (by omega) (by have := h.1; omega)).elim
theorem same_of {l : List Value} {N : Nat} (hp : preW l N = true) (h0 : 0 < N) {x : Int} (h1 : (vo l N N).2.1 ≤ x) (h2 : x ≤ (vo l N N).2.2) : ofN l x N = (vo l N N).1 := by
  have hs := same_all hp h0 h1 h2
  have e1 := ofN_mono (l := l) (a := (vo l N N).2.1) (b := x) (k := N) (fun j hj h => (hs j hj).1 h)
  have e2 := ofN_mono (l := l) (a := x) (b := (vo l N N).2.1) (k := N) (fun j hj h => (hs j hj).2 h)
  have := (at_vo hp h0).2.2.2.1
  omega
theorem fb_pre' {l : List Value} : ∀ {k : Nat}, fbW l k = -1 → preW l k = true
  | 0, _ => rfl
  | k + 1, h => by
    rw [fbW] at h
    by_cases h1 : fbW l k = -1
    · rw [if_pos h1] at h
      by_cases h2 : Go.RowKit.intOf (l.getD (k * 2 + 1) Go.undef) < Go.RowKit.intOf (l.getD (k * 2) Go.undef)
      · rw [if_pos h2] at h; omega
      · simp only [preW, fb_pre' h1, Bool.true_and, decide_eq_true_eq]; omega
    · rw [if_neg h1] at h; exact absurd h h1
theorem voE_spec (l : List Value) : (voE l = 0 ∧ preW l (l.length / 2) = true ∧ 0 < l.length / 2 ∧ l.length / 2 ≤ 16 ∧ voR l = vo l (l.length / 2) (l.length / 2)) ∨ (voE l = 1) ∨ (voE l = 6) := by
  by_cases h : fbW l (l.length / 2) ≠ -1 ∨ 16 < l.length / 2
  · right; left; unfold voE; rw [if_pos h]
  · by_cases h2 : l.length / 2 = 0
    · right; right; unfold voE; rw [if_neg h, if_pos h2]
    · left
      have hE : voE l = 0 := by unfold voE; rw [if_neg h, if_neg h2]
      refine ⟨hE, fb_pre' (by omega), by omega, by omega, ?_⟩
      unfold voR
      rw [if_pos hE]
theorem most_spec {l : List Value} (h : voE l = 0) : (∀ x, (voR l).2.1 ≤ x → x ≤ (voR l).2.2 → ofN l x (l.length / 2) = (voR l).1 ∧ ∀ j, j < l.length / 2 → (hasV13 l j (voR l).2.1 ↔ hasV13 l j x)) ∧ (∀ n, ofN l n (l.length / 2) ≤ (voR l).1 ∧ (ofN l n (l.length / 2) = (voR l).1 → (voR l).2.1 ≤ n)) ∧ (voR l).2.1 ≤ (voR l).2.2 ∧ l.length / 2 ≤ 16 := by
  rcases voE_spec l with ⟨_, hp, hN, h16, hv⟩ | h' | h'
  · rw [hv]
    refine ⟨fun x h1 h2 => ⟨same_of hp hN h1 h2, same_all hp hN h1 h2⟩, best_any hp hN, ?_, h16⟩
    obtain ⟨_, _, g3, _, _⟩ := at_vo hp hN
    rw [g3]
    exact arH_ge _ _ _
  · omega
  · omega
noncomputable def wfI : Nat → List Value → Int
  | i, l => weI i l
noncomputable def wfB : Nat → List Value → Bool
  | 4, [l] => okR (rows l)
  | i, l => weB i l
noncomputable def wfV : Nat → List Value → Value
  | i, l => weV i l
noncomputable abbrev wfE (iv : List Int) (bv : List Bool) (vv : List Value) (sv : List ByteArray) : Env := { iv := iv, bv := bv, vv := vv, sv := sv, fi := wfI, fb := wfB, fv := wfV, et := 141 }
theorem wfup : Agree 16 4 0 (weE [] [] [] []) (wfE [] [] [] []) := ⟨rfl, (by
    intro f hf
    funext l
    show wfI f l = weI f l
    unfold wfI
    split <;> first | rfl | omega), (by
    intro f hf
    funext l
    show wfB f l = weB f l
    unfold wfB
    split <;> first | rfl | omega), (by
    intro f hf
    funext l
    show wfV f l = weV f l
    unfold wfV
    split <;> first | rfl | omega)⟩
end Go.Proofs.YtflckmhlobpfiaaDoor
