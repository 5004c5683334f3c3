import Derived.Test.YtflckmhlobpfiaaDoorSycqb
import Derived.Test.YtflckmhlobpfiaaDoorZ13cqb
/-
  Layer 13 by the second engine: the reference votes.
-/
namespace Go.Proofs.YtflckmhlobpfiaaDoor
open Go.RowKit Go.Extern.Stop Go.Stop Go.Extern Go.Proofs.YtflckmhlobpfiaaDoor.Sy
set_option linter.unusedVariables false
set_option linter.unusedSimpArgs false
/-- the first stretch that begins where most are, among the first k -/
def atS (l : List Value) (N : Nat) : Nat → Bool × Int
  | 0 => (false, 0)
  | k + 1 => if ofN l (Go.RowKit.intOf (l.getD (k * 2) Go.undef)) N = (vo l N N).1 ∧ ((atS l N k).1 = false ∨ Go.RowKit.intOf (l.getD (k * 2) Go.undef) < (atS l N k).2) then (true, Go.RowKit.intOf (l.getD (k * 2) Go.undef)) else atS l N k
theorem atS_yes {l : List Value} {N k : Nat} (h : ofN l (Go.RowKit.intOf (l.getD (k * 2) Go.undef)) N = (vo l N N).1 ∧ ((atS l N k).1 = false ∨ Go.RowKit.intOf (l.getD (k * 2) Go.undef) < (atS l N k).2)) : atS l N (k + 1) = (true, Go.RowKit.intOf (l.getD (k * 2) Go.undef)) := by rw [atS, if_pos h]
theorem atS_no {l : List Value} {N k : Nat} (h : ¬ (ofN l (Go.RowKit.intOf (l.getD (k * 2) Go.undef)) N = (vo l N N).1 ∧ ((atS l N k).1 = false ∨ Go.RowKit.intOf (l.getD (k * 2) Go.undef) < (atS l N k).2))) : atS l N (k + 1) = atS l N k := by rw [atS, if_neg h]
/-- who has a number -/
def hasV13 (l : List Value) (j : Nat) (n : Int) : Prop := Go.RowKit.intOf (l.getD (j * 2) Go.undef) ≤ n ∧ n ≤ Go.RowKit.intOf (l.getD (j * 2 + 1) Go.undef)
theorem ofN_pos {l : List Value} {n : Int} {j : Nat} (hj : hasV13 l j n) : ∀ {k : Nat}, j < k → 0 < ofN l n k
  | 0, h => by omega
  | k + 1, h => by
    rcases Nat.lt_succ_iff_lt_or_eq.1 h with h1 | rfl
    · have := ofN_pos hj h1
      rw [ofN]; omega
    · rw [ofN_yes hj]; omega
theorem ofN_mono {l : List Value} {a b : Int} : ∀ {k : Nat}, (∀ j, j < k → hasV13 l j a → hasV13 l j b) → ofN l a k ≤ ofN l b k
  | 0, _ => Nat.le_refl _
  | k + 1, h => by
    have ih := ofN_mono (k := k) (fun j hj => h j (by omega))
    by_cases ha : hasV13 l k a
    · rw [ofN_yes ha, ofN_yes (h k (by omega) ha)]; omega
    · rw [ofN_no ha]
      have : ofN l b k ≤ ofN l b (k + 1) := by rw [ofN]; omega
      omega
theorem ofN_lt {l : List Value} {a b : Int} {i : Nat} (hb : hasV13 l i b) (ha : ¬ hasV13 l i a) : ∀ {k : Nat}, i < k → (∀ j, j < k → hasV13 l j a → hasV13 l j b) → ofN l a k < ofN l b k
  | 0, h, _ => by omega
  | k + 1, hi, h => by
    rcases Nat.lt_succ_iff_lt_or_eq.1 hi with h1 | rfl
    · have ih := ofN_lt hb ha h1 (fun j hj => h j (by omega))
      by_cases h2 : hasV13 l k a
      · rw [ofN_yes h2, ofN_yes (h k (by omega) h2)]; omega
      · rw [ofN_no h2]
        have : ofN l b k ≤ ofN l b (k + 1) := by rw [ofN]; omega
        omega
    · have ih := ofN_mono (l := l) (a := a) (b := b) (k := i) (fun j hj => h j (by omega))
      rw [ofN_no ha, ofN_yes hb]; omega
theorem arH_le {l : List Value} {n : Int} {j : Nat} (hj : hasV13 l j n) : ∀ {k : Nat}, j < k → arH l n k ≤ Go.RowKit.intOf (l.getD (j * 2 + 1) Go.undef)
  | 0, h => by omega
  | k + 1, h => by
    rcases Nat.lt_succ_iff_lt_or_eq.1 h with h1 | rfl
    · have ih := arH_le hj h1
      have hp := ofN_pos hj h1
      by_cases h2 : hasV13 l k n
      · by_cases h3 : ofN l n k = 0 ∨ Go.RowKit.intOf (l.getD (k * 2 + 1) Go.undef) < arH l n k
        · rw [arH_new h2 h3]; omega
        · rw [arH_old h2 h3]; exact ih
      · rw [arH_no h2]; exact ih
    · by_cases h3 : ofN l n j = 0 ∨ Go.RowKit.intOf (l.getD (j * 2 + 1) Go.undef) < arH l n j
      · rw [arH_new hj h3]; omega
      · rw [arH_old hj h3]; omega
/-- the best so far: whose it is, and that none is better -/
theorem vo_spec {l : List Value} {N : Nat} (hp : preW l N = true) : ∀ {k : Nat}, k ≤ N → 0 < k → (∃ i, i < k ∧ ofN l (Go.RowKit.intOf (l.getD (i * 2) Go.undef)) N = (vo l N k).1 ∧ Go.RowKit.intOf (l.getD (i * 2) Go.undef) = (vo l N k).2.1 ∧ (vo l N k).2.2 = arH l (Go.RowKit.intOf (l.getD (i * 2) Go.undef)) N) ∧ (∀ i, i < k → ofN l (Go.RowKit.intOf (l.getD (i * 2) Go.undef)) N ≤ (vo l N k).1 ∧ (ofN l (Go.RowKit.intOf (l.getD (i * 2) Go.undef)) N = (vo l N k).1 → (vo l N k).2.1 ≤ Go.RowKit.intOf (l.getD (i * 2) Go.undef))) ∧ 0 < (vo l N k).1
  | 0, _, h => by omega
  | k + 1, hk, _ => by
    have hown : 0 < ofN l (Go.RowKit.intOf (l.getD (k * 2) Go.undef)) N := ofN_pos (j := k) ⟨Int.le_refl _, preW_get hp (by omega)⟩ (by omega)
    by_cases h0 : k = 0
    · subst h0
      rw [vo_yes (by left; simpa [vo] using hown)]
      refine ⟨⟨0, by omega, rfl, rfl, rfl⟩, fun i hi => ?_, hown⟩
      obtain rfl : i = 0 := by omega
      exact ⟨Nat.le_refl _, fun _ => Int.le_refl _⟩
    · obtain ⟨⟨i0, e1, e2, e3, e4⟩, ih2, ih3⟩ := vo_spec hp (k := k) (by omega) (by omega)
      by_cases hc : (vo l N k).1 < ofN l (Go.RowKit.intOf (l.getD (k * 2) Go.undef)) N ∨ (ofN l (Go.RowKit.intOf (l.getD (k * 2) Go.undef)) N = (vo l N k).1 ∧ Go.RowKit.intOf (l.getD (k * 2) Go.undef) < (vo l N k).2.1)
      · rw [vo_yes hc]
        refine ⟨⟨k, by omega, rfl, rfl, rfl⟩, fun i hi => ?_, hown⟩
        rcases Nat.lt_succ_iff_lt_or_eq.1 hi with h1 | rfl
        · have := ih2 i h1
          refine ⟨by omega, fun he => ?_⟩
          show Go.RowKit.intOf (l.getD (k * 2) Go.undef) ≤ _
          have he' : ofN l (Go.RowKit.intOf (l.getD (i * 2) Go.undef)) N = ofN l (Go.RowKit.intOf (l.getD (k * 2) Go.undef)) N := he
          rcases hc with hc | hc
          · omega
          · have := this.2 (by omega)
            omega
        · exact ⟨Nat.le_refl _, fun _ => Int.le_refl _⟩
      · rw [vo_no hc]
        refine ⟨⟨i0, by omega, e2, e3, e4⟩, fun i hi => ?_, ih3⟩
        rcases Nat.lt_succ_iff_lt_or_eq.1 hi with h1 | rfl
        · exact ih2 i h1
        · exact ⟨by omega, fun he => by omega⟩
theorem atS_spec {l : List Value} {N : Nat} : ∀ {k : Nat}, ((atS l N k).1 = true → ∃ i, i < k ∧ ofN l (Go.RowKit.intOf (l.getD (i * 2) Go.undef)) N = (vo l N N).1 ∧ Go.RowKit.intOf (l.getD (i * 2) Go.undef) = (atS l N k).2) ∧ ((atS l N k).1 = false → ∀ i, i < k → ofN l (Go.RowKit.intOf (l.getD (i * 2) Go.undef)) N ≠ (vo l N N).1) ∧ ∀ i, i < k → ofN l (Go.RowKit.intOf (l.getD (i * 2) Go.undef)) N = (vo l N N).1 → (atS l N k).2 ≤ Go.RowKit.intOf (l.getD (i * 2) Go.undef)
  | 0 => ⟨fun h => (by cases h), fun _ i hi => (by omega), fun i hi => (by omega)⟩
  | k + 1 => by
    obtain ⟨a1, a2, a3⟩ := atS_spec (l := l) (N := N) (k := k)
    by_cases hc : ofN l (Go.RowKit.intOf (l.getD (k * 2) Go.undef)) N = (vo l N N).1 ∧ ((atS l N k).1 = false ∨ Go.RowKit.intOf (l.getD (k * 2) Go.undef) < (atS l N k).2)
    · rw [atS_yes hc]
      refine ⟨fun _ => ⟨k, by omega, hc.1, rfl⟩, fun h => (by cases h), fun i hi he => ?_⟩
      rcases Nat.lt_succ_iff_lt_or_eq.1 hi with h1 | rfl
      · show Go.RowKit.intOf (l.getD (k * 2) Go.undef) ≤ _
        rcases hc.2 with h2 | h2
        · exact absurd he (a2 h2 i h1)
        · have := a3 i h1 he; omega
      · exact Int.le_refl _
    · rw [atS_no hc]
      refine ⟨fun h => ?_, fun h i hi => ?_, fun i hi he => ?_⟩
      · obtain ⟨i, h1, h2⟩ := a1 h; exact ⟨i, by omega, h2⟩
      · rcases Nat.lt_succ_iff_lt_or_eq.1 hi with h1 | rfl
        · exact a2 h i h1
        · exact fun he => hc ⟨he, .inl h⟩
      · rcases Nat.lt_succ_iff_lt_or_eq.1 hi with h1 | rfl
        · exact a3 i h1 he
        · have : ¬ Go.RowKit.intOf (l.getD (i * 2) Go.undef) < (atS l N i).2 := fun h => hc ⟨he, .inr h⟩
          omega
/-- both begin at the same -/
theorem at_vo {l : List Value} {N : Nat} (hp : preW l N = true) (h0 : 0 < N) : (atS l N N).1 = true ∧ (atS l N N).2 = (vo l N N).2.1 ∧ (vo l N N).2.2 = arH l (vo l N N).2.1 N ∧ ofN l (vo l N N).2.1 N = (vo l N N).1 ∧ 0 < (vo l N N).1 := by
  obtain ⟨⟨i, e1, e2, e3, e4⟩, v2, v3⟩ := vo_spec hp (Nat.le_refl N) h0
  obtain ⟨a1, a2, a3⟩ := atS_spec (l := l) (N := N) (k := N)
  have ht : (atS l N N).1 = true := by
    cases h : (atS l N N).1 with
    | true => rfl
    | false => exact absurd e2 (a2 h i e1)
  obtain ⟨j, j1, j2, j3⟩ := a1 ht
  have h1 := a3 i e1 e2
  have h2 := (v2 j j1).2 j2
  refine ⟨ht, by omega, by rw [← e3]; exact e4, by rw [← e3]; exact e2, v3⟩
/-- behind where it begins nobody begins ahead of where it ends -/
theorem no_later {l : List Value} {N i : Nat} (hp : preW l N = true) (h0 : 0 < N) (hi : i < N) (h1 : (vo l N N).2.1 < Go.RowKit.intOf (l.getD (i * 2) Go.undef)) (h2 : Go.RowKit.intOf (l.getD (i * 2) Go.undef) ≤ (vo l N N).2.2) : False := by
  obtain ⟨_, _, g3, g4, _⟩ := at_vo hp h0
  have hb := (vo_spec hp (Nat.le_refl N) h0).2.1 i hi
  have := ofN_lt (l := l) (a := (vo l N N).2.1) (b := Go.RowKit.intOf (l.getD (i * 2) Go.undef)) (i := i) ⟨Int.le_refl _, preW_get hp hi⟩ (fun h => by have := h.1; omega) hi (fun j hj h => ⟨by have := h.1; omega, by have := arH_le h hj; omega⟩)
  omega
def wdI : Nat → List Value → Int
  | 11, [l, .int _ k] => (atS (rows l) ((rows l).length / 2) k.toNat).2
  | i, l => wcI i l
def wdB : Nat → List Value → Bool
  | 2, [l, .int _ k] => (atS (rows l) ((rows l).length / 2) k.toNat).1
  | i, l => wcB i l
def wdV : Nat → List Value → Value
  | i, l => wcV i l
abbrev wdE (iv : List Int) (bv : List Bool) (vv : List Value) (sv : List ByteArray) : Env := { iv := iv, bv := bv, vv := vv, sv := sv, fi := wdI, fb := wdB, fv := wdV, et := 141 }
theorem wdup : Agree 11 2 0 (wcE [] [] [] []) (wdE [] [] [] []) := ⟨rfl, (by
    intro f hf
    funext l
    show wdI f l = wcI f l
    unfold wdI
    split <;> first | rfl | omega), (by
    intro f hf
    funext l
    show wdB f l = wcB f l
    unfold wdB
    split <;> first | rfl | omega), (by
    intro f hf
    funext l
    show wdV f l = wcV f l
    unfold wdV
    split <;> first | rfl | omega)⟩
end Go.Proofs.YtflckmhlobpfiaaDoor
