/-
  Layer 12: what is told by a smear, as numbers: all windows together.
-/
import Derived.Test.YtbjgopehomnpgaaDoorN12qs
namespace Go.Proofs.YtbjgopehomnpgaaDoor
open Go Go.RowKit
set_option linter.unusedVariables false
theorem fl_step {P Q N : Int} (hN : 0 < N) (h0 : P ≤ Q) (h1 : Q ≤ P + N) : P / N ≤ Q / N ∧ Q / N ≤ P / N + 1 := by
  refine ⟨Int.ediv_le_ediv hN h0, ?_⟩
  have h2 := Int.ediv_le_ediv hN h1
  have h3 : (P + N) / N = P / N + 1 := by
    have := Int.add_mul_ediv_right P 1 (show N ≠ 0 by omega)
    rw [Int.one_mul] at this
    exact this
  omega
def softX (N g : Int) : Int := g * (2000000000 * g / N)
theorem softX_step {N g : Int} (hN : 3601000000000 ≤ N) (hg : 0 ≤ g) (h2 : 2 * (g + 1) ≤ N) : softX N g ≤ softX N (g + 1) ∧ softX N (g + 1) ≤ softX N g + N := by
  unfold softX
  have hs := fl_step (P := 2000000000 * g) (Q := 2000000000 * (g + 1)) (N := N) (by omega) (by omega) (by omega)
  have h0 : 0 ≤ 2000000000 * g / N := Int.ediv_nonneg (by omega) (by omega)
  have h1 : 2000000000 * g / N ≤ 1000000000 := Int.ediv_le_of_le_mul (by omega) (by omega)
  generalize 2000000000 * g / N = r at hs h0 h1 ⊢
  generalize 2000000000 * (g + 1) / N = s at hs ⊢
  have a1 : g * r ≤ g * s := Int.mul_le_mul_of_nonneg_left hs.1 hg
  have a2 : g * s ≤ g * (r + 1) := Int.mul_le_mul_of_nonneg_left hs.2 hg
  rw [Int.add_mul, Int.one_mul]
  rw [Int.mul_add, Int.mul_one] at a2
  omega
def lagU (k N g : Int) : Int := if k = 1 then -(-g * 1000000000 / N) else if 2 * g < N then -(-g * (2000000000 * g / N) / N) else 1000000000 - (N - g) * (2000000000 * (N - g) / N) / N
theorem neg_div_step {P Q N : Int} (hN : 0 < N) (h0 : P ≤ Q) (h1 : Q ≤ P + N) : -(-P / N) ≤ -(-Q / N) ∧ -(-Q / N) ≤ -(-P / N) + 1 := by
  have := fl_step (P := -Q) (Q := -P) hN (by omega) (by omega)
  omega
theorem lagU_step {k N M g : Int} (hM : N = M * 1000000000) (hk : (k = 1 ∧ 2 ≤ M) ∨ (k = 2 ∧ 3601 ≤ M)) (h0 : 0 ≤ g) (h1 : g < N) : lagU k N g ≤ lagU k N (g + 1) ∧ lagU k N (g + 1) ≤ lagU k N g + 1 := by
  unfold lagU
  rcases hk with ⟨hk, h2⟩ | ⟨hk, h2⟩
  · rw [if_pos hk, if_pos hk]
    have := fl_step (P := -(g + 1) * 1000000000) (Q := -g * 1000000000) (N := N) (by omega) (by omega) (by omega)
    omega
  · simp only [if_neg (show ¬ k = 1 by omega)]
    have hx : ∀ x : Int, -x * (2000000000 * x / N) = -softX N x := fun x => by unfold softX; rw [Int.neg_mul]
    have hy : ∀ x : Int, x * (2000000000 * x / N) = softX N x := fun x => rfl
    simp only [hx, hy]
    by_cases c1 : 2 * (g + 1) < N
    · rw [if_pos (by omega), if_pos c1]
      have := softX_step (N := N) (g := g) (by omega) h0 (by omega)
      exact neg_div_step (by omega) this.1 this.2
    · rw [if_neg c1]
      by_cases c2 : 2 * g < N
      · rw [if_pos c2]
        have hh : N = 2 * (g + 1) := by omega
        have hs := softX_step (N := N) (g := g) (by omega) h0 (by omega)
        have e1 : N - (g + 1) = g + 1 := by omega
        rw [e1]
        have e2 : softX N (g + 1) = 500000000 * N := by
          unfold softX
          have : 2000000000 * (g + 1) / N = 1000000000 := by
            rw [show 2000000000 * (g + 1) = 1000000000 * N by omega]
            exact Int.mul_ediv_cancel _ (by omega)
          rw [this]; omega
        rw [e2] at hs ⊢
        rw [Int.mul_ediv_cancel _ (by omega)]
        have := neg_div_step (N := N) (by omega) hs.1 hs.2
        rw [← Int.neg_mul, Int.mul_ediv_cancel _ (by omega)] at this
        omega
      · rw [if_neg c2]
        have hs := softX_step (N := N) (g := N - (g + 1)) (by omega) (by omega) (by omega)
        rw [show N - (g + 1) + 1 = N - g by omega] at hs
        have := fl_step (N := N) (by omega) hs.1 hs.2
        omega
theorem lagU_zero {k N : Int} (hN : 0 < N) : lagU k N 0 = 0 := by
  unfold lagU
  split
  · simp
  · rw [if_pos (by omega)]; simp
theorem lagU_full {k N : Int} (hN : 0 < N) : lagU k N N = 1000000000 := by
  unfold lagU
  split
  · rw [Int.neg_mul, ← Int.mul_neg, Int.mul_ediv_cancel_left _ (by omega)]; omega
  · rw [if_neg (by omega)]; simp
/-- what a window has taken, by how long ago it began -/
def lagC (k N g : Int) : Int := if g ≤ 0 then 0 else if N ≤ g then 1000000000 else lagU k N g
theorem lagC_mid {k N g : Int} (hN : 0 < N) (h0 : 0 ≤ g) (h1 : g ≤ N) : lagC k N g = lagU k N g := by
  unfold lagC
  split
  · rw [show g = 0 by omega, lagU_zero hN]
  · split
    · rw [show g = N by omega, lagU_full hN]
    · rfl
theorem lagC_step {k N M g : Int} (hM : N = M * 1000000000) (hk : (k = 1 ∧ 2 ≤ M) ∨ (k = 2 ∧ 3601 ≤ M)) : lagC k N g ≤ lagC k N (g + 1) ∧ lagC k N (g + 1) ≤ lagC k N g + 1 ∧ (g < 0 ∨ N ≤ g → lagC k N (g + 1) = lagC k N g) := by
  by_cases h : 0 ≤ g ∧ g < N
  · rw [lagC_mid (by omega) h.1 (by omega), lagC_mid (by omega) (by omega) (by omega)]
    have := lagU_step hM hk h.1 h.2
    exact ⟨this.1, this.2, fun _ => by omega⟩
  · unfold lagC
    by_cases c : g < 0
    · rw [if_pos (by omega), if_pos (by omega)]; omega
    · rw [if_neg (show ¬ g ≤ 0 by omega), if_pos (show N ≤ g by omega), if_neg (show ¬ g + 1 ≤ 0 by omega), if_pos (show N ≤ g + 1 by omega)]; omega
theorem lagC_mono {k N M : Int} (hM : N = M * 1000000000) (hk : (k = 1 ∧ 2 ≤ M) ∨ (k = 2 ∧ 3601 ≤ M)) (g : Int) : ∀ n : Nat, lagC k N g ≤ lagC k N (g + n)
  | 0 => by simp
  | n + 1 => by
    have := lagC_mono hM hk g n
    have h := (lagC_step (g := g + n) hM hk).1
    rw [show g + ((n + 1 : Nat) : Int) = g + n + 1 by omega]
    omega
theorem lagC_in {k N M : Int} (hM : N = M * 1000000000) (hk : (k = 1 ∧ 2 ≤ M) ∨ (k = 2 ∧ 3601 ≤ M)) (g : Int) : 0 ≤ lagC k N g ∧ lagC k N g ≤ 1000000000 := by
  by_cases h0 : g ≤ 0
  · unfold lagC; rw [if_pos h0]; omega
  · by_cases h1 : N ≤ g
    · unfold lagC; rw [if_neg h0, if_pos h1]; omega
    · have a := lagC_mono hM hk 0 g.toNat
      have b := lagC_mono hM hk g (N - g).toNat
      rw [show (0 : Int) + (g.toNat : Int) = g by omega] at a
      rw [show g + ((N - g).toNat : Int) = N by omega] at b
      have c : lagC k N 0 = 0 := by unfold lagC; simp
      have d : lagC k N N = 1000000000 := by unfold lagC; rw [if_neg (by omega), if_pos (Int.le_refl _)]
      omega
/-- windows, one behind the other -/
def wbJ (B b : Int) (l : List Int) (j : Nat) : Int := wbN B b l (l.getD j 0)
def inJ (B A b : Int) (l : List Int) (n : Int) (j : Nat) : Bool := decide (wbJ B b l j ≤ n ∧ n < wbJ B b l j + slN B A)
def noJ (B A b : Int) (l : List Int) (n : Int) (m : Nat) : Bool := (List.range m).all fun j => !inJ B A b l n j
theorem noJ_succ (B A b : Int) (l : List Int) (n : Int) (m : Nat) : noJ B A b l n (m + 1) = (noJ B A b l n m && !inJ B A b l n m) := by simp [noJ, List.range_succ]
theorem noJ_get {B A b : Int} {l : List Int} {n : Int} {m : Nat} (h : noJ B A b l n m = true) {j : Nat} (hj : j < m) : inJ B A b l n j = false := by
  have := List.all_eq_true.1 h j (List.mem_range.2 hj)
  simpa using this
theorem inJ_spec (B A b : Int) (l : List Int) (n : Int) (j : Nat) : (inJ B A b l n j = true ∧ wbJ B b l j ≤ n ∧ n < wbJ B b l j + slN B A) ∨ (inJ B A b l n j = false ∧ (n < wbJ B b l j ∨ wbJ B b l j + slN B A ≤ n)) := by
  unfold inJ
  by_cases h : wbJ B b l j ≤ n ∧ n < wbJ B b l j + slN B A
  · left; exact ⟨decide_eq_true h, h⟩
  · right; exact ⟨decide_eq_false h, by omega⟩
def hitN (B A b : Int) (l : List Int) (n : Int) : Nat → Int
  | 0 => -1
  | m + 1 => if hitN B A b l n m = -1 then (if inJ B A b l n m = true then (m : Int) else -1) else hitN B A b l n m
def hitJ (B A b : Int) (l : List Int) (n : Int) : Int := hitN B A b l n l.length
theorem hitN_none {B A b : Int} {l : List Int} {n : Int} : ∀ m, noJ B A b l n m = true → hitN B A b l n m = -1
  | 0, _ => rfl
  | m + 1, h => by
    have h1 := noJ_get h (Nat.lt_succ_self m)
    rw [noJ_succ, Bool.and_eq_true] at h
    have := hitN_none m h.1
    simp only [hitN, this, h1, if_true, Bool.false_eq_true, if_false]
theorem hitN_some {B A b : Int} {l : List Int} {n : Int} {j : Nat} (h0 : noJ B A b l n j = true) (h1 : inJ B A b l n j = true) : ∀ m, j < m → hitN B A b l n m = j
  | 0, h => by omega
  | m + 1, h => by
    by_cases c : j = m
    · subst c
      have := hitN_none j h0
      simp only [hitN, this, h1, if_true]
    · have := hitN_some h0 h1 m (by omega)
      simp only [hitN, this]
      rw [if_neg (by omega)]
theorem hitN_spec (B A b : Int) (l : List Int) (n : Int) : ∀ m, (hitN B A b l n m = -1 ∧ noJ B A b l n m = true) ∨ ∃ j : Nat, hitN B A b l n m = j ∧ j < m ∧ inJ B A b l n j = true ∧ noJ B A b l n j = true
  | 0 => .inl ⟨rfl, rfl⟩
  | m + 1 => by
    rcases hitN_spec B A b l n m with ⟨a, c⟩ | ⟨j, a, c, d, e⟩
    · cases h : inJ B A b l n m with
      | true => right; exact ⟨m, hitN_some c h _ (Nat.lt_succ_self m), Nat.lt_succ_self m, h, c⟩
      | false => left; have hh : noJ B A b l n (m + 1) = true := by rw [noJ_succ, c, h]; rfl
                 exact ⟨hitN_none _ hh, hh⟩
    · right; exact ⟨j, hitN_some e d _ (by omega), by omega, d, e⟩
/-- the time, and the errors -/
def atE (k B A b t : Int) (l : List Int) (n : Int) : Int := if fitsI k B A b t l ≠ 0 then fitsI k B A b t l else utcE b t l n
def plN (b : Int) (l : List Int) (n d : Int) : Int := n - (b + ctL l d) * 1000000000
def atV (k B A b t : Int) (l : List Int) (n : Int) : Int := if atE k B A b t l n ≠ 0 then 0 else if k = 0 ∨ hitJ B A b l n = -1 then plN b l n (utcD b t l n) else plN b l n (l.getD (hitJ B A b l n).toNat 0) - lagV k B A (n - wbJ B b l (hitJ B A b l n).toNat)
def smS (k B A b : Int) (l : List Int) (n : Int) : Nat → Int
  | 0 => 0
  | m + 1 => smS k B A b l n m + lagC k (slN B A) (n - wbJ B b l m)
theorem wins_apart {B A b : Int} {l : List Int} (hs : 0 ≤ slN B A) (h : fitL B A b l l.length = true) {i : Nat} : ∀ j, i < j → j < l.length → wbJ B b l i + slN B A ≤ wbJ B b l j
  | 0, h0, _ => by omega
  | j + 1, h0, hj => by
    have h1 := fitL_get h hj
    simp only [fitJ, decide_eq_true_eq, Nat.succ_ne_zero, false_or, Nat.add_sub_cancel] at h1
    by_cases c : i = j
    · subst c; exact h1
    · have := wins_apart (i := i) hs h j (by omega) (by omega)
      unfold wbJ at this ⊢
      omega
def KM (k B A : Int) : Prop := (k = 1 ∧ 2 ≤ B + A + 1) ∨ (k = 2 ∧ 3601 ≤ B + A + 1)
theorem smS_step {k B A b : Int} {l : List Int} {n : Int} (hk : KM k B A) (h : fitL B A b l l.length = true) : ∀ m, m ≤ l.length → smS k B A b l n m ≤ smS k B A b l (n + 1) m ∧ smS k B A b l (n + 1) m ≤ smS k B A b l n m + 1 ∧ (noJ B A b l n m = true → smS k B A b l (n + 1) m = smS k B A b l n m)
  | 0, _ => by simp [smS]
  | m + 1, hm => by
    have hN : slN B A = (B + A + 1) * 1000000000 := rfl
    have hs0 : 0 ≤ slN B A := by unfold KM at hk; omega
    obtain ⟨a1, a2, a3⟩ := smS_step (n := n) hk h m (by omega)
    obtain ⟨c1, c2, c3⟩ := lagC_step (g := n - wbJ B b l m) hN hk
    rw [show n - wbJ B b l m + 1 = n + 1 - wbJ B b l m by omega] at c1 c2 c3
    simp only [smS]
    rcases inJ_spec B A b l n m with ⟨e, e1, e2⟩ | ⟨e, e1⟩
    · have hno : noJ B A b l n m = true := by
        refine List.all_eq_true.2 fun j hj => ?_
        have hj := List.mem_range.1 hj
        have := wins_apart hs0 h m hj (by omega)
        rcases inJ_spec B A b l n j with ⟨_, f1, f2⟩ | ⟨f, _⟩
        · omega
        · rw [f]; rfl
      have := a3 hno
      refine ⟨by omega, by omega, fun hh => ?_⟩
      rw [noJ_succ, e] at hh
      simp at hh
    · have := c3 (by omega)
      refine ⟨by omega, by omega, fun hh => ?_⟩
      rw [noJ_succ, Bool.and_eq_true] at hh
      have := a3 hh.1
      omega
theorem smS_lip {k B A b : Int} {l : List Int} (hk : KM k B A) (h : fitL B A b l l.length = true) (n : Int) : ∀ d : Nat, smS k B A b l n l.length ≤ smS k B A b l (n + d) l.length ∧ smS k B A b l (n + d) l.length ≤ smS k B A b l n l.length + d
  | 0 => by simp
  | d + 1 => by
    have h1 := smS_lip hk h n d
    have h2 := smS_step (n := n + d) hk h l.length (Nat.le_refl _)
    rw [show n + ((d + 1 : Nat) : Int) = n + d + 1 by omega]
    omega
theorem smS_all {k B A b : Int} {l : List Int} {n : Int} (hk : KM k B A) : ∀ m, (∀ j, j < m → wbJ B b l j + slN B A ≤ n) → smS k B A b l n m = m * 1000000000
  | 0, _ => rfl
  | m + 1, h => by
    have hN : slN B A = (B + A + 1) * 1000000000 := rfl
    have hs0 : 0 < slN B A := by unfold KM at hk; omega
    have := smS_all hk m fun j hj => h j (by omega)
    have h1 := h m (Nat.lt_succ_self m)
    simp only [smS, this]
    unfold lagC
    rw [if_neg (by omega), if_pos (by omega)]
    omega
theorem smS_rest {k B A b : Int} {l : List Int} {n : Int} {i : Nat} : ∀ m, i ≤ m → (∀ j, i ≤ j → j < m → n ≤ wbJ B b l j) → smS k B A b l n m = smS k B A b l n i
  | 0, h, _ => by rw [show i = 0 by omega]
  | m + 1, h, h1 => by
    by_cases c : i = m + 1
    · rw [c]
    · have := smS_rest (k := k) (B := B) (A := A) (b := b) (l := l) (n := n) (i := i) m (by omega) fun j hj hm => h1 j hj (by omega)
      have h2 := h1 m (by omega) (Nat.lt_succ_self m)
      simp only [smS, this]
      unfold lagC
      rw [if_pos (by omega)]
      omega
/-- what is told by a window's number -/
theorem smS_in {k B A b : Int} {l : List Int} {n : Int} {i : Nat} (hk : KM k B A) (h : fitL B A b l l.length = true) (hi : i < l.length) (h1 : wbJ B b l i ≤ n) (h2 : n ≤ wbJ B b l i + slN B A) : smS k B A b l n l.length = i * 1000000000 + lagC k (slN B A) (n - wbJ B b l i) := by
  have hN : slN B A = (B + A + 1) * 1000000000 := rfl
  have hs0 : 0 ≤ slN B A := by unfold KM at hk; omega
  rw [smS_rest (i := i + 1) l.length (by omega) fun j hj hm => by have := wins_apart hs0 h j (i := i) (by omega) hm; omega]
  simp only [smS]
  rw [smS_all hk i fun j hj => by have := wins_apart hs0 h i hj hi; omega]
/-- on which day -/
theorem day_at {B b t : Int} {l : List Int} {n : Int} (hm : mayL b t l = true) (he : utcE b t l n = 0) (hB0 : 0 ≤ B) (hB1 : B ≤ 43200) {j : Nat} (hj : j < l.length) :
    (n < wbJ B b l j + (B + 1) * 1000000000 ∧ utcD b t l n ≤ l.getD j 0 ∨ wbJ B b l j + (B + 1) * 1000000000 ≤ n ∧ l.getD j 0 + 1 ≤ utcD b t l n) ∧ (wbJ B b l j ≤ n → l.getD j 0 ≤ utcD b t l n) ∧ (n ≤ wbJ B b l j + (B + 86400) * 1000000000 → utcD b t l n ≤ l.getD j 0 + 1) := by
  obtain ⟨p0, p1, p2, p3, p4, p5, p6, p7, p8, p9, p10, p11⟩ := utc_parts he
  have hs := sec_at hm hj
  have q1 := secL_mono b l (utcD b t l n + 1) (l.getD j 0 + 1)
  have q2 := secL_mono b l (l.getD j 0 + 1) (utcD b t l n)
  have q3 := secL_mono b l (utcD b t l n + 1) (l.getD j 0)
  have hw : wbJ B b l j = (secL b l (l.getD j 0) + 86400 - B) * 1000000000 := rfl
  generalize wbJ B b l j = W at *
  generalize secL b l (l.getD j 0) = sL at *
  generalize secL b l (l.getD j 0 + 1) = sM at *
  generalize l.getD j 0 = L at *
  generalize utcS b t l n = S at *
  generalize utcN b t l n = R at *
  generalize hD : utcD b t l n = D at *
  generalize secL b l D = sD at *
  generalize secL b l (D + 1) = sE at *
  refine ⟨?_, fun h => ?_, fun h => ?_⟩ <;> omega
/-- out of all windows the day tells how many are over -/
theorem smS_out {k B A b t : Int} {l : List Int} {n : Int} (hk : KM k B A) (hm : mayL b t l = true) (he : utcE b t l n = 0) (hB0 : 0 ≤ B) (hB1 : B ≤ 43200) (hA0 : 0 ≤ A) (hno : noJ B A b l n l.length = true) : ∀ m, m ≤ l.length → smS k B A b l n m = cntL l (utcD b t l n) m * 1000000000
  | 0, _ => by simp [smS, cntL_zero]
  | m + 1, h => by
    have hN : slN B A = (B + A + 1) * 1000000000 := rfl
    have h0 := smS_out hk hm he hB0 hB1 hA0 hno m (by omega)
    have h1 := noJ_get hno (j := m) (by omega)
    obtain ⟨d1, _, _⟩ := day_at hm he hB0 hB1 (j := m) (by omega)
    rw [cntL_succ (getD_some (show m < l.length by omega))]
    simp only [smS, h0]
    rcases inJ_spec B A b l n m with ⟨e, _⟩ | ⟨_, e⟩
    · rw [h1] at e; cases e
    · unfold lagC
      rcases d1 with ⟨f1, f2⟩ | ⟨f1, f2⟩
      · rw [if_pos (by omega), if_neg (by omega)]; omega
      · rw [if_neg (by omega), if_pos (by omega), if_pos (by omega)]; omega
theorem lagV_C {k B A g : Int} (hk : KM k B A) (hs : smI k B A = 0) (h0 : 0 ≤ g) (h1 : g ≤ slN B A) : lagV k B A g = lagC k (slN B A) g := by
  have hN : slN B A = (B + A + 1) * 1000000000 := rfl
  have hs0 : 0 < slN B A := by unfold KM at hk; omega
  rw [lagC_mid hs0 h0 h1]
  have e : lagE k B A g = 0 := by unfold lagE; rw [if_neg]; unfold KM at hk; omega
  unfold lagV lagU mdF
  rw [if_neg (by omega)]
theorem atV_S {k B A b t : Int} {l : List Int} {n : Int} (hs : smI k B A = 0) (hm : mayL b t l = true) (hf : fitL B A b l l.length = true) (he : utcE b t l n = 0) (hk : k ≠ 0) : KM k B A ∧ atE k B A b t l n = 0 ∧ atV k B A b t l n = n - b * 1000000000 - smS k B A b l n l.length := by
  have hN : slN B A = (B + A + 1) * 1000000000 := rfl
  rcases smI_spec k B A with ⟨a, _⟩ | ⟨a, b1, b2, b3, b4, b5⟩
  · omega
  have hK : KM k B A := by unfold KM; omega
  have h0 : atE k B A b t l n = 0 := by
    have hmi : mayI b t l = 0 := by rcases mayI_spec b t l with ⟨_, x⟩ | ⟨x, _⟩; (rw [hm] at x; cases x); exact x
    have : fitsI k B A b t l = 0 := by unfold fitsI; rw [if_neg (by omega), if_neg hk, if_pos hf]
    unfold atE
    rw [if_neg (by omega)]
    exact he
  refine ⟨hK, h0, ?_⟩
  unfold atV
  rw [if_neg (by omega)]
  rcases hitN_spec B A b l n l.length with ⟨c1, c2⟩ | ⟨j, c1, c2, c3, c4⟩
  · rw [if_pos (.inr c1), smS_out hK hm he b1 b2 b3 c2 _ (Nat.le_refl _), cntL_all]
    unfold plN; omega
  · have hj : hitJ B A b l n = (j : Int) := c1
    rw [hj, if_neg (by omega)]
    simp only [Int.toNat_natCast]
    rcases inJ_spec B A b l n j with ⟨_, e1, e2⟩ | ⟨e, _⟩
    · have hoL : okL l t l.length = true := by
        have h0 := hm
        simp only [mayL, Bool.and_eq_true] at h0
        exact h0.2
      rw [lagV_C hK hs (by omega) (by omega), smS_in hK hf c2 e1 (by omega)]
      unfold plN
      rw [(ct_at hoL c2).1]
      omega
    · rw [c3] at e; cases e
/-- what stays behind is never more than a second off the day's -/
theorem smS_near {k B A b t : Int} {l : List Int} {n : Int} (hK : KM k B A) (hm : mayL b t l = true) (hf : fitL B A b l l.length = true) (he : utcE b t l n = 0) (hB0 : 0 ≤ B) (hB1 : B ≤ 43200) (hA0 : 0 ≤ A) (hA1 : A ≤ 43200) :
    (noJ B A b l n l.length = true → smS k B A b l n l.length = ctL l (utcD b t l n) * 1000000000) ∧ -1000000000 ≤ smS k B A b l n l.length - ctL l (utcD b t l n) * 1000000000 ∧ smS k B A b l n l.length - ctL l (utcD b t l n) * 1000000000 ≤ 1000000000 := by
  have hN : slN B A = (B + A + 1) * 1000000000 := rfl
  have hoL : okL l t l.length = true := by
    have h0 := hm
    simp only [mayL, Bool.and_eq_true] at h0
    exact h0.2
  rcases hitN_spec B A b l n l.length with ⟨c1, c2⟩ | ⟨j, c1, c2, c3, c4⟩
  · have := smS_out hK hm he hB0 hB1 hA0 c2 _ (Nat.le_refl _)
    rw [cntL_all] at this
    refine ⟨fun _ => this, by omega, by omega⟩
  · rcases inJ_spec B A b l n j with ⟨_, e1, e2⟩ | ⟨e, _⟩
    · obtain ⟨d1, d2, d3⟩ := day_at hm he hB0 hB1 (j := j) c2
      have d2 := d2 e1
      have d3 := d3 (by omega)
      rw [smS_in hK hf c2 e1 (by omega)]
      have hc := lagC_in (k := k) hN hK (n - wbJ B b l j)
      have hct := ct_at hoL c2
      have hD : utcD b t l n = l.getD j 0 ∨ utcD b t l n = l.getD j 0 + 1 := by omega
      refine ⟨fun hno => ?_, ?_⟩
      · rw [noJ_get hno c2] at c3; cases c3
      · rcases hD with h | h <;> rw [h] <;> omega
    · rw [c3] at e; cases e
/-- at both ends of a window it is what the day tells -/
theorem smS_ends {k B A b t : Int} {l : List Int} (hK : KM k B A) (hm : mayL b t l = true) (hf : fitL B A b l l.length = true) (hB0 : 0 ≤ B) (hB1 : B ≤ 43200) (hA0 : 0 ≤ A) (hA1 : A ≤ 43200) {j : Nat} (hj : j < l.length) :
    (utcE b t l (wbJ B b l j) = 0 → smS k B A b l (wbJ B b l j) l.length = ctL l (utcD b t l (wbJ B b l j)) * 1000000000) ∧
    (utcE b t l (wbJ B b l j + slN B A) = 0 → smS k B A b l (wbJ B b l j + slN B A) l.length = ctL l (utcD b t l (wbJ B b l j + slN B A)) * 1000000000) := by
  have hN : slN B A = (B + A + 1) * 1000000000 := rfl
  have hs0 : 0 < slN B A := by unfold KM at hK; omega
  have hoL : okL l t l.length = true := by
    have h0 := hm
    simp only [mayL, Bool.and_eq_true] at h0
    exact h0.2
  have hct := ct_at hoL hj
  refine ⟨fun he => ?_, fun he => ?_⟩
  · obtain ⟨d1, d2, d3⟩ := day_at hm he hB0 hB1 (j := j) hj
    have d2 := d2 (Int.le_refl _)
    have hD : utcD b t l (wbJ B b l j) = l.getD j 0 := by omega
    rw [smS_in hK hf hj (Int.le_refl _) (by omega), hD, hct.1]
    unfold lagC
    rw [if_pos (by omega)]
    omega
  · obtain ⟨d1, d2, d3⟩ := day_at hm he hB0 hB1 (j := j) hj
    have d3 := d3 (by omega)
    have hD : utcD b t l (wbJ B b l j + slN B A) = l.getD j 0 + 1 := by omega
    rw [smS_in hK hf hj (by omega) (Int.le_refl _), hD, hct.2]
    unfold lagC
    rw [if_neg (by omega), if_pos (by omega)]
    omega
def upF (a b c : Int) : Int := -mdF (-a) b c
theorem lagV_spec (k B A g : Int) : (lagE k B A g = 1 ∧ lagV k B A g = 0) ∨ (lagE k B A g = 0 ∧ k = 1 ∧ lagV k B A g = upF g 1000000000 (slN B A)) ∨ (lagE k B A g = 0 ∧ k = 2 ∧ 2 * g < slN B A ∧ lagV k B A g = upF g (mdF 2000000000 g (slN B A)) (slN B A)) ∨ (lagE k B A g = 0 ∧ k = 2 ∧ slN B A ≤ 2 * g ∧ lagV k B A g = 1000000000 - mdF (slN B A - g) (mdF 2000000000 (slN B A - g) (slN B A)) (slN B A)) := by
  rcases lagE_spec k B A g with ⟨h, h1, _⟩ | ⟨h, _, _, _, _, _, _, _, _, _, _, _, hk⟩
  · exact .inl ⟨h, h1⟩
  · right
    unfold lagV upF
    rw [if_neg (by omega)]
    rcases hk with hk | hk
    · left; rw [if_pos hk]; exact ⟨h, hk, rfl⟩
    · right
      rw [if_neg (by omega)]
      by_cases c : 2 * g < slN B A
      · left; rw [if_pos c]; exact ⟨h, hk, c, rfl⟩
      · right; rw [if_neg c]; exact ⟨h, hk, by omega, rfl⟩
def winB (B b t : Int) (l : List Int) (d : Int) : Int := if wrongI b t l d = 0 then wbN B b l d else 0
def winN (B A b t : Int) (l : List Int) (d : Int) : Int := if wrongI b t l d = 0 then wbN B b l d + slN B A else 0
theorem win_spec (B A b t : Int) (l : List Int) (d : Int) : (wrongI b t l d = 0 ∧ winB B b t l d = wbN B b l d ∧ winN B A b t l d = wbN B b l d + slN B A ∧ wbN B b l d = (secL b l d + 86400 - B) * 1000000000 ∧ slN B A = (B + A + 1) * 1000000000) ∨ (wrongI b t l d ≠ 0 ∧ winB B b t l d = 0 ∧ winN B A b t l d = 0) := by
  unfold winB winN
  by_cases h : wrongI b t l d = 0
  · rw [if_pos h, if_pos h]; exact .inl ⟨h, rfl, rfl, rfl, rfl⟩
  · rw [if_neg h, if_neg h]; exact .inr ⟨h, rfl, rfl⟩
theorem slN_spec (B A : Int) : slN B A = (B + A + 1) * 1000000000 := rfl
end Go.Proofs.YtbjgopehomnpgaaDoor
