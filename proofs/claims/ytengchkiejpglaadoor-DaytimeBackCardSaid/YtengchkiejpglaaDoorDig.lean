/-
  Plain mathematics of decimal digits: a number's last digits, so many; the number of digits.
-/
import Derived.Lib.ItoaNum
import Derived.Below
import Derived.Lib.LaidTab
namespace Go.Proofs.YtengchkiejpglaaDoor
open Go.RowKit
set_option linter.unusedVariables false
namespace Dig
/-- a number's last k digits -/
def digs : Nat → Nat → List UInt8
  | 0, _ => []
  | k + 1, n => digs k (n / 10) ++ [UInt8.ofNat (48 + n % 10)]
/-- l, with zeros ahead up to k -/
def pad (k : Nat) (l : List UInt8) : List UInt8 := List.replicate (k - l.length) 48 ++ l
theorem digs_length (k n : Nat) : (digs k n).length = k := by induction k generalizing n with
  | zero => rfl
  | succ k ih => simp [digs, ih]
theorem pad_snoc (k : Nat) (l : List UInt8) (c : UInt8) : pad (k + 1) (l ++ [c]) = pad k l ++ [c] := by
  unfold pad; simp
theorem pad_cons (k : Nat) (l : List UInt8) (h : l.length < k) : pad k (48 :: l) = pad k l := by
  unfold pad
  obtain ⟨j, hj⟩ : ∃ j, k - l.length = j + 1 := ⟨k - l.length - 1, by omega⟩
  have : k - (48 :: l).length = j := by simp; omega
  rw [this, hj, List.replicate_succ', List.append_assoc]; rfl
theorem pad_id (k : Nat) (l : List UInt8) (h : k ≤ l.length) : pad k l = l := by
  unfold pad; rw [show k - l.length = 0 by omega]; rfl
theorem digs_zero (k : Nat) : digs k 0 = List.replicate k 48 := by
  induction k with
  | zero => rfl
  | succ k ih => rw [List.replicate_succ']; show digs k (0 / 10) ++ [UInt8.ofNat (48 + 0 % 10)] = _; simp [ih]
theorem pad_dec (k n : Nat) (hk : 1 ≤ k) (h : n < 10 ^ k) : pad k (Lib.decDigits n) = digs k n := by
  induction k generalizing n with
  | zero => omega
  | succ k ih =>
    by_cases h10 : n < 10
    · rw [Lib.decDigits, dif_pos h10]
      have : n / 10 = 0 := by omega
      show pad (k + 1) ([] ++ [UInt8.ofNat (48 + n)]) = digs k (n / 10) ++ [UInt8.ofNat (48 + n % 10)]
      rw [pad_snoc, this, digs_zero, Nat.mod_eq_of_lt h10]
      simp [pad]
    · rw [Lib.decDigits, dif_neg h10, pad_snoc]
      have hk : 1 ≤ k := by
        rcases Nat.eq_zero_or_pos k with rfl | h
        · simp at h; omega
        · exact h
      rw [ih (n / 10) hk (by rw [Nat.pow_succ] at h; omega)]; rfl
theorem dec_length_le (k n : Nat) (hk : 1 ≤ k) (h : n < 10 ^ k) : (Lib.decDigits n).length ≤ k := by
  have h1 := congrArg List.length (pad_dec k n hk h)
  rw [digs_length] at h1
  unfold pad at h1; simp at h1; omega
theorem digs_cons (k n : Nat) : digs (k + 1) n = UInt8.ofNat (48 + n / 10 ^ k % 10) :: digs k n := by
  induction k generalizing n with
  | zero => simp [digs]
  | succ k ih =>
    show digs (k + 1) (n / 10) ++ [UInt8.ofNat (48 + n % 10)] = _
    rw [ih (n / 10), Nat.div_div_eq_div_mul, ← Nat.pow_succ']; rfl
theorem nums_piece (a : Nat) (h : a < 10) : (⟨#[48, 49, 50, 51, 52, 53, 54, 55, 56, 57]⟩ : ByteArray).extract a (a + 1) = ⟨#[UInt8.ofNat (48 + a)]⟩ := by
  have : a = 0 ∨ a = 1 ∨ a = 2 ∨ a = 3 ∨ a = 4 ∨ a = 5 ∨ a = 6 ∨ a = 7 ∨ a = 8 ∨ a = 9 := by omega
  rcases this with rfl | rfl | rfl | rfl | rfl | rfl | rfl | rfl | rfl | rfl <;> rfl
end Dig
namespace Dig
def isD (c : UInt8) : Bool := decide (48 ≤ c.toNat) && decide (c.toNat ≤ 57)
def allD (l : List UInt8) : Bool := l.all isD
def val (l : List UInt8) : Int := l.foldl (fun a c => 10 * a + ((c.toNat : Int) - 48)) 0
/-- the number of a text of digits alone, or another -/
def numOr (e : Int) (l : List UInt8) : Int := if allD l = true then val l else e
def digB (s : ByteArray) : Bool := allD s.data.toList && !s.toList.isEmpty
/-- the same of a text -/
def numS (e : Int) (s : ByteArray) : Int := numOr e s.data.toList
theorem val_snoc (l : List UInt8) (c : UInt8) : val (l ++ [c]) = 10 * val l + ((c.toNat : Int) - 48) := by unfold val; rw [List.foldl_append]; rfl
theorem allD_snoc (l : List UInt8) (c : UInt8) : allD (l ++ [c]) = (allD l && isD c) := by unfold allD; simp
theorem val_bd' (l : List UInt8) (h : allD l.reverse = true) : 0 ≤ val l.reverse ∧ val l.reverse < ((10 ^ l.length : Nat) : Int) := by
  induction l with
  | nil => simp [val]
  | cons c l ih =>
    rw [List.reverse_cons] at h ⊢
    rw [allD_snoc, Bool.and_eq_true] at h
    have h2 := ih h.1
    have h3 := h.2
    unfold isD at h3
    simp at h3
    rw [val_snoc, List.length_cons, Nat.pow_succ]
    omega
theorem val_bd (l : List UInt8) (h : allD l = true) : 0 ≤ val l ∧ val l < ((10 ^ l.length : Nat) : Int) := by
  have := val_bd' l.reverse (by rw [List.reverse_reverse]; exact h)
  rw [List.reverse_reverse, List.length_reverse] at this; exact this
theorem numS_bd (e : Int) (s : ByteArray) (he : -1 ≤ e ∧ e ≤ 0) (hs : s.size ≤ 9) : -1 ≤ numS e s ∧ numS e s < 1000000000 := by
  unfold numS numOr
  split
  · next h =>
    have hv := val_bd _ h
    have hl : s.data.toList.length = s.size := by simp
    have hp : (10 : Nat) ^ s.data.toList.length ≤ 10 ^ 9 := Nat.pow_le_pow_right (by omega) (by omega)
    omega
  · omega
theorem take_snoc (s : ByteArray) (k : Nat) (h : k < s.size) : s.data.toList.take (k + 1) = s.data.toList.take k ++ [s[k]] := by
  rw [List.take_succ_eq_append_getElem (by simpa using h)]; rfl
theorem allD_at (s : ByteArray) (k : Nat) (hk : k < s.size) (h : isD s[k] = false) : allD s.data.toList = false := by
  unfold allD
  rw [List.all_eq_false]
  exact ⟨s[k], by simp [ByteArray.getElem_eq_getElem_data], by simp [h]⟩
theorem val_digs (k n : Nat) (h : n < 10 ^ k) : val (digs k n) = n := by
  induction k generalizing n with
  | zero => simp at h; subst h; rfl
  | succ k ih =>
    show val (digs k (n / 10) ++ [UInt8.ofNat (48 + n % 10)]) = n
    rw [val_snoc, ih (n / 10) (by rw [Nat.pow_succ] at h; omega)]
    have : (UInt8.ofNat (48 + n % 10)).toNat = 48 + n % 10 := by simp; omega
    rw [this]; omega
theorem allD_digs (k n : Nat) : allD (digs k n) = true := by
  induction k generalizing n with
  | zero => rfl
  | succ k ih =>
    show allD (digs k (n / 10) ++ [UInt8.ofNat (48 + n % 10)]) = true
    rw [allD_snoc, ih]
    have : (UInt8.ofNat (48 + n % 10)).toNat = 48 + n % 10 := by simp; omega
    unfold isD; rw [this]; simp; omega
end Dig
theorem tab_below {P : Program} {n : String} {g : Nat} {k : IntKind} {zs : List Int} {w w' : World} (hg : P.globalNamed n = some g) (h : Lib.TabIs P w n k zs) (hb : Below w.heap.size w w') : Lib.TabIs P w' n k zs := by
  have hlt : g < w.heap.size := by
    rcases Nat.lt_or_ge g w.heap.size with h' | h'
    · exact h'
    · exfalso; unfold Lib.TabIs World.var? at h; rw [hg] at h; simp [Array.getElem?_eq_none h'] at h
  unfold Lib.TabIs World.var? at h ⊢
  rw [hg] at h ⊢
  simp only [Option.bind_some] at h ⊢
  rw [hb.block g hlt]; exact h
end Go.Proofs.YtengchkiejpglaaDoor
