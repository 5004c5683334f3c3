/-
 Sums of 32 bits: plain mathematics. A register is a number below 2^32; a byte's step loses nothing.
-/
import Derived.Laws.BitsAllLaws
namespace Go.Proofs.YtikfgnmljpjnbaaDoor
def polyC : Nat := 3988292384
def crcBit (r : Nat) : Nat := if r % 2 = 1 then (r / 2) ^^^ polyC else r / 2
def crcBits : Nat → Nat → Nat
 | 0, r => r
 | k + 1, r => crcBit (crcBits k r)
def crcByte (r x : Nat) : Nat := crcBits 8 (r ^^^ x)
def crcReg (r : Nat) (l : List UInt8) : Nat := l.foldl (fun r x => crcByte r x.toNat) r
def crcMore (s : Nat) (l : List UInt8) : Nat := 4294967295 - crcReg (4294967295 - s) l
theorem polyC_lt : polyC < 2 ^ 32 := by decide
theorem crcBit_lt {r : Nat} (h : r < 2 ^ 32) : crcBit r < 2 ^ 32 := by
 unfold crcBit
 split
 · exact Nat.xor_lt_two_pow (by omega) polyC_lt
 · omega
theorem crcBits_lt (k : Nat) {r : Nat} (h : r < 2 ^ 32) : crcBits k r < 2 ^ 32 := by
 induction k with
 | zero => exact h
 | succ k ih => exact crcBit_lt ih
theorem byte_lt (x : UInt8) : x.toNat < 2 ^ 32 := Nat.lt_of_lt_of_le x.toNat_lt (by decide)
theorem crcByte_lt {r x : Nat} (h : r < 2 ^ 32) (hx : x < 2 ^ 32) : crcByte r x < 2 ^ 32 := crcBits_lt 8 (Nat.xor_lt_two_pow h hx)
theorem crcReg_lt (l : List UInt8) : ∀ {r : Nat}, r < 2 ^ 32 → crcReg r l < 2 ^ 32 := by
 induction l with
 | nil => intro r h; exact h
 | cons x l ih => intro r h; exact ih (crcByte_lt h (byte_lt x))
theorem crcReg_append (r : Nat) (a b : List UInt8) : crcReg r (a ++ b) = crcReg (crcReg r a) b := by simp [crcReg]
theorem crcReg_snoc (r : Nat) (a : List UInt8) (x : UInt8) : crcReg r (a ++ [x]) = crcByte (crcReg r a) x.toNat := by simp [crcReg]
theorem top_bit {r : Nat} (h : r < 2 ^ 31) : (r ^^^ polyC).testBit 31 = true := by
 rw [Nat.testBit_xor, Nat.testBit_lt_two_pow h]; decide
theorem xor_cancel {a b c : Nat} (h : a ^^^ c = b ^^^ c) : a = b := by
 have : (a ^^^ c) ^^^ c = (b ^^^ c) ^^^ c := by rw [h]
 simpa [Nat.xor_assoc] using this
theorem xor_cancel_left {a b c : Nat} (h : c ^^^ a = c ^^^ b) : a = b := by
 rw [Nat.xor_comm c a, Nat.xor_comm c b] at h; exact xor_cancel h
theorem crcBit_inj {r s : Nat} (hr : r < 2 ^ 32) (hs : s < 2 ^ 32) (h : crcBit r = crcBit s) : r = s := by
 have r2 : r / 2 < 2 ^ 31 := by omega
 have s2 : s / 2 < 2 ^ 31 := by omega
 unfold crcBit at h
 by_cases h1 : r % 2 = 1 <;> by_cases h2 : s % 2 = 1
 · rw [if_pos h1, if_pos h2] at h
   have := xor_cancel h
   omega
 · rw [if_pos h1, if_neg h2] at h
   have t := top_bit r2
   rw [h, Nat.testBit_lt_two_pow s2] at t
   cases t
 · rw [if_neg h1, if_pos h2] at h
   have t := top_bit s2
   rw [← h, Nat.testBit_lt_two_pow r2] at t
   cases t
 · rw [if_neg h1, if_neg h2] at h
   omega
theorem crcBits_inj (k : Nat) {r s : Nat} (hr : r < 2 ^ 32) (hs : s < 2 ^ 32) (h : crcBits k r = crcBits k s) : r = s := by
 induction k with
 | zero => exact h
 | succ k ih => exact ih (crcBit_inj (crcBits_lt k hr) (crcBits_lt k hs) h)
theorem crcByte_inj {r s x : Nat} (hr : r < 2 ^ 32) (hs : s < 2 ^ 32) (hx : x < 2 ^ 32) (h : crcByte r x = crcByte s x) : r = s :=
 xor_cancel (crcBits_inj 8 (Nat.xor_lt_two_pow hr hx) (Nat.xor_lt_two_pow hs hx) h)
theorem crcByte_inj' {r x y : Nat} (hr : r < 2 ^ 32) (hx : x < 2 ^ 32) (hy : y < 2 ^ 32) (h : crcByte r x = crcByte r y) : x = y :=
 xor_cancel_left (crcBits_inj 8 (Nat.xor_lt_two_pow hr hx) (Nat.xor_lt_two_pow hr hy) h)
theorem crcReg_inj (l : List UInt8) : ∀ {r s : Nat}, r < 2 ^ 32 → s < 2 ^ 32 → crcReg r l = crcReg s l → r = s := by
 induction l with
 | nil => intro r s _ _ h; exact h
 | cons x l ih => intro r s hr hs h; exact crcByte_inj hr hs (byte_lt x) (ih (crcByte_lt hr (byte_lt x)) (crcByte_lt hs (byte_lt x)) h)
theorem crcReg_set (l : List UInt8) (r : Nat) (hr : r < 2 ^ 32) (n : Nat) (hn : n < l.length) (y : UInt8) (hy : y ≠ l[n]) : crcReg r (l.set n y) ≠ crcReg r l := by
 intro h
 have e1 : l = l.take n ++ (l[n] :: l.drop (n + 1)) := by simp
 have e2 : l.set n y = l.take n ++ (y :: l.drop (n + 1)) := by rw [List.set_eq_take_append_cons_drop, if_pos hn]
 rw [e2] at h
 conv at h => rhs; rw [e1]
 rw [crcReg_append, crcReg_append] at h
 have hp := crcReg_lt (l.take n) hr
 have h' : crcReg (crcByte (crcReg r (l.take n)) y.toNat) (l.drop (n + 1)) = crcReg (crcByte (crcReg r (l.take n)) l[n].toNat) (l.drop (n + 1)) := h
 have := crcByte_inj' hp (byte_lt y) (byte_lt _) (crcReg_inj _ (crcByte_lt hp (byte_lt _)) (crcByte_lt hp (byte_lt _)) h')
 exact hy (UInt8.toNat_inj.1 this)
theorem crcMore_lt (s : Nat) (l : List UInt8) : crcMore s l < 2 ^ 32 := by unfold crcMore; omega
theorem crcMore_set (l : List UInt8) (n : Nat) (hn : n < l.length) (y : UInt8) (hy : y ≠ l[n]) : crcMore 0 (l.set n y) ≠ crcMore 0 l := by
 unfold crcMore
 have h1 := crcReg_lt l (r := 4294967295) (by omega)
 have h2 := crcReg_lt (l.set n y) (r := 4294967295) (by omega)
 have := crcReg_set l 4294967295 (by omega) n hn y hy
 show 4294967295 - crcReg 4294967295 _ ≠ 4294967295 - crcReg 4294967295 _
 omega
def sumByte (s i : Nat) : UInt8 := UInt8.ofNat (s / 2 ^ (8 * i))
def sumBytes (s : Nat) : List UInt8 := [sumByte s 0, sumByte s 1, sumByte s 2, sumByte s 3]
theorem sumByte_toNat (s i : Nat) : (sumByte s i).toNat = s / 2 ^ (8 * i) % 256 := by unfold sumByte; simp
theorem sumBytes_inj {s t : Nat} (hs : s < 2 ^ 32) (ht : t < 2 ^ 32) (h : sumBytes s = sumBytes t) : s = t := by
 unfold sumBytes at h
 simp only [List.cons.injEq, and_true] at h
 obtain ⟨h0, h1, h2, h3⟩ := h
 replace h0 := congrArg UInt8.toNat h0
 replace h1 := congrArg UInt8.toNat h1
 replace h2 := congrArg UInt8.toNat h2
 replace h3 := congrArg UInt8.toNat h3
 simp only [sumByte_toNat] at h0 h1 h2 h3
 omega
def sealOf (l : List UInt8) : List UInt8 := l ++ sumBytes (crcMore 0 l)
def opensB (s : List UInt8) : Bool := decide (4 ≤ s.length ∧ s.drop (s.length - 4) = sumBytes (crcMore 0 (s.take (s.length - 4))))
theorem opens_seal (l : List UInt8) : opensB (sealOf l) = true := by
 unfold opensB sealOf
 have e : (l ++ sumBytes (crcMore 0 l)).length - 4 = l.length := by simp [sumBytes]
 rw [e]
 simp [sumBytes]
theorem opens_set (l : List UInt8) (n : Nat) (hn : n < l.length + 4) (y : UInt8) (hy : y ≠ (sealOf l)[n]'(by simp [sealOf, sumBytes]; omega)) : opensB ((sealOf l).set n y) = false := by
 unfold opensB
 apply decide_eq_false
 rintro ⟨_, h⟩
 have el : ((sealOf l).set n y).length - 4 = l.length := by simp [sealOf, sumBytes]
 rw [el] at h
 by_cases hc : n < l.length
 · have e1 : (sealOf l).set n y = l.set n y ++ sumBytes (crcMore 0 l) := by
     unfold sealOf; rw [List.set_append_left _ _ hc]
   have e2 : (l.set n y).length = l.length := by simp
   rw [e1, List.drop_left' e2, List.take_left' e2] at h
   have hy' : y ≠ l[n] := by
     intro e; apply hy; unfold sealOf; rw [List.getElem_append_left hc]; exact e
   exact crcMore_set l n hc y hy' (sumBytes_inj (crcMore_lt _ _) (crcMore_lt _ _) h).symm
 · have hc' : l.length ≤ n := by omega
   have e1 : (sealOf l).set n y = l ++ (sumBytes (crcMore 0 l)).set (n - l.length) y := by
     unfold sealOf; rw [List.set_append_right _ _ hc']
   rw [e1, List.drop_left' rfl, List.take_left' rfl] at h
   have hl : n - l.length < (sumBytes (crcMore 0 l)).length := by simp [sumBytes]; omega
   have : y = (sumBytes (crcMore 0 l))[n - l.length] := by
     have h2 := congrArg (fun z => z[n - l.length]?) h
     simp only [List.getElem?_set_self hl] at h2
     rw [List.getElem?_eq_getElem hl] at h2
     exact Option.some.inj h2
   apply hy; unfold sealOf; rw [List.getElem_append_right hc']; exact this
end Go.Proofs.YtikfgnmljpjnbaaDoor
