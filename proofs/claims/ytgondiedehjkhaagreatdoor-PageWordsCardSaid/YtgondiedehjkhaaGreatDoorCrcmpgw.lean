/-
 Sums of 32 bits: plain mathematics. A register is a number below 2^32; a byte's step loses nothing.
-/
import Derived.Laws.BitsAllLaws
namespace Go.Proofs.YtgondiedehjkhaaGreatDoor
def polyC : Nat := 3988292384
def crcBit (r : Nat) : Nat := if r % 2 = 1 then (r / 2) ^^^ polyC else r / 2
def crcBits : Nat → Nat → Nat
 | 0, r => r
 | k + 1, r => crcBit (crcBits k r)
def crcByte (r x : Nat) : Nat := crcBits 8 (r ^^^ x)
def crcReg (r : Nat) (l : List UInt8) : Nat := l.foldl (fun r x => crcByte r x.toNat) r
def crcMore (s : Nat) (l : List UInt8) : Nat := 4294967295 - crcReg (4294967295 - s) l
theorem polyC_lt : polyC < 2 ^ 32 := by decide
theorem crcBit_lt {r : Nat} (h : r < 2 ^ 32) : crcBit r < 2 ^ 32 := by
 unfold crcBit
 split
 · exact Nat.xor_lt_two_pow (by omega) polyC_lt
 · omega
theorem crcBits_lt (k : Nat) {r : Nat} (h : r < 2 ^ 32) : crcBits k r < 2 ^ 32 := by
 induction k with
 | zero => exact h
 | succ k ih => exact crcBit_lt ih
theorem byte_lt (x : UInt8) : x.toNat < 2 ^ 32 := Nat.lt_of_lt_of_le x.toNat_lt (by decide)
theorem crcByte_lt {r x : Nat} (h : r < 2 ^ 32) (hx : x < 2 ^ 32) : crcByte r x < 2 ^ 32 := crcBits_lt 8 (Nat.xor_lt_two_pow h hx)
theorem crcReg_lt (l : List UInt8) : ∀ {r : Nat}, r < 2 ^ 32 → crcReg r l < 2 ^ 32 := by
 induction l with
 | nil => intro r h; exact h
 | cons x l ih => intro r h; exact ih (crcByte_lt h (byte_lt x))
theorem crcReg_snoc (r : Nat) (a : List UInt8) (x : UInt8) : crcReg r (a ++ [x]) = crcByte (crcReg r a) x.toNat := by simp [crcReg]
theorem crcMore_lt (s : Nat) (l : List UInt8) : crcMore s l < 2 ^ 32 := by unfold crcMore; omega
def sumByte (s i : Nat) : UInt8 := UInt8.ofNat (s / 2 ^ (8 * i))
def sumBytes (s : Nat) : List UInt8 := [sumByte s 0, sumByte s 1, sumByte s 2, sumByte s 3]
def opensB (s : List UInt8) : Bool := decide (4 ≤ s.length ∧ s.drop (s.length - 4) = sumBytes (crcMore 0 (s.take (s.length - 4))))
end Go.Proofs.YtgondiedehjkhaaGreatDoor
