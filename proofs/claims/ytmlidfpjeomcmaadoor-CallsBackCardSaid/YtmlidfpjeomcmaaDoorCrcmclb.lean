/-
 Sums of 32 bits: plain mathematics. A register is a number below 2^32; a byte's step loses nothing.
-/
import Derived.Laws.BitsAllLaws
namespace Go.Proofs.YtmlidfpjeomcmaaDoor
def polyC : Nat := 3988292384
def crcBit (r : Nat) : Nat := if r % 2 = 1 then (r / 2) ^^^ polyC else r / 2
def crcBits : Nat → Nat → Nat
 | 0, r => r
 | k + 1, r => crcBit (crcBits k r)
def crcByte (r x : Nat) : Nat := crcBits 8 (r ^^^ x)
def crcReg (r : Nat) (l : List UInt8) : Nat := l.foldl (fun r x => crcByte r x.toNat) r
def crcMore (s : Nat) (l : List UInt8) : Nat := 4294967295 - crcReg (4294967295 - s) l
def sumByte (s i : Nat) : UInt8 := UInt8.ofNat (s / 2 ^ (8 * i))
def sumBytes (s : Nat) : List UInt8 := [sumByte s 0, sumByte s 1, sumByte s 2, sumByte s 3]
def opensB (s : List UInt8) : Bool := decide (4 ≤ s.length ∧ s.drop (s.length - 4) = sumBytes (crcMore 0 (s.take (s.length - 4))))
end Go.Proofs.YtmlidfpjeomcmaaDoor
