/-
 A keyed sum of bytes (four words, rounds): plain mathematics over the second engine's numbers.
-/
import Derived.Test.YtgondiedehjkhaaGreatDoorN09lpgw
namespace Go.Proofs.YtgondiedehjkhaaGreatDoor
open Go.RowKit Go.Extern.Stop Go.Stop Go.Extern Go.Proofs.YtgondiedehjkhaaGreatDoor.Sy
set_option linter.unusedVariables false
set_option linter.unusedSimpArgs false
structure Sp where
 a : Int
 b : Int
 c : Int
 d : Int
def xoI (x y : Int) : Int := Sy.bitsV .xor .u64 x y
def adI (x y : Int) : Int := (x + y) % 18446744073709551616
def rlI (n : Nat) (x : Int) : Int := x % 2 ^ (64 - n) * 2 ^ n + x / 2 ^ (64 - n)
def rndS (s : Sp) : Sp :=
 ⟨adI (rlI 32 (adI s.a s.b)) (xoI (rlI 16 s.d) (adI s.c s.d)),
  xoI (rlI 17 (xoI (rlI 13 s.b) (adI s.a s.b))) (adI (adI s.c s.d) (xoI (rlI 13 s.b) (adI s.a s.b))),
  rlI 32 (adI (adI s.c s.d) (xoI (rlI 13 s.b) (adI s.a s.b))),
  xoI (rlI 21 (xoI (rlI 16 s.d) (adI s.c s.d))) (adI (rlI 32 (adI s.a s.b)) (xoI (rlI 16 s.d) (adI s.c s.d)))⟩
def spC (s : Sp) : Nat → Int
 | 0 => s.a
 | 1 => s.b
 | 2 => s.c
 | _ => s.d
def tkS (s : Sp) (w : Int) : Sp :=
 ⟨xoI (rndS (rndS ⟨s.a, s.b, s.c, xoI s.d w⟩)).a w, (rndS (rndS ⟨s.a, s.b, s.c, xoI s.d w⟩)).b, (rndS (rndS ⟨s.a, s.b, s.c, xoI s.d w⟩)).c, (rndS (rndS ⟨s.a, s.b, s.c, xoI s.d w⟩)).d⟩
def wdI (l : List UInt8) (i : Nat) : Int := (getV (l.drop (8 * i)) 8 : Nat)
def st0 (k : List UInt8) : Sp := ⟨xoI (getV k 8 : Nat) 8317987319222330741, xoI (getV (getL k 8) 8 : Nat) 7237128888997146477, xoI (getV k 8 : Nat) 7816392313619706465, xoI (getV (getL k 8) 8 : Nat) 8387220255154660723⟩
def stN (k l : List UInt8) : Nat → Sp
 | 0 => st0 k
 | n + 1 => tkS (stN k l n) (wdI l n)
def padL (b : List UInt8) : List UInt8 := b ++ List.replicate (7 - b.length % 8) 0 ++ [UInt8.ofNat b.length]
def rndN (s : Sp) : Nat → Sp
 | 0 => s
 | n + 1 => rndS (rndN s n)
def preF (k b : List UInt8) : Sp := ⟨(stN k (padL b) (b.length / 8 + 1)).a, (stN k (padL b) (b.length / 8 + 1)).b, xoI (stN k (padL b) (b.length / 8 + 1)).c 255, (stN k (padL b) (b.length / 8 + 1)).d⟩
def sipS (k b : List UInt8) : Int := xoI (xoI (xoI (rndN (preF k b) 4).a (rndN (preF k b) 4).b) (rndN (preF k b) 4).c) (rndN (preF k b) 4).d
def numS (k : List UInt8) (p m : Int) : Int := if m = 18446744073709551615 then sipS k (byL (numB p 8)) else sipS k (byL (numB p 8)) % (m + 1)
def drvL (k : List UInt8) (u : Int) : List Value := numB (sipS k (byL [.int .u8 u, .int .u8 0])) 8 ++ numB (sipS k (byL [.int .u8 u, .int .u8 1])) 8
end Go.Proofs.YtgondiedehjkhaaGreatDoor
