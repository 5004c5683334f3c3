/-
 Digits of 32 bits: plain mathematics. dg x k is the k-th digit of x.
-/
import Derived.WalkKit
namespace Go.Proofs.YtjcgmdgkdkfdpaaDoor
abbrev BS : Int := 4294967296
def dg (x : Int) (k : Nat) : Int := x / BS ^ k % 4294967296
end Go.Proofs.YtjcgmdgkdkfdpaaDoor
