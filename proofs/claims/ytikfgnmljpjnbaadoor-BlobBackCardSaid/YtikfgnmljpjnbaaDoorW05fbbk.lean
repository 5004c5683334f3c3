/-
 Layer 5: fields out of a reader.
-/
import Derived.Test.YtikfgnmljpjnbaaDoorW05ebbk
namespace Go.Proofs.YtikfgnmljpjnbaaDoor
open Go.RowKit Go.Extern.Stop Go.Stop Go.Extern
set_option linter.unusedVariables false
set_option linter.unusedSimpArgs false
def getV (l : List UInt8) (k : Nat) : Nat := if k ≤ l.length then leV (l.take k) else 0
def getL (l : List UInt8) (k : Nat) : List UInt8 := if k ≤ l.length then l.drop k else []
def getS (l : List UInt8) (sh : Bool) (k : Nat) : Bool := if k ≤ l.length then sh else true
theorem getL_le (l : List UInt8) (k : Nat) : (getL l k).length ≤ l.length := by unfold getL; split <;> simp
theorem getV_lt (l : List UInt8) (k : Nat) : getV l k < 256 ^ k := by
 unfold getV
 split
 · have := leV_lt (l.take k)
   have e : (l.take k).length = k := by simp; omega
   rwa [e] at this
 · exact Nat.pow_pos (by decide)
def getT (l : List UInt8) : List UInt8 := if getV l 1 ≤ (getL l 1).length then (getL l 1).take (getV l 1) else []
end Go.Proofs.YtikfgnmljpjnbaaDoor
