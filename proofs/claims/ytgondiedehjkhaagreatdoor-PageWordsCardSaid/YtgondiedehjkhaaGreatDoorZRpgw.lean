/-
 Layer 5 by the second engine: a reader of fields.
-/
import Derived.Test.YtgondiedehjkhaaGreatDoorSycpgw
import Derived.Test.YtgondiedehjkhaaGreatDoorE00pgw
import Derived.Test.YtgondiedehjkhaaGreatDoorRdnpgw
namespace Go.Proofs.YtgondiedehjkhaaGreatDoor
open Go.RowKit Go.Extern.Stop Go.Stop Go.Extern Go.Proofs.YtgondiedehjkhaaGreatDoor.Sy
set_option linter.unusedVariables false
set_option linter.unusedSimpArgs false
noncomputable def okR (l : List Value) : Bool := @decide (∀ x ∈ l, inK x) (Classical.propDecidable _)
theorem okR_iff {l : List Value} : okR l = true ↔ ∀ x ∈ l, inK x := @decide_eq_true_iff _ (Classical.propDecidable _)
def rdI (l : List UInt8) : Int := if getV l 8 < 9223372036854775808 then (getV l 8 : Nat) else (getV l 8 : Nat) - 18446744073709551616
noncomputable def rI : Nat → List Value → Int
 | 0, [l, .int _ k] => ((getV (byL (rows l)) k.toNat : Nat) : Int)
 | 1, [l] => rdI (byL (rows l))
 | 2, [l, .bool s] => dnE (byL (rows l)) s
 | _, _ => 0
noncomputable def rB : Nat → List Value → Bool
 | 0, [l] => okR (rows l)
 | 1, [l, .bool s, .int _ k] => getS (byL (rows l)) s k.toNat
 | _, _ => false
noncomputable def rV : Nat → List Value → Value
 | 0, [l, .int _ k] => Value.tuple ((getL (byL (rows l)) k.toNat).map bV).toArray
 | _, _ => Go.undef
theorem syso (s : ByteArray) : strOf (.string s) = s := rfl
theorem syse (a b : ByteArray) : strEq (.string a) (.string b) = (a == b) := rfl
theorem syio (k : IntKind) (n : Int) : intOf (.int k n) = n := rfl
theorem sybo (b : Bool) : boolOf (.bool b) = b := rfl
theorem typ_len {r : SK} {v : Value} {n : Nat} (h : typ (.sl r) v) (e : r.wd = n) (e0 : 0 < n) : ((rows v).length / n : Nat) ≤ 140737488355328 ∧ (rows v).length = (rows v).length / n * n := by
 obtain ⟨_, m, h1, h2, _⟩ := h
 rw [e] at h2
 rw [h2, Nat.mul_div_cancel _ e0]
 exact ⟨h1, rfl⟩
theorem sym : Tryz.prog.follows .mixedOrders = true := by kernel_rfl
abbrev syG : Glob := [(0, 0, asHandle)]
end Go.Proofs.YtgondiedehjkhaaGreatDoor
