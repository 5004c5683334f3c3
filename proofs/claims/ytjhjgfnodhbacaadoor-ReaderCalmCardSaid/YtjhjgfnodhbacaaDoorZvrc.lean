/-
  Layer 20 by the second engine: steps, wholes, the law.
-/
import Derived.Test.YtjhjgfnodhbacaaDoorSycrc
import Derived.Test.YtjhjgfnodhbacaaDoorZurc
import Derived.Test.YtjhjgfnodhbacaaDoorE00rc
import Derived.Test.YtjhjgfnodhbacaaDoorNumrc
namespace Go.Proofs.YtjhjgfnodhbacaaDoor
open Go.RowKit Go.Extern.Stop Go.Stop Go.Extern Go.Proofs.YtjhjgfnodhbacaaDoor.Sy
set_option linter.unusedVariables false
set_option linter.unusedSimpArgs false
def bgE (l : List Value) (s : Int) : Int := if pgB l = false then 1 else if s % 2 = 1 then 19 else if s = 18446744073709551614 then 2 else 0
def bgW (l : List Value) (s : Int) (k : Nat) : Int := if bgE l s = 0 then wdK l (s + 2) k else 0
def dec6 (x : Int) : Int := if x = 0 then 18446744073709551615 else x - 1
def mdI (x : Int) : Int := if x % 2 = 1 then (if x = 18446744073709551615 then 0 else x + 1) else x
def stpI (n : Int) : Int := if n < 0 ∨ 16 < n then 17 else n + 1
def swI (a b : List Value) (n : Int) (k : Nat) : Int := if n = 0 ∧ k = 0 then dec6 (ci b 0) else if n = 16 ∧ k = 0 then ci b 0 else if 0 < n ∧ n < 16 ∧ n = k then ci b k else ci a k
theorem pgL_if (l : List Value) : pgL l = if pgB l = true then 0 else 1 := by
  unfold pgL pgE pgB
  split
  · rename_i h; rw [if_pos (decide_eq_true h)]
  · rename_i h; rw [if_neg (fun hx => h (of_decide_eq_true hx))]
theorem tm2 {x : Int} (h : 0 ≤ x) : x.tmod 2 = x % 2 := Int.tmod_eq_emod_of_nonneg h
noncomputable def zvI : Nat → List Value → Int
  | 27, [l, .int _ s] => bgE (rows l) s
  | 28, [l, .int _ s, .int _ k] => bgW (rows l) s k.toNat
  | 29, [a, b, .int _ n, .int _ k] => swI (rows a) (rows b) n k.toNat
  | 30, [.int _ n] => stpI n
  | 31, [.int _ n] => dec6 n
  | 32, [.int _ n] => mdI n
  | i, l => zuI i l
noncomputable def zvB : Nat → List Value → Bool
  | i, l => zuB i l
noncomputable def zvV : Nat → List Value → Value
  | i, l => zuV i l
noncomputable abbrev zvE (iv : List Int) (bv : List Bool) (vv : List Value) (sv : List ByteArray) : Env := { iv := iv, bv := bv, vv := vv, sv := sv, fi := zvI, fb := zvB, fv := zvV, et := 229 }
set_option maxHeartbeats 8000000 in
theorem zvup : Agree 27 6 12 (zuE [] [] [] []) (zvE [] [] [] []) := ⟨rfl, (by
    intro f hf
    funext l
    show zvI f l = zuI f l
    unfold zvI
    split <;> first | rfl | omega), (by
    intro f hf
    funext l
    show zvB f l = zuB f l
    unfold zvB
    split <;> first | rfl | omega), (by
    intro f hf
    funext l
    show zvV f l = zuV f l
    unfold zvV
    split <;> first | rfl | omega)⟩
end Go.Proofs.YtjhjgfnodhbacaaDoor
