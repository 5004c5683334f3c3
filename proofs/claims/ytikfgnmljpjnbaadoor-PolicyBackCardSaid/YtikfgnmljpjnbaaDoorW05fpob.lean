/-
 Layer 5: fields out of a reader.
-/
import Derived.Test.YtikfgnmljpjnbaaDoorW05epob
namespace Go.Proofs.YtikfgnmljpjnbaaDoor
open Go.RowKit Go.Extern.Stop Go.Stop Go.Extern
set_option linter.unusedVariables false
set_option linter.unusedSimpArgs false
def getV (l : List UInt8) (k : Nat) : Nat := if k ≤ l.length then leV (l.take k) else 0
def getL (l : List UInt8) (k : Nat) : List UInt8 := if k ≤ l.length then l.drop k else []
def getS (l : List UInt8) (sh : Bool) (k : Nat) : Bool := if k ≤ l.length then sh else true
theorem getL_le (l : List UInt8) (k : Nat) : (getL l k).length ≤ l.length := by unfold getL; split <;> simp
theorem getV_lt (l : List UInt8) (k : Nat) : getV l k < 256 ^ k := by
 unfold getV
 split
 · have := leV_lt (l.take k)
   have e : (l.take k).length = k := by simp; omega
   rwa [e] at this
 · exact Nat.pow_pos (by decide)
theorem value_c (w : World) (z : Int) (g k : Nat) (l : List UInt8) (sh : Bool) (h : Rdr w g l sh) (hk8 : k ≤ 8) (hz : z = (k : Int)) (hl : l.length ≤ 140737488355328) :
   Calls Tryd.prog 92 #[.pointer (some ⟨g, 0, none⟩), .int .i64 z] w (ValP w g (getV l k) (getL l k) (getS l sh k)) := by
 unfold getV getL getS
 by_cases hk : k ≤ l.length
 · simp only [if_pos hk]; exact value_ok w z g k l sh h hk hk8 hz hl
 · simp only [if_neg hk]; exact value_short w z g k l sh h (by omega) hk8 hz
def NumP (w : World) (g : Nat) (v : Value) (l : List UInt8) (sh : Bool) (e : Ending) (w' : World) : Prop := e = .returned v ∧ Rdr w' g l sh ∧ w.grownBy w' (some g)
theorem get1_c (w : World) (g : Nat) (l : List UInt8) (sh : Bool) (h : Rdr w g l sh) (hl : l.length ≤ 140737488355328) :
   Calls Tryd.prog 50 #[.pointer (some ⟨g, 0, none⟩)] w (NumP w g (.int .u8 (getV l 1 : Nat)) (getL l 1) (getS l sh 1)) := by
 have hv : getV l 1 < 256 := by have := getV_lt l 1; have e : 256 ^ 1 = 256 := (by decide); omega
 go_enter Tryd.func50, Tryd.ntmps50
 go_wp2_with (go_at_call 92; (with_reducible refine (value_c _ _ _ 1 _ _ h (by decide) (by simp) hl).mono ?_); rintro e w1 ⟨rfl, h1, h2⟩)
 go_ret
 exact ⟨rfl, h1, h2⟩
theorem get2_c (w : World) (g : Nat) (l : List UInt8) (sh : Bool) (h : Rdr w g l sh) (hl : l.length ≤ 140737488355328) :
   Calls Tryd.prog 52 #[.pointer (some ⟨g, 0, none⟩)] w (NumP w g (.int .u16 (getV l 2 : Nat)) (getL l 2) (getS l sh 2)) := by
 have hv : getV l 2 < 65536 := by have := getV_lt l 2; have e : 256 ^ 2 = 65536 := (by decide); omega
 go_enter Tryd.func52, Tryd.ntmps52
 go_wp2_with (go_at_call 92; (with_reducible refine (value_c _ _ _ 2 _ _ h (by decide) (by simp) hl).mono ?_); rintro e w1 ⟨rfl, h1, h2⟩)
 go_ret
 exact ⟨rfl, h1, h2⟩
theorem get8_c (w : World) (g : Nat) (l : List UInt8) (sh : Bool) (h : Rdr w g l sh) (hl : l.length ≤ 140737488355328) :
   Calls Tryd.prog 51 #[.pointer (some ⟨g, 0, none⟩)] w (NumP w g (.int .i64 (wrap64 (getV l 8 : Nat))) (getL l 8) (getS l sh 8)) := by
 go_enter Tryd.func51, Tryd.ntmps51
 go_wp2_with (go_at_call 92; (with_reducible refine (value_c _ _ _ 8 _ _ h (by decide) (by simp) hl).mono ?_); rintro e w1 ⟨rfl, h1, h2⟩)
 go_ret
 exact ⟨rfl, h1, h2⟩
def getT (l : List UInt8) : List UInt8 := if getV l 1 ≤ (getL l 1).length then (getL l 1).take (getV l 1) else []
def getTL (l : List UInt8) : List UInt8 := getL (getL l 1) (getV l 1)
def getTS (l : List UInt8) (sh : Bool) : Bool := getS (getL l 1) (getS l sh 1) (getV l 1)
end Go.Proofs.YtikfgnmljpjnbaaDoor
