/-
 Layer 10 behind the blobs: the reference.
-/
import Derived.Test.YtikfgnmljpjnbaaDoorSycpob
import Derived.Test.YtikfgnmljpjnbaaDoorZzbpob
namespace Go.Proofs.YtikfgnmljpjnbaaDoor
open Go.RowKit Go.Extern.Stop Go.Stop Go.Extern Go.Proofs.YtikfgnmljpjnbaaDoor.Sy
set_option linter.unusedVariables false
set_option linter.unusedSimpArgs false
theorem ba_beq {a b : ByteArray} : (a == b) = true ↔ a = b := by
 cases a with | mk a => cases b with | mk b =>
 rw [ByteArray.mk.injEq, ← beq_iff_eq (a := a)]
 rfl
def cntN (l : List Value) (d : Int) (n : Nat) : Nat := (List.range n).countP fun i => !decide (d < Go.RowKit.intOf (l.getD (i * 3) Go.undef))
def refK (l : List Value) (d : Int) : Nat → Nat
 | 0 => 0
 | n + 1 => if Go.RowKit.intOf (l.getD (n * 3) Go.undef) ≤ d then n + 1 else refK l d n
def roI (f : Int) (l : List Value) (d : Int) (n : Nat) : Int := if refK l d n = 0 then f else Go.RowKit.intOf (l.getD ((refK l d n - 1) * 3 + 1) Go.undef)
def rnS (s : ByteArray) (l : List Value) (d : Int) (n : Nat) : ByteArray := if refK l d n = 0 then s else strOf (l.getD ((refK l d n - 1) * 3 + 2) Go.undef)
def shN (l : List Value) (n : Nat) : Bool := (List.range n).all fun k => decide ((strOf (l.getD (k * 3 + 2) Go.undef)).size ≤ 200)
theorem shN_succ (l : List Value) (n : Nat) : shN l (n + 1) = (shN l n && decide ((strOf (l.getD (n * 3 + 2) Go.undef)).size ≤ 200)) := by
 unfold shN; rw [List.range_succ, List.all_append]; simp
theorem shN_get {l : List Value} {n k : Nat} (h : shN l n = true) (hk : k < n) : (strOf (l.getD (k * 3 + 2) Go.undef)).size ≤ 200 := by
 have := List.all_eq_true.1 h k (List.mem_range.2 hk)
 simpa using this
def bigB (s : ByteArray) (l : List Value) : Bool := !(shN l (min (l.length / 3) 60)) || decide (60 < l.length / 3) || decide (200 < s.size)
noncomputable def zzcI : Nat → List Value → Int
 | 17, [l, .int _ d, .int _ n] => ((cntN (rows l) d n.toNat : Nat) : Int)
 | 18, [.int _ f, l, .int _ d, .int _ n] => roI f (rows l) d n.toNat
 | i, l => zzbI i l
noncomputable def zzcB : Nat → List Value → Bool
 | 10, [l, .int _ n] => shN (rows l) n.toNat
 | 11, [.string s, l] => bigB s (rows l)
 | i, l => zzbB i l
noncomputable def zzcV : Nat → List Value → Value
 | 13, [.string s, l, .int _ d, .int _ n] => .string (rnS s (rows l) d n.toNat)
 | i, l => zzbV i l
noncomputable abbrev zzcE (iv : List Int) (bv : List Bool) (vv : List Value) (sv : List ByteArray) : Env := { iv := iv, bv := bv, vv := vv, sv := sv, fi := zzcI, fb := zzcB, fv := zzcV, et := 101 }
set_option maxHeartbeats 8000000 in
theorem zzcup : Agree 17 10 13 (zzbE [] [] [] []) (zzcE [] [] [] []) := ⟨rfl, (by
   intro f hf
   funext l
   show zzcI f l = zzbI f l
   unfold zzcI
   split <;> first | rfl | omega), (by
   intro f hf
   funext l
   show zzcB f l = zzbB f l
   unfold zzcB
   split <;> first | rfl | omega), (by
   intro f hf
   funext l
   show zzcV f l = zzbV f l
   unfold zzcV
   split <;> first | rfl | omega)⟩
end Go.Proofs.YtikfgnmljpjnbaaDoor
