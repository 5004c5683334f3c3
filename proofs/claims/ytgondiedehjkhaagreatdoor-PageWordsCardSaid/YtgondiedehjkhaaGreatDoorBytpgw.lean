/-
 Slices of bytes, as lists of bytes: reading, appending, turning into a text.
-/
import Derived.Test.YtgondiedehjkhaaGreatDoorNumpgw
import Derived.Maps.AppendAt
import Derived.Deep.AppendLies
import Derived.Laws.OwnMore
import Derived.Laws.MakeOwn
import Derived.Laws.IdiomStrings
import Derived.Laws.AppendOwnNone
import Derived.Lib.BufferRead
import Derived.RegionTactic
import Derived.OwnWalk
import Derived.ChangeSlices
import Derived.OpenShut
namespace Go.Proofs.YtgondiedehjkhaaGreatDoor
open Go.RowKit Go.ChangeShapes Go.WideShapes
abbrev bV (x : UInt8) : Value := .int .u8 (x.toNat : Int)
def bv (l : List UInt8) : List Value := l.map bV
def Rd (w : World) (A : Option Addr) (l : List UInt8) : Prop := (A = none → l = []) ∧ ∀ i (h : i < l.length), ∃ ad, A = some ad ∧ (ad.add i).block < w.heap.size ∧ w.cell? (ad.add i) = some (bV l[i])
theorem Rd.nil (w : World) (A : Option Addr) : Rd w A [] := ⟨fun _ => rfl, fun i h => absurd h (Nat.not_lt_zero i)⟩
theorem Rd.at_ {w : World} {A : Option Addr} {l : List UInt8} (h : Rd w A l) {i : Nat} (hi : i < l.length) : ∃ ad, A = some ad ∧ (ad.add i).block < w.heap.size ∧ w.cell? (ad.add i) = some (bV l[i]) := h.2 i hi
theorem add0 (a : Addr) : a.add 0 = a := by unfold Addr.add; simp
theorem add_lit (a : Addr) (n : Nat) (h : n ≠ 0) : a.add n = ⟨a.block, a.off + n, none⟩ := by unfold Addr.add; simp [h]
theorem Rd.cell {w : World} {ad : Addr} {l : List UInt8} (h : Rd w (some ad) l) {i : Nat} (hi : i < l.length) : w.cell? (ad.add i) = some (.int .u8 (l[i].toNat : Int)) := by
 obtain ⟨a, e, _, h2⟩ := h.2 i hi
 injection e with e
 subst e
 exact h2
theorem Rd.below {w w' : World} {A : Option Addr} {l : List UInt8} (h : Rd w A l) (hb : Below w.heap.size w w') : Rd w' A l :=
 ⟨h.1, fun i hi => by
   obtain ⟨ad, e, h1, h2⟩ := h.2 i hi
   exact ⟨ad, e, Nat.lt_of_lt_of_le h1 hb.size, by rw [hb.cell h1]; exact h2⟩⟩
theorem add_block (a : Addr) (n : Nat) : (a.add n).block = a.block := by unfold Addr.add; split <;> rfl
theorem add_add (a : Addr) (i j : Nat) : (a.add i).add j = a.add (i + j) := by
 unfold Addr.add
 by_cases hi : i = 0 <;> by_cases hj : j = 0 <;> simp [hi, hj, Nat.add_assoc]
theorem Rd.grown {w w' : World} {A : Option Addr} {l : List UInt8} {row : Option Nat} (h : Rd w A l) (hg : w.grownBy w' row) (hr : ∀ ad, A = some ad → some ad.block ≠ row) : Rd w' A l :=
 ⟨h.1, fun i hi => by
   obtain ⟨ad, e, h1, h2⟩ := h.2 i hi
   refine ⟨ad, e, Nat.lt_of_lt_of_le h1 hg.size, ?_⟩
   rw [World.cell?_of_block (hg.block _ h1 (by rw [add_block]; exact hr ad e))]; exact h2⟩
theorem Rd.take {w : World} {A : Option Addr} {l : List UInt8} (h : Rd w A l) (k : Nat) : Rd w A (l.take k) :=
 ⟨fun e => by rw [h.1 e]; simp, fun i hi => by
   have hi' : i < l.length := by simp at hi; omega
   obtain ⟨ad, e, h1, h2⟩ := h.2 i hi'
   exact ⟨ad, e, h1, by rw [h2]; simp⟩⟩
theorem Rd.drop {w : World} {ad : Addr} {l : List UInt8} (h : Rd w (some ad) l) (k : Nat) : Rd w (some (ad.add k)) (l.drop k) :=
 ⟨(fun e => by cases e), fun i hi => by
   have hi' : k + i < l.length := by simp at hi; omega
   obtain ⟨ad', e, h1, h2⟩ := h.2 (k + i) hi'
   injection e with e
   subst e
   refine ⟨_, rfl, ?_, ?_⟩
   · rw [add_add]; exact h1
   · rw [add_add, h2]; simp⟩
theorem Rd.same {w : World} {A : Option Addr} {l m : List UInt8} (h : Rd w A l) (h' : Rd w A m) (hl : l.length = m.length) : l = m := by
 refine List.ext_getElem hl fun i h1 h2 => ?_
 obtain ⟨a, e, _, c⟩ := h.2 i h1
 obtain ⟨a', e', _, c'⟩ := h'.2 i h2
 rw [e] at e'
 injection e' with e'
 subst e'
 rw [c] at c'
 injection c' with c'
 injection c' with _ c'
 exact UInt8.toNat_inj.1 (by omega)
theorem Rd.lit (w : World) (l : List UInt8) (cs : Array Value) (T : TypeId) (fr : Nat × Nat) (hcs : cs = (bv l).toArray) : Rd (w.alloc (.cells cs T fr)) (some ⟨w.heap.size, 0, none⟩) l := by
 subst hcs
 refine ⟨(fun e => by cases e), fun i hi => ⟨_, rfl, ?_, ?_⟩⟩
 · rw [add_block]; simp
 · have ha : (⟨w.heap.size, 0, none⟩ : Addr).add i = ⟨w.heap.size, i, none⟩ := by
     by_cases h0 : i = 0
     · subst h0; rw [add0]
     · rw [add_lit _ _ h0]; simp
   rw [ha]
   rw [cell_of_row _ _ _ _ _ fr (heap_alloc_new w _)]
   simp [bv, hi]
variable {P : Program}
end Go.Proofs.YtgondiedehjkhaaGreatDoor
