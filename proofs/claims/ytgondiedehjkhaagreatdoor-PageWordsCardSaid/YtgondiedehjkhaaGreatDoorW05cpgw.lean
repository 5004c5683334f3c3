/-
 Layer 5: a reader of fields.
-/
import Derived.Test.YtgondiedehjkhaaGreatDoorW05pgw
import Derived.Laws.BitsAllLaws
namespace Go.Proofs.YtgondiedehjkhaaGreatDoor
open Go.RowKit Go.Extern.Stop Go.Stop Go.Extern
set_option linter.unusedVariables false
set_option linter.unusedSimpArgs false
def beV (l : List UInt8) : Nat := l.foldl (fun a x => a * 256 + x.toNat) 0
def leV (l : List UInt8) : Nat := beV l.reverse
theorem gb_below {a b : World} {row : Option Nat} (h : Below a.heap.size a b) : a.grownBy b row := ⟨h.os, h.tape, h.output, h.size, fun i hi _ => h.block i hi⟩
def Rdr (w : World) (g : Nat) (l : List UInt8) (sh : Bool) : Prop := ∃ A c, w.heap[g]? = some (.cells #[.slice A l.length c, .bool sh] 209 (0, 0)) ∧ (A = none → c = 0) ∧ l.length ≤ c ∧ Rd w A l ∧ (∀ ad, A = some ad → ad.block < g)
theorem Rdr.lt {w : World} {g : Nat} {l : List UInt8} {sh : Bool} (h : Rdr w g l sh) : g < w.heap.size := by
 obtain ⟨A, c, h0, _⟩ := h
 exact (Array.getElem?_eq_some_iff.1 h0).1
theorem Rdr.keep {w w' : World} {g : Nat} {l : List UInt8} {sh : Bool} {row : Option Nat} (h : Rdr w g l sh) (hg : w.grownBy w' row) (hr : row = none ∨ ∃ r, row = some r ∧ r ≠ g ∧ ∀ A c, w.heap[g]? = some (.cells #[.slice A l.length c, .bool sh] 209 (0, 0)) → ∀ ad, A = some ad → ad.block ≠ r) : Rdr w' g l sh := by
 have hlt := h.lt
 obtain ⟨A, c, h0, h1, h2, h3, h4⟩ := h
 have hne : some g ≠ row := by
   rcases hr with rfl | ⟨r, rfl, hn, _⟩
   · simp
   · intro e; injection e with e; exact hn e.symm
 refine ⟨A, c, (hg.block g hlt hne).trans h0, h1, h2, h3.grown hg fun ad e => ?_, h4⟩
 rcases hr with rfl | ⟨r, rfl, _, hh⟩
 · simp
 · intro e2; injection e2 with e2; exact hh A c h0 ad e e2
theorem Rdr.below {w w' : World} {g : Nat} {l : List UInt8} {sh : Bool} (h : Rdr w g l sh) (hb : Below w.heap.size w w') : Rdr w' g l sh := h.keep (gb_below (row := none) hb) (.inl rfl)
end Go.Proofs.YtgondiedehjkhaaGreatDoor
