/-
 Layer 5: a number out of a reader: a range over a function.
-/
import Derived.RangeFuncNested
import Derived.RangeFuncBound
import Derived.RangeFuncCalls
import Derived.RangeFuncLeaves
import Derived.RangeFuncBox
import Derived.Shelf.Abstract
import Derived.Shelf.RegionOpen
import Derived.OwnWalkIn
import Derived.TacticsInMore
import Derived.LoopNIn
import Derived.LoopIn
import Derived.Test.YtikfgnmljpjnbaaDoorW05dbbk
namespace Go.Proofs.YtikfgnmljpjnbaaDoor
open Go.RowKit Go.Extern.Stop Go.Stop Go.Extern
set_option linter.unusedVariables false
set_option linter.unusedSimpArgs false
open Go.Shelf
attribute [local go_sem] Oper.semAt_some
structure Kept (N b : Nat) (W W' : World) : Prop where
 os : W'.os = W.os
 tape : W'.tape = W.tape
 output : W'.output = W.output
 size : W.heap.size ≤ W'.heap.size
 block : ∀ k, k < N → k ≠ b → W'.heap[k]? = W.heap[k]?
theorem Kept.refl (N b : Nat) (W : World) : Kept N b W W := ⟨rfl, rfl, rfl, Nat.le_refl _, fun _ _ _ => rfl⟩
theorem Kept.trans {N b : Nat} {A B C : World} (h : Kept N b A B) (k : Kept N b B C) : Kept N b A C :=
 ⟨k.os.trans h.os, k.tape.trans h.tape, k.output.trans h.output, Nat.le_trans h.size k.size, fun i hi hn => (k.block i hi hn).trans (h.block i hi hn)⟩
theorem Kept.cell {N b : Nat} {W W' : World} (h : Kept N b W W') {p : Addr} (hp : p.block < N) (hn : p.block ≠ b) : W'.cell? p = W.cell? p := World.cell?_of_block (w := W) (h.block p.block hp hn)
theorem Kept.set (N b : Nat) (W : World) (u : Value) : Kept N b W (W.setCell ⟨b, 0, none⟩ u) :=
 ⟨rfl, rfl, rfl, by simp, fun k _ hn => Below.heap_setCell _ _ _ _ hn⟩
theorem Kept.obj {N b : Nat} {w : World} (hN : N ≤ w.heap.size) (W : World) (l : Nat) (o o' : Obj) (hl : w.heap.size ≤ l) (_ : W.heap[l]? = some o) (_ : o.isCells = false) (_ : o.isWalk = false) : Kept N b W (W.putObj l o') :=
 ⟨rfl, rfl, rfl, by simp, fun k hk _ => World.putObj_heap_other (by omega)⟩
theorem Kept.own {β : Type} {N b B : Nat} {w0 : World} (hN : N ≤ w0.heap.size) (hB : N ≤ B) : OwnFrom B (fun (_ : β) W => Kept N b w0 W) :=
 fun _ W W' row hs hg hr => hs.trans ⟨hg.os, hg.tape, hg.output, hg.size, fun k hk _ => hg.block k (by have := hs.size; omega) (fun e => by have := (hr k e.symm).1; omega)⟩
theorem backward_c (A : Option Addr) (n c : Nat) (w : World) :
   Calls Tryd.prog 114 #[.slice A n c] w fun e w' => e = .returned (.func (.func 123) #[] #[.pointer (some ⟨w.heap.size, 0, none⟩)]) ∧ w' = w.alloc (.cells #[.slice A n c] 22) := by
 go_enter Tryd.func114, Tryd.ntmps114
 go_wp2_with (fail)
 go_ret
 exact ⟨rfl, rfl⟩
theorem gb_kept {w w1 w' : World} {g : Nat} {o : Obj} (hg : (w.alloc o).grownBy w1 (some g)) (hK : Kept w1.heap.size w.heap.size w1 w') : w.grownBy w' (some g) := by
 have hs := hg.size
 simp at hs
 refine ⟨hK.os.trans hg.os, hK.tape.trans hg.tape, hK.output.trans hg.output, by have := hK.size; omega, fun k hk hn => ?_⟩
 rw [hK.block k (by omega) (by omega), hg.block k (by simp; omega) hn]
 exact Below.heap_alloc _ _ k hk
end Go.Proofs.YtikfgnmljpjnbaaDoor
