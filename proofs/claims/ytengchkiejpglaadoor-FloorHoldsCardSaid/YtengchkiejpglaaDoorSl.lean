/-
  A slice of integers among a law's arguments, opened: its cells, their bounds, its length.
-/
import Derived.Test.YtengchkiejpglaaDoorNum
import Derived.ChangeSlices
import Derived.OpenShut
namespace Go.Proofs.YtengchkiejpglaaDoor
open Go.ChangeShapes Go.WideShapes Go.RowKit
/-- The cells of a slice of integers: below the world's blocks, each holds its number. -/
def SliceI (w : World) (oa : Option Addr) (n : Nat) (k : IntKind) (f : Nat → Int) : Prop := ∀ i, i < n → ∃ aa, oa = some aa ∧ w.cell? (aa.add i) = some (.int k (f i)) ∧ (aa.add i).block < w.heap.size
theorem slice_open {H : Type} {enc : TypeId × Value → H} {P : Program} {w : World} {base : Nat} {spare : Nat → Bool} {held : Bool} {t e : TypeId} {k : IntKind} {fuel : Nat} {o : Option Addr} {l c : Nat} {x : DataW H × List MemPlace}
    (ht : P.underlying t = some (.slice e)) (he : P.underlying e = some (.int k)) (hc : P.cellsOf e = 1) (h : DataW.trod enc P w base spare held fuel t [.slice o l c] = some x) :
    ∃ f : Nat → Int, SliceI w o l k f ∧ (∀ i, (Lit.int k (f i)).wf = true) ∧ l ≤ 9223372036854775807 := by
  have wz : (Lit.int k 0).wf = true := by cases k <;> rfl
  rcases open_ints ht he hc h with ⟨h1, _⟩ | ⟨a, len, cap, zs, h1, _, h2, h3, h4, _, h5, h6⟩
  · simp only [List.cons.injEq, and_true, Value.slice.injEq] at h1
    obtain ⟨rfl, rfl, rfl⟩ := h1
    exact ⟨fun _ => 0, fun i hi => absurd hi (Nat.not_lt_zero i), fun _ => wz, by omega⟩
  · simp only [List.cons.injEq, and_true, Value.slice.injEq] at h1
    obtain ⟨rfl, rfl, rfl⟩ := h1
    have hl : l ≤ zs.length := by rw [h4]; split <;> omega
    refine ⟨fun i => zs.getD i 0, fun i hi => ⟨a, rfl, h5 i (by omega), World.block_lt_of_cell? w _ (h5 i (by omega))⟩, fun i => ?_, by unfold maxLen at h3; omega⟩
    rcases Nat.lt_or_ge i zs.length with hi | hi
    · have : zs.getD i 0 = zs[i] := by simp [List.getD, hi]
      show (Lit.int k (zs.getD i 0)).wf = true
      rw [this]; exact h6 _ (List.getElem_mem hi)
    · have : zs.getD i 0 = 0 := by simp [List.getD, hi]
      show (Lit.int k (zs.getD i 0)).wf = true
      rw [this]; exact wz
end Go.Proofs.YtengchkiejpglaaDoor
