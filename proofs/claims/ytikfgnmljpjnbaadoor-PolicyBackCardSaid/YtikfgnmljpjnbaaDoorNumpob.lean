/-
 A law's own function that tells an error's number: nil is 0, an api.Errno its number.
-/
import Derived.Test.YtikfgnmljpjnbaaDoorAspob
import Derived.Below
import Derived.WalkSmall
namespace Go.Proofs.YtikfgnmljpjnbaaDoor
open Go.RowKit Go.Extern.Stop Go.Stop Go.Extern

theorem handle_lt {w : World} (hg : w.cell? ⟨0, 0, none⟩ = some asHandle) : 0 < w.heap.size := by
 rcases Nat.lt_or_ge 0 w.heap.size with h | h
 · exact h
 · simp [World.cell?, Array.getElem?_eq_none h] at hg
theorem handle_alloc {w : World} (hg : w.cell? ⟨0, 0, none⟩ = some asHandle) (o : Obj) : (w.alloc o).cell? ⟨0, 0, none⟩ = some asHandle := by
 rw [World.cell?_alloc_lt _ _ ⟨0, 0, none⟩ (handle_lt hg)]; exact hg
theorem handle_below {B : Nat} {w w' : World} (hg : w.cell? ⟨0, 0, none⟩ = some asHandle) (hb : Below B w w') (hB : 0 < B) : w'.cell? ⟨0, 0, none⟩ = some asHandle := by
 rw [hb.cell (p := ⟨0, 0, none⟩) hB]; exact hg
theorem bcell {W w1 : World} (hb : Below W.heap.size W w1) : (∀ b o, b < W.heap.size → w1.cell? ⟨b, o, none⟩ = W.cell? ⟨b, o, none⟩) ∧ (∀ b o, b < W.heap.size → w1.frozen? ⟨b, o, none⟩ = W.frozen? ⟨b, o, none⟩) :=
 ⟨fun b o h => hb.cell (p := ⟨b, o, none⟩) h, fun b o h => hb.frozen (p := ⟨b, o, none⟩) h⟩
def Held (w0 w : World) : Prop := w.cell? ⟨0, 0, none⟩ = some asHandle ∧ Below w0.heap.size w0 w
theorem Held.handle {w0 w : World} (h : Held w0 w) : w.cell? ⟨0, 0, none⟩ = some asHandle := h.1
theorem Held.below {w0 w : World} (h : Held w0 w) : Below w0.heap.size w0 w := h.2
theorem Held.start {w : World} (hg : w.cell? ⟨0, 0, none⟩ = some asHandle) : Held w w := ⟨hg, Below.refl _ _⟩
theorem Held.step {w0 w w' : World} (h : Held w0 w) (hb : Below w.heap.size w w') : Held w0 w' := ⟨handle_below h.1 hb (handle_lt h.1), h.2.trans (hb.mono h.2.size)⟩
theorem Held.drew {w0 w : World} (h : Held w0 w) : Held w0 w.drew := h.step (Below.refl _ _).drew
theorem Held.drewN {w0 w : World} (h : Held w0 w) (n : Nat) : Held w0 (w.drewN n) := h.step (below_drewN (Below.refl _ _) n)
theorem Held.alloc {w0 w : World} (h : Held w0 w) (o : Obj) : Held w0 (w.alloc o) := h.step ((Below.refl _ _).alloc (Nat.le_refl _) _)
theorem num28_nil (w : World) : Calls Tryd.prog 20 #[.nilIface] w fun e w' => e = .returned (.int .i64 0) ∧ Below w.heap.size w w' := by
 go_enter Tryd.func20, Tryd.ntmps20
 go_wp2
 go_ret
 exact ⟨rfl, (Below.refl _ _).alloc (Nat.le_refl _) _⟩
set_option maxHeartbeats 4000000 in
theorem num28_err (n : Int) (w : World) (hg : w.cell? ⟨0, 0, none⟩ = some asHandle) : Calls Tryd.prog 20 #[.iface 101 (.int .i64 n)] w fun e w' => e = .returned (.int .i64 n) ∧ Below w.heap.size w w' := by
 have hg1 := handle_alloc hg (.cells #[.int .i64 0] 101)
 have ht1 : (w.alloc (.cells #[.int .i64 0] 101)).cell? ⟨w.heap.size, 0, none⟩ = some (.int .i64 0) := by simp
 have hf1 : (w.alloc (.cells #[.int .i64 0] 101)).frozen? ⟨w.heap.size, 0, none⟩ = false := by simp
 go_enter Tryd.func20, Tryd.ntmps20
 go_wp2_with (go_at_call 40; refine (as_hit _ _ (.int .i64 0) _ hg1 ht1 hf1).mono ?_; rintro e w' ⟨rfl, rfl⟩)
 go_ret
 refine ⟨rfl, ?_⟩
 repeat (first | exact Below.refl _ _ | refine Below.setCell ?_ (by simp) _ | refine Below.alloc ?_ (by simp; try omega) _)
end Go.Proofs.YtikfgnmljpjnbaaDoor
