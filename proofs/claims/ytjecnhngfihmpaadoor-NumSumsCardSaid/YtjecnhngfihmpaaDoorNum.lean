/-
  A law's own function that tells an error's number: nil is 0, an api.Errno its number.
-/
import Derived.Test.YtjecnhngfihmpaaDoorAs
import Derived.Below
import Derived.WalkSmall
namespace Go.Proofs.YtjecnhngfihmpaaDoor
open Go.RowKit Go.Extern.Stop Go.Stop Go.Extern

theorem handle_lt {w : World} (hg : w.cell? ⟨0, 0, none⟩ = some asHandle) : 0 < w.heap.size := by
  rcases Nat.lt_or_ge 0 w.heap.size with h | h
  · exact h
  · simp [World.cell?, Array.getElem?_eq_none h] at hg
theorem handle_alloc {w : World} (hg : w.cell? ⟨0, 0, none⟩ = some asHandle) (o : Obj) : (w.alloc o).cell? ⟨0, 0, none⟩ = some asHandle := by
  rw [World.cell?_alloc_lt _ _ ⟨0, 0, none⟩ (handle_lt hg)]; exact hg
theorem handle_below {B : Nat} {w w' : World} (hg : w.cell? ⟨0, 0, none⟩ = some asHandle) (hb : Below B w w') (hB : 0 < B) : w'.cell? ⟨0, 0, none⟩ = some asHandle := by
  rw [hb.cell (p := ⟨0, 0, none⟩) hB]; exact hg
theorem num01_nil (w : World) : Calls Tryd.prog 21 #[.nilIface] w fun e w' => e = .returned (.int .i64 0) ∧ Below w.heap.size w w' := by
  go_enter Tryd.func21, Tryd.ntmps21
  go_wp2
  go_ret
  exact ⟨rfl, (Below.refl _ _).alloc (Nat.le_refl _) _⟩
set_option maxHeartbeats 4000000 in
theorem num01_err (n : Int) (w : World) (hg : w.cell? ⟨0, 0, none⟩ = some asHandle) : Calls Tryd.prog 21 #[.iface 110 (.int .i64 n)] w fun e w' => e = .returned (.int .i64 n) ∧ Below w.heap.size w w' := by
  have hg1 := handle_alloc hg (.cells #[.int .i64 0] 110)
  have ht1 : (w.alloc (.cells #[.int .i64 0] 110)).cell? ⟨w.heap.size, 0, none⟩ = some (.int .i64 0) := by simp
  have hf1 : (w.alloc (.cells #[.int .i64 0] 110)).frozen? ⟨w.heap.size, 0, none⟩ = false := by simp
  go_enter Tryd.func21, Tryd.ntmps21
  go_wp2_with (go_at_call 80; refine (as_hit _ _ (.int .i64 0) _ hg1 ht1 hf1).mono ?_; rintro e w' ⟨rfl, rfl⟩)
  go_ret
  refine ⟨rfl, ?_⟩
  repeat (first | exact Below.refl _ _ | refine Below.setCell ?_ (by simp) _ | refine Below.alloc ?_ (by simp; try omega) _)
theorem num02_nil (w : World) : Calls Tryd.prog 42 #[.nilIface] w fun e w' => e = .returned (.int .i64 0) ∧ Below w.heap.size w w' := by
  go_enter Tryd.func42, Tryd.ntmps42
  go_wp2
  go_ret
  exact ⟨rfl, (Below.refl _ _).alloc (Nat.le_refl _) _⟩
set_option maxHeartbeats 4000000 in
theorem num02_err (n : Int) (w : World) (hg : w.cell? ⟨0, 0, none⟩ = some asHandle) : Calls Tryd.prog 42 #[.iface 110 (.int .i64 n)] w fun e w' => e = .returned (.int .i64 n) ∧ Below w.heap.size w w' := by
  have hg1 := handle_alloc hg (.cells #[.int .i64 0] 110)
  have ht1 : (w.alloc (.cells #[.int .i64 0] 110)).cell? ⟨w.heap.size, 0, none⟩ = some (.int .i64 0) := by simp
  have hf1 : (w.alloc (.cells #[.int .i64 0] 110)).frozen? ⟨w.heap.size, 0, none⟩ = false := by simp
  go_enter Tryd.func42, Tryd.ntmps42
  go_wp2_with (go_at_call 80; refine (as_hit _ _ (.int .i64 0) _ hg1 ht1 hf1).mono ?_; rintro e w' ⟨rfl, rfl⟩)
  go_ret
  refine ⟨rfl, ?_⟩
  repeat (first | exact Below.refl _ _ | refine Below.setCell ?_ (by simp) _ | refine Below.alloc ?_ (by simp; try omega) _)
theorem num03_nil (w : World) : Calls Tryd.prog 65 #[.nilIface] w fun e w' => e = .returned (.int .i64 0) ∧ Below w.heap.size w w' := by
  go_enter Tryd.func65, Tryd.ntmps65
  go_wp2
  go_ret
  exact ⟨rfl, (Below.refl _ _).alloc (Nat.le_refl _) _⟩
set_option maxHeartbeats 4000000 in
theorem num03_err (n : Int) (w : World) (hg : w.cell? ⟨0, 0, none⟩ = some asHandle) : Calls Tryd.prog 65 #[.iface 110 (.int .i64 n)] w fun e w' => e = .returned (.int .i64 n) ∧ Below w.heap.size w w' := by
  have hg1 := handle_alloc hg (.cells #[.int .i64 0] 110)
  have ht1 : (w.alloc (.cells #[.int .i64 0] 110)).cell? ⟨w.heap.size, 0, none⟩ = some (.int .i64 0) := by simp
  have hf1 : (w.alloc (.cells #[.int .i64 0] 110)).frozen? ⟨w.heap.size, 0, none⟩ = false := by simp
  go_enter Tryd.func65, Tryd.ntmps65
  go_wp2_with (go_at_call 80; refine (as_hit _ _ (.int .i64 0) _ hg1 ht1 hf1).mono ?_; rintro e w' ⟨rfl, rfl⟩)
  go_ret
  refine ⟨rfl, ?_⟩
  repeat (first | exact Below.refl _ _ | refine Below.setCell ?_ (by simp) _ | refine Below.alloc ?_ (by simp; try omega) _)
theorem num04_nil (w : World) : Calls Tryd.prog 77 #[.nilIface] w fun e w' => e = .returned (.int .i64 0) ∧ Below w.heap.size w w' := by
  go_enter Tryd.func77, Tryd.ntmps77
  go_wp2
  go_ret
  exact ⟨rfl, (Below.refl _ _).alloc (Nat.le_refl _) _⟩
set_option maxHeartbeats 4000000 in
theorem num04_err (n : Int) (w : World) (hg : w.cell? ⟨0, 0, none⟩ = some asHandle) : Calls Tryd.prog 77 #[.iface 110 (.int .i64 n)] w fun e w' => e = .returned (.int .i64 n) ∧ Below w.heap.size w w' := by
  have hg1 := handle_alloc hg (.cells #[.int .i64 0] 110)
  have ht1 : (w.alloc (.cells #[.int .i64 0] 110)).cell? ⟨w.heap.size, 0, none⟩ = some (.int .i64 0) := by simp
  have hf1 : (w.alloc (.cells #[.int .i64 0] 110)).frozen? ⟨w.heap.size, 0, none⟩ = false := by simp
  go_enter Tryd.func77, Tryd.ntmps77
  go_wp2_with (go_at_call 80; refine (as_hit _ _ (.int .i64 0) _ hg1 ht1 hf1).mono ?_; rintro e w' ⟨rfl, rfl⟩)
  go_ret
  refine ⟨rfl, ?_⟩
  repeat (first | exact Below.refl _ _ | refine Below.setCell ?_ (by simp) _ | refine Below.alloc ?_ (by simp; try omega) _)
end Go.Proofs.YtjecnhngfihmpaaDoor
