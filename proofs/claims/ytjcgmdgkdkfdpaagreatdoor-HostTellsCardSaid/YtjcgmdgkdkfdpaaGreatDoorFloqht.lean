/-
 math.Floor, at a number.
-/
import Derived.Test.YtjcgmdgkdkfdpaaGreatDoorNumqht
import Derived.ProofKit
import Derived.WalkLawsBesides
import Derived.Test.YtjcgmdgkdkfdpaaGreatDoorFltqht
namespace Go.Proofs.YtjcgmdgkdkfdpaaGreatDoor
open Go.RowKit Go.Extern.Stop Go.Stop Go.Extern
set_option linter.unusedVariables false
def flrV (b : Nat) : Nat := FloatKind.f64.encode ((FloatKind.f64.decode b).integral .down)
theorem flr_next (args : Array Value) (w : World) : (callFunc 118 args).run Tryz.prog w = ((do pure (.value (← Go.Extern.MathFloor.toIntegral "math.archFloor" .down args))) : Sem Next).run Tryz.prog w := by kernel_rfl
theorem lit_one (v : Value) (h1 : #[v].size = 1) (h2 : 0 < 1) : #[v].getLit 0 h1 h2 = v := rfl
theorem flr_run (b : Nat) (h : ∃ s m p, FloatKind.f64.decode b = .number s m p) (w : World) : (callFunc 118 #[.float .f64 b]).run Tryz.prog w = .ok (.value (.float .f64 (flrV b))) w := by
 obtain ⟨s, m, p, hd⟩ := h
 rw [flr_next]
 unfold flrV
 delta Go.Extern.MathFloor.toIntegral Go.Extern.MathFloor.toIntegral.match_2
 dsimp only
 rw [dif_pos (show #[Value.float FloatKind.f64 b].size = 1 from rfl)]
 delta Go.Extern.MathFloor.toIntegral._sparseCasesOn_2 Go.Extern.MathFloor.toIntegral._sparseCasesOn_3
 dsimp only [lit_one]
 rw [hd]
 rfl
set_option maxRecDepth 100000 in
theorem floor_c (b : Nat) (h : ∃ s m p, FloatKind.f64.decode b = .number s m p) (w : World) : Calls Tryz.prog 87 #[.float .f64 b] w fun e w' => e = .returned (.float .f64 (flrV b)) ∧ Below w.heap.size w w' := by
 go_enter Tryz.func87, Tryz.ntmps87
 go_wp2
 rw [flr_run b h]
 go_wp2
 all_goals (go_ret; exact ⟨rfl, Below.refl _ _⟩)
end Go.Proofs.YtjcgmdgkdkfdpaaGreatDoor
