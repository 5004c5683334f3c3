/-
  Layer 13: the statement SpanSteps, its boxes.
-/
import Derived.Test.YtgkpbokipnfddaaDoorV13m
import Derived.Test.YtgkpbokipnfddaaDoorOrd
import Derived.Deep.CutRange
import Derived.Deep.DeepCutAuto
import Derived.Deep.QuietTactic
import Derived.BigQuiet
namespace Go.Proofs.YtgkpbokipnfddaaDoor
open Go.RowKit Go.Extern.Stop Go.Stop Go.Extern
set_option linter.unusedVariables false
set_option linter.unusedSimpArgs false
/-- both spans, as they came and as the program's -/
def RX (w : World) (a0 a1 b0 b1 : Int) (x y : Value) (wx : World) : Prop := ∃ bx bY, x = .pointer (some ⟨bx, 0, none⟩) ∧ y = .pointer (some ⟨bY, 0, none⟩) ∧ Held w wx ∧ B2 w.heap.size (.int .i64 a0) (.int .i64 a1) wx ∧ B2 (w.heap.size + 1) (.int .i64 b0) (.int .i64 b1) wx ∧ B2 bx (.int .i64 a0) (.int .i64 a1) wx ∧ B2 bY (.int .i64 b0) (.int .i64 b1) wx
abbrev SS (w : World) (b0 : Nat) (v00 v01 : Value) (b1 : Nat) (v10 v11 : Value) (b2 : Nat) (v20 v21 : Value) (b3 : Nat) (v30 v31 : Value) (b4 : Nat) (v40 v41 : Value) (b5 : Nat) (v50 v51 : Value) (wx : World) : Prop := Held w wx ∧ B2 b0 v00 v01 wx ∧ B2 b1 v10 v11 wx ∧ B2 b2 v20 v21 wx ∧ B2 b3 v30 v31 wx ∧ B2 b4 v40 v41 wx ∧ B2 b5 v50 v51 wx
theorem SS.step {w : World} {b0 : Nat} {v00 v01 : Value} {b1 : Nat} {v10 v11 : Value} {b2 : Nat} {v20 v21 : Value} {b3 : Nat} {v30 v31 : Value} {b4 : Nat} {v40 v41 : Value} {b5 : Nat} {v50 v51 : Value} {wx w' : World} (h : SS w b0 v00 v01 b1 v10 v11 b2 v20 v21 b3 v30 v31 b4 v40 v41 b5 v50 v51 wx) (hb : Below wx.heap.size wx w') : SS w b0 v00 v01 b1 v10 v11 b2 v20 v21 b3 v30 v31 b4 v40 v41 b5 v50 v51 w' := ⟨(h.1).step hb, (h.2.1).step hb, (h.2.2.1).step hb, (h.2.2.2.1).step hb, (h.2.2.2.2.1).step hb, (h.2.2.2.2.2.1).step hb, (h.2.2.2.2.2.2).step hb⟩
theorem SS.drew {w : World} {b0 : Nat} {v00 v01 : Value} {b1 : Nat} {v10 v11 : Value} {b2 : Nat} {v20 v21 : Value} {b3 : Nat} {v30 v31 : Value} {b4 : Nat} {v40 v41 : Value} {b5 : Nat} {v50 v51 : Value} {wx : World} (h : SS w b0 v00 v01 b1 v10 v11 b2 v20 v21 b3 v30 v31 b4 v40 v41 b5 v50 v51 wx) : SS w b0 v00 v01 b1 v10 v11 b2 v20 v21 b3 v30 v31 b4 v40 v41 b5 v50 v51 wx.drew := h.step (Below.refl _ _).drew
theorem SS.held {w : World} {b0 : Nat} {v00 v01 : Value} {b1 : Nat} {v10 v11 : Value} {b2 : Nat} {v20 v21 : Value} {b3 : Nat} {v30 v31 : Value} {b4 : Nat} {v40 v41 : Value} {b5 : Nat} {v50 v51 : Value} {wx : World} (h : SS w b0 v00 v01 b1 v10 v11 b2 v20 v21 b3 v30 v31 b4 v40 v41 b5 v50 v51 wx) : Held w wx := h.1
theorem meet_no1 {a0 a1 b0 b1 : Int} (h : b1 < a0) : mn a1 b1 < mx a0 b0 := by unfold mn mx; split <;> split <;> omega
theorem meet_no2 {a0 a1 b0 b1 : Int} (h : a1 < b0) : mn a1 b1 < mx a0 b0 := by unfold mn mx; split <;> split <;> omega
theorem meet_all {a0 a1 b0 b1 : Int} (h1 : a0 ≤ a1) (h2 : b0 ≤ b1) (h3 : a0 ≤ b1) (h4 : b0 ≤ a1) : mx a0 b0 ≤ mn a1 b1 := by unfold mn mx; split <;> split <;> omega
end Go.Proofs.YtgkpbokipnfddaaDoor
