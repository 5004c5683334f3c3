/-
 Layer 5: bytes with numbers and texts behind.
-/
import Derived.Test.YtgondiedehjkhaaGreatDoorBytpgb
import Derived.Test.YtgondiedehjkhaaGreatDoorNumpgb
import Derived.Test.YtgondiedehjkhaaGreatDoorMathpgb
import Derived.ProofKit
import Derived.OpenShut
import Derived.WalkLawsBesides
import Derived.Outline
import Derived.Lib.Hide
import Derived.Deep.QuietTactic
import Derived.BigQuiet
import Derived.LoopTactic
import Derived.RangeFuncBox
import Derived.Lib.AppendStr
namespace Go.Proofs.YtgondiedehjkhaaGreatDoor
open Go.RowKit Go.Extern.Stop Go.Stop Go.Extern
set_option linter.unusedVariables false
set_option linter.unusedSimpArgs false
theorem infoU8 : (Tryz.prog.info? 5).map (fun i => (i.zero, i.size, i.bytes)) = some (some (.int .u8 0), 1, 1) := by kernel_rfl
theorem Rd.one (w : World) (x : UInt8) (v : Value) (hv : v = bV x) : Rd (w.alloc (.cells #[v] 5)) (some ⟨w.heap.size, 0, none⟩) [x] := by
 subst hv
 refine ⟨(fun e => by cases e), fun i hi => ⟨_, rfl, ?_, ?_⟩⟩
 · rw [add_block]; simp
 · obtain rfl : i = 0 := by simpa using hi
   simp [Addr.add]
theorem own_shape {w : World} {base n : Nat} {v : Value} {l : List UInt8} (h : w.ownsRow base 5 1 v n (bv l)) : ∃ A c, v = .slice A l.length c ∧ (A = none → c = 0) ∧ Rd w A l ∧ n = l.length ∧ l.length ≤ c := by
 have hl : n = l.length := by have := h.1; rw [bv_length] at this; omega
 subst hl
 rcases h.2 with ⟨rfl, h0⟩ | ⟨g, cap, cur, rfl, _, _, hc, _⟩
 · refine ⟨none, 0, by rw [h0], fun _ => rfl, ?_, rfl, by omega⟩
   rw [List.eq_nil_of_length_eq_zero h0]; exact Rd.nil _ _
 · exact ⟨_, _, rfl, (fun e => by cases e), (Rd.of_own h).1, rfl, hc⟩
end Go.Proofs.YtgondiedehjkhaaGreatDoor
