/-
  errors.Is of two Errnos.
-/
import Derived.Test.YtjhjgfnodhbacaaDoorNumhb
import Derived.ProofKit
import Derived.LaidEql
import Derived.Stop.Asserts
import Derived.RowKitTokens
import Derived.WalkLawsBesides
namespace Go.Proofs.YtjhjgfnodhbacaaDoor
open Go.RowKit Go.Extern.Stop Go.Stop Go.Extern
set_option linter.unusedVariables false
abbrev ER : TypeId := 229
theorem eiTypeOf (v : Value) (w : World) : (Extern.ReflectliteType.typeOf #[.iface ER v]).run Tryd.prog w = .ok (.iface 359 (.agg #[.pointer (some ⟨4, ER, none⟩)])) w := by kernel_rfl
theorem ei_comp (w : World) : (callFunc 288 #[.agg #[.pointer (some ⟨4, ER, none⟩)]]).run Tryd.prog w = .ok (.value (.bool true)) w := by kernel_rfl
theorem eiMethodComparable (v : Value) (w : World) : (Go.method 519 359 v "Comparable").run Tryd.prog w = .ok (288, v) w := by kernel_rfl
theorem ei_eql (n m : Int) (w : World) : (binOp .eql 32 (.iface ER (.int .i64 n)) (.iface ER (.int .i64 m))).run Tryd.prog w = .ok (.bool (n == m)) w := by kernel_rfl
theorem ei_noIs (v : Value) (xT : TypeId) (w : World) : (Instr.typeAssert (.iface ER v) xT 377 true).run Tryd.prog w = .ok (.tuple #[.nilIface, .bool false]) w := run_typeAssert_lacksB Tryd.underlying377 (by kernel_rfl) (by kernel_rfl) v xT w
theorem ei_noUn (v : Value) (xT : TypeId) (w : World) : (Instr.typeAssert (.iface ER v) xT 366 true).run Tryd.prog w = .ok (.tuple #[.nilIface, .bool false]) w := run_typeAssert_lacksB Tryd.underlying366 (by kernel_rfl) (by kernel_rfl) v xT w
theorem ei_noUs (v : Value) (xT : TypeId) (w : World) : (Instr.typeAssert (.iface ER v) xT 367 true).run Tryd.prog w = .ok (.tuple #[.nilIface, .bool false]) w := run_typeAssert_lacksB Tryd.underlying367 (by kernel_rfl) (by kernel_rfl) v xT w
theorem ei_err (n m : Int) (w : World) (b : Bool) (hb : (n == m) = b) : Calls Tryd.prog 147 #[.iface ER (.int .i64 n), .iface ER (.int .i64 m)] w fun e w' => e = .returned (.bool b) ∧ w' = w := by
  have h8 := @run_callFunc_extern Tryd.prog 217 _ Extern.ReflectliteType.typeOf Tryd.func217 (by kernel_rfl) (by kernel_rfl) (by kernel_rfl) (by kernel_rfl)
  have h32 := ei_comp
  have tT := eiTypeOf
  have mR := eiMethodComparable
  have heq := ei_eql n m w
  rw [hb] at heq
  have n1 := ei_noIs
  have n2 := ei_noUn
  have n3 := ei_noUs
  cases b
  all_goals
    go_enter Tryd.func147, Tryd.ntmps147
    go_wp2
    refine wp_loop_rounds 1 ?_
    rw [rounds_succ]
    go_wp2
    go_ret
    exact ⟨rfl, rfl⟩
theorem ei_nil (m : Int) (w : World) : Calls Tryd.prog 147 #[.nilIface, .iface ER (.int .i64 m)] w fun e w' => e = .returned (.bool false) ∧ w' = w := by
  have hn := run_eql_iface_nil_left (P := Tryd.prog) w ER (.int .i64 m) Tryd.underlying32
  go_enter Tryd.func147, Tryd.ntmps147
  go_wp2
  go_ret
  exact ⟨rfl, rfl⟩
end Go.Proofs.YtjhjgfnodhbacaaDoor
