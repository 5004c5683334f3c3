/-
 errors.Is of two Errnos.
-/
import Derived.Test.YtjcgmdgkdkfdpaaGreatDoorNumqht
import Derived.ProofKit
import Derived.LaidEql
import Derived.Stop.Asserts
import Derived.RowKitTokens
import Derived.WalkLawsBesides
namespace Go.Proofs.YtjcgmdgkdkfdpaaGreatDoor
open Go.RowKit Go.Extern.Stop Go.Stop Go.Extern
set_option linter.unusedVariables false
abbrev ER : TypeId := 94
theorem eiTypeOf (v : Value) (w : World) : (Extern.ReflectliteType.typeOf #[.iface ER v]).run Tryz.prog w = .ok (.iface 194 (.agg #[.pointer (some ⟨4, ER, none⟩)])) w := by kernel_rfl
theorem ei_comp (w : World) : (callFunc 182 #[.agg #[.pointer (some ⟨4, ER, none⟩)]]).run Tryz.prog w = .ok (.value (.bool true)) w := by kernel_rfl
theorem eiMethodComparable (v : Value) (w : World) : (Go.method 380 194 v "Comparable").run Tryz.prog w = .ok (182, v) w := by kernel_rfl
theorem ei_eql (n m : Int) (w : World) : (binOp .eql 44 (.iface ER (.int .i64 n)) (.iface ER (.int .i64 m))).run Tryz.prog w = .ok (.bool (n == m)) w := by kernel_rfl
theorem ei_noIs (v : Value) (xT : TypeId) (w : World) : (Instr.typeAssert (.iface ER v) xT 196 true).run Tryz.prog w = .ok (.tuple #[.nilIface, .bool false]) w := run_typeAssert_lacksB Tryz.underlying196 (by kernel_rfl) (by kernel_rfl) v xT w
theorem ei_noUn (v : Value) (xT : TypeId) (w : World) : (Instr.typeAssert (.iface ER v) xT 199 true).run Tryz.prog w = .ok (.tuple #[.nilIface, .bool false]) w := run_typeAssert_lacksB Tryz.underlying199 (by kernel_rfl) (by kernel_rfl) v xT w
theorem ei_noUs (v : Value) (xT : TypeId) (w : World) : (Instr.typeAssert (.iface ER v) xT 200 true).run Tryz.prog w = .ok (.tuple #[.nilIface, .bool false]) w := run_typeAssert_lacksB Tryz.underlying200 (by kernel_rfl) (by kernel_rfl) v xT w
theorem ei_err (n m : Int) (w : World) (b : Bool) (hb : (n == m) = b) : Calls Tryz.prog 39 #[.iface ER (.int .i64 n), .iface ER (.int .i64 m)] w fun e w' => e = .returned (.bool b) ∧ w' = w := by
 have h8 := @run_callFunc_extern Tryz.prog 81 _ Extern.ReflectliteType.typeOf Tryz.func81 (by kernel_rfl) (by kernel_rfl) (by kernel_rfl) (by kernel_rfl)
 have h32 := ei_comp
 have tT := eiTypeOf
 have mR := eiMethodComparable
 have heq := ei_eql n m w
 rw [hb] at heq
 have n1 := ei_noIs
 have n2 := ei_noUn
 have n3 := ei_noUs
 cases b
 all_goals
   go_enter Tryz.func39, Tryz.ntmps39
   go_wp2
   refine wp_loop_rounds 1 ?_
   rw [rounds_succ]
   go_wp2
   go_ret
   exact ⟨rfl, rfl⟩
theorem ei_nil (m : Int) (w : World) : Calls Tryz.prog 39 #[.nilIface, .iface ER (.int .i64 m)] w fun e w' => e = .returned (.bool false) ∧ w' = w := by
 have hn := run_eql_iface_nil_left (P := Tryz.prog) w ER (.int .i64 m) Tryz.underlying44
 go_enter Tryz.func39, Tryz.ntmps39
 go_wp2
 go_ret
 exact ⟨rfl, rfl⟩
end Go.Proofs.YtjcgmdgkdkfdpaaGreatDoor
