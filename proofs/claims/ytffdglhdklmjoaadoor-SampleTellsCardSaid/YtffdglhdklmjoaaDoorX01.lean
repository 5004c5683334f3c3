/-
  Layer 1 by symbolic walks: sums, differences, bounds, by the program and by the reference.
-/
import Derived.Test.YtffdglhdklmjoaaDoorSx
import Derived.Test.YtffdglhdklmjoaaDoorV01
import Derived.IntWalk
namespace Go.Proofs.YtffdglhdklmjoaaDoor
open Go.RowKit Go.Extern.Stop Go.Stop Go.Extern Go.Proofs.YtffdglhdklmjoaaDoor.Sx
set_option linter.unusedVariables false
set_option linter.unusedSimpArgs false
theorem wr_i64 (n : Int) : (IntKind.wrap .i64 n = n ∨ n < -9223372036854775808 ∨ 9223372036854775807 < n) ∧ -9223372036854775808 ≤ IntKind.wrap .i64 n ∧ IntKind.wrap .i64 n ≤ 9223372036854775807 := by
  rw [IntKind.wrap_i64]; omega
theorem wr_u64 (n : Int) : (IntKind.wrap .u64 n = n ∨ n < 0 ∨ 18446744073709551615 < n) ∧ 0 ≤ IntKind.wrap .u64 n ∧ IntKind.wrap .u64 n ≤ 18446744073709551615 := by
  rw [IntKind.wrap_u64]; omega
theorem wr_u32 (n : Int) : (IntKind.wrap .u32 n = n ∨ n < 0 ∨ 4294967295 < n) ∧ 0 ≤ IntKind.wrap .u32 n ∧ IntKind.wrap .u32 n ≤ 4294967295 := by
  rw [IntKind.wrap_u32]; omega
/-- a number that an int64 has, or 0; by which side it goes over -/
def svN (n : Int) : Int := if -9223372036854775808 ≤ n ∧ n ≤ 9223372036854775807 then n else 0
def soN (n : Int) : Int := if 9223372036854775807 < n then 1 else if n < -9223372036854775808 then -1 else 0
def bdN (n o : Int) : Int := if 0 < o then 9223372036854775807 else if o < 0 then -9223372036854775808 else n
theorem sv_spec (n : Int) : (svN n = n ∧ -9223372036854775808 ≤ n ∧ n ≤ 9223372036854775807) ∨ (svN n = 0 ∧ (n < -9223372036854775808 ∨ 9223372036854775807 < n)) := by unfold svN; split <;> omega
theorem so_spec (n : Int) : (soN n = 1 ∧ 9223372036854775807 < n) ∨ (soN n = -1 ∧ n < -9223372036854775808) ∨ (soN n = 0 ∧ -9223372036854775808 ≤ n ∧ n ≤ 9223372036854775807) := by unfold soN; split <;> (try split) <;> omega
theorem bd_spec (n o : Int) : (bdN n o = 9223372036854775807 ∧ 0 < o) ∨ (bdN n o = -9223372036854775808 ∧ o < 0) ∨ (bdN n o = n ∧ o = 0) := by unfold bdN; split <;> (try split) <;> omega
theorem sat_spec (n : Int) : (sat n = 9223372036854775807 ∧ 9223372036854775807 < n) ∨ (sat n = -9223372036854775808 ∧ n < -9223372036854775808) ∨ (sat n = n ∧ -9223372036854775808 ≤ n ∧ n ≤ 9223372036854775807) := by unfold sat; split <;> (try split) <;> omega
theorem bd_sv (n : Int) : bdN (svN n) (soN n) = sat n := by unfold bdN svN soN sat; split <;> split <;> (try split) <;> (try split) <;> omega
def x1I : Nat → List Value → Int
  | _, _ => 0
def x1B : Nat → List Value → Bool
  | _, _ => false
def x1V : Nat → List Value → Value
  | _, _ => Go.undef
abbrev x1E (iv : List Int) (bv : List Bool) (vv : List Value) (sv : List ByteArray) : Env := { iv := iv, bv := bv, vv := vv, sv := sv, fi := x1I, fb := x1B, fv := x1V, et := 150 }
theorem x1m : Tryd.prog.follows .mixedOrders = true := by kernel_rfl
def rsum_x_tree : Tree :=
 (.br (.b2 .lt (.lit (0)) (.var 1))
 (.br (.b2 .lt (.wrap .i64 (.i2 .sub (.lit (9223372036854775807)) (.var 1))) (.var 0))
 (.ret (.tup (.cons (.int .i64 (.lit (0))) (.cons (.int .i64 (.lit (1))) .nil))))
 (.br (.b2 .lt (.var 1) (.lit (0)))
 (.br (.b2 .lt (.var 0) (.wrap .i64 (.i2 .sub (.lit (-9223372036854775808)) (.var 1))))
 (.ret (.tup (.cons (.int .i64 (.lit (0))) (.cons (.int .i64 (.lit (-1))) .nil))))
 (.ret (.tup (.cons (.int .i64 (.wrap .i64 (.i2 .add (.var 0) (.var 1)))) (.cons (.int .i64 (.lit (0))) .nil)))))
 (.ret (.tup (.cons (.int .i64 (.wrap .i64 (.i2 .add (.var 0) (.var 1)))) (.cons (.int .i64 (.lit (0))) .nil))))))
 (.br (.b2 .lt (.var 1) (.lit (0)))
 (.br (.b2 .lt (.var 0) (.wrap .i64 (.i2 .sub (.lit (-9223372036854775808)) (.var 1))))
 (.ret (.tup (.cons (.int .i64 (.lit (0))) (.cons (.int .i64 (.lit (-1))) .nil))))
 (.ret (.tup (.cons (.int .i64 (.wrap .i64 (.i2 .add (.var 0) (.var 1)))) (.cons (.int .i64 (.lit (0))) .nil)))))
 (.ret (.tup (.cons (.int .i64 (.wrap .i64 (.i2 .add (.var 0) (.var 1)))) (.cons (.int .i64 (.lit (0))) .nil))))))
theorem rsum_x_w : walk Tryd.prog 150 [] [] 121 [(.int .i64 (.var 0)), (.int .i64 (.var 1))] ⟨2, 0, 0, 0⟩ 2000 = some rsum_x_tree := by kernel_rfl
theorem rsum_x_h (a : Int) (b : Int) (ha : InR a) (hb : InR b) : rsum_x_tree.holds (fun v => v = .tuple #[.int .i64 (svN (a + b)), .int .i64 (soN (a + b))]) (x1E [a, b] [] [] []) := by
  unfold rsum_x_tree
  simp only [Tree.holds, Sx.holds, denV, denI, denB, denL, I2.den, x1I, x1B, x1V, List.getD_cons_zero, List.getD_cons_succ, Cst.den]
  have wf0 := wr_i64 (9223372036854775807 - b)
  have wf1 := wr_i64 ((-9223372036854775808) - b)
  have wf2 := wr_i64 (a + b)
  have ff0 := sv_spec (a + b)
  have ff1 := so_spec (a + b)
  repeat' (first | (refine ⟨fun h => ?_, fun h => ?_⟩) | intro h)
  all_goals first | omega | (simp only [Value.tuple.injEq, Value.agg.injEq, Value.int.injEq, Value.bool.injEq, Array.mk.injEq, List.cons.injEq, true_and, and_true]; omega)
theorem rsum_x (a : Int) (b : Int) (ha : InR a) (hb : InR b) (w : World) : Calls Tryd.prog 121 #[.int .i64 a, .int .i64 b] w fun e w' => e = .returned (.tuple #[.int .i64 (svN (a + b)), .int .i64 (soN (a + b))]) ∧ Below w.heap.size w w' := by
  have h := calls_by (n := ⟨2, 0, 0, 0⟩) (x1E [a, b] [] [] []) (vs := [.int .i64 a, .int .i64 b]) (W := w) x1m rsum_x_w rfl ⟨rfl, rfl, rfl, rfl⟩ good_nil (rsum_x_h a b ha hb) rfl
  exact calls_eq h
def rless_x_tree : Tree :=
 (.br (.b2 .lt (.var 1) (.lit (0)))
 (.br (.b2 .lt (.wrap .i64 (.i2 .add (.lit (9223372036854775807)) (.var 1))) (.var 0))
 (.ret (.tup (.cons (.int .i64 (.lit (0))) (.cons (.int .i64 (.lit (1))) .nil))))
 (.br (.b2 .lt (.lit (0)) (.var 1))
 (.br (.b2 .lt (.var 0) (.wrap .i64 (.i2 .add (.lit (-9223372036854775808)) (.var 1))))
 (.ret (.tup (.cons (.int .i64 (.lit (0))) (.cons (.int .i64 (.lit (-1))) .nil))))
 (.ret (.tup (.cons (.int .i64 (.wrap .i64 (.i2 .sub (.var 0) (.var 1)))) (.cons (.int .i64 (.lit (0))) .nil)))))
 (.ret (.tup (.cons (.int .i64 (.wrap .i64 (.i2 .sub (.var 0) (.var 1)))) (.cons (.int .i64 (.lit (0))) .nil))))))
 (.br (.b2 .lt (.lit (0)) (.var 1))
 (.br (.b2 .lt (.var 0) (.wrap .i64 (.i2 .add (.lit (-9223372036854775808)) (.var 1))))
 (.ret (.tup (.cons (.int .i64 (.lit (0))) (.cons (.int .i64 (.lit (-1))) .nil))))
 (.ret (.tup (.cons (.int .i64 (.wrap .i64 (.i2 .sub (.var 0) (.var 1)))) (.cons (.int .i64 (.lit (0))) .nil)))))
 (.ret (.tup (.cons (.int .i64 (.wrap .i64 (.i2 .sub (.var 0) (.var 1)))) (.cons (.int .i64 (.lit (0))) .nil))))))
theorem rless_x_w : walk Tryd.prog 150 [] [] 136 [(.int .i64 (.var 0)), (.int .i64 (.var 1))] ⟨2, 0, 0, 0⟩ 2000 = some rless_x_tree := by kernel_rfl
theorem rless_x_h (a : Int) (b : Int) (ha : InR a) (hb : InR b) : rless_x_tree.holds (fun v => v = .tuple #[.int .i64 (svN (a - b)), .int .i64 (soN (a - b))]) (x1E [a, b] [] [] []) := by
  unfold rless_x_tree
  simp only [Tree.holds, Sx.holds, denV, denI, denB, denL, I2.den, x1I, x1B, x1V, List.getD_cons_zero, List.getD_cons_succ, Cst.den]
  have wf0 := wr_i64 (9223372036854775807 + b)
  have wf1 := wr_i64 ((-9223372036854775808) + b)
  have wf2 := wr_i64 (a - b)
  have ff0 := sv_spec (a - b)
  have ff1 := so_spec (a - b)
  repeat' (first | (refine ⟨fun h => ?_, fun h => ?_⟩) | intro h)
  all_goals first | omega | (simp only [Value.tuple.injEq, Value.agg.injEq, Value.int.injEq, Value.bool.injEq, Array.mk.injEq, List.cons.injEq, true_and, and_true]; omega)
theorem rless_x (a : Int) (b : Int) (ha : InR a) (hb : InR b) (w : World) : Calls Tryd.prog 136 #[.int .i64 a, .int .i64 b] w fun e w' => e = .returned (.tuple #[.int .i64 (svN (a - b)), .int .i64 (soN (a - b))]) ∧ Below w.heap.size w w' := by
  have h := calls_by (n := ⟨2, 0, 0, 0⟩) (x1E [a, b] [] [] []) (vs := [.int .i64 a, .int .i64 b]) (W := w) x1m rless_x_w rfl ⟨rfl, rfl, rfl, rfl⟩ good_nil (rless_x_h a b ha hb) rfl
  exact calls_eq h
def rbounded_x_tree : Tree :=
 (.br (.b2 .lt (.lit (0)) (.var 1))
 (.ret (.int .i64 (.lit (9223372036854775807))))
 (.br (.b2 .lt (.var 1) (.lit (0)))
 (.ret (.int .i64 (.lit (-9223372036854775808))))
 (.ret (.int .i64 (.var 0)))))
theorem rbounded_x_w : walk Tryd.prog 150 [] [] 122 [(.int .i64 (.var 0)), (.int .i64 (.var 1))] ⟨2, 0, 0, 0⟩ 2000 = some rbounded_x_tree := by kernel_rfl
theorem rbounded_x_h (n : Int) (o : Int)  : rbounded_x_tree.holds (fun v => v = .int .i64 (bdN n o)) (x1E [n, o] [] [] []) := by
  unfold rbounded_x_tree
  simp only [Tree.holds, Sx.holds, denV, denI, denB, denL, I2.den, x1I, x1B, x1V, List.getD_cons_zero, List.getD_cons_succ, Cst.den]
  have ff0 := bd_spec n o
  repeat' (first | (refine ⟨fun h => ?_, fun h => ?_⟩) | intro h)
  all_goals first | omega | (simp only [Value.tuple.injEq, Value.agg.injEq, Value.int.injEq, Value.bool.injEq, Array.mk.injEq, List.cons.injEq, true_and, and_true]; omega)
theorem rbounded_x (n : Int) (o : Int)  (w : World) : Calls Tryd.prog 122 #[.int .i64 n, .int .i64 o] w fun e w' => e = .returned (.int .i64 (bdN n o)) ∧ Below w.heap.size w w' := by
  have h := calls_by (n := ⟨2, 0, 0, 0⟩) (x1E [n, o] [] [] []) (vs := [.int .i64 n, .int .i64 o]) (W := w) x1m rbounded_x_w rfl ⟨rfl, rfl, rfl, rfl⟩ good_nil (rbounded_x_h n o ) rfl
  exact calls_eq h
end Go.Proofs.YtffdglhdklmjoaaDoor
