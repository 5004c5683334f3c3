/-
  Layer 1 by symbolic walks alone: num and its reference.
-/
import Derived.Test.YtflckmhlobpfiaaDoorSx
import Derived.Test.YtflckmhlobpfiaaDoorMath
import Derived.Test.YtflckmhlobpfiaaDoorNum
import Derived.Test.YtflckmhlobpfiaaDoorLst
import Derived.IntWalk
namespace Go.Proofs.YtflckmhlobpfiaaDoor
open Go.RowKit Go.Extern.Stop Go.Stop Go.Extern Go.Proofs.YtflckmhlobpfiaaDoor.Sx
set_option linter.unusedVariables false
set_option linter.unusedSimpArgs false
theorem wr_i64 (n : Int) : (IntKind.wrap .i64 n = n ∨ n < -9223372036854775808 ∨ 9223372036854775807 < n) ∧ -9223372036854775808 ≤ IntKind.wrap .i64 n ∧ IntKind.wrap .i64 n ≤ 9223372036854775807 := by
  rw [IntKind.wrap_i64]; omega
theorem wr_u64 (n : Int) : (IntKind.wrap .u64 n = n ∨ n < 0 ∨ 18446744073709551615 < n) ∧ 0 ≤ IntKind.wrap .u64 n ∧ IntKind.wrap .u64 n ≤ 18446744073709551615 := by
  rw [IntKind.wrap_u64]; omega
theorem wr_u32 (n : Int) : (IntKind.wrap .u32 n = n ∨ n < 0 ∨ 4294967295 < n) ∧ 0 ≤ IntKind.wrap .u32 n ∧ IntKind.wrap .u32 n ≤ 4294967295 := by
  rw [IntKind.wrap_u32]; omega
/-- a number that an int64 has, or 0; the error, if it has not -/
def svE (n : Int) : Int := if -9223372036854775808 ≤ n ∧ n ≤ 9223372036854775807 then n else 0
def erE (n : Int) : Int := if -9223372036854775808 ≤ n ∧ n ≤ 9223372036854775807 then 0 else 2
def soE (n : Int) : Int := if 9223372036854775807 < n then 1 else if n < -9223372036854775808 then -1 else 0
def bdE (n o : Int) : Int := if 0 < o then 9223372036854775807 else if o < 0 then -9223372036854775808 else n
def satE (n : Int) : Int := if 9223372036854775807 < n then 9223372036854775807 else if n < -9223372036854775808 then -9223372036854775808 else n
def dqE (a b : Int) : Int := if b < 1 then 0 else a / b
def dmE (a b : Int) : Int := if b < 1 then 0 else a % b
def deE (b : Int) : Int := if b < 1 then 1 else 0
def szE (a : Int) : Int := if a < 0 then satE (-a) else a
theorem svE_spec (n : Int) : (svE n = n ∧ erE n = 0 ∧ soE n = 0 ∧ -9223372036854775808 ≤ n ∧ n ≤ 9223372036854775807) ∨ (svE n = 0 ∧ erE n = 2 ∧ soE n = 1 ∧ 9223372036854775807 < n) ∨ (svE n = 0 ∧ erE n = 2 ∧ soE n = -1 ∧ n < -9223372036854775808) := by unfold svE erE soE; split <;> (try split) <;> (try split) <;> omega
theorem bdE_spec (n o : Int) : (bdE n o = 9223372036854775807 ∧ 0 < o) ∨ (bdE n o = -9223372036854775808 ∧ o < 0) ∨ (bdE n o = n ∧ o = 0) := by unfold bdE; split <;> (try split) <;> omega
theorem satE_spec (n : Int) : (satE n = 9223372036854775807 ∧ 9223372036854775807 < n) ∨ (satE n = -9223372036854775808 ∧ n < -9223372036854775808) ∨ (satE n = n ∧ -9223372036854775808 ≤ n ∧ n ≤ 9223372036854775807) := by unfold satE; split <;> (try split) <;> omega
theorem szE_spec (a : Int) (ha : InR a) : (szE a = -a ∧ a < 0 ∧ -9223372036854775808 < a) ∨ (szE a = 9223372036854775807 ∧ a = -9223372036854775808) ∨ (szE a = a ∧ 0 ≤ a) := by unfold szE satE; split <;> (try split) <;> (try split) <;> omega
theorem dE_spec (a b : Int) : (b < 1 ∧ dqE a b = 0 ∧ dmE a b = 0 ∧ deE b = 1) ∨ (1 ≤ b ∧ dqE a b = a / b ∧ dmE a b = a % b ∧ deE b = 0) := by
  unfold dqE dmE deE; split <;> omega
theorem eu_uniq {a b r q : Int} (h : 0 < b) (h1 : r + b * q = a) (h2 : 0 ≤ r) (h3 : r < b) : a / b = q ∧ a % b = r := (Int.ediv_emod_unique h).2 ⟨h1, h2, h3⟩
theorem dm_spec (a b : Int) (ha : InR a) : b < 1 ∨ (InR (a / b) ∧ 0 ≤ a % b ∧ a % b < b ∧ -b < a.tmod b ∧ a.tmod b < b ∧ InR (a.tdiv b) ∧ ((a.tmod b < 0 ∧ a / b = a.tdiv b - 1 ∧ a % b = a.tmod b + b) ∨ (0 ≤ a.tmod b ∧ a / b = a.tdiv b ∧ a % b = a.tmod b))) := by
  rcases Int.lt_or_le b 1 with h | h
  · exact .inl h
  right
  have h1 := Int.lt_tmod_of_pos a (b := b) (by omega)
  have h2 := Int.tmod_lt_of_pos a (b := b) (by omega)
  have h3 := Int.tdiv_mul_add_tmod a b
  have hn := Int.natAbs_tdiv_le_natAbs a b
  have hx : (a.tmod b < 0 ∧ a / b = a.tdiv b - 1 ∧ a % b = a.tmod b + b) ∨ (0 ≤ a.tmod b ∧ a / b = a.tdiv b ∧ a % b = a.tmod b) := by
    rcases Int.lt_or_le (a.tmod b) 0 with h0 | h0
    · left
      have := eu_uniq (a := a) (b := b) (q := a.tdiv b - 1) (r := a.tmod b + b) (by omega) (by rw [Int.mul_sub, Int.mul_one, Int.mul_comm]; omega) (by omega) (by omega)
      exact ⟨h0, this.1, this.2⟩
    · right
      have := eu_uniq (a := a) (b := b) (q := a.tdiv b) (r := a.tmod b) (by omega) (by rw [Int.mul_comm]; omega) (by omega) (by omega)
      exact ⟨h0, this.1, this.2⟩
  have h4 : 0 ≤ a % b := Int.emod_nonneg _ (by omega)
  have h5 : a % b < b := Int.emod_lt_of_pos _ (by omega)
  have h6 : a / b ≤ 9223372036854775807 ∧ -9223372036854775808 ≤ a / b := by
    constructor
    · rcases Int.lt_or_le a 0 with h | h
      · have := Int.ediv_neg_of_neg_of_pos h (show 0 < b by omega); omega
      · have := Int.ediv_le_self b h; omega
    · rw [Int.le_ediv_iff_mul_le (by omega)]
      have : (-9223372036854775808 : Int) * b ≤ -9223372036854775808 * 1 := Int.mul_le_mul_of_nonpos_left (by omega) h
      omega
  have h7 : InR (a.tdiv b) := by
    rcases hx with ⟨_, e, _⟩ | ⟨_, e, _⟩
    · have ha0 : a < 0 := by
        rcases Int.lt_or_le a 0 with h | h
        · exact h
        · have := Int.tmod_nonneg b h; omega
      have := Int.ediv_neg_of_neg_of_pos ha0 (show 0 < b by omega)
      omega
    · omega
  exact ⟨⟨h6.2, h6.1⟩, h4, h5, h1, h2, h7, hx⟩
def e1I : Nat → List Value → Int
  | 0, [.int _ a] => svE a
  | 1, [.int _ a] => erE a
  | 2, [.int _ a] => soE a
  | 3, [.int _ a, .int _ o] => bdE a o
  | 4, [.int _ a] => satE a
  | 5, [.int _ a, .int _ b] => dqE a b
  | 6, [.int _ a, .int _ b] => dmE a b
  | 7, [.int _ b] => deE b
  | 8, [.int _ a] => szE a
  | _, _ => 0
def e1B : Nat → List Value → Bool
  | _, _ => false
def e1V : Nat → List Value → Value
  | _, _ => Go.undef
abbrev e1E (iv : List Int) (bv : List Bool) (vv : List Value) (sv : List ByteArray) (sls : Nat → Slc) : Env := { sls := sls, iv := iv, bv := bv, vv := vv, sv := sv, fi := e1I, fb := e1B, fv := e1V, et := 141 }
theorem e1m : Tryd.prog.follows .mixedOrders = true := by kernel_rfl
def etoohigh_tree : Tree :=
 (.br (.b2 .lt (.lit (0)) (.var 1))
 (.ret (.bool (.b2 .lt (.wrap .i64 (.i2 .sub (.lit (9223372036854775807)) (.var 1))) (.var 0))))
 (.ret (.bool (.tt false))))
theorem etoohigh_w : walk Tryd.prog 141 ⟨[], []⟩ [] 207 [(.int .i64 (.var 0)), (.int .i64 (.var 1))] ⟨2, 0, 0, 0⟩ 2000 = some etoohigh_tree := by kernel_rfl
theorem etoohigh_h (a : Int) (b : Int) (ha : InR a) (hb : InR b) : etoohigh_tree.holds (fun v => v = .bool (decide (9223372036854775807 < a + b))) (e1E [a, b] [] [] [] (slsOf [])) := by
  unfold etoohigh_tree
  simp only [Tree.holds, Sx.holds, denV, denI, denB, denL, I2.den, e1I, e1B, e1V, List.getD_cons_zero, List.getD_cons_succ, Cst.den, slsOf_zero, slsOf_one, B2.ofInts, B2.denI, B2.denB, if_true, Bool.false_eq_true, if_false]
  have wf0 := wr_i64 (9223372036854775807 - b)
  refine ⟨fun h0 => ?_, fun h0 => ?_⟩
  ·
    first | (exfalso; omega) | (simp only [Value.bool.injEq]; rw [Bool.eq_iff_iff]; simp only [Bool.and_eq_true, Bool.or_eq_true, decide_eq_true_eq, Bool.false_eq_true, false_iff, true_iff, iff_true, iff_false]; omega)
  ·
    first | (exfalso; omega) | (simp only [Value.bool.injEq]; rw [Bool.eq_iff_iff]; simp only [Bool.and_eq_true, Bool.or_eq_true, decide_eq_true_eq, Bool.false_eq_true, false_iff, true_iff, iff_true, iff_false]; omega)
theorem etoohigh (a : Int) (b : Int) (ha : InR a) (hb : InR b) (w : World) : Calls Tryd.prog 207 #[.int .i64 a, .int .i64 b] w fun e w' => e = .returned (.bool (decide (9223372036854775807 < a + b))) ∧ Below w.heap.size w w' := by
  have h := calls_by (n := ⟨2, 0, 0, 0⟩) (e1E [a, b] [] [] [] (slsOf [])) (vs := [.int .i64 a, .int .i64 b]) (W := w) e1m etoohigh_w rfl ⟨rfl, rfl, rfl, rfl⟩ ⟨good_nil, slsOk_nil⟩ (etoohigh_h a b ha hb) rfl
  exact calls_eq h
abbrev e1c_th : Con := ⟨207, [(.int .i64 (.var 0)), (.int .i64 (.var 1))], (.b2 .and (.b2 .and (.b2 .le (.lit (-9223372036854775808)) (.var 0)) (.b2 .le (.var 0) (.lit (9223372036854775807)))) (.b2 .and (.b2 .le (.lit (-9223372036854775808)) (.var 1)) (.b2 .le (.var 1) (.lit (9223372036854775807))))), (.bool (.b2 .lt (.lit (9223372036854775807)) (.i2 .add (.var 0) (.var 1)))), []⟩
theorem e1g_th (iv : List Int) (bv : List Bool) (vv : List Value) (sv : List ByteArray) (sls : Nat → Slc) (W : World) : e1c_th.Good Tryd.prog (e1E iv bv vv sv sls) W := by
  intro iv bv vv sv sls β hc w hb hsl
  exact etoohigh (iv.getD 0 0) (iv.getD 1 0) hc.1 hc.2 w
def etoolow_tree : Tree :=
 (.br (.b2 .lt (.var 1) (.lit (0)))
 (.ret (.bool (.b2 .lt (.var 0) (.wrap .i64 (.i2 .sub (.lit (-9223372036854775808)) (.var 1))))))
 (.ret (.bool (.tt false))))
theorem etoolow_w : walk Tryd.prog 141 ⟨[], []⟩ [] 208 [(.int .i64 (.var 0)), (.int .i64 (.var 1))] ⟨2, 0, 0, 0⟩ 2000 = some etoolow_tree := by kernel_rfl
theorem etoolow_h (a : Int) (b : Int) (ha : InR a) (hb : InR b) : etoolow_tree.holds (fun v => v = .bool (decide (a + b < -9223372036854775808))) (e1E [a, b] [] [] [] (slsOf [])) := by
  unfold etoolow_tree
  simp only [Tree.holds, Sx.holds, denV, denI, denB, denL, I2.den, e1I, e1B, e1V, List.getD_cons_zero, List.getD_cons_succ, Cst.den, slsOf_zero, slsOf_one, B2.ofInts, B2.denI, B2.denB, if_true, Bool.false_eq_true, if_false]
  have wf0 := wr_i64 ((-9223372036854775808) - b)
  refine ⟨fun h0 => ?_, fun h0 => ?_⟩
  ·
    first | (exfalso; omega) | (simp only [Value.bool.injEq]; rw [Bool.eq_iff_iff]; simp only [Bool.and_eq_true, Bool.or_eq_true, decide_eq_true_eq, Bool.false_eq_true, false_iff, true_iff, iff_true, iff_false]; omega)
  ·
    first | (exfalso; omega) | (simp only [Value.bool.injEq]; rw [Bool.eq_iff_iff]; simp only [Bool.and_eq_true, Bool.or_eq_true, decide_eq_true_eq, Bool.false_eq_true, false_iff, true_iff, iff_true, iff_false]; omega)
theorem etoolow (a : Int) (b : Int) (ha : InR a) (hb : InR b) (w : World) : Calls Tryd.prog 208 #[.int .i64 a, .int .i64 b] w fun e w' => e = .returned (.bool (decide (a + b < -9223372036854775808))) ∧ Below w.heap.size w w' := by
  have h := calls_by (n := ⟨2, 0, 0, 0⟩) (e1E [a, b] [] [] [] (slsOf [])) (vs := [.int .i64 a, .int .i64 b]) (W := w) e1m etoolow_w rfl ⟨rfl, rfl, rfl, rfl⟩ ⟨good_nil, slsOk_nil⟩ (etoolow_h a b ha hb) rfl
  exact calls_eq h
abbrev e1c_tl : Con := ⟨208, [(.int .i64 (.var 0)), (.int .i64 (.var 1))], (.b2 .and (.b2 .and (.b2 .le (.lit (-9223372036854775808)) (.var 0)) (.b2 .le (.var 0) (.lit (9223372036854775807)))) (.b2 .and (.b2 .le (.lit (-9223372036854775808)) (.var 1)) (.b2 .le (.var 1) (.lit (9223372036854775807))))), (.bool (.b2 .lt (.i2 .add (.var 0) (.var 1)) (.lit (-9223372036854775808)))), []⟩
theorem e1g_tl (iv : List Int) (bv : List Bool) (vv : List Value) (sv : List ByteArray) (sls : Nat → Slc) (W : World) : e1c_tl.Good Tryd.prog (e1E iv bv vv sv sls) W := by
  intro iv bv vv sv sls β hc w hb hsl
  exact etoolow (iv.getD 0 0) (iv.getD 1 0) hc.1 hc.2 w
def esub_tree : Tree :=
 (.br (.b2 .lt (.var 1) (.lit (0)))
 (.br (.b2 .lt (.wrap .i64 (.i2 .add (.lit (9223372036854775807)) (.var 1))) (.var 0))
 (.ret (.tup (.cons (.int .i64 (.lit (0))) (.cons (.iface 141 (.int .i64 (.lit (2)))) .nil))))
 (.br (.b2 .lt (.lit (0)) (.var 1))
 (.br (.b2 .lt (.var 0) (.wrap .i64 (.i2 .add (.lit (-9223372036854775808)) (.var 1))))
 (.ret (.tup (.cons (.int .i64 (.lit (0))) (.cons (.iface 141 (.int .i64 (.lit (2)))) .nil))))
 (.ret (.tup (.cons (.int .i64 (.wrap .i64 (.i2 .sub (.var 0) (.var 1)))) (.cons (.cst .nilI) .nil)))))
 (.ret (.tup (.cons (.int .i64 (.wrap .i64 (.i2 .sub (.var 0) (.var 1)))) (.cons (.cst .nilI) .nil))))))
 (.br (.b2 .lt (.lit (0)) (.var 1))
 (.br (.b2 .lt (.var 0) (.wrap .i64 (.i2 .add (.lit (-9223372036854775808)) (.var 1))))
 (.ret (.tup (.cons (.int .i64 (.lit (0))) (.cons (.iface 141 (.int .i64 (.lit (2)))) .nil))))
 (.ret (.tup (.cons (.int .i64 (.wrap .i64 (.i2 .sub (.var 0) (.var 1)))) (.cons (.cst .nilI) .nil)))))
 (.ret (.tup (.cons (.int .i64 (.wrap .i64 (.i2 .sub (.var 0) (.var 1)))) (.cons (.cst .nilI) .nil))))))
theorem esub_w : walk Tryd.prog 141 ⟨[], []⟩ [] 133 [(.int .i64 (.var 0)), (.int .i64 (.var 1))] ⟨2, 0, 0, 0⟩ 2000 = some esub_tree := by kernel_rfl
theorem esub_h (a : Int) (b : Int) (ha : InR a) (hb : InR b) : esub_tree.holds (fun v => v = .tuple #[.int .i64 (svE (a - b)), errVal 141 (erE (a - b))]) (e1E [a, b] [] [] [] (slsOf [])) := by
  unfold esub_tree
  simp only [Tree.holds, Sx.holds, denV, denI, denB, denL, I2.den, e1I, e1B, e1V, List.getD_cons_zero, List.getD_cons_succ, Cst.den, slsOf_zero, slsOf_one, B2.ofInts, B2.denI, B2.denB, if_true, Bool.false_eq_true, if_false]
  have f1 := svE_spec (a - b)
  have wf0 := wr_i64 (9223372036854775807 + b)
  have wf1 := wr_i64 ((-9223372036854775808) + b)
  have wf2 := wr_i64 (a - b)
  refine ⟨fun h0 => ?_, fun h0 => ?_⟩
  ·
    refine ⟨fun h1 => ?_, fun h1 => ?_⟩
    ·
      first | (exfalso; omega) | (simp only [errVal]; split <;> first | (exfalso; omega) | (simp only [Value.tuple.injEq, Value.agg.injEq, Value.int.injEq, Value.iface.injEq, Array.mk.injEq, List.cons.injEq, true_and, and_true]; omega)) | (simp only [Value.tuple.injEq, Value.agg.injEq, Value.int.injEq, Value.iface.injEq, Array.mk.injEq, List.cons.injEq, true_and, and_true]; omega)
    ·
      refine ⟨fun h2 => ?_, fun h2 => ?_⟩
      ·
        refine ⟨fun h3 => ?_, fun h3 => ?_⟩
        ·
          first | (exfalso; omega) | (simp only [errVal]; split <;> first | (exfalso; omega) | (simp only [Value.tuple.injEq, Value.agg.injEq, Value.int.injEq, Value.iface.injEq, Array.mk.injEq, List.cons.injEq, true_and, and_true]; omega)) | (simp only [Value.tuple.injEq, Value.agg.injEq, Value.int.injEq, Value.iface.injEq, Array.mk.injEq, List.cons.injEq, true_and, and_true]; omega)
        ·
          first | (exfalso; omega) | (simp only [errVal]; split <;> first | (exfalso; omega) | (simp only [Value.tuple.injEq, Value.agg.injEq, Value.int.injEq, Value.iface.injEq, Array.mk.injEq, List.cons.injEq, true_and, and_true]; omega)) | (simp only [Value.tuple.injEq, Value.agg.injEq, Value.int.injEq, Value.iface.injEq, Array.mk.injEq, List.cons.injEq, true_and, and_true]; omega)
      ·
        first | (exfalso; omega) | (simp only [errVal]; split <;> first | (exfalso; omega) | (simp only [Value.tuple.injEq, Value.agg.injEq, Value.int.injEq, Value.iface.injEq, Array.mk.injEq, List.cons.injEq, true_and, and_true]; omega)) | (simp only [Value.tuple.injEq, Value.agg.injEq, Value.int.injEq, Value.iface.injEq, Array.mk.injEq, List.cons.injEq, true_and, and_true]; omega)
  ·
    refine ⟨fun h4 => ?_, fun h4 => ?_⟩
    ·
      refine ⟨fun h5 => ?_, fun h5 => ?_⟩
      ·
        first | (exfalso; omega) | (simp only [errVal]; split <;> first | (exfalso; omega) | (simp only [Value.tuple.injEq, Value.agg.injEq, Value.int.injEq, Value.iface.injEq, Array.mk.injEq, List.cons.injEq, true_and, and_true]; omega)) | (simp only [Value.tuple.injEq, Value.agg.injEq, Value.int.injEq, Value.iface.injEq, Array.mk.injEq, List.cons.injEq, true_and, and_true]; omega)
      ·
        first | (exfalso; omega) | (simp only [errVal]; split <;> first | (exfalso; omega) | (simp only [Value.tuple.injEq, Value.agg.injEq, Value.int.injEq, Value.iface.injEq, Array.mk.injEq, List.cons.injEq, true_and, and_true]; omega)) | (simp only [Value.tuple.injEq, Value.agg.injEq, Value.int.injEq, Value.iface.injEq, Array.mk.injEq, List.cons.injEq, true_and, and_true]; omega)
    ·
      first | (exfalso; omega) | (simp only [errVal]; split <;> first | (exfalso; omega) | (simp only [Value.tuple.injEq, Value.agg.injEq, Value.int.injEq, Value.iface.injEq, Array.mk.injEq, List.cons.injEq, true_and, and_true]; omega)) | (simp only [Value.tuple.injEq, Value.agg.injEq, Value.int.injEq, Value.iface.injEq, Array.mk.injEq, List.cons.injEq, true_and, and_true]; omega)
theorem esub (a : Int) (b : Int) (ha : InR a) (hb : InR b) (w : World) : Calls Tryd.prog 133 #[.int .i64 a, .int .i64 b] w fun e w' => e = .returned (.tuple #[.int .i64 (svE (a - b)), errVal 141 (erE (a - b))]) ∧ Below w.heap.size w w' := by
  have h := calls_by (n := ⟨2, 0, 0, 0⟩) (e1E [a, b] [] [] [] (slsOf [])) (vs := [.int .i64 a, .int .i64 b]) (W := w) e1m esub_w rfl ⟨rfl, rfl, rfl, rfl⟩ ⟨good_nil, slsOk_nil⟩ (esub_h a b ha hb) rfl
  exact calls_eq h
def eaddsat_tree : Tree :=
 (.need (.b2 .and (.b2 .and (.b2 .le (.lit (-9223372036854775808)) (.var 0)) (.b2 .le (.var 0) (.lit (9223372036854775807)))) (.b2 .and (.b2 .le (.lit (-9223372036854775808)) (.var 1)) (.b2 .le (.var 1) (.lit (9223372036854775807)))))
 (.br (.b2 .lt (.lit (9223372036854775807)) (.i2 .add (.var 0) (.var 1)))
 (.ret (.int .i64 (.lit (9223372036854775807))))
 (.need (.b2 .and (.b2 .and (.b2 .le (.lit (-9223372036854775808)) (.var 0)) (.b2 .le (.var 0) (.lit (9223372036854775807)))) (.b2 .and (.b2 .le (.lit (-9223372036854775808)) (.var 1)) (.b2 .le (.var 1) (.lit (9223372036854775807)))))
 (.br (.b2 .lt (.i2 .add (.var 0) (.var 1)) (.lit (-9223372036854775808)))
 (.ret (.int .i64 (.lit (-9223372036854775808))))
 (.ret (.int .i64 (.wrap .i64 (.i2 .add (.var 0) (.var 1)))))))))
theorem eaddsat_w : walk Tryd.prog 141 ⟨[e1c_th, e1c_tl], []⟩ [] 178 [(.int .i64 (.var 0)), (.int .i64 (.var 1))] ⟨2, 0, 0, 0⟩ 2000 = some eaddsat_tree := by kernel_rfl
theorem eaddsat_h (a : Int) (b : Int) (ha : InR a) (hb : InR b) : eaddsat_tree.holds (fun v => v = .int .i64 (satE (a + b))) (e1E [a, b] [] [] [] (slsOf [])) := by
  unfold eaddsat_tree
  simp only [Tree.holds, Sx.holds, denV, denI, denB, denL, I2.den, e1I, e1B, e1V, List.getD_cons_zero, List.getD_cons_succ, Cst.den, slsOf_zero, slsOf_one, B2.ofInts, B2.denI, B2.denB, if_true, Bool.false_eq_true, if_false]
  have f1 := satE_spec (a + b)
  have wf0 := wr_i64 (a + b)
  refine ⟨?_, fun h0 => ?_⟩
  ·
    first | omega | rfl | (simp only [Value.tuple.injEq, Value.agg.injEq, Value.int.injEq, Value.bool.injEq, Array.mk.injEq, List.cons.injEq, true_and, and_true]; omega)
  ·
    refine ⟨fun h1 => ?_, fun h1 => ?_⟩
    ·
      simp only [Value.int.injEq, true_and]; omega
    ·
      refine ⟨?_, fun h2 => ?_⟩
      ·
        first | omega | rfl | (simp only [Value.tuple.injEq, Value.agg.injEq, Value.int.injEq, Value.bool.injEq, Array.mk.injEq, List.cons.injEq, true_and, and_true]; omega)
      ·
        refine ⟨fun h3 => ?_, fun h3 => ?_⟩
        ·
          simp only [Value.int.injEq, true_and]; omega
        ·
          simp only [Value.int.injEq, true_and]; omega
theorem eaddsat (a : Int) (b : Int) (ha : InR a) (hb : InR b) (w : World) : Calls Tryd.prog 178 #[.int .i64 a, .int .i64 b] w fun e w' => e = .returned (.int .i64 (satE (a + b))) ∧ Below w.heap.size w w' := by
  have h := calls_by (n := ⟨2, 0, 0, 0⟩) (e1E [a, b] [] [] [] (slsOf [])) (vs := [.int .i64 a, .int .i64 b]) (W := w) e1m eaddsat_w rfl ⟨rfl, rfl, rfl, rfl⟩ ⟨(good_cons (e1g_th _ _ _ _ _ _) (good_cons (e1g_tl _ _ _ _ _ _) good_nil)), slsOk_nil⟩ (eaddsat_h a b ha hb) rfl
  exact calls_eq h
abbrev e1c_sub : Con := ⟨133, [(.int .i64 (.var 0)), (.int .i64 (.var 1))], (.b2 .and (.b2 .and (.b2 .le (.lit (-9223372036854775808)) (.var 0)) (.b2 .le (.var 0) (.lit (9223372036854775807)))) (.b2 .and (.b2 .le (.lit (-9223372036854775808)) (.var 1)) (.b2 .le (.var 1) (.lit (9223372036854775807))))), (.tup (.cons (.int .i64 (.iapp 0 (.cons (.int .i64 (.i2 .sub (.var 0) (.var 1))) .nil))) (.cons (.err (.iapp 1 (.cons (.int .i64 (.i2 .sub (.var 0) (.var 1))) .nil))) .nil))), []⟩
theorem e1g_sub (iv : List Int) (bv : List Bool) (vv : List Value) (sv : List ByteArray) (sls : Nat → Slc) (W : World) : e1c_sub.Good Tryd.prog (e1E iv bv vv sv sls) W := by
  intro iv bv vv sv sls β hc w hb hsl
  exact esub (iv.getD 0 0) (iv.getD 1 0) hc.1 hc.2 w
def esubsat_tree : Tree :=
 (.need (.b2 .and (.b2 .and (.b2 .le (.lit (-9223372036854775808)) (.var 0)) (.b2 .le (.var 0) (.lit (9223372036854775807)))) (.b2 .and (.b2 .le (.lit (-9223372036854775808)) (.var 1)) (.b2 .le (.var 1) (.lit (9223372036854775807)))))
 (.br (.b2 .eq (.iapp 1 (.cons (.int .i64 (.i2 .sub (.var 0) (.var 1))) .nil)) (.lit (0)))
 (.ret (.int .i64 (.iapp 0 (.cons (.int .i64 (.i2 .sub (.var 0) (.var 1))) .nil))))
 (.br (.b2 .lt (.var 1) (.lit (0)))
 (.ret (.int .i64 (.lit (9223372036854775807))))
 (.ret (.int .i64 (.lit (-9223372036854775808)))))))
theorem esubsat_w : walk Tryd.prog 141 ⟨[e1c_sub], []⟩ [] 156 [(.int .i64 (.var 0)), (.int .i64 (.var 1))] ⟨2, 0, 0, 0⟩ 2000 = some esubsat_tree := by kernel_rfl
theorem esubsat_h (a : Int) (b : Int) (ha : InR a) (hb : InR b) : esubsat_tree.holds (fun v => v = .int .i64 (satE (a - b))) (e1E [a, b] [] [] [] (slsOf [])) := by
  unfold esubsat_tree
  simp only [Tree.holds, Sx.holds, denV, denI, denB, denL, I2.den, e1I, e1B, e1V, List.getD_cons_zero, List.getD_cons_succ, Cst.den, slsOf_zero, slsOf_one, B2.ofInts, B2.denI, B2.denB, if_true, Bool.false_eq_true, if_false]
  have f1 := satE_spec (a - b)
  have f2 := svE_spec (a - b)
  refine ⟨?_, fun h0 => ?_⟩
  ·
    first | omega | rfl | (simp only [Value.tuple.injEq, Value.agg.injEq, Value.int.injEq, Value.bool.injEq, Array.mk.injEq, List.cons.injEq, true_and, and_true]; omega)
  ·
    refine ⟨fun h1 => ?_, fun h1 => ?_⟩
    ·
      simp only [Value.int.injEq, true_and]; omega
    ·
      refine ⟨fun h2 => ?_, fun h2 => ?_⟩
      ·
        simp only [Value.int.injEq, true_and]; omega
      ·
        simp only [Value.int.injEq, true_and]; omega
theorem esubsat (a : Int) (b : Int) (ha : InR a) (hb : InR b) (w : World) : Calls Tryd.prog 156 #[.int .i64 a, .int .i64 b] w fun e w' => e = .returned (.int .i64 (satE (a - b))) ∧ Below w.heap.size w w' := by
  have h := calls_by (n := ⟨2, 0, 0, 0⟩) (e1E [a, b] [] [] [] (slsOf [])) (vs := [.int .i64 a, .int .i64 b]) (W := w) e1m esubsat_w rfl ⟨rfl, rfl, rfl, rfl⟩ ⟨(good_cons (e1g_sub _ _ _ _ _ _) good_nil), slsOk_nil⟩ (esubsat_h a b ha hb) rfl
  exact calls_eq h
abbrev e1c_subsat : Con := ⟨156, [(.int .i64 (.var 0)), (.int .i64 (.var 1))], (.b2 .and (.b2 .and (.b2 .le (.lit (-9223372036854775808)) (.var 0)) (.b2 .le (.var 0) (.lit (9223372036854775807)))) (.b2 .and (.b2 .le (.lit (-9223372036854775808)) (.var 1)) (.b2 .le (.var 1) (.lit (9223372036854775807))))), (.int .i64 (.iapp 4 (.cons (.int .i64 (.i2 .sub (.var 0) (.var 1))) .nil))), []⟩
theorem e1g_subsat (iv : List Int) (bv : List Bool) (vv : List Value) (sv : List ByteArray) (sls : Nat → Slc) (W : World) : e1c_subsat.Good Tryd.prog (e1E iv bv vv sv sls) W := by
  intro iv bv vv sv sls β hc w hb hsl
  exact esubsat (iv.getD 0 0) (iv.getD 1 0) hc.1 hc.2 w
def esize_tree : Tree :=
 (.br (.b2 .lt (.var 0) (.lit (0)))
 (.need (.b2 .and (.b2 .le (.lit (-9223372036854775808)) (.var 0)) (.b2 .le (.var 0) (.lit (9223372036854775807))))
 (.ret (.int .i64 (.iapp 4 (.cons (.int .i64 (.i2 .sub (.lit (0)) (.var 0))) .nil)))))
 (.ret (.int .i64 (.var 0))))
theorem esize_w : walk Tryd.prog 141 ⟨[e1c_subsat], []⟩ [] 126 [(.int .i64 (.var 0))] ⟨1, 0, 0, 0⟩ 2000 = some esize_tree := by kernel_rfl
theorem esize_h (a : Int) (ha : InR a) : esize_tree.holds (fun v => v = .int .i64 (szE a)) (e1E [a] [] [] [] (slsOf [])) := by
  unfold esize_tree
  simp only [Tree.holds, Sx.holds, denV, denI, denB, denL, I2.den, e1I, e1B, e1V, List.getD_cons_zero, List.getD_cons_succ, Cst.den, slsOf_zero, slsOf_one, B2.ofInts, B2.denI, B2.denB, if_true, Bool.false_eq_true, if_false]
  have f1 := satE_spec (0 - a)
  have f2 := szE_spec a ha
  refine ⟨fun h0 => ?_, fun h0 => ?_⟩
  ·
    refine ⟨?_, fun h1 => ?_⟩
    ·
      first | omega | rfl | (simp only [Value.tuple.injEq, Value.agg.injEq, Value.int.injEq, Value.bool.injEq, Array.mk.injEq, List.cons.injEq, true_and, and_true]; omega)
    ·
      simp only [Value.int.injEq, true_and]; omega
  ·
    simp only [Value.int.injEq, true_and]; omega
theorem esize (a : Int) (ha : InR a) (w : World) : Calls Tryd.prog 126 #[.int .i64 a] w fun e w' => e = .returned (.int .i64 (szE a)) ∧ Below w.heap.size w w' := by
  have h := calls_by (n := ⟨1, 0, 0, 0⟩) (e1E [a] [] [] [] (slsOf [])) (vs := [.int .i64 a]) (W := w) e1m esize_w rfl ⟨rfl, rfl, rfl, rfl⟩ ⟨(good_cons (e1g_subsat _ _ _ _ _ _) good_nil), slsOk_nil⟩ (esize_h a ha) rfl
  exact calls_eq h
def ediv_tree : Tree :=
 (.br (.b2 .lt (.var 1) (.lit (1)))
 (.ret (.tup (.cons (.int .i64 (.lit (0))) (.cons (.int .i64 (.lit (0))) (.cons (.iface 141 (.int .i64 (.lit (1)))) .nil)))))
 (.need (.not (.b2 .eq (.var 1) (.lit (0))))
 (.need (.not (.b2 .eq (.var 1) (.lit (0))))
 (.br (.b2 .lt (.i2 .rem (.var 0) (.var 1)) (.lit (0)))
 (.ret (.tup (.cons (.int .i64 (.wrap .i64 (.i2 .sub (.wrap .i64 (.i2 .quo (.var 0) (.var 1))) (.lit (1))))) (.cons (.int .i64 (.wrap .i64 (.i2 .add (.i2 .rem (.var 0) (.var 1)) (.var 1)))) (.cons (.cst .nilI) .nil)))))
 (.ret (.tup (.cons (.int .i64 (.wrap .i64 (.i2 .quo (.var 0) (.var 1)))) (.cons (.int .i64 (.i2 .rem (.var 0) (.var 1))) (.cons (.cst .nilI) .nil)))))))))
theorem ediv_w : walk Tryd.prog 141 ⟨[], []⟩ [] 107 [(.int .i64 (.var 0)), (.int .i64 (.var 1))] ⟨2, 0, 0, 0⟩ 2000 = some ediv_tree := by kernel_rfl
theorem ediv_h (a : Int) (b : Int) (ha : InR a) (hb : InR b) : ediv_tree.holds (fun v => v = .tuple #[.int .i64 (dqE a b), .int .i64 (dmE a b), errVal 141 (deE b)]) (e1E [a, b] [] [] [] (slsOf [])) := by
  unfold ediv_tree
  simp only [Tree.holds, Sx.holds, denV, denI, denB, denL, I2.den, e1I, e1B, e1V, List.getD_cons_zero, List.getD_cons_succ, Cst.den, slsOf_zero, slsOf_one, B2.ofInts, B2.denI, B2.denB, if_true, Bool.false_eq_true, if_false]
  have f1 := dE_spec a b
  have f2 := dm_spec a b ha
  have wf0 := wr_i64 (Int.tdiv a b)
  have wf1 := wr_i64 ((IntKind.wrap .i64 (Int.tdiv a b)) - 1)
  have wf2 := wr_i64 ((Int.tmod a b) + b)
  refine ⟨fun h0 => ?_, fun h0 => ?_⟩
  ·
    first | (exfalso; omega) | (simp only [errVal]; split <;> first | (exfalso; omega) | (simp only [Value.tuple.injEq, Value.agg.injEq, Value.int.injEq, Value.iface.injEq, Array.mk.injEq, List.cons.injEq, true_and, and_true]; omega)) | (simp only [Value.tuple.injEq, Value.agg.injEq, Value.int.injEq, Value.iface.injEq, Array.mk.injEq, List.cons.injEq, true_and, and_true]; omega)
  ·
    refine ⟨?_, fun h1 => ?_⟩
    ·
      first | omega | rfl | (simp only [Value.tuple.injEq, Value.agg.injEq, Value.int.injEq, Value.bool.injEq, Array.mk.injEq, List.cons.injEq, true_and, and_true]; omega)
    ·
      refine ⟨?_, fun h2 => ?_⟩
      ·
        first | omega | rfl | (simp only [Value.tuple.injEq, Value.agg.injEq, Value.int.injEq, Value.bool.injEq, Array.mk.injEq, List.cons.injEq, true_and, and_true]; omega)
      ·
        refine ⟨fun h3 => ?_, fun h3 => ?_⟩
        ·
          first | (exfalso; omega) | (simp only [errVal]; split <;> first | (exfalso; omega) | (simp only [Value.tuple.injEq, Value.agg.injEq, Value.int.injEq, Value.iface.injEq, Array.mk.injEq, List.cons.injEq, true_and, and_true]; omega)) | (simp only [Value.tuple.injEq, Value.agg.injEq, Value.int.injEq, Value.iface.injEq, Array.mk.injEq, List.cons.injEq, true_and, and_true]; omega)
        ·
          first | (exfalso; omega) | (simp only [errVal]; split <;> first | (exfalso; omega) | (simp only [Value.tuple.injEq, Value.agg.injEq, Value.int.injEq, Value.iface.injEq, Array.mk.injEq, List.cons.injEq, true_and, and_true]; omega)) | (simp only [Value.tuple.injEq, Value.agg.injEq, Value.int.injEq, Value.iface.injEq, Array.mk.injEq, List.cons.injEq, true_and, and_true]; omega)
theorem ediv (a : Int) (b : Int) (ha : InR a) (hb : InR b) (w : World) : Calls Tryd.prog 107 #[.int .i64 a, .int .i64 b] w fun e w' => e = .returned (.tuple #[.int .i64 (dqE a b), .int .i64 (dmE a b), errVal 141 (deE b)]) ∧ Below w.heap.size w w' := by
  have h := calls_by (n := ⟨2, 0, 0, 0⟩) (e1E [a, b] [] [] [] (slsOf [])) (vs := [.int .i64 a, .int .i64 b]) (W := w) e1m ediv_w rfl ⟨rfl, rfl, rfl, rfl⟩ ⟨good_nil, slsOk_nil⟩ (ediv_h a b ha hb) rfl
  exact calls_eq h
def ersum_tree : Tree :=
 (.br (.b2 .lt (.lit (0)) (.var 1))
 (.br (.b2 .lt (.wrap .i64 (.i2 .sub (.lit (9223372036854775807)) (.var 1))) (.var 0))
 (.ret (.tup (.cons (.int .i64 (.lit (0))) (.cons (.int .i64 (.lit (1))) .nil))))
 (.br (.b2 .lt (.var 1) (.lit (0)))
 (.br (.b2 .lt (.var 0) (.wrap .i64 (.i2 .sub (.lit (-9223372036854775808)) (.var 1))))
 (.ret (.tup (.cons (.int .i64 (.lit (0))) (.cons (.int .i64 (.lit (-1))) .nil))))
 (.ret (.tup (.cons (.int .i64 (.wrap .i64 (.i2 .add (.var 0) (.var 1)))) (.cons (.int .i64 (.lit (0))) .nil)))))
 (.ret (.tup (.cons (.int .i64 (.wrap .i64 (.i2 .add (.var 0) (.var 1)))) (.cons (.int .i64 (.lit (0))) .nil))))))
 (.br (.b2 .lt (.var 1) (.lit (0)))
 (.br (.b2 .lt (.var 0) (.wrap .i64 (.i2 .sub (.lit (-9223372036854775808)) (.var 1))))
 (.ret (.tup (.cons (.int .i64 (.lit (0))) (.cons (.int .i64 (.lit (-1))) .nil))))
 (.ret (.tup (.cons (.int .i64 (.wrap .i64 (.i2 .add (.var 0) (.var 1)))) (.cons (.int .i64 (.lit (0))) .nil)))))
 (.ret (.tup (.cons (.int .i64 (.wrap .i64 (.i2 .add (.var 0) (.var 1)))) (.cons (.int .i64 (.lit (0))) .nil))))))
theorem ersum_w : walk Tryd.prog 141 ⟨[], []⟩ [] 179 [(.int .i64 (.var 0)), (.int .i64 (.var 1))] ⟨2, 0, 0, 0⟩ 2000 = some ersum_tree := by kernel_rfl
theorem ersum_h (a : Int) (b : Int) (ha : InR a) (hb : InR b) : ersum_tree.holds (fun v => v = .tuple #[.int .i64 (svE (a + b)), .int .i64 (soE (a + b))]) (e1E [a, b] [] [] [] (slsOf [])) := by
  unfold ersum_tree
  simp only [Tree.holds, Sx.holds, denV, denI, denB, denL, I2.den, e1I, e1B, e1V, List.getD_cons_zero, List.getD_cons_succ, Cst.den, slsOf_zero, slsOf_one, B2.ofInts, B2.denI, B2.denB, if_true, Bool.false_eq_true, if_false]
  have f1 := svE_spec (a + b)
  have wf0 := wr_i64 (9223372036854775807 - b)
  have wf1 := wr_i64 ((-9223372036854775808) - b)
  have wf2 := wr_i64 (a + b)
  refine ⟨fun h0 => ?_, fun h0 => ?_⟩
  ·
    refine ⟨fun h1 => ?_, fun h1 => ?_⟩
    ·
      first | omega | rfl | (simp only [Value.tuple.injEq, Value.agg.injEq, Value.int.injEq, Value.bool.injEq, Array.mk.injEq, List.cons.injEq, true_and, and_true]; omega)
    ·
      refine ⟨fun h2 => ?_, fun h2 => ?_⟩
      ·
        refine ⟨fun h3 => ?_, fun h3 => ?_⟩
        ·
          first | omega | rfl | (simp only [Value.tuple.injEq, Value.agg.injEq, Value.int.injEq, Value.bool.injEq, Array.mk.injEq, List.cons.injEq, true_and, and_true]; omega)
        ·
          first | omega | rfl | (simp only [Value.tuple.injEq, Value.agg.injEq, Value.int.injEq, Value.bool.injEq, Array.mk.injEq, List.cons.injEq, true_and, and_true]; omega)
      ·
        first | omega | rfl | (simp only [Value.tuple.injEq, Value.agg.injEq, Value.int.injEq, Value.bool.injEq, Array.mk.injEq, List.cons.injEq, true_and, and_true]; omega)
  ·
    refine ⟨fun h4 => ?_, fun h4 => ?_⟩
    ·
      refine ⟨fun h5 => ?_, fun h5 => ?_⟩
      ·
        first | omega | rfl | (simp only [Value.tuple.injEq, Value.agg.injEq, Value.int.injEq, Value.bool.injEq, Array.mk.injEq, List.cons.injEq, true_and, and_true]; omega)
      ·
        first | omega | rfl | (simp only [Value.tuple.injEq, Value.agg.injEq, Value.int.injEq, Value.bool.injEq, Array.mk.injEq, List.cons.injEq, true_and, and_true]; omega)
    ·
      first | omega | rfl | (simp only [Value.tuple.injEq, Value.agg.injEq, Value.int.injEq, Value.bool.injEq, Array.mk.injEq, List.cons.injEq, true_and, and_true]; omega)
theorem ersum (a : Int) (b : Int) (ha : InR a) (hb : InR b) (w : World) : Calls Tryd.prog 179 #[.int .i64 a, .int .i64 b] w fun e w' => e = .returned (.tuple #[.int .i64 (svE (a + b)), .int .i64 (soE (a + b))]) ∧ Below w.heap.size w w' := by
  have h := calls_by (n := ⟨2, 0, 0, 0⟩) (e1E [a, b] [] [] [] (slsOf [])) (vs := [.int .i64 a, .int .i64 b]) (W := w) e1m ersum_w rfl ⟨rfl, rfl, rfl, rfl⟩ ⟨good_nil, slsOk_nil⟩ (ersum_h a b ha hb) rfl
  exact calls_eq h
def erless_tree : Tree :=
 (.br (.b2 .lt (.var 1) (.lit (0)))
 (.br (.b2 .lt (.wrap .i64 (.i2 .add (.lit (9223372036854775807)) (.var 1))) (.var 0))
 (.ret (.tup (.cons (.int .i64 (.lit (0))) (.cons (.int .i64 (.lit (1))) .nil))))
 (.br (.b2 .lt (.lit (0)) (.var 1))
 (.br (.b2 .lt (.var 0) (.wrap .i64 (.i2 .add (.lit (-9223372036854775808)) (.var 1))))
 (.ret (.tup (.cons (.int .i64 (.lit (0))) (.cons (.int .i64 (.lit (-1))) .nil))))
 (.ret (.tup (.cons (.int .i64 (.wrap .i64 (.i2 .sub (.var 0) (.var 1)))) (.cons (.int .i64 (.lit (0))) .nil)))))
 (.ret (.tup (.cons (.int .i64 (.wrap .i64 (.i2 .sub (.var 0) (.var 1)))) (.cons (.int .i64 (.lit (0))) .nil))))))
 (.br (.b2 .lt (.lit (0)) (.var 1))
 (.br (.b2 .lt (.var 0) (.wrap .i64 (.i2 .add (.lit (-9223372036854775808)) (.var 1))))
 (.ret (.tup (.cons (.int .i64 (.lit (0))) (.cons (.int .i64 (.lit (-1))) .nil))))
 (.ret (.tup (.cons (.int .i64 (.wrap .i64 (.i2 .sub (.var 0) (.var 1)))) (.cons (.int .i64 (.lit (0))) .nil)))))
 (.ret (.tup (.cons (.int .i64 (.wrap .i64 (.i2 .sub (.var 0) (.var 1)))) (.cons (.int .i64 (.lit (0))) .nil))))))
theorem erless_w : walk Tryd.prog 141 ⟨[], []⟩ [] 134 [(.int .i64 (.var 0)), (.int .i64 (.var 1))] ⟨2, 0, 0, 0⟩ 2000 = some erless_tree := by kernel_rfl
theorem erless_h (a : Int) (b : Int) (ha : InR a) (hb : InR b) : erless_tree.holds (fun v => v = .tuple #[.int .i64 (svE (a - b)), .int .i64 (soE (a - b))]) (e1E [a, b] [] [] [] (slsOf [])) := by
  unfold erless_tree
  simp only [Tree.holds, Sx.holds, denV, denI, denB, denL, I2.den, e1I, e1B, e1V, List.getD_cons_zero, List.getD_cons_succ, Cst.den, slsOf_zero, slsOf_one, B2.ofInts, B2.denI, B2.denB, if_true, Bool.false_eq_true, if_false]
  have f1 := svE_spec (a - b)
  have wf0 := wr_i64 (9223372036854775807 + b)
  have wf1 := wr_i64 ((-9223372036854775808) + b)
  have wf2 := wr_i64 (a - b)
  refine ⟨fun h0 => ?_, fun h0 => ?_⟩
  ·
    refine ⟨fun h1 => ?_, fun h1 => ?_⟩
    ·
      first | omega | rfl | (simp only [Value.tuple.injEq, Value.agg.injEq, Value.int.injEq, Value.bool.injEq, Array.mk.injEq, List.cons.injEq, true_and, and_true]; omega)
    ·
      refine ⟨fun h2 => ?_, fun h2 => ?_⟩
      ·
        refine ⟨fun h3 => ?_, fun h3 => ?_⟩
        ·
          first | omega | rfl | (simp only [Value.tuple.injEq, Value.agg.injEq, Value.int.injEq, Value.bool.injEq, Array.mk.injEq, List.cons.injEq, true_and, and_true]; omega)
        ·
          first | omega | rfl | (simp only [Value.tuple.injEq, Value.agg.injEq, Value.int.injEq, Value.bool.injEq, Array.mk.injEq, List.cons.injEq, true_and, and_true]; omega)
      ·
        first | omega | rfl | (simp only [Value.tuple.injEq, Value.agg.injEq, Value.int.injEq, Value.bool.injEq, Array.mk.injEq, List.cons.injEq, true_and, and_true]; omega)
  ·
    refine ⟨fun h4 => ?_, fun h4 => ?_⟩
    ·
      refine ⟨fun h5 => ?_, fun h5 => ?_⟩
      ·
        first | omega | rfl | (simp only [Value.tuple.injEq, Value.agg.injEq, Value.int.injEq, Value.bool.injEq, Array.mk.injEq, List.cons.injEq, true_and, and_true]; omega)
      ·
        first | omega | rfl | (simp only [Value.tuple.injEq, Value.agg.injEq, Value.int.injEq, Value.bool.injEq, Array.mk.injEq, List.cons.injEq, true_and, and_true]; omega)
    ·
      first | omega | rfl | (simp only [Value.tuple.injEq, Value.agg.injEq, Value.int.injEq, Value.bool.injEq, Array.mk.injEq, List.cons.injEq, true_and, and_true]; omega)
theorem erless (a : Int) (b : Int) (ha : InR a) (hb : InR b) (w : World) : Calls Tryd.prog 134 #[.int .i64 a, .int .i64 b] w fun e w' => e = .returned (.tuple #[.int .i64 (svE (a - b)), .int .i64 (soE (a - b))]) ∧ Below w.heap.size w w' := by
  have h := calls_by (n := ⟨2, 0, 0, 0⟩) (e1E [a, b] [] [] [] (slsOf [])) (vs := [.int .i64 a, .int .i64 b]) (W := w) e1m erless_w rfl ⟨rfl, rfl, rfl, rfl⟩ ⟨good_nil, slsOk_nil⟩ (erless_h a b ha hb) rfl
  exact calls_eq h
def erbounded_tree : Tree :=
 (.br (.b2 .lt (.lit (0)) (.var 1))
 (.ret (.int .i64 (.lit (9223372036854775807))))
 (.br (.b2 .lt (.var 1) (.lit (0)))
 (.ret (.int .i64 (.lit (-9223372036854775808))))
 (.ret (.int .i64 (.var 0)))))
theorem erbounded_w : walk Tryd.prog 141 ⟨[], []⟩ [] 180 [(.int .i64 (.var 0)), (.int .i64 (.var 1))] ⟨2, 0, 0, 0⟩ 2000 = some erbounded_tree := by kernel_rfl
theorem erbounded_h (n : Int) (o : Int)  : erbounded_tree.holds (fun v => v = .int .i64 (bdE n o)) (e1E [n, o] [] [] [] (slsOf [])) := by
  unfold erbounded_tree
  simp only [Tree.holds, Sx.holds, denV, denI, denB, denL, I2.den, e1I, e1B, e1V, List.getD_cons_zero, List.getD_cons_succ, Cst.den, slsOf_zero, slsOf_one, B2.ofInts, B2.denI, B2.denB, if_true, Bool.false_eq_true, if_false]
  have f1 := bdE_spec n o
  refine ⟨fun h0 => ?_, fun h0 => ?_⟩
  ·
    first | omega | rfl | (simp only [Value.tuple.injEq, Value.agg.injEq, Value.int.injEq, Value.bool.injEq, Array.mk.injEq, List.cons.injEq, true_and, and_true]; omega)
  ·
    refine ⟨fun h1 => ?_, fun h1 => ?_⟩
    ·
      first | omega | rfl | (simp only [Value.tuple.injEq, Value.agg.injEq, Value.int.injEq, Value.bool.injEq, Array.mk.injEq, List.cons.injEq, true_and, and_true]; omega)
    ·
      first | omega | rfl | (simp only [Value.tuple.injEq, Value.agg.injEq, Value.int.injEq, Value.bool.injEq, Array.mk.injEq, List.cons.injEq, true_and, and_true]; omega)
theorem erbounded (n : Int) (o : Int)  (w : World) : Calls Tryd.prog 180 #[.int .i64 n, .int .i64 o] w fun e w' => e = .returned (.int .i64 (bdE n o)) ∧ Below w.heap.size w w' := by
  have h := calls_by (n := ⟨2, 0, 0, 0⟩) (e1E [n, o] [] [] [] (slsOf [])) (vs := [.int .i64 n, .int .i64 o]) (W := w) e1m erbounded_w rfl ⟨rfl, rfl, rfl, rfl⟩ ⟨good_nil, slsOk_nil⟩ (erbounded_h n o ) rfl
  exact calls_eq h
end Go.Proofs.YtflckmhlobpfiaaDoor
