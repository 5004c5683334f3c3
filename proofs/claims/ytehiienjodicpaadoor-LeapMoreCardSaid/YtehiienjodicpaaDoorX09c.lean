/-
  Layer 9 by symbolic walks: the statements.
-/
import Derived.Test.YtehiienjodicpaaDoorSx
import Derived.Test.YtehiienjodicpaaDoorX09b
import Derived.Test.YtehiienjodicpaaDoorNum
namespace Go.Proofs.YtehiienjodicpaaDoor
open Go.RowKit Go.Extern.Stop Go.Stop Go.Extern Go.Proofs.YtehiienjodicpaaDoor.Sx
set_option linter.unusedVariables false
set_option linter.unusedSimpArgs false
def x9cI : Nat → List Value → Int
  | 0, [.int _ b, .int _ t, l] => mayI b t (intsOf l)
  | 1, [l, .int _ d] => (ctL (intsOf l) d : Int)
  | 2, [.int _ b, .int _ t, l, .int _ d] => wrongI b t (intsOf l) d
  | 3, [.int _ b, l, .int _ d] => secL b (intsOf l) d
  | 4, [.int _ b, .int _ t, l, .int _ d] => aheadI b t (intsOf l) d
  | 5, [.int _ b, .int _ t, l, .int _ d] => lenI b t (intsOf l) d
  | 6, [.int _ b, .int _ t, l, .int _ d] => begI b t (intsOf l) d
  | 7, [.int _ b, .int _ t, l, .int _ n] => utcE b t (intsOf l) n
  | 8, [.int _ b, .int _ t, l, .int _ n] => utcD b t (intsOf l) n
  | 9, [.int _ b, .int _ t, l, .int _ n] => utcS b t (intsOf l) n
  | 10, [.int _ b, .int _ t, l, .int _ n] => utcN b t (intsOf l) n
  | 11, [.int _ b, .int _ t, l, .int _ d, .int _ s, .int _ n] => taiE b t (intsOf l) d s n
  | 12, [.int _ b, .int _ t, l, .int _ d, .int _ s, .int _ n] => taiV b t (intsOf l) d s n
  | 13, [.int _ a] => szE a
  | 14, [.int _ a, .int _ b] => dqE a b
  | 15, [.int _ a, .int _ b] => dmE a b
  | 16, [.int _ b] => deE b
  | _, _ => 0
def x9cB : Nat → List Value → Bool
  | 0, [.int _ b, .int _ t, l] => mayL b t (intsOf l)
  | 1, [.int _ b, .int _ t, l, .int _ c, .int _ s, k] => decide (b = c ∧ t = s ∧ intsOf l = intsOf k)
  | 2, [l, k, .int _ n] => decide ((intsOf l).take n.toNat = (intsOf k).take n.toNat)
  | _, _ => false
def x9cV : Nat → List Value → Value
  | _, _ => Go.undef
abbrev x9cE (iv : List Int) (bv : List Bool) (vv : List Value) (sv : List ByteArray) (sls : Nat → Slc) : Env := { sls := sls, iv := iv, bv := bv, vv := vv, sv := sv, fi := x9cI, fb := x9cB, fv := x9cV, et := 108 }
theorem x9cm : Tryd.prog.follows .mixedOrders = true := by kernel_rfl
abbrev x9cc_ahead : Con := ⟨61, [(.agg (.cons (.int .i64 (.var 0)) (.cons (.int .i64 (.var 1)) (.cons (.sl 0) .nil)))), (.int .i64 (.var 2))], (.b2 .and (.b2 .le (.lit (0)) (.var 0)) (.b2 .and (.b2 .le (.var 0) (.lit (100))) (.b2 .le (.slen 0) (.lit (32))))), (.int .i64 (.i2 .add (.var 0) (.iapp 1 (.cons (.slv 0) (.cons (.int .i64 (.var 2)) .nil))))), [[.int .i64]]⟩
theorem x9cg_ahead (iv : List Int) (bv : List Bool) (vv : List Value) (sv : List ByteArray) (sls : Nat → Slc) (W : World) : x9cc_ahead.Good Tryd.prog (x9cE iv bv vv sv sls) W := by
  intro iv bv vv sv sls β hc w hb hsl
  have hs0 := hsl 0 _ rfl
  exact lahead (iv.getD 0 0) (iv.getD 1 0) (sls 0) (iv.getD 2 0) hs0.1.symm (by simp only [Sx.holds, denI] at hc; omega) (by simp only [Sx.holds, denI] at hc; omega) (by simp only [Sx.holds, denI] at hc; omega) w hs0
abbrev x9cc_check : Con := ⟨20, [(.agg (.cons (.int .i64 (.var 0)) (.cons (.int .i64 (.var 1)) (.cons (.sl 0) .nil))))], (.tt true), (.err (.iapp 0 (.cons (.int .i64 (.var 0)) (.cons (.int .i64 (.var 1)) (.cons (.slv 0) .nil))))), [[.int .i64]]⟩
theorem x9cg_check (iv : List Int) (bv : List Bool) (vv : List Value) (sv : List ByteArray) (sls : Nat → Slc) (W : World) : x9cc_check.Good Tryd.prog (x9cE iv bv vv sv sls) W := by
  intro iv bv vv sv sls β hc w hb hsl
  have hs0 := hsl 0 _ rfl
  exact lcheck (iv.getD 0 0) (iv.getD 1 0) (sls 0) hs0.1.symm w hs0
abbrev x9cc_rmay : Con := ⟨21, [(.agg (.cons (.int .i64 (.var 0)) (.cons (.int .i64 (.var 1)) (.cons (.sl 0) .nil))))], (.b2 .le (.slen 0) (.lit (9223372036854775807))), (.bool (.b2 .eq (.iapp 0 (.cons (.int .i64 (.var 0)) (.cons (.int .i64 (.var 1)) (.cons (.slv 0) .nil)))) (.lit (0)))), [[.int .i64]]⟩
theorem x9cg_rmay (iv : List Int) (bv : List Bool) (vv : List Value) (sv : List ByteArray) (sls : Nat → Slc) (W : World) : x9cc_rmay.Good Tryd.prog (x9cE iv bv vv sv sls) W := by
  intro iv bv vv sv sls β hc w hb hsl
  have hs0 := hsl 0 _ rfl
  exact (by have h := rmay (iv.getD 0 0) (iv.getD 1 0) (sls 0) hs0.1.symm (by simp only [Sx.holds, denI] at hc; omega) w hs0; rw [mayB] at h; exact h)
abbrev x9cc_rsec : Con := ⟨24, [(.agg (.cons (.int .i64 (.var 0)) (.cons (.int .i64 (.var 1)) (.cons (.sl 0) .nil)))), (.int .i64 (.var 2))], (.b2 .and (.b2 .le (.lit (0)) (.var 0)) (.b2 .and (.b2 .le (.var 0) (.lit (100))) (.b2 .and (.b2 .le (.slen 0) (.lit (32))) (.b2 .and (.b2 .le (.lit (-100000)) (.var 2)) (.b2 .le (.var 2) (.lit (100000))))))), (.int .i64 (.iapp 3 (.cons (.int .i64 (.var 0)) (.cons (.slv 0) (.cons (.int .i64 (.var 2)) .nil))))), [[.int .i64]]⟩
theorem x9cg_rsec (iv : List Int) (bv : List Bool) (vv : List Value) (sv : List ByteArray) (sls : Nat → Slc) (W : World) : x9cc_rsec.Good Tryd.prog (x9cE iv bv vv sv sls) W := by
  intro iv bv vv sv sls β hc w hb hsl
  have hs0 := hsl 0 _ rfl
  exact rsecond (iv.getD 0 0) (iv.getD 1 0) (sls 0) (iv.getD 2 0) hs0.1.symm (by simp only [Sx.holds, denI] at hc; omega) (by simp only [Sx.holds, denI] at hc; omega) (by simp only [Sx.holds, denI] at hc; omega) (by simp only [Sx.holds, denI] at hc; omega) (by simp only [Sx.holds, denI] at hc; omega) w hs0
abbrev x9cc_LAhead : Con := ⟨16, [(.agg (.cons (.int .i64 (.var 0)) (.cons (.int .i64 (.var 1)) (.cons (.sl 0) .nil)))), (.int .i64 (.var 2))], (.tt true), (.tup (.cons (.int .i64 (.iapp 4 (.cons (.int .i64 (.var 0)) (.cons (.int .i64 (.var 1)) (.cons (.slv 0) (.cons (.int .i64 (.var 2)) .nil)))))) (.cons (.err (.iapp 2 (.cons (.int .i64 (.var 0)) (.cons (.int .i64 (.var 1)) (.cons (.slv 0) (.cons (.int .i64 (.var 2)) .nil)))))) .nil))), [[.int .i64]]⟩
theorem x9cg_LAhead (iv : List Int) (bv : List Bool) (vv : List Value) (sv : List ByteArray) (sls : Nat → Slc) (W : World) : x9cc_LAhead.Good Tryd.prog (x9cE iv bv vv sv sls) W := by
  intro iv bv vv sv sls β hc w hb hsl
  have hs0 := hsl 0 _ rfl
  exact lAhead (iv.getD 0 0) (iv.getD 1 0) (sls 0) (iv.getD 2 0) hs0.1.symm w hs0
abbrev x9cc_LLength : Con := ⟨17, [(.agg (.cons (.int .i64 (.var 0)) (.cons (.int .i64 (.var 1)) (.cons (.sl 0) .nil)))), (.int .i64 (.var 2))], (.tt true), (.tup (.cons (.int .i64 (.iapp 5 (.cons (.int .i64 (.var 0)) (.cons (.int .i64 (.var 1)) (.cons (.slv 0) (.cons (.int .i64 (.var 2)) .nil)))))) (.cons (.err (.iapp 2 (.cons (.int .i64 (.var 0)) (.cons (.int .i64 (.var 1)) (.cons (.slv 0) (.cons (.int .i64 (.var 2)) .nil)))))) .nil))), [[.int .i64]]⟩
theorem x9cg_LLength (iv : List Int) (bv : List Bool) (vv : List Value) (sv : List ByteArray) (sls : Nat → Slc) (W : World) : x9cc_LLength.Good Tryd.prog (x9cE iv bv vv sv sls) W := by
  intro iv bv vv sv sls β hc w hb hsl
  have hs0 := hsl 0 _ rfl
  exact lLength (iv.getD 0 0) (iv.getD 1 0) (sls 0) (iv.getD 2 0) hs0.1.symm w hs0
abbrev x9cc_LBegin : Con := ⟨18, [(.agg (.cons (.int .i64 (.var 0)) (.cons (.int .i64 (.var 1)) (.cons (.sl 0) .nil)))), (.int .i64 (.var 2))], (.tt true), (.tup (.cons (.int .i64 (.iapp 6 (.cons (.int .i64 (.var 0)) (.cons (.int .i64 (.var 1)) (.cons (.slv 0) (.cons (.int .i64 (.var 2)) .nil)))))) (.cons (.err (.iapp 2 (.cons (.int .i64 (.var 0)) (.cons (.int .i64 (.var 1)) (.cons (.slv 0) (.cons (.int .i64 (.var 2)) .nil)))))) .nil))), [[.int .i64]]⟩
theorem x9cg_LBegin (iv : List Int) (bv : List Bool) (vv : List Value) (sv : List ByteArray) (sls : Nat → Slc) (W : World) : x9cc_LBegin.Good Tryd.prog (x9cE iv bv vv sv sls) W := by
  intro iv bv vv sv sls β hc w hb hsl
  have hs0 := hsl 0 _ rfl
  exact lBegin (iv.getD 0 0) (iv.getD 1 0) (sls 0) (iv.getD 2 0) hs0.1.symm w hs0
abbrev x9cc_known : Con := ⟨60, [(.agg (.cons (.int .i64 (.var 0)) (.cons (.int .i64 (.var 1)) (.cons (.sl 0) .nil)))), (.int .i64 (.var 2))], (.tt true), (.err (.iapp 2 (.cons (.int .i64 (.var 0)) (.cons (.int .i64 (.var 1)) (.cons (.slv 0) (.cons (.int .i64 (.var 2)) .nil)))))), [[.int .i64]]⟩
theorem x9cg_known (iv : List Int) (bv : List Bool) (vv : List Value) (sv : List ByteArray) (sls : Nat → Slc) (W : World) : x9cc_known.Good Tryd.prog (x9cE iv bv vv sv sls) W := by
  intro iv bv vv sv sls β hc w hb hsl
  have hs0 := hsl 0 _ rfl
  exact lknown (iv.getD 0 0) (iv.getD 1 0) (sls 0) (iv.getD 2 0) hs0.1.symm w hs0
abbrev x9cc_begin : Con := ⟨62, [(.agg (.cons (.int .i64 (.var 0)) (.cons (.int .i64 (.var 1)) (.cons (.sl 0) .nil)))), (.int .i64 (.var 2))], (.b2 .and (.b2 .le (.lit (0)) (.var 0)) (.b2 .and (.b2 .le (.var 0) (.lit (100))) (.b2 .and (.b2 .le (.slen 0) (.lit (32))) (.b2 .and (.b2 .le (.lit (-100000)) (.var 2)) (.b2 .le (.var 2) (.lit (100000))))))), (.int .i64 (.i2 .mul (.iapp 3 (.cons (.int .i64 (.var 0)) (.cons (.slv 0) (.cons (.int .i64 (.var 2)) .nil)))) (.lit (1000000000)))), [[.int .i64]]⟩
theorem x9cg_begin (iv : List Int) (bv : List Bool) (vv : List Value) (sv : List ByteArray) (sls : Nat → Slc) (W : World) : x9cc_begin.Good Tryd.prog (x9cE iv bv vv sv sls) W := by
  intro iv bv vv sv sls β hc w hb hsl
  have hs0 := hsl 0 _ rfl
  exact lbegin (iv.getD 0 0) (iv.getD 1 0) (sls 0) (iv.getD 2 0) hs0.1.symm (by simp only [Sx.holds, denI] at hc; omega) (by simp only [Sx.holds, denI] at hc; omega) (by simp only [Sx.holds, denI] at hc; omega) (by simp only [Sx.holds, denI] at hc; omega) (by simp only [Sx.holds, denI] at hc; omega) w hs0
abbrev x9cc_rwrong : Con := ⟨19, [(.agg (.cons (.int .i64 (.var 0)) (.cons (.int .i64 (.var 1)) (.cons (.sl 0) .nil)))), (.int .i64 (.var 2))], (.b2 .le (.slen 0) (.lit (9223372036854775807))), (.int .i64 (.iapp 2 (.cons (.int .i64 (.var 0)) (.cons (.int .i64 (.var 1)) (.cons (.slv 0) (.cons (.int .i64 (.var 2)) .nil)))))), [[.int .i64]]⟩
theorem x9cg_rwrong (iv : List Int) (bv : List Bool) (vv : List Value) (sv : List ByteArray) (sls : Nat → Slc) (W : World) : x9cc_rwrong.Good Tryd.prog (x9cE iv bv vv sv sls) W := by
  intro iv bv vv sv sls β hc w hb hsl
  have hs0 := hsl 0 _ rfl
  exact rwrong (iv.getD 0 0) (iv.getD 1 0) (sls 0) (iv.getD 2 0) hs0.1.symm (by simp only [Sx.holds, denI] at hc; omega) w hs0
abbrev x9cc_lutc : Con := ⟨25, [(.agg (.cons (.int .i64 (.var 0)) (.cons (.int .i64 (.var 1)) (.cons (.sl 0) .nil)))), (.int .i64 (.var 2))], (.b2 .and (.b2 .le (.lit (-9223372036854775808)) (.var 2)) (.b2 .le (.var 2) (.lit (9223372036854775807)))), (.tup (.cons (.agg (.cons (.int .i64 (.iapp 8 (.cons (.int .i64 (.var 0)) (.cons (.int .i64 (.var 1)) (.cons (.slv 0) (.cons (.int .i64 (.var 2)) .nil)))))) (.cons (.int .i64 (.iapp 9 (.cons (.int .i64 (.var 0)) (.cons (.int .i64 (.var 1)) (.cons (.slv 0) (.cons (.int .i64 (.var 2)) .nil)))))) (.cons (.int .i64 (.iapp 10 (.cons (.int .i64 (.var 0)) (.cons (.int .i64 (.var 1)) (.cons (.slv 0) (.cons (.int .i64 (.var 2)) .nil)))))) .nil)))) (.cons (.err (.iapp 7 (.cons (.int .i64 (.var 0)) (.cons (.int .i64 (.var 1)) (.cons (.slv 0) (.cons (.int .i64 (.var 2)) .nil)))))) .nil))), [[.int .i64]]⟩
theorem x9cg_lutc (iv : List Int) (bv : List Bool) (vv : List Value) (sv : List ByteArray) (sls : Nat → Slc) (W : World) : x9cc_lutc.Good Tryd.prog (x9cE iv bv vv sv sls) W := by
  intro iv bv vv sv sls β hc w hb hsl
  have hs0 := hsl 0 _ rfl
  exact lutc (iv.getD 0 0) (iv.getD 1 0) (sls 0) (iv.getD 2 0) hs0.1.symm hc w hs0
abbrev x9cc_rutc : Con := ⟨26, [(.agg (.cons (.int .i64 (.var 0)) (.cons (.int .i64 (.var 1)) (.cons (.sl 0) .nil)))), (.int .i64 (.var 2))], (.b2 .and (.b2 .le (.slen 0) (.lit (9223372036854775807))) (.b2 .and (.b2 .le (.lit (-9223372036854775808)) (.var 2)) (.b2 .le (.var 2) (.lit (9223372036854775807))))), (.tup (.cons (.agg (.cons (.int .i64 (.iapp 8 (.cons (.int .i64 (.var 0)) (.cons (.int .i64 (.var 1)) (.cons (.slv 0) (.cons (.int .i64 (.var 2)) .nil)))))) (.cons (.int .i64 (.iapp 9 (.cons (.int .i64 (.var 0)) (.cons (.int .i64 (.var 1)) (.cons (.slv 0) (.cons (.int .i64 (.var 2)) .nil)))))) (.cons (.int .i64 (.iapp 10 (.cons (.int .i64 (.var 0)) (.cons (.int .i64 (.var 1)) (.cons (.slv 0) (.cons (.int .i64 (.var 2)) .nil)))))) .nil)))) (.cons (.int .i64 (.iapp 7 (.cons (.int .i64 (.var 0)) (.cons (.int .i64 (.var 1)) (.cons (.slv 0) (.cons (.int .i64 (.var 2)) .nil)))))) .nil))), [[.int .i64]]⟩
theorem x9cg_rutc (iv : List Int) (bv : List Bool) (vv : List Value) (sv : List ByteArray) (sls : Nat → Slc) (W : World) : x9cc_rutc.Good Tryd.prog (x9cE iv bv vv sv sls) W := by
  intro iv bv vv sv sls β hc w hb hsl
  have hs0 := hsl 0 _ rfl
  exact rutc (iv.getD 0 0) (iv.getD 1 0) (sls 0) (iv.getD 2 0) hs0.1.symm (by simp only [Sx.holds, denI] at hc; omega) hc.2 w hs0
def ltai_tree : Tree :=
 (.br (.not (.b2 .eq (.iapp 0 (.cons (.int .i64 (.var 0)) (.cons (.int .i64 (.var 1)) (.cons (.slv 0) .nil)))) (.lit (0))))
 (.ret (.tup (.cons (.int .i64 (.lit (0))) (.cons (.iface 108 (.int .i64 (.lit (1)))) .nil))))
 (.br (.b2 .lt (.var 4) (.lit (0)))
 (.ret (.tup (.cons (.int .i64 (.lit (0))) (.cons (.iface 108 (.int .i64 (.lit (1)))) .nil))))
 (.br (.b2 .le (.lit (1000000000)) (.var 4))
 (.ret (.tup (.cons (.int .i64 (.lit (0))) (.cons (.iface 108 (.int .i64 (.lit (1)))) .nil))))
 (.br (.b2 .lt (.var 3) (.lit (0)))
 (.ret (.tup (.cons (.int .i64 (.lit (0))) (.cons (.iface 108 (.int .i64 (.lit (1)))) .nil))))
 (.br (.not (.b2 .eq (.iapp 2 (.cons (.int .i64 (.var 0)) (.cons (.int .i64 (.var 1)) (.cons (.slv 0) (.cons (.int .i64 (.var 2)) .nil))))) (.lit (0))))
 (.ret (.tup (.cons (.int .i64 (.lit (0))) (.cons (.err (.iapp 2 (.cons (.int .i64 (.var 0)) (.cons (.int .i64 (.var 1)) (.cons (.slv 0) (.cons (.int .i64 (.var 2)) .nil)))))) .nil))))
 (.br (.b2 .le (.iapp 5 (.cons (.int .i64 (.var 0)) (.cons (.int .i64 (.var 1)) (.cons (.slv 0) (.cons (.int .i64 (.var 2)) .nil))))) (.var 3))
 (.ret (.tup (.cons (.int .i64 (.lit (0))) (.cons (.iface 108 (.int .i64 (.lit (1)))) .nil))))
 (.need (.b2 .and (.b2 .le (.lit (0)) (.var 0)) (.b2 .and (.b2 .le (.var 0) (.lit (100))) (.b2 .and (.b2 .le (.slen 0) (.lit (32))) (.b2 .and (.b2 .le (.lit (-100000)) (.var 2)) (.b2 .le (.var 2) (.lit (100000)))))))
 (.ret (.tup (.cons (.int .i64 (.wrap .i64 (.i2 .add (.wrap .i64 (.i2 .add (.i2 .mul (.iapp 3 (.cons (.int .i64 (.var 0)) (.cons (.slv 0) (.cons (.int .i64 (.var 2)) .nil)))) (.lit (1000000000))) (.wrap .i64 (.i2 .mul (.var 3) (.lit (1000000000)))))) (.var 4)))) (.cons (.cst .nilI) .nil)))))))))))
theorem ltai_w : walk Tryd.prog 108 ⟨[x9cc_check, x9cc_LLength, x9cc_begin], [[.int .i64]]⟩ [] 27 [(.agg (.cons (.int .i64 (.var 0)) (.cons (.int .i64 (.var 1)) (.cons (.sl 0) .nil)))), (.agg (.cons (.int .i64 (.var 2)) (.cons (.int .i64 (.var 3)) (.cons (.int .i64 (.var 4)) .nil))))] ⟨5, 0, 0, 0⟩ 2000 = some ltai_tree := by kernel_rfl
set_option maxHeartbeats 4000000 in
theorem ltai_h (b : Int) (t : Int) (l : Slc) (d : Int) (s : Int) (n : Int) (e0 : l.esz = 1) (hd : InR d) (hs : InR s) (hn : InR n) : ltai_tree.holds (fun v => v = .tuple #[.int .i64 (taiV b t (intsOf l.all) d s n), errVal 108 (taiE b t (intsOf l.all) d s n)]) (x9cE [b, t, d, s, n] [] [] [] (slsOf [l])) := by
  unfold ltai_tree
  simp only [Tree.holds, Sx.holds, denV, denI, denB, denL, I2.den, x9cI, x9cB, x9cV, List.getD_cons_zero, List.getD_cons_succ, Cst.den, slsOf_zero, slsOf_one, B2.ofInts, B2.denI, B2.denB, if_true, Bool.false_eq_true, if_false]
  have f1 := taiE_spec b t (intsOf l.all) d s n
  have f2 := taiV_spec b t (intsOf l.all) d s n
  have f3 := wrongI_spec b t (intsOf l.all) d
  have f4 := day_spec b t (intsOf l.all) d
  have f5 := secL_spec b (intsOf l.all) d
  have f6 := secL_spec b (intsOf l.all) (d + 1)
  have hlen := ints_len l e0
  have f7 : (mayL b t (intsOf l.all) = false ∧ mayI b t (intsOf l.all) = 1) ∨ (mayL b t (intsOf l.all) = true ∧ mayI b t (intsOf l.all) = 0) := by rcases mayI_spec b t (intsOf l.all) with ⟨x, y⟩ | ⟨x, y, _⟩ <;> simp [x, y]
  rcases f7 with ⟨a1, a2⟩ | ⟨a1, a2⟩ <;> simp only [a1, a2, true_or, false_or, Bool.false_eq_true, Bool.true_eq_false, true_and, false_and, or_false, reduceCtorEq] at f1 f3
  all_goals
    refine ⟨fun h0 => ?_, fun h0 => ?_⟩
    ·
      first
      | (exfalso; omega)
      | (simp only [Value.tuple.injEq, Value.agg.injEq, Value.int.injEq, Value.bool.injEq, Array.mk.injEq, List.cons.injEq, true_and, and_true]; exact ⟨by omega, by first | omega | exact errV1 (by omega) | exact errV0 (by omega) | exact errV2 (by omega) | exact errV10 (by omega) | (exfalso; omega) | (refine congrArg (errVal _) ?_; omega)⟩)
    ·
      refine ⟨fun h1 => ?_, fun h1 => ?_⟩
      ·
        first
        | (exfalso; omega)
        | (simp only [Value.tuple.injEq, Value.agg.injEq, Value.int.injEq, Value.bool.injEq, Array.mk.injEq, List.cons.injEq, true_and, and_true]; exact ⟨by omega, by first | omega | exact errV1 (by omega) | exact errV0 (by omega) | exact errV2 (by omega) | exact errV10 (by omega) | (exfalso; omega) | (refine congrArg (errVal _) ?_; omega)⟩)
      ·
        refine ⟨fun h2 => ?_, fun h2 => ?_⟩
        ·
          first
          | (exfalso; omega)
          | (simp only [Value.tuple.injEq, Value.agg.injEq, Value.int.injEq, Value.bool.injEq, Array.mk.injEq, List.cons.injEq, true_and, and_true]; exact ⟨by omega, by first | omega | exact errV1 (by omega) | exact errV0 (by omega) | exact errV2 (by omega) | exact errV10 (by omega) | (exfalso; omega) | (refine congrArg (errVal _) ?_; omega)⟩)
        ·
          refine ⟨fun h3 => ?_, fun h3 => ?_⟩
          ·
            first
            | (exfalso; omega)
            | (simp only [Value.tuple.injEq, Value.agg.injEq, Value.int.injEq, Value.bool.injEq, Array.mk.injEq, List.cons.injEq, true_and, and_true]; exact ⟨by omega, by first | omega | exact errV1 (by omega) | exact errV0 (by omega) | exact errV2 (by omega) | exact errV10 (by omega) | (exfalso; omega) | (refine congrArg (errVal _) ?_; omega)⟩)
          ·
            refine ⟨fun h4 => ?_, fun h4 => ?_⟩
            ·
              first
              | (exfalso; omega)
              | (simp only [Value.tuple.injEq, Value.agg.injEq, Value.int.injEq, Value.bool.injEq, Array.mk.injEq, List.cons.injEq, true_and, and_true]; exact ⟨by omega, by first | omega | exact errV1 (by omega) | exact errV0 (by omega) | exact errV2 (by omega) | exact errV10 (by omega) | (exfalso; omega) | (refine congrArg (errVal _) ?_; omega)⟩)
            ·
              refine ⟨fun h5 => ?_, fun h5 => ?_⟩
              ·
                first
                | (exfalso; omega)
                | (simp only [Value.tuple.injEq, Value.agg.injEq, Value.int.injEq, Value.bool.injEq, Array.mk.injEq, List.cons.injEq, true_and, and_true]; exact ⟨by omega, by first | omega | exact errV1 (by omega) | exact errV0 (by omega) | exact errV2 (by omega) | exact errV10 (by omega) | (exfalso; omega) | (refine congrArg (errVal _) ?_; omega)⟩)
              ·
                refine ⟨?_, fun h6 => ?_⟩
                ·
                  omega
                ·
                  have wf0 := wr_i64 (s * 1000000000)
                  have wf1 := wr_i64 (((secL b (intsOf l.all) d) * 1000000000) + (IntKind.wrap .i64 (s * 1000000000)))
                  have wf2 := wr_i64 ((IntKind.wrap .i64 (((secL b (intsOf l.all) d) * 1000000000) + (IntKind.wrap .i64 (s * 1000000000)))) + n)
                  first
                  | (exfalso; omega)
                  | (simp only [Value.tuple.injEq, Value.agg.injEq, Value.int.injEq, Value.bool.injEq, Array.mk.injEq, List.cons.injEq, true_and, and_true]; exact ⟨by omega, by first | omega | exact errV1 (by omega) | exact errV0 (by omega) | exact errV2 (by omega) | exact errV10 (by omega) | (exfalso; omega) | (refine congrArg (errVal _) ?_; omega)⟩)
theorem ltai (b : Int) (t : Int) (l : Slc) (d : Int) (s : Int) (n : Int) (e0 : l.esz = 1) (hd : InR d) (hs : InR s) (hn : InR n) (w : World) (hs0 : SlOk w l [.int .i64]) : Calls Tryd.prog 27 #[.agg #[.int .i64 b, .int .i64 t, l.val], .agg #[.int .i64 d, .int .i64 s, .int .i64 n]] w fun e w' => e = .returned (.tuple #[.int .i64 (taiV b t (intsOf l.all) d s n), errVal 108 (taiE b t (intsOf l.all) d s n)]) ∧ Below w.heap.size w w' := by
  have h := calls_by (n := ⟨5, 0, 0, 0⟩) (x9cE [b, t, d, s, n] [] [] [] (slsOf [l])) (vs := [.agg #[.int .i64 b, .int .i64 t, l.val], .agg #[.int .i64 d, .int .i64 s, .int .i64 n]]) (W := w) x9cm ltai_w rfl ⟨rfl, rfl, rfl, rfl⟩ ⟨(good_cons (x9cg_check _ _ _ _ _ _) (good_cons (x9cg_LLength _ _ _ _ _ _) (good_cons (x9cg_begin _ _ _ _ _ _) good_nil))), (slsOk_cons hs0 slsOk_nil)⟩ (ltai_h b t l d s n e0 hd hs hn) rfl
  exact calls_eq h
abbrev x9cc_ltai : Con := ⟨27, [(.agg (.cons (.int .i64 (.var 0)) (.cons (.int .i64 (.var 1)) (.cons (.sl 0) .nil)))), (.agg (.cons (.int .i64 (.var 2)) (.cons (.int .i64 (.var 3)) (.cons (.int .i64 (.var 4)) .nil))))], (.b2 .and (.b2 .and (.b2 .le (.lit (-9223372036854775808)) (.var 2)) (.b2 .le (.var 2) (.lit (9223372036854775807)))) (.b2 .and (.b2 .and (.b2 .le (.lit (-9223372036854775808)) (.var 3)) (.b2 .le (.var 3) (.lit (9223372036854775807)))) (.b2 .and (.b2 .le (.lit (-9223372036854775808)) (.var 4)) (.b2 .le (.var 4) (.lit (9223372036854775807)))))), (.tup (.cons (.int .i64 (.iapp 12 (.cons (.int .i64 (.var 0)) (.cons (.int .i64 (.var 1)) (.cons (.slv 0) (.cons (.int .i64 (.var 2)) (.cons (.int .i64 (.var 3)) (.cons (.int .i64 (.var 4)) .nil)))))))) (.cons (.err (.iapp 11 (.cons (.int .i64 (.var 0)) (.cons (.int .i64 (.var 1)) (.cons (.slv 0) (.cons (.int .i64 (.var 2)) (.cons (.int .i64 (.var 3)) (.cons (.int .i64 (.var 4)) .nil)))))))) .nil))), [[.int .i64]]⟩
theorem x9cg_ltai (iv : List Int) (bv : List Bool) (vv : List Value) (sv : List ByteArray) (sls : Nat → Slc) (W : World) : x9cc_ltai.Good Tryd.prog (x9cE iv bv vv sv sls) W := by
  intro iv bv vv sv sls β hc w hb hsl
  have hs0 := hsl 0 _ rfl
  exact ltai (iv.getD 0 0) (iv.getD 1 0) (sls 0) (iv.getD 2 0) (iv.getD 3 0) (iv.getD 4 0) hs0.1.symm hc.1 hc.2.1 hc.2.2 w hs0
def rtai_tree : Tree :=
 (.need (.b2 .le (.slen 0) (.lit (9223372036854775807)))
 (.br (.not (.b2 .eq (.iapp 0 (.cons (.int .i64 (.var 0)) (.cons (.int .i64 (.var 1)) (.cons (.slv 0) .nil)))) (.lit (0))))
 (.ret (.tup (.cons (.int .i64 (.lit (0))) (.cons (.int .i64 (.lit (1))) .nil))))
 (.br (.b2 .lt (.var 4) (.lit (0)))
 (.ret (.tup (.cons (.int .i64 (.lit (0))) (.cons (.int .i64 (.lit (1))) .nil))))
 (.br (.b2 .lt (.lit (999999999)) (.var 4))
 (.ret (.tup (.cons (.int .i64 (.lit (0))) (.cons (.int .i64 (.lit (1))) .nil))))
 (.br (.b2 .lt (.var 3) (.lit (0)))
 (.ret (.tup (.cons (.int .i64 (.lit (0))) (.cons (.int .i64 (.lit (1))) .nil))))
 (.need (.b2 .le (.slen 0) (.lit (9223372036854775807)))
 (.br (.not (.b2 .eq (.iapp 2 (.cons (.int .i64 (.var 0)) (.cons (.int .i64 (.var 1)) (.cons (.slv 0) (.cons (.int .i64 (.var 2)) .nil))))) (.lit (0))))
 (.ret (.tup (.cons (.int .i64 (.lit (0))) (.cons (.int .i64 (.iapp 2 (.cons (.int .i64 (.var 0)) (.cons (.int .i64 (.var 1)) (.cons (.slv 0) (.cons (.int .i64 (.var 2)) .nil)))))) .nil))))
 (.need (.b2 .and (.b2 .le (.lit (0)) (.var 0)) (.b2 .and (.b2 .le (.var 0) (.lit (100))) (.b2 .and (.b2 .le (.slen 0) (.lit (32))) (.b2 .and (.b2 .le (.lit (-100000)) (.wrap .i64 (.i2 .add (.var 2) (.lit (1))))) (.b2 .le (.wrap .i64 (.i2 .add (.var 2) (.lit (1)))) (.lit (100000)))))))
 (.need (.b2 .and (.b2 .le (.lit (0)) (.var 0)) (.b2 .and (.b2 .le (.var 0) (.lit (100))) (.b2 .and (.b2 .le (.slen 0) (.lit (32))) (.b2 .and (.b2 .le (.lit (-100000)) (.var 2)) (.b2 .le (.var 2) (.lit (100000)))))))
 (.br (.b2 .le (.wrap .i64 (.i2 .sub (.iapp 3 (.cons (.int .i64 (.var 0)) (.cons (.slv 0) (.cons (.int .i64 (.wrap .i64 (.i2 .add (.var 2) (.lit (1))))) .nil)))) (.iapp 3 (.cons (.int .i64 (.var 0)) (.cons (.slv 0) (.cons (.int .i64 (.var 2)) .nil)))))) (.var 3))
 (.ret (.tup (.cons (.int .i64 (.lit (0))) (.cons (.int .i64 (.lit (1))) .nil))))
 (.need (.b2 .and (.b2 .le (.lit (0)) (.var 0)) (.b2 .and (.b2 .le (.var 0) (.lit (100))) (.b2 .and (.b2 .le (.slen 0) (.lit (32))) (.b2 .and (.b2 .le (.lit (-100000)) (.var 2)) (.b2 .le (.var 2) (.lit (100000)))))))
 (.ret (.tup (.cons (.int .i64 (.wrap .i64 (.i2 .add (.wrap .i64 (.i2 .mul (.wrap .i64 (.i2 .add (.iapp 3 (.cons (.int .i64 (.var 0)) (.cons (.slv 0) (.cons (.int .i64 (.var 2)) .nil)))) (.var 3))) (.lit (1000000000)))) (.var 4)))) (.cons (.int .i64 (.lit (0))) .nil)))))))))))))))
theorem rtai_w : walk Tryd.prog 108 ⟨[x9cc_rmay, x9cc_rwrong, x9cc_rsec], [[.int .i64]]⟩ [] 28 [(.agg (.cons (.int .i64 (.var 0)) (.cons (.int .i64 (.var 1)) (.cons (.sl 0) .nil)))), (.agg (.cons (.int .i64 (.var 2)) (.cons (.int .i64 (.var 3)) (.cons (.int .i64 (.var 4)) .nil))))] ⟨5, 0, 0, 0⟩ 2000 = some rtai_tree := by kernel_rfl
set_option maxHeartbeats 4000000 in
theorem rtai_h (b : Int) (t : Int) (l : Slc) (d : Int) (s : Int) (n : Int) (e0 : l.esz = 1) (hd : InR d) (hs : InR s) (hn : InR n) (hl : l.len ≤ 9223372036854775807) : rtai_tree.holds (fun v => v = .tuple #[.int .i64 (taiV b t (intsOf l.all) d s n), .int .i64 (taiE b t (intsOf l.all) d s n)]) (x9cE [b, t, d, s, n] [] [] [] (slsOf [l])) := by
  unfold rtai_tree
  simp only [Tree.holds, Sx.holds, denV, denI, denB, denL, I2.den, x9cI, x9cB, x9cV, List.getD_cons_zero, List.getD_cons_succ, Cst.den, slsOf_zero, slsOf_one, B2.ofInts, B2.denI, B2.denB, if_true, Bool.false_eq_true, if_false]
  have f1 := taiE_spec b t (intsOf l.all) d s n
  have f2 := taiV_spec b t (intsOf l.all) d s n
  have f3 := wrongI_spec b t (intsOf l.all) d
  have f4 := day_spec b t (intsOf l.all) d
  have f5 := secL_spec b (intsOf l.all) d
  have f6 := secL_spec b (intsOf l.all) (d + 1)
  have hlen := ints_len l e0
  have f7 : (mayL b t (intsOf l.all) = false ∧ mayI b t (intsOf l.all) = 1) ∨ (mayL b t (intsOf l.all) = true ∧ mayI b t (intsOf l.all) = 0) := by rcases mayI_spec b t (intsOf l.all) with ⟨x, y⟩ | ⟨x, y, _⟩ <;> simp [x, y]
  rcases f7 with ⟨a1, a2⟩ | ⟨a1, a2⟩ <;> simp only [a1, a2, true_or, false_or, Bool.false_eq_true, Bool.true_eq_false, true_and, false_and, or_false, reduceCtorEq] at f1 f3
  all_goals
    refine ⟨?_, fun h0 => ?_⟩
    ·
      omega
    ·
      refine ⟨fun h1 => ?_, fun h1 => ?_⟩
      ·
        try (have hw : IntKind.wrap .i64 (d + 1) = d + 1 := by omega
             simp only [hw] at *)
        first
        | (exfalso; omega)
        | (simp only [Value.tuple.injEq, Value.agg.injEq, Value.int.injEq, Value.bool.injEq, Array.mk.injEq, List.cons.injEq, true_and, and_true]; exact ⟨by omega, by first | omega | exact errV1 (by omega) | exact errV0 (by omega) | exact errV2 (by omega) | exact errV10 (by omega) | (exfalso; omega) | (refine congrArg (errVal _) ?_; omega)⟩)
      ·
        refine ⟨fun h2 => ?_, fun h2 => ?_⟩
        ·
          try (have hw : IntKind.wrap .i64 (d + 1) = d + 1 := by omega
               simp only [hw] at *)
          first
          | (exfalso; omega)
          | (simp only [Value.tuple.injEq, Value.agg.injEq, Value.int.injEq, Value.bool.injEq, Array.mk.injEq, List.cons.injEq, true_and, and_true]; exact ⟨by omega, by first | omega | exact errV1 (by omega) | exact errV0 (by omega) | exact errV2 (by omega) | exact errV10 (by omega) | (exfalso; omega) | (refine congrArg (errVal _) ?_; omega)⟩)
        ·
          refine ⟨fun h3 => ?_, fun h3 => ?_⟩
          ·
            try (have hw : IntKind.wrap .i64 (d + 1) = d + 1 := by omega
                 simp only [hw] at *)
            first
            | (exfalso; omega)
            | (simp only [Value.tuple.injEq, Value.agg.injEq, Value.int.injEq, Value.bool.injEq, Array.mk.injEq, List.cons.injEq, true_and, and_true]; exact ⟨by omega, by first | omega | exact errV1 (by omega) | exact errV0 (by omega) | exact errV2 (by omega) | exact errV10 (by omega) | (exfalso; omega) | (refine congrArg (errVal _) ?_; omega)⟩)
          ·
            refine ⟨fun h4 => ?_, fun h4 => ?_⟩
            ·
              try (have hw : IntKind.wrap .i64 (d + 1) = d + 1 := by omega
                   simp only [hw] at *)
              first
              | (exfalso; omega)
              | (simp only [Value.tuple.injEq, Value.agg.injEq, Value.int.injEq, Value.bool.injEq, Array.mk.injEq, List.cons.injEq, true_and, and_true]; exact ⟨by omega, by first | omega | exact errV1 (by omega) | exact errV0 (by omega) | exact errV2 (by omega) | exact errV10 (by omega) | (exfalso; omega) | (refine congrArg (errVal _) ?_; omega)⟩)
            ·
              refine ⟨?_, fun h5 => ?_⟩
              ·
                omega
              ·
                refine ⟨fun h6 => ?_, fun h6 => ?_⟩
                ·
                  try (have hw : IntKind.wrap .i64 (d + 1) = d + 1 := by omega
                       simp only [hw] at *)
                  first
                  | (exfalso; omega)
                  | (simp only [Value.tuple.injEq, Value.agg.injEq, Value.int.injEq, Value.bool.injEq, Array.mk.injEq, List.cons.injEq, true_and, and_true]; exact ⟨by omega, by first | omega | exact errV1 (by omega) | exact errV0 (by omega) | exact errV2 (by omega) | exact errV10 (by omega) | (exfalso; omega) | (refine congrArg (errVal _) ?_; omega)⟩)
                ·
                  have wf0 := wr_i64 (d + 1)
                  refine ⟨?_, fun h7 => ?_⟩
                  ·
                    omega
                  ·
                    refine ⟨?_, fun h8 => ?_⟩
                    ·
                      omega
                    ·
                      have wf1 := wr_i64 ((secL b (intsOf l.all) (IntKind.wrap .i64 (d + 1))) - (secL b (intsOf l.all) d))
                      try simp only [hw0]
                      refine ⟨fun h9 => ?_, fun h9 => ?_⟩
                      ·
                        try (have hw : IntKind.wrap .i64 (d + 1) = d + 1 := by omega
                             simp only [hw] at *)
                        first
                        | (exfalso; omega)
                        | (simp only [Value.tuple.injEq, Value.agg.injEq, Value.int.injEq, Value.bool.injEq, Array.mk.injEq, List.cons.injEq, true_and, and_true]; exact ⟨by omega, by first | omega | exact errV1 (by omega) | exact errV0 (by omega) | exact errV2 (by omega) | exact errV10 (by omega) | (exfalso; omega) | (refine congrArg (errVal _) ?_; omega)⟩)
                      ·
                        refine ⟨?_, fun h10 => ?_⟩
                        ·
                          omega
                        ·
                          have wf2 := wr_i64 ((secL b (intsOf l.all) d) + s)
                          have wf3 := wr_i64 ((IntKind.wrap .i64 ((secL b (intsOf l.all) d) + s)) * 1000000000)
                          have wf4 := wr_i64 ((IntKind.wrap .i64 ((IntKind.wrap .i64 ((secL b (intsOf l.all) d) + s)) * 1000000000)) + n)
                          try (have hw : IntKind.wrap .i64 (d + 1) = d + 1 := by omega
                               simp only [hw] at *)
                          first
                          | (exfalso; omega)
                          | (simp only [Value.tuple.injEq, Value.agg.injEq, Value.int.injEq, Value.bool.injEq, Array.mk.injEq, List.cons.injEq, true_and, and_true]; exact ⟨by omega, by first | omega | exact errV1 (by omega) | exact errV0 (by omega) | exact errV2 (by omega) | exact errV10 (by omega) | (exfalso; omega) | (refine congrArg (errVal _) ?_; omega)⟩)
theorem rtai (b : Int) (t : Int) (l : Slc) (d : Int) (s : Int) (n : Int) (e0 : l.esz = 1) (hd : InR d) (hs : InR s) (hn : InR n) (hl : l.len ≤ 9223372036854775807) (w : World) (hs0 : SlOk w l [.int .i64]) : Calls Tryd.prog 28 #[.agg #[.int .i64 b, .int .i64 t, l.val], .agg #[.int .i64 d, .int .i64 s, .int .i64 n]] w fun e w' => e = .returned (.tuple #[.int .i64 (taiV b t (intsOf l.all) d s n), .int .i64 (taiE b t (intsOf l.all) d s n)]) ∧ Below w.heap.size w w' := by
  have h := calls_by (n := ⟨5, 0, 0, 0⟩) (x9cE [b, t, d, s, n] [] [] [] (slsOf [l])) (vs := [.agg #[.int .i64 b, .int .i64 t, l.val], .agg #[.int .i64 d, .int .i64 s, .int .i64 n]]) (W := w) x9cm rtai_w rfl ⟨rfl, rfl, rfl, rfl⟩ ⟨(good_cons (x9cg_rmay _ _ _ _ _ _) (good_cons (x9cg_rwrong _ _ _ _ _ _) (good_cons (x9cg_rsec _ _ _ _ _ _) good_nil))), (slsOk_cons hs0 slsOk_nil)⟩ (rtai_h b t l d s n e0 hd hs hn hl) rfl
  exact calls_eq h
abbrev x9cc_rtai : Con := ⟨28, [(.agg (.cons (.int .i64 (.var 0)) (.cons (.int .i64 (.var 1)) (.cons (.sl 0) .nil)))), (.agg (.cons (.int .i64 (.var 2)) (.cons (.int .i64 (.var 3)) (.cons (.int .i64 (.var 4)) .nil))))], (.b2 .and (.b2 .le (.slen 0) (.lit (9223372036854775807))) (.b2 .and (.b2 .and (.b2 .le (.lit (-9223372036854775808)) (.var 2)) (.b2 .le (.var 2) (.lit (9223372036854775807)))) (.b2 .and (.b2 .and (.b2 .le (.lit (-9223372036854775808)) (.var 3)) (.b2 .le (.var 3) (.lit (9223372036854775807)))) (.b2 .and (.b2 .le (.lit (-9223372036854775808)) (.var 4)) (.b2 .le (.var 4) (.lit (9223372036854775807))))))), (.tup (.cons (.int .i64 (.iapp 12 (.cons (.int .i64 (.var 0)) (.cons (.int .i64 (.var 1)) (.cons (.slv 0) (.cons (.int .i64 (.var 2)) (.cons (.int .i64 (.var 3)) (.cons (.int .i64 (.var 4)) .nil)))))))) (.cons (.int .i64 (.iapp 11 (.cons (.int .i64 (.var 0)) (.cons (.int .i64 (.var 1)) (.cons (.slv 0) (.cons (.int .i64 (.var 2)) (.cons (.int .i64 (.var 3)) (.cons (.int .i64 (.var 4)) .nil)))))))) .nil))), [[.int .i64]]⟩
theorem x9cg_rtai (iv : List Int) (bv : List Bool) (vv : List Value) (sv : List ByteArray) (sls : Nat → Slc) (W : World) : x9cc_rtai.Good Tryd.prog (x9cE iv bv vv sv sls) W := by
  intro iv bv vv sv sls β hc w hb hsl
  have hs0 := hsl 0 _ rfl
  exact rtai (iv.getD 0 0) (iv.getD 1 0) (sls 0) (iv.getD 2 0) (iv.getD 3 0) (iv.getD 4 0) hs0.1.symm hc.2.1 hc.2.2.1 hc.2.2.2 (by simp only [Sx.holds, denI] at hc; omega) w hs0
def istable_tree : Tree :=
 (.br (.not (.b2 .eq (.var 0) (.var 2)))
 (.ret (.bool (.tt false)))
 (.br (.not (.b2 .eq (.var 1) (.var 3)))
 (.ret (.bool (.tt false)))
 (.br (.not (.b2 .eq (.slen 0) (.slen 1)))
 (.ret (.bool (.tt false)))
 (.loop ⟨1, 0, 0, 0⟩ (.b2 .and (.b2 .le (.lit (0)) (.lit (0))) (.b2 .and (.b2 .le (.lit (0)) (.slen 0)) (.bapp 2 (.cons (.slv 0) (.cons (.slv 1) (.cons (.int .i64 (.lit (0))) .nil)))))) (.b2 .and (.b2 .le (.lit (0)) (.var 4)) (.b2 .and (.b2 .le (.var 4) (.slen 0)) (.bapp 2 (.cons (.slv 0) (.cons (.slv 1) (.cons (.int .i64 (.var 4)) .nil))))))
 (.br (.b2 .lt (.var 4) (.slen 0))
 (.need (.b2 .and (.b2 .le (.lit (0)) (.var 4)) (.b2 .lt (.var 4) (.slen 0)))
 (.need (.b2 .and (.b2 .le (.lit (0)) (.var 4)) (.b2 .lt (.var 4) (.slen 0)))
 (.need (.b2 .and (.b2 .le (.lit (0)) (.var 4)) (.b2 .lt (.var 4) (.slen 1)))
 (.need (.b2 .and (.b2 .le (.lit (0)) (.var 4)) (.b2 .lt (.var 4) (.slen 1)))
 (.br (.not (.b2 .eq (.sel 0 (.var 4) 0) (.sel 1 (.var 4) 0)))
 (.ret (.bool (.tt false)))
 (.back (.b2 .and (.b2 .le (.lit (0)) (.wrap .i64 (.i2 .add (.var 4) (.lit (1))))) (.b2 .and (.b2 .le (.wrap .i64 (.i2 .add (.var 4) (.lit (1)))) (.slen 0)) (.bapp 2 (.cons (.slv 0) (.cons (.slv 1) (.cons (.int .i64 (.wrap .i64 (.i2 .add (.var 4) (.lit (1))))) .nil)))))) (.i2 .sub (.slen 0) (.wrap .i64 (.i2 .add (.var 4) (.lit (1))))) (.i2 .sub (.slen 0) (.var 4))))))))
 (.ret (.bool (.tt true))))))))
theorem istable_w : walk Tryd.prog 108 ⟨[], [[.int .i64], [.int .i64]]⟩ [⟨0, ⟨1, 0, 0, 0⟩, [(5, (.int .i64 (.var 4)))], none, (.b2 .and (.b2 .le (.lit (0)) (.var 4)) (.b2 .and (.b2 .le (.var 4) (.slen 0)) (.bapp 2 (.cons (.slv 0) (.cons (.slv 1) (.cons (.int .i64 (.var 4)) .nil)))))), (.i2 .sub (.slen 0) (.var 4))⟩] 23 [(.agg (.cons (.int .i64 (.var 0)) (.cons (.int .i64 (.var 1)) (.cons (.sl 0) .nil)))), (.agg (.cons (.int .i64 (.var 2)) (.cons (.int .i64 (.var 3)) (.cons (.sl 1) .nil))))] ⟨4, 0, 0, 0⟩ 2000 = some istable_tree := by kernel_rfl
theorem istable_h (b : Int) (t : Int) (l : Slc) (c : Int) (s : Int) (k : Slc) (e0 : l.esz = 1) (e1 : k.esz = 1) (hl : l.len ≤ 9223372036854775807) : istable_tree.holds (fun v => v = .bool (decide (b = c ∧ t = s ∧ intsOf l.all = intsOf k.all))) (x9cE [b, t, c, s] [] [] [] (slsOf [l, k])) := by
  unfold istable_tree
  simp only [AllN, Env.more, x9cE, List.cons_append, List.nil_append, List.append_nil, Tree.holds, Sx.holds, denV, denI, denB, denL, I2.den, x9cI, x9cB, x9cV, List.getD_cons_zero, List.getD_cons_succ, Cst.den, slsOf_zero, slsOf_one, B2.ofInts, B2.denI, B2.denB, if_true, Bool.false_eq_true, if_false]
  refine ⟨fun h0 => ?_, fun h0 => ?_⟩
  ·
    first
    | (refine congrArg Value.bool (decide_eq_false ?_).symm
       rintro ⟨x, y, z⟩
       first
       | omega
       | (have q := congrArg List.length z
          rw [ints_len l e0, ints_len k e1] at q
          omega)
       | (have q := ints_at l e0 (i := i0a.toNat) (by omega)
          rw [z, ints_at k e1 (i := i0a.toNat) (by omega)] at q
          have := Option.some.inj q
          omega))
    | (refine congrArg Value.bool (decide_eq_true ?_).symm
       have q1 := take_full (l := intsOf l.all) (i := i0a) (by rw [ints_len l e0]; omega)
       have q2 := take_full (l := intsOf k.all) (i := i0a) (by rw [ints_len k e1]; omega)
       exact ⟨by omega, by omega, by rw [← q1, ← q2]; exact r2⟩)
  ·
    refine ⟨fun h1 => ?_, fun h1 => ?_⟩
    ·
      first
      | (refine congrArg Value.bool (decide_eq_false ?_).symm
         rintro ⟨x, y, z⟩
         first
         | omega
         | (have q := congrArg List.length z
            rw [ints_len l e0, ints_len k e1] at q
            omega)
         | (have q := ints_at l e0 (i := i0a.toNat) (by omega)
            rw [z, ints_at k e1 (i := i0a.toNat) (by omega)] at q
            have := Option.some.inj q
            omega))
      | (refine congrArg Value.bool (decide_eq_true ?_).symm
         have q1 := take_full (l := intsOf l.all) (i := i0a) (by rw [ints_len l e0]; omega)
         have q2 := take_full (l := intsOf k.all) (i := i0a) (by rw [ints_len k e1]; omega)
         exact ⟨by omega, by omega, by rw [← q1, ← q2]; exact r2⟩)
    ·
      refine ⟨fun h2 => ?_, fun h2 => ?_⟩
      ·
        first
        | (refine congrArg Value.bool (decide_eq_false ?_).symm
           rintro ⟨x, y, z⟩
           first
           | omega
           | (have q := congrArg List.length z
              rw [ints_len l e0, ints_len k e1] at q
              omega)
           | (have q := ints_at l e0 (i := i0a.toNat) (by omega)
              rw [z, ints_at k e1 (i := i0a.toNat) (by omega)] at q
              have := Option.some.inj q
              omega))
        | (refine congrArg Value.bool (decide_eq_true ?_).symm
           have q1 := take_full (l := intsOf l.all) (i := i0a) (by rw [ints_len l e0]; omega)
           have q2 := take_full (l := intsOf k.all) (i := i0a) (by rw [ints_len k e1]; omega)
           exact ⟨by omega, by omega, by rw [← q1, ← q2]; exact r2⟩)
      ·
        refine ⟨?_, ?_⟩
        ·
          exact ⟨by omega, by omega, rfl⟩
        ·
          intro i0a hi0
          obtain ⟨r0, r1, r2⟩ := hi0
          replace r2 := of_decide_eq_true r2
          have wf0 := wr_i64 (i0a + 1)
          refine ⟨fun h3 => ?_, fun h3 => ?_⟩
          ·
            refine ⟨?_, fun h4 => ?_⟩
            ·
              omega
            ·
              refine ⟨?_, fun h5 => ?_⟩
              ·
                omega
              ·
                refine ⟨?_, fun h6 => ?_⟩
                ·
                  omega
                ·
                  refine ⟨?_, fun h7 => ?_⟩
                  ·
                    omega
                  ·
                    refine ⟨fun h8 => ?_, fun h8 => ?_⟩
                    ·
                      first
                      | (refine congrArg Value.bool (decide_eq_false ?_).symm
                         rintro ⟨x, y, z⟩
                         first
                         | omega
                         | (have q := congrArg List.length z
                            rw [ints_len l e0, ints_len k e1] at q
                            omega)
                         | (have q := ints_at l e0 (i := i0a.toNat) (by omega)
                            rw [z, ints_at k e1 (i := i0a.toNat) (by omega)] at q
                            have := Option.some.inj q
                            omega))
                      | (refine congrArg Value.bool (decide_eq_true ?_).symm
                         have q1 := take_full (l := intsOf l.all) (i := i0a) (by rw [ints_len l e0]; omega)
                         have q2 := take_full (l := intsOf k.all) (i := i0a) (by rw [ints_len k e1]; omega)
                         exact ⟨by omega, by omega, by rw [← q1, ← q2]; exact r2⟩)
                    ·
                      refine ⟨?_, ?_⟩
                      ·
                        have hw : IntKind.wrap .i64 (i0a + 1) = i0a + 1 := by omega
                        refine ⟨by omega, by omega, ?_⟩
                        rw [hw, toNat_succ (by omega), take_more (ints_at l e0 (i := i0a.toNat) (by omega)), take_more (ints_at k e1 (i := i0a.toNat) (by omega)), r2, show intOf (l.cont i0a.toNat 0) = intOf (k.cont i0a.toNat 0) by omega]
                        exact decide_eq_true rfl
                      ·
                        omega
          ·
            first
            | (refine congrArg Value.bool (decide_eq_false ?_).symm
               rintro ⟨x, y, z⟩
               first
               | omega
               | (have q := congrArg List.length z
                  rw [ints_len l e0, ints_len k e1] at q
                  omega)
               | (have q := ints_at l e0 (i := i0a.toNat) (by omega)
                  rw [z, ints_at k e1 (i := i0a.toNat) (by omega)] at q
                  have := Option.some.inj q
                  omega))
            | (refine congrArg Value.bool (decide_eq_true ?_).symm
               have q1 := take_full (l := intsOf l.all) (i := i0a) (by rw [ints_len l e0]; omega)
               have q2 := take_full (l := intsOf k.all) (i := i0a) (by rw [ints_len k e1]; omega)
               exact ⟨by omega, by omega, by rw [← q1, ← q2]; exact r2⟩)
theorem istable (b : Int) (t : Int) (l : Slc) (c : Int) (s : Int) (k : Slc) (e0 : l.esz = 1) (e1 : k.esz = 1) (hl : l.len ≤ 9223372036854775807) (w : World) (hs0 : SlOk w l [.int .i64]) (hs1 : SlOk w k [.int .i64]) : Calls Tryd.prog 23 #[.agg #[.int .i64 b, .int .i64 t, l.val], .agg #[.int .i64 c, .int .i64 s, k.val]] w fun e w' => e = .returned (.bool (decide (b = c ∧ t = s ∧ intsOf l.all = intsOf k.all))) ∧ Below w.heap.size w w' := by
  have h := calls_by (n := ⟨4, 0, 0, 0⟩) (x9cE [b, t, c, s] [] [] [] (slsOf [l, k])) (vs := [.agg #[.int .i64 b, .int .i64 t, l.val], .agg #[.int .i64 c, .int .i64 s, k.val]]) (W := w) x9cm istable_w rfl ⟨rfl, rfl, rfl, rfl⟩ ⟨good_nil, (slsOk_cons hs0 (slsOk_cons hs1 slsOk_nil))⟩ (istable_h b t l c s k e0 e1 hl) rfl
  exact calls_eq h
abbrev x9cc_isT : Con := ⟨23, [(.agg (.cons (.int .i64 (.var 0)) (.cons (.int .i64 (.var 1)) (.cons (.sl 0) .nil)))), (.agg (.cons (.int .i64 (.var 2)) (.cons (.int .i64 (.var 3)) (.cons (.sl 1) .nil))))], (.b2 .le (.slen 0) (.lit (9223372036854775807))), (.bool (.bapp 1 (.cons (.int .i64 (.var 0)) (.cons (.int .i64 (.var 1)) (.cons (.slv 0) (.cons (.int .i64 (.var 2)) (.cons (.int .i64 (.var 3)) (.cons (.slv 1) .nil)))))))), [[.int .i64], [.int .i64]]⟩
theorem x9cg_isT (iv : List Int) (bv : List Bool) (vv : List Value) (sv : List ByteArray) (sls : Nat → Slc) (W : World) : x9cc_isT.Good Tryd.prog (x9cE iv bv vv sv sls) W := by
  intro iv bv vv sv sls β hc w hb hsl
  have hs0 := hsl 0 _ rfl
  have hs1 := hsl 1 _ rfl
  exact istable (iv.getD 0 0) (iv.getD 1 0) (sls 0) (iv.getD 2 0) (iv.getD 3 0) (sls 1) hs0.1.symm hs1.1.symm (by simp only [Sx.holds, denI] at hc; omega) w hs0 hs1
theorem num09_anyx (n : Int) (w : World) (hg : w.cell? ⟨0, 0, none⟩ = some asHandle) : Calls Tryd.prog 22 #[errVal 108 n] w fun e w' => e = .returned (.int .i64 n) ∧ Below w.heap.size w w' := by
  unfold errVal
  split
  · rename_i h; subst h; exact num09_nil _
  · exact num09_err _ _ hg
abbrev x9cc_num : Con := ⟨22, [(.err (.var 0))], (.tt true), (.int .i64 (.var 0)), []⟩
theorem x9cg_num (iv : List Int) (bv : List Bool) (vv : List Value) (sv : List ByteArray) (sls : Nat → Slc) (W : World) (hg : W.cell? ⟨0, 0, none⟩ = some asHandle) : x9cc_num.Good Tryd.prog (x9cE iv bv vv sv sls) W := by
  intro iv bv vv sv sls β hc w hb hsl
  have hgw := handle_below hg hb (handle_lt hg)
  exact num09_anyx (iv.getD 0 0) w hgw
def sure09_tree : Tree :=
 (.need (.b2 .and (.b2 .le (.lit (-9223372036854775808)) (.wrap .i64 (.i2 .sub (.iapp 6 (.cons (.int .i64 (.lit (10))) (.cons (.int .i64 (.lit (20000))) (.cons (.tup (.cons (.int .i64 (.lit (911))) .nil)) (.cons (.int .i64 (.lit (912))) .nil))))) (.lit (1))))) (.b2 .le (.wrap .i64 (.i2 .sub (.iapp 6 (.cons (.int .i64 (.lit (10))) (.cons (.int .i64 (.lit (20000))) (.cons (.tup (.cons (.int .i64 (.lit (911))) .nil)) (.cons (.int .i64 (.lit (912))) .nil))))) (.lit (1)))) (.lit (9223372036854775807))))
 (.br (.b2 .eq (.iapp 2 (.cons (.int .i64 (.lit (10))) (.cons (.int .i64 (.lit (20000))) (.cons (.tup (.cons (.int .i64 (.lit (911))) .nil)) (.cons (.int .i64 (.lit (912))) .nil))))) (.lit (0)))
 (.br (.b2 .eq (.iapp 7 (.cons (.int .i64 (.lit (10))) (.cons (.int .i64 (.lit (20000))) (.cons (.tup (.cons (.int .i64 (.lit (911))) .nil)) (.cons (.int .i64 (.wrap .i64 (.i2 .sub (.iapp 6 (.cons (.int .i64 (.lit (10))) (.cons (.int .i64 (.lit (20000))) (.cons (.tup (.cons (.int .i64 (.lit (911))) .nil)) (.cons (.int .i64 (.lit (912))) .nil))))) (.lit (1))))) .nil))))) (.lit (0)))
 (.br (.b2 .eq (.iapp 2 (.cons (.int .i64 (.lit (10))) (.cons (.int .i64 (.lit (20000))) (.cons (.tup (.cons (.int .i64 (.lit (911))) .nil)) (.cons (.int .i64 (.lit (911))) .nil))))) (.lit (0)))
 (.br (.b2 .eq (.iapp 6 (.cons (.int .i64 (.lit (10))) (.cons (.int .i64 (.lit (20000))) (.cons (.tup (.cons (.int .i64 (.lit (911))) .nil)) (.cons (.int .i64 (.lit (912))) .nil))))) (.lit (78796811000000000)))
 (.br (.b2 .and (.b2 .eq (.iapp 8 (.cons (.int .i64 (.lit (10))) (.cons (.int .i64 (.lit (20000))) (.cons (.tup (.cons (.int .i64 (.lit (911))) .nil)) (.cons (.int .i64 (.wrap .i64 (.i2 .sub (.iapp 6 (.cons (.int .i64 (.lit (10))) (.cons (.int .i64 (.lit (20000))) (.cons (.tup (.cons (.int .i64 (.lit (911))) .nil)) (.cons (.int .i64 (.lit (912))) .nil))))) (.lit (1))))) .nil))))) (.lit (911))) (.b2 .and (.b2 .eq (.iapp 9 (.cons (.int .i64 (.lit (10))) (.cons (.int .i64 (.lit (20000))) (.cons (.tup (.cons (.int .i64 (.lit (911))) .nil)) (.cons (.int .i64 (.wrap .i64 (.i2 .sub (.iapp 6 (.cons (.int .i64 (.lit (10))) (.cons (.int .i64 (.lit (20000))) (.cons (.tup (.cons (.int .i64 (.lit (911))) .nil)) (.cons (.int .i64 (.lit (912))) .nil))))) (.lit (1))))) .nil))))) (.lit (86400))) (.b2 .eq (.iapp 10 (.cons (.int .i64 (.lit (10))) (.cons (.int .i64 (.lit (20000))) (.cons (.tup (.cons (.int .i64 (.lit (911))) .nil)) (.cons (.int .i64 (.wrap .i64 (.i2 .sub (.iapp 6 (.cons (.int .i64 (.lit (10))) (.cons (.int .i64 (.lit (20000))) (.cons (.tup (.cons (.int .i64 (.lit (911))) .nil)) (.cons (.int .i64 (.lit (912))) .nil))))) (.lit (1))))) .nil))))) (.lit (999999999)))))
 (.br (.b2 .eq (.iapp 2 (.cons (.int .i64 (.lit (10))) (.cons (.int .i64 (.lit (20000))) (.cons (.tup (.cons (.int .i64 (.lit (911))) .nil)) (.cons (.int .i64 (.lit (20000))) .nil))))) (.lit (10)))
 (.ret (.bool (.b2 .eq (.iapp 5 (.cons (.int .i64 (.lit (10))) (.cons (.int .i64 (.lit (20000))) (.cons (.tup (.cons (.int .i64 (.lit (911))) .nil)) (.cons (.int .i64 (.lit (911))) .nil))))) (.lit (86401)))))
 (.ret (.bool (.tt false))))
 (.ret (.bool (.tt false))))
 (.ret (.bool (.tt false))))
 (.ret (.bool (.tt false))))
 (.ret (.bool (.tt false))))
 (.ret (.bool (.tt false)))))
theorem sure09_w : walk Tryd.prog 108 ⟨[x9cc_LBegin, x9cc_lutc, x9cc_LAhead, x9cc_LLength, x9cc_num], []⟩ [] 15 [] ⟨0, 0, 0, 0⟩ 2000 = some sure09_tree := by kernel_rfl
theorem sure09_h   : sure09_tree.holds (fun v => v = .bool true) (x9cE [] [] [] [] (slsOf [])) := by
  unfold sure09_tree
  simp only [Tree.holds, Sx.holds, denV, denI, denB, denL, I2.den, x9cI, x9cB, x9cV, List.getD_cons_zero, List.getD_cons_succ, Cst.den, slsOf_zero, slsOf_one, B2.ofInts, B2.denI, B2.denB, if_true, Bool.false_eq_true, if_false]
  have e : intsOf (.tuple #[.int .i64 911]) = [911] := rfl
  have q1 : begI 10 20000 [911] 912 = 78796811000000000 := by decide
  have q2 : IntKind.wrap .i64 (78796811000000000 - 1) = 78796810999999999 := by decide
  have q3 : wrongI 10 20000 [911] 912 = 0 := by decide
  have q4 : utcE 10 20000 [911] 78796810999999999 = 0 := by decide
  have q5 : wrongI 10 20000 [911] 911 = 0 := by decide
  have q6 : utcD 10 20000 [911] 78796810999999999 = 911 ∧ utcS 10 20000 [911] 78796810999999999 = 86400 ∧ utcN 10 20000 [911] 78796810999999999 = 999999999 := by decide
  have q7 : wrongI 10 20000 [911] 20000 = 10 := by decide
  have q8 : lenI 10 20000 [911] 911 = 86401 := by decide
  simp only [e, q1, q2]
  refine ⟨?_, fun h0 => ?_⟩
  ·
    omega
  ·
    refine ⟨fun h1 => ?_, fun h1 => ?_⟩
    ·
      refine ⟨fun h2 => ?_, fun h2 => ?_⟩
      ·
        refine ⟨fun h3 => ?_, fun h3 => ?_⟩
        ·
          refine ⟨fun h4 => ?_, fun h4 => ?_⟩
          ·
            refine ⟨fun h5 => ?_, fun h5 => ?_⟩
            ·
              refine ⟨fun h6 => ?_, fun h6 => ?_⟩
              ·
                first | (exfalso; omega) | (rw [q8]; rfl) | (exfalso; simp at *; done)
              ·
                first | (exfalso; omega) | (rw [q8]; rfl) | (exfalso; simp at *; done)
            ·
              first | (exfalso; omega) | (rw [q8]; rfl) | (exfalso; simp at *; done)
          ·
            first | (exfalso; omega) | (rw [q8]; rfl) | (exfalso; simp at *; done)
        ·
          first | (exfalso; omega) | (rw [q8]; rfl) | (exfalso; simp at *; done)
      ·
        first | (exfalso; omega) | (rw [q8]; rfl) | (exfalso; simp at *; done)
    ·
      first | (exfalso; omega) | (rw [q8]; rfl) | (exfalso; simp at *; done)
theorem sure09   (w : World) (hg : w.cell? ⟨0, 0, none⟩ = some asHandle) : Calls Tryd.prog 15 #[] w fun e w' => e = .returned (.bool true) ∧ Below w.heap.size w w' := by
  have h := calls_by (n := ⟨0, 0, 0, 0⟩) (x9cE [] [] [] [] (slsOf [])) (vs := []) (W := w) x9cm sure09_w rfl ⟨rfl, rfl, rfl, rfl⟩ ⟨(good_cons (x9cg_LBegin _ _ _ _ _ _) (good_cons (x9cg_lutc _ _ _ _ _ _) (good_cons (x9cg_LAhead _ _ _ _ _ _) (good_cons (x9cg_LLength _ _ _ _ _ _) (good_cons (x9cg_num _ _ _ _ _ _ hg) good_nil))))), slsOk_nil⟩ (sure09_h  ) rfl
  exact calls_eq h
abbrev x9cc_sure : Con := ⟨15, [], (.tt true), (.bool (.tt true)), []⟩
theorem x9cg_sure (iv : List Int) (bv : List Bool) (vv : List Value) (sv : List ByteArray) (sls : Nat → Slc) (W : World) (hg : W.cell? ⟨0, 0, none⟩ = some asHandle) : x9cc_sure.Good Tryd.prog (x9cE iv bv vv sv sls) W := by
  intro iv bv vv sv sls β hc w hb hsl
  have hgw := handle_below hg hb (handle_lt hg)
  exact sure09 w hgw
def walkLeapDays_tree : Tree :=
 (.br (.b2 .lt (.lit (60)) (.slen 0))
 (.ret (.bool (.tt true)))
 (.need (.b2 .le (.slen 0) (.lit (9223372036854775807)))
 (.need (.b2 .le (.slen 0) (.lit (9223372036854775807)))
 (.need (.b2 .le (.slen 0) (.lit (9223372036854775807)))
 (.br (.not (.bapp 1 (.cons (.int .i64 (.var 0)) (.cons (.int .i64 (.var 1)) (.cons (.slv 0) (.cons (.int .i64 (.var 0)) (.cons (.int .i64 (.var 1)) (.cons (.slv 0) .nil))))))))
 (.ret (.bool (.tt false)))
 (.br (.not (.b2 .eq (.iapp 2 (.cons (.int .i64 (.var 0)) (.cons (.int .i64 (.var 1)) (.cons (.slv 0) (.cons (.int .i64 (.var 2)) .nil))))) (.lit (0))))
 (.br (.b2 .eq (.iapp 4 (.cons (.int .i64 (.var 0)) (.cons (.int .i64 (.var 1)) (.cons (.slv 0) (.cons (.int .i64 (.var 2)) .nil))))) (.lit (0)))
 (.br (.b2 .eq (.iapp 5 (.cons (.int .i64 (.var 0)) (.cons (.int .i64 (.var 1)) (.cons (.slv 0) (.cons (.int .i64 (.var 2)) .nil))))) (.lit (0)))
 (.br (.b2 .eq (.iapp 6 (.cons (.int .i64 (.var 0)) (.cons (.int .i64 (.var 1)) (.cons (.slv 0) (.cons (.int .i64 (.var 2)) .nil))))) (.lit (0)))
 (.ret (.bool (.tt true)))
 (.ret (.bool (.tt false))))
 (.ret (.bool (.tt false))))
 (.ret (.bool (.tt false))))
 (.need (.b2 .and (.b2 .le (.lit (0)) (.var 0)) (.b2 .and (.b2 .le (.var 0) (.lit (100))) (.b2 .and (.b2 .le (.slen 0) (.lit (32))) (.b2 .and (.b2 .le (.lit (-100000)) (.var 2)) (.b2 .le (.var 2) (.lit (100000)))))))
 (.br (.b2 .eq (.iapp 4 (.cons (.int .i64 (.var 0)) (.cons (.int .i64 (.var 1)) (.cons (.slv 0) (.cons (.int .i64 (.var 2)) .nil))))) (.wrap .i64 (.i2 .sub (.iapp 3 (.cons (.int .i64 (.var 0)) (.cons (.slv 0) (.cons (.int .i64 (.var 2)) .nil)))) (.wrap .i64 (.i2 .mul (.lit (86400)) (.var 2))))))
 (.need (.b2 .and (.b2 .le (.lit (0)) (.var 0)) (.b2 .and (.b2 .le (.var 0) (.lit (100))) (.b2 .and (.b2 .le (.slen 0) (.lit (32))) (.b2 .and (.b2 .le (.lit (-100000)) (.wrap .i64 (.i2 .add (.var 2) (.lit (1))))) (.b2 .le (.wrap .i64 (.i2 .add (.var 2) (.lit (1)))) (.lit (100000)))))))
 (.br (.b2 .eq (.iapp 5 (.cons (.int .i64 (.var 0)) (.cons (.int .i64 (.var 1)) (.cons (.slv 0) (.cons (.int .i64 (.var 2)) .nil))))) (.wrap .i64 (.i2 .sub (.iapp 3 (.cons (.int .i64 (.var 0)) (.cons (.slv 0) (.cons (.int .i64 (.wrap .i64 (.i2 .add (.var 2) (.lit (1))))) .nil)))) (.iapp 3 (.cons (.int .i64 (.var 0)) (.cons (.slv 0) (.cons (.int .i64 (.var 2)) .nil)))))))
 (.br (.b2 .eq (.iapp 6 (.cons (.int .i64 (.var 0)) (.cons (.int .i64 (.var 1)) (.cons (.slv 0) (.cons (.int .i64 (.var 2)) .nil))))) (.wrap .i64 (.i2 .mul (.iapp 3 (.cons (.int .i64 (.var 0)) (.cons (.slv 0) (.cons (.int .i64 (.var 2)) .nil)))) (.lit (1000000000)))))
 (.ret (.bool (.tt true)))
 (.ret (.bool (.tt false))))
 (.ret (.bool (.tt false)))))
 (.ret (.bool (.tt false)))))))))))
theorem walkLeapDays_w : walk Tryd.prog 108 ⟨[x9cc_LAhead, x9cc_LLength, x9cc_LBegin, x9cc_check, x9cc_rmay, x9cc_rwrong, x9cc_rsec, x9cc_isT, x9cc_num, x9cc_sure], [[.int .i64]]⟩ [] 3 [(.agg (.cons (.int .i64 (.var 0)) (.cons (.int .i64 (.var 1)) (.cons (.sl 0) .nil)))), (.int .i64 (.var 2))] ⟨3, 0, 0, 0⟩ 2000 = some walkLeapDays_tree := by kernel_rfl
set_option maxHeartbeats 4000000 in
theorem walkLeapDays_h (b : Int) (t : Int) (l : Slc) (d : Int) (e0 : l.esz = 1) (hl : l.len ≤ 9223372036854775807) (hd : InR d) : walkLeapDays_tree.holds (fun v => v = .bool true) (x9cE [b, t, d] [] [] [] (slsOf [l])) := by
  unfold walkLeapDays_tree
  simp only [Tree.holds, Sx.holds, denV, denI, denB, denL, I2.den, x9cI, x9cB, x9cV, List.getD_cons_zero, List.getD_cons_succ, Cst.den, slsOf_zero, slsOf_one, B2.ofInts, B2.denI, B2.denB, if_true, Bool.false_eq_true, if_false]
  have f3 := wrongI_spec b t (intsOf l.all) d
  have f4 := day_spec b t (intsOf l.all) d
  have f5 := secL_spec b (intsOf l.all) d
  have f6 := secL_spec b (intsOf l.all) (d + 1)
  have hlen := ints_len l e0
  rcases f3 with ⟨a1, a2, a3⟩ | ⟨a1, a2, a3, a4, a5, a6, a7, (⟨z, zz⟩ | ⟨z, zz⟩ | ⟨z, zz⟩)⟩
  all_goals
    try (have hw : IntKind.wrap .i64 (d + 1) = d + 1 := IntWalk.i64_in _ (by omega)
         simp only [hw])
    try (have hw2 : IntKind.wrap .i64 (86400 * d) = 86400 * d := IntWalk.i64_in _ (by omega)
         have hw3 : IntKind.wrap .i64 (secL b (intsOf l.all) d - 86400 * d) = secL b (intsOf l.all) d - 86400 * d := IntWalk.i64_in _ (by omega)
         have hw4 : IntKind.wrap .i64 (secL b (intsOf l.all) (d + 1) - secL b (intsOf l.all) d) = secL b (intsOf l.all) (d + 1) - secL b (intsOf l.all) d := IntWalk.i64_in _ (by omega)
         simp only [hw2, hw3, hw4])
    refine ⟨fun h0 => ?_, fun h0 => ?_⟩
    ·
      first | trivial | rfl | (exfalso; omega)
    ·
      refine ⟨?_, fun h1 => ?_⟩
      ·
        omega
      ·
        refine ⟨?_, fun h2 => ?_⟩
        ·
          omega
        ·
          refine ⟨?_, fun h3 => ?_⟩
          ·
            omega
          ·
            refine ⟨fun h4 => ?_, fun h4 => ?_⟩
            ·
              first | trivial | rfl | (exfalso; omega)
            ·
              refine ⟨fun h5 => ?_, fun h5 => ?_⟩
              ·
                refine ⟨fun h6 => ?_, fun h6 => ?_⟩
                ·
                  refine ⟨fun h7 => ?_, fun h7 => ?_⟩
                  ·
                    refine ⟨fun h8 => ?_, fun h8 => ?_⟩
                    ·
                      first | trivial | rfl | (exfalso; omega)
                    ·
                      first | trivial | rfl | (exfalso; omega)
                  ·
                    first | trivial | rfl | (exfalso; omega)
                ·
                  first | trivial | rfl | (exfalso; omega)
              ·
                refine ⟨?_, fun h9 => ?_⟩
                ·
                  omega
                ·
                  refine ⟨fun h10 => ?_, fun h10 => ?_⟩
                  ·
                    have wf2 := wr_i64 (d + 1)
                    refine ⟨?_, fun h11 => ?_⟩
                    ·
                      omega
                    ·
                      try simp only [hw2]
                      refine ⟨fun h12 => ?_, fun h12 => ?_⟩
                      ·
                        have wf4 := wr_i64 ((secL b (intsOf l.all) d) * 1000000000)
                        refine ⟨fun h13 => ?_, fun h13 => ?_⟩
                        ·
                          first | trivial | rfl | (exfalso; omega)
                        ·
                          first | trivial | rfl | (exfalso; omega)
                      ·
                        first | trivial | rfl | (exfalso; omega)
                  ·
                    first | trivial | rfl | (exfalso; omega)
theorem walkLeapDays (b : Int) (t : Int) (l : Slc) (d : Int) (e0 : l.esz = 1) (hl : l.len ≤ 9223372036854775807) (hd : InR d) (w : World) (hs0 : SlOk w l [.int .i64]) (hg : w.cell? ⟨0, 0, none⟩ = some asHandle) : Calls Tryd.prog 3 #[.agg #[.int .i64 b, .int .i64 t, l.val], .int .i64 d] w fun e w' => e = .returned (.bool true) ∧ Below w.heap.size w w' := by
  have h := calls_by (n := ⟨3, 0, 0, 0⟩) (x9cE [b, t, d] [] [] [] (slsOf [l])) (vs := [.agg #[.int .i64 b, .int .i64 t, l.val], .int .i64 d]) (W := w) x9cm walkLeapDays_w rfl ⟨rfl, rfl, rfl, rfl⟩ ⟨(good_cons (x9cg_LAhead _ _ _ _ _ _) (good_cons (x9cg_LLength _ _ _ _ _ _) (good_cons (x9cg_LBegin _ _ _ _ _ _) (good_cons (x9cg_check _ _ _ _ _ _) (good_cons (x9cg_rmay _ _ _ _ _ _) (good_cons (x9cg_rwrong _ _ _ _ _ _) (good_cons (x9cg_rsec _ _ _ _ _ _) (good_cons (x9cg_isT _ _ _ _ _ _) (good_cons (x9cg_num _ _ _ _ _ _ hg) (good_cons (x9cg_sure _ _ _ _ _ _ hg) good_nil)))))))))), (slsOk_cons hs0 slsOk_nil)⟩ (walkLeapDays_h b t l d e0 hl hd) rfl
  exact calls_eq h
def walkLeapMoments_tree : Tree :=
 (.br (.b2 .lt (.lit (60)) (.slen 0))
 (.ret (.bool (.tt true)))
 (.need (.b2 .and (.b2 .le (.lit (-9223372036854775808)) (.var 2)) (.b2 .le (.var 2) (.lit (9223372036854775807))))
 (.need (.b2 .and (.b2 .le (.slen 0) (.lit (9223372036854775807))) (.b2 .and (.b2 .le (.lit (-9223372036854775808)) (.var 2)) (.b2 .le (.var 2) (.lit (9223372036854775807)))))
 (.need (.b2 .and (.b2 .and (.b2 .le (.lit (-9223372036854775808)) (.var 3)) (.b2 .le (.var 3) (.lit (9223372036854775807)))) (.b2 .and (.b2 .and (.b2 .le (.lit (-9223372036854775808)) (.var 4)) (.b2 .le (.var 4) (.lit (9223372036854775807)))) (.b2 .and (.b2 .le (.lit (-9223372036854775808)) (.var 5)) (.b2 .le (.var 5) (.lit (9223372036854775807))))))
 (.need (.b2 .and (.b2 .le (.slen 0) (.lit (9223372036854775807))) (.b2 .and (.b2 .and (.b2 .le (.lit (-9223372036854775808)) (.var 3)) (.b2 .le (.var 3) (.lit (9223372036854775807)))) (.b2 .and (.b2 .and (.b2 .le (.lit (-9223372036854775808)) (.var 4)) (.b2 .le (.var 4) (.lit (9223372036854775807)))) (.b2 .and (.b2 .le (.lit (-9223372036854775808)) (.var 5)) (.b2 .le (.var 5) (.lit (9223372036854775807)))))))
 (.ret (.bool (.tt true))))))))
theorem walkLeapMoments_w : walk Tryd.prog 108 ⟨[x9cc_lutc, x9cc_rutc, x9cc_ltai, x9cc_rtai, x9cc_num, x9cc_sure], [[.int .i64]]⟩ [] 4 [(.agg (.cons (.int .i64 (.var 0)) (.cons (.int .i64 (.var 1)) (.cons (.sl 0) .nil)))), (.int .i64 (.var 2)), (.agg (.cons (.int .i64 (.var 3)) (.cons (.int .i64 (.var 4)) (.cons (.int .i64 (.var 5)) .nil))))] ⟨6, 0, 0, 0⟩ 2000 = some walkLeapMoments_tree := by kernel_rfl
theorem walkLeapMoments_h (b : Int) (t : Int) (l : Slc) (n : Int) (d : Int) (s : Int) (o : Int) (e0 : l.esz = 1) (hl : l.len ≤ 9223372036854775807) (hn : InR n) (hd : InR d) (hs : InR s) (ho : InR o) : walkLeapMoments_tree.holds (fun v => v = .bool true) (x9cE [b, t, n, d, s, o] [] [] [] (slsOf [l])) := by
  unfold walkLeapMoments_tree
  simp only [Tree.holds, Sx.holds, denV, denI, denB, denL, I2.den, x9cI, x9cB, x9cV, List.getD_cons_zero, List.getD_cons_succ, Cst.den, slsOf_zero, slsOf_one, B2.ofInts, B2.denI, B2.denB, if_true, Bool.false_eq_true, if_false]
  have hlen := ints_len l e0
  refine ⟨fun h0 => ?_, fun h0 => ?_⟩
  ·
    first | trivial | rfl | (exfalso; omega)
  ·
    refine ⟨?_, fun h1 => ?_⟩
    ·
      omega
    ·
      refine ⟨?_, fun h2 => ?_⟩
      ·
        omega
      ·
        refine ⟨?_, fun h3 => ?_⟩
        ·
          omega
        ·
          refine ⟨?_, fun h4 => ?_⟩
          ·
            omega
          ·
            first | trivial | rfl | (exfalso; omega)
theorem walkLeapMoments (b : Int) (t : Int) (l : Slc) (n : Int) (d : Int) (s : Int) (o : Int) (e0 : l.esz = 1) (hl : l.len ≤ 9223372036854775807) (hn : InR n) (hd : InR d) (hs : InR s) (ho : InR o) (w : World) (hs0 : SlOk w l [.int .i64]) (hg : w.cell? ⟨0, 0, none⟩ = some asHandle) : Calls Tryd.prog 4 #[.agg #[.int .i64 b, .int .i64 t, l.val], .int .i64 n, .agg #[.int .i64 d, .int .i64 s, .int .i64 o]] w fun e w' => e = .returned (.bool true) ∧ Below w.heap.size w w' := by
  have h := calls_by (n := ⟨6, 0, 0, 0⟩) (x9cE [b, t, n, d, s, o] [] [] [] (slsOf [l])) (vs := [.agg #[.int .i64 b, .int .i64 t, l.val], .int .i64 n, .agg #[.int .i64 d, .int .i64 s, .int .i64 o]]) (W := w) x9cm walkLeapMoments_w rfl ⟨rfl, rfl, rfl, rfl⟩ ⟨(good_cons (x9cg_lutc _ _ _ _ _ _) (good_cons (x9cg_rutc _ _ _ _ _ _) (good_cons (x9cg_ltai _ _ _ _ _ _) (good_cons (x9cg_rtai _ _ _ _ _ _) (good_cons (x9cg_num _ _ _ _ _ _ hg) (good_cons (x9cg_sure _ _ _ _ _ _ hg) good_nil)))))), (slsOk_cons hs0 slsOk_nil)⟩ (walkLeapMoments_h b t l n d s o e0 hl hn hd hs ho) rfl
  exact calls_eq h
end Go.Proofs.YtehiienjodicpaaDoor
