/-
  Layer 9 by symbolic walks: days and moments.
-/
import Derived.Test.YtehiienjodicpaaDoorSx
import Derived.Test.YtehiienjodicpaaDoorX09
import Derived.Test.YtehiienjodicpaaDoorM09b
namespace Go.Proofs.YtehiienjodicpaaDoor
open Go.RowKit Go.Extern.Stop Go.Stop Go.Extern Go.Proofs.YtehiienjodicpaaDoor.Sx
set_option linter.unusedVariables false
set_option linter.unusedSimpArgs false
def x9bI : Nat → List Value → Int
  | 0, [.int _ b, .int _ t, l] => mayI b t (intsOf l)
  | 1, [l, .int _ d] => (ctL (intsOf l) d : Int)
  | 2, [.int _ b, .int _ t, l, .int _ d] => wrongI b t (intsOf l) d
  | 3, [.int _ b, l, .int _ d] => secL b (intsOf l) d
  | 4, [.int _ b, .int _ t, l, .int _ d] => aheadI b t (intsOf l) d
  | 5, [.int _ b, .int _ t, l, .int _ d] => lenI b t (intsOf l) d
  | 6, [.int _ b, .int _ t, l, .int _ d] => begI b t (intsOf l) d
  | 7, [.int _ b, .int _ t, l, .int _ n] => utcE b t (intsOf l) n
  | 8, [.int _ b, .int _ t, l, .int _ n] => utcD b t (intsOf l) n
  | 9, [.int _ b, .int _ t, l, .int _ n] => utcS b t (intsOf l) n
  | 10, [.int _ b, .int _ t, l, .int _ n] => utcN b t (intsOf l) n
  | 11, [.int _ b, .int _ t, l, .int _ d, .int _ s, .int _ n] => taiE b t (intsOf l) d s n
  | 12, [.int _ b, .int _ t, l, .int _ d, .int _ s, .int _ n] => taiV b t (intsOf l) d s n
  | 13, [.int _ a] => szE a
  | 14, [.int _ a, .int _ b] => dqE a b
  | 15, [.int _ a, .int _ b] => dmE a b
  | 16, [.int _ b] => deE b
  | _, _ => 0
def x9bB : Nat → List Value → Bool
  | 0, [.int _ b, .int _ t, l] => mayL b t (intsOf l)
  | _, _ => false
def x9bV : Nat → List Value → Value
  | _, _ => Go.undef
abbrev x9bE (iv : List Int) (bv : List Bool) (vv : List Value) (sv : List ByteArray) (sls : Nat → Slc) : Env := { sls := sls, iv := iv, bv := bv, vv := vv, sv := sv, fi := x9bI, fb := x9bB, fv := x9bV, et := 108 }
theorem x9bm : Tryd.prog.follows .mixedOrders = true := by kernel_rfl
abbrev x9bc_ahead : Con := ⟨61, [(.agg (.cons (.int .i64 (.var 0)) (.cons (.int .i64 (.var 1)) (.cons (.sl 0) .nil)))), (.int .i64 (.var 2))], (.b2 .and (.b2 .le (.lit (0)) (.var 0)) (.b2 .and (.b2 .le (.var 0) (.lit (100))) (.b2 .le (.slen 0) (.lit (32))))), (.int .i64 (.i2 .add (.var 0) (.iapp 1 (.cons (.slv 0) (.cons (.int .i64 (.var 2)) .nil))))), [[.int .i64]]⟩
theorem x9bg_ahead (iv : List Int) (bv : List Bool) (vv : List Value) (sv : List ByteArray) (sls : Nat → Slc) (W : World) : x9bc_ahead.Good Tryd.prog (x9bE iv bv vv sv sls) W := by
  intro iv bv vv sv sls β hc w hb hsl
  have hs0 := hsl 0 _ rfl
  exact lahead (iv.getD 0 0) (iv.getD 1 0) (sls 0) (iv.getD 2 0) hs0.1.symm (by simp only [Sx.holds, denI] at hc; omega) (by simp only [Sx.holds, denI] at hc; omega) (by simp only [Sx.holds, denI] at hc; omega) w hs0
abbrev x9bc_check : Con := ⟨20, [(.agg (.cons (.int .i64 (.var 0)) (.cons (.int .i64 (.var 1)) (.cons (.sl 0) .nil))))], (.tt true), (.err (.iapp 0 (.cons (.int .i64 (.var 0)) (.cons (.int .i64 (.var 1)) (.cons (.slv 0) .nil))))), [[.int .i64]]⟩
theorem x9bg_check (iv : List Int) (bv : List Bool) (vv : List Value) (sv : List ByteArray) (sls : Nat → Slc) (W : World) : x9bc_check.Good Tryd.prog (x9bE iv bv vv sv sls) W := by
  intro iv bv vv sv sls β hc w hb hsl
  have hs0 := hsl 0 _ rfl
  exact lcheck (iv.getD 0 0) (iv.getD 1 0) (sls 0) hs0.1.symm w hs0
abbrev x9bc_rmay : Con := ⟨21, [(.agg (.cons (.int .i64 (.var 0)) (.cons (.int .i64 (.var 1)) (.cons (.sl 0) .nil))))], (.b2 .le (.slen 0) (.lit (9223372036854775807))), (.bool (.b2 .eq (.iapp 0 (.cons (.int .i64 (.var 0)) (.cons (.int .i64 (.var 1)) (.cons (.slv 0) .nil)))) (.lit (0)))), [[.int .i64]]⟩
theorem x9bg_rmay (iv : List Int) (bv : List Bool) (vv : List Value) (sv : List ByteArray) (sls : Nat → Slc) (W : World) : x9bc_rmay.Good Tryd.prog (x9bE iv bv vv sv sls) W := by
  intro iv bv vv sv sls β hc w hb hsl
  have hs0 := hsl 0 _ rfl
  exact (by have h := rmay (iv.getD 0 0) (iv.getD 1 0) (sls 0) hs0.1.symm (by simp only [Sx.holds, denI] at hc; omega) w hs0; rw [mayB] at h; exact h)
abbrev x9bc_rsec : Con := ⟨24, [(.agg (.cons (.int .i64 (.var 0)) (.cons (.int .i64 (.var 1)) (.cons (.sl 0) .nil)))), (.int .i64 (.var 2))], (.b2 .and (.b2 .le (.lit (0)) (.var 0)) (.b2 .and (.b2 .le (.var 0) (.lit (100))) (.b2 .and (.b2 .le (.slen 0) (.lit (32))) (.b2 .and (.b2 .le (.lit (-100000)) (.var 2)) (.b2 .le (.var 2) (.lit (100000))))))), (.int .i64 (.iapp 3 (.cons (.int .i64 (.var 0)) (.cons (.slv 0) (.cons (.int .i64 (.var 2)) .nil))))), [[.int .i64]]⟩
theorem x9bg_rsec (iv : List Int) (bv : List Bool) (vv : List Value) (sv : List ByteArray) (sls : Nat → Slc) (W : World) : x9bc_rsec.Good Tryd.prog (x9bE iv bv vv sv sls) W := by
  intro iv bv vv sv sls β hc w hb hsl
  have hs0 := hsl 0 _ rfl
  exact rsecond (iv.getD 0 0) (iv.getD 1 0) (sls 0) (iv.getD 2 0) hs0.1.symm (by simp only [Sx.holds, denI] at hc; omega) (by simp only [Sx.holds, denI] at hc; omega) (by simp only [Sx.holds, denI] at hc; omega) (by simp only [Sx.holds, denI] at hc; omega) (by simp only [Sx.holds, denI] at hc; omega) w hs0
def lknown_tree : Tree :=
 (.br (.not (.b2 .eq (.iapp 0 (.cons (.int .i64 (.var 0)) (.cons (.int .i64 (.var 1)) (.cons (.slv 0) .nil)))) (.lit (0))))
 (.ret (.err (.iapp 0 (.cons (.int .i64 (.var 0)) (.cons (.int .i64 (.var 1)) (.cons (.slv 0) .nil))))))
 (.br (.b2 .lt (.var 2) (.lit (-50000)))
 (.ret (.iface 108 (.int .i64 (.lit (2)))))
 (.br (.b2 .le (.var 1) (.var 2))
 (.ret (.iface 108 (.int .i64 (.lit (10)))))
 (.ret (.cst .nilI)))))
theorem lknown_w : walk Tryd.prog 108 ⟨[x9bc_check], [[.int .i64]]⟩ [] 60 [(.agg (.cons (.int .i64 (.var 0)) (.cons (.int .i64 (.var 1)) (.cons (.sl 0) .nil)))), (.int .i64 (.var 2))] ⟨3, 0, 0, 0⟩ 2000 = some lknown_tree := by kernel_rfl
theorem lknown_h (b : Int) (t : Int) (l : Slc) (d : Int) (e0 : l.esz = 1) : lknown_tree.holds (fun v => v = errVal 108 (wrongI b t (intsOf l.all) d)) (x9bE [b, t, d] [] [] [] (slsOf [l])) := by
  unfold lknown_tree
  simp only [Tree.holds, Sx.holds, denV, denI, denB, denL, I2.den, x9bI, x9bB, x9bV, List.getD_cons_zero, List.getD_cons_succ, Cst.den, slsOf_zero, slsOf_one, B2.ofInts, B2.denI, B2.denB, if_true, Bool.false_eq_true, if_false]
  have f1 := wrongI_spec b t (intsOf l.all) d
  have hlen := ints_len l e0
  refine ⟨fun h0 => ?_, fun h0 => ?_⟩
  ·
    first | exact errV1 (by omega) | exact errV0 (by omega) | exact errV2 (by omega) | exact errV10 (by omega) | (exfalso; omega) | (refine congrArg (errVal _) ?_; omega)
  ·
    refine ⟨fun h1 => ?_, fun h1 => ?_⟩
    ·
      first | exact errV1 (by omega) | exact errV0 (by omega) | exact errV2 (by omega) | exact errV10 (by omega) | (exfalso; omega) | (refine congrArg (errVal _) ?_; omega)
    ·
      refine ⟨fun h2 => ?_, fun h2 => ?_⟩
      ·
        first | exact errV1 (by omega) | exact errV0 (by omega) | exact errV2 (by omega) | exact errV10 (by omega) | (exfalso; omega) | (refine congrArg (errVal _) ?_; omega)
      ·
        first | exact errV1 (by omega) | exact errV0 (by omega) | exact errV2 (by omega) | exact errV10 (by omega) | (exfalso; omega) | (refine congrArg (errVal _) ?_; omega)
theorem lknown (b : Int) (t : Int) (l : Slc) (d : Int) (e0 : l.esz = 1) (w : World) (hs0 : SlOk w l [.int .i64]) : Calls Tryd.prog 60 #[.agg #[.int .i64 b, .int .i64 t, l.val], .int .i64 d] w fun e w' => e = .returned (errVal 108 (wrongI b t (intsOf l.all) d)) ∧ Below w.heap.size w w' := by
  have h := calls_by (n := ⟨3, 0, 0, 0⟩) (x9bE [b, t, d] [] [] [] (slsOf [l])) (vs := [.agg #[.int .i64 b, .int .i64 t, l.val], .int .i64 d]) (W := w) x9bm lknown_w rfl ⟨rfl, rfl, rfl, rfl⟩ ⟨(good_cons (x9bg_check _ _ _ _ _ _) good_nil), (slsOk_cons hs0 slsOk_nil)⟩ (lknown_h b t l d e0) rfl
  exact calls_eq h
abbrev x9bc_known : Con := ⟨60, [(.agg (.cons (.int .i64 (.var 0)) (.cons (.int .i64 (.var 1)) (.cons (.sl 0) .nil)))), (.int .i64 (.var 2))], (.tt true), (.err (.iapp 2 (.cons (.int .i64 (.var 0)) (.cons (.int .i64 (.var 1)) (.cons (.slv 0) (.cons (.int .i64 (.var 2)) .nil)))))), [[.int .i64]]⟩
theorem x9bg_known (iv : List Int) (bv : List Bool) (vv : List Value) (sv : List ByteArray) (sls : Nat → Slc) (W : World) : x9bc_known.Good Tryd.prog (x9bE iv bv vv sv sls) W := by
  intro iv bv vv sv sls β hc w hb hsl
  have hs0 := hsl 0 _ rfl
  exact lknown (iv.getD 0 0) (iv.getD 1 0) (sls 0) (iv.getD 2 0) hs0.1.symm w hs0
def lbegin_tree : Tree :=
 (.need (.b2 .and (.b2 .le (.lit (0)) (.var 0)) (.b2 .and (.b2 .le (.var 0) (.lit (100))) (.b2 .le (.slen 0) (.lit (32)))))
 (.ret (.int .i64 (.wrap .i64 (.i2 .mul (.wrap .i64 (.i2 .add (.wrap .i64 (.i2 .mul (.lit (86400)) (.var 2))) (.i2 .add (.var 0) (.iapp 1 (.cons (.slv 0) (.cons (.int .i64 (.var 2)) .nil)))))) (.lit (1000000000)))))))
theorem lbegin_w : walk Tryd.prog 108 ⟨[x9bc_ahead], [[.int .i64]]⟩ [] 62 [(.agg (.cons (.int .i64 (.var 0)) (.cons (.int .i64 (.var 1)) (.cons (.sl 0) .nil)))), (.int .i64 (.var 2))] ⟨3, 0, 0, 0⟩ 2000 = some lbegin_tree := by kernel_rfl
theorem lbegin_h (b : Int) (t : Int) (l : Slc) (d : Int) (e0 : l.esz = 1) (hb0 : 0 ≤ b) (hb1 : b ≤ 100) (hl : l.len ≤ 32) (hd0 : -100000 ≤ d) (hd1 : d ≤ 100000) : lbegin_tree.holds (fun v => v = .int .i64 (secL b (intsOf l.all) d * 1000000000)) (x9bE [b, t, d] [] [] [] (slsOf [l])) := by
  unfold lbegin_tree
  simp only [Tree.holds, Sx.holds, denV, denI, denB, denL, I2.den, x9bI, x9bB, x9bV, List.getD_cons_zero, List.getD_cons_succ, Cst.den, slsOf_zero, slsOf_one, B2.ofInts, B2.denI, B2.denB, if_true, Bool.false_eq_true, if_false]
  have f1 := secL_spec b (intsOf l.all) d
  have hlen := ints_len l e0
  have wf0 := wr_i64 (86400 * d)
  have wf1 := wr_i64 ((IntKind.wrap .i64 (86400 * d)) + (b + ((ctL (intsOf l.all) d : Int))))
  have wf2 := wr_i64 ((IntKind.wrap .i64 ((IntKind.wrap .i64 (86400 * d)) + (b + ((ctL (intsOf l.all) d : Int))))) * 1000000000)
  refine ⟨?_, fun h0 => ?_⟩
  ·
    omega
  ·
    simp only [Value.int.injEq, true_and]; omega
theorem lbegin (b : Int) (t : Int) (l : Slc) (d : Int) (e0 : l.esz = 1) (hb0 : 0 ≤ b) (hb1 : b ≤ 100) (hl : l.len ≤ 32) (hd0 : -100000 ≤ d) (hd1 : d ≤ 100000) (w : World) (hs0 : SlOk w l [.int .i64]) : Calls Tryd.prog 62 #[.agg #[.int .i64 b, .int .i64 t, l.val], .int .i64 d] w fun e w' => e = .returned (.int .i64 (secL b (intsOf l.all) d * 1000000000)) ∧ Below w.heap.size w w' := by
  have h := calls_by (n := ⟨3, 0, 0, 0⟩) (x9bE [b, t, d] [] [] [] (slsOf [l])) (vs := [.agg #[.int .i64 b, .int .i64 t, l.val], .int .i64 d]) (W := w) x9bm lbegin_w rfl ⟨rfl, rfl, rfl, rfl⟩ ⟨(good_cons (x9bg_ahead _ _ _ _ _ _) good_nil), (slsOk_cons hs0 slsOk_nil)⟩ (lbegin_h b t l d e0 hb0 hb1 hl hd0 hd1) rfl
  exact calls_eq h
abbrev x9bc_begin : Con := ⟨62, [(.agg (.cons (.int .i64 (.var 0)) (.cons (.int .i64 (.var 1)) (.cons (.sl 0) .nil)))), (.int .i64 (.var 2))], (.b2 .and (.b2 .le (.lit (0)) (.var 0)) (.b2 .and (.b2 .le (.var 0) (.lit (100))) (.b2 .and (.b2 .le (.slen 0) (.lit (32))) (.b2 .and (.b2 .le (.lit (-100000)) (.var 2)) (.b2 .le (.var 2) (.lit (100000))))))), (.int .i64 (.i2 .mul (.iapp 3 (.cons (.int .i64 (.var 0)) (.cons (.slv 0) (.cons (.int .i64 (.var 2)) .nil)))) (.lit (1000000000)))), [[.int .i64]]⟩
theorem x9bg_begin (iv : List Int) (bv : List Bool) (vv : List Value) (sv : List ByteArray) (sls : Nat → Slc) (W : World) : x9bc_begin.Good Tryd.prog (x9bE iv bv vv sv sls) W := by
  intro iv bv vv sv sls β hc w hb hsl
  have hs0 := hsl 0 _ rfl
  exact lbegin (iv.getD 0 0) (iv.getD 1 0) (sls 0) (iv.getD 2 0) hs0.1.symm (by simp only [Sx.holds, denI] at hc; omega) (by simp only [Sx.holds, denI] at hc; omega) (by simp only [Sx.holds, denI] at hc; omega) (by simp only [Sx.holds, denI] at hc; omega) (by simp only [Sx.holds, denI] at hc; omega) w hs0
def lAhead_tree : Tree :=
 (.br (.not (.b2 .eq (.iapp 2 (.cons (.int .i64 (.var 0)) (.cons (.int .i64 (.var 1)) (.cons (.slv 0) (.cons (.int .i64 (.var 2)) .nil))))) (.lit (0))))
 (.ret (.tup (.cons (.int .i64 (.lit (0))) (.cons (.err (.iapp 2 (.cons (.int .i64 (.var 0)) (.cons (.int .i64 (.var 1)) (.cons (.slv 0) (.cons (.int .i64 (.var 2)) .nil)))))) .nil))))
 (.need (.b2 .and (.b2 .le (.lit (0)) (.var 0)) (.b2 .and (.b2 .le (.var 0) (.lit (100))) (.b2 .le (.slen 0) (.lit (32)))))
 (.ret (.tup (.cons (.int .i64 (.i2 .add (.var 0) (.iapp 1 (.cons (.slv 0) (.cons (.int .i64 (.var 2)) .nil))))) (.cons (.cst .nilI) .nil))))))
theorem lAhead_w : walk Tryd.prog 108 ⟨[x9bc_known, x9bc_ahead, x9bc_begin], [[.int .i64]]⟩ [] 16 [(.agg (.cons (.int .i64 (.var 0)) (.cons (.int .i64 (.var 1)) (.cons (.sl 0) .nil)))), (.int .i64 (.var 2))] ⟨3, 0, 0, 0⟩ 2000 = some lAhead_tree := by kernel_rfl
theorem lAhead_h (b : Int) (t : Int) (l : Slc) (d : Int) (e0 : l.esz = 1) : lAhead_tree.holds (fun v => v = .tuple #[.int .i64 (aheadI b t (intsOf l.all) d), errVal 108 (wrongI b t (intsOf l.all) d)]) (x9bE [b, t, d] [] [] [] (slsOf [l])) := by
  unfold lAhead_tree
  simp only [Tree.holds, Sx.holds, denV, denI, denB, denL, I2.den, x9bI, x9bB, x9bV, List.getD_cons_zero, List.getD_cons_succ, Cst.den, slsOf_zero, slsOf_one, B2.ofInts, B2.denI, B2.denB, if_true, Bool.false_eq_true, if_false]
  have f1 := wrongI_spec b t (intsOf l.all) d
  have f2 := day_spec b t (intsOf l.all) d
  have f3 := secL_spec b (intsOf l.all) d
  have f4 := secL_spec b (intsOf l.all) (d + 1)
  have hlen := ints_len l e0
  refine ⟨fun h0 => ?_, fun h0 => ?_⟩
  ·
    try (have hw : IntKind.wrap .i64 (d + 1) = d + 1 := by omega
         simp only [hw] at *)
    first
    | (exfalso; omega)
    | (simp only [Value.tuple.injEq, Value.agg.injEq, Value.int.injEq, Array.mk.injEq, List.cons.injEq, true_and, and_true]; first | omega | (refine ⟨by omega, ?_⟩; (try refine And.intro ?_ ?_); all_goals first | omega | exact errV1 (by omega) | exact errV0 (by omega) | exact errV2 (by omega) | exact errV10 (by omega) | (exfalso; omega) | (refine congrArg (errVal _) ?_; omega)))
  ·
    refine ⟨?_, fun h1 => ?_⟩
    ·
      omega
    ·
      try (have hw : IntKind.wrap .i64 (d + 1) = d + 1 := by omega
           simp only [hw] at *)
      first
      | (exfalso; omega)
      | (simp only [Value.tuple.injEq, Value.agg.injEq, Value.int.injEq, Array.mk.injEq, List.cons.injEq, true_and, and_true]; first | omega | (refine ⟨by omega, ?_⟩; (try refine And.intro ?_ ?_); all_goals first | omega | exact errV1 (by omega) | exact errV0 (by omega) | exact errV2 (by omega) | exact errV10 (by omega) | (exfalso; omega) | (refine congrArg (errVal _) ?_; omega)))
theorem lAhead (b : Int) (t : Int) (l : Slc) (d : Int) (e0 : l.esz = 1) (w : World) (hs0 : SlOk w l [.int .i64]) : Calls Tryd.prog 16 #[.agg #[.int .i64 b, .int .i64 t, l.val], .int .i64 d] w fun e w' => e = .returned (.tuple #[.int .i64 (aheadI b t (intsOf l.all) d), errVal 108 (wrongI b t (intsOf l.all) d)]) ∧ Below w.heap.size w w' := by
  have h := calls_by (n := ⟨3, 0, 0, 0⟩) (x9bE [b, t, d] [] [] [] (slsOf [l])) (vs := [.agg #[.int .i64 b, .int .i64 t, l.val], .int .i64 d]) (W := w) x9bm lAhead_w rfl ⟨rfl, rfl, rfl, rfl⟩ ⟨(good_cons (x9bg_known _ _ _ _ _ _) (good_cons (x9bg_ahead _ _ _ _ _ _) (good_cons (x9bg_begin _ _ _ _ _ _) good_nil))), (slsOk_cons hs0 slsOk_nil)⟩ (lAhead_h b t l d e0) rfl
  exact calls_eq h
abbrev x9bc_LAhead : Con := ⟨16, [(.agg (.cons (.int .i64 (.var 0)) (.cons (.int .i64 (.var 1)) (.cons (.sl 0) .nil)))), (.int .i64 (.var 2))], (.tt true), (.tup (.cons (.int .i64 (.iapp 4 (.cons (.int .i64 (.var 0)) (.cons (.int .i64 (.var 1)) (.cons (.slv 0) (.cons (.int .i64 (.var 2)) .nil)))))) (.cons (.err (.iapp 2 (.cons (.int .i64 (.var 0)) (.cons (.int .i64 (.var 1)) (.cons (.slv 0) (.cons (.int .i64 (.var 2)) .nil)))))) .nil))), [[.int .i64]]⟩
theorem x9bg_LAhead (iv : List Int) (bv : List Bool) (vv : List Value) (sv : List ByteArray) (sls : Nat → Slc) (W : World) : x9bc_LAhead.Good Tryd.prog (x9bE iv bv vv sv sls) W := by
  intro iv bv vv sv sls β hc w hb hsl
  have hs0 := hsl 0 _ rfl
  exact lAhead (iv.getD 0 0) (iv.getD 1 0) (sls 0) (iv.getD 2 0) hs0.1.symm w hs0
def lLength_tree : Tree :=
 (.br (.not (.b2 .eq (.iapp 2 (.cons (.int .i64 (.var 0)) (.cons (.int .i64 (.var 1)) (.cons (.slv 0) (.cons (.int .i64 (.var 2)) .nil))))) (.lit (0))))
 (.ret (.tup (.cons (.int .i64 (.lit (0))) (.cons (.err (.iapp 2 (.cons (.int .i64 (.var 0)) (.cons (.int .i64 (.var 1)) (.cons (.slv 0) (.cons (.int .i64 (.var 2)) .nil)))))) .nil))))
 (.need (.b2 .and (.b2 .le (.lit (0)) (.var 0)) (.b2 .and (.b2 .le (.var 0) (.lit (100))) (.b2 .le (.slen 0) (.lit (32)))))
 (.need (.b2 .and (.b2 .le (.lit (0)) (.var 0)) (.b2 .and (.b2 .le (.var 0) (.lit (100))) (.b2 .le (.slen 0) (.lit (32)))))
 (.ret (.tup (.cons (.int .i64 (.wrap .i64 (.i2 .add (.wrap .i64 (.i2 .sub (.i2 .add (.var 0) (.iapp 1 (.cons (.slv 0) (.cons (.int .i64 (.wrap .i64 (.i2 .add (.var 2) (.lit (1))))) .nil)))) (.i2 .add (.var 0) (.iapp 1 (.cons (.slv 0) (.cons (.int .i64 (.var 2)) .nil)))))) (.lit (86400))))) (.cons (.cst .nilI) .nil)))))))
theorem lLength_w : walk Tryd.prog 108 ⟨[x9bc_known, x9bc_ahead, x9bc_begin], [[.int .i64]]⟩ [] 17 [(.agg (.cons (.int .i64 (.var 0)) (.cons (.int .i64 (.var 1)) (.cons (.sl 0) .nil)))), (.int .i64 (.var 2))] ⟨3, 0, 0, 0⟩ 2000 = some lLength_tree := by kernel_rfl
theorem lLength_h (b : Int) (t : Int) (l : Slc) (d : Int) (e0 : l.esz = 1) : lLength_tree.holds (fun v => v = .tuple #[.int .i64 (lenI b t (intsOf l.all) d), errVal 108 (wrongI b t (intsOf l.all) d)]) (x9bE [b, t, d] [] [] [] (slsOf [l])) := by
  unfold lLength_tree
  simp only [Tree.holds, Sx.holds, denV, denI, denB, denL, I2.den, x9bI, x9bB, x9bV, List.getD_cons_zero, List.getD_cons_succ, Cst.den, slsOf_zero, slsOf_one, B2.ofInts, B2.denI, B2.denB, if_true, Bool.false_eq_true, if_false]
  have f1 := wrongI_spec b t (intsOf l.all) d
  have f2 := day_spec b t (intsOf l.all) d
  have f3 := secL_spec b (intsOf l.all) d
  have f4 := secL_spec b (intsOf l.all) (d + 1)
  have hlen := ints_len l e0
  have wf0 := wr_i64 (d + 1)
  have wf1 := wr_i64 ((b + ((ctL (intsOf l.all) (IntKind.wrap .i64 (d + 1)) : Int))) - (b + ((ctL (intsOf l.all) d : Int))))
  have wf2 := wr_i64 ((IntKind.wrap .i64 ((b + ((ctL (intsOf l.all) (IntKind.wrap .i64 (d + 1)) : Int))) - (b + ((ctL (intsOf l.all) d : Int))))) + 86400)
  refine ⟨fun h0 => ?_, fun h0 => ?_⟩
  ·
    try (have hw : IntKind.wrap .i64 (d + 1) = d + 1 := by omega
         simp only [hw] at *)
    first
    | (exfalso; omega)
    | (simp only [Value.tuple.injEq, Value.agg.injEq, Value.int.injEq, Array.mk.injEq, List.cons.injEq, true_and, and_true]; first | omega | (refine ⟨by omega, ?_⟩; (try refine And.intro ?_ ?_); all_goals first | omega | exact errV1 (by omega) | exact errV0 (by omega) | exact errV2 (by omega) | exact errV10 (by omega) | (exfalso; omega) | (refine congrArg (errVal _) ?_; omega)))
  ·
    refine ⟨?_, fun h1 => ?_⟩
    ·
      omega
    ·
      refine ⟨?_, fun h2 => ?_⟩
      ·
        omega
      ·
        try (have hw : IntKind.wrap .i64 (d + 1) = d + 1 := by omega
             simp only [hw] at *)
        first
        | (exfalso; omega)
        | (simp only [Value.tuple.injEq, Value.agg.injEq, Value.int.injEq, Array.mk.injEq, List.cons.injEq, true_and, and_true]; first | omega | (refine ⟨by omega, ?_⟩; (try refine And.intro ?_ ?_); all_goals first | omega | exact errV1 (by omega) | exact errV0 (by omega) | exact errV2 (by omega) | exact errV10 (by omega) | (exfalso; omega) | (refine congrArg (errVal _) ?_; omega)))
theorem lLength (b : Int) (t : Int) (l : Slc) (d : Int) (e0 : l.esz = 1) (w : World) (hs0 : SlOk w l [.int .i64]) : Calls Tryd.prog 17 #[.agg #[.int .i64 b, .int .i64 t, l.val], .int .i64 d] w fun e w' => e = .returned (.tuple #[.int .i64 (lenI b t (intsOf l.all) d), errVal 108 (wrongI b t (intsOf l.all) d)]) ∧ Below w.heap.size w w' := by
  have h := calls_by (n := ⟨3, 0, 0, 0⟩) (x9bE [b, t, d] [] [] [] (slsOf [l])) (vs := [.agg #[.int .i64 b, .int .i64 t, l.val], .int .i64 d]) (W := w) x9bm lLength_w rfl ⟨rfl, rfl, rfl, rfl⟩ ⟨(good_cons (x9bg_known _ _ _ _ _ _) (good_cons (x9bg_ahead _ _ _ _ _ _) (good_cons (x9bg_begin _ _ _ _ _ _) good_nil))), (slsOk_cons hs0 slsOk_nil)⟩ (lLength_h b t l d e0) rfl
  exact calls_eq h
abbrev x9bc_LLength : Con := ⟨17, [(.agg (.cons (.int .i64 (.var 0)) (.cons (.int .i64 (.var 1)) (.cons (.sl 0) .nil)))), (.int .i64 (.var 2))], (.tt true), (.tup (.cons (.int .i64 (.iapp 5 (.cons (.int .i64 (.var 0)) (.cons (.int .i64 (.var 1)) (.cons (.slv 0) (.cons (.int .i64 (.var 2)) .nil)))))) (.cons (.err (.iapp 2 (.cons (.int .i64 (.var 0)) (.cons (.int .i64 (.var 1)) (.cons (.slv 0) (.cons (.int .i64 (.var 2)) .nil)))))) .nil))), [[.int .i64]]⟩
theorem x9bg_LLength (iv : List Int) (bv : List Bool) (vv : List Value) (sv : List ByteArray) (sls : Nat → Slc) (W : World) : x9bc_LLength.Good Tryd.prog (x9bE iv bv vv sv sls) W := by
  intro iv bv vv sv sls β hc w hb hsl
  have hs0 := hsl 0 _ rfl
  exact lLength (iv.getD 0 0) (iv.getD 1 0) (sls 0) (iv.getD 2 0) hs0.1.symm w hs0
def lBegin_tree : Tree :=
 (.br (.not (.b2 .eq (.iapp 2 (.cons (.int .i64 (.var 0)) (.cons (.int .i64 (.var 1)) (.cons (.slv 0) (.cons (.int .i64 (.var 2)) .nil))))) (.lit (0))))
 (.ret (.tup (.cons (.int .i64 (.lit (0))) (.cons (.err (.iapp 2 (.cons (.int .i64 (.var 0)) (.cons (.int .i64 (.var 1)) (.cons (.slv 0) (.cons (.int .i64 (.var 2)) .nil)))))) .nil))))
 (.need (.b2 .and (.b2 .le (.lit (0)) (.var 0)) (.b2 .and (.b2 .le (.var 0) (.lit (100))) (.b2 .and (.b2 .le (.slen 0) (.lit (32))) (.b2 .and (.b2 .le (.lit (-100000)) (.var 2)) (.b2 .le (.var 2) (.lit (100000)))))))
 (.ret (.tup (.cons (.int .i64 (.i2 .mul (.iapp 3 (.cons (.int .i64 (.var 0)) (.cons (.slv 0) (.cons (.int .i64 (.var 2)) .nil)))) (.lit (1000000000)))) (.cons (.cst .nilI) .nil))))))
theorem lBegin_w : walk Tryd.prog 108 ⟨[x9bc_known, x9bc_ahead, x9bc_begin], [[.int .i64]]⟩ [] 18 [(.agg (.cons (.int .i64 (.var 0)) (.cons (.int .i64 (.var 1)) (.cons (.sl 0) .nil)))), (.int .i64 (.var 2))] ⟨3, 0, 0, 0⟩ 2000 = some lBegin_tree := by kernel_rfl
theorem lBegin_h (b : Int) (t : Int) (l : Slc) (d : Int) (e0 : l.esz = 1) : lBegin_tree.holds (fun v => v = .tuple #[.int .i64 (begI b t (intsOf l.all) d), errVal 108 (wrongI b t (intsOf l.all) d)]) (x9bE [b, t, d] [] [] [] (slsOf [l])) := by
  unfold lBegin_tree
  simp only [Tree.holds, Sx.holds, denV, denI, denB, denL, I2.den, x9bI, x9bB, x9bV, List.getD_cons_zero, List.getD_cons_succ, Cst.den, slsOf_zero, slsOf_one, B2.ofInts, B2.denI, B2.denB, if_true, Bool.false_eq_true, if_false]
  have f1 := wrongI_spec b t (intsOf l.all) d
  have f2 := day_spec b t (intsOf l.all) d
  have f3 := secL_spec b (intsOf l.all) d
  have f4 := secL_spec b (intsOf l.all) (d + 1)
  have hlen := ints_len l e0
  refine ⟨fun h0 => ?_, fun h0 => ?_⟩
  ·
    try (have hw : IntKind.wrap .i64 (d + 1) = d + 1 := by omega
         simp only [hw] at *)
    first
    | (exfalso; omega)
    | (simp only [Value.tuple.injEq, Value.agg.injEq, Value.int.injEq, Array.mk.injEq, List.cons.injEq, true_and, and_true]; first | omega | (refine ⟨by omega, ?_⟩; (try refine And.intro ?_ ?_); all_goals first | omega | exact errV1 (by omega) | exact errV0 (by omega) | exact errV2 (by omega) | exact errV10 (by omega) | (exfalso; omega) | (refine congrArg (errVal _) ?_; omega)))
  ·
    refine ⟨?_, fun h1 => ?_⟩
    ·
      omega
    ·
      try (have hw : IntKind.wrap .i64 (d + 1) = d + 1 := by omega
           simp only [hw] at *)
      first
      | (exfalso; omega)
      | (simp only [Value.tuple.injEq, Value.agg.injEq, Value.int.injEq, Array.mk.injEq, List.cons.injEq, true_and, and_true]; first | omega | (refine ⟨by omega, ?_⟩; (try refine And.intro ?_ ?_); all_goals first | omega | exact errV1 (by omega) | exact errV0 (by omega) | exact errV2 (by omega) | exact errV10 (by omega) | (exfalso; omega) | (refine congrArg (errVal _) ?_; omega)))
theorem lBegin (b : Int) (t : Int) (l : Slc) (d : Int) (e0 : l.esz = 1) (w : World) (hs0 : SlOk w l [.int .i64]) : Calls Tryd.prog 18 #[.agg #[.int .i64 b, .int .i64 t, l.val], .int .i64 d] w fun e w' => e = .returned (.tuple #[.int .i64 (begI b t (intsOf l.all) d), errVal 108 (wrongI b t (intsOf l.all) d)]) ∧ Below w.heap.size w w' := by
  have h := calls_by (n := ⟨3, 0, 0, 0⟩) (x9bE [b, t, d] [] [] [] (slsOf [l])) (vs := [.agg #[.int .i64 b, .int .i64 t, l.val], .int .i64 d]) (W := w) x9bm lBegin_w rfl ⟨rfl, rfl, rfl, rfl⟩ ⟨(good_cons (x9bg_known _ _ _ _ _ _) (good_cons (x9bg_ahead _ _ _ _ _ _) (good_cons (x9bg_begin _ _ _ _ _ _) good_nil))), (slsOk_cons hs0 slsOk_nil)⟩ (lBegin_h b t l d e0) rfl
  exact calls_eq h
abbrev x9bc_LBegin : Con := ⟨18, [(.agg (.cons (.int .i64 (.var 0)) (.cons (.int .i64 (.var 1)) (.cons (.sl 0) .nil)))), (.int .i64 (.var 2))], (.tt true), (.tup (.cons (.int .i64 (.iapp 6 (.cons (.int .i64 (.var 0)) (.cons (.int .i64 (.var 1)) (.cons (.slv 0) (.cons (.int .i64 (.var 2)) .nil)))))) (.cons (.err (.iapp 2 (.cons (.int .i64 (.var 0)) (.cons (.int .i64 (.var 1)) (.cons (.slv 0) (.cons (.int .i64 (.var 2)) .nil)))))) .nil))), [[.int .i64]]⟩
theorem x9bg_LBegin (iv : List Int) (bv : List Bool) (vv : List Value) (sv : List ByteArray) (sls : Nat → Slc) (W : World) : x9bc_LBegin.Good Tryd.prog (x9bE iv bv vv sv sls) W := by
  intro iv bv vv sv sls β hc w hb hsl
  have hs0 := hsl 0 _ rfl
  exact lBegin (iv.getD 0 0) (iv.getD 1 0) (sls 0) (iv.getD 2 0) hs0.1.symm w hs0
def rwrong_tree : Tree :=
 (.need (.b2 .le (.slen 0) (.lit (9223372036854775807)))
 (.br (.not (.b2 .eq (.iapp 0 (.cons (.int .i64 (.var 0)) (.cons (.int .i64 (.var 1)) (.cons (.slv 0) .nil)))) (.lit (0))))
 (.ret (.int .i64 (.lit (1))))
 (.br (.b2 .lt (.var 2) (.lit (-50000)))
 (.ret (.int .i64 (.lit (2))))
 (.br (.b2 .le (.var 1) (.var 2))
 (.ret (.int .i64 (.lit (10))))
 (.ret (.int .i64 (.lit (0))))))))
theorem rwrong_w : walk Tryd.prog 108 ⟨[x9bc_rmay], [[.int .i64]]⟩ [] 19 [(.agg (.cons (.int .i64 (.var 0)) (.cons (.int .i64 (.var 1)) (.cons (.sl 0) .nil)))), (.int .i64 (.var 2))] ⟨3, 0, 0, 0⟩ 2000 = some rwrong_tree := by kernel_rfl
theorem rwrong_h (b : Int) (t : Int) (l : Slc) (d : Int) (e0 : l.esz = 1) (hl : l.len ≤ 9223372036854775807) : rwrong_tree.holds (fun v => v = .int .i64 (wrongI b t (intsOf l.all) d)) (x9bE [b, t, d] [] [] [] (slsOf [l])) := by
  unfold rwrong_tree
  simp only [Tree.holds, Sx.holds, denV, denI, denB, denL, I2.den, x9bI, x9bB, x9bV, List.getD_cons_zero, List.getD_cons_succ, Cst.den, slsOf_zero, slsOf_one, B2.ofInts, B2.denI, B2.denB, if_true, Bool.false_eq_true, if_false]
  have f1 := wrongI_spec b t (intsOf l.all) d
  have hlen := ints_len l e0
  refine ⟨?_, fun h0 => ?_⟩
  ·
    omega
  ·
    refine ⟨fun h1 => ?_, fun h1 => ?_⟩
    ·
      simp only [Value.int.injEq, true_and]; omega
    ·
      refine ⟨fun h2 => ?_, fun h2 => ?_⟩
      ·
        simp only [Value.int.injEq, true_and]; omega
      ·
        refine ⟨fun h3 => ?_, fun h3 => ?_⟩
        ·
          simp only [Value.int.injEq, true_and]; omega
        ·
          simp only [Value.int.injEq, true_and]; omega
theorem rwrong (b : Int) (t : Int) (l : Slc) (d : Int) (e0 : l.esz = 1) (hl : l.len ≤ 9223372036854775807) (w : World) (hs0 : SlOk w l [.int .i64]) : Calls Tryd.prog 19 #[.agg #[.int .i64 b, .int .i64 t, l.val], .int .i64 d] w fun e w' => e = .returned (.int .i64 (wrongI b t (intsOf l.all) d)) ∧ Below w.heap.size w w' := by
  have h := calls_by (n := ⟨3, 0, 0, 0⟩) (x9bE [b, t, d] [] [] [] (slsOf [l])) (vs := [.agg #[.int .i64 b, .int .i64 t, l.val], .int .i64 d]) (W := w) x9bm rwrong_w rfl ⟨rfl, rfl, rfl, rfl⟩ ⟨(good_cons (x9bg_rmay _ _ _ _ _ _) good_nil), (slsOk_cons hs0 slsOk_nil)⟩ (rwrong_h b t l d e0 hl) rfl
  exact calls_eq h
abbrev x9bc_rwrong : Con := ⟨19, [(.agg (.cons (.int .i64 (.var 0)) (.cons (.int .i64 (.var 1)) (.cons (.sl 0) .nil)))), (.int .i64 (.var 2))], (.b2 .le (.slen 0) (.lit (9223372036854775807))), (.int .i64 (.iapp 2 (.cons (.int .i64 (.var 0)) (.cons (.int .i64 (.var 1)) (.cons (.slv 0) (.cons (.int .i64 (.var 2)) .nil)))))), [[.int .i64]]⟩
theorem x9bg_rwrong (iv : List Int) (bv : List Bool) (vv : List Value) (sv : List ByteArray) (sls : Nat → Slc) (W : World) : x9bc_rwrong.Good Tryd.prog (x9bE iv bv vv sv sls) W := by
  intro iv bv vv sv sls β hc w hb hsl
  have hs0 := hsl 0 _ rfl
  exact rwrong (iv.getD 0 0) (iv.getD 1 0) (sls 0) (iv.getD 2 0) hs0.1.symm (by simp only [Sx.holds, denI] at hc; omega) w hs0
abbrev x9bc_size : Con := ⟨64, [(.int .i64 (.var 0))], (.b2 .and (.b2 .le (.lit (-9223372036854775808)) (.var 0)) (.b2 .le (.var 0) (.lit (9223372036854775807)))), (.int .i64 (.iapp 13 (.cons (.int .i64 (.var 0)) .nil))), []⟩
theorem x9bg_size (iv : List Int) (bv : List Bool) (vv : List Value) (sv : List ByteArray) (sls : Nat → Slc) (W : World) : x9bc_size.Good Tryd.prog (x9bE iv bv vv sv sls) W := by
  intro iv bv vv sv sls β hc w hb hsl
  exact esize (iv.getD 0 0) hc w
abbrev x9bc_div : Con := ⟨65, [(.int .i64 (.var 0)), (.int .i64 (.var 1))], (.b2 .and (.b2 .and (.b2 .le (.lit (-9223372036854775808)) (.var 0)) (.b2 .le (.var 0) (.lit (9223372036854775807)))) (.b2 .and (.b2 .le (.lit (-9223372036854775808)) (.var 1)) (.b2 .le (.var 1) (.lit (9223372036854775807))))), (.tup (.cons (.int .i64 (.iapp 14 (.cons (.int .i64 (.var 0)) (.cons (.int .i64 (.var 1)) .nil)))) (.cons (.int .i64 (.iapp 15 (.cons (.int .i64 (.var 0)) (.cons (.int .i64 (.var 1)) .nil)))) (.cons (.err (.iapp 16 (.cons (.int .i64 (.var 1)) .nil))) .nil)))), []⟩
theorem x9bg_div (iv : List Int) (bv : List Bool) (vv : List Value) (sv : List ByteArray) (sls : Nat → Slc) (W : World) : x9bc_div.Good Tryd.prog (x9bE iv bv vv sv sls) W := by
  intro iv bv vv sv sls β hc w hb hsl
  exact ediv (iv.getD 0 0) (iv.getD 1 0) hc.1 hc.2 w
theorem gone_q {x : Int} (h0 : 0 ≤ x) (h1 : x ≤ 9223372036854775807) : IntKind.wrap .i64 (Int.tdiv (IntKind.wrap .i64 x) 1000000000) = x / 1000000000 ∧ Int.tmod (IntKind.wrap .i64 x) 1000000000 = x % 1000000000 := by
  rw [show IntKind.wrap .i64 x = x from IntWalk.i64_in x (by omega), Int.tdiv_eq_ediv_of_nonneg h0, Int.tmod_eq_emod_of_nonneg h0]
  exact ⟨IntWalk.i64_in _ (by omega), rfl⟩
def lutc_tree : Tree :=
 (.br (.not (.b2 .eq (.iapp 0 (.cons (.int .i64 (.var 0)) (.cons (.int .i64 (.var 1)) (.cons (.slv 0) .nil)))) (.lit (0))))
 (.ret (.tup (.cons (.agg (.cons (.int .i64 (.lit (0))) (.cons (.int .i64 (.lit (0))) (.cons (.int .i64 (.lit (0))) .nil)))) (.cons (.err (.iapp 0 (.cons (.int .i64 (.var 0)) (.cons (.int .i64 (.var 1)) (.cons (.slv 0) .nil))))) .nil))))
 (.need (.b2 .and (.b2 .le (.lit (-9223372036854775808)) (.var 2)) (.b2 .le (.var 2) (.lit (9223372036854775807))))
 (.br (.b2 .le (.lit (4611686018427387904)) (.iapp 13 (.cons (.int .i64 (.var 2)) .nil)))
 (.ret (.tup (.cons (.agg (.cons (.int .i64 (.lit (0))) (.cons (.int .i64 (.lit (0))) (.cons (.int .i64 (.lit (0))) .nil)))) (.cons (.iface 108 (.int .i64 (.lit (2)))) .nil))))
 (.need (.b2 .and (.b2 .le (.lit (0)) (.var 0)) (.b2 .and (.b2 .le (.var 0) (.lit (100))) (.b2 .le (.slen 0) (.lit (32)))))
 (.br (.b2 .lt (.var 2) (.i2 .mul (.iapp 3 (.cons (.int .i64 (.var 0)) (.cons (.slv 0) (.cons (.int .i64 (.lit (-50000))) .nil)))) (.lit (1000000000))))
 (.ret (.tup (.cons (.agg (.cons (.int .i64 (.lit (0))) (.cons (.int .i64 (.lit (0))) (.cons (.int .i64 (.lit (0))) .nil)))) (.cons (.iface 108 (.int .i64 (.lit (2)))) .nil))))
 (.need (.b2 .and (.b2 .le (.lit (0)) (.var 0)) (.b2 .and (.b2 .le (.var 0) (.lit (100))) (.b2 .and (.b2 .le (.slen 0) (.lit (32))) (.b2 .and (.b2 .le (.lit (-100000)) (.var 1)) (.b2 .le (.var 1) (.lit (100000)))))))
 (.br (.b2 .le (.i2 .mul (.iapp 3 (.cons (.int .i64 (.var 0)) (.cons (.slv 0) (.cons (.int .i64 (.var 1)) .nil)))) (.lit (1000000000))) (.var 2))
 (.ret (.tup (.cons (.agg (.cons (.int .i64 (.lit (0))) (.cons (.int .i64 (.lit (0))) (.cons (.int .i64 (.lit (0))) .nil)))) (.cons (.iface 108 (.int .i64 (.lit (10)))) .nil))))
 (.need (.b2 .and (.b2 .le (.lit (-9223372036854775808)) (.var 2)) (.b2 .le (.var 2) (.lit (9223372036854775807))))
 (.br (.not (.b2 .eq (.iapp 16 (.cons (.int .i64 (.lit (86400000000000))) .nil)) (.lit (0))))
 (.ret (.tup (.cons (.agg (.cons (.int .i64 (.lit (0))) (.cons (.int .i64 (.lit (0))) (.cons (.int .i64 (.lit (0))) .nil)))) (.cons (.err (.iapp 16 (.cons (.int .i64 (.lit (86400000000000))) .nil))) .nil))))
 (.need (.b2 .and (.b2 .le (.lit (0)) (.var 0)) (.b2 .and (.b2 .le (.var 0) (.lit (100))) (.b2 .and (.b2 .le (.slen 0) (.lit (32))) (.b2 .and (.b2 .le (.lit (-100000)) (.iapp 14 (.cons (.int .i64 (.var 2)) (.cons (.int .i64 (.lit (86400000000000))) .nil)))) (.b2 .le (.iapp 14 (.cons (.int .i64 (.var 2)) (.cons (.int .i64 (.lit (86400000000000))) .nil))) (.lit (100000)))))))
 (.br (.b2 .lt (.var 2) (.i2 .mul (.iapp 3 (.cons (.int .i64 (.var 0)) (.cons (.slv 0) (.cons (.int .i64 (.iapp 14 (.cons (.int .i64 (.var 2)) (.cons (.int .i64 (.lit (86400000000000))) .nil)))) .nil)))) (.lit (1000000000))))
 (.need (.b2 .and (.b2 .le (.lit (0)) (.var 0)) (.b2 .and (.b2 .le (.var 0) (.lit (100))) (.b2 .and (.b2 .le (.slen 0) (.lit (32))) (.b2 .and (.b2 .le (.lit (-100000)) (.wrap .i64 (.i2 .sub (.iapp 14 (.cons (.int .i64 (.var 2)) (.cons (.int .i64 (.lit (86400000000000))) .nil))) (.lit (1))))) (.b2 .le (.wrap .i64 (.i2 .sub (.iapp 14 (.cons (.int .i64 (.var 2)) (.cons (.int .i64 (.lit (86400000000000))) .nil))) (.lit (1)))) (.lit (100000)))))))
 (.ret (.tup (.cons (.agg (.cons (.int .i64 (.wrap .i64 (.i2 .sub (.iapp 14 (.cons (.int .i64 (.var 2)) (.cons (.int .i64 (.lit (86400000000000))) .nil))) (.lit (1))))) (.cons (.int .i64 (.wrap .i64 (.i2 .quo (.wrap .i64 (.i2 .sub (.var 2) (.i2 .mul (.iapp 3 (.cons (.int .i64 (.var 0)) (.cons (.slv 0) (.cons (.int .i64 (.wrap .i64 (.i2 .sub (.iapp 14 (.cons (.int .i64 (.var 2)) (.cons (.int .i64 (.lit (86400000000000))) .nil))) (.lit (1))))) .nil)))) (.lit (1000000000))))) (.lit (1000000000))))) (.cons (.int .i64 (.i2 .rem (.wrap .i64 (.i2 .sub (.var 2) (.i2 .mul (.iapp 3 (.cons (.int .i64 (.var 0)) (.cons (.slv 0) (.cons (.int .i64 (.wrap .i64 (.i2 .sub (.iapp 14 (.cons (.int .i64 (.var 2)) (.cons (.int .i64 (.lit (86400000000000))) .nil))) (.lit (1))))) .nil)))) (.lit (1000000000))))) (.lit (1000000000)))) .nil)))) (.cons (.cst .nilI) .nil)))))
 (.need (.b2 .and (.b2 .le (.lit (0)) (.var 0)) (.b2 .and (.b2 .le (.var 0) (.lit (100))) (.b2 .and (.b2 .le (.slen 0) (.lit (32))) (.b2 .and (.b2 .le (.lit (-100000)) (.iapp 14 (.cons (.int .i64 (.var 2)) (.cons (.int .i64 (.lit (86400000000000))) .nil)))) (.b2 .le (.iapp 14 (.cons (.int .i64 (.var 2)) (.cons (.int .i64 (.lit (86400000000000))) .nil))) (.lit (100000)))))))
 (.ret (.tup (.cons (.agg (.cons (.int .i64 (.iapp 14 (.cons (.int .i64 (.var 2)) (.cons (.int .i64 (.lit (86400000000000))) .nil)))) (.cons (.int .i64 (.wrap .i64 (.i2 .quo (.wrap .i64 (.i2 .sub (.var 2) (.i2 .mul (.iapp 3 (.cons (.int .i64 (.var 0)) (.cons (.slv 0) (.cons (.int .i64 (.iapp 14 (.cons (.int .i64 (.var 2)) (.cons (.int .i64 (.lit (86400000000000))) .nil)))) .nil)))) (.lit (1000000000))))) (.lit (1000000000))))) (.cons (.int .i64 (.i2 .rem (.wrap .i64 (.i2 .sub (.var 2) (.i2 .mul (.iapp 3 (.cons (.int .i64 (.var 0)) (.cons (.slv 0) (.cons (.int .i64 (.iapp 14 (.cons (.int .i64 (.var 2)) (.cons (.int .i64 (.lit (86400000000000))) .nil)))) .nil)))) (.lit (1000000000))))) (.lit (1000000000)))) .nil)))) (.cons (.cst .nilI) .nil))))))))))))))))
theorem lutc_w : walk Tryd.prog 108 ⟨[x9bc_check, x9bc_size, x9bc_begin, x9bc_div], [[.int .i64]]⟩ [] 25 [(.agg (.cons (.int .i64 (.var 0)) (.cons (.int .i64 (.var 1)) (.cons (.sl 0) .nil)))), (.int .i64 (.var 2))] ⟨3, 0, 0, 0⟩ 2000 = some lutc_tree := by kernel_rfl
set_option maxHeartbeats 4000000 in
theorem lutc_h (b : Int) (t : Int) (l : Slc) (n : Int) (e0 : l.esz = 1) (hn : InR n) : lutc_tree.holds (fun v => v = .tuple #[.agg #[.int .i64 (utcD b t (intsOf l.all) n), .int .i64 (utcS b t (intsOf l.all) n), .int .i64 (utcN b t (intsOf l.all) n)], errVal 108 (utcE b t (intsOf l.all) n)]) (x9bE [b, t, n] [] [] [] (slsOf [l])) := by
  unfold lutc_tree
  simp only [Tree.holds, Sx.holds, denV, denI, denB, denL, I2.den, x9bI, x9bB, x9bV, List.getD_cons_zero, List.getD_cons_succ, Cst.den, slsOf_zero, slsOf_one, B2.ofInts, B2.denI, B2.denB, if_true, Bool.false_eq_true, if_false]
  have hq : dqE n 86400000000000 = n / 86400000000000 := by unfold dqE; simp
  have hq1 : IntKind.wrap .i64 (dqE n 86400000000000 - 1) = n / 86400000000000 - 1 := by rw [hq]; exact IntWalk.i64_in _ (by omega)
  simp only [hq1]
  have hd : deE 86400000000000 = 0 := by decide
  simp only [hq] at *
  have f1 := utcE_spec b t (intsOf l.all) n
  have f3 := szE_spec n hn
  have hlen := ints_len l e0
  have g1 := secL_spec b (intsOf l.all) (-50000)
  have g2 := secL_spec b (intsOf l.all) t
  have g3 := secL_spec b (intsOf l.all) (n / 86400000000000)
  have g4 := secL_spec b (intsOf l.all) (n / 86400000000000 - 1)
  refine ⟨fun h0 => ?_, fun h0 => ?_⟩
  ·
    try clear wf1 wf2
    have f2 := utc_spec b t (intsOf l.all) n
    have f4 := utcDay_two b (intsOf l.all) n
    first
    | (exfalso; omega)
    | (simp only [Value.tuple.injEq, Value.agg.injEq, Value.int.injEq, Array.mk.injEq, List.cons.injEq, true_and, and_true]; exact ⟨by omega, by first | exact errV1 (by omega) | exact errV0 (by omega) | exact errV2 (by omega) | exact errV10 (by omega) | (exfalso; omega) | (refine congrArg (errVal _) ?_; omega)⟩)
    | (have hD : utcDay b (intsOf l.all) n = n / 86400000000000 - 1 := (by omega); have gq := gone_q (x := n - secL b (intsOf l.all) (n / 86400000000000 - 1) * 1000000000) (by omega) (by omega); rw [hD] at f2; rw [gq.1, gq.2]; simp only [Value.tuple.injEq, Value.agg.injEq, Value.int.injEq, Array.mk.injEq, List.cons.injEq, true_and, and_true]; exact ⟨by omega, errV0 (by omega)⟩)
    | (have hD : utcDay b (intsOf l.all) n = n / 86400000000000 := (by omega); have gq := gone_q (x := n - secL b (intsOf l.all) (n / 86400000000000) * 1000000000) (by omega) (by omega); rw [hD] at f2; rw [gq.1, gq.2]; simp only [Value.tuple.injEq, Value.agg.injEq, Value.int.injEq, Array.mk.injEq, List.cons.injEq, true_and, and_true]; exact ⟨by omega, errV0 (by omega)⟩)
  ·
    refine ⟨?_, fun h1 => ?_⟩
    ·
      omega
    ·
      refine ⟨fun h2 => ?_, fun h2 => ?_⟩
      ·
        try clear wf1 wf2
        have f2 := utc_spec b t (intsOf l.all) n
        have f4 := utcDay_two b (intsOf l.all) n
        first
        | (exfalso; omega)
        | (simp only [Value.tuple.injEq, Value.agg.injEq, Value.int.injEq, Array.mk.injEq, List.cons.injEq, true_and, and_true]; exact ⟨by omega, by first | exact errV1 (by omega) | exact errV0 (by omega) | exact errV2 (by omega) | exact errV10 (by omega) | (exfalso; omega) | (refine congrArg (errVal _) ?_; omega)⟩)
        | (have hD : utcDay b (intsOf l.all) n = n / 86400000000000 - 1 := (by omega); have gq := gone_q (x := n - secL b (intsOf l.all) (n / 86400000000000 - 1) * 1000000000) (by omega) (by omega); rw [hD] at f2; rw [gq.1, gq.2]; simp only [Value.tuple.injEq, Value.agg.injEq, Value.int.injEq, Array.mk.injEq, List.cons.injEq, true_and, and_true]; exact ⟨by omega, errV0 (by omega)⟩)
        | (have hD : utcDay b (intsOf l.all) n = n / 86400000000000 := (by omega); have gq := gone_q (x := n - secL b (intsOf l.all) (n / 86400000000000) * 1000000000) (by omega) (by omega); rw [hD] at f2; rw [gq.1, gq.2]; simp only [Value.tuple.injEq, Value.agg.injEq, Value.int.injEq, Array.mk.injEq, List.cons.injEq, true_and, and_true]; exact ⟨by omega, errV0 (by omega)⟩)
      ·
        refine ⟨?_, fun h3 => ?_⟩
        ·
          omega
        ·
          refine ⟨fun h4 => ?_, fun h4 => ?_⟩
          ·
            try clear wf1 wf2
            have f2 := utc_spec b t (intsOf l.all) n
            have f4 := utcDay_two b (intsOf l.all) n
            first
            | (exfalso; omega)
            | (simp only [Value.tuple.injEq, Value.agg.injEq, Value.int.injEq, Array.mk.injEq, List.cons.injEq, true_and, and_true]; exact ⟨by omega, by first | exact errV1 (by omega) | exact errV0 (by omega) | exact errV2 (by omega) | exact errV10 (by omega) | (exfalso; omega) | (refine congrArg (errVal _) ?_; omega)⟩)
            | (have hD : utcDay b (intsOf l.all) n = n / 86400000000000 - 1 := (by omega); have gq := gone_q (x := n - secL b (intsOf l.all) (n / 86400000000000 - 1) * 1000000000) (by omega) (by omega); rw [hD] at f2; rw [gq.1, gq.2]; simp only [Value.tuple.injEq, Value.agg.injEq, Value.int.injEq, Array.mk.injEq, List.cons.injEq, true_and, and_true]; exact ⟨by omega, errV0 (by omega)⟩)
            | (have hD : utcDay b (intsOf l.all) n = n / 86400000000000 := (by omega); have gq := gone_q (x := n - secL b (intsOf l.all) (n / 86400000000000) * 1000000000) (by omega) (by omega); rw [hD] at f2; rw [gq.1, gq.2]; simp only [Value.tuple.injEq, Value.agg.injEq, Value.int.injEq, Array.mk.injEq, List.cons.injEq, true_and, and_true]; exact ⟨by omega, errV0 (by omega)⟩)
          ·
            refine ⟨?_, fun h5 => ?_⟩
            ·
              omega
            ·
              refine ⟨fun h6 => ?_, fun h6 => ?_⟩
              ·
                try clear wf1 wf2
                have f2 := utc_spec b t (intsOf l.all) n
                have f4 := utcDay_two b (intsOf l.all) n
                first
                | (exfalso; omega)
                | (simp only [Value.tuple.injEq, Value.agg.injEq, Value.int.injEq, Array.mk.injEq, List.cons.injEq, true_and, and_true]; exact ⟨by omega, by first | exact errV1 (by omega) | exact errV0 (by omega) | exact errV2 (by omega) | exact errV10 (by omega) | (exfalso; omega) | (refine congrArg (errVal _) ?_; omega)⟩)
                | (have hD : utcDay b (intsOf l.all) n = n / 86400000000000 - 1 := (by omega); have gq := gone_q (x := n - secL b (intsOf l.all) (n / 86400000000000 - 1) * 1000000000) (by omega) (by omega); rw [hD] at f2; rw [gq.1, gq.2]; simp only [Value.tuple.injEq, Value.agg.injEq, Value.int.injEq, Array.mk.injEq, List.cons.injEq, true_and, and_true]; exact ⟨by omega, errV0 (by omega)⟩)
                | (have hD : utcDay b (intsOf l.all) n = n / 86400000000000 := (by omega); have gq := gone_q (x := n - secL b (intsOf l.all) (n / 86400000000000) * 1000000000) (by omega) (by omega); rw [hD] at f2; rw [gq.1, gq.2]; simp only [Value.tuple.injEq, Value.agg.injEq, Value.int.injEq, Array.mk.injEq, List.cons.injEq, true_and, and_true]; exact ⟨by omega, errV0 (by omega)⟩)
              ·
                refine ⟨?_, fun h7 => ?_⟩
                ·
                  omega
                ·
                  refine ⟨fun h8 => ?_, fun h8 => ?_⟩
                  ·
                    try clear wf1 wf2
                    have f2 := utc_spec b t (intsOf l.all) n
                    have f4 := utcDay_two b (intsOf l.all) n
                    first
                    | (exfalso; omega)
                    | (simp only [Value.tuple.injEq, Value.agg.injEq, Value.int.injEq, Array.mk.injEq, List.cons.injEq, true_and, and_true]; exact ⟨by omega, by first | exact errV1 (by omega) | exact errV0 (by omega) | exact errV2 (by omega) | exact errV10 (by omega) | (exfalso; omega) | (refine congrArg (errVal _) ?_; omega)⟩)
                    | (have hD : utcDay b (intsOf l.all) n = n / 86400000000000 - 1 := (by omega); have gq := gone_q (x := n - secL b (intsOf l.all) (n / 86400000000000 - 1) * 1000000000) (by omega) (by omega); rw [hD] at f2; rw [gq.1, gq.2]; simp only [Value.tuple.injEq, Value.agg.injEq, Value.int.injEq, Array.mk.injEq, List.cons.injEq, true_and, and_true]; exact ⟨by omega, errV0 (by omega)⟩)
                    | (have hD : utcDay b (intsOf l.all) n = n / 86400000000000 := (by omega); have gq := gone_q (x := n - secL b (intsOf l.all) (n / 86400000000000) * 1000000000) (by omega) (by omega); rw [hD] at f2; rw [gq.1, gq.2]; simp only [Value.tuple.injEq, Value.agg.injEq, Value.int.injEq, Array.mk.injEq, List.cons.injEq, true_and, and_true]; exact ⟨by omega, errV0 (by omega)⟩)
                  ·
                    refine ⟨?_, fun h9 => ?_⟩
                    ·
                      omega
                    ·
                      refine ⟨fun h10 => ?_, fun h10 => ?_⟩
                      ·
                        refine ⟨?_, fun h11 => ?_⟩
                        ·
                          omega
                        ·
                          try simp only [hw0]
                          try clear wf1 wf2
                          have f2 := utc_spec b t (intsOf l.all) n
                          have f4 := utcDay_two b (intsOf l.all) n
                          first
                          | (exfalso; omega)
                          | (simp only [Value.tuple.injEq, Value.agg.injEq, Value.int.injEq, Array.mk.injEq, List.cons.injEq, true_and, and_true]; exact ⟨by omega, by first | exact errV1 (by omega) | exact errV0 (by omega) | exact errV2 (by omega) | exact errV10 (by omega) | (exfalso; omega) | (refine congrArg (errVal _) ?_; omega)⟩)
                          | (have hD : utcDay b (intsOf l.all) n = n / 86400000000000 - 1 := (by omega); have gq := gone_q (x := n - secL b (intsOf l.all) (n / 86400000000000 - 1) * 1000000000) (by omega) (by omega); rw [hD] at f2; rw [gq.1, gq.2]; simp only [Value.tuple.injEq, Value.agg.injEq, Value.int.injEq, Array.mk.injEq, List.cons.injEq, true_and, and_true]; exact ⟨by omega, errV0 (by omega)⟩)
                          | (have hD : utcDay b (intsOf l.all) n = n / 86400000000000 := (by omega); have gq := gone_q (x := n - secL b (intsOf l.all) (n / 86400000000000) * 1000000000) (by omega) (by omega); rw [hD] at f2; rw [gq.1, gq.2]; simp only [Value.tuple.injEq, Value.agg.injEq, Value.int.injEq, Array.mk.injEq, List.cons.injEq, true_and, and_true]; exact ⟨by omega, errV0 (by omega)⟩)
                      ·
                        refine ⟨?_, fun h12 => ?_⟩
                        ·
                          omega
                        ·
                          try clear wf1 wf2
                          have f2 := utc_spec b t (intsOf l.all) n
                          have f4 := utcDay_two b (intsOf l.all) n
                          first
                          | (exfalso; omega)
                          | (simp only [Value.tuple.injEq, Value.agg.injEq, Value.int.injEq, Array.mk.injEq, List.cons.injEq, true_and, and_true]; exact ⟨by omega, by first | exact errV1 (by omega) | exact errV0 (by omega) | exact errV2 (by omega) | exact errV10 (by omega) | (exfalso; omega) | (refine congrArg (errVal _) ?_; omega)⟩)
                          | (have hD : utcDay b (intsOf l.all) n = n / 86400000000000 - 1 := (by omega); have gq := gone_q (x := n - secL b (intsOf l.all) (n / 86400000000000 - 1) * 1000000000) (by omega) (by omega); rw [hD] at f2; rw [gq.1, gq.2]; simp only [Value.tuple.injEq, Value.agg.injEq, Value.int.injEq, Array.mk.injEq, List.cons.injEq, true_and, and_true]; exact ⟨by omega, errV0 (by omega)⟩)
                          | (have hD : utcDay b (intsOf l.all) n = n / 86400000000000 := (by omega); have gq := gone_q (x := n - secL b (intsOf l.all) (n / 86400000000000) * 1000000000) (by omega) (by omega); rw [hD] at f2; rw [gq.1, gq.2]; simp only [Value.tuple.injEq, Value.agg.injEq, Value.int.injEq, Array.mk.injEq, List.cons.injEq, true_and, and_true]; exact ⟨by omega, errV0 (by omega)⟩)
theorem lutc (b : Int) (t : Int) (l : Slc) (n : Int) (e0 : l.esz = 1) (hn : InR n) (w : World) (hs0 : SlOk w l [.int .i64]) : Calls Tryd.prog 25 #[.agg #[.int .i64 b, .int .i64 t, l.val], .int .i64 n] w fun e w' => e = .returned (.tuple #[.agg #[.int .i64 (utcD b t (intsOf l.all) n), .int .i64 (utcS b t (intsOf l.all) n), .int .i64 (utcN b t (intsOf l.all) n)], errVal 108 (utcE b t (intsOf l.all) n)]) ∧ Below w.heap.size w w' := by
  have h := calls_by (n := ⟨3, 0, 0, 0⟩) (x9bE [b, t, n] [] [] [] (slsOf [l])) (vs := [.agg #[.int .i64 b, .int .i64 t, l.val], .int .i64 n]) (W := w) x9bm lutc_w rfl ⟨rfl, rfl, rfl, rfl⟩ ⟨(good_cons (x9bg_check _ _ _ _ _ _) (good_cons (x9bg_size _ _ _ _ _ _) (good_cons (x9bg_begin _ _ _ _ _ _) (good_cons (x9bg_div _ _ _ _ _ _) good_nil)))), (slsOk_cons hs0 slsOk_nil)⟩ (lutc_h b t l n e0 hn) rfl
  exact calls_eq h
def rutc_tree : Tree :=
 (.need (.b2 .le (.slen 0) (.lit (9223372036854775807)))
 (.br (.not (.b2 .eq (.iapp 0 (.cons (.int .i64 (.var 0)) (.cons (.int .i64 (.var 1)) (.cons (.slv 0) .nil)))) (.lit (0))))
 (.ret (.tup (.cons (.agg (.cons (.int .i64 (.lit (0))) (.cons (.int .i64 (.lit (0))) (.cons (.int .i64 (.lit (0))) .nil)))) (.cons (.int .i64 (.lit (1))) .nil))))
 (.br (.b2 .le (.var 2) (.lit (-4611686018427387904)))
 (.ret (.tup (.cons (.agg (.cons (.int .i64 (.lit (0))) (.cons (.int .i64 (.lit (0))) (.cons (.int .i64 (.lit (0))) .nil)))) (.cons (.int .i64 (.lit (2))) .nil))))
 (.br (.b2 .le (.lit (4611686018427387904)) (.var 2))
 (.ret (.tup (.cons (.agg (.cons (.int .i64 (.lit (0))) (.cons (.int .i64 (.lit (0))) (.cons (.int .i64 (.lit (0))) .nil)))) (.cons (.int .i64 (.lit (2))) .nil))))
 (.br (.b2 .lt (.var 2) (.lit (0)))
 (.br (.not (.b2 .eq (.wrap .i64 (.i2 .mul (.wrap .i64 (.i2 .quo (.var 2) (.lit (1000000000)))) (.lit (1000000000)))) (.var 2)))
 (.need (.b2 .and (.b2 .le (.lit (0)) (.var 0)) (.b2 .and (.b2 .le (.var 0) (.lit (100))) (.b2 .le (.slen 0) (.lit (32)))))
 (.br (.b2 .lt (.wrap .i64 (.i2 .sub (.wrap .i64 (.i2 .quo (.var 2) (.lit (1000000000)))) (.lit (1)))) (.iapp 3 (.cons (.int .i64 (.var 0)) (.cons (.slv 0) (.cons (.int .i64 (.lit (-50000))) .nil)))))
 (.ret (.tup (.cons (.agg (.cons (.int .i64 (.lit (0))) (.cons (.int .i64 (.lit (0))) (.cons (.int .i64 (.lit (0))) .nil)))) (.cons (.int .i64 (.lit (2))) .nil))))
 (.need (.b2 .and (.b2 .le (.lit (0)) (.var 0)) (.b2 .and (.b2 .le (.var 0) (.lit (100))) (.b2 .and (.b2 .le (.slen 0) (.lit (32))) (.b2 .and (.b2 .le (.lit (-100000)) (.var 1)) (.b2 .le (.var 1) (.lit (100000)))))))
 (.br (.b2 .le (.iapp 3 (.cons (.int .i64 (.var 0)) (.cons (.slv 0) (.cons (.int .i64 (.var 1)) .nil)))) (.wrap .i64 (.i2 .sub (.wrap .i64 (.i2 .quo (.var 2) (.lit (1000000000)))) (.lit (1)))))
 (.ret (.tup (.cons (.agg (.cons (.int .i64 (.lit (0))) (.cons (.int .i64 (.lit (0))) (.cons (.int .i64 (.lit (0))) .nil)))) (.cons (.int .i64 (.lit (10))) .nil))))
 (.loop ⟨2, 0, 0, 0⟩ (.b2 .and (.b2 .le (.lit (-50000)) (.lit (-50000))) (.b2 .and (.b2 .lt (.lit (-50000)) (.var 1)) (.b2 .and (.b2 .le (.var 1) (.var 1)) (.b2 .and (.b2 .le (.i2 .mul (.iapp 3 (.cons (.int .i64 (.var 0)) (.cons (.slv 0) (.cons (.int .i64 (.lit (-50000))) .nil)))) (.lit (1000000000))) (.var 2)) (.b2 .lt (.var 2) (.i2 .mul (.iapp 3 (.cons (.int .i64 (.var 0)) (.cons (.slv 0) (.cons (.int .i64 (.var 1)) .nil)))) (.lit (1000000000)))))))) (.b2 .and (.b2 .le (.lit (-50000)) (.var 3)) (.b2 .and (.b2 .lt (.var 3) (.var 4)) (.b2 .and (.b2 .le (.var 4) (.var 1)) (.b2 .and (.b2 .le (.i2 .mul (.iapp 3 (.cons (.int .i64 (.var 0)) (.cons (.slv 0) (.cons (.int .i64 (.var 3)) .nil)))) (.lit (1000000000))) (.var 2)) (.b2 .lt (.var 2) (.i2 .mul (.iapp 3 (.cons (.int .i64 (.var 0)) (.cons (.slv 0) (.cons (.int .i64 (.var 4)) .nil)))) (.lit (1000000000))))))))
 (.br (.b2 .lt (.lit (1)) (.wrap .i64 (.i2 .sub (.var 4) (.var 3))))
 (.need (.b2 .and (.b2 .le (.lit (0)) (.var 0)) (.b2 .and (.b2 .le (.var 0) (.lit (100))) (.b2 .and (.b2 .le (.slen 0) (.lit (32))) (.b2 .and (.b2 .le (.lit (-100000)) (.wrap .i64 (.i2 .quo (.wrap .i64 (.i2 .add (.var 3) (.var 4))) (.lit (2))))) (.b2 .le (.wrap .i64 (.i2 .quo (.wrap .i64 (.i2 .add (.var 3) (.var 4))) (.lit (2)))) (.lit (100000)))))))
 (.br (.b2 .le (.iapp 3 (.cons (.int .i64 (.var 0)) (.cons (.slv 0) (.cons (.int .i64 (.wrap .i64 (.i2 .quo (.wrap .i64 (.i2 .add (.var 3) (.var 4))) (.lit (2))))) .nil)))) (.wrap .i64 (.i2 .sub (.wrap .i64 (.i2 .quo (.var 2) (.lit (1000000000)))) (.lit (1)))))
 (.back (.b2 .and (.b2 .le (.lit (-50000)) (.wrap .i64 (.i2 .quo (.wrap .i64 (.i2 .add (.var 3) (.var 4))) (.lit (2))))) (.b2 .and (.b2 .lt (.wrap .i64 (.i2 .quo (.wrap .i64 (.i2 .add (.var 3) (.var 4))) (.lit (2)))) (.var 4)) (.b2 .and (.b2 .le (.var 4) (.var 1)) (.b2 .and (.b2 .le (.i2 .mul (.iapp 3 (.cons (.int .i64 (.var 0)) (.cons (.slv 0) (.cons (.int .i64 (.wrap .i64 (.i2 .quo (.wrap .i64 (.i2 .add (.var 3) (.var 4))) (.lit (2))))) .nil)))) (.lit (1000000000))) (.var 2)) (.b2 .lt (.var 2) (.i2 .mul (.iapp 3 (.cons (.int .i64 (.var 0)) (.cons (.slv 0) (.cons (.int .i64 (.var 4)) .nil)))) (.lit (1000000000)))))))) (.i2 .sub (.var 4) (.wrap .i64 (.i2 .quo (.wrap .i64 (.i2 .add (.var 3) (.var 4))) (.lit (2))))) (.i2 .sub (.var 4) (.var 3)))
 (.back (.b2 .and (.b2 .le (.lit (-50000)) (.var 3)) (.b2 .and (.b2 .lt (.var 3) (.wrap .i64 (.i2 .quo (.wrap .i64 (.i2 .add (.var 3) (.var 4))) (.lit (2))))) (.b2 .and (.b2 .le (.wrap .i64 (.i2 .quo (.wrap .i64 (.i2 .add (.var 3) (.var 4))) (.lit (2)))) (.var 1)) (.b2 .and (.b2 .le (.i2 .mul (.iapp 3 (.cons (.int .i64 (.var 0)) (.cons (.slv 0) (.cons (.int .i64 (.var 3)) .nil)))) (.lit (1000000000))) (.var 2)) (.b2 .lt (.var 2) (.i2 .mul (.iapp 3 (.cons (.int .i64 (.var 0)) (.cons (.slv 0) (.cons (.int .i64 (.wrap .i64 (.i2 .quo (.wrap .i64 (.i2 .add (.var 3) (.var 4))) (.lit (2))))) .nil)))) (.lit (1000000000)))))))) (.i2 .sub (.wrap .i64 (.i2 .quo (.wrap .i64 (.i2 .add (.var 3) (.var 4))) (.lit (2)))) (.var 3)) (.i2 .sub (.var 4) (.var 3)))))
 (.need (.b2 .and (.b2 .le (.lit (0)) (.var 0)) (.b2 .and (.b2 .le (.var 0) (.lit (100))) (.b2 .and (.b2 .le (.slen 0) (.lit (32))) (.b2 .and (.b2 .le (.lit (-100000)) (.var 3)) (.b2 .le (.var 3) (.lit (100000)))))))
 (.ret (.tup (.cons (.agg (.cons (.int .i64 (.var 3)) (.cons (.int .i64 (.wrap .i64 (.i2 .sub (.wrap .i64 (.i2 .sub (.wrap .i64 (.i2 .quo (.var 2) (.lit (1000000000)))) (.lit (1)))) (.iapp 3 (.cons (.int .i64 (.var 0)) (.cons (.slv 0) (.cons (.int .i64 (.var 3)) .nil))))))) (.cons (.int .i64 (.wrap .i64 (.i2 .sub (.var 2) (.wrap .i64 (.i2 .mul (.wrap .i64 (.i2 .sub (.wrap .i64 (.i2 .quo (.var 2) (.lit (1000000000)))) (.lit (1)))) (.lit (1000000000))))))) .nil)))) (.cons (.int .i64 (.lit (0))) .nil)))))))))))
 (.need (.b2 .and (.b2 .le (.lit (0)) (.var 0)) (.b2 .and (.b2 .le (.var 0) (.lit (100))) (.b2 .le (.slen 0) (.lit (32)))))
 (.br (.b2 .lt (.wrap .i64 (.i2 .quo (.var 2) (.lit (1000000000)))) (.iapp 3 (.cons (.int .i64 (.var 0)) (.cons (.slv 0) (.cons (.int .i64 (.lit (-50000))) .nil)))))
 (.ret (.tup (.cons (.agg (.cons (.int .i64 (.lit (0))) (.cons (.int .i64 (.lit (0))) (.cons (.int .i64 (.lit (0))) .nil)))) (.cons (.int .i64 (.lit (2))) .nil))))
 (.need (.b2 .and (.b2 .le (.lit (0)) (.var 0)) (.b2 .and (.b2 .le (.var 0) (.lit (100))) (.b2 .and (.b2 .le (.slen 0) (.lit (32))) (.b2 .and (.b2 .le (.lit (-100000)) (.var 1)) (.b2 .le (.var 1) (.lit (100000)))))))
 (.br (.b2 .le (.iapp 3 (.cons (.int .i64 (.var 0)) (.cons (.slv 0) (.cons (.int .i64 (.var 1)) .nil)))) (.wrap .i64 (.i2 .quo (.var 2) (.lit (1000000000)))))
 (.ret (.tup (.cons (.agg (.cons (.int .i64 (.lit (0))) (.cons (.int .i64 (.lit (0))) (.cons (.int .i64 (.lit (0))) .nil)))) (.cons (.int .i64 (.lit (10))) .nil))))
 (.loop ⟨2, 0, 0, 0⟩ (.b2 .and (.b2 .le (.lit (-50000)) (.lit (-50000))) (.b2 .and (.b2 .lt (.lit (-50000)) (.var 1)) (.b2 .and (.b2 .le (.var 1) (.var 1)) (.b2 .and (.b2 .le (.i2 .mul (.iapp 3 (.cons (.int .i64 (.var 0)) (.cons (.slv 0) (.cons (.int .i64 (.lit (-50000))) .nil)))) (.lit (1000000000))) (.var 2)) (.b2 .lt (.var 2) (.i2 .mul (.iapp 3 (.cons (.int .i64 (.var 0)) (.cons (.slv 0) (.cons (.int .i64 (.var 1)) .nil)))) (.lit (1000000000)))))))) (.b2 .and (.b2 .le (.lit (-50000)) (.var 3)) (.b2 .and (.b2 .lt (.var 3) (.var 4)) (.b2 .and (.b2 .le (.var 4) (.var 1)) (.b2 .and (.b2 .le (.i2 .mul (.iapp 3 (.cons (.int .i64 (.var 0)) (.cons (.slv 0) (.cons (.int .i64 (.var 3)) .nil)))) (.lit (1000000000))) (.var 2)) (.b2 .lt (.var 2) (.i2 .mul (.iapp 3 (.cons (.int .i64 (.var 0)) (.cons (.slv 0) (.cons (.int .i64 (.var 4)) .nil)))) (.lit (1000000000))))))))
 (.br (.b2 .lt (.lit (1)) (.wrap .i64 (.i2 .sub (.var 4) (.var 3))))
 (.need (.b2 .and (.b2 .le (.lit (0)) (.var 0)) (.b2 .and (.b2 .le (.var 0) (.lit (100))) (.b2 .and (.b2 .le (.slen 0) (.lit (32))) (.b2 .and (.b2 .le (.lit (-100000)) (.wrap .i64 (.i2 .quo (.wrap .i64 (.i2 .add (.var 3) (.var 4))) (.lit (2))))) (.b2 .le (.wrap .i64 (.i2 .quo (.wrap .i64 (.i2 .add (.var 3) (.var 4))) (.lit (2)))) (.lit (100000)))))))
 (.br (.b2 .le (.iapp 3 (.cons (.int .i64 (.var 0)) (.cons (.slv 0) (.cons (.int .i64 (.wrap .i64 (.i2 .quo (.wrap .i64 (.i2 .add (.var 3) (.var 4))) (.lit (2))))) .nil)))) (.wrap .i64 (.i2 .quo (.var 2) (.lit (1000000000)))))
 (.back (.b2 .and (.b2 .le (.lit (-50000)) (.wrap .i64 (.i2 .quo (.wrap .i64 (.i2 .add (.var 3) (.var 4))) (.lit (2))))) (.b2 .and (.b2 .lt (.wrap .i64 (.i2 .quo (.wrap .i64 (.i2 .add (.var 3) (.var 4))) (.lit (2)))) (.var 4)) (.b2 .and (.b2 .le (.var 4) (.var 1)) (.b2 .and (.b2 .le (.i2 .mul (.iapp 3 (.cons (.int .i64 (.var 0)) (.cons (.slv 0) (.cons (.int .i64 (.wrap .i64 (.i2 .quo (.wrap .i64 (.i2 .add (.var 3) (.var 4))) (.lit (2))))) .nil)))) (.lit (1000000000))) (.var 2)) (.b2 .lt (.var 2) (.i2 .mul (.iapp 3 (.cons (.int .i64 (.var 0)) (.cons (.slv 0) (.cons (.int .i64 (.var 4)) .nil)))) (.lit (1000000000)))))))) (.i2 .sub (.var 4) (.wrap .i64 (.i2 .quo (.wrap .i64 (.i2 .add (.var 3) (.var 4))) (.lit (2))))) (.i2 .sub (.var 4) (.var 3)))
 (.back (.b2 .and (.b2 .le (.lit (-50000)) (.var 3)) (.b2 .and (.b2 .lt (.var 3) (.wrap .i64 (.i2 .quo (.wrap .i64 (.i2 .add (.var 3) (.var 4))) (.lit (2))))) (.b2 .and (.b2 .le (.wrap .i64 (.i2 .quo (.wrap .i64 (.i2 .add (.var 3) (.var 4))) (.lit (2)))) (.var 1)) (.b2 .and (.b2 .le (.i2 .mul (.iapp 3 (.cons (.int .i64 (.var 0)) (.cons (.slv 0) (.cons (.int .i64 (.var 3)) .nil)))) (.lit (1000000000))) (.var 2)) (.b2 .lt (.var 2) (.i2 .mul (.iapp 3 (.cons (.int .i64 (.var 0)) (.cons (.slv 0) (.cons (.int .i64 (.wrap .i64 (.i2 .quo (.wrap .i64 (.i2 .add (.var 3) (.var 4))) (.lit (2))))) .nil)))) (.lit (1000000000)))))))) (.i2 .sub (.wrap .i64 (.i2 .quo (.wrap .i64 (.i2 .add (.var 3) (.var 4))) (.lit (2)))) (.var 3)) (.i2 .sub (.var 4) (.var 3)))))
 (.need (.b2 .and (.b2 .le (.lit (0)) (.var 0)) (.b2 .and (.b2 .le (.var 0) (.lit (100))) (.b2 .and (.b2 .le (.slen 0) (.lit (32))) (.b2 .and (.b2 .le (.lit (-100000)) (.var 3)) (.b2 .le (.var 3) (.lit (100000)))))))
 (.ret (.tup (.cons (.agg (.cons (.int .i64 (.var 3)) (.cons (.int .i64 (.wrap .i64 (.i2 .sub (.wrap .i64 (.i2 .quo (.var 2) (.lit (1000000000)))) (.iapp 3 (.cons (.int .i64 (.var 0)) (.cons (.slv 0) (.cons (.int .i64 (.var 3)) .nil))))))) (.cons (.int .i64 (.wrap .i64 (.i2 .sub (.var 2) (.wrap .i64 (.i2 .mul (.wrap .i64 (.i2 .quo (.var 2) (.lit (1000000000)))) (.lit (1000000000))))))) .nil)))) (.cons (.int .i64 (.lit (0))) .nil))))))))))))
 (.need (.b2 .and (.b2 .le (.lit (0)) (.var 0)) (.b2 .and (.b2 .le (.var 0) (.lit (100))) (.b2 .le (.slen 0) (.lit (32)))))
 (.br (.b2 .lt (.wrap .i64 (.i2 .quo (.var 2) (.lit (1000000000)))) (.iapp 3 (.cons (.int .i64 (.var 0)) (.cons (.slv 0) (.cons (.int .i64 (.lit (-50000))) .nil)))))
 (.ret (.tup (.cons (.agg (.cons (.int .i64 (.lit (0))) (.cons (.int .i64 (.lit (0))) (.cons (.int .i64 (.lit (0))) .nil)))) (.cons (.int .i64 (.lit (2))) .nil))))
 (.need (.b2 .and (.b2 .le (.lit (0)) (.var 0)) (.b2 .and (.b2 .le (.var 0) (.lit (100))) (.b2 .and (.b2 .le (.slen 0) (.lit (32))) (.b2 .and (.b2 .le (.lit (-100000)) (.var 1)) (.b2 .le (.var 1) (.lit (100000)))))))
 (.br (.b2 .le (.iapp 3 (.cons (.int .i64 (.var 0)) (.cons (.slv 0) (.cons (.int .i64 (.var 1)) .nil)))) (.wrap .i64 (.i2 .quo (.var 2) (.lit (1000000000)))))
 (.ret (.tup (.cons (.agg (.cons (.int .i64 (.lit (0))) (.cons (.int .i64 (.lit (0))) (.cons (.int .i64 (.lit (0))) .nil)))) (.cons (.int .i64 (.lit (10))) .nil))))
 (.loop ⟨2, 0, 0, 0⟩ (.b2 .and (.b2 .le (.lit (-50000)) (.lit (-50000))) (.b2 .and (.b2 .lt (.lit (-50000)) (.var 1)) (.b2 .and (.b2 .le (.var 1) (.var 1)) (.b2 .and (.b2 .le (.i2 .mul (.iapp 3 (.cons (.int .i64 (.var 0)) (.cons (.slv 0) (.cons (.int .i64 (.lit (-50000))) .nil)))) (.lit (1000000000))) (.var 2)) (.b2 .lt (.var 2) (.i2 .mul (.iapp 3 (.cons (.int .i64 (.var 0)) (.cons (.slv 0) (.cons (.int .i64 (.var 1)) .nil)))) (.lit (1000000000)))))))) (.b2 .and (.b2 .le (.lit (-50000)) (.var 3)) (.b2 .and (.b2 .lt (.var 3) (.var 4)) (.b2 .and (.b2 .le (.var 4) (.var 1)) (.b2 .and (.b2 .le (.i2 .mul (.iapp 3 (.cons (.int .i64 (.var 0)) (.cons (.slv 0) (.cons (.int .i64 (.var 3)) .nil)))) (.lit (1000000000))) (.var 2)) (.b2 .lt (.var 2) (.i2 .mul (.iapp 3 (.cons (.int .i64 (.var 0)) (.cons (.slv 0) (.cons (.int .i64 (.var 4)) .nil)))) (.lit (1000000000))))))))
 (.br (.b2 .lt (.lit (1)) (.wrap .i64 (.i2 .sub (.var 4) (.var 3))))
 (.need (.b2 .and (.b2 .le (.lit (0)) (.var 0)) (.b2 .and (.b2 .le (.var 0) (.lit (100))) (.b2 .and (.b2 .le (.slen 0) (.lit (32))) (.b2 .and (.b2 .le (.lit (-100000)) (.wrap .i64 (.i2 .quo (.wrap .i64 (.i2 .add (.var 3) (.var 4))) (.lit (2))))) (.b2 .le (.wrap .i64 (.i2 .quo (.wrap .i64 (.i2 .add (.var 3) (.var 4))) (.lit (2)))) (.lit (100000)))))))
 (.br (.b2 .le (.iapp 3 (.cons (.int .i64 (.var 0)) (.cons (.slv 0) (.cons (.int .i64 (.wrap .i64 (.i2 .quo (.wrap .i64 (.i2 .add (.var 3) (.var 4))) (.lit (2))))) .nil)))) (.wrap .i64 (.i2 .quo (.var 2) (.lit (1000000000)))))
 (.back (.b2 .and (.b2 .le (.lit (-50000)) (.wrap .i64 (.i2 .quo (.wrap .i64 (.i2 .add (.var 3) (.var 4))) (.lit (2))))) (.b2 .and (.b2 .lt (.wrap .i64 (.i2 .quo (.wrap .i64 (.i2 .add (.var 3) (.var 4))) (.lit (2)))) (.var 4)) (.b2 .and (.b2 .le (.var 4) (.var 1)) (.b2 .and (.b2 .le (.i2 .mul (.iapp 3 (.cons (.int .i64 (.var 0)) (.cons (.slv 0) (.cons (.int .i64 (.wrap .i64 (.i2 .quo (.wrap .i64 (.i2 .add (.var 3) (.var 4))) (.lit (2))))) .nil)))) (.lit (1000000000))) (.var 2)) (.b2 .lt (.var 2) (.i2 .mul (.iapp 3 (.cons (.int .i64 (.var 0)) (.cons (.slv 0) (.cons (.int .i64 (.var 4)) .nil)))) (.lit (1000000000)))))))) (.i2 .sub (.var 4) (.wrap .i64 (.i2 .quo (.wrap .i64 (.i2 .add (.var 3) (.var 4))) (.lit (2))))) (.i2 .sub (.var 4) (.var 3)))
 (.back (.b2 .and (.b2 .le (.lit (-50000)) (.var 3)) (.b2 .and (.b2 .lt (.var 3) (.wrap .i64 (.i2 .quo (.wrap .i64 (.i2 .add (.var 3) (.var 4))) (.lit (2))))) (.b2 .and (.b2 .le (.wrap .i64 (.i2 .quo (.wrap .i64 (.i2 .add (.var 3) (.var 4))) (.lit (2)))) (.var 1)) (.b2 .and (.b2 .le (.i2 .mul (.iapp 3 (.cons (.int .i64 (.var 0)) (.cons (.slv 0) (.cons (.int .i64 (.var 3)) .nil)))) (.lit (1000000000))) (.var 2)) (.b2 .lt (.var 2) (.i2 .mul (.iapp 3 (.cons (.int .i64 (.var 0)) (.cons (.slv 0) (.cons (.int .i64 (.wrap .i64 (.i2 .quo (.wrap .i64 (.i2 .add (.var 3) (.var 4))) (.lit (2))))) .nil)))) (.lit (1000000000)))))))) (.i2 .sub (.wrap .i64 (.i2 .quo (.wrap .i64 (.i2 .add (.var 3) (.var 4))) (.lit (2)))) (.var 3)) (.i2 .sub (.var 4) (.var 3)))))
 (.need (.b2 .and (.b2 .le (.lit (0)) (.var 0)) (.b2 .and (.b2 .le (.var 0) (.lit (100))) (.b2 .and (.b2 .le (.slen 0) (.lit (32))) (.b2 .and (.b2 .le (.lit (-100000)) (.var 3)) (.b2 .le (.var 3) (.lit (100000)))))))
 (.ret (.tup (.cons (.agg (.cons (.int .i64 (.var 3)) (.cons (.int .i64 (.wrap .i64 (.i2 .sub (.wrap .i64 (.i2 .quo (.var 2) (.lit (1000000000)))) (.iapp 3 (.cons (.int .i64 (.var 0)) (.cons (.slv 0) (.cons (.int .i64 (.var 3)) .nil))))))) (.cons (.int .i64 (.wrap .i64 (.i2 .sub (.var 2) (.wrap .i64 (.i2 .mul (.wrap .i64 (.i2 .quo (.var 2) (.lit (1000000000)))) (.lit (1000000000))))))) .nil)))) (.cons (.int .i64 (.lit (0))) .nil))))))))))))))))
theorem rutc_w : walk Tryd.prog 108 ⟨[x9bc_rmay, x9bc_rsec], [[.int .i64]]⟩ [⟨0, ⟨2, 0, 0, 0⟩, [(7, (.int .i64 (.var 3))), (8, (.int .i64 (.var 4)))], none, (.b2 .and (.b2 .le (.lit (-50000)) (.var 3)) (.b2 .and (.b2 .lt (.var 3) (.var 4)) (.b2 .and (.b2 .le (.var 4) (.var 1)) (.b2 .and (.b2 .le (.i2 .mul (.iapp 3 (.cons (.int .i64 (.var 0)) (.cons (.slv 0) (.cons (.int .i64 (.var 3)) .nil)))) (.lit (1000000000))) (.var 2)) (.b2 .lt (.var 2) (.i2 .mul (.iapp 3 (.cons (.int .i64 (.var 0)) (.cons (.slv 0) (.cons (.int .i64 (.var 4)) .nil)))) (.lit (1000000000)))))))), (.i2 .sub (.var 4) (.var 3))⟩] 26 [(.agg (.cons (.int .i64 (.var 0)) (.cons (.int .i64 (.var 1)) (.cons (.sl 0) .nil)))), (.int .i64 (.var 2))] ⟨3, 0, 0, 0⟩ 2000 = some rutc_tree := by kernel_rfl
set_option maxHeartbeats 4000000 in
theorem rutc_h (b : Int) (t : Int) (l : Slc) (n : Int) (e0 : l.esz = 1) (hl : l.len ≤ 9223372036854775807) (hn : InR n) : rutc_tree.holds (fun v => v = .tuple #[.agg #[.int .i64 (utcD b t (intsOf l.all) n), .int .i64 (utcS b t (intsOf l.all) n), .int .i64 (utcN b t (intsOf l.all) n)], .int .i64 (utcE b t (intsOf l.all) n)]) (x9bE [b, t, n] [] [] [] (slsOf [l])) := by
  unfold rutc_tree
  simp only [AllN, Env.more, x9bE, List.cons_append, List.nil_append, List.append_nil, Tree.holds, Sx.holds, denV, denI, denB, denL, I2.den, x9bI, x9bB, x9bV, List.getD_cons_zero, List.getD_cons_succ, Cst.den, slsOf_zero, slsOf_one, B2.ofInts, B2.denI, B2.denB, if_true, Bool.false_eq_true, if_false]
  have f1 := utcE_spec b t (intsOf l.all) n
  have td := td_spec n (k := 1000000000) (by omega)
  have hs1 : IntKind.wrap .i64 (Int.tdiv n 1000000000) = Int.tdiv n 1000000000 := IntWalk.i64_in _ (by omega)
  have hs2 : IntKind.wrap .i64 (Int.tdiv n 1000000000 * 1000000000) = Int.tdiv n 1000000000 * 1000000000 := IntWalk.i64_in _ (by omega)
  have hs3 : IntKind.wrap .i64 (Int.tdiv n 1000000000 - 1) = Int.tdiv n 1000000000 - 1 := IntWalk.i64_in _ (by omega)
  simp only [hs1, hs2, hs3]
  have hlen := ints_len l e0
  have m1 := secL_mono b (intsOf l.all) t (-50000)
  have g1 := secL_spec b (intsOf l.all) (-50000)
  have g2 := secL_spec b (intsOf l.all) t
  refine ⟨?_, fun h0 => ?_⟩
  ·
    omega
  ·
    refine ⟨fun h1 => ?_, fun h1 => ?_⟩
    ·
      have f2 := utc_spec b t (intsOf l.all) n
      first
      | (exfalso; omega)
      | (simp only [Value.tuple.injEq, Value.agg.injEq, Value.int.injEq, Array.mk.injEq, List.cons.injEq, true_and, and_true]; (exact ⟨by omega, by omega⟩))
    ·
      refine ⟨fun h2 => ?_, fun h2 => ?_⟩
      ·
        have f2 := utc_spec b t (intsOf l.all) n
        first
        | (exfalso; omega)
        | (simp only [Value.tuple.injEq, Value.agg.injEq, Value.int.injEq, Array.mk.injEq, List.cons.injEq, true_and, and_true]; (exact ⟨by omega, by omega⟩))
      ·
        refine ⟨fun h3 => ?_, fun h3 => ?_⟩
        ·
          have f2 := utc_spec b t (intsOf l.all) n
          first
          | (exfalso; omega)
          | (simp only [Value.tuple.injEq, Value.agg.injEq, Value.int.injEq, Array.mk.injEq, List.cons.injEq, true_and, and_true]; (exact ⟨by omega, by omega⟩))
        ·
          refine ⟨fun h4 => ?_, fun h4 => ?_⟩
          ·
            refine ⟨fun h5 => ?_, fun h5 => ?_⟩
            ·
              refine ⟨?_, fun h6 => ?_⟩
              ·
                omega
              ·
                refine ⟨fun h7 => ?_, fun h7 => ?_⟩
                ·
                  have f2 := utc_spec b t (intsOf l.all) n
                  first
                  | (exfalso; omega)
                  | (simp only [Value.tuple.injEq, Value.agg.injEq, Value.int.injEq, Array.mk.injEq, List.cons.injEq, true_and, and_true]; (exact ⟨by omega, by omega⟩))
                ·
                  refine ⟨?_, fun h8 => ?_⟩
                  ·
                    omega
                  ·
                    refine ⟨fun h9 => ?_, fun h9 => ?_⟩
                    ·
                      have f2 := utc_spec b t (intsOf l.all) n
                      first
                      | (exfalso; omega)
                      | (simp only [Value.tuple.injEq, Value.agg.injEq, Value.int.injEq, Array.mk.injEq, List.cons.injEq, true_and, and_true]; (exact ⟨by omega, by omega⟩))
                    ·
                      refine ⟨?_, ?_⟩
                      ·
                        omega
                      ·
                        intro i0a i0b hi0
                        obtain ⟨q0, q1, q2, q3, q4⟩ := hi0
                        have hA : IntKind.wrap .i64 (i0a + i0b) = i0a + i0b := IntWalk.i64_in _ (by omega)
                        have tm := td_spec (i0a + i0b) (k := 2) (by omega)
                        have hB : IntKind.wrap .i64 (Int.tdiv (i0a + i0b) 2) = Int.tdiv (i0a + i0b) 2 := IntWalk.i64_in _ (by omega)
                        have hC : IntKind.wrap .i64 (i0b - i0a) = i0b - i0a := IntWalk.i64_in _ (by omega)
                        simp only [hA, hB, hC]
                        have k1 := secL_spec b (intsOf l.all) i0a
                        have k2 := secL_spec b (intsOf l.all) (i0a + 1)
                        refine ⟨fun h10 => ?_, fun h10 => ?_⟩
                        ·
                          refine ⟨?_, fun h11 => ?_⟩
                          ·
                            omega
                          ·
                            try simp only [hw5]
                            try simp only [hw4]
                            refine ⟨fun h12 => ?_, fun h12 => ?_⟩
                            ·
                              try simp only [hw5]
                              try simp only [hw4]
                              refine ⟨?_, ?_⟩
                              ·
                                omega
                              ·
                                omega
                            ·
                              try simp only [hw5]
                              try simp only [hw4]
                              refine ⟨?_, ?_⟩
                              ·
                                omega
                              ·
                                omega
                        ·
                          refine ⟨?_, fun h13 => ?_⟩
                          ·
                            omega
                          ·
                            have f2 := utc_spec b t (intsOf l.all) n
                            have hb : i0b = i0a + 1 := by omega
                            have hD : utcDay b (intsOf l.all) n = i0a := utcDay_eq (by omega) (by omega) (by omega) q3 (by rw [← hb]; exact q4)
                            rw [hD] at f2
                            rw [hb] at q4
                            first
                            | (have u1 : IntKind.wrap .i64 ((Int.tdiv n 1000000000) - secL b (intsOf l.all) i0a) = (Int.tdiv n 1000000000) - secL b (intsOf l.all) i0a := IntWalk.i64_in _ (by omega); have u2 : IntKind.wrap .i64 ((Int.tdiv n 1000000000) * 1000000000) = (Int.tdiv n 1000000000) * 1000000000 := IntWalk.i64_in _ (by omega); have u3 : IntKind.wrap .i64 (n - (Int.tdiv n 1000000000) * 1000000000) = n - (Int.tdiv n 1000000000) * 1000000000 := IntWalk.i64_in _ (by omega); simp only [u1, u2, u3]; simp only [Value.tuple.injEq, Value.agg.injEq, Value.int.injEq, Array.mk.injEq, List.cons.injEq, true_and, and_true]; exact ⟨by omega, by omega⟩)
                            | (have u1 : IntKind.wrap .i64 ((Int.tdiv n 1000000000 - 1) - secL b (intsOf l.all) i0a) = (Int.tdiv n 1000000000 - 1) - secL b (intsOf l.all) i0a := IntWalk.i64_in _ (by omega); have u2 : IntKind.wrap .i64 ((Int.tdiv n 1000000000 - 1) * 1000000000) = (Int.tdiv n 1000000000 - 1) * 1000000000 := IntWalk.i64_in _ (by omega); have u3 : IntKind.wrap .i64 (n - (Int.tdiv n 1000000000 - 1) * 1000000000) = n - (Int.tdiv n 1000000000 - 1) * 1000000000 := IntWalk.i64_in _ (by omega); simp only [u1, u2, u3]; simp only [Value.tuple.injEq, Value.agg.injEq, Value.int.injEq, Array.mk.injEq, List.cons.injEq, true_and, and_true]; exact ⟨by omega, by omega⟩)
            ·
              refine ⟨?_, fun h14 => ?_⟩
              ·
                omega
              ·
                refine ⟨fun h15 => ?_, fun h15 => ?_⟩
                ·
                  have f2 := utc_spec b t (intsOf l.all) n
                  first
                  | (exfalso; omega)
                  | (simp only [Value.tuple.injEq, Value.agg.injEq, Value.int.injEq, Array.mk.injEq, List.cons.injEq, true_and, and_true]; (exact ⟨by omega, by omega⟩))
                ·
                  refine ⟨?_, fun h16 => ?_⟩
                  ·
                    omega
                  ·
                    refine ⟨fun h17 => ?_, fun h17 => ?_⟩
                    ·
                      have f2 := utc_spec b t (intsOf l.all) n
                      first
                      | (exfalso; omega)
                      | (simp only [Value.tuple.injEq, Value.agg.injEq, Value.int.injEq, Array.mk.injEq, List.cons.injEq, true_and, and_true]; (exact ⟨by omega, by omega⟩))
                    ·
                      refine ⟨?_, ?_⟩
                      ·
                        omega
                      ·
                        intro i1a i1b hi1
                        obtain ⟨q0, q1, q2, q3, q4⟩ := hi1
                        have hA : IntKind.wrap .i64 (i1a + i1b) = i1a + i1b := IntWalk.i64_in _ (by omega)
                        have tm := td_spec (i1a + i1b) (k := 2) (by omega)
                        have hB : IntKind.wrap .i64 (Int.tdiv (i1a + i1b) 2) = Int.tdiv (i1a + i1b) 2 := IntWalk.i64_in _ (by omega)
                        have hC : IntKind.wrap .i64 (i1b - i1a) = i1b - i1a := IntWalk.i64_in _ (by omega)
                        simp only [hA, hB, hC]
                        have k1 := secL_spec b (intsOf l.all) i1a
                        have k2 := secL_spec b (intsOf l.all) (i1a + 1)
                        refine ⟨fun h18 => ?_, fun h18 => ?_⟩
                        ·
                          refine ⟨?_, fun h19 => ?_⟩
                          ·
                            omega
                          ·
                            try simp only [hw11]
                            try simp only [hw10]
                            refine ⟨fun h20 => ?_, fun h20 => ?_⟩
                            ·
                              try simp only [hw11]
                              try simp only [hw10]
                              refine ⟨?_, ?_⟩
                              ·
                                omega
                              ·
                                omega
                            ·
                              try simp only [hw11]
                              try simp only [hw10]
                              refine ⟨?_, ?_⟩
                              ·
                                omega
                              ·
                                omega
                        ·
                          refine ⟨?_, fun h21 => ?_⟩
                          ·
                            omega
                          ·
                            have f2 := utc_spec b t (intsOf l.all) n
                            have hb : i1b = i1a + 1 := by omega
                            have hD : utcDay b (intsOf l.all) n = i1a := utcDay_eq (by omega) (by omega) (by omega) q3 (by rw [← hb]; exact q4)
                            rw [hD] at f2
                            rw [hb] at q4
                            first
                            | (have u1 : IntKind.wrap .i64 ((Int.tdiv n 1000000000) - secL b (intsOf l.all) i1a) = (Int.tdiv n 1000000000) - secL b (intsOf l.all) i1a := IntWalk.i64_in _ (by omega); have u2 : IntKind.wrap .i64 ((Int.tdiv n 1000000000) * 1000000000) = (Int.tdiv n 1000000000) * 1000000000 := IntWalk.i64_in _ (by omega); have u3 : IntKind.wrap .i64 (n - (Int.tdiv n 1000000000) * 1000000000) = n - (Int.tdiv n 1000000000) * 1000000000 := IntWalk.i64_in _ (by omega); simp only [u1, u2, u3]; simp only [Value.tuple.injEq, Value.agg.injEq, Value.int.injEq, Array.mk.injEq, List.cons.injEq, true_and, and_true]; exact ⟨by omega, by omega⟩)
                            | (have u1 : IntKind.wrap .i64 ((Int.tdiv n 1000000000 - 1) - secL b (intsOf l.all) i1a) = (Int.tdiv n 1000000000 - 1) - secL b (intsOf l.all) i1a := IntWalk.i64_in _ (by omega); have u2 : IntKind.wrap .i64 ((Int.tdiv n 1000000000 - 1) * 1000000000) = (Int.tdiv n 1000000000 - 1) * 1000000000 := IntWalk.i64_in _ (by omega); have u3 : IntKind.wrap .i64 (n - (Int.tdiv n 1000000000 - 1) * 1000000000) = n - (Int.tdiv n 1000000000 - 1) * 1000000000 := IntWalk.i64_in _ (by omega); simp only [u1, u2, u3]; simp only [Value.tuple.injEq, Value.agg.injEq, Value.int.injEq, Array.mk.injEq, List.cons.injEq, true_and, and_true]; exact ⟨by omega, by omega⟩)
          ·
            refine ⟨?_, fun h22 => ?_⟩
            ·
              omega
            ·
              refine ⟨fun h23 => ?_, fun h23 => ?_⟩
              ·
                have f2 := utc_spec b t (intsOf l.all) n
                first
                | (exfalso; omega)
                | (simp only [Value.tuple.injEq, Value.agg.injEq, Value.int.injEq, Array.mk.injEq, List.cons.injEq, true_and, and_true]; (exact ⟨by omega, by omega⟩))
              ·
                refine ⟨?_, fun h24 => ?_⟩
                ·
                  omega
                ·
                  refine ⟨fun h25 => ?_, fun h25 => ?_⟩
                  ·
                    have f2 := utc_spec b t (intsOf l.all) n
                    first
                    | (exfalso; omega)
                    | (simp only [Value.tuple.injEq, Value.agg.injEq, Value.int.injEq, Array.mk.injEq, List.cons.injEq, true_and, and_true]; (exact ⟨by omega, by omega⟩))
                  ·
                    refine ⟨?_, ?_⟩
                    ·
                      omega
                    ·
                      intro i2a i2b hi2
                      obtain ⟨q0, q1, q2, q3, q4⟩ := hi2
                      have hA : IntKind.wrap .i64 (i2a + i2b) = i2a + i2b := IntWalk.i64_in _ (by omega)
                      have tm := td_spec (i2a + i2b) (k := 2) (by omega)
                      have hB : IntKind.wrap .i64 (Int.tdiv (i2a + i2b) 2) = Int.tdiv (i2a + i2b) 2 := IntWalk.i64_in _ (by omega)
                      have hC : IntKind.wrap .i64 (i2b - i2a) = i2b - i2a := IntWalk.i64_in _ (by omega)
                      simp only [hA, hB, hC]
                      have k1 := secL_spec b (intsOf l.all) i2a
                      have k2 := secL_spec b (intsOf l.all) (i2a + 1)
                      refine ⟨fun h26 => ?_, fun h26 => ?_⟩
                      ·
                        refine ⟨?_, fun h27 => ?_⟩
                        ·
                          omega
                        ·
                          try simp only [hw17]
                          try simp only [hw16]
                          refine ⟨fun h28 => ?_, fun h28 => ?_⟩
                          ·
                            try simp only [hw17]
                            try simp only [hw16]
                            refine ⟨?_, ?_⟩
                            ·
                              omega
                            ·
                              omega
                          ·
                            try simp only [hw17]
                            try simp only [hw16]
                            refine ⟨?_, ?_⟩
                            ·
                              omega
                            ·
                              omega
                      ·
                        refine ⟨?_, fun h29 => ?_⟩
                        ·
                          omega
                        ·
                          have f2 := utc_spec b t (intsOf l.all) n
                          have hb : i2b = i2a + 1 := by omega
                          have hD : utcDay b (intsOf l.all) n = i2a := utcDay_eq (by omega) (by omega) (by omega) q3 (by rw [← hb]; exact q4)
                          rw [hD] at f2
                          rw [hb] at q4
                          first
                          | (have u1 : IntKind.wrap .i64 ((Int.tdiv n 1000000000) - secL b (intsOf l.all) i2a) = (Int.tdiv n 1000000000) - secL b (intsOf l.all) i2a := IntWalk.i64_in _ (by omega); have u2 : IntKind.wrap .i64 ((Int.tdiv n 1000000000) * 1000000000) = (Int.tdiv n 1000000000) * 1000000000 := IntWalk.i64_in _ (by omega); have u3 : IntKind.wrap .i64 (n - (Int.tdiv n 1000000000) * 1000000000) = n - (Int.tdiv n 1000000000) * 1000000000 := IntWalk.i64_in _ (by omega); simp only [u1, u2, u3]; simp only [Value.tuple.injEq, Value.agg.injEq, Value.int.injEq, Array.mk.injEq, List.cons.injEq, true_and, and_true]; exact ⟨by omega, by omega⟩)
                          | (have u1 : IntKind.wrap .i64 ((Int.tdiv n 1000000000 - 1) - secL b (intsOf l.all) i2a) = (Int.tdiv n 1000000000 - 1) - secL b (intsOf l.all) i2a := IntWalk.i64_in _ (by omega); have u2 : IntKind.wrap .i64 ((Int.tdiv n 1000000000 - 1) * 1000000000) = (Int.tdiv n 1000000000 - 1) * 1000000000 := IntWalk.i64_in _ (by omega); have u3 : IntKind.wrap .i64 (n - (Int.tdiv n 1000000000 - 1) * 1000000000) = n - (Int.tdiv n 1000000000 - 1) * 1000000000 := IntWalk.i64_in _ (by omega); simp only [u1, u2, u3]; simp only [Value.tuple.injEq, Value.agg.injEq, Value.int.injEq, Array.mk.injEq, List.cons.injEq, true_and, and_true]; exact ⟨by omega, by omega⟩)
theorem rutc (b : Int) (t : Int) (l : Slc) (n : Int) (e0 : l.esz = 1) (hl : l.len ≤ 9223372036854775807) (hn : InR n) (w : World) (hs0 : SlOk w l [.int .i64]) : Calls Tryd.prog 26 #[.agg #[.int .i64 b, .int .i64 t, l.val], .int .i64 n] w fun e w' => e = .returned (.tuple #[.agg #[.int .i64 (utcD b t (intsOf l.all) n), .int .i64 (utcS b t (intsOf l.all) n), .int .i64 (utcN b t (intsOf l.all) n)], .int .i64 (utcE b t (intsOf l.all) n)]) ∧ Below w.heap.size w w' := by
  have h := calls_by (n := ⟨3, 0, 0, 0⟩) (x9bE [b, t, n] [] [] [] (slsOf [l])) (vs := [.agg #[.int .i64 b, .int .i64 t, l.val], .int .i64 n]) (W := w) x9bm rutc_w rfl ⟨rfl, rfl, rfl, rfl⟩ ⟨(good_cons (x9bg_rmay _ _ _ _ _ _) (good_cons (x9bg_rsec _ _ _ _ _ _) good_nil)), (slsOk_cons hs0 slsOk_nil)⟩ (rutc_h b t l n e0 hl hn) rfl
  exact calls_eq h
end Go.Proofs.YtehiienjodicpaaDoor
