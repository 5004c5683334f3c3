/-
  Layer 9 by symbolic walks: LeapBack.
-/
import Derived.Test.YtehiienjodicpaaDoorSx
import Derived.Test.YtehiienjodicpaaDoorX09c
namespace Go.Proofs.YtehiienjodicpaaDoor
open Go.RowKit Go.Extern.Stop Go.Stop Go.Extern Go.Proofs.YtehiienjodicpaaDoor.Sx
set_option linter.unusedVariables false
set_option linter.unusedSimpArgs false
def x9dI : Nat → List Value → Int
  | 0, [.int _ b, .int _ t, l] => mayI b t (intsOf l)
  | 1, [l, .int _ d] => (ctL (intsOf l) d : Int)
  | 2, [.int _ b, .int _ t, l, .int _ d] => wrongI b t (intsOf l) d
  | 3, [.int _ b, l, .int _ d] => secL b (intsOf l) d
  | 4, [.int _ b, .int _ t, l, .int _ d] => aheadI b t (intsOf l) d
  | 5, [.int _ b, .int _ t, l, .int _ d] => lenI b t (intsOf l) d
  | 6, [.int _ b, .int _ t, l, .int _ d] => begI b t (intsOf l) d
  | 7, [.int _ b, .int _ t, l, .int _ n] => utcE b t (intsOf l) n
  | 8, [.int _ b, .int _ t, l, .int _ n] => utcD b t (intsOf l) n
  | 9, [.int _ b, .int _ t, l, .int _ n] => utcS b t (intsOf l) n
  | 10, [.int _ b, .int _ t, l, .int _ n] => utcN b t (intsOf l) n
  | 11, [.int _ b, .int _ t, l, .int _ d, .int _ s, .int _ n] => taiE b t (intsOf l) d s n
  | 12, [.int _ b, .int _ t, l, .int _ d, .int _ s, .int _ n] => taiV b t (intsOf l) d s n
  | 13, [.int _ a] => szE a
  | 14, [.int _ a, .int _ b] => dqE a b
  | 15, [.int _ a, .int _ b] => dmE a b
  | 16, [.int _ b] => deE b
  | _, _ => 0
def x9dB : Nat → List Value → Bool
  | 0, [.int _ b, .int _ t, l] => mayL b t (intsOf l)
  | _, _ => false
def x9dV : Nat → List Value → Value
  | _, _ => Go.undef
abbrev x9dE (iv : List Int) (bv : List Bool) (vv : List Value) (sv : List ByteArray) (sls : Nat → Slc) : Env := { sls := sls, iv := iv, bv := bv, vv := vv, sv := sv, fi := x9dI, fb := x9dB, fv := x9dV, et := 108 }
theorem x9dm : Tryd.prog.follows .mixedOrders = true := by kernel_rfl
abbrev x9dc_ahead : Con := ⟨61, [(.agg (.cons (.int .i64 (.var 0)) (.cons (.int .i64 (.var 1)) (.cons (.sl 0) .nil)))), (.int .i64 (.var 2))], (.b2 .and (.b2 .le (.lit (0)) (.var 0)) (.b2 .and (.b2 .le (.var 0) (.lit (100))) (.b2 .le (.slen 0) (.lit (32))))), (.int .i64 (.i2 .add (.var 0) (.iapp 1 (.cons (.slv 0) (.cons (.int .i64 (.var 2)) .nil))))), [[.int .i64]]⟩
theorem x9dg_ahead (iv : List Int) (bv : List Bool) (vv : List Value) (sv : List ByteArray) (sls : Nat → Slc) (W : World) : x9dc_ahead.Good Tryd.prog (x9dE iv bv vv sv sls) W := by
  intro iv bv vv sv sls β hc w hb hsl
  have hs0 := hsl 0 _ rfl
  exact lahead (iv.getD 0 0) (iv.getD 1 0) (sls 0) (iv.getD 2 0) hs0.1.symm (by simp only [Sx.holds, denI] at hc; omega) (by simp only [Sx.holds, denI] at hc; omega) (by simp only [Sx.holds, denI] at hc; omega) w hs0
abbrev x9dc_check : Con := ⟨20, [(.agg (.cons (.int .i64 (.var 0)) (.cons (.int .i64 (.var 1)) (.cons (.sl 0) .nil))))], (.tt true), (.err (.iapp 0 (.cons (.int .i64 (.var 0)) (.cons (.int .i64 (.var 1)) (.cons (.slv 0) .nil))))), [[.int .i64]]⟩
theorem x9dg_check (iv : List Int) (bv : List Bool) (vv : List Value) (sv : List ByteArray) (sls : Nat → Slc) (W : World) : x9dc_check.Good Tryd.prog (x9dE iv bv vv sv sls) W := by
  intro iv bv vv sv sls β hc w hb hsl
  have hs0 := hsl 0 _ rfl
  exact lcheck (iv.getD 0 0) (iv.getD 1 0) (sls 0) hs0.1.symm w hs0
abbrev x9dc_rmay : Con := ⟨21, [(.agg (.cons (.int .i64 (.var 0)) (.cons (.int .i64 (.var 1)) (.cons (.sl 0) .nil))))], (.b2 .le (.slen 0) (.lit (9223372036854775807))), (.bool (.b2 .eq (.iapp 0 (.cons (.int .i64 (.var 0)) (.cons (.int .i64 (.var 1)) (.cons (.slv 0) .nil)))) (.lit (0)))), [[.int .i64]]⟩
theorem x9dg_rmay (iv : List Int) (bv : List Bool) (vv : List Value) (sv : List ByteArray) (sls : Nat → Slc) (W : World) : x9dc_rmay.Good Tryd.prog (x9dE iv bv vv sv sls) W := by
  intro iv bv vv sv sls β hc w hb hsl
  have hs0 := hsl 0 _ rfl
  exact (by have h := rmay (iv.getD 0 0) (iv.getD 1 0) (sls 0) hs0.1.symm (by simp only [Sx.holds, denI] at hc; omega) w hs0; rw [mayB] at h; exact h)
abbrev x9dc_rsec : Con := ⟨24, [(.agg (.cons (.int .i64 (.var 0)) (.cons (.int .i64 (.var 1)) (.cons (.sl 0) .nil)))), (.int .i64 (.var 2))], (.b2 .and (.b2 .le (.lit (0)) (.var 0)) (.b2 .and (.b2 .le (.var 0) (.lit (100))) (.b2 .and (.b2 .le (.slen 0) (.lit (32))) (.b2 .and (.b2 .le (.lit (-100000)) (.var 2)) (.b2 .le (.var 2) (.lit (100000))))))), (.int .i64 (.iapp 3 (.cons (.int .i64 (.var 0)) (.cons (.slv 0) (.cons (.int .i64 (.var 2)) .nil))))), [[.int .i64]]⟩
theorem x9dg_rsec (iv : List Int) (bv : List Bool) (vv : List Value) (sv : List ByteArray) (sls : Nat → Slc) (W : World) : x9dc_rsec.Good Tryd.prog (x9dE iv bv vv sv sls) W := by
  intro iv bv vv sv sls β hc w hb hsl
  have hs0 := hsl 0 _ rfl
  exact rsecond (iv.getD 0 0) (iv.getD 1 0) (sls 0) (iv.getD 2 0) hs0.1.symm (by simp only [Sx.holds, denI] at hc; omega) (by simp only [Sx.holds, denI] at hc; omega) (by simp only [Sx.holds, denI] at hc; omega) (by simp only [Sx.holds, denI] at hc; omega) (by simp only [Sx.holds, denI] at hc; omega) w hs0
abbrev x9dc_LAhead : Con := ⟨16, [(.agg (.cons (.int .i64 (.var 0)) (.cons (.int .i64 (.var 1)) (.cons (.sl 0) .nil)))), (.int .i64 (.var 2))], (.tt true), (.tup (.cons (.int .i64 (.iapp 4 (.cons (.int .i64 (.var 0)) (.cons (.int .i64 (.var 1)) (.cons (.slv 0) (.cons (.int .i64 (.var 2)) .nil)))))) (.cons (.err (.iapp 2 (.cons (.int .i64 (.var 0)) (.cons (.int .i64 (.var 1)) (.cons (.slv 0) (.cons (.int .i64 (.var 2)) .nil)))))) .nil))), [[.int .i64]]⟩
theorem x9dg_LAhead (iv : List Int) (bv : List Bool) (vv : List Value) (sv : List ByteArray) (sls : Nat → Slc) (W : World) : x9dc_LAhead.Good Tryd.prog (x9dE iv bv vv sv sls) W := by
  intro iv bv vv sv sls β hc w hb hsl
  have hs0 := hsl 0 _ rfl
  exact lAhead (iv.getD 0 0) (iv.getD 1 0) (sls 0) (iv.getD 2 0) hs0.1.symm w hs0
abbrev x9dc_LLength : Con := ⟨17, [(.agg (.cons (.int .i64 (.var 0)) (.cons (.int .i64 (.var 1)) (.cons (.sl 0) .nil)))), (.int .i64 (.var 2))], (.tt true), (.tup (.cons (.int .i64 (.iapp 5 (.cons (.int .i64 (.var 0)) (.cons (.int .i64 (.var 1)) (.cons (.slv 0) (.cons (.int .i64 (.var 2)) .nil)))))) (.cons (.err (.iapp 2 (.cons (.int .i64 (.var 0)) (.cons (.int .i64 (.var 1)) (.cons (.slv 0) (.cons (.int .i64 (.var 2)) .nil)))))) .nil))), [[.int .i64]]⟩
theorem x9dg_LLength (iv : List Int) (bv : List Bool) (vv : List Value) (sv : List ByteArray) (sls : Nat → Slc) (W : World) : x9dc_LLength.Good Tryd.prog (x9dE iv bv vv sv sls) W := by
  intro iv bv vv sv sls β hc w hb hsl
  have hs0 := hsl 0 _ rfl
  exact lLength (iv.getD 0 0) (iv.getD 1 0) (sls 0) (iv.getD 2 0) hs0.1.symm w hs0
abbrev x9dc_LBegin : Con := ⟨18, [(.agg (.cons (.int .i64 (.var 0)) (.cons (.int .i64 (.var 1)) (.cons (.sl 0) .nil)))), (.int .i64 (.var 2))], (.tt true), (.tup (.cons (.int .i64 (.iapp 6 (.cons (.int .i64 (.var 0)) (.cons (.int .i64 (.var 1)) (.cons (.slv 0) (.cons (.int .i64 (.var 2)) .nil)))))) (.cons (.err (.iapp 2 (.cons (.int .i64 (.var 0)) (.cons (.int .i64 (.var 1)) (.cons (.slv 0) (.cons (.int .i64 (.var 2)) .nil)))))) .nil))), [[.int .i64]]⟩
theorem x9dg_LBegin (iv : List Int) (bv : List Bool) (vv : List Value) (sv : List ByteArray) (sls : Nat → Slc) (W : World) : x9dc_LBegin.Good Tryd.prog (x9dE iv bv vv sv sls) W := by
  intro iv bv vv sv sls β hc w hb hsl
  have hs0 := hsl 0 _ rfl
  exact lBegin (iv.getD 0 0) (iv.getD 1 0) (sls 0) (iv.getD 2 0) hs0.1.symm w hs0
abbrev x9dc_known : Con := ⟨60, [(.agg (.cons (.int .i64 (.var 0)) (.cons (.int .i64 (.var 1)) (.cons (.sl 0) .nil)))), (.int .i64 (.var 2))], (.tt true), (.err (.iapp 2 (.cons (.int .i64 (.var 0)) (.cons (.int .i64 (.var 1)) (.cons (.slv 0) (.cons (.int .i64 (.var 2)) .nil)))))), [[.int .i64]]⟩
theorem x9dg_known (iv : List Int) (bv : List Bool) (vv : List Value) (sv : List ByteArray) (sls : Nat → Slc) (W : World) : x9dc_known.Good Tryd.prog (x9dE iv bv vv sv sls) W := by
  intro iv bv vv sv sls β hc w hb hsl
  have hs0 := hsl 0 _ rfl
  exact lknown (iv.getD 0 0) (iv.getD 1 0) (sls 0) (iv.getD 2 0) hs0.1.symm w hs0
abbrev x9dc_begin : Con := ⟨62, [(.agg (.cons (.int .i64 (.var 0)) (.cons (.int .i64 (.var 1)) (.cons (.sl 0) .nil)))), (.int .i64 (.var 2))], (.b2 .and (.b2 .le (.lit (0)) (.var 0)) (.b2 .and (.b2 .le (.var 0) (.lit (100))) (.b2 .and (.b2 .le (.slen 0) (.lit (32))) (.b2 .and (.b2 .le (.lit (-100000)) (.var 2)) (.b2 .le (.var 2) (.lit (100000))))))), (.int .i64 (.i2 .mul (.iapp 3 (.cons (.int .i64 (.var 0)) (.cons (.slv 0) (.cons (.int .i64 (.var 2)) .nil)))) (.lit (1000000000)))), [[.int .i64]]⟩
theorem x9dg_begin (iv : List Int) (bv : List Bool) (vv : List Value) (sv : List ByteArray) (sls : Nat → Slc) (W : World) : x9dc_begin.Good Tryd.prog (x9dE iv bv vv sv sls) W := by
  intro iv bv vv sv sls β hc w hb hsl
  have hs0 := hsl 0 _ rfl
  exact lbegin (iv.getD 0 0) (iv.getD 1 0) (sls 0) (iv.getD 2 0) hs0.1.symm (by simp only [Sx.holds, denI] at hc; omega) (by simp only [Sx.holds, denI] at hc; omega) (by simp only [Sx.holds, denI] at hc; omega) (by simp only [Sx.holds, denI] at hc; omega) (by simp only [Sx.holds, denI] at hc; omega) w hs0
abbrev x9dc_rwrong : Con := ⟨19, [(.agg (.cons (.int .i64 (.var 0)) (.cons (.int .i64 (.var 1)) (.cons (.sl 0) .nil)))), (.int .i64 (.var 2))], (.b2 .le (.slen 0) (.lit (9223372036854775807))), (.int .i64 (.iapp 2 (.cons (.int .i64 (.var 0)) (.cons (.int .i64 (.var 1)) (.cons (.slv 0) (.cons (.int .i64 (.var 2)) .nil)))))), [[.int .i64]]⟩
theorem x9dg_rwrong (iv : List Int) (bv : List Bool) (vv : List Value) (sv : List ByteArray) (sls : Nat → Slc) (W : World) : x9dc_rwrong.Good Tryd.prog (x9dE iv bv vv sv sls) W := by
  intro iv bv vv sv sls β hc w hb hsl
  have hs0 := hsl 0 _ rfl
  exact rwrong (iv.getD 0 0) (iv.getD 1 0) (sls 0) (iv.getD 2 0) hs0.1.symm (by simp only [Sx.holds, denI] at hc; omega) w hs0
abbrev x9dc_lutc : Con := ⟨25, [(.agg (.cons (.int .i64 (.var 0)) (.cons (.int .i64 (.var 1)) (.cons (.sl 0) .nil)))), (.int .i64 (.var 2))], (.b2 .and (.b2 .le (.lit (-9223372036854775808)) (.var 2)) (.b2 .le (.var 2) (.lit (9223372036854775807)))), (.tup (.cons (.agg (.cons (.int .i64 (.iapp 8 (.cons (.int .i64 (.var 0)) (.cons (.int .i64 (.var 1)) (.cons (.slv 0) (.cons (.int .i64 (.var 2)) .nil)))))) (.cons (.int .i64 (.iapp 9 (.cons (.int .i64 (.var 0)) (.cons (.int .i64 (.var 1)) (.cons (.slv 0) (.cons (.int .i64 (.var 2)) .nil)))))) (.cons (.int .i64 (.iapp 10 (.cons (.int .i64 (.var 0)) (.cons (.int .i64 (.var 1)) (.cons (.slv 0) (.cons (.int .i64 (.var 2)) .nil)))))) .nil)))) (.cons (.err (.iapp 7 (.cons (.int .i64 (.var 0)) (.cons (.int .i64 (.var 1)) (.cons (.slv 0) (.cons (.int .i64 (.var 2)) .nil)))))) .nil))), [[.int .i64]]⟩
theorem x9dg_lutc (iv : List Int) (bv : List Bool) (vv : List Value) (sv : List ByteArray) (sls : Nat → Slc) (W : World) : x9dc_lutc.Good Tryd.prog (x9dE iv bv vv sv sls) W := by
  intro iv bv vv sv sls β hc w hb hsl
  have hs0 := hsl 0 _ rfl
  exact lutc (iv.getD 0 0) (iv.getD 1 0) (sls 0) (iv.getD 2 0) hs0.1.symm hc w hs0
abbrev x9dc_rutc : Con := ⟨26, [(.agg (.cons (.int .i64 (.var 0)) (.cons (.int .i64 (.var 1)) (.cons (.sl 0) .nil)))), (.int .i64 (.var 2))], (.b2 .and (.b2 .le (.slen 0) (.lit (9223372036854775807))) (.b2 .and (.b2 .le (.lit (-9223372036854775808)) (.var 2)) (.b2 .le (.var 2) (.lit (9223372036854775807))))), (.tup (.cons (.agg (.cons (.int .i64 (.iapp 8 (.cons (.int .i64 (.var 0)) (.cons (.int .i64 (.var 1)) (.cons (.slv 0) (.cons (.int .i64 (.var 2)) .nil)))))) (.cons (.int .i64 (.iapp 9 (.cons (.int .i64 (.var 0)) (.cons (.int .i64 (.var 1)) (.cons (.slv 0) (.cons (.int .i64 (.var 2)) .nil)))))) (.cons (.int .i64 (.iapp 10 (.cons (.int .i64 (.var 0)) (.cons (.int .i64 (.var 1)) (.cons (.slv 0) (.cons (.int .i64 (.var 2)) .nil)))))) .nil)))) (.cons (.int .i64 (.iapp 7 (.cons (.int .i64 (.var 0)) (.cons (.int .i64 (.var 1)) (.cons (.slv 0) (.cons (.int .i64 (.var 2)) .nil)))))) .nil))), [[.int .i64]]⟩
theorem x9dg_rutc (iv : List Int) (bv : List Bool) (vv : List Value) (sv : List ByteArray) (sls : Nat → Slc) (W : World) : x9dc_rutc.Good Tryd.prog (x9dE iv bv vv sv sls) W := by
  intro iv bv vv sv sls β hc w hb hsl
  have hs0 := hsl 0 _ rfl
  exact rutc (iv.getD 0 0) (iv.getD 1 0) (sls 0) (iv.getD 2 0) hs0.1.symm (by simp only [Sx.holds, denI] at hc; omega) hc.2 w hs0
abbrev x9dc_ltai : Con := ⟨27, [(.agg (.cons (.int .i64 (.var 0)) (.cons (.int .i64 (.var 1)) (.cons (.sl 0) .nil)))), (.agg (.cons (.int .i64 (.var 2)) (.cons (.int .i64 (.var 3)) (.cons (.int .i64 (.var 4)) .nil))))], (.b2 .and (.b2 .and (.b2 .le (.lit (-9223372036854775808)) (.var 2)) (.b2 .le (.var 2) (.lit (9223372036854775807)))) (.b2 .and (.b2 .and (.b2 .le (.lit (-9223372036854775808)) (.var 3)) (.b2 .le (.var 3) (.lit (9223372036854775807)))) (.b2 .and (.b2 .le (.lit (-9223372036854775808)) (.var 4)) (.b2 .le (.var 4) (.lit (9223372036854775807)))))), (.tup (.cons (.int .i64 (.iapp 12 (.cons (.int .i64 (.var 0)) (.cons (.int .i64 (.var 1)) (.cons (.slv 0) (.cons (.int .i64 (.var 2)) (.cons (.int .i64 (.var 3)) (.cons (.int .i64 (.var 4)) .nil)))))))) (.cons (.err (.iapp 11 (.cons (.int .i64 (.var 0)) (.cons (.int .i64 (.var 1)) (.cons (.slv 0) (.cons (.int .i64 (.var 2)) (.cons (.int .i64 (.var 3)) (.cons (.int .i64 (.var 4)) .nil)))))))) .nil))), [[.int .i64]]⟩
theorem x9dg_ltai (iv : List Int) (bv : List Bool) (vv : List Value) (sv : List ByteArray) (sls : Nat → Slc) (W : World) : x9dc_ltai.Good Tryd.prog (x9dE iv bv vv sv sls) W := by
  intro iv bv vv sv sls β hc w hb hsl
  have hs0 := hsl 0 _ rfl
  exact ltai (iv.getD 0 0) (iv.getD 1 0) (sls 0) (iv.getD 2 0) (iv.getD 3 0) (iv.getD 4 0) hs0.1.symm hc.1 hc.2.1 hc.2.2 w hs0
abbrev x9dc_num : Con := ⟨22, [(.err (.var 0))], (.tt true), (.int .i64 (.var 0)), []⟩
theorem x9dg_num (iv : List Int) (bv : List Bool) (vv : List Value) (sv : List ByteArray) (sls : Nat → Slc) (W : World) (hg : W.cell? ⟨0, 0, none⟩ = some asHandle) : x9dc_num.Good Tryd.prog (x9dE iv bv vv sv sls) W := by
  intro iv bv vv sv sls β hc w hb hsl
  have hgw := handle_below hg hb (handle_lt hg)
  exact num09_anyx (iv.getD 0 0) w hgw
abbrev x9dc_sure : Con := ⟨15, [], (.tt true), (.bool (.tt true)), []⟩
theorem x9dg_sure (iv : List Int) (bv : List Bool) (vv : List Value) (sv : List ByteArray) (sls : Nat → Slc) (W : World) (hg : W.cell? ⟨0, 0, none⟩ = some asHandle) : x9dc_sure.Good Tryd.prog (x9dE iv bv vv sv sls) W := by
  intro iv bv vv sv sls β hc w hb hsl
  have hgw := handle_below hg hb (handle_lt hg)
  exact sure09 w hgw
def walkLeapBack_tree : Tree :=
 (.br (.b2 .lt (.lit (60)) (.slen 0))
 (.ret (.bool (.tt true)))
 (.br (.not (.b2 .eq (.iapp 0 (.cons (.int .i64 (.var 0)) (.cons (.int .i64 (.var 1)) (.cons (.slv 0) .nil)))) (.lit (0))))
 (.ret (.bool (.tt true)))
 (.need (.b2 .and (.b2 .le (.lit (-9223372036854775808)) (.var 2)) (.b2 .le (.var 2) (.lit (9223372036854775807))))
 (.need (.b2 .and (.b2 .le (.lit (-9223372036854775808)) (.var 3)) (.b2 .le (.var 3) (.lit (9223372036854775807))))
 (.br (.not (.b2 .eq (.iapp 7 (.cons (.int .i64 (.var 0)) (.cons (.int .i64 (.var 1)) (.cons (.slv 0) (.cons (.int .i64 (.var 2)) .nil))))) (.lit (0))))
 (.br (.b2 .eq (.iapp 7 (.cons (.int .i64 (.var 0)) (.cons (.int .i64 (.var 1)) (.cons (.slv 0) (.cons (.int .i64 (.var 2)) .nil))))) (.lit (2)))
 (.ret (.bool (.tt true)))
 (.br (.b2 .eq (.iapp 7 (.cons (.int .i64 (.var 0)) (.cons (.int .i64 (.var 1)) (.cons (.slv 0) (.cons (.int .i64 (.var 2)) .nil))))) (.lit (10)))
 (.ret (.bool (.tt true)))
 (.ret (.bool (.tt false)))))
 (.br (.not (.b2 .eq (.iapp 7 (.cons (.int .i64 (.var 0)) (.cons (.int .i64 (.var 1)) (.cons (.slv 0) (.cons (.int .i64 (.var 3)) .nil))))) (.lit (0))))
 (.ret (.bool (.tt true)))
 (.need (.b2 .and (.b2 .and (.b2 .le (.lit (-9223372036854775808)) (.iapp 8 (.cons (.int .i64 (.var 0)) (.cons (.int .i64 (.var 1)) (.cons (.slv 0) (.cons (.int .i64 (.var 2)) .nil)))))) (.b2 .le (.iapp 8 (.cons (.int .i64 (.var 0)) (.cons (.int .i64 (.var 1)) (.cons (.slv 0) (.cons (.int .i64 (.var 2)) .nil))))) (.lit (9223372036854775807)))) (.b2 .and (.b2 .and (.b2 .le (.lit (-9223372036854775808)) (.iapp 9 (.cons (.int .i64 (.var 0)) (.cons (.int .i64 (.var 1)) (.cons (.slv 0) (.cons (.int .i64 (.var 2)) .nil)))))) (.b2 .le (.iapp 9 (.cons (.int .i64 (.var 0)) (.cons (.int .i64 (.var 1)) (.cons (.slv 0) (.cons (.int .i64 (.var 2)) .nil))))) (.lit (9223372036854775807)))) (.b2 .and (.b2 .le (.lit (-9223372036854775808)) (.iapp 10 (.cons (.int .i64 (.var 0)) (.cons (.int .i64 (.var 1)) (.cons (.slv 0) (.cons (.int .i64 (.var 2)) .nil)))))) (.b2 .le (.iapp 10 (.cons (.int .i64 (.var 0)) (.cons (.int .i64 (.var 1)) (.cons (.slv 0) (.cons (.int .i64 (.var 2)) .nil))))) (.lit (9223372036854775807))))))
 (.br (.b2 .lt (.iapp 8 (.cons (.int .i64 (.var 0)) (.cons (.int .i64 (.var 1)) (.cons (.slv 0) (.cons (.int .i64 (.var 2)) .nil))))) (.iapp 8 (.cons (.int .i64 (.var 0)) (.cons (.int .i64 (.var 1)) (.cons (.slv 0) (.cons (.int .i64 (.var 3)) .nil))))))
 (.br (.b2 .eq (.iapp 11 (.cons (.int .i64 (.var 0)) (.cons (.int .i64 (.var 1)) (.cons (.slv 0) (.cons (.int .i64 (.iapp 8 (.cons (.int .i64 (.var 0)) (.cons (.int .i64 (.var 1)) (.cons (.slv 0) (.cons (.int .i64 (.var 2)) .nil)))))) (.cons (.int .i64 (.iapp 9 (.cons (.int .i64 (.var 0)) (.cons (.int .i64 (.var 1)) (.cons (.slv 0) (.cons (.int .i64 (.var 2)) .nil)))))) (.cons (.int .i64 (.iapp 10 (.cons (.int .i64 (.var 0)) (.cons (.int .i64 (.var 1)) (.cons (.slv 0) (.cons (.int .i64 (.var 2)) .nil)))))) .nil))))))) (.lit (0)))
 (.br (.b2 .eq (.iapp 12 (.cons (.int .i64 (.var 0)) (.cons (.int .i64 (.var 1)) (.cons (.slv 0) (.cons (.int .i64 (.iapp 8 (.cons (.int .i64 (.var 0)) (.cons (.int .i64 (.var 1)) (.cons (.slv 0) (.cons (.int .i64 (.var 2)) .nil)))))) (.cons (.int .i64 (.iapp 9 (.cons (.int .i64 (.var 0)) (.cons (.int .i64 (.var 1)) (.cons (.slv 0) (.cons (.int .i64 (.var 2)) .nil)))))) (.cons (.int .i64 (.iapp 10 (.cons (.int .i64 (.var 0)) (.cons (.int .i64 (.var 1)) (.cons (.slv 0) (.cons (.int .i64 (.var 2)) .nil)))))) .nil))))))) (.var 2))
 (.br (.b2 .lt (.var 2) (.var 3))
 (.br (.b2 .beq (.b2 .and (.b2 .eq (.iapp 8 (.cons (.int .i64 (.var 0)) (.cons (.int .i64 (.var 1)) (.cons (.slv 0) (.cons (.int .i64 (.var 2)) .nil))))) (.iapp 8 (.cons (.int .i64 (.var 0)) (.cons (.int .i64 (.var 1)) (.cons (.slv 0) (.cons (.int .i64 (.var 3)) .nil)))))) (.b2 .and (.b2 .eq (.iapp 9 (.cons (.int .i64 (.var 0)) (.cons (.int .i64 (.var 1)) (.cons (.slv 0) (.cons (.int .i64 (.var 2)) .nil))))) (.iapp 9 (.cons (.int .i64 (.var 0)) (.cons (.int .i64 (.var 1)) (.cons (.slv 0) (.cons (.int .i64 (.var 3)) .nil)))))) (.b2 .eq (.iapp 10 (.cons (.int .i64 (.var 0)) (.cons (.int .i64 (.var 1)) (.cons (.slv 0) (.cons (.int .i64 (.var 2)) .nil))))) (.iapp 10 (.cons (.int .i64 (.var 0)) (.cons (.int .i64 (.var 1)) (.cons (.slv 0) (.cons (.int .i64 (.var 3)) .nil)))))))) (.b2 .eq (.var 2) (.var 3)))
 (.br (.b2 .eq (.iapp 2 (.cons (.int .i64 (.var 0)) (.cons (.int .i64 (.var 1)) (.cons (.slv 0) (.cons (.int .i64 (.iapp 8 (.cons (.int .i64 (.var 0)) (.cons (.int .i64 (.var 1)) (.cons (.slv 0) (.cons (.int .i64 (.var 2)) .nil)))))) .nil))))) (.lit (0)))
 (.br (.not (.b2 .eq (.iapp 2 (.cons (.int .i64 (.var 0)) (.cons (.int .i64 (.var 1)) (.cons (.slv 0) (.cons (.int .i64 (.wrap .i64 (.i2 .add (.iapp 8 (.cons (.int .i64 (.var 0)) (.cons (.int .i64 (.var 1)) (.cons (.slv 0) (.cons (.int .i64 (.var 2)) .nil))))) (.lit (1))))) .nil))))) (.lit (0))))
 (.br (.b2 .eq (.iapp 2 (.cons (.int .i64 (.var 0)) (.cons (.int .i64 (.var 1)) (.cons (.slv 0) (.cons (.int .i64 (.wrap .i64 (.i2 .add (.iapp 8 (.cons (.int .i64 (.var 0)) (.cons (.int .i64 (.var 1)) (.cons (.slv 0) (.cons (.int .i64 (.var 2)) .nil))))) (.lit (1))))) .nil))))) (.lit (10)))
 (.ret (.bool (.tt true)))
 (.ret (.bool (.tt false))))
 (.br (.b2 .eq (.iapp 6 (.cons (.int .i64 (.var 0)) (.cons (.int .i64 (.var 1)) (.cons (.slv 0) (.cons (.int .i64 (.wrap .i64 (.i2 .add (.iapp 8 (.cons (.int .i64 (.var 0)) (.cons (.int .i64 (.var 1)) (.cons (.slv 0) (.cons (.int .i64 (.var 2)) .nil))))) (.lit (1))))) .nil))))) (.wrap .i64 (.i2 .add (.iapp 6 (.cons (.int .i64 (.var 0)) (.cons (.int .i64 (.var 1)) (.cons (.slv 0) (.cons (.int .i64 (.iapp 8 (.cons (.int .i64 (.var 0)) (.cons (.int .i64 (.var 1)) (.cons (.slv 0) (.cons (.int .i64 (.var 2)) .nil)))))) .nil))))) (.wrap .i64 (.i2 .mul (.iapp 5 (.cons (.int .i64 (.var 0)) (.cons (.int .i64 (.var 1)) (.cons (.slv 0) (.cons (.int .i64 (.iapp 8 (.cons (.int .i64 (.var 0)) (.cons (.int .i64 (.var 1)) (.cons (.slv 0) (.cons (.int .i64 (.var 2)) .nil)))))) .nil))))) (.lit (1000000000)))))))
 (.ret (.bool (.tt true)))
 (.ret (.bool (.tt false)))))
 (.ret (.bool (.tt false))))
 (.ret (.bool (.tt false))))
 (.ret (.bool (.tt false))))
 (.ret (.bool (.tt false))))
 (.ret (.bool (.tt false))))
 (.br (.b2 .eq (.iapp 8 (.cons (.int .i64 (.var 0)) (.cons (.int .i64 (.var 1)) (.cons (.slv 0) (.cons (.int .i64 (.var 2)) .nil))))) (.iapp 8 (.cons (.int .i64 (.var 0)) (.cons (.int .i64 (.var 1)) (.cons (.slv 0) (.cons (.int .i64 (.var 3)) .nil))))))
 (.br (.b2 .lt (.iapp 9 (.cons (.int .i64 (.var 0)) (.cons (.int .i64 (.var 1)) (.cons (.slv 0) (.cons (.int .i64 (.var 2)) .nil))))) (.iapp 9 (.cons (.int .i64 (.var 0)) (.cons (.int .i64 (.var 1)) (.cons (.slv 0) (.cons (.int .i64 (.var 3)) .nil))))))
 (.br (.b2 .eq (.iapp 11 (.cons (.int .i64 (.var 0)) (.cons (.int .i64 (.var 1)) (.cons (.slv 0) (.cons (.int .i64 (.iapp 8 (.cons (.int .i64 (.var 0)) (.cons (.int .i64 (.var 1)) (.cons (.slv 0) (.cons (.int .i64 (.var 2)) .nil)))))) (.cons (.int .i64 (.iapp 9 (.cons (.int .i64 (.var 0)) (.cons (.int .i64 (.var 1)) (.cons (.slv 0) (.cons (.int .i64 (.var 2)) .nil)))))) (.cons (.int .i64 (.iapp 10 (.cons (.int .i64 (.var 0)) (.cons (.int .i64 (.var 1)) (.cons (.slv 0) (.cons (.int .i64 (.var 2)) .nil)))))) .nil))))))) (.lit (0)))
 (.br (.b2 .eq (.iapp 12 (.cons (.int .i64 (.var 0)) (.cons (.int .i64 (.var 1)) (.cons (.slv 0) (.cons (.int .i64 (.iapp 8 (.cons (.int .i64 (.var 0)) (.cons (.int .i64 (.var 1)) (.cons (.slv 0) (.cons (.int .i64 (.var 2)) .nil)))))) (.cons (.int .i64 (.iapp 9 (.cons (.int .i64 (.var 0)) (.cons (.int .i64 (.var 1)) (.cons (.slv 0) (.cons (.int .i64 (.var 2)) .nil)))))) (.cons (.int .i64 (.iapp 10 (.cons (.int .i64 (.var 0)) (.cons (.int .i64 (.var 1)) (.cons (.slv 0) (.cons (.int .i64 (.var 2)) .nil)))))) .nil))))))) (.var 2))
 (.br (.b2 .lt (.var 2) (.var 3))
 (.br (.b2 .beq (.b2 .and (.b2 .eq (.iapp 8 (.cons (.int .i64 (.var 0)) (.cons (.int .i64 (.var 1)) (.cons (.slv 0) (.cons (.int .i64 (.var 2)) .nil))))) (.iapp 8 (.cons (.int .i64 (.var 0)) (.cons (.int .i64 (.var 1)) (.cons (.slv 0) (.cons (.int .i64 (.var 3)) .nil)))))) (.b2 .and (.b2 .eq (.iapp 9 (.cons (.int .i64 (.var 0)) (.cons (.int .i64 (.var 1)) (.cons (.slv 0) (.cons (.int .i64 (.var 2)) .nil))))) (.iapp 9 (.cons (.int .i64 (.var 0)) (.cons (.int .i64 (.var 1)) (.cons (.slv 0) (.cons (.int .i64 (.var 3)) .nil)))))) (.b2 .eq (.iapp 10 (.cons (.int .i64 (.var 0)) (.cons (.int .i64 (.var 1)) (.cons (.slv 0) (.cons (.int .i64 (.var 2)) .nil))))) (.iapp 10 (.cons (.int .i64 (.var 0)) (.cons (.int .i64 (.var 1)) (.cons (.slv 0) (.cons (.int .i64 (.var 3)) .nil)))))))) (.b2 .eq (.var 2) (.var 3)))
 (.br (.b2 .eq (.iapp 2 (.cons (.int .i64 (.var 0)) (.cons (.int .i64 (.var 1)) (.cons (.slv 0) (.cons (.int .i64 (.iapp 8 (.cons (.int .i64 (.var 0)) (.cons (.int .i64 (.var 1)) (.cons (.slv 0) (.cons (.int .i64 (.var 2)) .nil)))))) .nil))))) (.lit (0)))
 (.br (.not (.b2 .eq (.iapp 2 (.cons (.int .i64 (.var 0)) (.cons (.int .i64 (.var 1)) (.cons (.slv 0) (.cons (.int .i64 (.wrap .i64 (.i2 .add (.iapp 8 (.cons (.int .i64 (.var 0)) (.cons (.int .i64 (.var 1)) (.cons (.slv 0) (.cons (.int .i64 (.var 2)) .nil))))) (.lit (1))))) .nil))))) (.lit (0))))
 (.br (.b2 .eq (.iapp 2 (.cons (.int .i64 (.var 0)) (.cons (.int .i64 (.var 1)) (.cons (.slv 0) (.cons (.int .i64 (.wrap .i64 (.i2 .add (.iapp 8 (.cons (.int .i64 (.var 0)) (.cons (.int .i64 (.var 1)) (.cons (.slv 0) (.cons (.int .i64 (.var 2)) .nil))))) (.lit (1))))) .nil))))) (.lit (10)))
 (.ret (.bool (.tt true)))
 (.ret (.bool (.tt false))))
 (.br (.b2 .eq (.iapp 6 (.cons (.int .i64 (.var 0)) (.cons (.int .i64 (.var 1)) (.cons (.slv 0) (.cons (.int .i64 (.wrap .i64 (.i2 .add (.iapp 8 (.cons (.int .i64 (.var 0)) (.cons (.int .i64 (.var 1)) (.cons (.slv 0) (.cons (.int .i64 (.var 2)) .nil))))) (.lit (1))))) .nil))))) (.wrap .i64 (.i2 .add (.iapp 6 (.cons (.int .i64 (.var 0)) (.cons (.int .i64 (.var 1)) (.cons (.slv 0) (.cons (.int .i64 (.iapp 8 (.cons (.int .i64 (.var 0)) (.cons (.int .i64 (.var 1)) (.cons (.slv 0) (.cons (.int .i64 (.var 2)) .nil)))))) .nil))))) (.wrap .i64 (.i2 .mul (.iapp 5 (.cons (.int .i64 (.var 0)) (.cons (.int .i64 (.var 1)) (.cons (.slv 0) (.cons (.int .i64 (.iapp 8 (.cons (.int .i64 (.var 0)) (.cons (.int .i64 (.var 1)) (.cons (.slv 0) (.cons (.int .i64 (.var 2)) .nil)))))) .nil))))) (.lit (1000000000)))))))
 (.ret (.bool (.tt true)))
 (.ret (.bool (.tt false)))))
 (.ret (.bool (.tt false))))
 (.ret (.bool (.tt false))))
 (.ret (.bool (.tt false))))
 (.ret (.bool (.tt false))))
 (.ret (.bool (.tt false))))
 (.br (.b2 .eq (.iapp 9 (.cons (.int .i64 (.var 0)) (.cons (.int .i64 (.var 1)) (.cons (.slv 0) (.cons (.int .i64 (.var 2)) .nil))))) (.iapp 9 (.cons (.int .i64 (.var 0)) (.cons (.int .i64 (.var 1)) (.cons (.slv 0) (.cons (.int .i64 (.var 3)) .nil))))))
 (.br (.b2 .eq (.iapp 11 (.cons (.int .i64 (.var 0)) (.cons (.int .i64 (.var 1)) (.cons (.slv 0) (.cons (.int .i64 (.iapp 8 (.cons (.int .i64 (.var 0)) (.cons (.int .i64 (.var 1)) (.cons (.slv 0) (.cons (.int .i64 (.var 2)) .nil)))))) (.cons (.int .i64 (.iapp 9 (.cons (.int .i64 (.var 0)) (.cons (.int .i64 (.var 1)) (.cons (.slv 0) (.cons (.int .i64 (.var 2)) .nil)))))) (.cons (.int .i64 (.iapp 10 (.cons (.int .i64 (.var 0)) (.cons (.int .i64 (.var 1)) (.cons (.slv 0) (.cons (.int .i64 (.var 2)) .nil)))))) .nil))))))) (.lit (0)))
 (.br (.b2 .eq (.iapp 12 (.cons (.int .i64 (.var 0)) (.cons (.int .i64 (.var 1)) (.cons (.slv 0) (.cons (.int .i64 (.iapp 8 (.cons (.int .i64 (.var 0)) (.cons (.int .i64 (.var 1)) (.cons (.slv 0) (.cons (.int .i64 (.var 2)) .nil)))))) (.cons (.int .i64 (.iapp 9 (.cons (.int .i64 (.var 0)) (.cons (.int .i64 (.var 1)) (.cons (.slv 0) (.cons (.int .i64 (.var 2)) .nil)))))) (.cons (.int .i64 (.iapp 10 (.cons (.int .i64 (.var 0)) (.cons (.int .i64 (.var 1)) (.cons (.slv 0) (.cons (.int .i64 (.var 2)) .nil)))))) .nil))))))) (.var 2))
 (.br (.b2 .beq (.b2 .lt (.iapp 10 (.cons (.int .i64 (.var 0)) (.cons (.int .i64 (.var 1)) (.cons (.slv 0) (.cons (.int .i64 (.var 2)) .nil))))) (.iapp 10 (.cons (.int .i64 (.var 0)) (.cons (.int .i64 (.var 1)) (.cons (.slv 0) (.cons (.int .i64 (.var 3)) .nil)))))) (.b2 .lt (.var 2) (.var 3)))
 (.br (.b2 .beq (.b2 .and (.b2 .eq (.iapp 8 (.cons (.int .i64 (.var 0)) (.cons (.int .i64 (.var 1)) (.cons (.slv 0) (.cons (.int .i64 (.var 2)) .nil))))) (.iapp 8 (.cons (.int .i64 (.var 0)) (.cons (.int .i64 (.var 1)) (.cons (.slv 0) (.cons (.int .i64 (.var 3)) .nil)))))) (.b2 .and (.b2 .eq (.iapp 9 (.cons (.int .i64 (.var 0)) (.cons (.int .i64 (.var 1)) (.cons (.slv 0) (.cons (.int .i64 (.var 2)) .nil))))) (.iapp 9 (.cons (.int .i64 (.var 0)) (.cons (.int .i64 (.var 1)) (.cons (.slv 0) (.cons (.int .i64 (.var 3)) .nil)))))) (.b2 .eq (.iapp 10 (.cons (.int .i64 (.var 0)) (.cons (.int .i64 (.var 1)) (.cons (.slv 0) (.cons (.int .i64 (.var 2)) .nil))))) (.iapp 10 (.cons (.int .i64 (.var 0)) (.cons (.int .i64 (.var 1)) (.cons (.slv 0) (.cons (.int .i64 (.var 3)) .nil)))))))) (.b2 .eq (.var 2) (.var 3)))
 (.br (.b2 .eq (.iapp 2 (.cons (.int .i64 (.var 0)) (.cons (.int .i64 (.var 1)) (.cons (.slv 0) (.cons (.int .i64 (.iapp 8 (.cons (.int .i64 (.var 0)) (.cons (.int .i64 (.var 1)) (.cons (.slv 0) (.cons (.int .i64 (.var 2)) .nil)))))) .nil))))) (.lit (0)))
 (.br (.not (.b2 .eq (.iapp 2 (.cons (.int .i64 (.var 0)) (.cons (.int .i64 (.var 1)) (.cons (.slv 0) (.cons (.int .i64 (.wrap .i64 (.i2 .add (.iapp 8 (.cons (.int .i64 (.var 0)) (.cons (.int .i64 (.var 1)) (.cons (.slv 0) (.cons (.int .i64 (.var 2)) .nil))))) (.lit (1))))) .nil))))) (.lit (0))))
 (.br (.b2 .eq (.iapp 2 (.cons (.int .i64 (.var 0)) (.cons (.int .i64 (.var 1)) (.cons (.slv 0) (.cons (.int .i64 (.wrap .i64 (.i2 .add (.iapp 8 (.cons (.int .i64 (.var 0)) (.cons (.int .i64 (.var 1)) (.cons (.slv 0) (.cons (.int .i64 (.var 2)) .nil))))) (.lit (1))))) .nil))))) (.lit (10)))
 (.ret (.bool (.tt true)))
 (.ret (.bool (.tt false))))
 (.br (.b2 .eq (.iapp 6 (.cons (.int .i64 (.var 0)) (.cons (.int .i64 (.var 1)) (.cons (.slv 0) (.cons (.int .i64 (.wrap .i64 (.i2 .add (.iapp 8 (.cons (.int .i64 (.var 0)) (.cons (.int .i64 (.var 1)) (.cons (.slv 0) (.cons (.int .i64 (.var 2)) .nil))))) (.lit (1))))) .nil))))) (.wrap .i64 (.i2 .add (.iapp 6 (.cons (.int .i64 (.var 0)) (.cons (.int .i64 (.var 1)) (.cons (.slv 0) (.cons (.int .i64 (.iapp 8 (.cons (.int .i64 (.var 0)) (.cons (.int .i64 (.var 1)) (.cons (.slv 0) (.cons (.int .i64 (.var 2)) .nil)))))) .nil))))) (.wrap .i64 (.i2 .mul (.iapp 5 (.cons (.int .i64 (.var 0)) (.cons (.int .i64 (.var 1)) (.cons (.slv 0) (.cons (.int .i64 (.iapp 8 (.cons (.int .i64 (.var 0)) (.cons (.int .i64 (.var 1)) (.cons (.slv 0) (.cons (.int .i64 (.var 2)) .nil)))))) .nil))))) (.lit (1000000000)))))))
 (.ret (.bool (.tt true)))
 (.ret (.bool (.tt false)))))
 (.ret (.bool (.tt false))))
 (.ret (.bool (.tt false))))
 (.ret (.bool (.tt false))))
 (.ret (.bool (.tt false))))
 (.ret (.bool (.tt false))))
 (.br (.b2 .eq (.iapp 11 (.cons (.int .i64 (.var 0)) (.cons (.int .i64 (.var 1)) (.cons (.slv 0) (.cons (.int .i64 (.iapp 8 (.cons (.int .i64 (.var 0)) (.cons (.int .i64 (.var 1)) (.cons (.slv 0) (.cons (.int .i64 (.var 2)) .nil)))))) (.cons (.int .i64 (.iapp 9 (.cons (.int .i64 (.var 0)) (.cons (.int .i64 (.var 1)) (.cons (.slv 0) (.cons (.int .i64 (.var 2)) .nil)))))) (.cons (.int .i64 (.iapp 10 (.cons (.int .i64 (.var 0)) (.cons (.int .i64 (.var 1)) (.cons (.slv 0) (.cons (.int .i64 (.var 2)) .nil)))))) .nil))))))) (.lit (0)))
 (.br (.b2 .eq (.iapp 12 (.cons (.int .i64 (.var 0)) (.cons (.int .i64 (.var 1)) (.cons (.slv 0) (.cons (.int .i64 (.iapp 8 (.cons (.int .i64 (.var 0)) (.cons (.int .i64 (.var 1)) (.cons (.slv 0) (.cons (.int .i64 (.var 2)) .nil)))))) (.cons (.int .i64 (.iapp 9 (.cons (.int .i64 (.var 0)) (.cons (.int .i64 (.var 1)) (.cons (.slv 0) (.cons (.int .i64 (.var 2)) .nil)))))) (.cons (.int .i64 (.iapp 10 (.cons (.int .i64 (.var 0)) (.cons (.int .i64 (.var 1)) (.cons (.slv 0) (.cons (.int .i64 (.var 2)) .nil)))))) .nil))))))) (.var 2))
 (.br (.not (.b2 .lt (.var 2) (.var 3)))
 (.br (.b2 .beq (.b2 .and (.b2 .eq (.iapp 8 (.cons (.int .i64 (.var 0)) (.cons (.int .i64 (.var 1)) (.cons (.slv 0) (.cons (.int .i64 (.var 2)) .nil))))) (.iapp 8 (.cons (.int .i64 (.var 0)) (.cons (.int .i64 (.var 1)) (.cons (.slv 0) (.cons (.int .i64 (.var 3)) .nil)))))) (.b2 .and (.b2 .eq (.iapp 9 (.cons (.int .i64 (.var 0)) (.cons (.int .i64 (.var 1)) (.cons (.slv 0) (.cons (.int .i64 (.var 2)) .nil))))) (.iapp 9 (.cons (.int .i64 (.var 0)) (.cons (.int .i64 (.var 1)) (.cons (.slv 0) (.cons (.int .i64 (.var 3)) .nil)))))) (.b2 .eq (.iapp 10 (.cons (.int .i64 (.var 0)) (.cons (.int .i64 (.var 1)) (.cons (.slv 0) (.cons (.int .i64 (.var 2)) .nil))))) (.iapp 10 (.cons (.int .i64 (.var 0)) (.cons (.int .i64 (.var 1)) (.cons (.slv 0) (.cons (.int .i64 (.var 3)) .nil)))))))) (.b2 .eq (.var 2) (.var 3)))
 (.br (.b2 .eq (.iapp 2 (.cons (.int .i64 (.var 0)) (.cons (.int .i64 (.var 1)) (.cons (.slv 0) (.cons (.int .i64 (.iapp 8 (.cons (.int .i64 (.var 0)) (.cons (.int .i64 (.var 1)) (.cons (.slv 0) (.cons (.int .i64 (.var 2)) .nil)))))) .nil))))) (.lit (0)))
 (.br (.not (.b2 .eq (.iapp 2 (.cons (.int .i64 (.var 0)) (.cons (.int .i64 (.var 1)) (.cons (.slv 0) (.cons (.int .i64 (.wrap .i64 (.i2 .add (.iapp 8 (.cons (.int .i64 (.var 0)) (.cons (.int .i64 (.var 1)) (.cons (.slv 0) (.cons (.int .i64 (.var 2)) .nil))))) (.lit (1))))) .nil))))) (.lit (0))))
 (.br (.b2 .eq (.iapp 2 (.cons (.int .i64 (.var 0)) (.cons (.int .i64 (.var 1)) (.cons (.slv 0) (.cons (.int .i64 (.wrap .i64 (.i2 .add (.iapp 8 (.cons (.int .i64 (.var 0)) (.cons (.int .i64 (.var 1)) (.cons (.slv 0) (.cons (.int .i64 (.var 2)) .nil))))) (.lit (1))))) .nil))))) (.lit (10)))
 (.ret (.bool (.tt true)))
 (.ret (.bool (.tt false))))
 (.br (.b2 .eq (.iapp 6 (.cons (.int .i64 (.var 0)) (.cons (.int .i64 (.var 1)) (.cons (.slv 0) (.cons (.int .i64 (.wrap .i64 (.i2 .add (.iapp 8 (.cons (.int .i64 (.var 0)) (.cons (.int .i64 (.var 1)) (.cons (.slv 0) (.cons (.int .i64 (.var 2)) .nil))))) (.lit (1))))) .nil))))) (.wrap .i64 (.i2 .add (.iapp 6 (.cons (.int .i64 (.var 0)) (.cons (.int .i64 (.var 1)) (.cons (.slv 0) (.cons (.int .i64 (.iapp 8 (.cons (.int .i64 (.var 0)) (.cons (.int .i64 (.var 1)) (.cons (.slv 0) (.cons (.int .i64 (.var 2)) .nil)))))) .nil))))) (.wrap .i64 (.i2 .mul (.iapp 5 (.cons (.int .i64 (.var 0)) (.cons (.int .i64 (.var 1)) (.cons (.slv 0) (.cons (.int .i64 (.iapp 8 (.cons (.int .i64 (.var 0)) (.cons (.int .i64 (.var 1)) (.cons (.slv 0) (.cons (.int .i64 (.var 2)) .nil)))))) .nil))))) (.lit (1000000000)))))))
 (.ret (.bool (.tt true)))
 (.ret (.bool (.tt false)))))
 (.ret (.bool (.tt false))))
 (.ret (.bool (.tt false))))
 (.ret (.bool (.tt false))))
 (.ret (.bool (.tt false))))
 (.ret (.bool (.tt false))))))
 (.br (.b2 .eq (.iapp 11 (.cons (.int .i64 (.var 0)) (.cons (.int .i64 (.var 1)) (.cons (.slv 0) (.cons (.int .i64 (.iapp 8 (.cons (.int .i64 (.var 0)) (.cons (.int .i64 (.var 1)) (.cons (.slv 0) (.cons (.int .i64 (.var 2)) .nil)))))) (.cons (.int .i64 (.iapp 9 (.cons (.int .i64 (.var 0)) (.cons (.int .i64 (.var 1)) (.cons (.slv 0) (.cons (.int .i64 (.var 2)) .nil)))))) (.cons (.int .i64 (.iapp 10 (.cons (.int .i64 (.var 0)) (.cons (.int .i64 (.var 1)) (.cons (.slv 0) (.cons (.int .i64 (.var 2)) .nil)))))) .nil))))))) (.lit (0)))
 (.br (.b2 .eq (.iapp 12 (.cons (.int .i64 (.var 0)) (.cons (.int .i64 (.var 1)) (.cons (.slv 0) (.cons (.int .i64 (.iapp 8 (.cons (.int .i64 (.var 0)) (.cons (.int .i64 (.var 1)) (.cons (.slv 0) (.cons (.int .i64 (.var 2)) .nil)))))) (.cons (.int .i64 (.iapp 9 (.cons (.int .i64 (.var 0)) (.cons (.int .i64 (.var 1)) (.cons (.slv 0) (.cons (.int .i64 (.var 2)) .nil)))))) (.cons (.int .i64 (.iapp 10 (.cons (.int .i64 (.var 0)) (.cons (.int .i64 (.var 1)) (.cons (.slv 0) (.cons (.int .i64 (.var 2)) .nil)))))) .nil))))))) (.var 2))
 (.br (.not (.b2 .lt (.var 2) (.var 3)))
 (.br (.b2 .beq (.b2 .and (.b2 .eq (.iapp 8 (.cons (.int .i64 (.var 0)) (.cons (.int .i64 (.var 1)) (.cons (.slv 0) (.cons (.int .i64 (.var 2)) .nil))))) (.iapp 8 (.cons (.int .i64 (.var 0)) (.cons (.int .i64 (.var 1)) (.cons (.slv 0) (.cons (.int .i64 (.var 3)) .nil)))))) (.b2 .and (.b2 .eq (.iapp 9 (.cons (.int .i64 (.var 0)) (.cons (.int .i64 (.var 1)) (.cons (.slv 0) (.cons (.int .i64 (.var 2)) .nil))))) (.iapp 9 (.cons (.int .i64 (.var 0)) (.cons (.int .i64 (.var 1)) (.cons (.slv 0) (.cons (.int .i64 (.var 3)) .nil)))))) (.b2 .eq (.iapp 10 (.cons (.int .i64 (.var 0)) (.cons (.int .i64 (.var 1)) (.cons (.slv 0) (.cons (.int .i64 (.var 2)) .nil))))) (.iapp 10 (.cons (.int .i64 (.var 0)) (.cons (.int .i64 (.var 1)) (.cons (.slv 0) (.cons (.int .i64 (.var 3)) .nil)))))))) (.b2 .eq (.var 2) (.var 3)))
 (.br (.b2 .eq (.iapp 2 (.cons (.int .i64 (.var 0)) (.cons (.int .i64 (.var 1)) (.cons (.slv 0) (.cons (.int .i64 (.iapp 8 (.cons (.int .i64 (.var 0)) (.cons (.int .i64 (.var 1)) (.cons (.slv 0) (.cons (.int .i64 (.var 2)) .nil)))))) .nil))))) (.lit (0)))
 (.br (.not (.b2 .eq (.iapp 2 (.cons (.int .i64 (.var 0)) (.cons (.int .i64 (.var 1)) (.cons (.slv 0) (.cons (.int .i64 (.wrap .i64 (.i2 .add (.iapp 8 (.cons (.int .i64 (.var 0)) (.cons (.int .i64 (.var 1)) (.cons (.slv 0) (.cons (.int .i64 (.var 2)) .nil))))) (.lit (1))))) .nil))))) (.lit (0))))
 (.br (.b2 .eq (.iapp 2 (.cons (.int .i64 (.var 0)) (.cons (.int .i64 (.var 1)) (.cons (.slv 0) (.cons (.int .i64 (.wrap .i64 (.i2 .add (.iapp 8 (.cons (.int .i64 (.var 0)) (.cons (.int .i64 (.var 1)) (.cons (.slv 0) (.cons (.int .i64 (.var 2)) .nil))))) (.lit (1))))) .nil))))) (.lit (10)))
 (.ret (.bool (.tt true)))
 (.ret (.bool (.tt false))))
 (.br (.b2 .eq (.iapp 6 (.cons (.int .i64 (.var 0)) (.cons (.int .i64 (.var 1)) (.cons (.slv 0) (.cons (.int .i64 (.wrap .i64 (.i2 .add (.iapp 8 (.cons (.int .i64 (.var 0)) (.cons (.int .i64 (.var 1)) (.cons (.slv 0) (.cons (.int .i64 (.var 2)) .nil))))) (.lit (1))))) .nil))))) (.wrap .i64 (.i2 .add (.iapp 6 (.cons (.int .i64 (.var 0)) (.cons (.int .i64 (.var 1)) (.cons (.slv 0) (.cons (.int .i64 (.iapp 8 (.cons (.int .i64 (.var 0)) (.cons (.int .i64 (.var 1)) (.cons (.slv 0) (.cons (.int .i64 (.var 2)) .nil)))))) .nil))))) (.wrap .i64 (.i2 .mul (.iapp 5 (.cons (.int .i64 (.var 0)) (.cons (.int .i64 (.var 1)) (.cons (.slv 0) (.cons (.int .i64 (.iapp 8 (.cons (.int .i64 (.var 0)) (.cons (.int .i64 (.var 1)) (.cons (.slv 0) (.cons (.int .i64 (.var 2)) .nil)))))) .nil))))) (.lit (1000000000)))))))
 (.ret (.bool (.tt true)))
 (.ret (.bool (.tt false)))))
 (.ret (.bool (.tt false))))
 (.ret (.bool (.tt false))))
 (.ret (.bool (.tt false))))
 (.ret (.bool (.tt false))))
 (.ret (.bool (.tt false)))))))))))))
theorem walkLeapBack_w : walk Tryd.prog 108 ⟨[x9dc_check, x9dc_lutc, x9dc_ltai, x9dc_LBegin, x9dc_LLength, x9dc_num, x9dc_sure], [[.int .i64]]⟩ [] 6 [(.agg (.cons (.int .i64 (.var 0)) (.cons (.int .i64 (.var 1)) (.cons (.sl 0) .nil)))), (.int .i64 (.var 2)), (.int .i64 (.var 3))] ⟨4, 0, 0, 0⟩ 2000 = some walkLeapBack_tree := by kernel_rfl
set_option maxHeartbeats 4000000 in
theorem walkLeapBack_h (b : Int) (t : Int) (l : Slc) (n : Int) (o : Int) (e0 : l.esz = 1) (hl : l.len ≤ 9223372036854775807) (hn : InR n) (ho : InR o) : walkLeapBack_tree.holds (fun v => v = .bool true) (x9dE [b, t, n, o] [] [] [] (slsOf [l])) := by
  unfold walkLeapBack_tree
  simp only [Tree.holds, Sx.holds, denV, denI, denB, denL, I2.den, x9dI, x9dB, x9dV, List.getD_cons_zero, List.getD_cons_succ, Cst.den, slsOf_zero, slsOf_one, B2.ofInts, B2.denI, B2.denB, if_true, Bool.false_eq_true, if_false]
  have hlen := ints_len l e0
  have f1 := utcE_spec b t (intsOf l.all) n
  have f2 := utcE_spec b t (intsOf l.all) o
  by_cases z : utcE b t (intsOf l.all) n = 0 ∧ utcE b t (intsOf l.all) o = 0
  all_goals
    try (have K1 := back_one z.1
         have K3 := back_two z.1 z.2
         have K4 := utc_parts z.1
         have K5 := secL_next b (intsOf l.all) (utcD b t (intsOf l.all) n)
         have K6 := secL_spec b (intsOf l.all) (utcD b t (intsOf l.all) n + 1)
         have K7 := secL_spec b (intsOf l.all) (utcD b t (intsOf l.all) n)
         have hw : IntKind.wrap .i64 (utcD b t (intsOf l.all) n + 1) = utcD b t (intsOf l.all) n + 1 := IntWalk.i64_in _ (by omega)
         simp only [hw])
    refine ⟨fun h0 => ?_, fun h0 => ?_⟩
    ·
      first | trivial | rfl | (exfalso; omega)
    ·
      refine ⟨fun h1 => ?_, fun h1 => ?_⟩
      ·
        first | trivial | rfl | (exfalso; omega)
      ·
        refine ⟨?_, fun h2 => ?_⟩
        ·
          omega
        ·
          refine ⟨?_, fun h3 => ?_⟩
          ·
            omega
          ·
            refine ⟨fun h4 => ?_, fun h4 => ?_⟩
            ·
              refine ⟨fun h5 => ?_, fun h5 => ?_⟩
              ·
                first | trivial | rfl | (exfalso; omega)
              ·
                refine ⟨fun h6 => ?_, fun h6 => ?_⟩
                ·
                  first | trivial | rfl | (exfalso; omega)
                ·
                  first | trivial | rfl | (exfalso; omega)
            ·
              refine ⟨fun h7 => ?_, fun h7 => ?_⟩
              ·
                first | trivial | rfl | (exfalso; omega)
              ·
                refine ⟨?_, fun h8 => ?_⟩
                ·
                  omega
                ·
                  refine ⟨fun h9 => ?_, fun h9 => ?_⟩
                  ·
                    refine ⟨fun h10 => ?_, fun h10 => ?_⟩
                    ·
                      refine ⟨fun h11 => ?_, fun h11 => ?_⟩
                      ·
                        refine ⟨fun h12 => ?_, fun h12 => ?_⟩
                        ·
                          refine ⟨fun h13 => ?_, fun h13 => ?_⟩
                          ·
                            refine ⟨fun h14 => ?_, fun h14 => ?_⟩
                            ·
                              have wf0 := wr_i64 ((utcD b t (intsOf l.all) n) + 1)
                              refine ⟨fun h15 => ?_, fun h15 => ?_⟩
                              ·
                                try simp only [hw0]
                                refine ⟨fun h16 => ?_, fun h16 => ?_⟩
                                ·
                                  first | trivial | rfl | (exfalso; omega)
                                ·
                                  first | trivial | rfl | (exfalso; omega)
                              ·
                                have wf1 := wr_i64 ((lenI b t (intsOf l.all) (utcD b t (intsOf l.all) n)) * 1000000000)
                                have wf2 := wr_i64 ((begI b t (intsOf l.all) (utcD b t (intsOf l.all) n)) + (IntKind.wrap .i64 ((lenI b t (intsOf l.all) (utcD b t (intsOf l.all) n)) * 1000000000)))
                                try simp only [hw0]
                                refine ⟨fun h17 => ?_, fun h17 => ?_⟩
                                ·
                                  first | trivial | rfl | (exfalso; omega)
                                ·
                                  first | trivial | rfl | (exfalso; omega)
                            ·
                              first | trivial | rfl | (exfalso; omega)
                          ·
                            first | trivial | rfl | (exfalso; omega)
                        ·
                          first | trivial | rfl | (exfalso; omega)
                      ·
                        first | trivial | rfl | (exfalso; omega)
                    ·
                      first | trivial | rfl | (exfalso; omega)
                  ·
                    refine ⟨fun h18 => ?_, fun h18 => ?_⟩
                    ·
                      refine ⟨fun h19 => ?_, fun h19 => ?_⟩
                      ·
                        refine ⟨fun h20 => ?_, fun h20 => ?_⟩
                        ·
                          refine ⟨fun h21 => ?_, fun h21 => ?_⟩
                          ·
                            refine ⟨fun h22 => ?_, fun h22 => ?_⟩
                            ·
                              refine ⟨fun h23 => ?_, fun h23 => ?_⟩
                              ·
                                refine ⟨fun h24 => ?_, fun h24 => ?_⟩
                                ·
                                  have wf3 := wr_i64 ((utcD b t (intsOf l.all) n) + 1)
                                  refine ⟨fun h25 => ?_, fun h25 => ?_⟩
                                  ·
                                    try simp only [hw3]
                                    refine ⟨fun h26 => ?_, fun h26 => ?_⟩
                                    ·
                                      first | trivial | rfl | (exfalso; omega)
                                    ·
                                      first | trivial | rfl | (exfalso; omega)
                                  ·
                                    have wf4 := wr_i64 ((lenI b t (intsOf l.all) (utcD b t (intsOf l.all) n)) * 1000000000)
                                    have wf5 := wr_i64 ((begI b t (intsOf l.all) (utcD b t (intsOf l.all) n)) + (IntKind.wrap .i64 ((lenI b t (intsOf l.all) (utcD b t (intsOf l.all) n)) * 1000000000)))
                                    try simp only [hw3]
                                    refine ⟨fun h27 => ?_, fun h27 => ?_⟩
                                    ·
                                      first | trivial | rfl | (exfalso; omega)
                                    ·
                                      first | trivial | rfl | (exfalso; omega)
                                ·
                                  first | trivial | rfl | (exfalso; omega)
                              ·
                                first | trivial | rfl | (exfalso; omega)
                            ·
                              first | trivial | rfl | (exfalso; omega)
                          ·
                            first | trivial | rfl | (exfalso; omega)
                        ·
                          first | trivial | rfl | (exfalso; omega)
                      ·
                        refine ⟨fun h28 => ?_, fun h28 => ?_⟩
                        ·
                          refine ⟨fun h29 => ?_, fun h29 => ?_⟩
                          ·
                            refine ⟨fun h30 => ?_, fun h30 => ?_⟩
                            ·
                              refine ⟨fun h31 => ?_, fun h31 => ?_⟩
                              ·
                                refine ⟨fun h32 => ?_, fun h32 => ?_⟩
                                ·
                                  refine ⟨fun h33 => ?_, fun h33 => ?_⟩
                                  ·
                                    have wf6 := wr_i64 ((utcD b t (intsOf l.all) n) + 1)
                                    refine ⟨fun h34 => ?_, fun h34 => ?_⟩
                                    ·
                                      try simp only [hw6]
                                      refine ⟨fun h35 => ?_, fun h35 => ?_⟩
                                      ·
                                        first | trivial | rfl | (exfalso; omega)
                                      ·
                                        first | trivial | rfl | (exfalso; omega)
                                    ·
                                      have wf7 := wr_i64 ((lenI b t (intsOf l.all) (utcD b t (intsOf l.all) n)) * 1000000000)
                                      have wf8 := wr_i64 ((begI b t (intsOf l.all) (utcD b t (intsOf l.all) n)) + (IntKind.wrap .i64 ((lenI b t (intsOf l.all) (utcD b t (intsOf l.all) n)) * 1000000000)))
                                      try simp only [hw6]
                                      refine ⟨fun h36 => ?_, fun h36 => ?_⟩
                                      ·
                                        first | trivial | rfl | (exfalso; omega)
                                      ·
                                        first | trivial | rfl | (exfalso; omega)
                                  ·
                                    first | trivial | rfl | (exfalso; omega)
                                ·
                                  first | trivial | rfl | (exfalso; omega)
                              ·
                                first | trivial | rfl | (exfalso; omega)
                            ·
                              first | trivial | rfl | (exfalso; omega)
                          ·
                            first | trivial | rfl | (exfalso; omega)
                        ·
                          refine ⟨fun h37 => ?_, fun h37 => ?_⟩
                          ·
                            refine ⟨fun h38 => ?_, fun h38 => ?_⟩
                            ·
                              refine ⟨fun h39 => ?_, fun h39 => ?_⟩
                              ·
                                refine ⟨fun h40 => ?_, fun h40 => ?_⟩
                                ·
                                  refine ⟨fun h41 => ?_, fun h41 => ?_⟩
                                  ·
                                    have wf9 := wr_i64 ((utcD b t (intsOf l.all) n) + 1)
                                    refine ⟨fun h42 => ?_, fun h42 => ?_⟩
                                    ·
                                      try simp only [hw9]
                                      refine ⟨fun h43 => ?_, fun h43 => ?_⟩
                                      ·
                                        first | trivial | rfl | (exfalso; omega)
                                      ·
                                        first | trivial | rfl | (exfalso; omega)
                                    ·
                                      have wf10 := wr_i64 ((lenI b t (intsOf l.all) (utcD b t (intsOf l.all) n)) * 1000000000)
                                      have wf11 := wr_i64 ((begI b t (intsOf l.all) (utcD b t (intsOf l.all) n)) + (IntKind.wrap .i64 ((lenI b t (intsOf l.all) (utcD b t (intsOf l.all) n)) * 1000000000)))
                                      try simp only [hw9]
                                      refine ⟨fun h44 => ?_, fun h44 => ?_⟩
                                      ·
                                        first | trivial | rfl | (exfalso; omega)
                                      ·
                                        first | trivial | rfl | (exfalso; omega)
                                  ·
                                    first | trivial | rfl | (exfalso; omega)
                                ·
                                  first | trivial | rfl | (exfalso; omega)
                              ·
                                first | trivial | rfl | (exfalso; omega)
                            ·
                              first | trivial | rfl | (exfalso; omega)
                          ·
                            first | trivial | rfl | (exfalso; omega)
                    ·
                      refine ⟨fun h45 => ?_, fun h45 => ?_⟩
                      ·
                        refine ⟨fun h46 => ?_, fun h46 => ?_⟩
                        ·
                          refine ⟨fun h47 => ?_, fun h47 => ?_⟩
                          ·
                            refine ⟨fun h48 => ?_, fun h48 => ?_⟩
                            ·
                              refine ⟨fun h49 => ?_, fun h49 => ?_⟩
                              ·
                                have wf12 := wr_i64 ((utcD b t (intsOf l.all) n) + 1)
                                refine ⟨fun h50 => ?_, fun h50 => ?_⟩
                                ·
                                  try simp only [hw12]
                                  refine ⟨fun h51 => ?_, fun h51 => ?_⟩
                                  ·
                                    first | trivial | rfl | (exfalso; omega)
                                  ·
                                    first | trivial | rfl | (exfalso; omega)
                                ·
                                  have wf13 := wr_i64 ((lenI b t (intsOf l.all) (utcD b t (intsOf l.all) n)) * 1000000000)
                                  have wf14 := wr_i64 ((begI b t (intsOf l.all) (utcD b t (intsOf l.all) n)) + (IntKind.wrap .i64 ((lenI b t (intsOf l.all) (utcD b t (intsOf l.all) n)) * 1000000000)))
                                  try simp only [hw12]
                                  refine ⟨fun h52 => ?_, fun h52 => ?_⟩
                                  ·
                                    first | trivial | rfl | (exfalso; omega)
                                  ·
                                    first | trivial | rfl | (exfalso; omega)
                              ·
                                first | trivial | rfl | (exfalso; omega)
                            ·
                              first | trivial | rfl | (exfalso; omega)
                          ·
                            first | trivial | rfl | (exfalso; omega)
                        ·
                          first | trivial | rfl | (exfalso; omega)
                      ·
                        first | trivial | rfl | (exfalso; omega)
theorem walkLeapBack (b : Int) (t : Int) (l : Slc) (n : Int) (o : Int) (e0 : l.esz = 1) (hl : l.len ≤ 9223372036854775807) (hn : InR n) (ho : InR o) (w : World) (hs0 : SlOk w l [.int .i64]) (hg : w.cell? ⟨0, 0, none⟩ = some asHandle) : Calls Tryd.prog 6 #[.agg #[.int .i64 b, .int .i64 t, l.val], .int .i64 n, .int .i64 o] w fun e w' => e = .returned (.bool true) ∧ Below w.heap.size w w' := by
  have h := calls_by (n := ⟨4, 0, 0, 0⟩) (x9dE [b, t, n, o] [] [] [] (slsOf [l])) (vs := [.agg #[.int .i64 b, .int .i64 t, l.val], .int .i64 n, .int .i64 o]) (W := w) x9dm walkLeapBack_w rfl ⟨rfl, rfl, rfl, rfl⟩ ⟨(good_cons (x9dg_check _ _ _ _ _ _) (good_cons (x9dg_lutc _ _ _ _ _ _) (good_cons (x9dg_ltai _ _ _ _ _ _) (good_cons (x9dg_LBegin _ _ _ _ _ _) (good_cons (x9dg_LLength _ _ _ _ _ _) (good_cons (x9dg_num _ _ _ _ _ _ hg) (good_cons (x9dg_sure _ _ _ _ _ _ hg) good_nil))))))), (slsOk_cons hs0 slsOk_nil)⟩ (walkLeapBack_h b t l n o e0 hl hn ho) rfl
  exact calls_eq h
end Go.Proofs.YtehiienjodicpaaDoor
