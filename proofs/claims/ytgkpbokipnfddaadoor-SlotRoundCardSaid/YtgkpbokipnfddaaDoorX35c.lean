/-
  Layer 35 by symbolic walks: SlotRound.
-/
import Derived.Test.YtgkpbokipnfddaaDoorSx
import Derived.Test.YtgkpbokipnfddaaDoorX35
import Derived.Test.YtgkpbokipnfddaaDoorM35c
namespace Go.Proofs.YtgkpbokipnfddaaDoor
open Go.RowKit Go.Extern.Stop Go.Stop Go.Extern Go.Proofs.YtgkpbokipnfddaaDoor.Sx
set_option linter.unusedVariables false
set_option linter.unusedSimpArgs false
def x35cI : Nat → List Value → Int
  | 0, [l, .int _ t, .string n, .int _ d, .int _ k] => cpE (strsOf l) t n d k
  | 1, [l, .int _ t, .string n, .int _ d, .int _ k] => fsE (strsOf l) t n d k
  | 2, [l] => firstN (longAt (strsOf l)) (strsOf l).length
  | 3, [.int _ s, l] => mayRI s (strsOf l)
  | 4, [.int _ s, l, .int _ d] => plE s (strsOf l) d
  | 5, [.int _ s, l, .int _ d] => plS s (strsOf l) d
  | 6, [.int _ s, l, .int _ d] => plG s (strsOf l) d
  | 7, [.int _ s, l, .int _ d] => lfV s (strsOf l) d
  | 8, [.int _ s, l, .int _ d, .string n] => nxE s (strsOf l) d n
  | 9, [.int _ s, l, .int _ d, .string n] => nxV s (strsOf l) d n
  | 10, [.int _ s, l, .string n] => shV s (strsOf l) n
  | 11, [l, .string n, .int _ k] => (cntM (strsOf l) n k.toNat : Int)
  | 12, [.int _ a, .int _ b] => dqE a b
  | 13, [.int _ a, .int _ b] => dmE a b
  | 14, [.int _ b] => deE b
  | _, _ => 0
def x35cB : Nat → List Value → Bool
  | 0, [l, .int _ n] => noneB (longAt (strsOf l)) n.toNat
  | 1, [l, .int _ p, .string n, .int _ k] => noneB (matchAt (strsOf l) p.toNat n) k.toNat
  | _, _ => false
def x35cV : Nat → List Value → Value
  | 0, [.int _ s, l, .int _ d] => .string (whoS s (strsOf l) d)
  | _, _ => Go.undef
abbrev x35cE (iv : List Int) (bv : List Bool) (vv : List Value) (sv : List ByteArray) (sls : Nat → Slc) : Env := { sls := sls, iv := iv, bv := bv, vv := vv, sv := sv, fi := x35cI, fb := x35cB, fv := x35cV, et := 111 }
theorem x35cso (s : ByteArray) : strOf (.string s) = s := rfl
theorem x35cse (a b : ByteArray) : strEq (.string a) (.string b) = (a == b) := rfl
theorem x35cm : Tryd.prog.follows .mixedOrders = true := by kernel_rfl
abbrev x35cc_scheck : Con := ⟨54, [(.agg (.cons (.int .i64 (.var 0)) (.cons (.sl 0) .nil)))], (.b2 .le (.slen 0) (.lit (9223372036854775807))), (.err (.iapp 3 (.cons (.int .i64 (.var 0)) (.cons (.slv 0) .nil)))), [[.str]]⟩
theorem x35cg_scheck (iv : List Int) (bv : List Bool) (vv : List Value) (sv : List ByteArray) (sls : Nat → Slc) (W : World) : x35cc_scheck.Good Tryd.prog (x35cE iv bv vv sv sls) W := by
  intro iv bv vv sv sls β hc w hb hsl
  have hs0 := hsl 0 _ rfl
  exact scheck (iv.getD 0 0) (sls 0) hs0.1.symm (by simp only [Sx.holds, denI] at hc; omega) w hs0
abbrev x35cc_splace : Con := ⟨76, [(.agg (.cons (.int .i64 (.var 0)) (.cons (.sl 0) .nil))), (.int .i64 (.var 1))], (.b2 .and (.b2 .le (.slen 0) (.lit (9223372036854775807))) (.b2 .and (.b2 .le (.lit (-9223372036854775808)) (.var 1)) (.b2 .le (.var 1) (.lit (9223372036854775807))))), (.tup (.cons (.int .i64 (.iapp 5 (.cons (.int .i64 (.var 0)) (.cons (.slv 0) (.cons (.int .i64 (.var 1)) .nil))))) (.cons (.int .i64 (.iapp 6 (.cons (.int .i64 (.var 0)) (.cons (.slv 0) (.cons (.int .i64 (.var 1)) .nil))))) (.cons (.err (.iapp 4 (.cons (.int .i64 (.var 0)) (.cons (.slv 0) (.cons (.int .i64 (.var 1)) .nil))))) .nil)))), [[.str]]⟩
theorem x35cg_splace (iv : List Int) (bv : List Bool) (vv : List Value) (sv : List ByteArray) (sls : Nat → Slc) (W : World) : x35cc_splace.Good Tryd.prog (x35cE iv bv vv sv sls) W := by
  intro iv bv vv sv sls β hc w hb hsl
  have hs0 := hsl 0 _ rfl
  exact splace (iv.getD 0 0) (sls 0) (iv.getD 1 0) hs0.1.symm (by simp only [Sx.holds, denI] at hc; omega) hc.2 w hs0
abbrev x35cc_swho : Con := ⟨45, [(.agg (.cons (.int .i64 (.var 0)) (.cons (.sl 0) .nil))), (.int .i64 (.var 1))], (.b2 .and (.b2 .le (.slen 0) (.lit (9223372036854775807))) (.b2 .and (.b2 .le (.lit (-9223372036854775808)) (.var 1)) (.b2 .le (.var 1) (.lit (9223372036854775807))))), (.tup (.cons (.sapp 0 (.cons (.int .i64 (.var 0)) (.cons (.slv 0) (.cons (.int .i64 (.var 1)) .nil)))) (.cons (.err (.iapp 4 (.cons (.int .i64 (.var 0)) (.cons (.slv 0) (.cons (.int .i64 (.var 1)) .nil))))) .nil))), [[.str]]⟩
theorem x35cg_swho (iv : List Int) (bv : List Bool) (vv : List Value) (sv : List ByteArray) (sls : Nat → Slc) (W : World) : x35cc_swho.Good Tryd.prog (x35cE iv bv vv sv sls) W := by
  intro iv bv vv sv sls β hc w hb hsl
  have hs0 := hsl 0 _ rfl
  exact swho (iv.getD 0 0) (sls 0) (iv.getD 1 0) hs0.1.symm (by simp only [Sx.holds, denI] at hc; omega) hc.2 w hs0
abbrev x35cc_sleft : Con := ⟨47, [(.agg (.cons (.int .i64 (.var 0)) (.cons (.sl 0) .nil))), (.int .i64 (.var 1))], (.b2 .and (.b2 .le (.slen 0) (.lit (9223372036854775807))) (.b2 .and (.b2 .le (.lit (-9223372036854775808)) (.var 1)) (.b2 .le (.var 1) (.lit (9223372036854775807))))), (.tup (.cons (.int .i64 (.iapp 7 (.cons (.int .i64 (.var 0)) (.cons (.slv 0) (.cons (.int .i64 (.var 1)) .nil))))) (.cons (.err (.iapp 4 (.cons (.int .i64 (.var 0)) (.cons (.slv 0) (.cons (.int .i64 (.var 1)) .nil))))) .nil))), [[.str]]⟩
theorem x35cg_sleft (iv : List Int) (bv : List Bool) (vv : List Value) (sv : List ByteArray) (sls : Nat → Slc) (W : World) : x35cc_sleft.Good Tryd.prog (x35cE iv bv vv sv sls) W := by
  intro iv bv vv sv sls β hc w hb hsl
  have hs0 := hsl 0 _ rfl
  exact sleft (iv.getD 0 0) (sls 0) (iv.getD 1 0) hs0.1.symm (by simp only [Sx.holds, denI] at hc; omega) hc.2 w hs0
abbrev x35cc_snext : Con := ⟨49, [(.agg (.cons (.int .i64 (.var 0)) (.cons (.sl 0) .nil))), (.str 0), (.int .i64 (.var 1))], (.b2 .and (.b2 .le (.slen 0) (.lit (9223372036854775807))) (.b2 .and (.b2 .le (.lit (-9223372036854775808)) (.var 1)) (.b2 .le (.var 1) (.lit (9223372036854775807))))), (.tup (.cons (.int .i64 (.iapp 9 (.cons (.int .i64 (.var 0)) (.cons (.slv 0) (.cons (.int .i64 (.var 1)) (.cons (.str 0) .nil)))))) (.cons (.err (.iapp 8 (.cons (.int .i64 (.var 0)) (.cons (.slv 0) (.cons (.int .i64 (.var 1)) (.cons (.str 0) .nil)))))) .nil))), [[.str]]⟩
theorem x35cg_snext (iv : List Int) (bv : List Bool) (vv : List Value) (sv : List ByteArray) (sls : Nat → Slc) (W : World) : x35cc_snext.Good Tryd.prog (x35cE iv bv vv sv sls) W := by
  intro iv bv vv sv sls β hc w hb hsl
  have hs0 := hsl 0 _ rfl
  exact snext (iv.getD 0 0) (sls 0) (sv.getD 0 ByteArray.empty) (iv.getD 1 0) hs0.1.symm (by simp only [Sx.holds, denI] at hc; omega) hc.2 w hs0
abbrev x35cc_sshare : Con := ⟨53, [(.agg (.cons (.int .i64 (.var 0)) (.cons (.sl 0) .nil))), (.str 0)], (.b2 .le (.slen 0) (.lit (9223372036854775807))), (.int .i64 (.iapp 10 (.cons (.int .i64 (.var 0)) (.cons (.slv 0) (.cons (.str 0) .nil))))), [[.str]]⟩
theorem x35cg_sshare (iv : List Int) (bv : List Bool) (vv : List Value) (sv : List ByteArray) (sls : Nat → Slc) (W : World) : x35cc_sshare.Good Tryd.prog (x35cE iv bv vv sv sls) W := by
  intro iv bv vv sv sls β hc w hb hsl
  have hs0 := hsl 0 _ rfl
  exact sshare (iv.getD 0 0) (sls 0) (sv.getD 0 ByteArray.empty) hs0.1.symm (by simp only [Sx.holds, denI] at hc; omega) w hs0
abbrev x35cc_rmay : Con := ⟨51, [(.agg (.cons (.int .i64 (.var 0)) (.cons (.sl 0) .nil)))], (.b2 .le (.slen 0) (.lit (9223372036854775807))), (.bool (.b2 .eq (.iapp 3 (.cons (.int .i64 (.var 0)) (.cons (.slv 0) .nil))) (.lit (0)))), [[.str]]⟩
theorem x35cg_rmay (iv : List Int) (bv : List Bool) (vv : List Value) (sv : List ByteArray) (sls : Nat → Slc) (W : World) : x35cc_rmay.Good Tryd.prog (x35cE iv bv vv sv sls) W := by
  intro iv bv vv sv sls β hc w hb hsl
  have hs0 := hsl 0 _ rfl
  exact (by have h := rmay35 (iv.getD 0 0) (sls 0) hs0.1.symm (by simp only [Sx.holds, denI] at hc; omega) w hs0; rw [mayR_B] at h; exact h)
abbrev x35cc_rwho : Con := ⟨46, [(.agg (.cons (.int .i64 (.var 0)) (.cons (.sl 0) .nil))), (.int .i64 (.var 1))], (.b2 .and (.b2 .le (.slen 0) (.lit (9223372036854775807))) (.b2 .and (.b2 .le (.lit (-9223372036854775808)) (.var 1)) (.b2 .le (.var 1) (.lit (9223372036854775807))))), (.tup (.cons (.sapp 0 (.cons (.int .i64 (.var 0)) (.cons (.slv 0) (.cons (.int .i64 (.var 1)) .nil)))) (.cons (.int .i64 (.iapp 4 (.cons (.int .i64 (.var 0)) (.cons (.slv 0) (.cons (.int .i64 (.var 1)) .nil))))) .nil))), [[.str]]⟩
theorem x35cg_rwho (iv : List Int) (bv : List Bool) (vv : List Value) (sv : List ByteArray) (sls : Nat → Slc) (W : World) : x35cc_rwho.Good Tryd.prog (x35cE iv bv vv sv sls) W := by
  intro iv bv vv sv sls β hc w hb hsl
  have hs0 := hsl 0 _ rfl
  exact rwho (iv.getD 0 0) (sls 0) (iv.getD 1 0) hs0.1.symm (by simp only [Sx.holds, denI] at hc; omega) hc.2 w hs0
abbrev x35cc_rleft : Con := ⟨48, [(.agg (.cons (.int .i64 (.var 0)) (.cons (.sl 0) .nil))), (.int .i64 (.var 1))], (.b2 .and (.b2 .le (.slen 0) (.lit (9223372036854775807))) (.b2 .and (.b2 .le (.lit (-9223372036854775808)) (.var 1)) (.b2 .le (.var 1) (.lit (9223372036854775807))))), (.tup (.cons (.int .i64 (.iapp 7 (.cons (.int .i64 (.var 0)) (.cons (.slv 0) (.cons (.int .i64 (.var 1)) .nil))))) (.cons (.int .i64 (.iapp 4 (.cons (.int .i64 (.var 0)) (.cons (.slv 0) (.cons (.int .i64 (.var 1)) .nil))))) .nil))), [[.str]]⟩
theorem x35cg_rleft (iv : List Int) (bv : List Bool) (vv : List Value) (sv : List ByteArray) (sls : Nat → Slc) (W : World) : x35cc_rleft.Good Tryd.prog (x35cE iv bv vv sv sls) W := by
  intro iv bv vv sv sls β hc w hb hsl
  have hs0 := hsl 0 _ rfl
  exact rleft (iv.getD 0 0) (sls 0) (iv.getD 1 0) hs0.1.symm (by simp only [Sx.holds, denI] at hc; omega) hc.2 w hs0
abbrev x35cc_rnext : Con := ⟨50, [(.agg (.cons (.int .i64 (.var 0)) (.cons (.sl 0) .nil))), (.str 0), (.int .i64 (.var 1))], (.b2 .and (.b2 .le (.slen 0) (.lit (9223372036854775807))) (.b2 .and (.b2 .le (.lit (-9223372036854775808)) (.var 1)) (.b2 .le (.var 1) (.lit (9223372036854775807))))), (.tup (.cons (.int .i64 (.iapp 9 (.cons (.int .i64 (.var 0)) (.cons (.slv 0) (.cons (.int .i64 (.var 1)) (.cons (.str 0) .nil)))))) (.cons (.int .i64 (.iapp 8 (.cons (.int .i64 (.var 0)) (.cons (.slv 0) (.cons (.int .i64 (.var 1)) (.cons (.str 0) .nil)))))) .nil))), [[.str]]⟩
theorem x35cg_rnext (iv : List Int) (bv : List Bool) (vv : List Value) (sv : List ByteArray) (sls : Nat → Slc) (W : World) : x35cc_rnext.Good Tryd.prog (x35cE iv bv vv sv sls) W := by
  intro iv bv vv sv sls β hc w hb hsl
  have hs0 := hsl 0 _ rfl
  exact rnext (iv.getD 0 0) (sls 0) (sv.getD 0 ByteArray.empty) (iv.getD 1 0) hs0.1.symm (by simp only [Sx.holds, denI] at hc; omega) hc.2 w hs0
abbrev x35cc_num : Con := ⟨52, [(.err (.var 0))], (.tt true), (.int .i64 (.var 0)), []⟩
theorem x35cg_num (iv : List Int) (bv : List Bool) (vv : List Value) (sv : List ByteArray) (sls : Nat → Slc) (W : World) (hg : W.cell? ⟨0, 0, none⟩ = some asHandle) : x35cc_num.Good Tryd.prog (x35cE iv bv vv sv sls) W := by
  intro iv bv vv sv sls β hc w hb hsl
  have hgw := handle_below hg hb (handle_lt hg)
  exact num35_anyx (iv.getD 0 0) w hgw
abbrev x35cc_sure : Con := ⟨44, [], (.tt true), (.bool (.tt true)), []⟩
theorem x35cg_sure (iv : List Int) (bv : List Bool) (vv : List Value) (sv : List ByteArray) (sls : Nat → Slc) (W : World) (hg : W.cell? ⟨0, 0, none⟩ = some asHandle) : x35cc_sure.Good Tryd.prog (x35cE iv bv vv sv sls) W := by
  intro iv bv vv sv sls β hc w hb hsl
  have hgw := handle_below hg hb (handle_lt hg)
  exact sure35 w hgw
def walkSlotRound_tree : Tree :=
 (.br (.b2 .lt (.lit (40)) (.slen 0))
 (.ret (.bool (.tt true)))
 (.br (.b2 .lt (.lit (12)) (.blen (.str 0)))
 (.ret (.bool (.tt true)))
 (.need (.b2 .le (.slen 0) (.lit (9223372036854775807)))
 (.br (.not (.b2 .eq (.iapp 3 (.cons (.int .i64 (.var 0)) (.cons (.slv 0) .nil))) (.lit (0))))
 (.ret (.bool (.tt true)))
 (.br (.b2 .lt (.lit (20)) (.var 0))
 (.ret (.bool (.tt true)))
 (.loop ⟨3, 0, 0, 0⟩ (.b2 .and (.b2 .le (.lit (0)) (.lit (0))) (.b2 .and (.b2 .le (.lit (0)) (.i2 .mul (.var 0) (.slen 0))) (.b2 .and (.b2 .eq (.lit (0)) (.iapp 0 (.cons (.slv 0) (.cons (.int .i64 (.var 0)) (.cons (.str 0) (.cons (.int .i64 (.var 1)) (.cons (.int .i64 (.lit (0))) .nil))))))) (.b2 .eq (.lit (-1)) (.iapp 1 (.cons (.slv 0) (.cons (.int .i64 (.var 0)) (.cons (.str 0) (.cons (.int .i64 (.var 1)) (.cons (.int .i64 (.lit (0))) .nil)))))))))) (.b2 .and (.b2 .le (.lit (0)) (.var 4)) (.b2 .and (.b2 .le (.var 4) (.i2 .mul (.var 0) (.slen 0))) (.b2 .and (.b2 .eq (.var 2) (.iapp 0 (.cons (.slv 0) (.cons (.int .i64 (.var 0)) (.cons (.str 0) (.cons (.int .i64 (.var 1)) (.cons (.int .i64 (.var 4)) .nil))))))) (.b2 .eq (.var 3) (.iapp 1 (.cons (.slv 0) (.cons (.int .i64 (.var 0)) (.cons (.str 0) (.cons (.int .i64 (.var 1)) (.cons (.int .i64 (.var 4)) .nil))))))))))
 (.br (.b2 .lt (.var 4) (.wrap .i64 (.i2 .mul (.var 0) (.slen 0))))
 (.br (.b2 .lt (.var 4) (.lit (400)))
 (.need (.b2 .and (.b2 .le (.slen 0) (.lit (9223372036854775807))) (.b2 .and (.b2 .le (.lit (-9223372036854775808)) (.wrap .i64 (.i2 .add (.wrap .i64 (.var 1)) (.var 4)))) (.b2 .le (.wrap .i64 (.i2 .add (.wrap .i64 (.var 1)) (.var 4))) (.lit (9223372036854775807)))))
 (.br (.not (.b2 .eq (.iapp 4 (.cons (.int .i64 (.var 0)) (.cons (.slv 0) (.cons (.int .i64 (.wrap .i64 (.i2 .add (.wrap .i64 (.var 1)) (.var 4)))) .nil)))) (.lit (0))))
 (.ret (.bool (.tt false)))
 (.br (.veq (.sapp 0 (.cons (.int .i64 (.var 0)) (.cons (.slv 0) (.cons (.int .i64 (.wrap .i64 (.i2 .add (.wrap .i64 (.var 1)) (.var 4)))) .nil)))) (.str 0))
 (.br (.not (.veq (.str 0) (.cst (.strc []))))
 (.br (.b2 .lt (.var 3) (.lit (0)))
 (.back (.b2 .and (.b2 .le (.lit (0)) (.wrap .i64 (.i2 .add (.var 4) (.lit (1))))) (.b2 .and (.b2 .le (.wrap .i64 (.i2 .add (.var 4) (.lit (1)))) (.i2 .mul (.var 0) (.slen 0))) (.b2 .and (.b2 .eq (.wrap .i64 (.i2 .add (.var 2) (.lit (1)))) (.iapp 0 (.cons (.slv 0) (.cons (.int .i64 (.var 0)) (.cons (.str 0) (.cons (.int .i64 (.var 1)) (.cons (.int .i64 (.wrap .i64 (.i2 .add (.var 4) (.lit (1))))) .nil))))))) (.b2 .eq (.wrap .i64 (.i2 .add (.wrap .i64 (.var 1)) (.var 4))) (.iapp 1 (.cons (.slv 0) (.cons (.int .i64 (.var 0)) (.cons (.str 0) (.cons (.int .i64 (.var 1)) (.cons (.int .i64 (.wrap .i64 (.i2 .add (.var 4) (.lit (1))))) .nil)))))))))) (.i2 .sub (.i2 .mul (.var 0) (.slen 0)) (.wrap .i64 (.i2 .add (.var 4) (.lit (1))))) (.i2 .sub (.i2 .mul (.var 0) (.slen 0)) (.var 4)))
 (.back (.b2 .and (.b2 .le (.lit (0)) (.wrap .i64 (.i2 .add (.var 4) (.lit (1))))) (.b2 .and (.b2 .le (.wrap .i64 (.i2 .add (.var 4) (.lit (1)))) (.i2 .mul (.var 0) (.slen 0))) (.b2 .and (.b2 .eq (.wrap .i64 (.i2 .add (.var 2) (.lit (1)))) (.iapp 0 (.cons (.slv 0) (.cons (.int .i64 (.var 0)) (.cons (.str 0) (.cons (.int .i64 (.var 1)) (.cons (.int .i64 (.wrap .i64 (.i2 .add (.var 4) (.lit (1))))) .nil))))))) (.b2 .eq (.var 3) (.iapp 1 (.cons (.slv 0) (.cons (.int .i64 (.var 0)) (.cons (.str 0) (.cons (.int .i64 (.var 1)) (.cons (.int .i64 (.wrap .i64 (.i2 .add (.var 4) (.lit (1))))) .nil)))))))))) (.i2 .sub (.i2 .mul (.var 0) (.slen 0)) (.wrap .i64 (.i2 .add (.var 4) (.lit (1))))) (.i2 .sub (.i2 .mul (.var 0) (.slen 0)) (.var 4))))
 (.back (.b2 .and (.b2 .le (.lit (0)) (.wrap .i64 (.i2 .add (.var 4) (.lit (1))))) (.b2 .and (.b2 .le (.wrap .i64 (.i2 .add (.var 4) (.lit (1)))) (.i2 .mul (.var 0) (.slen 0))) (.b2 .and (.b2 .eq (.var 2) (.iapp 0 (.cons (.slv 0) (.cons (.int .i64 (.var 0)) (.cons (.str 0) (.cons (.int .i64 (.var 1)) (.cons (.int .i64 (.wrap .i64 (.i2 .add (.var 4) (.lit (1))))) .nil))))))) (.b2 .eq (.var 3) (.iapp 1 (.cons (.slv 0) (.cons (.int .i64 (.var 0)) (.cons (.str 0) (.cons (.int .i64 (.var 1)) (.cons (.int .i64 (.wrap .i64 (.i2 .add (.var 4) (.lit (1))))) .nil)))))))))) (.i2 .sub (.i2 .mul (.var 0) (.slen 0)) (.wrap .i64 (.i2 .add (.var 4) (.lit (1))))) (.i2 .sub (.i2 .mul (.var 0) (.slen 0)) (.var 4))))
 (.back (.b2 .and (.b2 .le (.lit (0)) (.wrap .i64 (.i2 .add (.var 4) (.lit (1))))) (.b2 .and (.b2 .le (.wrap .i64 (.i2 .add (.var 4) (.lit (1)))) (.i2 .mul (.var 0) (.slen 0))) (.b2 .and (.b2 .eq (.var 2) (.iapp 0 (.cons (.slv 0) (.cons (.int .i64 (.var 0)) (.cons (.str 0) (.cons (.int .i64 (.var 1)) (.cons (.int .i64 (.wrap .i64 (.i2 .add (.var 4) (.lit (1))))) .nil))))))) (.b2 .eq (.var 3) (.iapp 1 (.cons (.slv 0) (.cons (.int .i64 (.var 0)) (.cons (.str 0) (.cons (.int .i64 (.var 1)) (.cons (.int .i64 (.wrap .i64 (.i2 .add (.var 4) (.lit (1))))) .nil)))))))))) (.i2 .sub (.i2 .mul (.var 0) (.slen 0)) (.wrap .i64 (.i2 .add (.var 4) (.lit (1))))) (.i2 .sub (.i2 .mul (.var 0) (.slen 0)) (.var 4))))))
 (.need (.b2 .and (.b2 .le (.slen 0) (.lit (9223372036854775807))) (.b2 .and (.b2 .le (.lit (-9223372036854775808)) (.wrap .i64 (.var 1))) (.b2 .le (.wrap .i64 (.var 1)) (.lit (9223372036854775807)))))
 (.br (.b2 .lt (.var 3) (.lit (0)))
 (.br (.b2 .eq (.iapp 8 (.cons (.int .i64 (.var 0)) (.cons (.slv 0) (.cons (.int .i64 (.wrap .i64 (.var 1))) (.cons (.str 0) .nil))))) (.lit (6)))
 (.need (.b2 .le (.slen 0) (.lit (9223372036854775807)))
 (.br (.b2 .eq (.iapp 10 (.cons (.int .i64 (.var 0)) (.cons (.slv 0) (.cons (.str 0) .nil)))) (.lit (0)))
 (.ret (.bool (.tt true)))
 (.ret (.bool (.tt false)))))
 (.ret (.bool (.tt false))))
 (.br (.b2 .eq (.iapp 8 (.cons (.int .i64 (.var 0)) (.cons (.slv 0) (.cons (.int .i64 (.wrap .i64 (.var 1))) (.cons (.str 0) .nil))))) (.lit (0)))
 (.br (.b2 .eq (.iapp 9 (.cons (.int .i64 (.var 0)) (.cons (.slv 0) (.cons (.int .i64 (.wrap .i64 (.var 1))) (.cons (.str 0) .nil))))) (.var 3))
 (.need (.b2 .le (.slen 0) (.lit (9223372036854775807)))
 (.br (.b2 .eq (.var 2) (.iapp 10 (.cons (.int .i64 (.var 0)) (.cons (.slv 0) (.cons (.str 0) .nil)))))
 (.ret (.bool (.tt true)))
 (.ret (.bool (.tt false)))))
 (.ret (.bool (.tt false))))
 (.ret (.bool (.tt false)))))))
 (.need (.b2 .and (.b2 .le (.slen 0) (.lit (9223372036854775807))) (.b2 .and (.b2 .le (.lit (-9223372036854775808)) (.wrap .i64 (.var 1))) (.b2 .le (.wrap .i64 (.var 1)) (.lit (9223372036854775807)))))
 (.br (.b2 .lt (.var 3) (.lit (0)))
 (.br (.b2 .eq (.iapp 8 (.cons (.int .i64 (.var 0)) (.cons (.slv 0) (.cons (.int .i64 (.wrap .i64 (.var 1))) (.cons (.str 0) .nil))))) (.lit (6)))
 (.need (.b2 .le (.slen 0) (.lit (9223372036854775807)))
 (.br (.b2 .eq (.iapp 10 (.cons (.int .i64 (.var 0)) (.cons (.slv 0) (.cons (.str 0) .nil)))) (.lit (0)))
 (.ret (.bool (.tt true)))
 (.ret (.bool (.tt false)))))
 (.ret (.bool (.tt false))))
 (.br (.b2 .eq (.iapp 8 (.cons (.int .i64 (.var 0)) (.cons (.slv 0) (.cons (.int .i64 (.wrap .i64 (.var 1))) (.cons (.str 0) .nil))))) (.lit (0)))
 (.br (.b2 .eq (.iapp 9 (.cons (.int .i64 (.var 0)) (.cons (.slv 0) (.cons (.int .i64 (.wrap .i64 (.var 1))) (.cons (.str 0) .nil))))) (.var 3))
 (.need (.b2 .le (.slen 0) (.lit (9223372036854775807)))
 (.br (.b2 .eq (.var 2) (.iapp 10 (.cons (.int .i64 (.var 0)) (.cons (.slv 0) (.cons (.str 0) .nil)))))
 (.ret (.bool (.tt true)))
 (.ret (.bool (.tt false)))))
 (.ret (.bool (.tt false))))
 (.ret (.bool (.tt false)))))))))))))
theorem walkSlotRound_w : walk Tryd.prog 111 ⟨[x35cc_swho, x35cc_snext, x35cc_sshare, x35cc_scheck, x35cc_num, x35cc_sure], [[.str]]⟩ [⟨0, ⟨3, 0, 0, 0⟩, [(8, (.int .i64 (.var 2))), (10, (.int .i64 (.var 3))), (11, (.int .i64 (.var 4)))], none, (.b2 .and (.b2 .le (.lit (0)) (.var 4)) (.b2 .and (.b2 .le (.var 4) (.i2 .mul (.var 0) (.slen 0))) (.b2 .and (.b2 .eq (.var 2) (.iapp 0 (.cons (.slv 0) (.cons (.int .i64 (.var 0)) (.cons (.str 0) (.cons (.int .i64 (.var 1)) (.cons (.int .i64 (.var 4)) .nil))))))) (.b2 .eq (.var 3) (.iapp 1 (.cons (.slv 0) (.cons (.int .i64 (.var 0)) (.cons (.str 0) (.cons (.int .i64 (.var 1)) (.cons (.int .i64 (.var 4)) .nil)))))))))), (.i2 .sub (.i2 .mul (.var 0) (.slen 0)) (.var 4))⟩] 13 [(.agg (.cons (.int .i64 (.var 0)) (.cons (.sl 0) .nil))), (.str 0), (.int .u32 (.var 1))] ⟨2, 0, 0, 1⟩ 2000 = some walkSlotRound_tree := by kernel_rfl
theorem walkSlotRound_h (t : Int) (l : Slc) (n : ByteArray) (d : Int) (e0 : l.esz = 1) (hl : l.len ≤ 9223372036854775807) (h0d : 0 ≤ d) (h1d : d ≤ 4294967295) : walkSlotRound_tree.holds (fun v => v = .bool true) (x35cE [t, d] [] [] [n] (slsOf [l])) := by
  unfold walkSlotRound_tree
  simp only [AllN, Env.more, x35cE, List.cons_append, List.nil_append, List.append_nil, Tree.holds, Sx.holds, denV, denI, denB, denL, I2.den, x35cI, x35cB, x35cV, List.getD_cons_zero, List.getD_cons_succ, Cst.den, slsOf_zero, slsOf_one, x35cso, x35cse, List.map_nil, List.map_cons, B2.ofInts, B2.denI, B2.denB, if_true, Bool.false_eq_true, if_false]
  have hlen := strs_len l e0
  have f1 := mayRI_spec t (strsOf l.all)
  refine ⟨fun h0 => ?_, fun h0 => ?_⟩
  ·
    first | trivial | rfl | (exfalso; omega)
  ·
    refine ⟨fun h1 => ?_, fun h1 => ?_⟩
    ·
      first | trivial | rfl | (exfalso; omega)
    ·
      refine ⟨?_, fun h2 => ?_⟩
      ·
        omega
      ·
        refine ⟨fun h3 => ?_, fun h3 => ?_⟩
        ·
          first | trivial | rfl | (exfalso; omega)
        ·
          refine ⟨fun h4 => ?_, fun h4 => ?_⟩
          ·
            first | trivial | rfl | (exfalso; omega)
          ·
            refine ⟨?_, ?_⟩
            ·
              exact ⟨by omega, Int.mul_nonneg (by omega) (by omega), rfl, rfl⟩
            ·
              intro i0a i0b i0c hi0
              obtain ⟨r0, r1, r2, r3⟩ := hi0
              have hm : mayRI t (strsOf l.all) = 0 := by omega
              have kT : t * (l.len : Int) ≤ 20 * 16 := Int.mul_le_mul (by omega) (by omega) (by omega) (by omega)
              have w1 : IntKind.wrap .i64 (t * (l.len : Int)) = t * (l.len : Int) := IntWalk.i64_in _ (by omega)
              have w2 : IntKind.wrap .i64 d = d := IntWalk.i64_in _ (by omega)
              have w3 : IntKind.wrap .i64 (d + i0c) = d + i0c := IntWalk.i64_in _ (by omega)
              have w4 : IntKind.wrap .i64 (i0c + 1) = i0c + 1 := IntWalk.i64_in _ (by omega)
              simp only [w1, w2, w3, w4]
              have hp : plE t (strsOf l.all) (d + i0c) = 0 := by unfold plE; rw [if_pos ⟨hm, by omega, by omega⟩]
              have htn : tnE (strsOf l.all) t n d i0c.toNat = (!(n == (⟨#[]⟩ : ByteArray)) && (whoS t (strsOf l.all) (d + i0c) == n)) := by unfold tnE; rw [who_turn n hp, show (d + i0c).toNat = d.toNat + i0c.toNat by omega]
              have hst := round_step (strsOf l.all) t n (d := d) (k := i0c) r0 h0d
              have hR := round_all (l := strsOf l.all) (t := t) (d := d) n hm h0d (by omega)
              rw [hlen] at hR
              have hcb := cpE_rng (strsOf l.all) t n d r0
              refine ⟨fun h5 => ?_, fun h5 => ?_⟩
              ·
                refine ⟨fun h6 => ?_, fun h6 => ?_⟩
                ·
                  refine ⟨?_, fun h7 => ?_⟩
                  ·
                    omega
                  ·
                    try simp only [hw2]
                    try simp only [hw1]
                    refine ⟨fun h8 => ?_, fun h8 => ?_⟩
                    ·
                      by_cases hT : i0c = t * (l.len : Int)
                      · rw [← hT, ← r2, ← r3] at hR
                        first | trivial | rfl | (exfalso; omega) | (trace_state; sorry)
                      · first | trivial | rfl | (exfalso; omega) | (trace_state; sorry)
                    ·
                      try simp only [hw2]
                      try simp only [hw1]
                      refine ⟨fun h9 => ?_, fun h9 => ?_⟩
                      ·
                        refine ⟨fun h10 => ?_, fun h10 => ?_⟩
                        ·
                          refine ⟨fun h11 => ?_, fun h11 => ?_⟩
                          ·
                            have wf4 := wr_i64 (i0a + 1)
                            refine ⟨?_, ?_⟩
                            ·
                              rcases hst with ⟨a1, a2, a3⟩ | ⟨a1, a2, a3⟩
                              all_goals first
                                | (exfalso; rw [htn] at a1; simp_all; done)
                                | (refine ⟨by omega, by omega, by omega, by omega⟩)
                            ·
                              omega
                          ·
                            have wf6 := wr_i64 (i0a + 1)
                            refine ⟨?_, ?_⟩
                            ·
                              rcases hst with ⟨a1, a2, a3⟩ | ⟨a1, a2, a3⟩
                              all_goals first
                                | (exfalso; rw [htn] at a1; simp_all; done)
                                | (refine ⟨by omega, by omega, by omega, by omega⟩)
                            ·
                              omega
                        ·
                          refine ⟨?_, ?_⟩
                          ·
                            rcases hst with ⟨a1, a2, a3⟩ | ⟨a1, a2, a3⟩
                            all_goals first
                              | (exfalso; rw [htn] at a1; simp_all; done)
                              | (refine ⟨by omega, by omega, by omega, by omega⟩)
                          ·
                            omega
                      ·
                        refine ⟨?_, ?_⟩
                        ·
                          rcases hst with ⟨a1, a2, a3⟩ | ⟨a1, a2, a3⟩
                          all_goals first
                            | (exfalso; rw [htn] at a1; simp_all; done)
                            | (refine ⟨by omega, by omega, by omega, by omega⟩)
                        ·
                          omega
                ·
                  refine ⟨?_, fun h12 => ?_⟩
                  ·
                    omega
                  ·
                    refine ⟨fun h13 => ?_, fun h13 => ?_⟩
                    ·
                      try simp only [hw9]
                      refine ⟨fun h14 => ?_, fun h14 => ?_⟩
                      ·
                        refine ⟨?_, fun h15 => ?_⟩
                        ·
                          omega
                        ·
                          refine ⟨fun h16 => ?_, fun h16 => ?_⟩
                          ·
                            by_cases hT : i0c = t * (l.len : Int)
                            · rw [← hT, ← r2, ← r3] at hR
                              first | trivial | rfl | (exfalso; omega) | (trace_state; sorry)
                            · first | trivial | rfl | (exfalso; omega) | (trace_state; sorry)
                          ·
                            by_cases hT : i0c = t * (l.len : Int)
                            · rw [← hT, ← r2, ← r3] at hR
                              first | trivial | rfl | (exfalso; omega) | (trace_state; sorry)
                            · first | trivial | rfl | (exfalso; omega) | (trace_state; sorry)
                      ·
                        by_cases hT : i0c = t * (l.len : Int)
                        · rw [← hT, ← r2, ← r3] at hR
                          first | trivial | rfl | (exfalso; omega) | (trace_state; sorry)
                        · first | trivial | rfl | (exfalso; omega) | (trace_state; sorry)
                    ·
                      try simp only [hw9]
                      refine ⟨fun h17 => ?_, fun h17 => ?_⟩
                      ·
                        try simp only [hw9]
                        refine ⟨fun h18 => ?_, fun h18 => ?_⟩
                        ·
                          refine ⟨?_, fun h19 => ?_⟩
                          ·
                            omega
                          ·
                            refine ⟨fun h20 => ?_, fun h20 => ?_⟩
                            ·
                              by_cases hT : i0c = t * (l.len : Int)
                              · rw [← hT, ← r2, ← r3] at hR
                                first | trivial | rfl | (exfalso; omega) | (trace_state; sorry)
                              · first | trivial | rfl | (exfalso; omega) | (trace_state; sorry)
                            ·
                              by_cases hT : i0c = t * (l.len : Int)
                              · rw [← hT, ← r2, ← r3] at hR
                                first | trivial | rfl | (exfalso; omega) | (trace_state; sorry)
                              · first | trivial | rfl | (exfalso; omega) | (trace_state; sorry)
                        ·
                          by_cases hT : i0c = t * (l.len : Int)
                          · rw [← hT, ← r2, ← r3] at hR
                            first | trivial | rfl | (exfalso; omega) | (trace_state; sorry)
                          · first | trivial | rfl | (exfalso; omega) | (trace_state; sorry)
                      ·
                        by_cases hT : i0c = t * (l.len : Int)
                        · rw [← hT, ← r2, ← r3] at hR
                          first | trivial | rfl | (exfalso; omega) | (trace_state; sorry)
                        · first | trivial | rfl | (exfalso; omega) | (trace_state; sorry)
              ·
                refine ⟨?_, fun h21 => ?_⟩
                ·
                  omega
                ·
                  refine ⟨fun h22 => ?_, fun h22 => ?_⟩
                  ·
                    try simp only [hw10]
                    refine ⟨fun h23 => ?_, fun h23 => ?_⟩
                    ·
                      refine ⟨?_, fun h24 => ?_⟩
                      ·
                        omega
                      ·
                        refine ⟨fun h25 => ?_, fun h25 => ?_⟩
                        ·
                          by_cases hT : i0c = t * (l.len : Int)
                          · rw [← hT, ← r2, ← r3] at hR
                            first | trivial | rfl | (exfalso; omega) | (trace_state; sorry)
                          · first | trivial | rfl | (exfalso; omega) | (trace_state; sorry)
                        ·
                          by_cases hT : i0c = t * (l.len : Int)
                          · rw [← hT, ← r2, ← r3] at hR
                            first | trivial | rfl | (exfalso; omega) | (trace_state; sorry)
                          · first | trivial | rfl | (exfalso; omega) | (trace_state; sorry)
                    ·
                      by_cases hT : i0c = t * (l.len : Int)
                      · rw [← hT, ← r2, ← r3] at hR
                        first | trivial | rfl | (exfalso; omega) | (trace_state; sorry)
                      · first | trivial | rfl | (exfalso; omega) | (trace_state; sorry)
                  ·
                    try simp only [hw10]
                    refine ⟨fun h26 => ?_, fun h26 => ?_⟩
                    ·
                      try simp only [hw10]
                      refine ⟨fun h27 => ?_, fun h27 => ?_⟩
                      ·
                        refine ⟨?_, fun h28 => ?_⟩
                        ·
                          omega
                        ·
                          refine ⟨fun h29 => ?_, fun h29 => ?_⟩
                          ·
                            by_cases hT : i0c = t * (l.len : Int)
                            · rw [← hT, ← r2, ← r3] at hR
                              first | trivial | rfl | (exfalso; omega) | (trace_state; sorry)
                            · first | trivial | rfl | (exfalso; omega) | (trace_state; sorry)
                          ·
                            by_cases hT : i0c = t * (l.len : Int)
                            · rw [← hT, ← r2, ← r3] at hR
                              first | trivial | rfl | (exfalso; omega) | (trace_state; sorry)
                            · first | trivial | rfl | (exfalso; omega) | (trace_state; sorry)
                      ·
                        by_cases hT : i0c = t * (l.len : Int)
                        · rw [← hT, ← r2, ← r3] at hR
                          first | trivial | rfl | (exfalso; omega) | (trace_state; sorry)
                        · first | trivial | rfl | (exfalso; omega) | (trace_state; sorry)
                    ·
                      by_cases hT : i0c = t * (l.len : Int)
                      · rw [← hT, ← r2, ← r3] at hR
                        first | trivial | rfl | (exfalso; omega) | (trace_state; sorry)
                      · first | trivial | rfl | (exfalso; omega) | (trace_state; sorry)
theorem walkSlotRound (t : Int) (l : Slc) (n : ByteArray) (d : Int) (e0 : l.esz = 1) (hl : l.len ≤ 9223372036854775807) (h0d : 0 ≤ d) (h1d : d ≤ 4294967295) (w : World) (hs0 : SlOk w l [.str]) (hg : w.cell? ⟨0, 0, none⟩ = some asHandle) : Calls Tryd.prog 13 #[.agg #[.int .i64 t, l.val], .string n, .int .u32 d] w fun e w' => e = .returned (.bool true) ∧ Below w.heap.size w w' := by
  have h := calls_by (n := ⟨2, 0, 0, 1⟩) (x35cE [t, d] [] [] [n] (slsOf [l])) (vs := [.agg #[.int .i64 t, l.val], .string n, .int .u32 d]) (W := w) x35cm walkSlotRound_w rfl ⟨rfl, rfl, rfl, rfl⟩ ⟨(good_cons (x35cg_swho _ _ _ _ _ _) (good_cons (x35cg_snext _ _ _ _ _ _) (good_cons (x35cg_sshare _ _ _ _ _ _) (good_cons (x35cg_scheck _ _ _ _ _ _) (good_cons (x35cg_num _ _ _ _ _ _ hg) (good_cons (x35cg_sure _ _ _ _ _ _ hg) good_nil)))))), (slsOk_cons hs0 slsOk_nil)⟩ (walkSlotRound_h t l n d e0 hl h0d h1d) rfl
  exact calls_eq h
end Go.Proofs.YtgkpbokipnfddaaDoor
