/-
  Layer 35 by symbolic walks: SlotTells.
-/
import Derived.Test.YtgkpbokipnfddaaDoorSx
import Derived.Test.YtgkpbokipnfddaaDoorX35
namespace Go.Proofs.YtgkpbokipnfddaaDoor
open Go.RowKit Go.Extern.Stop Go.Stop Go.Extern Go.Proofs.YtgkpbokipnfddaaDoor.Sx
set_option linter.unusedVariables false
set_option linter.unusedSimpArgs false
def x35bI : Nat → List Value → Int
  | 0, [l] => firstN (longAt (strsOf l)) (strsOf l).length
  | 1, [.int _ s, l] => mayRI s (strsOf l)
  | 2, [.int _ s, l, .int _ d] => plE s (strsOf l) d
  | 3, [.int _ s, l, .int _ d] => plS s (strsOf l) d
  | 4, [.int _ s, l, .int _ d] => plG s (strsOf l) d
  | 5, [.int _ s, l, .int _ d] => lfV s (strsOf l) d
  | 6, [.int _ s, l, .int _ d, .string n] => nxE s (strsOf l) d n
  | 7, [.int _ s, l, .int _ d, .string n] => nxV s (strsOf l) d n
  | 8, [.int _ s, l, .string n] => shV s (strsOf l) n
  | 9, [l, .string n, .int _ k] => (cntM (strsOf l) n k.toNat : Int)
  | 10, [.int _ a, .int _ b] => dqE a b
  | 11, [.int _ a, .int _ b] => dmE a b
  | 12, [.int _ b] => deE b
  | _, _ => 0
def x35bB : Nat → List Value → Bool
  | 0, [l, .int _ n] => noneB (longAt (strsOf l)) n.toNat
  | 1, [l, .int _ p, .string n, .int _ k] => noneB (matchAt (strsOf l) p.toNat n) k.toNat
  | _, _ => false
def x35bV : Nat → List Value → Value
  | 0, [.int _ s, l, .int _ d] => .string (whoS s (strsOf l) d)
  | _, _ => Go.undef
abbrev x35bE (iv : List Int) (bv : List Bool) (vv : List Value) (sv : List ByteArray) (sls : Nat → Slc) : Env := { sls := sls, iv := iv, bv := bv, vv := vv, sv := sv, fi := x35bI, fb := x35bB, fv := x35bV, et := 111 }
theorem x35bso (s : ByteArray) : strOf (.string s) = s := rfl
theorem x35bse (a b : ByteArray) : strEq (.string a) (.string b) = (a == b) := rfl
theorem x35bm : Tryd.prog.follows .mixedOrders = true := by kernel_rfl
abbrev x35bc_scheck : Con := ⟨54, [(.agg (.cons (.int .i64 (.var 0)) (.cons (.sl 0) .nil)))], (.b2 .le (.slen 0) (.lit (9223372036854775807))), (.err (.iapp 1 (.cons (.int .i64 (.var 0)) (.cons (.slv 0) .nil)))), [[.str]]⟩
theorem x35bg_scheck (iv : List Int) (bv : List Bool) (vv : List Value) (sv : List ByteArray) (sls : Nat → Slc) (W : World) : x35bc_scheck.Good Tryd.prog (x35bE iv bv vv sv sls) W := by
  intro iv bv vv sv sls β hc w hb hsl
  have hs0 := hsl 0 _ rfl
  exact scheck (iv.getD 0 0) (sls 0) hs0.1.symm (by simp only [Sx.holds, denI] at hc; omega) w hs0
abbrev x35bc_splace : Con := ⟨76, [(.agg (.cons (.int .i64 (.var 0)) (.cons (.sl 0) .nil))), (.int .i64 (.var 1))], (.b2 .and (.b2 .le (.slen 0) (.lit (9223372036854775807))) (.b2 .and (.b2 .le (.lit (-9223372036854775808)) (.var 1)) (.b2 .le (.var 1) (.lit (9223372036854775807))))), (.tup (.cons (.int .i64 (.iapp 3 (.cons (.int .i64 (.var 0)) (.cons (.slv 0) (.cons (.int .i64 (.var 1)) .nil))))) (.cons (.int .i64 (.iapp 4 (.cons (.int .i64 (.var 0)) (.cons (.slv 0) (.cons (.int .i64 (.var 1)) .nil))))) (.cons (.err (.iapp 2 (.cons (.int .i64 (.var 0)) (.cons (.slv 0) (.cons (.int .i64 (.var 1)) .nil))))) .nil)))), [[.str]]⟩
theorem x35bg_splace (iv : List Int) (bv : List Bool) (vv : List Value) (sv : List ByteArray) (sls : Nat → Slc) (W : World) : x35bc_splace.Good Tryd.prog (x35bE iv bv vv sv sls) W := by
  intro iv bv vv sv sls β hc w hb hsl
  have hs0 := hsl 0 _ rfl
  exact splace (iv.getD 0 0) (sls 0) (iv.getD 1 0) hs0.1.symm (by simp only [Sx.holds, denI] at hc; omega) hc.2 w hs0
abbrev x35bc_swho : Con := ⟨45, [(.agg (.cons (.int .i64 (.var 0)) (.cons (.sl 0) .nil))), (.int .i64 (.var 1))], (.b2 .and (.b2 .le (.slen 0) (.lit (9223372036854775807))) (.b2 .and (.b2 .le (.lit (-9223372036854775808)) (.var 1)) (.b2 .le (.var 1) (.lit (9223372036854775807))))), (.tup (.cons (.sapp 0 (.cons (.int .i64 (.var 0)) (.cons (.slv 0) (.cons (.int .i64 (.var 1)) .nil)))) (.cons (.err (.iapp 2 (.cons (.int .i64 (.var 0)) (.cons (.slv 0) (.cons (.int .i64 (.var 1)) .nil))))) .nil))), [[.str]]⟩
theorem x35bg_swho (iv : List Int) (bv : List Bool) (vv : List Value) (sv : List ByteArray) (sls : Nat → Slc) (W : World) : x35bc_swho.Good Tryd.prog (x35bE iv bv vv sv sls) W := by
  intro iv bv vv sv sls β hc w hb hsl
  have hs0 := hsl 0 _ rfl
  exact swho (iv.getD 0 0) (sls 0) (iv.getD 1 0) hs0.1.symm (by simp only [Sx.holds, denI] at hc; omega) hc.2 w hs0
abbrev x35bc_sleft : Con := ⟨47, [(.agg (.cons (.int .i64 (.var 0)) (.cons (.sl 0) .nil))), (.int .i64 (.var 1))], (.b2 .and (.b2 .le (.slen 0) (.lit (9223372036854775807))) (.b2 .and (.b2 .le (.lit (-9223372036854775808)) (.var 1)) (.b2 .le (.var 1) (.lit (9223372036854775807))))), (.tup (.cons (.int .i64 (.iapp 5 (.cons (.int .i64 (.var 0)) (.cons (.slv 0) (.cons (.int .i64 (.var 1)) .nil))))) (.cons (.err (.iapp 2 (.cons (.int .i64 (.var 0)) (.cons (.slv 0) (.cons (.int .i64 (.var 1)) .nil))))) .nil))), [[.str]]⟩
theorem x35bg_sleft (iv : List Int) (bv : List Bool) (vv : List Value) (sv : List ByteArray) (sls : Nat → Slc) (W : World) : x35bc_sleft.Good Tryd.prog (x35bE iv bv vv sv sls) W := by
  intro iv bv vv sv sls β hc w hb hsl
  have hs0 := hsl 0 _ rfl
  exact sleft (iv.getD 0 0) (sls 0) (iv.getD 1 0) hs0.1.symm (by simp only [Sx.holds, denI] at hc; omega) hc.2 w hs0
abbrev x35bc_snext : Con := ⟨49, [(.agg (.cons (.int .i64 (.var 0)) (.cons (.sl 0) .nil))), (.str 0), (.int .i64 (.var 1))], (.b2 .and (.b2 .le (.slen 0) (.lit (9223372036854775807))) (.b2 .and (.b2 .le (.lit (-9223372036854775808)) (.var 1)) (.b2 .le (.var 1) (.lit (9223372036854775807))))), (.tup (.cons (.int .i64 (.iapp 7 (.cons (.int .i64 (.var 0)) (.cons (.slv 0) (.cons (.int .i64 (.var 1)) (.cons (.str 0) .nil)))))) (.cons (.err (.iapp 6 (.cons (.int .i64 (.var 0)) (.cons (.slv 0) (.cons (.int .i64 (.var 1)) (.cons (.str 0) .nil)))))) .nil))), [[.str]]⟩
theorem x35bg_snext (iv : List Int) (bv : List Bool) (vv : List Value) (sv : List ByteArray) (sls : Nat → Slc) (W : World) : x35bc_snext.Good Tryd.prog (x35bE iv bv vv sv sls) W := by
  intro iv bv vv sv sls β hc w hb hsl
  have hs0 := hsl 0 _ rfl
  exact snext (iv.getD 0 0) (sls 0) (sv.getD 0 ByteArray.empty) (iv.getD 1 0) hs0.1.symm (by simp only [Sx.holds, denI] at hc; omega) hc.2 w hs0
abbrev x35bc_sshare : Con := ⟨53, [(.agg (.cons (.int .i64 (.var 0)) (.cons (.sl 0) .nil))), (.str 0)], (.b2 .le (.slen 0) (.lit (9223372036854775807))), (.int .i64 (.iapp 8 (.cons (.int .i64 (.var 0)) (.cons (.slv 0) (.cons (.str 0) .nil))))), [[.str]]⟩
theorem x35bg_sshare (iv : List Int) (bv : List Bool) (vv : List Value) (sv : List ByteArray) (sls : Nat → Slc) (W : World) : x35bc_sshare.Good Tryd.prog (x35bE iv bv vv sv sls) W := by
  intro iv bv vv sv sls β hc w hb hsl
  have hs0 := hsl 0 _ rfl
  exact sshare (iv.getD 0 0) (sls 0) (sv.getD 0 ByteArray.empty) hs0.1.symm (by simp only [Sx.holds, denI] at hc; omega) w hs0
abbrev x35bc_rmay : Con := ⟨51, [(.agg (.cons (.int .i64 (.var 0)) (.cons (.sl 0) .nil)))], (.b2 .le (.slen 0) (.lit (9223372036854775807))), (.bool (.b2 .eq (.iapp 1 (.cons (.int .i64 (.var 0)) (.cons (.slv 0) .nil))) (.lit (0)))), [[.str]]⟩
theorem x35bg_rmay (iv : List Int) (bv : List Bool) (vv : List Value) (sv : List ByteArray) (sls : Nat → Slc) (W : World) : x35bc_rmay.Good Tryd.prog (x35bE iv bv vv sv sls) W := by
  intro iv bv vv sv sls β hc w hb hsl
  have hs0 := hsl 0 _ rfl
  exact (by have h := rmay35 (iv.getD 0 0) (sls 0) hs0.1.symm (by simp only [Sx.holds, denI] at hc; omega) w hs0; rw [mayR_B] at h; exact h)
abbrev x35bc_rwho : Con := ⟨46, [(.agg (.cons (.int .i64 (.var 0)) (.cons (.sl 0) .nil))), (.int .i64 (.var 1))], (.b2 .and (.b2 .le (.slen 0) (.lit (9223372036854775807))) (.b2 .and (.b2 .le (.lit (-9223372036854775808)) (.var 1)) (.b2 .le (.var 1) (.lit (9223372036854775807))))), (.tup (.cons (.sapp 0 (.cons (.int .i64 (.var 0)) (.cons (.slv 0) (.cons (.int .i64 (.var 1)) .nil)))) (.cons (.int .i64 (.iapp 2 (.cons (.int .i64 (.var 0)) (.cons (.slv 0) (.cons (.int .i64 (.var 1)) .nil))))) .nil))), [[.str]]⟩
theorem x35bg_rwho (iv : List Int) (bv : List Bool) (vv : List Value) (sv : List ByteArray) (sls : Nat → Slc) (W : World) : x35bc_rwho.Good Tryd.prog (x35bE iv bv vv sv sls) W := by
  intro iv bv vv sv sls β hc w hb hsl
  have hs0 := hsl 0 _ rfl
  exact rwho (iv.getD 0 0) (sls 0) (iv.getD 1 0) hs0.1.symm (by simp only [Sx.holds, denI] at hc; omega) hc.2 w hs0
abbrev x35bc_rleft : Con := ⟨48, [(.agg (.cons (.int .i64 (.var 0)) (.cons (.sl 0) .nil))), (.int .i64 (.var 1))], (.b2 .and (.b2 .le (.slen 0) (.lit (9223372036854775807))) (.b2 .and (.b2 .le (.lit (-9223372036854775808)) (.var 1)) (.b2 .le (.var 1) (.lit (9223372036854775807))))), (.tup (.cons (.int .i64 (.iapp 5 (.cons (.int .i64 (.var 0)) (.cons (.slv 0) (.cons (.int .i64 (.var 1)) .nil))))) (.cons (.int .i64 (.iapp 2 (.cons (.int .i64 (.var 0)) (.cons (.slv 0) (.cons (.int .i64 (.var 1)) .nil))))) .nil))), [[.str]]⟩
theorem x35bg_rleft (iv : List Int) (bv : List Bool) (vv : List Value) (sv : List ByteArray) (sls : Nat → Slc) (W : World) : x35bc_rleft.Good Tryd.prog (x35bE iv bv vv sv sls) W := by
  intro iv bv vv sv sls β hc w hb hsl
  have hs0 := hsl 0 _ rfl
  exact rleft (iv.getD 0 0) (sls 0) (iv.getD 1 0) hs0.1.symm (by simp only [Sx.holds, denI] at hc; omega) hc.2 w hs0
abbrev x35bc_rnext : Con := ⟨50, [(.agg (.cons (.int .i64 (.var 0)) (.cons (.sl 0) .nil))), (.str 0), (.int .i64 (.var 1))], (.b2 .and (.b2 .le (.slen 0) (.lit (9223372036854775807))) (.b2 .and (.b2 .le (.lit (-9223372036854775808)) (.var 1)) (.b2 .le (.var 1) (.lit (9223372036854775807))))), (.tup (.cons (.int .i64 (.iapp 7 (.cons (.int .i64 (.var 0)) (.cons (.slv 0) (.cons (.int .i64 (.var 1)) (.cons (.str 0) .nil)))))) (.cons (.int .i64 (.iapp 6 (.cons (.int .i64 (.var 0)) (.cons (.slv 0) (.cons (.int .i64 (.var 1)) (.cons (.str 0) .nil)))))) .nil))), [[.str]]⟩
theorem x35bg_rnext (iv : List Int) (bv : List Bool) (vv : List Value) (sv : List ByteArray) (sls : Nat → Slc) (W : World) : x35bc_rnext.Good Tryd.prog (x35bE iv bv vv sv sls) W := by
  intro iv bv vv sv sls β hc w hb hsl
  have hs0 := hsl 0 _ rfl
  exact rnext (iv.getD 0 0) (sls 0) (sv.getD 0 ByteArray.empty) (iv.getD 1 0) hs0.1.symm (by simp only [Sx.holds, denI] at hc; omega) hc.2 w hs0
abbrev x35bc_num : Con := ⟨52, [(.err (.var 0))], (.tt true), (.int .i64 (.var 0)), []⟩
theorem x35bg_num (iv : List Int) (bv : List Bool) (vv : List Value) (sv : List ByteArray) (sls : Nat → Slc) (W : World) (hg : W.cell? ⟨0, 0, none⟩ = some asHandle) : x35bc_num.Good Tryd.prog (x35bE iv bv vv sv sls) W := by
  intro iv bv vv sv sls β hc w hb hsl
  have hgw := handle_below hg hb (handle_lt hg)
  exact num35_anyx (iv.getD 0 0) w hgw
abbrev x35bc_sure : Con := ⟨44, [], (.tt true), (.bool (.tt true)), []⟩
theorem x35bg_sure (iv : List Int) (bv : List Bool) (vv : List Value) (sv : List ByteArray) (sls : Nat → Slc) (W : World) (hg : W.cell? ⟨0, 0, none⟩ = some asHandle) : x35bc_sure.Good Tryd.prog (x35bE iv bv vv sv sls) W := by
  intro iv bv vv sv sls β hc w hb hsl
  have hgw := handle_below hg hb (handle_lt hg)
  exact sure35 w hgw
def walkSlotTells_tree : Tree :=
 (.br (.b2 .lt (.lit (40)) (.slen 0))
 (.ret (.bool (.tt true)))
 (.br (.b2 .lt (.lit (100)) (.blen (.str 0)))
 (.ret (.bool (.tt true)))
 (.loop ⟨1, 0, 0, 0⟩ (.b2 .and (.b2 .le (.lit (0)) (.lit (0))) (.b2 .le (.lit (0)) (.slen 0))) (.b2 .and (.b2 .le (.lit (0)) (.var 2)) (.b2 .le (.var 2) (.slen 0)))
 (.br (.b2 .lt (.var 2) (.slen 0))
 (.need (.b2 .and (.b2 .le (.lit (0)) (.var 2)) (.b2 .lt (.var 2) (.slen 0)))
 (.need (.b2 .and (.b2 .le (.lit (0)) (.var 2)) (.b2 .lt (.var 2) (.slen 0)))
 (.br (.b2 .lt (.lit (100)) (.blen (.ssel 0 (.var 2) 0)))
 (.ret (.bool (.tt true)))
 (.back (.b2 .and (.b2 .le (.lit (0)) (.wrap .i64 (.i2 .add (.var 2) (.lit (1))))) (.b2 .le (.wrap .i64 (.i2 .add (.var 2) (.lit (1)))) (.slen 0))) (.i2 .sub (.slen 0) (.wrap .i64 (.i2 .add (.var 2) (.lit (1))))) (.i2 .sub (.slen 0) (.var 2))))))
 (.need (.b2 .and (.b2 .le (.slen 0) (.lit (9223372036854775807))) (.b2 .and (.b2 .le (.lit (-9223372036854775808)) (.var 1)) (.b2 .le (.var 1) (.lit (9223372036854775807)))))
 (.need (.b2 .and (.b2 .le (.slen 0) (.lit (9223372036854775807))) (.b2 .and (.b2 .le (.lit (-9223372036854775808)) (.var 1)) (.b2 .le (.var 1) (.lit (9223372036854775807)))))
 (.need (.b2 .and (.b2 .le (.slen 0) (.lit (9223372036854775807))) (.b2 .and (.b2 .le (.lit (-9223372036854775808)) (.var 1)) (.b2 .le (.var 1) (.lit (9223372036854775807)))))
 (.need (.b2 .and (.b2 .le (.slen 0) (.lit (9223372036854775807))) (.b2 .and (.b2 .le (.lit (-9223372036854775808)) (.var 1)) (.b2 .le (.var 1) (.lit (9223372036854775807)))))
 (.need (.b2 .and (.b2 .le (.slen 0) (.lit (9223372036854775807))) (.b2 .and (.b2 .le (.lit (-9223372036854775808)) (.var 1)) (.b2 .le (.var 1) (.lit (9223372036854775807)))))
 (.need (.b2 .and (.b2 .le (.slen 0) (.lit (9223372036854775807))) (.b2 .and (.b2 .le (.lit (-9223372036854775808)) (.var 1)) (.b2 .le (.var 1) (.lit (9223372036854775807)))))
 (.loop ⟨2, 0, 0, 0⟩ (.b2 .and (.b2 .le (.lit (0)) (.lit (0))) (.b2 .and (.b2 .le (.lit (0)) (.slen 0)) (.b2 .and (.b2 .eq (.lit (0)) (.i2 .mul (.iapp 9 (.cons (.slv 0) (.cons (.str 0) (.cons (.int .i64 (.lit (0))) .nil)))) (.var 0))) (.b2 .or (.b2 .eq (.lit (0)) (.lit (0))) (.b2 .and (.b2 .eq (.iapp 1 (.cons (.int .i64 (.var 0)) (.cons (.slv 0) .nil))) (.lit (0))) (.not (.veq (.str 0) (.cst (.strc []))))))))) (.b2 .and (.b2 .le (.lit (0)) (.var 4)) (.b2 .and (.b2 .le (.var 4) (.slen 0)) (.b2 .and (.b2 .eq (.var 3) (.i2 .mul (.iapp 9 (.cons (.slv 0) (.cons (.str 0) (.cons (.int .i64 (.var 4)) .nil)))) (.var 0))) (.b2 .or (.b2 .eq (.var 4) (.lit (0))) (.b2 .and (.b2 .eq (.iapp 1 (.cons (.int .i64 (.var 0)) (.cons (.slv 0) .nil))) (.lit (0))) (.not (.veq (.str 0) (.cst (.strc [])))))))))
 (.br (.b2 .lt (.var 4) (.slen 0))
 (.need (.b2 .le (.slen 0) (.lit (9223372036854775807)))
 (.br (.b2 .eq (.iapp 1 (.cons (.int .i64 (.var 0)) (.cons (.slv 0) .nil))) (.lit (0)))
 (.br (.not (.veq (.str 0) (.cst (.strc []))))
 (.need (.b2 .and (.b2 .le (.lit (0)) (.var 4)) (.b2 .lt (.var 4) (.slen 0)))
 (.need (.b2 .and (.b2 .le (.lit (0)) (.var 4)) (.b2 .lt (.var 4) (.slen 0)))
 (.br (.veq (.ssel 0 (.var 4) 0) (.str 0))
 (.back (.b2 .and (.b2 .le (.lit (0)) (.wrap .i64 (.i2 .add (.var 4) (.lit (1))))) (.b2 .and (.b2 .le (.wrap .i64 (.i2 .add (.var 4) (.lit (1)))) (.slen 0)) (.b2 .and (.b2 .eq (.wrap .i64 (.i2 .add (.var 3) (.var 0))) (.i2 .mul (.iapp 9 (.cons (.slv 0) (.cons (.str 0) (.cons (.int .i64 (.wrap .i64 (.i2 .add (.var 4) (.lit (1))))) .nil)))) (.var 0))) (.b2 .or (.b2 .eq (.wrap .i64 (.i2 .add (.var 4) (.lit (1)))) (.lit (0))) (.b2 .and (.b2 .eq (.iapp 1 (.cons (.int .i64 (.var 0)) (.cons (.slv 0) .nil))) (.lit (0))) (.not (.veq (.str 0) (.cst (.strc []))))))))) (.i2 .sub (.slen 0) (.wrap .i64 (.i2 .add (.var 4) (.lit (1))))) (.i2 .sub (.slen 0) (.var 4)))
 (.back (.b2 .and (.b2 .le (.lit (0)) (.wrap .i64 (.i2 .add (.var 4) (.lit (1))))) (.b2 .and (.b2 .le (.wrap .i64 (.i2 .add (.var 4) (.lit (1)))) (.slen 0)) (.b2 .and (.b2 .eq (.var 3) (.i2 .mul (.iapp 9 (.cons (.slv 0) (.cons (.str 0) (.cons (.int .i64 (.wrap .i64 (.i2 .add (.var 4) (.lit (1))))) .nil)))) (.var 0))) (.b2 .or (.b2 .eq (.wrap .i64 (.i2 .add (.var 4) (.lit (1)))) (.lit (0))) (.b2 .and (.b2 .eq (.iapp 1 (.cons (.int .i64 (.var 0)) (.cons (.slv 0) .nil))) (.lit (0))) (.not (.veq (.str 0) (.cst (.strc []))))))))) (.i2 .sub (.slen 0) (.wrap .i64 (.i2 .add (.var 4) (.lit (1))))) (.i2 .sub (.slen 0) (.var 4))))))
 (.need (.b2 .le (.slen 0) (.lit (9223372036854775807)))
 (.br (.b2 .eq (.iapp 8 (.cons (.int .i64 (.var 0)) (.cons (.slv 0) (.cons (.str 0) .nil)))) (.var 3))
 (.need (.b2 .le (.slen 0) (.lit (9223372036854775807)))
 (.need (.b2 .le (.slen 0) (.lit (9223372036854775807)))
 (.ret (.bool (.tt true)))))
 (.ret (.bool (.tt false))))))
 (.need (.b2 .le (.slen 0) (.lit (9223372036854775807)))
 (.br (.b2 .eq (.iapp 8 (.cons (.int .i64 (.var 0)) (.cons (.slv 0) (.cons (.str 0) .nil)))) (.var 3))
 (.need (.b2 .le (.slen 0) (.lit (9223372036854775807)))
 (.need (.b2 .le (.slen 0) (.lit (9223372036854775807)))
 (.ret (.bool (.tt true)))))
 (.ret (.bool (.tt false)))))))
 (.need (.b2 .le (.slen 0) (.lit (9223372036854775807)))
 (.br (.b2 .eq (.iapp 8 (.cons (.int .i64 (.var 0)) (.cons (.slv 0) (.cons (.str 0) .nil)))) (.var 3))
 (.need (.b2 .le (.slen 0) (.lit (9223372036854775807)))
 (.need (.b2 .le (.slen 0) (.lit (9223372036854775807)))
 (.ret (.bool (.tt true)))))
 (.ret (.bool (.tt false)))))))))))))))))
theorem walkSlotTells_w : walk Tryd.prog 111 ⟨[x35bc_swho, x35bc_sleft, x35bc_snext, x35bc_sshare, x35bc_scheck, x35bc_rwho, x35bc_rleft, x35bc_rnext, x35bc_rmay, x35bc_num, x35bc_sure], [[.str]]⟩ [⟨0, ⟨1, 0, 0, 0⟩, [(7, (.int .i64 (.var 2)))], none, (.b2 .and (.b2 .le (.lit (0)) (.var 2)) (.b2 .le (.var 2) (.slen 0))), (.i2 .sub (.slen 0) (.var 2))⟩, ⟨2, ⟨2, 0, 0, 0⟩, [(21, (.int .i64 (.var 3))), (22, (.int .i64 (.var 4)))], none, (.b2 .and (.b2 .le (.lit (0)) (.var 4)) (.b2 .and (.b2 .le (.var 4) (.slen 0)) (.b2 .and (.b2 .eq (.var 3) (.i2 .mul (.iapp 9 (.cons (.slv 0) (.cons (.str 0) (.cons (.int .i64 (.var 4)) .nil)))) (.var 0))) (.b2 .or (.b2 .eq (.var 4) (.lit (0))) (.b2 .and (.b2 .eq (.iapp 1 (.cons (.int .i64 (.var 0)) (.cons (.slv 0) .nil))) (.lit (0))) (.not (.veq (.str 0) (.cst (.strc []))))))))), (.i2 .sub (.slen 0) (.var 4))⟩] 12 [(.agg (.cons (.int .i64 (.var 0)) (.cons (.sl 0) .nil))), (.str 0), (.int .i64 (.var 1))] ⟨2, 0, 0, 1⟩ 2000 = some walkSlotTells_tree := by kernel_rfl
set_option maxHeartbeats 2000000 in
theorem walkSlotTells_h (t : Int) (l : Slc) (n : ByteArray) (d : Int) (e0 : l.esz = 1) (hl : l.len ≤ 9223372036854775807) (hd : InR d) : walkSlotTells_tree.holds (fun v => v = .bool true) (x35bE [t, d] [] [] [n] (slsOf [l])) := by
  unfold walkSlotTells_tree
  simp only [AllN, Env.more, x35bE, List.cons_append, List.nil_append, List.append_nil, Tree.holds, Sx.holds, denV, denI, denB, denL, I2.den, x35bI, x35bB, x35bV, List.getD_cons_zero, List.getD_cons_succ, Cst.den, slsOf_zero, slsOf_one, x35bso, x35bse, List.map_nil, List.map_cons, B2.ofInts, B2.denI, B2.denB, if_true, Bool.false_eq_true, if_false]
  have hlen := strs_len l e0
  have f1 := mayRI_spec t (strsOf l.all)
  refine ⟨fun h0 => ?_, fun h0 => ?_⟩
  ·
    first | trivial | rfl | (exfalso; omega)
  ·
    refine ⟨fun h1 => ?_, fun h1 => ?_⟩
    ·
      first | trivial | rfl | (exfalso; omega)
    ·
      refine ⟨?_, ?_⟩
      ·
        first | omega | exact ⟨by omega, by omega, by simp [cntM], .inl trivial⟩
      ·
        intro i0a hi0
        refine ⟨fun h2 => ?_, fun h2 => ?_⟩
        ·
          refine ⟨?_, fun h3 => ?_⟩
          ·
            omega
          ·
            refine ⟨?_, fun h4 => ?_⟩
            ·
              omega
            ·
              refine ⟨fun h5 => ?_, fun h5 => ?_⟩
              ·
                first | trivial | rfl | (exfalso; omega)
              ·
                have wf0 := wr_i64 (i0a + 1)
                refine ⟨?_, ?_⟩
                ·
                  omega
                ·
                  omega
        ·
          refine ⟨?_, fun h6 => ?_⟩
          ·
            omega
          ·
            refine ⟨?_, fun h7 => ?_⟩
            ·
              omega
            ·
              refine ⟨?_, fun h8 => ?_⟩
              ·
                omega
              ·
                refine ⟨?_, fun h9 => ?_⟩
                ·
                  omega
                ·
                  refine ⟨?_, fun h10 => ?_⟩
                  ·
                    omega
                  ·
                    refine ⟨?_, fun h11 => ?_⟩
                    ·
                      omega
                    ·
                      refine ⟨?_, ?_⟩
                      ·
                        first | omega | exact ⟨by omega, by omega, by simp [cntM], .inl trivial⟩
                      ·
                        intro i1a i1b hi1
                        obtain ⟨r0, r1, r2, r3⟩ := hi1
                        refine ⟨fun h12 => ?_, fun h12 => ?_⟩
                        ·
                          refine ⟨?_, fun h13 => ?_⟩
                          ·
                            omega
                          ·
                            refine ⟨fun h14 => ?_, fun h14 => ?_⟩
                            ·
                              refine ⟨fun h15 => ?_, fun h15 => ?_⟩
                              ·
                                refine ⟨?_, fun h16 => ?_⟩
                                ·
                                  omega
                                ·
                                  refine ⟨?_, fun h17 => ?_⟩
                                  ·
                                    omega
                                  ·
                                    refine ⟨fun h18 => ?_, fun h18 => ?_⟩
                                    ·
                                      have wf1 := wr_i64 (i1b + 1)
                                      have wf2 := wr_i64 (i1a + t)
                                      refine ⟨?_, ?_⟩
                                      ·
                                        have hc := cntM_succ (name := n) (strs_at l e0 (i := i1b.toNat) (by omega))
                                        have hle := cntM_le (strsOf l.all) n i1b.toNat
                                        have hb1 : 0 ≤ (cntM (strsOf l.all) n i1b.toNat : Int) * t := Int.mul_nonneg (by omega) (by omega)
                                        have hb2 : (cntM (strsOf l.all) n i1b.toNat : Int) * t ≤ 16 * t := Int.mul_le_mul_of_nonneg_right (by omega) (by omega)
                                        have hw : IntKind.wrap .i64 (i1b + 1) = i1b + 1 := IntWalk.i64_in _ (by omega)
                                        have hv : IntKind.wrap .i64 (i1a + t) = i1a + t := IntWalk.i64_in _ (by omega)
                                        rw [hw, toNat_succ r0, hc]
                                        first
                                        | (rw [if_pos (by assumption)]
                                           refine ⟨by omega, by omega, ?_, .inr ⟨by omega, by assumption⟩⟩
                                           rw [hv, r2]; push_cast; rw [Int.add_mul]; omega)
                                        | (rw [if_neg (by assumption)]
                                           exact ⟨by omega, by omega, by rw [r2]; push_cast; rw [Int.add_mul]; omega, .inr ⟨by omega, by assumption⟩⟩)
                                      ·
                                        omega
                                    ·
                                      have wf3 := wr_i64 (i1b + 1)
                                      refine ⟨?_, ?_⟩
                                      ·
                                        have hc := cntM_succ (name := n) (strs_at l e0 (i := i1b.toNat) (by omega))
                                        have hle := cntM_le (strsOf l.all) n i1b.toNat
                                        have hb1 : 0 ≤ (cntM (strsOf l.all) n i1b.toNat : Int) * t := Int.mul_nonneg (by omega) (by omega)
                                        have hb2 : (cntM (strsOf l.all) n i1b.toNat : Int) * t ≤ 16 * t := Int.mul_le_mul_of_nonneg_right (by omega) (by omega)
                                        have hw : IntKind.wrap .i64 (i1b + 1) = i1b + 1 := IntWalk.i64_in _ (by omega)
                                        have hv : IntKind.wrap .i64 (i1a + t) = i1a + t := IntWalk.i64_in _ (by omega)
                                        rw [hw, toNat_succ r0, hc]
                                        first
                                        | (rw [if_pos (by assumption)]
                                           refine ⟨by omega, by omega, ?_, .inr ⟨by omega, by assumption⟩⟩
                                           rw [hv, r2]; push_cast; rw [Int.add_mul]; omega)
                                        | (rw [if_neg (by assumption)]
                                           exact ⟨by omega, by omega, by rw [r2]; push_cast; rw [Int.add_mul]; omega, .inr ⟨by omega, by assumption⟩⟩)
                                      ·
                                        omega
                              ·
                                refine ⟨?_, fun h19 => ?_⟩
                                ·
                                  omega
                                ·
                                  refine ⟨fun h20 => ?_, fun h20 => ?_⟩
                                  ·
                                    refine ⟨?_, fun h21 => ?_⟩
                                    ·
                                      omega
                                    ·
                                      refine ⟨?_, fun h22 => ?_⟩
                                      ·
                                        omega
                                      ·
                                        have hs : i1a = shV t (strsOf l.all) n := by
                                          unfold shV
                                          by_cases hn : (n == (⟨#[]⟩ : ByteArray)) = true
                                          · rw [if_pos hn]
                                            rcases r3 with h | ⟨_, h⟩
                                            · rw [r2, h]; simp [cntM]
                                            · exact absurd hn h
                                          · rw [if_neg hn]
                                            by_cases hm : mayRI t (strsOf l.all) = 0
                                            · rw [if_pos hm]
                                              first
                                              | (rw [r2, show i1b.toNat = (strsOf l.all).length by omega]; done)
                                              | (exfalso; omega)
                                              | (exfalso; simp_all; done)
                                            · rw [if_neg hm]
                                              rcases r3 with h | ⟨h, _⟩
                                              · rw [r2, h]; simp [cntM]
                                              · exfalso; omega
                                        first | trivial | rfl | (exfalso; omega) | (exfalso; simp_all; done)
                                  ·
                                    have hs : i1a = shV t (strsOf l.all) n := by
                                      unfold shV
                                      by_cases hn : (n == (⟨#[]⟩ : ByteArray)) = true
                                      · rw [if_pos hn]
                                        rcases r3 with h | ⟨_, h⟩
                                        · rw [r2, h]; simp [cntM]
                                        · exact absurd hn h
                                      · rw [if_neg hn]
                                        by_cases hm : mayRI t (strsOf l.all) = 0
                                        · rw [if_pos hm]
                                          first
                                          | (rw [r2, show i1b.toNat = (strsOf l.all).length by omega]; done)
                                          | (exfalso; omega)
                                          | (exfalso; simp_all; done)
                                        · rw [if_neg hm]
                                          rcases r3 with h | ⟨h, _⟩
                                          · rw [r2, h]; simp [cntM]
                                          · exfalso; omega
                                    first | trivial | rfl | (exfalso; omega) | (exfalso; simp_all; done)
                            ·
                              refine ⟨?_, fun h23 => ?_⟩
                              ·
                                omega
                              ·
                                refine ⟨fun h24 => ?_, fun h24 => ?_⟩
                                ·
                                  refine ⟨?_, fun h25 => ?_⟩
                                  ·
                                    omega
                                  ·
                                    refine ⟨?_, fun h26 => ?_⟩
                                    ·
                                      omega
                                    ·
                                      have hs : i1a = shV t (strsOf l.all) n := by
                                        unfold shV
                                        by_cases hn : (n == (⟨#[]⟩ : ByteArray)) = true
                                        · rw [if_pos hn]
                                          rcases r3 with h | ⟨_, h⟩
                                          · rw [r2, h]; simp [cntM]
                                          · exact absurd hn h
                                        · rw [if_neg hn]
                                          by_cases hm : mayRI t (strsOf l.all) = 0
                                          · rw [if_pos hm]
                                            first
                                            | (rw [r2, show i1b.toNat = (strsOf l.all).length by omega]; done)
                                            | (exfalso; omega)
                                            | (exfalso; simp_all; done)
                                          · rw [if_neg hm]
                                            rcases r3 with h | ⟨h, _⟩
                                            · rw [r2, h]; simp [cntM]
                                            · exfalso; omega
                                      first | trivial | rfl | (exfalso; omega) | (exfalso; simp_all; done)
                                ·
                                  have hs : i1a = shV t (strsOf l.all) n := by
                                    unfold shV
                                    by_cases hn : (n == (⟨#[]⟩ : ByteArray)) = true
                                    · rw [if_pos hn]
                                      rcases r3 with h | ⟨_, h⟩
                                      · rw [r2, h]; simp [cntM]
                                      · exact absurd hn h
                                    · rw [if_neg hn]
                                      by_cases hm : mayRI t (strsOf l.all) = 0
                                      · rw [if_pos hm]
                                        first
                                        | (rw [r2, show i1b.toNat = (strsOf l.all).length by omega]; done)
                                        | (exfalso; omega)
                                        | (exfalso; simp_all; done)
                                      · rw [if_neg hm]
                                        rcases r3 with h | ⟨h, _⟩
                                        · rw [r2, h]; simp [cntM]
                                        · exfalso; omega
                                  first | trivial | rfl | (exfalso; omega) | (exfalso; simp_all; done)
                        ·
                          refine ⟨?_, fun h27 => ?_⟩
                          ·
                            omega
                          ·
                            refine ⟨fun h28 => ?_, fun h28 => ?_⟩
                            ·
                              refine ⟨?_, fun h29 => ?_⟩
                              ·
                                omega
                              ·
                                refine ⟨?_, fun h30 => ?_⟩
                                ·
                                  omega
                                ·
                                  have hs : i1a = shV t (strsOf l.all) n := by
                                    unfold shV
                                    by_cases hn : (n == (⟨#[]⟩ : ByteArray)) = true
                                    · rw [if_pos hn]
                                      rcases r3 with h | ⟨_, h⟩
                                      · rw [r2, h]; simp [cntM]
                                      · exact absurd hn h
                                    · rw [if_neg hn]
                                      by_cases hm : mayRI t (strsOf l.all) = 0
                                      · rw [if_pos hm]
                                        first
                                        | (rw [r2, show i1b.toNat = (strsOf l.all).length by omega]; done)
                                        | (exfalso; omega)
                                        | (exfalso; simp_all; done)
                                      · rw [if_neg hm]
                                        rcases r3 with h | ⟨h, _⟩
                                        · rw [r2, h]; simp [cntM]
                                        · exfalso; omega
                                  first | trivial | rfl | (exfalso; omega) | (exfalso; simp_all; done)
                            ·
                              have hs : i1a = shV t (strsOf l.all) n := by
                                unfold shV
                                by_cases hn : (n == (⟨#[]⟩ : ByteArray)) = true
                                · rw [if_pos hn]
                                  rcases r3 with h | ⟨_, h⟩
                                  · rw [r2, h]; simp [cntM]
                                  · exact absurd hn h
                                · rw [if_neg hn]
                                  by_cases hm : mayRI t (strsOf l.all) = 0
                                  · rw [if_pos hm]
                                    first
                                    | (rw [r2, show i1b.toNat = (strsOf l.all).length by omega]; done)
                                    | (exfalso; omega)
                                    | (exfalso; simp_all; done)
                                  · rw [if_neg hm]
                                    rcases r3 with h | ⟨h, _⟩
                                    · rw [r2, h]; simp [cntM]
                                    · exfalso; omega
                              first | trivial | rfl | (exfalso; omega) | (exfalso; simp_all; done)
theorem walkSlotTells (t : Int) (l : Slc) (n : ByteArray) (d : Int) (e0 : l.esz = 1) (hl : l.len ≤ 9223372036854775807) (hd : InR d) (w : World) (hs0 : SlOk w l [.str]) (hg : w.cell? ⟨0, 0, none⟩ = some asHandle) : Calls Tryd.prog 12 #[.agg #[.int .i64 t, l.val], .string n, .int .i64 d] w fun e w' => e = .returned (.bool true) ∧ Below w.heap.size w w' := by
  have h := calls_by (n := ⟨2, 0, 0, 1⟩) (x35bE [t, d] [] [] [n] (slsOf [l])) (vs := [.agg #[.int .i64 t, l.val], .string n, .int .i64 d]) (W := w) x35bm walkSlotTells_w rfl ⟨rfl, rfl, rfl, rfl⟩ ⟨(good_cons (x35bg_swho _ _ _ _ _ _) (good_cons (x35bg_sleft _ _ _ _ _ _) (good_cons (x35bg_snext _ _ _ _ _ _) (good_cons (x35bg_sshare _ _ _ _ _ _) (good_cons (x35bg_scheck _ _ _ _ _ _) (good_cons (x35bg_rwho _ _ _ _ _ _) (good_cons (x35bg_rleft _ _ _ _ _ _) (good_cons (x35bg_rnext _ _ _ _ _ _) (good_cons (x35bg_rmay _ _ _ _ _ _) (good_cons (x35bg_num _ _ _ _ _ _ hg) (good_cons (x35bg_sure _ _ _ _ _ _ hg) good_nil))))))))))), (slsOk_cons hs0 slsOk_nil)⟩ (walkSlotTells_h t l n d e0 hl hd) rfl
  exact calls_eq h
end Go.Proofs.YtgkpbokipnfddaaDoor
