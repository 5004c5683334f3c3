/-
 Layer 41 by the second engine: NtpAsks.
-/
import Derived.Test.YtgondiedehjkhaaDoorSycforms
import Derived.Test.YtgondiedehjkhaaDoorNvforms
import Derived.Test.YtgondiedehjkhaaDoorE00forms
namespace Go.Proofs.YtgondiedehjkhaaDoor
open Go.RowKit Go.Extern.Stop Go.Stop Go.Extern Go.Proofs.YtgondiedehjkhaaDoor.Sy
set_option linter.unusedVariables false
set_option linter.unusedSimpArgs false
noncomputable def nxI : Nat → List Value → Int
 | i, l => nvI i l
noncomputable def nxB : Nat → List Value → Bool
 | i, l => nvB i l
noncomputable def nxV : Nat → List Value → Value
 | i, l => nvV i l
noncomputable abbrev nxE (iv : List Int) (bv : List Bool) (vv : List Value) (sv : List ByteArray) : Env := { iv := iv, bv := bv, vv := vv, sv := sv, fi := nxI, fb := nxB, fv := nxV, et := 142 }
set_option maxHeartbeats 8000000 in
theorem nxup : Agree 53 6 0 (nvE [] [] [] []) (nxE [] [] [] []) := ⟨rfl, (by
   intro f hf
   funext l
   show nxI f l = nvI f l
   unfold nxI
   split <;> first | rfl | omega), (by
   intro f hf
   funext l
   show nxB f l = nvB f l
   unfold nxB
   split <;> first | rfl | omega), (by
   intro f hf
   funext l
   show nxV f l = nvV f l
   unfold nxV
   split <;> first | rfl | omega)⟩
theorem nxi_sh (k1 : IntKind) (n : Int) : nxI 30 [.int k1 n] = shI n := rfl
theorem nxi_ck (k1 : IntKind) (l : Int) (k2 : IntKind) (v : Int) (k3 : IntKind) (m : Int) : nxI 32 [.int k1 l, .int k2 v, .int k3 m] = ckE l v m := rfl
def rshort_tree : Tree :=
 (.br (.not (eq_ (wr_ (ml_ (wr_ (.i2 .quo (wr_ (ml_ (wr_ v0_) (.lit 1000000000))) (.lit 65536))) (.lit 65536))) (wr_ (ml_ (wr_ v0_) (.lit 1000000000)))))
 (.ret (.int .i64 (wr_ (ad_ (wr_ (.i2 .quo (wr_ (ml_ (wr_ v0_) (.lit 1000000000))) (.lit 65536))) (.lit 1)))))
 (.ret (.int .i64 (wr_ (.i2 .quo (wr_ (ml_ (wr_ v0_) (.lit 1000000000))) (.lit 65536))))))
abbrev nxc_rshort : Con := ⟨58, [(.int .u32 v0_)], (an_ (le_ (.lit 0) v0_) (le_ v0_ (.lit 4294967295))), (.int .i64 (.iapp 30 (.cons (.int .u32 v0_) .nil))), ⟨1, 0, 0, 0⟩, none⟩
theorem rshort_w : walk Tryd.prog 142 ⟨[], syG, [], [], []⟩ [] .v nxc_rshort nxc_rshort.n 3000 = some rshort_tree := by kernel_rfl
theorem rshort_h (n : Int) : Hyp_ nxc_rshort rshort_tree (nxE [n] [] [] []) := by
 intro hc hty
 simp only [nxc_rshort, Sy.holds, nxE, denV, denI, denB, denL, I2.den, VOp.den, List.getD_cons_zero, List.getD_cons_succ, Cst.den, syso, syse, syio, sybo, B2.ofInts, B2.denI, B2.denB, if_true, Bool.false_eq_true, if_false, Nat.div_one, Nat.mul_one, Nat.add_zero] at hc
 simp only [nxc_rshort, patsTyp, patTyp, patTypL, nxE, denV, denL, List.getD_cons_zero, List.getD_cons_succ, and_true, true_and] at hty
 unfold rshort_tree
 simp only [nxc_rshort, Tree.holds, Sy.holds, nxE, denV, denI, denB, denL, I2.den, VOp.den, List.getD_cons_zero, List.getD_cons_succ, Cst.den, syso, syse, syio, sybo, nxi_sh, B2.ofInts, B2.denI, B2.denB, if_true, Bool.false_eq_true, if_false, Nat.div_one, Nat.mul_one, Nat.add_zero]
 have w1 := wr_i64 n
 have w2 : IntKind.wrap .i64 n = n := by omega
 simp only [w2]
 have w3 := wr_i64 (n * 1000000000)
 have w4 : IntKind.wrap .i64 (n * 1000000000) = n * 1000000000 := by omega
 simp only [w4]
 have e1 : (n * 1000000000).tdiv 65536 = n * 1000000000 / 65536 := Int.tdiv_eq_ediv_of_nonneg (by omega)
 simp only [e1]
 have w5 := wr_i64 (n * 1000000000 / 65536)
 have w6 : IntKind.wrap .i64 (n * 1000000000 / 65536) = n * 1000000000 / 65536 := by omega
 simp only [w6]
 have w7 := wr_i64 (n * 1000000000 / 65536 * 65536)
 have w8 := wr_i64 (n * 1000000000 / 65536 + 1)
 refine ⟨fun h0 => ?_, fun h0 => ?_⟩
 ·
  refine congrArg (Value.int .i64) ?_
  unfold shI
  omega
 ·
  refine congrArg (Value.int .i64) ?_
  unfold shI
  omega
theorem nxg_rshort : nxc_rshort.Good Tryd.prog syG (nxE [] [] [] []) := good_of_walk (Γ := ⟨[], syG, [], [], []⟩) (ρ := nxE [] [] [] []) sym rshort_w rfl (fun _ _ _ _ => ok_nil) rshort_h
def rmay_tree : Tree :=
 (.br (le_ v0_ (.lit 3))
 (.br (le_ (.lit 1) v1_)
 (.br (le_ v1_ (.lit 4))
 (.br (le_ (.lit 1) v2_)
 (.ret (.bool (le_ v2_ (.lit 5))))
 (.ret (.bool (.tt false))))
 (.ret (.bool (.tt false))))
 (.ret (.bool (.tt false))))
 (.ret (.bool (.tt false))))
abbrev nxc_rmay : Con := ⟨60, [(.agg (.cons (.int .u8 v0_) (.cons (.int .u8 v1_) (.cons (.int .u8 v2_) (.cons (.int .u8 v3_) (.cons (.int .i8 v4_) (.cons (.int .i8 v5_) (.cons (.int .u32 v6_) (.cons (.int .u32 v7_) (.cons (.int .u8 v8_) (.cons (.int .u8 v9_) (.cons (.int .u8 (.var 10)) (.cons (.int .u8 (.var 11)) (.cons (.int .u64 (.var 12)) (.cons (.int .u64 (.var 13)) (.cons (.int .u64 (.var 14)) (.cons (.int .u64 (.var 15)) .nil)))))))))))))))))], (.tt true), (.bool (eq_ (.iapp 32 (.cons (.int .u8 v0_) (.cons (.int .u8 v1_) (.cons (.int .u8 v2_) .nil)))) (.lit 0))), ⟨16, 0, 0, 0⟩, none⟩
theorem rmay_w : walk Tryd.prog 142 ⟨[], syG, [], [], []⟩ [] .v nxc_rmay nxc_rmay.n 3000 = some rmay_tree := by kernel_rfl
theorem rmay_h (le ve mo su po pr dl sp n0 n1 n2 n3 se ak ca sn : Int) : Hyp_ nxc_rmay rmay_tree (nxE [le, ve, mo, su, po, pr, dl, sp, n0, n1, n2, n3, se, ak, ca, sn] [] [] []) := by
 intro hc hty
 simp only [nxc_rmay, Sy.holds, nxE, denV, denI, denB, denL, I2.den, VOp.den, List.getD_cons_zero, List.getD_cons_succ, Cst.den, syso, syse, syio, sybo, B2.ofInts, B2.denI, B2.denB, if_true, Bool.false_eq_true, if_false, Nat.div_one, Nat.mul_one, Nat.add_zero] at hc
 simp only [nxc_rmay, patsTyp, patTyp, patTypL, nxE, denV, denL, List.getD_cons_zero, List.getD_cons_succ, and_true, true_and] at hty
 unfold rmay_tree
 simp only [nxc_rmay, Tree.holds, Sy.holds, nxE, denV, denI, denB, denL, I2.den, VOp.den, List.getD_cons_zero, List.getD_cons_succ, Cst.den, syso, syse, syio, sybo, nxi_ck, B2.ofInts, B2.denI, B2.denB, if_true, Bool.false_eq_true, if_false, Nat.div_one, Nat.mul_one, Nat.add_zero]
 have hk := ck_spec le ve mo
 refine ⟨fun h0 => ?_, fun h0 => ?_⟩
 refine ⟨fun h1 => ?_, fun h1 => ?_⟩
 refine ⟨fun h2 => ?_, fun h2 => ?_⟩
 refine ⟨fun h3 => ?_, fun h3 => ?_⟩
 refine ?a0; rotate_left
 refine ?a1; rotate_left
 refine ?a2; rotate_left
 refine ?a3; rotate_left
 refine ?a4; rotate_left
 case a0 | a1 | a2 | a3 | a4 =>
  refine congrArg Value.bool ?_
  first
  | (rw [show ckE le ve mo = 0 by omega]; first | done | rfl)
  | (rw [show ckE le ve mo = 1 by omega]; first | done | rfl)
  | (refine Bool.eq_iff_iff.2 ?_; simp only [decide_eq_true_eq, beq_iff_eq, Bool.and_eq_true, Bool.false_eq_true, false_iff]; omega)
  | skip
theorem nxg_rmay : nxc_rmay.Good Tryd.prog syG (nxE [] [] [] []) := good_of_walk (Γ := ⟨[], syG, [], [], []⟩) (ρ := nxE [] [] [] []) sym rmay_w rfl (fun _ _ _ _ => ok_nil) rmay_h
end Go.Proofs.YtgondiedehjkhaaDoor
