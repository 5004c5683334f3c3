/-
 Layer 41 by the second engine: NtpAsks.
-/
import Derived.Test.YtgondiedehjkhaaDoorSycasks
import Derived.Test.YtgondiedehjkhaaDoorNvasks
import Derived.Test.YtgondiedehjkhaaDoorE00asks
namespace Go.Proofs.YtgondiedehjkhaaDoor
open Go.RowKit Go.Extern.Stop Go.Stop Go.Extern Go.Proofs.YtgondiedehjkhaaDoor.Sy
set_option linter.unusedVariables false
set_option linter.unusedSimpArgs false
abbrev xnxasksk25_ : Tm := (.iapp 44 (.cons (.int .i64 (.var 16)) .nil))
abbrev xnxasksk27_ : Tm := (.iapp 45 (.cons (.int .u64 (.var 14)) (.cons (.int .i64 (.var 17)) .nil)))
abbrev xnxasksk26_ : Tm := (.iapp 45 (.cons (.int .u64 (.var 15)) (.cons (.int .i64 (.var 17)) .nil)))
abbrev xnxasksk0_ : Tm := (.iapp 52 (.cons (.int .i64 (.iapp 32 (.cons (.int .u8 v0_) (.cons (.int .u8 v1_) (.cons (.int .u8 v2_) .nil))))) (.cons (.int .u8 v2_) (.cons (.int .i64 xnxasksk25_) (.cons (.int .i64 (.iapp 49 (.cons (.int .u64 (.var 13)) (.cons (.int .u64 (.iapp 26 (.cons (.int .i64 (.var 16)) .nil))) .nil)))) (.cons (.int .u8 v0_) (.cons (.int .u8 v3_) (.cons (.int .i64 xnxasksk27_) (.cons (.int .i64 xnxasksk26_) (.cons (.int .i64 (.iapp 33 (.cons (.int .i64 (.var 16)) (.cons (.int .i64 (.iapp 27 (.cons (.int .u64 (.var 14)) (.cons (.int .i64 (.var 17)) .nil)))) (.cons (.int .i64 (.iapp 27 (.cons (.int .u64 (.var 15)) (.cons (.int .i64 (.var 17)) .nil)))) (.cons (.int .i64 (.var 17)) (.cons (.int .i64 (.iapp 51 (.cons (.int .u32 v6_) (.cons (.int .u32 v7_) .nil)))) .nil))))))) .nil))))))))))
abbrev xnxasksk28_ : Tm := (.iapp 44 (.cons (.int .i64 (.var 17)) .nil))
abbrev xnxasksk1_ : Tm := (.iapp 46 (.cons (.int .i64 (.iapp 48 (.cons (.int .i64 (.iapp 32 (.cons (.int .u8 v0_) (.cons (.int .u8 v1_) (.cons (.int .u8 v2_) .nil))))) (.cons (.int .u8 v2_) (.cons (.int .i64 (.var 18)) .nil))))) (.cons (.int .i64 (.iapp 46 (.cons (.int .i64 xnxasksk25_) (.cons (.int .i64 xnxasksk28_) .nil)))) .nil)))
abbrev xnxasksk2_ : Tm := (.agg (.cons (.int .u8 (.lit 0)) (.cons (.int .u8 (.lit 0)) (.cons (.int .u8 (.lit 0)) (.cons (.int .u8 (.lit 0)) (.cons (.int .i8 (.lit 0)) (.cons (.int .i8 (.lit 0)) (.cons (.int .u32 (.lit 0)) (.cons (.int .u32 (.lit 0)) (.cons (.int .u8 (.lit 0)) (.cons (.int .u8 (.lit 0)) (.cons (.int .u8 (.lit 0)) (.cons (.int .u8 (.lit 0)) (.cons (.int .u64 (.lit 0)) (.cons (.int .u64 (.lit 0)) (.cons (.int .u64 (.lit 0)) (.cons (.int .u64 (.lit 0)) .nil)))))))))))))))))
abbrev xnxasksk3_ : Tm := (.agg (.cons (.int .i64 (.lit 0)) (.cons (.int .i64 (.lit 0)) (.cons (.int .i64 (.lit 0)) (.cons (.int .i64 (.lit 0)) (.cons (.int .i64 (.lit 0)) .nil))))))
abbrev xnxasksk4_ : Tm := (.agg (.cons (.int .u8 v0_) (.cons (.int .u8 v1_) (.cons (.int .u8 v2_) (.cons (.int .u8 v3_) (.cons (.int .i8 v4_) (.cons (.int .i8 v5_) (.cons (.int .u32 v6_) (.cons (.int .u32 v7_) (.cons (.int .u8 v8_) (.cons (.int .u8 v9_) (.cons (.int .u8 (.var 10)) (.cons (.int .u8 (.var 11)) (.cons (.int .u64 (.var 12)) (.cons (.int .u64 (.var 13)) (.cons (.int .u64 (.var 14)) (.cons (.int .u64 (.var 15)) .nil)))))))))))))))))
abbrev xnxasksk5_ : Tm := (.iapp 35 (.cons (.int .i64 xnxasksk26_) (.cons (.int .i64 (.iapp 27 (.cons (.int .u64 (.var 15)) (.cons (.int .i64 (.var 17)) .nil)))) .nil)))
abbrev xnxasksk6_ : Tm := (.iapp 35 (.cons (.int .i64 xnxasksk27_) (.cons (.int .i64 (.iapp 27 (.cons (.int .u64 (.var 14)) (.cons (.int .i64 (.var 17)) .nil)))) .nil)))
abbrev xnxasksk17_ : Tm := (.iapp 31 (.cons (.int .i64 (.var 18)) .nil))
abbrev xnxasksk7_ : Tm := (.agg (.cons (.int .u8 (.lit 0)) (.cons (.int .u8 (.iapp 35 (.cons (.int .i64 xnxasksk1_) (.cons z1_ .nil)))) (.cons (.int .u8 (.iapp 35 (.cons (.int .i64 xnxasksk1_) (.cons (.int .i64 (.lit 4)) .nil)))) (.cons (.int .u8 (.iapp 35 (.cons (.int .i64 xnxasksk1_) (.cons (.int .i64 (.lit 1)) .nil)))) (.cons (.int .i8 (.lit 0)) (.cons (.int .i8 (.lit 0)) (.cons (.int .u32 (.lit 0)) (.cons (.int .u32 (.iapp 35 (.cons (.int .i64 xnxasksk1_) (.cons (.int .i64 xnxasksk17_) .nil)))) (.cons (.int .u8 (.lit 0)) (.cons (.int .u8 (.lit 0)) (.cons (.int .u8 (.lit 0)) (.cons (.int .u8 (.lit 0)) (.cons (.int .u64 (.iapp 35 (.cons (.int .i64 xnxasksk1_) (.cons (.int .i64 (.iapp 26 (.cons (.int .i64 (.var 16)) .nil))) .nil)))) (.cons (.int .u64 (.iapp 35 (.cons (.int .i64 xnxasksk1_) (.cons (.int .i64 (.var 15)) .nil)))) (.cons (.int .u64 (.iapp 35 (.cons (.int .i64 xnxasksk1_) (.cons (.int .i64 (.iapp 26 (.cons (.int .i64 (.var 16)) .nil))) .nil)))) (.cons (.int .u64 (.iapp 35 (.cons (.int .i64 xnxasksk1_) (.cons (.int .i64 (.iapp 26 (.cons (.int .i64 (.var 17)) .nil))) .nil)))) .nil)))))))))))))))))
abbrev xnxasksk8_ : Tm := (.agg (.cons (.int .u8 (.lit 0)) (.cons (.int .u8 (.iapp 35 (.cons (.int .i64 (.iapp 44 (.cons z0_ .nil))) (.cons (.int .i64 (.lit 4)) .nil)))) (.cons (.int .u8 (.iapp 35 (.cons (.int .i64 (.iapp 44 (.cons z0_ .nil))) (.cons (.int .i64 (.lit 3)) .nil)))) (.cons (.int .u8 (.lit 0)) (.cons (.int .i8 (.lit 0)) (.cons (.int .i8 (.lit 0)) (.cons (.int .u32 (.lit 0)) (.cons (.int .u32 (.lit 0)) (.cons (.int .u8 (.lit 0)) (.cons (.int .u8 (.lit 0)) (.cons (.int .u8 (.lit 0)) (.cons (.int .u8 (.lit 0)) (.cons (.int .u64 (.lit 0)) (.cons (.int .u64 (.lit 0)) (.cons (.int .u64 (.lit 0)) (.cons (.int .u64 (.iapp 35 (.cons (.int .i64 (.iapp 44 (.cons z0_ .nil))) (.cons (.int .i64 (.iapp 26 (.cons z0_ .nil))) .nil)))) .nil)))))))))))))))))
abbrev xnxasksk9_ : Tm := (.iapp 35 (.cons (.int .i64 xnxasksk25_) (.cons (.int .i64 (.iapp 26 (.cons (.int .i64 (.var 16)) .nil))) .nil)))
abbrev xnxasksk10_ : Tm := (an_ (le_ (.lit 0) (.var 15)) (le_ (.var 15) (.lit 18446744073709551615)))
abbrev xnxasksk11_ : Tm := (.agg (.cons (.int .i64 (.iapp 35 (.cons (.int .i64 xnxasksk0_) (.cons (.int .i64 (.var 16)) .nil)))) (.cons (.int .i64 (.iapp 35 (.cons (.int .i64 xnxasksk0_) (.cons (.int .i64 (.iapp 27 (.cons (.int .u64 (.var 14)) (.cons (.int .i64 (.var 17)) .nil)))) .nil)))) (.cons (.int .i64 (.iapp 35 (.cons (.int .i64 xnxasksk0_) (.cons (.int .i64 (.iapp 27 (.cons (.int .u64 (.var 15)) (.cons (.int .i64 (.var 17)) .nil)))) .nil)))) (.cons (.int .i64 (.iapp 35 (.cons (.int .i64 xnxasksk0_) (.cons (.int .i64 (.var 17)) .nil)))) (.cons (.int .i64 (.iapp 35 (.cons (.int .i64 xnxasksk0_) (.cons (.int .i64 (.iapp 51 (.cons (.int .u32 v6_) (.cons (.int .u32 v7_) .nil)))) .nil)))) .nil))))))
abbrev xnxasksk12_ : Tm := (wr_ (ad_ (wr_ (ad_ (wr_ (ad_ (wr_ (.i2 .quo (.iapp 30 (.cons (.int .u32 v6_) .nil)) (.lit 2))) (.i2 .rem (.iapp 30 (.cons (.int .u32 v6_) .nil)) (.lit 2)))) (.iapp 30 (.cons (.int .u32 v7_) .nil)))) (.lit 2)))
abbrev xnxasksk13_ : Tm := (an_ (le_ lm_ (.var 16)) (le_ (.var 16) lM_))
abbrev xnxasksk14_ : Tm := (.agg (.cons (.int .u8 (.lit 0)) (.cons (.int .u8 (.lit 4)) (.cons (.int .u8 (.lit 3)) (.cons (.int .u8 (.lit 0)) (.cons (.int .i8 (.lit 0)) (.cons (.int .i8 (.lit 0)) (.cons (.int .u32 (.lit 0)) (.cons (.int .u32 (.lit 0)) (.cons (.int .u8 (.lit 0)) (.cons (.int .u8 (.lit 0)) (.cons (.int .u8 (.lit 0)) (.cons (.int .u8 (.lit 0)) (.cons (.int .u64 (.lit 0)) (.cons (.int .u64 (.lit 0)) (.cons (.int .u64 (.lit 0)) (.cons (.int .u64 (.iapp 35 (.cons (.int .i64 (.iapp 44 (.cons z0_ .nil))) (.cons (.int .i64 (.iapp 26 (.cons z0_ .nil))) .nil)))) .nil)))))))))))))))))
abbrev xnxasksk15_ : Tm := (an_ (an_ (le_ (.lit 0) v0_) (le_ v0_ (.lit 255))) (an_ (an_ (le_ (.lit 0) v1_) (le_ v1_ (.lit 255))) (an_ (an_ (le_ (.lit 0) v2_) (le_ v2_ (.lit 255))) (an_ (an_ (le_ (.lit 0) v3_) (le_ v3_ (.lit 255))) (an_ (an_ (le_ (.lit 0) v6_) (le_ v6_ (.lit 4294967295))) (an_ (an_ (le_ (.lit 0) v7_) (le_ v7_ (.lit 4294967295))) (an_ (an_ (le_ (.lit 0) (.var 13)) (le_ (.var 13) (.lit 18446744073709551615))) (an_ (an_ (le_ (.lit 0) (.var 14)) (le_ (.var 14) (.lit 18446744073709551615))) (an_ xnxasksk10_ (an_ xnxasksk13_ (an_ (le_ lm_ (.var 18)) (le_ (.var 18) lM_))))))))))))
abbrev xnxasksk19_ : Tm := (an_ (le_ lm_ (.var 17)) (le_ (.var 17) lM_))
abbrev xnxasksk16_ : Tm := (an_ (an_ (le_ (.lit 0) v0_) (le_ v0_ (.lit 255))) (an_ (an_ (le_ (.lit 0) v1_) (le_ v1_ (.lit 255))) (an_ (an_ (le_ (.lit 0) v2_) (le_ v2_ (.lit 255))) (an_ (an_ (le_ (.lit 0) v3_) (le_ v3_ (.lit 255))) (an_ (an_ (le_ (.lit 0) v6_) (le_ v6_ (.lit 4294967295))) (an_ (an_ (le_ (.lit 0) v7_) (le_ v7_ (.lit 4294967295))) (an_ (an_ (le_ (.lit 0) (.var 13)) (le_ (.var 13) (.lit 18446744073709551615))) (an_ (an_ (le_ (.lit 0) (.var 14)) (le_ (.var 14) (.lit 18446744073709551615))) (an_ xnxasksk10_ (an_ xnxasksk13_ xnxasksk19_))))))))))
abbrev xnxasksk18_ : Tm := (wr_ (ad_ (wr_ (ad_ (wr_ (.i2 .quo (wr_ (ad_ (.iapp 30 (.cons (.int .u32 v6_) .nil)) (.lit 1))) (.lit 2))) (.iapp 30 (.cons (.int .u32 v7_) .nil)))) (.lit 2)))
abbrev xnxasksk20_ : Tm := (.wrap .u32 (.i2 .quo (.var 20) (.lit 2)))
abbrev xnxasksk21_ : Tm := (eq_ (.iapp 32 (.cons (.int .u8 v0_) (.cons (.int .u8 v1_) (.cons (.int .u8 v2_) .nil)))) (.lit 0))
abbrev xnxasksk22_ : Tm := (an_ (an_ (le_ (.lit 0) v0_) (le_ v0_ (.lit 255))) (an_ (an_ (le_ (.lit 0) v1_) (le_ v1_ (.lit 255))) (an_ (an_ (le_ (.lit 0) v2_) (le_ v2_ (.lit 255))) (an_ (an_ (le_ (.lit 0) v3_) (le_ v3_ (.lit 255))) (an_ xnxasksk13_ (an_ xnxasksk19_ (an_ (an_ (le_ lm_ (.var 19)) (le_ (.var 19) lM_)) xnxasksk10_)))))))
abbrev xnxasksk23_ : Tm := (an_ (an_ (le_ (.lit 0) v0_) (le_ v0_ (.lit 255))) (an_ (an_ (le_ (.lit 0) v1_) (le_ v1_ (.lit 255))) (an_ (an_ (le_ (.lit 0) v2_) (le_ v2_ (.lit 255))) (an_ (an_ (le_ (.lit 0) v3_) (le_ v3_ (.lit 255))) (an_ xnxasksk13_ (an_ xnxasksk19_ (an_ (an_ (le_ lm_ (.var 18)) (le_ (.var 18) lM_)) xnxasksk10_)))))))
abbrev xnxasksk24_ : Tm := (an_ (le_ (.lit 0) (.var 19)) (an_ (le_ (.var 19) xnxasksk17_) (an_ (le_ (.lit 0) (.var 20)) (an_ (.bapp 5 (.cons (.int .u32 (.var 20)) .nil)) (.b2 .or (an_ (eq_ (.var 20) (.lit 0)) (eq_ (.var 19) xnxasksk17_)) (an_ (le_ (.lit 1) (.var 20)) (lt_ xnxasksk17_ (ad_ (.var 19) (ml_ (.lit 2) (.var 20))))))))))
abbrev xnxasksk29_ : Tm := (.wrap .u32 (ad_ (.var 19) (.var 20)))
noncomputable def nxI : Nat → List Value → Int
 | i, l => nvI i l
noncomputable def nxB : Nat → List Value → Bool
 | i, l => nvB i l
noncomputable def nxV : Nat → List Value → Value
 | i, l => nvV i l
noncomputable abbrev nxE (iv : List Int) (bv : List Bool) (vv : List Value) (sv : List ByteArray) : Env := { iv := iv, bv := bv, vv := vv, sv := sv, fi := nxI, fb := nxB, fv := nxV, et := 142 }
set_option maxHeartbeats 8000000 in
theorem nxup : Agree 53 6 0 (nvE [] [] [] []) (nxE [] [] [] []) := ⟨rfl, (by
   intro f hf
   funext l
   show nxI f l = nvI f l
   unfold nxI
   split <;> first | rfl | omega), (by
   intro f hf
   funext l
   show nxB f l = nvB f l
   unfold nxB
   split <;> first | rfl | omega), (by
   intro f hf
   funext l
   show nxV f l = nvV f l
   unfold nxV
   split <;> first | rfl | omega)⟩
theorem nxi_stv (k1 : IntKind) (t : Int) : nxI 26 [.int k1 t] = stV t := rfl
theorem nxi_nr (k1 : IntKind) (s : Int) (k2 : IntKind) (t : Int) : nxI 27 [.int k1 s, .int k2 t] = nrN s t := rfl
theorem nxi_sh (k1 : IntKind) (n : Int) : nxI 30 [.int k1 n] = shI n := rfl
theorem nxi_spn (k1 : IntKind) (e : Int) : nxI 31 [.int k1 e] = spI e := rfl
theorem nxi_ck (k1 : IntKind) (l : Int) (k2 : IntKind) (v : Int) (k3 : IntKind) (m : Int) : nxI 32 [.int k1 l, .int k2 v, .int k3 m] = ckE l v m := rfl
theorem nxi_sce (k1 : IntKind) (a : Int) (k2 : IntKind) (c : Int) (k3 : IntKind) (s : Int) (k4 : IntKind) (g : Int) (k5 : IntKind) (e : Int) : nxI 33 [.int k1 a, .int k2 c, .int k3 s, .int k4 g, .int k5 e] = scE a c s g e := rfl
theorem nxi_gd (k1 : IntKind) (e : Int) (k2 : IntKind) (x : Int) : nxI 35 [.int k1 e, .int k2 x] = gnF e x := rfl
theorem nxi_dv (k1 : IntKind) (a : Int) (k2 : IntKind) (b : Int) : nxI 36 [.int k1 a, .int k2 b] = a / b := rfl
theorem nxi_tpe (k1 : IntKind) (t : Int) : nxI 44 [.int k1 t] = tpE t := rfl
theorem nxi_nre (k1 : IntKind) (s : Int) (k2 : IntKind) (t : Int) : nxI 45 [.int k1 s, .int k2 t] = nrE s t := rfl
theorem nxi_ch (k1 : IntKind) (a : Int) (k2 : IntKind) (b : Int) : nxI 46 [.int k1 a, .int k2 b] = chE a b := rfl
theorem nxi_an (k1 : IntKind) (k : Int) (k2 : IntKind) (m : Int) (k3 : IntKind) (e : Int) : nxI 48 [.int k1 k, .int k2 m, .int k3 e] = anE k m e := rfl
theorem nxi_same (k1 : IntKind) (x : Int) (k2 : IntKind) (y : Int) : nxI 49 [.int k1 x, .int k2 y] = saE x y := rfl
theorem nxi_er (k1 : IntKind) (d : Int) (k2 : IntKind) (s : Int) : nxI 51 [.int k1 d, .int k2 s] = erI d s := rfl
theorem nxi_of (k1 : IntKind) (k : Int) (k2 : IntKind) (m : Int) (k3 : IntKind) (a : Int) (k4 : IntKind) (st : Int) (k5 : IntKind) (l : Int) (k6 : IntKind) (su : Int) (k7 : IntKind) (c : Int) (k8 : IntKind) (s : Int) (k9 : IntKind) (x : Int) : nxI 52 [.int k1 k, .int k2 m, .int k3 a, .int k4 st, .int k5 l, .int k6 su, .int k7 c, .int k8 s, .int k9 x] = ofE k m a st l su c s x := rfl
theorem nxb_pw (k1 : IntKind) (k : Int) : nxB 5 [.int k1 k] = pwB k := rfl
def rshort_tree : Tree :=
 (.br (.not (eq_ (wr_ (ml_ (wr_ (.i2 .quo (wr_ (ml_ (wr_ v0_) (.lit 1000000000))) (.lit 65536))) (.lit 65536))) (wr_ (ml_ (wr_ v0_) (.lit 1000000000)))))
 (.ret (.int .i64 (wr_ (ad_ (wr_ (.i2 .quo (wr_ (ml_ (wr_ v0_) (.lit 1000000000))) (.lit 65536))) (.lit 1)))))
 (.ret (.int .i64 (wr_ (.i2 .quo (wr_ (ml_ (wr_ v0_) (.lit 1000000000))) (.lit 65536))))))
abbrev nxc_rshort : Con := ⟨58, [(.int .u32 v0_)], (an_ (le_ (.lit 0) v0_) (le_ v0_ (.lit 4294967295))), (.int .i64 (.iapp 30 (.cons (.int .u32 v0_) .nil))), ⟨1, 0, 0, 0⟩, none⟩
theorem rshort_w : walk Tryd.prog 142 ⟨[], syG, [], [], []⟩ [] .v nxc_rshort nxc_rshort.n 3000 = some rshort_tree := by kernel_rfl
theorem rshort_h (n : Int) : Hyp_ nxc_rshort rshort_tree (nxE [n] [] [] []) := by
 intro hc hty
 simp only [nxc_rshort, Sy.holds, nxE, denV, denI, denB, denL, I2.den, VOp.den, List.getD_cons_zero, List.getD_cons_succ, Cst.den, syso, syse, syio, sybo, B2.ofInts, B2.denI, B2.denB, if_true, Bool.false_eq_true, if_false, Nat.div_one, Nat.mul_one, Nat.add_zero] at hc
 simp only [nxc_rshort, patsTyp, patTyp, patTypL, nxE, denV, denL, List.getD_cons_zero, List.getD_cons_succ, and_true, true_and] at hty
 unfold rshort_tree
 simp only [nxc_rshort, Tree.holds, Sy.holds, nxE, denV, denI, denB, denL, I2.den, VOp.den, List.getD_cons_zero, List.getD_cons_succ, Cst.den, syso, syse, syio, sybo, nxi_sh, B2.ofInts, B2.denI, B2.denB, if_true, Bool.false_eq_true, if_false, Nat.div_one, Nat.mul_one, Nat.add_zero]
 have w1 := wr_i64 n
 have w2 : IntKind.wrap .i64 n = n := by omega
 simp only [w2]
 have w3 := wr_i64 (n * 1000000000)
 have w4 : IntKind.wrap .i64 (n * 1000000000) = n * 1000000000 := by omega
 simp only [w4]
 have e1 : (n * 1000000000).tdiv 65536 = n * 1000000000 / 65536 := Int.tdiv_eq_ediv_of_nonneg (by omega)
 simp only [e1]
 have w5 := wr_i64 (n * 1000000000 / 65536)
 have w6 : IntKind.wrap .i64 (n * 1000000000 / 65536) = n * 1000000000 / 65536 := by omega
 simp only [w6]
 have w7 := wr_i64 (n * 1000000000 / 65536 * 65536)
 have w8 := wr_i64 (n * 1000000000 / 65536 + 1)
 refine ⟨fun h0 => ?_, fun h0 => ?_⟩
 ·
  refine congrArg (Value.int .i64) ?_
  unfold shI
  omega
 ·
  refine congrArg (Value.int .i64) ?_
  unfold shI
  omega
theorem nxg_rshort : nxc_rshort.Good Tryd.prog syG (nxE [] [] [] []) := good_of_walk (Γ := ⟨[], syG, [], [], []⟩) (ρ := nxE [] [] [] []) sym rshort_w rfl (fun _ _ _ _ => ok_nil) rshort_h
def rmay_tree : Tree :=
 (.br (le_ v0_ (.lit 3))
 (.br (le_ (.lit 1) v1_)
 (.br (le_ v1_ (.lit 4))
 (.br (le_ (.lit 1) v2_)
 (.ret (.bool (le_ v2_ (.lit 5))))
 (.ret (.bool (.tt false))))
 (.ret (.bool (.tt false))))
 (.ret (.bool (.tt false))))
 (.ret (.bool (.tt false))))
abbrev nxc_rmay : Con := ⟨60, [xnxasksk4_], (.tt true), (.bool xnxasksk21_), ⟨16, 0, 0, 0⟩, none⟩
theorem rmay_w : walk Tryd.prog 142 ⟨[], syG, [], [], []⟩ [] .v nxc_rmay nxc_rmay.n 3000 = some rmay_tree := by kernel_rfl
theorem rmay_h (le ve mo su po pr dl sp n0 n1 n2 n3 se ak ca sn : Int) : Hyp_ nxc_rmay rmay_tree (nxE [le, ve, mo, su, po, pr, dl, sp, n0, n1, n2, n3, se, ak, ca, sn] [] [] []) := by
 intro hc hty
 simp only [nxc_rmay, Sy.holds, nxE, denV, denI, denB, denL, I2.den, VOp.den, List.getD_cons_zero, List.getD_cons_succ, Cst.den, syso, syse, syio, sybo, B2.ofInts, B2.denI, B2.denB, if_true, Bool.false_eq_true, if_false, Nat.div_one, Nat.mul_one, Nat.add_zero] at hc
 simp only [nxc_rmay, patsTyp, patTyp, patTypL, nxE, denV, denL, List.getD_cons_zero, List.getD_cons_succ, and_true, true_and] at hty
 unfold rmay_tree
 simp only [nxc_rmay, Tree.holds, Sy.holds, nxE, denV, denI, denB, denL, I2.den, VOp.den, List.getD_cons_zero, List.getD_cons_succ, Cst.den, syso, syse, syio, sybo, nxi_ck, B2.ofInts, B2.denI, B2.denB, if_true, Bool.false_eq_true, if_false, Nat.div_one, Nat.mul_one, Nat.add_zero]
 have hk := ck_spec le ve mo
 refine ⟨fun h0 => ?_, fun h0 => ?_⟩
 refine ⟨fun h1 => ?_, fun h1 => ?_⟩
 refine ⟨fun h2 => ?_, fun h2 => ?_⟩
 refine ⟨fun h3 => ?_, fun h3 => ?_⟩
 refine ?a0; rotate_left
 refine ?a1; rotate_left
 refine ?a2; rotate_left
 refine ?a3; rotate_left
 refine ?a4; rotate_left
 case a0 | a1 | a2 | a3 | a4 =>
  refine congrArg Value.bool ?_
  first
  | (rw [show ckE le ve mo = 0 by omega]; first | done | rfl)
  | (rw [show ckE le ve mo = 1 by omega]; first | done | rfl)
  | (refine Bool.eq_iff_iff.2 ?_; simp only [decide_eq_true_eq, beq_iff_eq, Bool.and_eq_true, Bool.false_eq_true, false_iff]; omega)
  | skip
theorem nxg_rmay : nxc_rmay.Good Tryd.prog syG (nxE [] [] [] []) := good_of_walk (Γ := ⟨[], syG, [], [], []⟩) (ρ := nxE [] [] [] []) sym rmay_w rfl (fun _ _ _ _ => ok_nil) rmay_h
def rt14_tree : Tree :=
 (.br (lt_ (.lit (-4611686018427387904)) v0_)
 (.ret (.bool (lt_ v0_ (.lit 4611686018427387904))))
 (.ret (.bool (.tt false))))
abbrev nxc_rt14 : Con := ⟨154, [z0_], (.tt true), (.bool (an_ (lt_ (.lit (-4611686018427387904)) v0_) (lt_ v0_ (.lit 4611686018427387904)))), ⟨1, 0, 0, 0⟩, none⟩
theorem rt14_w : walk Tryd.prog 142 ⟨[], syG, [], [], []⟩ [] .v nxc_rt14 nxc_rt14.n 3000 = some rt14_tree := by kernel_rfl
theorem rt14_h (t : Int) : Hyp_ nxc_rt14 rt14_tree (nxE [t] [] [] []) := by
 intro hc hty
 simp only [nxc_rt14, Sy.holds, nxE, denV, denI, denB, denL, I2.den, VOp.den, List.getD_cons_zero, List.getD_cons_succ, Cst.den, syso, syse, syio, sybo, B2.ofInts, B2.denI, B2.denB, if_true, Bool.false_eq_true, if_false, Nat.div_one, Nat.mul_one, Nat.add_zero] at hc
 simp only [nxc_rt14, patsTyp, patTyp, patTypL, nxE, denV, denL, List.getD_cons_zero, List.getD_cons_succ, and_true, true_and] at hty
 unfold rt14_tree
 simp only [nxc_rt14, Tree.holds, Sy.holds, nxE, denV, denI, denB, denL, I2.den, VOp.den, List.getD_cons_zero, List.getD_cons_succ, Cst.den, syso, syse, syio, sybo, B2.ofInts, B2.denI, B2.denB, if_true, Bool.false_eq_true, if_false, Nat.div_one, Nat.mul_one, Nat.add_zero]
 refine ⟨fun h0 => ?_, fun h0 => ?_⟩
 refine ?a0; rotate_left
 refine ?a1; rotate_left
 case a0 | a1 =>
  refine congrArg Value.bool ?_
  first
  | rfl
  | (refine Bool.eq_iff_iff.2 ?_; simp only [decide_eq_true_eq, Bool.and_eq_true, Bool.false_eq_true, false_iff]; omega)
  | skip
theorem nxg_rt14 : nxc_rt14.Good Tryd.prog syG (nxE [] [] [] []) := good_of_walk (Γ := ⟨[], syG, [], [], []⟩) (ρ := nxE [] [] [] []) sym rt14_w rfl (fun _ _ _ _ => ok_nil) rt14_h
def rsmay_tree : Tree :=
 (.br (.not (an_ (lt_ (.lit (-4611686018427387904)) v0_) (lt_ v0_ (.lit 4611686018427387904))))
 (.ret (.bool (.tt false)))
 (.br (.not (an_ (lt_ (.lit (-4611686018427387904)) v1_) (lt_ v1_ (.lit 4611686018427387904))))
 (.ret (.bool (.tt false)))
 (.br (.not (an_ (lt_ (.lit (-4611686018427387904)) v2_) (lt_ v2_ (.lit 4611686018427387904))))
 (.ret (.bool (.tt false)))
 (.br (.not (an_ (lt_ (.lit (-4611686018427387904)) v3_) (lt_ v3_ (.lit 4611686018427387904))))
 (.ret (.bool (.tt false)))
 (.br (lt_ v4_ (.lit 0))
 (.ret (.bool (.tt false)))
 (.br (lt_ (.lit 1099511627776) v4_)
 (.ret (.bool (.tt false)))
 (.br (le_ (.lit 0) (wr_ (sb_ v3_ v0_)))
 (.br (le_ (.lit 0) (wr_ (sb_ v2_ v1_)))
 (.br (le_ (wr_ (sb_ v3_ v0_)) (.lit 1099511627776))
 (.ret (.bool (le_ (wr_ (sb_ v2_ v1_)) (wr_ (sb_ v3_ v0_)))))
 (.ret (.bool (.tt false))))
 (.ret (.bool (.tt false))))
 (.ret (.bool (.tt false))))))))))
abbrev nxc_rsmay : Con := ⟨128, [(.agg (.cons z0_ (.cons z1_ (.cons z2_ (.cons z3_ (.cons z4_ .nil))))))], (an_ (an_ (le_ lm_ v0_) (le_ v0_ lM_)) (an_ (an_ (le_ lm_ v1_) (le_ v1_ lM_)) (an_ (an_ (le_ lm_ v2_) (le_ v2_ lM_)) (an_ (an_ (le_ lm_ v3_) (le_ v3_ lM_)) (an_ (le_ lm_ v4_) (le_ v4_ lM_)))))), (.bool (eq_ (.iapp 33 (.cons z0_ (.cons z1_ (.cons z2_ (.cons z3_ (.cons z4_ .nil)))))) (.lit 0))), ⟨5, 0, 0, 0⟩, none⟩
theorem rsmay_w : walk Tryd.prog 142 ⟨[nxc_rt14], syG, [], [], []⟩ [] .v nxc_rsmay nxc_rsmay.n 3000 = some rsmay_tree := by kernel_rfl
theorem rsmay_h (a c s g e : Int) : Hyp_ nxc_rsmay rsmay_tree (nxE [a, c, s, g, e] [] [] []) := by
 intro hc hty
 simp only [nxc_rsmay, Sy.holds, nxE, denV, denI, denB, denL, I2.den, VOp.den, List.getD_cons_zero, List.getD_cons_succ, Cst.den, syso, syse, syio, sybo, B2.ofInts, B2.denI, B2.denB, if_true, Bool.false_eq_true, if_false, Nat.div_one, Nat.mul_one, Nat.add_zero] at hc
 simp only [nxc_rsmay, patsTyp, patTyp, patTypL, nxE, denV, denL, List.getD_cons_zero, List.getD_cons_succ, and_true, true_and] at hty
 unfold rsmay_tree
 simp only [nxc_rsmay, Tree.holds, Sy.holds, nxE, denV, denI, denB, denL, I2.den, VOp.den, List.getD_cons_zero, List.getD_cons_succ, Cst.den, syso, syse, syio, sybo, nxi_sce, B2.ofInts, B2.denI, B2.denB, if_true, Bool.false_eq_true, if_false, Nat.div_one, Nat.mul_one, Nat.add_zero]
 have w1 := wr_i64 (s - c)
 have w2 := wr_i64 (g - a)
 refine ⟨fun h0 => ?_, fun h0 => ?_⟩
 refine ?a0; rotate_left
 refine ⟨fun h1 => ?_, fun h1 => ?_⟩
 refine ?a1; rotate_left
 refine ⟨fun h2 => ?_, fun h2 => ?_⟩
 refine ?a2; rotate_left
 refine ⟨fun h3 => ?_, fun h3 => ?_⟩
 refine ?a3; rotate_left
 refine ⟨fun h4 => ?_, fun h4 => ?_⟩
 refine ?a4; rotate_left
 refine ⟨fun h5 => ?_, fun h5 => ?_⟩
 refine ?a5; rotate_left
 refine ⟨fun h6 => ?_, fun h6 => ?_⟩
 refine ⟨fun h7 => ?_, fun h7 => ?_⟩
 refine ⟨fun h8 => ?_, fun h8 => ?_⟩
 refine ?a6; rotate_left
 refine ?a7; rotate_left
 refine ?a8; rotate_left
 refine ?a9; rotate_left
 case a0 | a1 | a2 | a3 | a4 | a5 | a6 | a7 | a8 | a9 =>
  refine congrArg Value.bool ?_
  rcases sc_spec a c s g e with ⟨h, e1⟩ | ⟨h, e1⟩
  · rw [e1]
    unfold scP tmP at h
    first
    | (exfalso; omega)
    | rfl
    | (refine Eq.trans (decide_eq_true (by omega)) ?_; rfl)
    | (refine Eq.trans (decide_eq_false (by omega)) ?_; rfl)
    | (refine Bool.eq_iff_iff.2 ?_; simp only [decide_eq_true_eq, beq_iff_eq, Bool.and_eq_true]; omega)
    | skip
  · rw [e1]
    unfold scP tmP at h
    first
    | rfl
    | (refine Eq.trans (decide_eq_true (by omega)) ?_; rfl)
    | (refine Eq.trans (decide_eq_false (by omega)) ?_; rfl)
    | (exfalso; omega)
    | (refine Bool.eq_iff_iff.2 ?_; simp only [decide_eq_true_eq, beq_iff_eq, Bool.and_eq_true]; omega)
    | skip
theorem nxg_rsmay : nxc_rsmay.Good Tryd.prog syG (nxE [] [] [] []) := good_of_walk (Γ := ⟨[nxc_rt14], syG, [], [], []⟩) (ρ := nxE [] [] [] []) sym rsmay_w rfl (fun _ _ _ _ => (ok_cons (Con.Good.env nxg_rt14 _ _ _ _) ok_nil)) rsmay_h
def askA_tree : Tree :=
 (.need (an_ (le_ lm_ v0_) (le_ v0_ lM_))
 (.br (.not (eq_ (.iapp 44 (.cons z0_ .nil)) (.lit 0)))
 (.ret (.tup (.cons xnxasksk2_ (.cons (.err (.iapp 44 (.cons z0_ .nil))) .nil))))
 (.ret (.tup (.cons xnxasksk14_ (.cons (.cst .nilI) .nil))))))
abbrev nxc_askA : Con := ⟨61, [z0_], (an_ (le_ lm_ v0_) (le_ v0_ lM_)), (.tup (.cons xnxasksk8_ (.cons (.err (.iapp 44 (.cons z0_ .nil))) .nil))), ⟨1, 0, 0, 0⟩, none⟩
theorem askA_w : walk Tryd.prog 142 ⟨[nvc_stampA], syG, [], [], []⟩ [] .v nxc_askA nxc_askA.n 3000 = some askA_tree := by kernel_rfl
theorem askA_h (t : Int) : Hyp_ nxc_askA askA_tree (nxE [t] [] [] []) := by
 intro hc hty
 simp only [nxc_askA, Sy.holds, nxE, denV, denI, denB, denL, I2.den, VOp.den, List.getD_cons_zero, List.getD_cons_succ, Cst.den, syso, syse, syio, sybo, B2.ofInts, B2.denI, B2.denB, if_true, Bool.false_eq_true, if_false, Nat.div_one, Nat.mul_one, Nat.add_zero] at hc
 simp only [nxc_askA, patsTyp, patTyp, patTypL, nxE, denV, denL, List.getD_cons_zero, List.getD_cons_succ, and_true, true_and] at hty
 unfold askA_tree
 simp only [nxc_askA, Tree.holds, Sy.holds, nxE, denV, denI, denB, denL, I2.den, VOp.den, List.getD_cons_zero, List.getD_cons_succ, Cst.den, syso, syse, syio, sybo, nxi_stv, nxi_gd, nxi_tpe, B2.ofInts, B2.denI, B2.denB, if_true, Bool.false_eq_true, if_false, Nat.div_one, Nat.mul_one, Nat.add_zero]
 refine ⟨?_, fun h0 => ?_⟩
 ·
  omega
 refine ⟨fun h1 => ?_, fun h1 => ?_⟩
 refine ?a0; rotate_left
 refine ?a1; rotate_left
 case a0 | a1 =>
  first
  | (have hh : tpE t = 0 := by omega
     simp only [gn_y hh, hh]
     first | done | rfl)
  | (have hh : ¬ tpE t = 0 := by omega
     simp only [gn_n hh]
     first | done | rfl)
  | skip
theorem nxg_askA : nxc_askA.Good Tryd.prog syG (nxE [] [] [] []) := good_of_walk (Γ := ⟨[nvc_stampA], syG, [], [], []⟩) (ρ := nxE [] [] [] []) sym askA_w rfl (fun _ _ _ _ => (ok_cons (Con.Good.env (Con.Good.up nvg_stampA nxup rfl) _ _ _ _) ok_nil)) askA_h
def raskA_tree : Tree :=
 (.need (an_ (le_ lm_ v0_) (le_ v0_ lM_))
 (.br (.not (eq_ (.iapp 44 (.cons z0_ .nil)) (.lit 0)))
 (.ret (.tup (.cons xnxasksk2_ (.cons (.int .i64 (.iapp 44 (.cons z0_ .nil))) .nil))))
 (.ret (.tup (.cons xnxasksk14_ (.cons (.int .i64 (.lit 0)) .nil))))))
abbrev nxc_raskA : Con := ⟨62, [z0_], (an_ (le_ lm_ v0_) (le_ v0_ lM_)), (.tup (.cons xnxasksk8_ (.cons (.int .i64 (.iapp 44 (.cons z0_ .nil))) .nil))), ⟨1, 0, 0, 0⟩, none⟩
theorem raskA_w : walk Tryd.prog 142 ⟨[nvc_rstampA], syG, [], [], []⟩ [] .v nxc_raskA nxc_raskA.n 3000 = some raskA_tree := by kernel_rfl
theorem raskA_h (t : Int) : Hyp_ nxc_raskA raskA_tree (nxE [t] [] [] []) := by
 intro hc hty
 simp only [nxc_raskA, Sy.holds, nxE, denV, denI, denB, denL, I2.den, VOp.den, List.getD_cons_zero, List.getD_cons_succ, Cst.den, syso, syse, syio, sybo, B2.ofInts, B2.denI, B2.denB, if_true, Bool.false_eq_true, if_false, Nat.div_one, Nat.mul_one, Nat.add_zero] at hc
 simp only [nxc_raskA, patsTyp, patTyp, patTypL, nxE, denV, denL, List.getD_cons_zero, List.getD_cons_succ, and_true, true_and] at hty
 unfold raskA_tree
 simp only [nxc_raskA, Tree.holds, Sy.holds, nxE, denV, denI, denB, denL, I2.den, VOp.den, List.getD_cons_zero, List.getD_cons_succ, Cst.den, syso, syse, syio, sybo, nxi_stv, nxi_gd, nxi_tpe, B2.ofInts, B2.denI, B2.denB, if_true, Bool.false_eq_true, if_false, Nat.div_one, Nat.mul_one, Nat.add_zero]
 refine ⟨?_, fun h0 => ?_⟩
 ·
  omega
 refine ⟨fun h1 => ?_, fun h1 => ?_⟩
 refine ?a0; rotate_left
 refine ?a1; rotate_left
 case a0 | a1 =>
  first
  | (have hh : tpE t = 0 := by omega
     simp only [gn_y hh, hh]
     first | done | rfl)
  | (have hh : ¬ tpE t = 0 := by omega
     simp only [gn_n hh]
     first | done | rfl)
  | skip
theorem nxg_raskA : nxc_raskA.Good Tryd.prog syG (nxE [] [] [] []) := good_of_walk (Γ := ⟨[nvc_rstampA], syG, [], [], []⟩) (ρ := nxE [] [] [] []) sym raskA_w rfl (fun _ _ _ _ => (ok_cons (Con.Good.env (Con.Good.up nvg_rstampA nxup rfl) _ _ _ _) ok_nil)) raskA_h
def answerA_tree : Tree :=
 (.br (.not xnxasksk21_)
 (.ret (.tup (.cons xnxasksk2_ (.cons (.iface 142 (.int .i64 (.lit 1))) .nil))))
 (.br (.not (eq_ v2_ (.lit 3)))
 (.ret (.tup (.cons xnxasksk2_ (.cons (.iface 142 (.int .i64 (.lit 1))) .nil))))
 (.br (lt_ (.var 18) (.lit 0))
 (.ret (.tup (.cons xnxasksk2_ (.cons (.iface 142 (.int .i64 (.lit 1))) .nil))))
 (.br (lt_ (.lit 1073741824) (.var 18))
 (.ret (.tup (.cons xnxasksk2_ (.cons (.iface 142 (.int .i64 (.lit 1))) .nil))))
 (.need xnxasksk13_
 (.br (.not (eq_ xnxasksk25_ (.lit 0)))
 (.ret (.tup (.cons xnxasksk2_ (.cons (.err xnxasksk25_) .nil))))
 (.need xnxasksk19_
 (.br (.not (eq_ xnxasksk28_ (.lit 0)))
 (.ret (.tup (.cons xnxasksk2_ (.cons (.err xnxasksk28_) .nil))))
 (.need (an_ (le_ lm_ (.i2 (.shl .i64) (wr_ (sb_ (.var 18) (.lit 1))) (.lit 16))) (le_ (.i2 (.shl .i64) (wr_ (sb_ (.var 18) (.lit 1))) (.lit 16)) lM_))
 (.ret (.tup (.cons (.agg (.cons (.int .u8 (.lit 0)) (.cons (.int .u8 v1_) (.cons (.int .u8 (.lit 4)) (.cons (.int .u8 (.lit 1)) (.cons (.int .i8 (.lit 0)) (.cons (.int .i8 (.lit 0)) (.cons (.int .u32 (.lit 0)) (.cons (.int .u32 (.wrap .u32 (wr_ (ad_ (.iapp 36 (.cons (.int .i64 (.i2 (.shl .i64) (wr_ (sb_ (.var 18) (.lit 1))) (.lit 16))) (.cons (.int .i64 (.lit 1000000000)) .nil))) (.lit 1))))) (.cons (.int .u8 (.lit 0)) (.cons (.int .u8 (.lit 0)) (.cons (.int .u8 (.lit 0)) (.cons (.int .u8 (.lit 0)) (.cons (.int .u64 xnxasksk9_) (.cons (.int .u64 (.var 15)) (.cons (.int .u64 xnxasksk9_) (.cons (.int .u64 (.iapp 35 (.cons (.int .i64 xnxasksk28_) (.cons (.int .i64 (.iapp 26 (.cons (.int .i64 (.var 17)) .nil))) .nil)))) .nil))))))))))))))))) (.cons (.cst .nilI) .nil)))))))))))))
abbrev nxc_answerA : Con := ⟨63, [xnxasksk4_, (.int .i64 (.var 16)), (.int .i64 (.var 17)), (.int .i64 (.var 18))], xnxasksk23_, (.tup (.cons xnxasksk7_ (.cons (.err xnxasksk1_) .nil))), ⟨19, 0, 0, 0⟩, none⟩
theorem answerA_w : walk Tryd.prog 142 ⟨[ntc_check, nvc_stampA, ntc_divs], syG, [], [], []⟩ [] .v nxc_answerA nxc_answerA.n 3000 = some answerA_tree := by kernel_rfl
theorem answerA_h (le ve mo su po pr dl sp n0 n1 n2 n3 se ak ca sn c s e : Int) : Hyp_ nxc_answerA answerA_tree (nxE [le, ve, mo, su, po, pr, dl, sp, n0, n1, n2, n3, se, ak, ca, sn, c, s, e] [] [] []) := by
 intro hc hty
 simp only [nxc_answerA, Sy.holds, nxE, denV, denI, denB, denL, I2.den, VOp.den, List.getD_cons_zero, List.getD_cons_succ, Cst.den, syso, syse, syio, sybo, B2.ofInts, B2.denI, B2.denB, if_true, Bool.false_eq_true, if_false, Nat.div_one, Nat.mul_one, Nat.add_zero] at hc
 simp only [nxc_answerA, patsTyp, patTyp, patTypL, nxE, denV, denL, List.getD_cons_zero, List.getD_cons_succ, and_true, true_and] at hty
 unfold answerA_tree
 simp only [nxc_answerA, Tree.holds, Sy.holds, nxE, denV, denI, denB, denL, I2.den, VOp.den, List.getD_cons_zero, List.getD_cons_succ, Cst.den, syso, syse, syio, sybo, nxi_stv, nxi_spn, nxi_ck, nxi_gd, nxi_dv, nxi_tpe, nxi_ch, nxi_an, B2.ofInts, B2.denI, B2.denB, if_true, Bool.false_eq_true, if_false, Nat.div_one, Nat.mul_one, Nat.add_zero]
 have hk := ck_spec le ve mo
 have ha := an_spec (ckE le ve mo) mo e
 have p2 : (2 : Int) ^ (Min.min (Int.toNat 16) (IntKind.bits .i64)) = 65536 := by decide
 try simp only [p2]
 refine ⟨fun h0 => ?_, fun h0 => ?_⟩
 refine ?a0; rotate_left
 refine ⟨fun h1 => ?_, fun h1 => ?_⟩
 refine ?a1; rotate_left
 refine ⟨fun h2 => ?_, fun h2 => ?_⟩
 refine ?a2; rotate_left
 refine ⟨fun h3 => ?_, fun h3 => ?_⟩
 refine ?a3; rotate_left
 refine ⟨?_, fun h4 => ?_⟩
 refine ?a4; rotate_left
 refine ⟨fun h5 => ?_, fun h5 => ?_⟩
 refine ?a5; rotate_left
 refine ⟨?_, fun h6 => ?_⟩
 refine ?a6; rotate_left
 refine ⟨fun h7 => ?_, fun h7 => ?_⟩
 refine ?a7; rotate_left
 refine ⟨?_, fun h8 => ?_⟩
 refine ?a8; rotate_left
 refine ?a9; rotate_left
 case a0 | a1 | a2 | a3 | a5 | a7 | a9 =>
  first
  | (exfalso; omega)
  | (skip
     first
     | (have q1 : anE (ckE le ve mo) mo e = 1 := by omega
        simp only [q1, ch_n (show ¬ (1 : Int) = 0 by decide), gn_n (show ¬ (1 : Int) = 0 by decide)]
        first | done | rfl)
     | (have q1 : anE (ckE le ve mo) mo e = 0 := by omega
        first
        | (have q2 : ¬ tpE c = 0 := by omega
           simp only [ch_y q1, ch_n q2, gn_n q2]
           first | done | rfl)
        | (have q2 : tpE c = 0 := by omega
           have q3 : ¬ tpE s = 0 := by omega
           simp only [ch_y q1, ch_y q2, gn_n q3]
           first | done | rfl)
        | (have q2 : tpE c = 0 := by omega
           have q3 : tpE s = 0 := by omega
           simp only [ch_y q1, ch_y q2, gn_y q3, gn_y q2]
           simp only [q3]
           have w1 : IntKind.wrap .i64 (e - 1) = e - 1 := by have := wr_i64 (e - 1); omega
           have w2 : IntKind.wrap .i64 ((e - 1) * 65536) = (e - 1) * 65536 := by have := wr_i64 ((e - 1) * 65536); omega
           simp only [w1, w2]
           have w3 : IntKind.wrap .i64 ((e - 1) * 65536 / 1000000000 + 1) = (e - 1) * 65536 / 1000000000 + 1 := by have := wr_i64 ((e - 1) * 65536 / 1000000000 + 1); omega
           simp only [w3]
           have w4 : IntKind.wrap .u32 ((e - 1) * 65536 / 1000000000 + 1) = spI e := by (have := wr_u32 ((e - 1) * 65536 / 1000000000 + 1); unfold spI; omega)
           simp only [w4]
           first | done | rfl)))
  | skip
 case a4 | a6 | a8 =>
  first
  | exact True.intro
  | omega
  | (have w1 := wr_i64 (e - 1); have w2 := wr_i64 (IntKind.wrap .i64 (e - 1) * 65536); omega)
  | skip
theorem nxg_answerA : nxc_answerA.Good Tryd.prog syG (nxE [] [] [] []) := good_of_walk (Γ := ⟨[ntc_check, nvc_stampA, ntc_divs], syG, [], [], []⟩) (ρ := nxE [] [] [] []) sym answerA_w rfl (fun _ _ _ _ => (ok_cons (Con.Good.env (Con.Good.up (Con.Good.up (Con.Good.up ntg_check nuup rfl) nvup rfl) nxup rfl) _ _ _ _) (ok_cons (Con.Good.env (Con.Good.up nvg_stampA nxup rfl) _ _ _ _) (ok_cons (Con.Good.env (Con.Good.up (Con.Good.up (Con.Good.up ntg_divs nuup rfl) nvup rfl) nxup rfl) _ _ _ _) ok_nil)))) answerA_h
def ranswer_tree : Tree :=
 (.br (.not xnxasksk21_)
 (.ret (.tup (.cons xnxasksk2_ (.cons (.int .i64 (.lit 1)) .nil))))
 (.br (.not (eq_ v2_ (.lit 3)))
 (.ret (.tup (.cons xnxasksk2_ (.cons (.int .i64 (.lit 1)) .nil))))
 (.br (lt_ (.var 18) (.lit 0))
 (.ret (.tup (.cons xnxasksk2_ (.cons (.int .i64 (.lit 1)) .nil))))
 (.br (lt_ (.lit 1073741824) (.var 18))
 (.ret (.tup (.cons xnxasksk2_ (.cons (.int .i64 (.lit 1)) .nil))))
 (.need xnxasksk13_
 (.br (.not (eq_ xnxasksk25_ (.lit 0)))
 (.ret (.tup (.cons xnxasksk2_ (.cons (.int .i64 xnxasksk25_) .nil))))
 (.need xnxasksk19_
 (.br (.not (eq_ xnxasksk28_ (.lit 0)))
 (.ret (.tup (.cons xnxasksk2_ (.cons (.int .i64 xnxasksk28_) .nil))))
 (.loop ⟨2, 0, 0, 0⟩ (an_ (le_ (.lit 0) (.lit 0)) (an_ (le_ (.lit 0) xnxasksk17_) (an_ (le_ (.lit 0) (.lit 131072)) (an_ (.bapp 5 (.cons (.int .u32 (.lit 131072)) .nil)) (.b2 .or (an_ (eq_ (.lit 131072) (.lit 0)) (eq_ (.lit 0) xnxasksk17_)) (an_ (le_ (.lit 1) (.lit 131072)) (lt_ xnxasksk17_ (.lit 262144)))))))) xnxasksk24_
 (.br (lt_ (.lit 0) (.var 20))
 (.need (an_ (le_ (.lit 0) (.wrap .u32 (sb_ xnxasksk29_ (.lit 1)))) (le_ (.wrap .u32 (sb_ xnxasksk29_ (.lit 1))) (.lit 4294967295)))
 (.br (lt_ (.iapp 30 (.cons (.int .u32 (.wrap .u32 (sb_ xnxasksk29_ (.lit 1)))) .nil)) (.var 18))
 (.back (an_ (le_ (.lit 0) xnxasksk29_) (an_ (le_ xnxasksk29_ xnxasksk17_) (an_ (le_ (.lit 0) xnxasksk20_) (an_ (.bapp 5 (.cons (.int .u32 xnxasksk20_) .nil)) (.b2 .or (an_ (eq_ xnxasksk20_ (.lit 0)) (eq_ xnxasksk29_ xnxasksk17_)) (an_ (le_ (.lit 1) xnxasksk20_) (lt_ xnxasksk17_ (ad_ xnxasksk29_ (ml_ (.lit 2) xnxasksk20_))))))))) xnxasksk20_ (.var 20))
 (.back (an_ (le_ (.lit 0) (.var 19)) (an_ (le_ (.var 19) xnxasksk17_) (an_ (le_ (.lit 0) xnxasksk20_) (an_ (.bapp 5 (.cons (.int .u32 xnxasksk20_) .nil)) (.b2 .or (an_ (eq_ xnxasksk20_ (.lit 0)) (eq_ (.var 19) xnxasksk17_)) (an_ (le_ (.lit 1) xnxasksk20_) (lt_ xnxasksk17_ (ad_ (.var 19) (ml_ (.lit 2) xnxasksk20_))))))))) xnxasksk20_ (.var 20))))
 (.ret (.tup (.cons (.agg (.cons (.int .u8 (.lit 0)) (.cons (.int .u8 v1_) (.cons (.int .u8 (.lit 4)) (.cons (.int .u8 (.lit 1)) (.cons (.int .i8 (.lit 0)) (.cons (.int .i8 (.lit 0)) (.cons (.int .u32 (.lit 0)) (.cons (.int .u32 (.var 19)) (.cons (.int .u8 (.lit 0)) (.cons (.int .u8 (.lit 0)) (.cons (.int .u8 (.lit 0)) (.cons (.int .u8 (.lit 0)) (.cons (.int .u64 xnxasksk9_) (.cons (.int .u64 (.var 15)) (.cons (.int .u64 xnxasksk9_) (.cons (.int .u64 (.iapp 35 (.cons (.int .i64 xnxasksk28_) (.cons (.int .i64 (.iapp 26 (.cons (.int .i64 (.var 17)) .nil))) .nil)))) .nil))))))))))))))))) (.cons (.int .i64 (.lit 0)) .nil))))))))))))))
abbrev nxc_ranswer : Con := ⟨64, [xnxasksk4_, (.int .i64 (.var 16)), (.int .i64 (.var 17)), (.int .i64 (.var 18))], xnxasksk23_, (.tup (.cons xnxasksk7_ (.cons (.int .i64 xnxasksk1_) .nil))), ⟨19, 0, 0, 0⟩, none⟩
theorem ranswer_w : walk Tryd.prog 142 ⟨[nxc_rmay, nvc_rstampA, nxc_rshort], syG, [], [], []⟩ [⟨0, ⟨2, 0, 0, 0⟩, [(13, (.int .u32 (.var 19))), (14, (.int .u32 (.var 20)))], none, xnxasksk24_, (.var 20), 0, []⟩] .v nxc_ranswer nxc_ranswer.n 3000 = some ranswer_tree := by kernel_rfl
theorem ranswer_h (le ve mo su po pr dl sp n0 n1 n2 n3 se ak ca sn c s e : Int) : Hyp_ nxc_ranswer ranswer_tree (nxE [le, ve, mo, su, po, pr, dl, sp, n0, n1, n2, n3, se, ak, ca, sn, c, s, e] [] [] []) := by
 intro hc hty
 simp only [nxc_ranswer, Sy.holds, nxE, denV, denI, denB, denL, I2.den, VOp.den, List.getD_cons_zero, List.getD_cons_succ, Cst.den, syso, syse, syio, sybo, B2.ofInts, B2.denI, B2.denB, if_true, Bool.false_eq_true, if_false, Nat.div_one, Nat.mul_one, Nat.add_zero] at hc
 simp only [nxc_ranswer, patsTyp, patTyp, patTypL, nxE, denV, denL, List.getD_cons_zero, List.getD_cons_succ, and_true, true_and] at hty
 unfold ranswer_tree
 simp only [nxc_ranswer, Tree.holds, Sy.holds, AllN, Env.more, nxE, List.cons_append, List.nil_append, List.append_nil, denV, denI, denB, denL, I2.den, VOp.den, List.getD_cons_zero, List.getD_cons_succ, Cst.den, syso, syse, syio, sybo, nxi_stv, nxi_sh, nxi_spn, nxi_ck, nxi_gd, nxi_tpe, nxi_ch, nxi_an, nxb_pw, List.map_nil, List.map_cons, B2.ofInts, B2.denI, B2.denB, if_true, Bool.false_eq_true, if_false, Nat.div_one, Nat.mul_one, Nat.add_zero]
 have hk := ck_spec le ve mo
 have ha := an_spec (ckE le ve mo) mo e
 have p2 : (2 : Int) ^ (Min.min (Int.toNat 16) (IntKind.bits .i64)) = 65536 := by decide
 try simp only [p2]
 have ht5 : 0 ≤ e → e ≤ 1073741824 → 0 ≤ spI e ∧ spI e ≤ 70370 := fun a b => by (unfold spI; omega)
 refine ⟨fun h0 => ?_, fun h0 => ?_⟩
 refine ?a0; rotate_left
 refine ⟨fun h1 => ?_, fun h1 => ?_⟩
 refine ?a1; rotate_left
 refine ⟨fun h2 => ?_, fun h2 => ?_⟩
 refine ?a2; rotate_left
 refine ⟨fun h3 => ?_, fun h3 => ?_⟩
 refine ?a3; rotate_left
 refine ⟨?_, fun h4 => ?_⟩
 refine ?a4; rotate_left
 refine ⟨fun h5 => ?_, fun h5 => ?_⟩
 refine ?a5; rotate_left
 refine ⟨?_, fun h6 => ?_⟩
 refine ?a6; rotate_left
 refine ⟨fun h7 => ?_, fun h7 => ?_⟩
 refine ?a7; rotate_left
 refine ⟨?_, ?_⟩
 ·
  first
  | exact ⟨by omega, by omega, by omega, by decide, .inr ⟨by omega, by omega⟩⟩
  | skip
 intro i0a i0b hi0
 obtain ⟨g1, g2, g3, g4, g5⟩ := hi0
 have hT : 0 ≤ spI e ∧ spI e ≤ 70370 := by unfold spI; omega
 have hh := fun h => pw_half (k := i0b) g4 h
 have w1 := wr_u32 (i0a + i0b)
 have w2 := wr_u32 (IntKind.wrap .u32 (i0a + i0b) - 1)
 have hk : 0 < i0b → i0b ≤ 131072 := fun h => (hh h).2.2
 have hs : 0 < i0b → (shI (i0a + i0b - 1) < e ↔ i0a + i0b ≤ spI e) := fun h => by (unfold shI spI; omega)
 have w3 : 0 < i0b → IntKind.wrap .u32 (i0a + i0b) = i0a + i0b := fun h => by omega
 have w4 : 0 < i0b → IntKind.wrap .u32 (i0a + i0b - 1) = i0a + i0b - 1 := fun h => by (have := wr_u32 (i0a + i0b - 1); have := hk h; omega)
 have tk : i0b.tdiv 2 = i0b / 2 := Int.tdiv_eq_ediv_of_nonneg g3
 have w5 : 0 < i0b → IntKind.wrap .u32 (i0b / 2) = i0b / 2 := fun h => by (have := wr_u32 (i0b / 2); have := hk h; omega)
 refine ⟨fun h8 => ?_, fun h8 => ?_⟩
 refine ⟨?_, fun h9 => ?_⟩
 refine ?a8; rotate_left
 refine ⟨fun h10 => ?_, fun h10 => ?_⟩
 refine ⟨?_, ?_⟩
 refine ?a9; rotate_left
 ·
  have hp : 0 < i0b := by omega
  rw [tk, w5 hp]
  omega
 refine ⟨?_, ?_⟩
 refine ?a10; rotate_left
 ·
  have hp : 0 < i0b := by omega
  rw [tk, w5 hp]
  omega
 refine ?a11; rotate_left
 case a0 | a1 | a2 | a3 | a5 | a7 | a11 =>
  first
  | (exfalso; omega)
  | (skip
     first
     | (have q1 : anE (ckE le ve mo) mo e = 1 := by omega
        simp only [q1, ch_n (show ¬ (1 : Int) = 0 by decide), gn_n (show ¬ (1 : Int) = 0 by decide)]
        first | done | rfl)
     | (have q1 : anE (ckE le ve mo) mo e = 0 := by omega
        first
        | (have q2 : ¬ tpE c = 0 := by omega
           simp only [ch_y q1, ch_n q2, gn_n q2]
           first | done | rfl)
        | (have q2 : tpE c = 0 := by omega
           have q3 : ¬ tpE s = 0 := by omega
           simp only [ch_y q1, ch_y q2, gn_n q3]
           first | done | rfl)
        | (have q2 : tpE c = 0 := by omega
           have q3 : tpE s = 0 := by omega
           simp only [ch_y q1, ch_y q2, gn_y q3, gn_y q2]
           simp only [q3]
           try rw [show i0a = spI e by omega]
           first | done | rfl)))
  | skip
 case a4 | a6 | a8 =>
  first
  | exact True.intro
  | omega
  | (have hp : 0 < i0b := by omega; simp only [w3 hp, w4 hp]; have := hk hp; omega)
  | skip
 case a9 | a10 =>
  first
  | (have hp : 0 < i0b := by omega
     have q1 := hh hp
     have q2 := hs hp
     simp only [w3 hp, w4 hp, tk, w5 hp] at *
     refine ⟨by omega, by omega, by omega, q1.1, ?_⟩
     omega)
  | skip
theorem nxg_ranswer : nxc_ranswer.Good Tryd.prog syG (nxE [] [] [] []) := good_of_walk (Γ := ⟨[nxc_rmay, nvc_rstampA, nxc_rshort], syG, [], [], []⟩) (ρ := nxE [] [] [] []) sym ranswer_w rfl (fun _ _ _ _ => (ok_cons (Con.Good.env nxg_rmay _ _ _ _) (ok_cons (Con.Good.env (Con.Good.up nvg_rstampA nxup rfl) _ _ _ _) (ok_cons (Con.Good.env nxg_rshort _ _ _ _) ok_nil)))) ranswer_h
def ofA_tree : Tree :=
 (.br (.not xnxasksk21_)
 (.ret (.tup (.cons xnxasksk3_ (.cons (.iface 142 (.int .i64 (.lit 1))) .nil))))
 (.br (.not (eq_ v2_ (.lit 4)))
 (.ret (.tup (.cons xnxasksk3_ (.cons (.iface 142 (.int .i64 (.lit 1))) .nil))))
 (.need xnxasksk13_
 (.br (.not (eq_ xnxasksk25_ (.lit 0)))
 (.ret (.tup (.cons xnxasksk3_ (.cons (.err xnxasksk25_) .nil))))
 (.br (.not (eq_ (.var 13) xnxasksk9_))
 (.ret (.tup (.cons xnxasksk3_ (.cons (.iface 142 (.int .i64 (.lit 19))) .nil))))
 (.br (eq_ v0_ (.lit 3))
 (.ret (.tup (.cons xnxasksk3_ (.cons (.iface 142 (.int .i64 (.lit 13))) .nil))))
 (.br (lt_ v3_ (.lit 1))
 (.ret (.tup (.cons xnxasksk3_ (.cons (.iface 142 (.int .i64 (.lit 13))) .nil))))
 (.br (lt_ (.lit 15) v3_)
 (.ret (.tup (.cons xnxasksk3_ (.cons (.iface 142 (.int .i64 (.lit 13))) .nil))))
 (.need (an_ (an_ (le_ (.lit 0) (.var 14)) (le_ (.var 14) (.lit 18446744073709551615))) xnxasksk19_)
 (.br (.not (eq_ xnxasksk27_ (.lit 0)))
 (.ret (.tup (.cons xnxasksk3_ (.cons (.err xnxasksk27_) .nil))))
 (.need (an_ xnxasksk10_ xnxasksk19_)
 (.br (.not (eq_ xnxasksk26_ (.lit 0)))
 (.ret (.tup (.cons xnxasksk3_ (.cons (.err xnxasksk26_) .nil))))
 (.need (an_ (le_ (.lit 0) v6_) (le_ v6_ (.lit 4294967295)))
 (.need (an_ (le_ (.lit 0) v7_) (le_ v7_ (.lit 4294967295)))
 (.need (an_ xnxasksk13_ (an_ (an_ (le_ lm_ xnxasksk6_) (le_ xnxasksk6_ lM_)) (an_ (an_ (le_ lm_ xnxasksk5_) (le_ xnxasksk5_ lM_)) (an_ xnxasksk19_ (an_ (le_ lm_ xnxasksk18_) (le_ xnxasksk18_ lM_))))))
 (.br (.not (eq_ (.iapp 33 (.cons (.int .i64 (.var 16)) (.cons (.int .i64 xnxasksk6_) (.cons (.int .i64 xnxasksk5_) (.cons (.int .i64 (.var 17)) (.cons (.int .i64 xnxasksk18_) .nil)))))) (.lit 0)))
 (.ret (.tup (.cons xnxasksk3_ (.cons (.iface 142 (.int .i64 (.lit 2))) .nil))))
 (.ret (.tup (.cons (.agg (.cons (.int .i64 (.var 16)) (.cons (.int .i64 xnxasksk6_) (.cons (.int .i64 xnxasksk5_) (.cons (.int .i64 (.var 17)) (.cons (.int .i64 xnxasksk18_) .nil)))))) (.cons (.cst .nilI) .nil))))))))))))))))))))
abbrev nxc_ofA : Con := ⟨65, [xnxasksk4_, (.int .i64 (.var 16)), (.int .i64 (.var 17))], xnxasksk16_, (.tup (.cons xnxasksk11_ (.cons (.err xnxasksk0_) .nil))), ⟨18, 0, 0, 0⟩, none⟩
theorem ofA_w : walk Tryd.prog 142 ⟨[ntc_check, nvc_stampA, nvc_nearA, ntc_short, ntc_scheck], syG, [], [], []⟩ [] .v nxc_ofA nxc_ofA.n 3000 = some ofA_tree := by kernel_rfl
set_option maxHeartbeats 4000000 in
theorem ofA_h (le ve mo su po pr dl sp n0 n1 n2 n3 se ak ca sn aq go : Int) : Hyp_ nxc_ofA ofA_tree (nxE [le, ve, mo, su, po, pr, dl, sp, n0, n1, n2, n3, se, ak, ca, sn, aq, go] [] [] []) := by
 intro hc hty
 simp only [nxc_ofA, Sy.holds, nxE, denV, denI, denB, denL, I2.den, VOp.den, List.getD_cons_zero, List.getD_cons_succ, Cst.den, syso, syse, syio, sybo, B2.ofInts, B2.denI, B2.denB, if_true, Bool.false_eq_true, if_false, Nat.div_one, Nat.mul_one, Nat.add_zero] at hc
 simp only [nxc_ofA, patsTyp, patTyp, patTypL, nxE, denV, denL, List.getD_cons_zero, List.getD_cons_succ, and_true, true_and] at hty
 unfold ofA_tree
 simp only [nxc_ofA, Tree.holds, Sy.holds, nxE, denV, denI, denB, denL, I2.den, VOp.den, List.getD_cons_zero, List.getD_cons_succ, Cst.den, syso, syse, syio, sybo, nxi_stv, nxi_nr, nxi_sh, nxi_ck, nxi_sce, nxi_gd, nxi_tpe, nxi_nre, nxi_same, nxi_er, nxi_of, B2.ofInts, B2.denI, B2.denB, if_true, Bool.false_eq_true, if_false, Nat.div_one, Nat.mul_one, Nat.add_zero]
 have hk := ck_spec le ve mo
 have hs := sa_spec ak (stV aq)
 have hy := sy_spec le su
 have hz := st_rng aq
 have hr := er_rng hc.2.2.2.2.1.1 hc.2.2.2.2.1.2 hc.2.2.2.2.2.1.1 hc.2.2.2.2.2.1.2
 have w1 := wr_i64 (shI dl + 1)
 have w2 : IntKind.wrap .i64 (shI dl + 1) = shI dl + 1 := by omega
 try simp only [w2]
 have e1 : (shI dl + 1).tdiv 2 = (shI dl + 1) / 2 := Int.tdiv_eq_ediv_of_nonneg (by omega)
 try simp only [e1]
 have w3 := wr_i64 ((shI dl + 1) / 2)
 have w4 := wr_i64 ((shI dl + 1) / 2 + shI sp)
 have w5 := wr_i64 ((shI dl + 1) / 2 + shI sp + 2)
 have w6 : IntKind.wrap .i64 ((shI dl + 1) / 2) = (shI dl + 1) / 2 := by omega
 have w7 : IntKind.wrap .i64 ((shI dl + 1) / 2 + shI sp) = (shI dl + 1) / 2 + shI sp := by omega
 have w8 : IntKind.wrap .i64 ((shI dl + 1) / 2 + shI sp + 2) = erI dl sp := by (unfold erI; omega)
 try simp only [w6, w7, w8]
 have hO := of_spec (ckE le ve mo) mo (tpE aq) (saE ak (stV aq)) le su (nrE ca go) (nrE sn go) (scE aq (nrN ca go) (nrN sn go) go (erI dl sp))
 obtain ⟨E, hE⟩ : ∃ x, ofE (ckE le ve mo) mo (tpE aq) (saE ak (stV aq)) le su (nrE ca go) (nrE sn go) (scE aq (nrN ca go) (nrN sn go) go (erI dl sp)) = x := ⟨_, rfl⟩
 simp only [hE] at hO ⊢
 refine ⟨fun h0 => ?_, fun h0 => ?_⟩
 refine ?a0; rotate_left
 refine ⟨fun h1 => ?_, fun h1 => ?_⟩
 refine ?a1; rotate_left
 refine ⟨?_, fun h2 => ?_⟩
 refine ?a2; rotate_left
 refine ⟨fun h3 => ?_, fun h3 => ?_⟩
 refine ?a3; rotate_left
 refine ⟨fun h4 => ?_, fun h4 => ?_⟩
 refine ?a4; rotate_left
 refine ⟨fun h5 => ?_, fun h5 => ?_⟩
 refine ?a5; rotate_left
 refine ⟨fun h6 => ?_, fun h6 => ?_⟩
 refine ?a6; rotate_left
 refine ⟨fun h7 => ?_, fun h7 => ?_⟩
 refine ?a7; rotate_left
 refine ⟨?_, fun h8 => ?_⟩
 refine ?a8; rotate_left
 refine ⟨fun h9 => ?_, fun h9 => ?_⟩
 refine ?a9; rotate_left
 refine ⟨?_, fun h10 => ?_⟩
 refine ?a10; rotate_left
 refine ⟨fun h11 => ?_, fun h11 => ?_⟩
 refine ?a11; rotate_left
 refine ⟨?_, fun h12 => ?_⟩
 refine ?a12; rotate_left
 refine ⟨?_, fun h13 => ?_⟩
 refine ?a13; rotate_left
 refine ⟨?_, fun h14 => ?_⟩
 refine ?a14; rotate_left
 refine ⟨fun h15 => ?_, fun h15 => ?_⟩
 refine ?a15; rotate_left
 refine ?a16; rotate_left
 case a0 | a1 | a3 | a4 | a5 | a6 | a7 | a9 | a11 | a15 | a16 =>
  first
  | (exfalso; omega)
  | (have q : E = 1 := by omega
     simp only [gn_n (show ¬ E = 0 by omega)]; simp only [q]
     first | done | rfl)
  | (have q : E = 19 := by omega
     simp only [gn_n (show ¬ E = 0 by omega)]; simp only [q]
     first | done | rfl)
  | (have q : E = 13 := by omega
     simp only [gn_n (show ¬ E = 0 by omega)]; simp only [q]
     first | done | rfl)
  | (have q : E = tpE aq := by omega
     simp only [gn_n (show ¬ E = 0 by omega)]; simp only [q]
     first | done | rfl)
  | (have q : E = nrE ca go := by omega
     simp only [gn_n (show ¬ E = 0 by omega)]; simp only [q]
     first | done | rfl)
  | (have q : E = nrE sn go := by omega
     simp only [gn_n (show ¬ E = 0 by omega)]; simp only [q]
     first | done | rfl)
  | (have qa : tpE aq = 0 := by omega
     try simp only [gn_y qa] at *
     first
     | (exfalso; omega)
     | (have q : E = 1 := by omega
        simp only [gn_n (show ¬ E = 0 by omega)]; simp only [q]
        first | done | rfl)
     | (have q : E = 19 := by omega
        simp only [gn_n (show ¬ E = 0 by omega)]; simp only [q]
        first | done | rfl)
     | (have q : E = 13 := by omega
        simp only [gn_n (show ¬ E = 0 by omega)]; simp only [q]
        first | done | rfl)
     | (have q : E = tpE aq := by omega
        simp only [gn_n (show ¬ E = 0 by omega)]; simp only [q]
        first | done | rfl)
     | (have q : E = nrE ca go := by omega
        simp only [gn_n (show ¬ E = 0 by omega)]; simp only [q]
        first | done | rfl)
     | (have q : E = nrE sn go := by omega
        simp only [gn_n (show ¬ E = 0 by omega)]; simp only [q]
        first | done | rfl)
     | (have qc : nrE ca go = 0 := by omega
        have qs : nrE sn go = 0 := by omega
        try simp only [gn_y qc, gn_y qs] at *
        first
        | (exfalso; omega)
        | (have q : E = 0 := by omega
           simp only [gn_y q]
           try simp only [q]
           first | done | rfl)
        | (have q : E = 2 := by omega
           simp only [gn_n (show ¬ E = 0 by omega)]; simp only [q]
           first | done | rfl)))
  | skip
 case a2 | a8 | a10 | a12 | a13 | a14 =>
  first
  | exact True.intro
  | omega
  | (have qa : tpE aq = 0 := by omega
     simp only [gn_y qa]
     omega)
  | (have qc : nrE ca go = 0 := by omega
     have qs : nrE sn go = 0 := by omega
     simp only [gn_y qc, gn_y qs]
     have n1 := nr_spec ca go
     have n2 := nr_spec sn go
     have t1 := tp_spec (nrN ca go)
     have t2 := tp_spec (nrN sn go)
     unfold erI
     omega)
  | skip
theorem nxg_ofA : nxc_ofA.Good Tryd.prog syG (nxE [] [] [] []) := good_of_walk (Γ := ⟨[ntc_check, nvc_stampA, nvc_nearA, ntc_short, ntc_scheck], syG, [], [], []⟩) (ρ := nxE [] [] [] []) sym ofA_w rfl (fun _ _ _ _ => (ok_cons (Con.Good.env (Con.Good.up (Con.Good.up (Con.Good.up ntg_check nuup rfl) nvup rfl) nxup rfl) _ _ _ _) (ok_cons (Con.Good.env (Con.Good.up nvg_stampA nxup rfl) _ _ _ _) (ok_cons (Con.Good.env (Con.Good.up nvg_nearA nxup rfl) _ _ _ _) (ok_cons (Con.Good.env (Con.Good.up (Con.Good.up (Con.Good.up ntg_short nuup rfl) nvup rfl) nxup rfl) _ _ _ _) (ok_cons (Con.Good.env (Con.Good.up (Con.Good.up (Con.Good.up ntg_scheck nuup rfl) nvup rfl) nxup rfl) _ _ _ _) ok_nil)))))) ofA_h
def rofA_tree : Tree :=
 (.br (.not xnxasksk21_)
 (.ret (.tup (.cons xnxasksk3_ (.cons (.int .i64 (.lit 1)) .nil))))
 (.br (.not (eq_ v2_ (.lit 4)))
 (.ret (.tup (.cons xnxasksk3_ (.cons (.int .i64 (.lit 1)) .nil))))
 (.need xnxasksk13_
 (.br (.not (eq_ xnxasksk25_ (.lit 0)))
 (.ret (.tup (.cons xnxasksk3_ (.cons (.int .i64 xnxasksk25_) .nil))))
 (.br (.not (eq_ (.var 13) xnxasksk9_))
 (.ret (.tup (.cons xnxasksk3_ (.cons (.int .i64 (.lit 19)) .nil))))
 (.br (eq_ v0_ (.lit 3))
 (.ret (.tup (.cons xnxasksk3_ (.cons (.int .i64 (.lit 13)) .nil))))
 (.br (lt_ v3_ (.lit 1))
 (.ret (.tup (.cons xnxasksk3_ (.cons (.int .i64 (.lit 13)) .nil))))
 (.br (lt_ (.lit 15) v3_)
 (.ret (.tup (.cons xnxasksk3_ (.cons (.int .i64 (.lit 13)) .nil))))
 (.need (an_ (an_ (le_ (.lit 0) (.var 14)) (le_ (.var 14) (.lit 18446744073709551615))) xnxasksk19_)
 (.br (.not (eq_ xnxasksk27_ (.lit 0)))
 (.ret (.tup (.cons xnxasksk3_ (.cons (.int .i64 xnxasksk27_) .nil))))
 (.need (an_ xnxasksk10_ xnxasksk19_)
 (.br (.not (eq_ xnxasksk26_ (.lit 0)))
 (.ret (.tup (.cons xnxasksk3_ (.cons (.int .i64 xnxasksk26_) .nil))))
 (.need (an_ (le_ (.lit 0) v6_) (le_ v6_ (.lit 4294967295)))
 (.need (an_ (le_ (.lit 0) v7_) (le_ v7_ (.lit 4294967295)))
 (.need (an_ xnxasksk13_ (an_ (an_ (le_ lm_ xnxasksk6_) (le_ xnxasksk6_ lM_)) (an_ (an_ (le_ lm_ xnxasksk5_) (le_ xnxasksk5_ lM_)) (an_ xnxasksk19_ (an_ (le_ lm_ xnxasksk12_) (le_ xnxasksk12_ lM_))))))
 (.br (.not (eq_ (.iapp 33 (.cons (.int .i64 (.var 16)) (.cons (.int .i64 xnxasksk6_) (.cons (.int .i64 xnxasksk5_) (.cons (.int .i64 (.var 17)) (.cons (.int .i64 xnxasksk12_) .nil)))))) (.lit 0)))
 (.ret (.tup (.cons xnxasksk3_ (.cons (.int .i64 (.lit 2)) .nil))))
 (.ret (.tup (.cons (.agg (.cons (.int .i64 (.var 16)) (.cons (.int .i64 xnxasksk6_) (.cons (.int .i64 xnxasksk5_) (.cons (.int .i64 (.var 17)) (.cons (.int .i64 xnxasksk12_) .nil)))))) (.cons (.int .i64 (.lit 0)) .nil))))))))))))))))))))
abbrev nxc_rofA : Con := ⟨66, [xnxasksk4_, (.int .i64 (.var 16)), (.int .i64 (.var 17))], xnxasksk16_, (.tup (.cons xnxasksk11_ (.cons (.int .i64 xnxasksk0_) .nil))), ⟨18, 0, 0, 0⟩, none⟩
theorem rofA_w : walk Tryd.prog 142 ⟨[nxc_rmay, nvc_rstampA, nvc_rnearA, nxc_rshort, nxc_rsmay], syG, [], [], []⟩ [] .v nxc_rofA nxc_rofA.n 3000 = some rofA_tree := by kernel_rfl
set_option maxHeartbeats 4000000 in
theorem rofA_h (le ve mo su po pr dl sp n0 n1 n2 n3 se ak ca sn aq go : Int) : Hyp_ nxc_rofA rofA_tree (nxE [le, ve, mo, su, po, pr, dl, sp, n0, n1, n2, n3, se, ak, ca, sn, aq, go] [] [] []) := by
 intro hc hty
 simp only [nxc_rofA, Sy.holds, nxE, denV, denI, denB, denL, I2.den, VOp.den, List.getD_cons_zero, List.getD_cons_succ, Cst.den, syso, syse, syio, sybo, B2.ofInts, B2.denI, B2.denB, if_true, Bool.false_eq_true, if_false, Nat.div_one, Nat.mul_one, Nat.add_zero] at hc
 simp only [nxc_rofA, patsTyp, patTyp, patTypL, nxE, denV, denL, List.getD_cons_zero, List.getD_cons_succ, and_true, true_and] at hty
 unfold rofA_tree
 simp only [nxc_rofA, Tree.holds, Sy.holds, nxE, denV, denI, denB, denL, I2.den, VOp.den, List.getD_cons_zero, List.getD_cons_succ, Cst.den, syso, syse, syio, sybo, nxi_stv, nxi_nr, nxi_sh, nxi_ck, nxi_sce, nxi_gd, nxi_tpe, nxi_nre, nxi_same, nxi_er, nxi_of, B2.ofInts, B2.denI, B2.denB, if_true, Bool.false_eq_true, if_false, Nat.div_one, Nat.mul_one, Nat.add_zero]
 have hk := ck_spec le ve mo
 have hs := sa_spec ak (stV aq)
 have hy := sy_spec le su
 have hz := st_rng aq
 have hr := er_rng hc.2.2.2.2.1.1 hc.2.2.2.2.1.2 hc.2.2.2.2.2.1.1 hc.2.2.2.2.2.1.2
 have w1 := wr_i64 (shI dl + 1)
 have w2 : IntKind.wrap .i64 (shI dl + 1) = shI dl + 1 := by omega
 try simp only [w2]
 have e1 : (shI dl + 1).tdiv 2 = (shI dl + 1) / 2 := Int.tdiv_eq_ediv_of_nonneg (by omega)
 try simp only [e1]
 have w3 := wr_i64 ((shI dl + 1) / 2)
 have w4 := wr_i64 ((shI dl + 1) / 2 + shI sp)
 have w5 := wr_i64 ((shI dl + 1) / 2 + shI sp + 2)
 have w6 : IntKind.wrap .i64 ((shI dl + 1) / 2) = (shI dl + 1) / 2 := by omega
 have w7 : IntKind.wrap .i64 ((shI dl + 1) / 2 + shI sp) = (shI dl + 1) / 2 + shI sp := by omega
 have w8 : IntKind.wrap .i64 ((shI dl + 1) / 2 + shI sp + 2) = erI dl sp := by (unfold erI; omega)
 try simp only [w6, w7, w8]
 have r1 : (shI dl).tdiv 2 = shI dl / 2 := Int.tdiv_eq_ediv_of_nonneg (by omega)
 have r2 : (shI dl).tmod 2 = shI dl % 2 := Int.tmod_eq_emod_of_nonneg (by omega)
 have r3 : IntKind.wrap .i64 (shI dl / 2) = shI dl / 2 := by have := wr_i64 (shI dl / 2); omega
 have r4 : IntKind.wrap .i64 (shI dl / 2 + shI dl % 2) = shI dl / 2 + shI dl % 2 := by have := wr_i64 (shI dl / 2 + shI dl % 2); omega
 have r5 : IntKind.wrap .i64 (shI dl / 2 + shI dl % 2 + shI sp) = shI dl / 2 + shI dl % 2 + shI sp := by have := wr_i64 (shI dl / 2 + shI dl % 2 + shI sp); omega
 have r6 : IntKind.wrap .i64 (shI dl / 2 + shI dl % 2 + shI sp + 2) = erI dl sp := by (have := wr_i64 (shI dl / 2 + shI dl % 2 + shI sp + 2); unfold erI; omega)
 try simp only [r1, r2, r3, r4, r5, r6]
 clear r1 r2 r3 r4 r5 r6
 have hO := of_spec (ckE le ve mo) mo (tpE aq) (saE ak (stV aq)) le su (nrE ca go) (nrE sn go) (scE aq (nrN ca go) (nrN sn go) go (erI dl sp))
 obtain ⟨E, hE⟩ : ∃ x, ofE (ckE le ve mo) mo (tpE aq) (saE ak (stV aq)) le su (nrE ca go) (nrE sn go) (scE aq (nrN ca go) (nrN sn go) go (erI dl sp)) = x := ⟨_, rfl⟩
 simp only [hE] at hO ⊢
 refine ⟨fun h0 => ?_, fun h0 => ?_⟩
 refine ?a0; rotate_left
 refine ⟨fun h1 => ?_, fun h1 => ?_⟩
 refine ?a1; rotate_left
 refine ⟨?_, fun h2 => ?_⟩
 refine ?a2; rotate_left
 refine ⟨fun h3 => ?_, fun h3 => ?_⟩
 refine ?a3; rotate_left
 refine ⟨fun h4 => ?_, fun h4 => ?_⟩
 refine ?a4; rotate_left
 refine ⟨fun h5 => ?_, fun h5 => ?_⟩
 refine ?a5; rotate_left
 refine ⟨fun h6 => ?_, fun h6 => ?_⟩
 refine ?a6; rotate_left
 refine ⟨fun h7 => ?_, fun h7 => ?_⟩
 refine ?a7; rotate_left
 refine ⟨?_, fun h8 => ?_⟩
 refine ?a8; rotate_left
 refine ⟨fun h9 => ?_, fun h9 => ?_⟩
 refine ?a9; rotate_left
 refine ⟨?_, fun h10 => ?_⟩
 refine ?a10; rotate_left
 refine ⟨fun h11 => ?_, fun h11 => ?_⟩
 refine ?a11; rotate_left
 refine ⟨?_, fun h12 => ?_⟩
 refine ?a12; rotate_left
 refine ⟨?_, fun h13 => ?_⟩
 refine ?a13; rotate_left
 refine ⟨?_, fun h14 => ?_⟩
 refine ?a14; rotate_left
 refine ⟨fun h15 => ?_, fun h15 => ?_⟩
 refine ?a15; rotate_left
 refine ?a16; rotate_left
 case a0 | a1 | a3 | a4 | a5 | a6 | a7 | a9 | a11 | a15 | a16 =>
  first
  | (exfalso; omega)
  | (have q : E = 1 := by omega
     simp only [gn_n (show ¬ E = 0 by omega)]; simp only [q]
     first | done | rfl)
  | (have q : E = 19 := by omega
     simp only [gn_n (show ¬ E = 0 by omega)]; simp only [q]
     first | done | rfl)
  | (have q : E = 13 := by omega
     simp only [gn_n (show ¬ E = 0 by omega)]; simp only [q]
     first | done | rfl)
  | (have q : E = tpE aq := by omega
     simp only [gn_n (show ¬ E = 0 by omega)]; simp only [q]
     first | done | rfl)
  | (have q : E = nrE ca go := by omega
     simp only [gn_n (show ¬ E = 0 by omega)]; simp only [q]
     first | done | rfl)
  | (have q : E = nrE sn go := by omega
     simp only [gn_n (show ¬ E = 0 by omega)]; simp only [q]
     first | done | rfl)
  | (have qa : tpE aq = 0 := by omega
     try simp only [gn_y qa] at *
     first
     | (exfalso; omega)
     | (have q : E = 1 := by omega
        simp only [gn_n (show ¬ E = 0 by omega)]; simp only [q]
        first | done | rfl)
     | (have q : E = 19 := by omega
        simp only [gn_n (show ¬ E = 0 by omega)]; simp only [q]
        first | done | rfl)
     | (have q : E = 13 := by omega
        simp only [gn_n (show ¬ E = 0 by omega)]; simp only [q]
        first | done | rfl)
     | (have q : E = tpE aq := by omega
        simp only [gn_n (show ¬ E = 0 by omega)]; simp only [q]
        first | done | rfl)
     | (have q : E = nrE ca go := by omega
        simp only [gn_n (show ¬ E = 0 by omega)]; simp only [q]
        first | done | rfl)
     | (have q : E = nrE sn go := by omega
        simp only [gn_n (show ¬ E = 0 by omega)]; simp only [q]
        first | done | rfl)
     | (have qc : nrE ca go = 0 := by omega
        have qs : nrE sn go = 0 := by omega
        try simp only [gn_y qc, gn_y qs] at *
        first
        | (exfalso; omega)
        | (have q : E = 0 := by omega
           simp only [gn_y q]
           try simp only [q]
           first | done | rfl)
        | (have q : E = 2 := by omega
           simp only [gn_n (show ¬ E = 0 by omega)]; simp only [q]
           first | done | rfl)))
  | skip
 case a2 | a8 | a10 | a12 | a13 | a14 =>
  first
  | exact True.intro
  | omega
  | (have qa : tpE aq = 0 := by omega
     simp only [gn_y qa]
     omega)
  | (have qc : nrE ca go = 0 := by omega
     have qs : nrE sn go = 0 := by omega
     simp only [gn_y qc, gn_y qs]
     have n1 := nr_spec ca go
     have n2 := nr_spec sn go
     have t1 := tp_spec (nrN ca go)
     have t2 := tp_spec (nrN sn go)
     unfold erI
     omega)
  | skip
theorem nxg_rofA : nxc_rofA.Good Tryd.prog syG (nxE [] [] [] []) := good_of_walk (Γ := ⟨[nxc_rmay, nvc_rstampA, nvc_rnearA, nxc_rshort, nxc_rsmay], syG, [], [], []⟩) (ρ := nxE [] [] [] []) sym rofA_w rfl (fun _ _ _ _ => (ok_cons (Con.Good.env nxg_rmay _ _ _ _) (ok_cons (Con.Good.env (Con.Good.up nvg_rstampA nxup rfl) _ _ _ _) (ok_cons (Con.Good.env (Con.Good.up nvg_rnearA nxup rfl) _ _ _ _) (ok_cons (Con.Good.env nxg_rshort _ _ _ _) (ok_cons (Con.Good.env nxg_rsmay _ _ _ _) ok_nil)))))) rofA_h
def wAsks_tree : Tree :=
 (.need xnxasksk13_
 (.need xnxasksk13_
 (.need xnxasksk22_
 (.need xnxasksk22_
 (.need xnxasksk15_
 (.need xnxasksk15_
 (.ret (.bool (.tt true)))))))))
abbrev nxc_wAsks : Con := ⟨9, [xnxasksk4_, (.agg (.cons (.int .i64 (.var 16)) (.cons (.int .i64 (.var 17)) (.cons (.int .i64 (.var 18)) .nil)))), (.int .i64 (.var 19))], (an_ (an_ (le_ (.lit 0) v0_) (le_ v0_ (.lit 255))) (an_ (an_ (le_ (.lit 0) v1_) (le_ v1_ (.lit 255))) (an_ (an_ (le_ (.lit 0) v2_) (le_ v2_ (.lit 255))) (an_ (an_ (le_ (.lit 0) v3_) (le_ v3_ (.lit 255))) (an_ (an_ (le_ (.lit 0) v6_) (le_ v6_ (.lit 4294967295))) (an_ (an_ (le_ (.lit 0) v7_) (le_ v7_ (.lit 4294967295))) (an_ (an_ (le_ (.lit 0) (.var 12)) (le_ (.var 12) (.lit 18446744073709551615))) (an_ (an_ (le_ (.lit 0) (.var 13)) (le_ (.var 13) (.lit 18446744073709551615))) (an_ (an_ (le_ (.lit 0) (.var 14)) (le_ (.var 14) (.lit 18446744073709551615))) (an_ xnxasksk10_ (an_ xnxasksk13_ (an_ xnxasksk19_ (an_ (an_ (le_ lm_ (.var 18)) (le_ (.var 18) lM_)) (an_ (le_ lm_ (.var 19)) (le_ (.var 19) lM_))))))))))))))), (.bool (.tt true)), ⟨20, 0, 0, 0⟩, none⟩
theorem wAsks_w : walk Tryd.prog 142 ⟨[nxc_askA, nxc_raskA, nxc_answerA, nxc_ranswer, nxc_ofA, nxc_rofA, ntc_num, nuc_sure41], syG, [], [], []⟩ [] .v nxc_wAsks nxc_wAsks.n 3000 = some wAsks_tree := by kernel_rfl
theorem wAsks_h (le ve mo su po pr dl sp n0 n1 n2 n3 se ak ca sn o0 o1 o2 er : Int) : Hyp_ nxc_wAsks wAsks_tree (nxE [le, ve, mo, su, po, pr, dl, sp, n0, n1, n2, n3, se, ak, ca, sn, o0, o1, o2, er] [] [] []) := by
 intro hc hty
 simp only [nxc_wAsks, Sy.holds, nxE, denV, denI, denB, denL, I2.den, VOp.den, List.getD_cons_zero, List.getD_cons_succ, Cst.den, syso, syse, syio, sybo, B2.ofInts, B2.denI, B2.denB, if_true, Bool.false_eq_true, if_false, Nat.div_one, Nat.mul_one, Nat.add_zero] at hc
 simp only [nxc_wAsks, patsTyp, patTyp, patTypL, nxE, denV, denL, List.getD_cons_zero, List.getD_cons_succ, and_true, true_and] at hty
 unfold wAsks_tree
 simp only [nxc_wAsks, Tree.holds, Sy.holds, nxE, denV, denI, denB, denL, I2.den, VOp.den, List.getD_cons_zero, List.getD_cons_succ, Cst.den, syso, syse, syio, sybo, B2.ofInts, B2.denI, B2.denB, if_true, Bool.false_eq_true, if_false, Nat.div_one, Nat.mul_one, Nat.add_zero]
 refine ⟨?_, fun h0 => ?_⟩
 refine ?a0; rotate_left
 refine ⟨?_, fun h1 => ?_⟩
 refine ?a1; rotate_left
 refine ⟨?_, fun h2 => ?_⟩
 refine ?a2; rotate_left
 refine ⟨?_, fun h3 => ?_⟩
 refine ?a3; rotate_left
 refine ⟨?_, fun h4 => ?_⟩
 refine ?a4; rotate_left
 refine ⟨?_, fun h5 => ?_⟩
 refine ?a5; rotate_left
 ·
  first
  | exact True.intro
  | rfl
  | (exfalso; omega)
  | exact absurd True.intro (by assumption)
  | (exfalso; simp only [not_true_eq_false] at *; done)
  | skip
 case a0 | a1 | a2 | a3 | a4 | a5 =>
  first
  | exact True.intro
  | omega
  | skip
theorem nxg_wAsks : nxc_wAsks.Good Tryd.prog syG (nxE [] [] [] []) := good_of_walk (Γ := ⟨[nxc_askA, nxc_raskA, nxc_answerA, nxc_ranswer, nxc_ofA, nxc_rofA, ntc_num, nuc_sure41], syG, [], [], []⟩) (ρ := nxE [] [] [] []) sym wAsks_w rfl (fun _ _ _ _ => (ok_cons (Con.Good.env nxg_askA _ _ _ _) (ok_cons (Con.Good.env nxg_raskA _ _ _ _) (ok_cons (Con.Good.env nxg_answerA _ _ _ _) (ok_cons (Con.Good.env nxg_ranswer _ _ _ _) (ok_cons (Con.Good.env nxg_ofA _ _ _ _) (ok_cons (Con.Good.env nxg_rofA _ _ _ _) (ok_cons (Con.Good.env (Con.Good.up (Con.Good.up (Con.Good.up ntg_num nuup rfl) nvup rfl) nxup rfl) _ _ _ _) (ok_cons (Con.Good.env (Con.Good.up (Con.Good.up nug_sure41 nvup rfl) nxup rfl) _ _ _ _) ok_nil))))))))) wAsks_h
end Go.Proofs.YtgondiedehjkhaaDoor
