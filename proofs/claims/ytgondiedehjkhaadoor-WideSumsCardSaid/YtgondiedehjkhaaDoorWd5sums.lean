/-
 Layer 2 by the second engine: WideSums, a part.
-/
import Derived.Test.YtgondiedehjkhaaDoorSycsums
import Derived.Test.YtgondiedehjkhaaDoorWbsums
import Derived.Test.YtgondiedehjkhaaDoorMathsums
import Derived.Test.YtgondiedehjkhaaDoorNumsums
import Derived.IntWalk
namespace Go.Proofs.YtgondiedehjkhaaDoor
open Go.RowKit Go.Extern.Stop Go.Stop Go.Extern Go.Proofs.YtgondiedehjkhaaDoor.Sy
set_option linter.unusedVariables false
set_option linter.unusedSimpArgs false
abbrev xd5k0_ : Tm := (.iapp 3 (.cons z0_ (.cons z1_ .nil)))
abbrev xd5k5_ : Tm := (an_ (le_ (.lit (-1569275433846670190958947355801916604025588861116008628224)) xd5k0_) (le_ xd5k0_ (.lit 1569275433846670190958947355801916604025588861116008628224)))
abbrev xd5k8_ : Tm := (.iapp 3 (.cons z2_ (.cons z3_ .nil)))
abbrev xd5k1_ : Tm := (an_ xd5k5_ (an_ (le_ (.lit (-1569275433846670190958947355801916604025588861116008628224)) xd5k8_) (le_ xd5k8_ (.lit 1569275433846670190958947355801916604025588861116008628224))))
abbrev xd5k16_ : Tm := (an_ (le_ lm_ v4_) (le_ v4_ lM_))
abbrev xd5k18_ : Tm := (an_ (le_ lm_ v5_) (le_ v5_ lM_))
abbrev xd5k10_ : Tm := (an_ (an_ (an_ (le_ lm_ v0_) (le_ v0_ lM_)) (an_ (an_ (le_ (.lit 0) v1_) (le_ v1_ (.lit 18446744073709551615))) (an_ (an_ (le_ lm_ v2_) (le_ v2_ lM_)) (an_ (an_ (le_ (.lit 0) v3_) (le_ v3_ (.lit 18446744073709551615))) (an_ xd5k16_ xd5k18_))))) (.not (.bapp 0 (.cons (.int .i64 xd5k0_) .nil))))
abbrev xd5k17_ : Tm := (eq_ (.iapp 6 (.cons (.int .i64 (ad_ xd5k0_ xd5k8_)) .nil)) (.lit 0))
abbrev xd5k19_ : Tm := (.iapp 6 (.cons (.int .i64 (sb_ (.lit 0) xd5k0_)) .nil))
abbrev xd5k2_ : Tm := (an_ (an_ (an_ (an_ xd5k10_ xd5k17_) (.not (eq_ xd5k19_ (.lit 0)))) (eq_ xd5k19_ (.lit 2))) (an_ (eq_ (.iapp 8 (.cons (.int .i64 xd5k19_) (.cons (.int .i64 (.iapp 4 (.cons (.int .i64 (sb_ (.lit 0) xd5k0_)) .nil))) .nil))) (.lit 0)) (eq_ (.iapp 8 (.cons (.int .i64 xd5k19_) (.cons (.int .i64 (.iapp 5 (.cons (.int .i64 (sb_ (.lit 0) xd5k0_)) .nil))) .nil))) (.lit 0))))
abbrev xd5k3_ : Tm := (an_ (le_ (.lit (-1569275433846670190958947355801916604025588861116008628224)) (ad_ xd5k0_ xd5k8_)) (le_ (ad_ xd5k0_ xd5k8_) (.lit 1569275433846670190958947355801916604025588861116008628224)))
abbrev xd5k15_ : Tm := (an_ (an_ (le_ lm_ v2_) (le_ v2_ lM_)) (an_ (le_ (.lit 0) v3_) (le_ v3_ (.lit 18446744073709551615))))
abbrev xd5k4_ : Tm := (an_ (an_ (le_ lm_ v0_) (le_ v0_ lM_)) (an_ (an_ (le_ (.lit 0) v1_) (le_ v1_ (.lit 18446744073709551615))) xd5k15_))
abbrev xd5k6_ : Tm := (an_ (an_ (le_ lm_ v0_) (le_ v0_ lM_)) (an_ (le_ (.lit 0) v1_) (le_ v1_ (.lit 18446744073709551615))))
abbrev xd5k7_ : Tm := (.not (an_ (eq_ (.iapp 8 (.cons (.int .i64 xd5k19_) (.cons (.int .i64 (.iapp 4 (.cons (.int .i64 (sb_ (.lit 0) xd5k0_)) .nil))) .nil))) (.lit 0)) (eq_ (.iapp 8 (.cons (.int .i64 xd5k19_) (.cons (.int .i64 (.iapp 5 (.cons (.int .i64 (sb_ (.lit 0) xd5k0_)) .nil))) .nil))) (.lit 0))))
abbrev xd5k9_ : Tm := (an_ (eq_ (.iapp 6 (.cons (.int .i64 (ml_ v4_ v5_)) .nil)) (.lit 0)) (an_ (le_ (.lit (-1569275433846670190958947355801916604025588861116008628224)) (ml_ v4_ v5_)) (le_ (ml_ v4_ v5_) (.lit 1569275433846670190958947355801916604025588861116008628224))))
abbrev xd5k11_ : Tm := (an_ (eq_ (.iapp 6 (.cons z4_ .nil)) (.lit 0)) (an_ (le_ (.lit (-1569275433846670190958947355801916604025588861116008628224)) v4_) (le_ v4_ (.lit 1569275433846670190958947355801916604025588861116008628224))))
abbrev xd5k12_ : Tm := (an_ (eq_ (.iapp 8 (.cons (.int .i64 (.iapp 6 (.cons (.int .i64 (ad_ xd5k0_ xd5k8_)) .nil))) (.cons (.int .i64 (.iapp 4 (.cons (.int .i64 (ad_ xd5k0_ xd5k8_)) .nil))) .nil))) (.lit 0)) (eq_ (.iapp 8 (.cons (.int .i64 (.iapp 6 (.cons (.int .i64 (ad_ xd5k0_ xd5k8_)) .nil))) (.cons (.int .i64 (.iapp 5 (.cons (.int .i64 (ad_ xd5k0_ xd5k8_)) .nil))) .nil))) (.lit 0)))
abbrev xd5k13_ : Tm := (an_ (le_ (.lit 0) xd5k0_) (le_ xd5k0_ (.lit 1569275433846670190958947355801916604025588861116008628224)))
abbrev xd5k14_ : Tm := (an_ (le_ (.lit (-1569275433846670190958947355801916604025588861116008628224)) (sb_ xd5k0_ xd5k8_)) (le_ (sb_ xd5k0_ xd5k8_) (.lit 1569275433846670190958947355801916604025588861116008628224)))
abbrev xd5k20_ : Tm := (.agg (.cons z2_ (.cons (.int .u64 v3_) .nil)))
abbrev xd5k21_ : Tm := (.agg (.cons z0_ (.cons (.int .u64 v1_) .nil)))
abbrev xd5k22_ : Tm := (.iapp 7 (.cons (.int .i64 xd5k0_) .nil))
abbrev xd5k23_ : Tm := (.agg (.cons z4_ (.cons z5_ .nil)))
abbrev xd5k24_ : Tm := (.iapp 13 (.cons (.int .i64 (sb_ xd5k0_ xd5k8_)) .nil))
def wS45_tree : Tree :=
 (.need xd5k6_
 (.need xd5k15_
 (.need xd5k4_
 (.need xd5k6_
 (.need xd5k6_
 (.need xd5k1_
 (.need xd5k3_
 (.need xd5k5_
 (.need xd5k13_
 (.need xd5k5_
 (.need (an_ xd5k17_ xd5k3_)
 (.br xd5k7_
 (.ret (.bool (.tt false)))
 (.need xd5k1_
 (.need xd5k14_
 (.need xd5k4_
 (.br (eq_ xd5k24_ (.lit 1))
 (.need xd5k16_
 (.need xd5k16_
 (.need xd5k11_
 (.need (an_ xd5k16_ xd5k18_)
 (.need xd5k16_
 (.need xd5k18_
 (.need (an_ xd5k16_ xd5k18_)
 (.need xd5k9_
 (.ret (.bool (.tt true)))))))))))
 (.ret (.bool (.tt false)))))))))))))))))))
abbrev wbc_wS45 : Con := ⟨3, [xd5k21_, xd5k20_, xd5k23_], (an_ (an_ (an_ xd5k2_ (eq_ xd5k22_ (.lit 0))) (.not (eq_ (sb_ xd5k0_ xd5k8_) (.lit 0)))) (.not (.bapp 0 (.cons (.int .i64 (sb_ xd5k0_ xd5k8_)) .nil)))), (.bool (.tt true)), ⟨6, 0, 0, 0⟩, none⟩
theorem wS45_w : walkQ Tryd.prog 142 ⟨[wac_bfrom, wac_wadd, wac_wneg, wac_wint, wbc_baddN, wbc_baddM, wbc_btoN, wbc_btoF, wbc_btoT, wbc_bzeroN, wbc_bnumN, wac_num, wbc_lisO, wbc_lis2, wbc_lis3, wbc_lis4, wac_wcmp, wac_wof, wbc_bintO, wac_wmul, wbc_bmulO, wbc_sure], syG, [], [], []⟩ [] .v wbc_wS45 wbc_wS45.n 3000 (pcOf wbc_wS45.cnd) = some wS45_tree := by kernel_rfl
set_option maxHeartbeats 2000000 in
theorem wS45_h (xh xl yh yl o0 o1 : Int) : Hyp_ wbc_wS45 wS45_tree (wbE [xh, xl, yh, yl, o0, o1] [] [] []) := by
 intro hc hty
 simp only [wbc_wS45, Sy.holds, wbE, denV, denI, denB, denL, I2.den, VOp.den, List.getD_cons_zero, List.getD_cons_succ, Cst.den, syso, syse, syio, sybo, wbi_wv, wbi_wh, wbi_wl, wbi_rg, wbi_r6, wbi_gd, wbb_ng, B2.ofInts, B2.denI, B2.denB, if_true, Bool.false_eq_true, if_false, Nat.div_one, Nat.mul_one, Nat.add_zero] at hc
 simp only [wbc_wS45, patsTyp, patTyp, patTypL, wbE, denV, denL, List.getD_cons_zero, List.getD_cons_succ, and_true, true_and] at hty
 unfold wS45_tree
 simp only [wbc_wS45, Tree.holds, Sy.holds, wbE, denV, denI, denB, denL, I2.den, VOp.den, List.getD_cons_zero, List.getD_cons_succ, Cst.den, syso, syse, syio, sybo, wbi_wv, wbi_wh, wbi_wl, wbi_rg, wbi_gd, wbi_cp, B2.ofInts, B2.denI, B2.denB, if_true, Bool.false_eq_true, if_false, Nat.div_one, Nat.mul_one, Nat.add_zero]
 have hl := hc.1.1.1.1.1.1.1.1
 have ra := rg_spec (wvI xh xl + wvI yh yl)
 have rb := rg_spec (0 - wvI xh xl)
 have rc := r6_spec (wvI xh xl)
 have rd := cp_spec (wvI xh xl - wvI yh yl)
 have re := rg_spec (o0 * o1)
 have rf := rg_spec o0
 have x0 : wvI xh xl = xh * 18446744073709551616 + xl := rfl
 have y0 : wvI yh yl = yh * 18446744073709551616 + yl := rfl
 have hm := mul_rng (a := o0) (b := o1) hl.2.2.2.2.1 hl.2.2.2.2.2
 generalize wvI xh xl = X at *
 generalize wvI yh yl = Y at *
 generalize o0 * o1 = M at *
 refine ⟨?a0, fun h0 => ?_⟩; rotate_left
 refine ⟨?a1, fun h1 => ?_⟩; rotate_left
 refine ⟨?a2, fun h2 => ?_⟩; rotate_left
 refine ⟨?a3, fun h3 => ?_⟩; rotate_left
 refine ⟨?a4, fun h4 => ?_⟩; rotate_left
 refine ⟨?a5, fun h5 => ?_⟩; rotate_left
 refine ⟨?a6, fun h6 => ?_⟩; rotate_left
 refine ⟨?a7, fun h7 => ?_⟩; rotate_left
 refine ⟨?a8, fun h8 => ?_⟩; rotate_left
 refine ⟨?a9, fun h9 => ?_⟩; rotate_left
 refine ⟨?a10, fun h10 => ?_⟩; rotate_left
 refine ⟨fun h11 => ?_, fun h11 => ?_⟩
 refine ?a11; rotate_left
 refine ⟨?a12, fun h12 => ?_⟩; rotate_left
 refine ⟨?a13, fun h13 => ?_⟩; rotate_left
 refine ⟨?a14, fun h14 => ?_⟩; rotate_left
 refine ⟨fun h15 => ?_, fun h15 => ?_⟩
 refine ⟨?a15, fun h16 => ?_⟩; rotate_left
 refine ⟨?a16, fun h17 => ?_⟩; rotate_left
 refine ⟨?a17, fun h18 => ?_⟩; rotate_left
 refine ⟨?a18, fun h19 => ?_⟩; rotate_left
 refine ⟨?a19, fun h20 => ?_⟩; rotate_left
 refine ⟨?a20, fun h21 => ?_⟩; rotate_left
 refine ⟨?a21, fun h22 => ?_⟩; rotate_left
 refine ⟨?a22, fun h23 => ?_⟩; rotate_left
 refine ?a23; rotate_left
 refine ?a24; rotate_left
 case a0 | a1 | a2 | a3 | a4 | a5 | a6 | a7 | a8 | a9 | a10 | a12 | a13 | a14 | a15 | a16 | a17 | a18 | a19 | a20 | a21 | a22 =>
  as_aux_lemma =>
    first
    | exact True.intro
    | omega
    | (simp only [decide_eq_true_eq] at *; omega)
    | skip
 case a11 | a23 | a24 =>
  as_aux_lemma =>
    first
    | exact True.intro
    | rfl
    | (simp only [decide_eq_true_eq] at *; exfalso; omega)
    | (exfalso; omega)
    | (exfalso
       have g1 : gdF (rgE (0 - X)) ((0 - X) / 18446744073709551616) = 0 := gd_n (by omega) _
       have g2 : gdF (rgE (0 - X)) ((0 - X) % 18446744073709551616) = 0 := gd_n (by omega) _
       omega)
    | (exfalso
       have g1 : gdF (rgE (X + Y)) ((X + Y) / 18446744073709551616) = 0 := gd_n (by omega) _
       have g2 : gdF (rgE (X + Y)) ((X + Y) % 18446744073709551616) = 0 := gd_n (by omega) _
       omega)
    | (exfalso
       have g1 : gdF (r6E X) X = 0 := gd_n (by omega) _
       omega)
    | skip
theorem wbg_wS45 : wbc_wS45.Good Tryd.prog syG (wbE [] [] [] []) := good_of_walkC (Γ := ⟨[wac_bfrom, wac_wadd, wac_wneg, wac_wint, wbc_baddN, wbc_baddM, wbc_btoN, wbc_btoF, wbc_btoT, wbc_bzeroN, wbc_bnumN, wac_num, wbc_lisO, wbc_lis2, wbc_lis3, wbc_lis4, wac_wcmp, wac_wof, wbc_bintO, wac_wmul, wbc_bmulO, wbc_sure], syG, [], [], []⟩) (ρ := wbE [] [] [] []) sym wS45_w rfl (fun _ _ _ _ => (ok_cons (Con.Good.env (Con.Good.up wag_bfrom wbup rfl) _ _ _ _) (ok_cons (Con.Good.env (Con.Good.up wag_wadd wbup rfl) _ _ _ _) (ok_cons (Con.Good.env (Con.Good.up wag_wneg wbup rfl) _ _ _ _) (ok_cons (Con.Good.env (Con.Good.up wag_wint wbup rfl) _ _ _ _) (ok_cons (Con.Good.env wbg_baddN _ _ _ _) (ok_cons (Con.Good.env wbg_baddM _ _ _ _) (ok_cons (Con.Good.env wbg_btoN _ _ _ _) (ok_cons (Con.Good.env wbg_btoF _ _ _ _) (ok_cons (Con.Good.env wbg_btoT _ _ _ _) (ok_cons (Con.Good.env wbg_bzeroN _ _ _ _) (ok_cons (Con.Good.env wbg_bnumN _ _ _ _) (ok_cons (Con.Good.env (Con.Good.up wag_num wbup rfl) _ _ _ _) (ok_cons (Con.Good.env wbg_lisO _ _ _ _) (ok_cons (Con.Good.env wbg_lis2 _ _ _ _) (ok_cons (Con.Good.env wbg_lis3 _ _ _ _) (ok_cons (Con.Good.env wbg_lis4 _ _ _ _) (ok_cons (Con.Good.env (Con.Good.up wag_wcmp wbup rfl) _ _ _ _) (ok_cons (Con.Good.env (Con.Good.up wag_wof wbup rfl) _ _ _ _) (ok_cons (Con.Good.env wbg_bintO _ _ _ _) (ok_cons (Con.Good.env (Con.Good.up wag_wmul wbup rfl) _ _ _ _) (ok_cons (Con.Good.env wbg_bmulO _ _ _ _) (ok_cons (Con.Good.env wbg_sure _ _ _ _) ok_nil))))))))))))))))))))))) wS45_h
def wS46_tree : Tree :=
 (.need xd5k6_
 (.need xd5k15_
 (.need xd5k4_
 (.need xd5k6_
 (.need xd5k6_
 (.need xd5k1_
 (.need xd5k3_
 (.need xd5k5_
 (.need xd5k13_
 (.need xd5k5_
 (.need (an_ xd5k17_ xd5k3_)
 (.br xd5k7_
 (.ret (.bool (.tt false)))
 (.need xd5k1_
 (.need xd5k14_
 (.need xd5k4_
 (.br (eq_ xd5k24_ (.lit 0))
 (.need xd5k16_
 (.need xd5k16_
 (.need xd5k11_
 (.need (an_ xd5k16_ xd5k18_)
 (.need xd5k16_
 (.need xd5k18_
 (.need (an_ xd5k16_ xd5k18_)
 (.need xd5k9_
 (.ret (.bool (.tt true)))))))))))
 (.ret (.bool (.tt false)))))))))))))))))))
abbrev wbc_wS46 : Con := ⟨3, [xd5k21_, xd5k20_, xd5k23_], (an_ (an_ (an_ xd5k2_ (.not (eq_ xd5k22_ (.lit 0)))) (eq_ xd5k22_ (.lit 2))) (eq_ (sb_ xd5k0_ xd5k8_) (.lit 0))), (.bool (.tt true)), ⟨6, 0, 0, 0⟩, none⟩
theorem wS46_w : walkQ Tryd.prog 142 ⟨[wac_bfrom, wac_wadd, wac_wneg, wac_wint, wbc_baddN, wbc_baddM, wbc_btoN, wbc_btoF, wbc_btoT, wbc_bzeroN, wbc_bnumN, wac_num, wbc_lisO, wbc_lis2, wbc_lis3, wbc_lis4, wac_wcmp, wac_wof, wbc_bintO, wac_wmul, wbc_bmulO, wbc_sure], syG, [], [], []⟩ [] .v wbc_wS46 wbc_wS46.n 3000 (pcOf wbc_wS46.cnd) = some wS46_tree := by kernel_rfl
set_option maxHeartbeats 2000000 in
theorem wS46_h (xh xl yh yl o0 o1 : Int) : Hyp_ wbc_wS46 wS46_tree (wbE [xh, xl, yh, yl, o0, o1] [] [] []) := by
 intro hc hty
 simp only [wbc_wS46, Sy.holds, wbE, denV, denI, denB, denL, I2.den, VOp.den, List.getD_cons_zero, List.getD_cons_succ, Cst.den, syso, syse, syio, sybo, wbi_wv, wbi_wh, wbi_wl, wbi_rg, wbi_r6, wbi_gd, wbb_ng, B2.ofInts, B2.denI, B2.denB, if_true, Bool.false_eq_true, if_false, Nat.div_one, Nat.mul_one, Nat.add_zero] at hc
 simp only [wbc_wS46, patsTyp, patTyp, patTypL, wbE, denV, denL, List.getD_cons_zero, List.getD_cons_succ, and_true, true_and] at hty
 unfold wS46_tree
 simp only [wbc_wS46, Tree.holds, Sy.holds, wbE, denV, denI, denB, denL, I2.den, VOp.den, List.getD_cons_zero, List.getD_cons_succ, Cst.den, syso, syse, syio, sybo, wbi_wv, wbi_wh, wbi_wl, wbi_rg, wbi_gd, wbi_cp, B2.ofInts, B2.denI, B2.denB, if_true, Bool.false_eq_true, if_false, Nat.div_one, Nat.mul_one, Nat.add_zero]
 have hl := hc.1.1.1.1.1.1.1.1
 have ra := rg_spec (wvI xh xl + wvI yh yl)
 have rb := rg_spec (0 - wvI xh xl)
 have rc := r6_spec (wvI xh xl)
 have rd := cp_spec (wvI xh xl - wvI yh yl)
 have re := rg_spec (o0 * o1)
 have rf := rg_spec o0
 have x0 : wvI xh xl = xh * 18446744073709551616 + xl := rfl
 have y0 : wvI yh yl = yh * 18446744073709551616 + yl := rfl
 have hm := mul_rng (a := o0) (b := o1) hl.2.2.2.2.1 hl.2.2.2.2.2
 generalize wvI xh xl = X at *
 generalize wvI yh yl = Y at *
 generalize o0 * o1 = M at *
 refine ⟨?a0, fun h0 => ?_⟩; rotate_left
 refine ⟨?a1, fun h1 => ?_⟩; rotate_left
 refine ⟨?a2, fun h2 => ?_⟩; rotate_left
 refine ⟨?a3, fun h3 => ?_⟩; rotate_left
 refine ⟨?a4, fun h4 => ?_⟩; rotate_left
 refine ⟨?a5, fun h5 => ?_⟩; rotate_left
 refine ⟨?a6, fun h6 => ?_⟩; rotate_left
 refine ⟨?a7, fun h7 => ?_⟩; rotate_left
 refine ⟨?a8, fun h8 => ?_⟩; rotate_left
 refine ⟨?a9, fun h9 => ?_⟩; rotate_left
 refine ⟨?a10, fun h10 => ?_⟩; rotate_left
 refine ⟨fun h11 => ?_, fun h11 => ?_⟩
 refine ?a11; rotate_left
 refine ⟨?a12, fun h12 => ?_⟩; rotate_left
 refine ⟨?a13, fun h13 => ?_⟩; rotate_left
 refine ⟨?a14, fun h14 => ?_⟩; rotate_left
 refine ⟨fun h15 => ?_, fun h15 => ?_⟩
 refine ⟨?a15, fun h16 => ?_⟩; rotate_left
 refine ⟨?a16, fun h17 => ?_⟩; rotate_left
 refine ⟨?a17, fun h18 => ?_⟩; rotate_left
 refine ⟨?a18, fun h19 => ?_⟩; rotate_left
 refine ⟨?a19, fun h20 => ?_⟩; rotate_left
 refine ⟨?a20, fun h21 => ?_⟩; rotate_left
 refine ⟨?a21, fun h22 => ?_⟩; rotate_left
 refine ⟨?a22, fun h23 => ?_⟩; rotate_left
 refine ?a23; rotate_left
 refine ?a24; rotate_left
 case a0 | a1 | a2 | a3 | a4 | a5 | a6 | a7 | a8 | a9 | a10 | a12 | a13 | a14 | a15 | a16 | a17 | a18 | a19 | a20 | a21 | a22 =>
  as_aux_lemma =>
    first
    | exact True.intro
    | omega
    | (simp only [decide_eq_true_eq] at *; omega)
    | skip
 case a11 | a23 | a24 =>
  as_aux_lemma =>
    first
    | exact True.intro
    | rfl
    | (simp only [decide_eq_true_eq] at *; exfalso; omega)
    | (exfalso; omega)
    | (exfalso
       have g1 : gdF (rgE (0 - X)) ((0 - X) / 18446744073709551616) = 0 := gd_n (by omega) _
       have g2 : gdF (rgE (0 - X)) ((0 - X) % 18446744073709551616) = 0 := gd_n (by omega) _
       omega)
    | (exfalso
       have g1 : gdF (rgE (X + Y)) ((X + Y) / 18446744073709551616) = 0 := gd_n (by omega) _
       have g2 : gdF (rgE (X + Y)) ((X + Y) % 18446744073709551616) = 0 := gd_n (by omega) _
       omega)
    | (exfalso
       have g1 : gdF (r6E X) X = 0 := gd_n (by omega) _
       omega)
    | skip
theorem wbg_wS46 : wbc_wS46.Good Tryd.prog syG (wbE [] [] [] []) := good_of_walkC (Γ := ⟨[wac_bfrom, wac_wadd, wac_wneg, wac_wint, wbc_baddN, wbc_baddM, wbc_btoN, wbc_btoF, wbc_btoT, wbc_bzeroN, wbc_bnumN, wac_num, wbc_lisO, wbc_lis2, wbc_lis3, wbc_lis4, wac_wcmp, wac_wof, wbc_bintO, wac_wmul, wbc_bmulO, wbc_sure], syG, [], [], []⟩) (ρ := wbE [] [] [] []) sym wS46_w rfl (fun _ _ _ _ => (ok_cons (Con.Good.env (Con.Good.up wag_bfrom wbup rfl) _ _ _ _) (ok_cons (Con.Good.env (Con.Good.up wag_wadd wbup rfl) _ _ _ _) (ok_cons (Con.Good.env (Con.Good.up wag_wneg wbup rfl) _ _ _ _) (ok_cons (Con.Good.env (Con.Good.up wag_wint wbup rfl) _ _ _ _) (ok_cons (Con.Good.env wbg_baddN _ _ _ _) (ok_cons (Con.Good.env wbg_baddM _ _ _ _) (ok_cons (Con.Good.env wbg_btoN _ _ _ _) (ok_cons (Con.Good.env wbg_btoF _ _ _ _) (ok_cons (Con.Good.env wbg_btoT _ _ _ _) (ok_cons (Con.Good.env wbg_bzeroN _ _ _ _) (ok_cons (Con.Good.env wbg_bnumN _ _ _ _) (ok_cons (Con.Good.env (Con.Good.up wag_num wbup rfl) _ _ _ _) (ok_cons (Con.Good.env wbg_lisO _ _ _ _) (ok_cons (Con.Good.env wbg_lis2 _ _ _ _) (ok_cons (Con.Good.env wbg_lis3 _ _ _ _) (ok_cons (Con.Good.env wbg_lis4 _ _ _ _) (ok_cons (Con.Good.env (Con.Good.up wag_wcmp wbup rfl) _ _ _ _) (ok_cons (Con.Good.env (Con.Good.up wag_wof wbup rfl) _ _ _ _) (ok_cons (Con.Good.env wbg_bintO _ _ _ _) (ok_cons (Con.Good.env (Con.Good.up wag_wmul wbup rfl) _ _ _ _) (ok_cons (Con.Good.env wbg_bmulO _ _ _ _) (ok_cons (Con.Good.env wbg_sure _ _ _ _) ok_nil))))))))))))))))))))))) wS46_h
def wS47_tree : Tree :=
 (.need xd5k6_
 (.need xd5k15_
 (.need xd5k4_
 (.need xd5k6_
 (.need xd5k6_
 (.need xd5k1_
 (.need xd5k3_
 (.need xd5k5_
 (.need xd5k13_
 (.need xd5k5_
 (.need (an_ xd5k17_ xd5k3_)
 (.br xd5k7_
 (.ret (.bool (.tt false)))
 (.need xd5k1_
 (.need xd5k14_
 (.need xd5k4_
 (.br (eq_ xd5k24_ (.lit (-1)))
 (.need xd5k16_
 (.need xd5k16_
 (.need xd5k11_
 (.need (an_ xd5k16_ xd5k18_)
 (.need xd5k16_
 (.need xd5k18_
 (.need (an_ xd5k16_ xd5k18_)
 (.need xd5k9_
 (.ret (.bool (.tt true)))))))))))
 (.ret (.bool (.tt false)))))))))))))))))))
abbrev wbc_wS47 : Con := ⟨3, [xd5k21_, xd5k20_, xd5k23_], (an_ (an_ (an_ (an_ xd5k2_ (.not (eq_ xd5k22_ (.lit 0)))) (eq_ xd5k22_ (.lit 2))) (.not (eq_ (sb_ xd5k0_ xd5k8_) (.lit 0)))) (.bapp 0 (.cons (.int .i64 (sb_ xd5k0_ xd5k8_)) .nil))), (.bool (.tt true)), ⟨6, 0, 0, 0⟩, none⟩
theorem wS47_w : walkQ Tryd.prog 142 ⟨[wac_bfrom, wac_wadd, wac_wneg, wac_wint, wbc_baddN, wbc_baddM, wbc_btoN, wbc_btoF, wbc_btoT, wbc_bzeroN, wbc_bnumN, wac_num, wbc_lisO, wbc_lis2, wbc_lis3, wbc_lis4, wac_wcmp, wac_wof, wbc_bintO, wac_wmul, wbc_bmulO, wbc_sure], syG, [], [], []⟩ [] .v wbc_wS47 wbc_wS47.n 3000 (pcOf wbc_wS47.cnd) = some wS47_tree := by kernel_rfl
set_option maxHeartbeats 2000000 in
theorem wS47_h (xh xl yh yl o0 o1 : Int) : Hyp_ wbc_wS47 wS47_tree (wbE [xh, xl, yh, yl, o0, o1] [] [] []) := by
 intro hc hty
 simp only [wbc_wS47, Sy.holds, wbE, denV, denI, denB, denL, I2.den, VOp.den, List.getD_cons_zero, List.getD_cons_succ, Cst.den, syso, syse, syio, sybo, wbi_wv, wbi_wh, wbi_wl, wbi_rg, wbi_r6, wbi_gd, wbb_ng, B2.ofInts, B2.denI, B2.denB, if_true, Bool.false_eq_true, if_false, Nat.div_one, Nat.mul_one, Nat.add_zero] at hc
 simp only [wbc_wS47, patsTyp, patTyp, patTypL, wbE, denV, denL, List.getD_cons_zero, List.getD_cons_succ, and_true, true_and] at hty
 unfold wS47_tree
 simp only [wbc_wS47, Tree.holds, Sy.holds, wbE, denV, denI, denB, denL, I2.den, VOp.den, List.getD_cons_zero, List.getD_cons_succ, Cst.den, syso, syse, syio, sybo, wbi_wv, wbi_wh, wbi_wl, wbi_rg, wbi_gd, wbi_cp, B2.ofInts, B2.denI, B2.denB, if_true, Bool.false_eq_true, if_false, Nat.div_one, Nat.mul_one, Nat.add_zero]
 have hl := hc.1.1.1.1.1.1.1.1.1
 have ra := rg_spec (wvI xh xl + wvI yh yl)
 have rb := rg_spec (0 - wvI xh xl)
 have rc := r6_spec (wvI xh xl)
 have rd := cp_spec (wvI xh xl - wvI yh yl)
 have re := rg_spec (o0 * o1)
 have rf := rg_spec o0
 have x0 : wvI xh xl = xh * 18446744073709551616 + xl := rfl
 have y0 : wvI yh yl = yh * 18446744073709551616 + yl := rfl
 have hm := mul_rng (a := o0) (b := o1) hl.2.2.2.2.1 hl.2.2.2.2.2
 generalize wvI xh xl = X at *
 generalize wvI yh yl = Y at *
 generalize o0 * o1 = M at *
 refine ⟨?a0, fun h0 => ?_⟩; rotate_left
 refine ⟨?a1, fun h1 => ?_⟩; rotate_left
 refine ⟨?a2, fun h2 => ?_⟩; rotate_left
 refine ⟨?a3, fun h3 => ?_⟩; rotate_left
 refine ⟨?a4, fun h4 => ?_⟩; rotate_left
 refine ⟨?a5, fun h5 => ?_⟩; rotate_left
 refine ⟨?a6, fun h6 => ?_⟩; rotate_left
 refine ⟨?a7, fun h7 => ?_⟩; rotate_left
 refine ⟨?a8, fun h8 => ?_⟩; rotate_left
 refine ⟨?a9, fun h9 => ?_⟩; rotate_left
 refine ⟨?a10, fun h10 => ?_⟩; rotate_left
 refine ⟨fun h11 => ?_, fun h11 => ?_⟩
 refine ?a11; rotate_left
 refine ⟨?a12, fun h12 => ?_⟩; rotate_left
 refine ⟨?a13, fun h13 => ?_⟩; rotate_left
 refine ⟨?a14, fun h14 => ?_⟩; rotate_left
 refine ⟨fun h15 => ?_, fun h15 => ?_⟩
 refine ⟨?a15, fun h16 => ?_⟩; rotate_left
 refine ⟨?a16, fun h17 => ?_⟩; rotate_left
 refine ⟨?a17, fun h18 => ?_⟩; rotate_left
 refine ⟨?a18, fun h19 => ?_⟩; rotate_left
 refine ⟨?a19, fun h20 => ?_⟩; rotate_left
 refine ⟨?a20, fun h21 => ?_⟩; rotate_left
 refine ⟨?a21, fun h22 => ?_⟩; rotate_left
 refine ⟨?a22, fun h23 => ?_⟩; rotate_left
 refine ?a23; rotate_left
 refine ?a24; rotate_left
 case a0 | a1 | a2 | a3 | a4 | a5 | a6 | a7 | a8 | a9 | a10 | a12 | a13 | a14 | a15 | a16 | a17 | a18 | a19 | a20 | a21 | a22 =>
  as_aux_lemma =>
    first
    | exact True.intro
    | omega
    | (simp only [decide_eq_true_eq] at *; omega)
    | skip
 case a11 | a23 | a24 =>
  as_aux_lemma =>
    first
    | exact True.intro
    | rfl
    | (simp only [decide_eq_true_eq] at *; exfalso; omega)
    | (exfalso; omega)
    | (exfalso
       have g1 : gdF (rgE (0 - X)) ((0 - X) / 18446744073709551616) = 0 := gd_n (by omega) _
       have g2 : gdF (rgE (0 - X)) ((0 - X) % 18446744073709551616) = 0 := gd_n (by omega) _
       omega)
    | (exfalso
       have g1 : gdF (rgE (X + Y)) ((X + Y) / 18446744073709551616) = 0 := gd_n (by omega) _
       have g2 : gdF (rgE (X + Y)) ((X + Y) % 18446744073709551616) = 0 := gd_n (by omega) _
       omega)
    | (exfalso
       have g1 : gdF (r6E X) X = 0 := gd_n (by omega) _
       omega)
    | skip
theorem wbg_wS47 : wbc_wS47.Good Tryd.prog syG (wbE [] [] [] []) := good_of_walkC (Γ := ⟨[wac_bfrom, wac_wadd, wac_wneg, wac_wint, wbc_baddN, wbc_baddM, wbc_btoN, wbc_btoF, wbc_btoT, wbc_bzeroN, wbc_bnumN, wac_num, wbc_lisO, wbc_lis2, wbc_lis3, wbc_lis4, wac_wcmp, wac_wof, wbc_bintO, wac_wmul, wbc_bmulO, wbc_sure], syG, [], [], []⟩) (ρ := wbE [] [] [] []) sym wS47_w rfl (fun _ _ _ _ => (ok_cons (Con.Good.env (Con.Good.up wag_bfrom wbup rfl) _ _ _ _) (ok_cons (Con.Good.env (Con.Good.up wag_wadd wbup rfl) _ _ _ _) (ok_cons (Con.Good.env (Con.Good.up wag_wneg wbup rfl) _ _ _ _) (ok_cons (Con.Good.env (Con.Good.up wag_wint wbup rfl) _ _ _ _) (ok_cons (Con.Good.env wbg_baddN _ _ _ _) (ok_cons (Con.Good.env wbg_baddM _ _ _ _) (ok_cons (Con.Good.env wbg_btoN _ _ _ _) (ok_cons (Con.Good.env wbg_btoF _ _ _ _) (ok_cons (Con.Good.env wbg_btoT _ _ _ _) (ok_cons (Con.Good.env wbg_bzeroN _ _ _ _) (ok_cons (Con.Good.env wbg_bnumN _ _ _ _) (ok_cons (Con.Good.env (Con.Good.up wag_num wbup rfl) _ _ _ _) (ok_cons (Con.Good.env wbg_lisO _ _ _ _) (ok_cons (Con.Good.env wbg_lis2 _ _ _ _) (ok_cons (Con.Good.env wbg_lis3 _ _ _ _) (ok_cons (Con.Good.env wbg_lis4 _ _ _ _) (ok_cons (Con.Good.env (Con.Good.up wag_wcmp wbup rfl) _ _ _ _) (ok_cons (Con.Good.env (Con.Good.up wag_wof wbup rfl) _ _ _ _) (ok_cons (Con.Good.env wbg_bintO _ _ _ _) (ok_cons (Con.Good.env (Con.Good.up wag_wmul wbup rfl) _ _ _ _) (ok_cons (Con.Good.env wbg_bmulO _ _ _ _) (ok_cons (Con.Good.env wbg_sure _ _ _ _) ok_nil))))))))))))))))))))))) wS47_h
def wS48_tree : Tree :=
 (.need xd5k6_
 (.need xd5k15_
 (.need xd5k4_
 (.need xd5k6_
 (.need xd5k6_
 (.need xd5k1_
 (.need xd5k3_
 (.need xd5k5_
 (.need xd5k13_
 (.need xd5k5_
 (.need (an_ xd5k17_ xd5k3_)
 (.br xd5k7_
 (.ret (.bool (.tt false)))
 (.need xd5k1_
 (.need xd5k14_
 (.need xd5k4_
 (.br (eq_ xd5k24_ (.lit 1))
 (.need xd5k16_
 (.need xd5k16_
 (.need xd5k11_
 (.need (an_ xd5k16_ xd5k18_)
 (.need xd5k16_
 (.need xd5k18_
 (.need (an_ xd5k16_ xd5k18_)
 (.need xd5k9_
 (.ret (.bool (.tt true)))))))))))
 (.ret (.bool (.tt false)))))))))))))))))))
abbrev wbc_wS48 : Con := ⟨3, [xd5k21_, xd5k20_, xd5k23_], (an_ (an_ (an_ (an_ xd5k2_ (.not (eq_ xd5k22_ (.lit 0)))) (eq_ xd5k22_ (.lit 2))) (.not (eq_ (sb_ xd5k0_ xd5k8_) (.lit 0)))) (.not (.bapp 0 (.cons (.int .i64 (sb_ xd5k0_ xd5k8_)) .nil)))), (.bool (.tt true)), ⟨6, 0, 0, 0⟩, none⟩
theorem wS48_w : walkQ Tryd.prog 142 ⟨[wac_bfrom, wac_wadd, wac_wneg, wac_wint, wbc_baddN, wbc_baddM, wbc_btoN, wbc_btoF, wbc_btoT, wbc_bzeroN, wbc_bnumN, wac_num, wbc_lisO, wbc_lis2, wbc_lis3, wbc_lis4, wac_wcmp, wac_wof, wbc_bintO, wac_wmul, wbc_bmulO, wbc_sure], syG, [], [], []⟩ [] .v wbc_wS48 wbc_wS48.n 3000 (pcOf wbc_wS48.cnd) = some wS48_tree := by kernel_rfl
set_option maxHeartbeats 2000000 in
theorem wS48_h (xh xl yh yl o0 o1 : Int) : Hyp_ wbc_wS48 wS48_tree (wbE [xh, xl, yh, yl, o0, o1] [] [] []) := by
 intro hc hty
 simp only [wbc_wS48, Sy.holds, wbE, denV, denI, denB, denL, I2.den, VOp.den, List.getD_cons_zero, List.getD_cons_succ, Cst.den, syso, syse, syio, sybo, wbi_wv, wbi_wh, wbi_wl, wbi_rg, wbi_r6, wbi_gd, wbb_ng, B2.ofInts, B2.denI, B2.denB, if_true, Bool.false_eq_true, if_false, Nat.div_one, Nat.mul_one, Nat.add_zero] at hc
 simp only [wbc_wS48, patsTyp, patTyp, patTypL, wbE, denV, denL, List.getD_cons_zero, List.getD_cons_succ, and_true, true_and] at hty
 unfold wS48_tree
 simp only [wbc_wS48, Tree.holds, Sy.holds, wbE, denV, denI, denB, denL, I2.den, VOp.den, List.getD_cons_zero, List.getD_cons_succ, Cst.den, syso, syse, syio, sybo, wbi_wv, wbi_wh, wbi_wl, wbi_rg, wbi_gd, wbi_cp, B2.ofInts, B2.denI, B2.denB, if_true, Bool.false_eq_true, if_false, Nat.div_one, Nat.mul_one, Nat.add_zero]
 have hl := hc.1.1.1.1.1.1.1.1.1
 have ra := rg_spec (wvI xh xl + wvI yh yl)
 have rb := rg_spec (0 - wvI xh xl)
 have rc := r6_spec (wvI xh xl)
 have rd := cp_spec (wvI xh xl - wvI yh yl)
 have re := rg_spec (o0 * o1)
 have rf := rg_spec o0
 have x0 : wvI xh xl = xh * 18446744073709551616 + xl := rfl
 have y0 : wvI yh yl = yh * 18446744073709551616 + yl := rfl
 have hm := mul_rng (a := o0) (b := o1) hl.2.2.2.2.1 hl.2.2.2.2.2
 generalize wvI xh xl = X at *
 generalize wvI yh yl = Y at *
 generalize o0 * o1 = M at *
 refine ⟨?a0, fun h0 => ?_⟩; rotate_left
 refine ⟨?a1, fun h1 => ?_⟩; rotate_left
 refine ⟨?a2, fun h2 => ?_⟩; rotate_left
 refine ⟨?a3, fun h3 => ?_⟩; rotate_left
 refine ⟨?a4, fun h4 => ?_⟩; rotate_left
 refine ⟨?a5, fun h5 => ?_⟩; rotate_left
 refine ⟨?a6, fun h6 => ?_⟩; rotate_left
 refine ⟨?a7, fun h7 => ?_⟩; rotate_left
 refine ⟨?a8, fun h8 => ?_⟩; rotate_left
 refine ⟨?a9, fun h9 => ?_⟩; rotate_left
 refine ⟨?a10, fun h10 => ?_⟩; rotate_left
 refine ⟨fun h11 => ?_, fun h11 => ?_⟩
 refine ?a11; rotate_left
 refine ⟨?a12, fun h12 => ?_⟩; rotate_left
 refine ⟨?a13, fun h13 => ?_⟩; rotate_left
 refine ⟨?a14, fun h14 => ?_⟩; rotate_left
 refine ⟨fun h15 => ?_, fun h15 => ?_⟩
 refine ⟨?a15, fun h16 => ?_⟩; rotate_left
 refine ⟨?a16, fun h17 => ?_⟩; rotate_left
 refine ⟨?a17, fun h18 => ?_⟩; rotate_left
 refine ⟨?a18, fun h19 => ?_⟩; rotate_left
 refine ⟨?a19, fun h20 => ?_⟩; rotate_left
 refine ⟨?a20, fun h21 => ?_⟩; rotate_left
 refine ⟨?a21, fun h22 => ?_⟩; rotate_left
 refine ⟨?a22, fun h23 => ?_⟩; rotate_left
 refine ?a23; rotate_left
 refine ?a24; rotate_left
 case a0 | a1 | a2 | a3 | a4 | a5 | a6 | a7 | a8 | a9 | a10 | a12 | a13 | a14 | a15 | a16 | a17 | a18 | a19 | a20 | a21 | a22 =>
  as_aux_lemma =>
    first
    | exact True.intro
    | omega
    | (simp only [decide_eq_true_eq] at *; omega)
    | skip
 case a11 | a23 | a24 =>
  as_aux_lemma =>
    first
    | exact True.intro
    | rfl
    | (simp only [decide_eq_true_eq] at *; exfalso; omega)
    | (exfalso; omega)
    | (exfalso
       have g1 : gdF (rgE (0 - X)) ((0 - X) / 18446744073709551616) = 0 := gd_n (by omega) _
       have g2 : gdF (rgE (0 - X)) ((0 - X) % 18446744073709551616) = 0 := gd_n (by omega) _
       omega)
    | (exfalso
       have g1 : gdF (rgE (X + Y)) ((X + Y) / 18446744073709551616) = 0 := gd_n (by omega) _
       have g2 : gdF (rgE (X + Y)) ((X + Y) % 18446744073709551616) = 0 := gd_n (by omega) _
       omega)
    | (exfalso
       have g1 : gdF (r6E X) X = 0 := gd_n (by omega) _
       omega)
    | skip
theorem wbg_wS48 : wbc_wS48.Good Tryd.prog syG (wbE [] [] [] []) := good_of_walkC (Γ := ⟨[wac_bfrom, wac_wadd, wac_wneg, wac_wint, wbc_baddN, wbc_baddM, wbc_btoN, wbc_btoF, wbc_btoT, wbc_bzeroN, wbc_bnumN, wac_num, wbc_lisO, wbc_lis2, wbc_lis3, wbc_lis4, wac_wcmp, wac_wof, wbc_bintO, wac_wmul, wbc_bmulO, wbc_sure], syG, [], [], []⟩) (ρ := wbE [] [] [] []) sym wS48_w rfl (fun _ _ _ _ => (ok_cons (Con.Good.env (Con.Good.up wag_bfrom wbup rfl) _ _ _ _) (ok_cons (Con.Good.env (Con.Good.up wag_wadd wbup rfl) _ _ _ _) (ok_cons (Con.Good.env (Con.Good.up wag_wneg wbup rfl) _ _ _ _) (ok_cons (Con.Good.env (Con.Good.up wag_wint wbup rfl) _ _ _ _) (ok_cons (Con.Good.env wbg_baddN _ _ _ _) (ok_cons (Con.Good.env wbg_baddM _ _ _ _) (ok_cons (Con.Good.env wbg_btoN _ _ _ _) (ok_cons (Con.Good.env wbg_btoF _ _ _ _) (ok_cons (Con.Good.env wbg_btoT _ _ _ _) (ok_cons (Con.Good.env wbg_bzeroN _ _ _ _) (ok_cons (Con.Good.env wbg_bnumN _ _ _ _) (ok_cons (Con.Good.env (Con.Good.up wag_num wbup rfl) _ _ _ _) (ok_cons (Con.Good.env wbg_lisO _ _ _ _) (ok_cons (Con.Good.env wbg_lis2 _ _ _ _) (ok_cons (Con.Good.env wbg_lis3 _ _ _ _) (ok_cons (Con.Good.env wbg_lis4 _ _ _ _) (ok_cons (Con.Good.env (Con.Good.up wag_wcmp wbup rfl) _ _ _ _) (ok_cons (Con.Good.env (Con.Good.up wag_wof wbup rfl) _ _ _ _) (ok_cons (Con.Good.env wbg_bintO _ _ _ _) (ok_cons (Con.Good.env (Con.Good.up wag_wmul wbup rfl) _ _ _ _) (ok_cons (Con.Good.env wbg_bmulO _ _ _ _) (ok_cons (Con.Good.env wbg_sure _ _ _ _) ok_nil))))))))))))))))))))))) wS48_h
def wS49_tree : Tree :=
 (.need xd5k6_
 (.need xd5k15_
 (.need xd5k4_
 (.need xd5k6_
 (.need xd5k6_
 (.need xd5k1_
 (.need xd5k3_
 (.need xd5k5_
 (.need xd5k13_
 (.need xd5k5_
 (.need (an_ xd5k17_ xd5k3_)
 (.br xd5k7_
 (.ret (.bool (.tt false)))
 (.ret (.bool (.tt false)))))))))))))))
abbrev wbc_wS49 : Con := ⟨3, [xd5k21_, xd5k20_, xd5k23_], (an_ (an_ xd5k2_ (.not (eq_ xd5k22_ (.lit 0)))) (.not (eq_ xd5k22_ (.lit 2)))), (.bool (.tt true)), ⟨6, 0, 0, 0⟩, none⟩
theorem wS49_w : walkQ Tryd.prog 142 ⟨[wac_bfrom, wac_wadd, wac_wneg, wac_wint, wbc_baddN, wbc_baddM, wbc_btoN, wbc_btoF, wbc_btoT, wbc_bzeroN, wbc_bnumN, wac_num, wbc_lisO, wbc_lis2, wbc_lis3, wbc_lis4, wac_wcmp, wac_wof, wbc_bintO, wac_wmul, wbc_bmulO, wbc_sure], syG, [], [], []⟩ [] .v wbc_wS49 wbc_wS49.n 3000 (pcOf wbc_wS49.cnd) = some wS49_tree := by kernel_rfl
set_option maxHeartbeats 2000000 in
theorem wS49_h (xh xl yh yl o0 o1 : Int) : Hyp_ wbc_wS49 wS49_tree (wbE [xh, xl, yh, yl, o0, o1] [] [] []) := by
 intro hc hty
 simp only [wbc_wS49, Sy.holds, wbE, denV, denI, denB, denL, I2.den, VOp.den, List.getD_cons_zero, List.getD_cons_succ, Cst.den, syso, syse, syio, sybo, wbi_wv, wbi_wh, wbi_wl, wbi_rg, wbi_r6, wbi_gd, wbb_ng, B2.ofInts, B2.denI, B2.denB, if_true, Bool.false_eq_true, if_false, Nat.div_one, Nat.mul_one, Nat.add_zero] at hc
 simp only [wbc_wS49, patsTyp, patTyp, patTypL, wbE, denV, denL, List.getD_cons_zero, List.getD_cons_succ, and_true, true_and] at hty
 unfold wS49_tree
 simp only [wbc_wS49, Tree.holds, Sy.holds, wbE, denV, denI, denB, denL, I2.den, VOp.den, List.getD_cons_zero, List.getD_cons_succ, Cst.den, syso, syse, syio, sybo, wbi_wv, wbi_wh, wbi_wl, wbi_rg, wbi_gd, B2.ofInts, B2.denI, B2.denB, if_true, Bool.false_eq_true, if_false, Nat.div_one, Nat.mul_one, Nat.add_zero]
 have hl := hc.1.1.1.1.1.1.1
 have ra := rg_spec (wvI xh xl + wvI yh yl)
 have rb := rg_spec (0 - wvI xh xl)
 have rc := r6_spec (wvI xh xl)
 have rd := cp_spec (wvI xh xl - wvI yh yl)
 have re := rg_spec (o0 * o1)
 have rf := rg_spec o0
 have x0 : wvI xh xl = xh * 18446744073709551616 + xl := rfl
 have y0 : wvI yh yl = yh * 18446744073709551616 + yl := rfl
 have hm := mul_rng (a := o0) (b := o1) hl.2.2.2.2.1 hl.2.2.2.2.2
 generalize wvI xh xl = X at *
 generalize wvI yh yl = Y at *
 generalize o0 * o1 = M at *
 refine ⟨?a0, fun h0 => ?_⟩; rotate_left
 refine ⟨?a1, fun h1 => ?_⟩; rotate_left
 refine ⟨?a2, fun h2 => ?_⟩; rotate_left
 refine ⟨?a3, fun h3 => ?_⟩; rotate_left
 refine ⟨?a4, fun h4 => ?_⟩; rotate_left
 refine ⟨?a5, fun h5 => ?_⟩; rotate_left
 refine ⟨?a6, fun h6 => ?_⟩; rotate_left
 refine ⟨?a7, fun h7 => ?_⟩; rotate_left
 refine ⟨?a8, fun h8 => ?_⟩; rotate_left
 refine ⟨?a9, fun h9 => ?_⟩; rotate_left
 refine ⟨?a10, fun h10 => ?_⟩; rotate_left
 refine ⟨fun h11 => ?_, fun h11 => ?_⟩
 refine ?a11; rotate_left
 refine ?a12; rotate_left
 case a0 | a1 | a2 | a3 | a4 | a5 | a6 | a7 | a8 | a9 | a10 =>
  as_aux_lemma =>
    first
    | exact True.intro
    | omega
    | (simp only [decide_eq_true_eq] at *; omega)
    | skip
 case a11 | a12 =>
  as_aux_lemma =>
    first
    | exact True.intro
    | rfl
    | (simp only [decide_eq_true_eq] at *; exfalso; omega)
    | (exfalso; omega)
    | (exfalso
       have g1 : gdF (rgE (0 - X)) ((0 - X) / 18446744073709551616) = 0 := gd_n (by omega) _
       have g2 : gdF (rgE (0 - X)) ((0 - X) % 18446744073709551616) = 0 := gd_n (by omega) _
       omega)
    | (exfalso
       have g1 : gdF (rgE (X + Y)) ((X + Y) / 18446744073709551616) = 0 := gd_n (by omega) _
       have g2 : gdF (rgE (X + Y)) ((X + Y) % 18446744073709551616) = 0 := gd_n (by omega) _
       omega)
    | (exfalso
       have g1 : gdF (r6E X) X = 0 := gd_n (by omega) _
       omega)
    | skip
theorem wbg_wS49 : wbc_wS49.Good Tryd.prog syG (wbE [] [] [] []) := good_of_walkC (Γ := ⟨[wac_bfrom, wac_wadd, wac_wneg, wac_wint, wbc_baddN, wbc_baddM, wbc_btoN, wbc_btoF, wbc_btoT, wbc_bzeroN, wbc_bnumN, wac_num, wbc_lisO, wbc_lis2, wbc_lis3, wbc_lis4, wac_wcmp, wac_wof, wbc_bintO, wac_wmul, wbc_bmulO, wbc_sure], syG, [], [], []⟩) (ρ := wbE [] [] [] []) sym wS49_w rfl (fun _ _ _ _ => (ok_cons (Con.Good.env (Con.Good.up wag_bfrom wbup rfl) _ _ _ _) (ok_cons (Con.Good.env (Con.Good.up wag_wadd wbup rfl) _ _ _ _) (ok_cons (Con.Good.env (Con.Good.up wag_wneg wbup rfl) _ _ _ _) (ok_cons (Con.Good.env (Con.Good.up wag_wint wbup rfl) _ _ _ _) (ok_cons (Con.Good.env wbg_baddN _ _ _ _) (ok_cons (Con.Good.env wbg_baddM _ _ _ _) (ok_cons (Con.Good.env wbg_btoN _ _ _ _) (ok_cons (Con.Good.env wbg_btoF _ _ _ _) (ok_cons (Con.Good.env wbg_btoT _ _ _ _) (ok_cons (Con.Good.env wbg_bzeroN _ _ _ _) (ok_cons (Con.Good.env wbg_bnumN _ _ _ _) (ok_cons (Con.Good.env (Con.Good.up wag_num wbup rfl) _ _ _ _) (ok_cons (Con.Good.env wbg_lisO _ _ _ _) (ok_cons (Con.Good.env wbg_lis2 _ _ _ _) (ok_cons (Con.Good.env wbg_lis3 _ _ _ _) (ok_cons (Con.Good.env wbg_lis4 _ _ _ _) (ok_cons (Con.Good.env (Con.Good.up wag_wcmp wbup rfl) _ _ _ _) (ok_cons (Con.Good.env (Con.Good.up wag_wof wbup rfl) _ _ _ _) (ok_cons (Con.Good.env wbg_bintO _ _ _ _) (ok_cons (Con.Good.env (Con.Good.up wag_wmul wbup rfl) _ _ _ _) (ok_cons (Con.Good.env wbg_bmulO _ _ _ _) (ok_cons (Con.Good.env wbg_sure _ _ _ _) ok_nil))))))))))))))))))))))) wS49_h
def wS50_tree : Tree :=
 (.need xd5k6_
 (.need xd5k15_
 (.need xd5k4_
 (.need xd5k6_
 (.need xd5k6_
 (.need xd5k1_
 (.need xd5k3_
 (.need xd5k5_
 (.need xd5k13_
 (.need xd5k5_
 (.need (an_ xd5k17_ xd5k3_)
 (.ret (.bool (.tt false))))))))))))))
abbrev wbc_wS50 : Con := ⟨3, [xd5k21_, xd5k20_, xd5k23_], (an_ (an_ (an_ (an_ xd5k10_ xd5k17_) (.not (eq_ xd5k19_ (.lit 0)))) (eq_ xd5k19_ (.lit 2))) xd5k7_), (.bool (.tt true)), ⟨6, 0, 0, 0⟩, none⟩
theorem wS50_w : walkQ Tryd.prog 142 ⟨[wac_bfrom, wac_wadd, wac_wneg, wac_wint, wbc_baddN, wbc_baddM, wbc_btoN, wbc_btoF, wbc_btoT, wbc_bzeroN, wbc_bnumN, wac_num, wbc_lisO, wbc_lis2, wbc_lis3, wbc_lis4, wac_wcmp, wac_wof, wbc_bintO, wac_wmul, wbc_bmulO, wbc_sure], syG, [], [], []⟩ [] .v wbc_wS50 wbc_wS50.n 3000 (pcOf wbc_wS50.cnd) = some wS50_tree := by kernel_rfl
set_option maxHeartbeats 2000000 in
theorem wS50_h (xh xl yh yl o0 o1 : Int) : Hyp_ wbc_wS50 wS50_tree (wbE [xh, xl, yh, yl, o0, o1] [] [] []) := by
 intro hc hty
 simp only [wbc_wS50, Sy.holds, wbE, denV, denI, denB, denL, I2.den, VOp.den, List.getD_cons_zero, List.getD_cons_succ, Cst.den, syso, syse, syio, sybo, wbi_wv, wbi_wh, wbi_wl, wbi_rg, wbi_gd, wbb_ng, B2.ofInts, B2.denI, B2.denB, if_true, Bool.false_eq_true, if_false, Nat.div_one, Nat.mul_one, Nat.add_zero] at hc
 simp only [wbc_wS50, patsTyp, patTyp, patTypL, wbE, denV, denL, List.getD_cons_zero, List.getD_cons_succ, and_true, true_and] at hty
 unfold wS50_tree
 simp only [wbc_wS50, Tree.holds, Sy.holds, wbE, denV, denI, denB, denL, I2.den, VOp.den, List.getD_cons_zero, List.getD_cons_succ, Cst.den, syso, syse, syio, sybo, wbi_wv, wbi_rg, B2.ofInts, B2.denI, B2.denB, if_true, Bool.false_eq_true, if_false, Nat.div_one, Nat.mul_one, Nat.add_zero]
 have hl := hc.1.1.1.1.1
 have ra := rg_spec (wvI xh xl + wvI yh yl)
 have rb := rg_spec (0 - wvI xh xl)
 have rc := r6_spec (wvI xh xl)
 have rd := cp_spec (wvI xh xl - wvI yh yl)
 have re := rg_spec (o0 * o1)
 have rf := rg_spec o0
 have x0 : wvI xh xl = xh * 18446744073709551616 + xl := rfl
 have y0 : wvI yh yl = yh * 18446744073709551616 + yl := rfl
 have hm := mul_rng (a := o0) (b := o1) hl.2.2.2.2.1 hl.2.2.2.2.2
 generalize wvI xh xl = X at *
 generalize wvI yh yl = Y at *
 generalize o0 * o1 = M at *
 refine ⟨?a0, fun h0 => ?_⟩; rotate_left
 refine ⟨?a1, fun h1 => ?_⟩; rotate_left
 refine ⟨?a2, fun h2 => ?_⟩; rotate_left
 refine ⟨?a3, fun h3 => ?_⟩; rotate_left
 refine ⟨?a4, fun h4 => ?_⟩; rotate_left
 refine ⟨?a5, fun h5 => ?_⟩; rotate_left
 refine ⟨?a6, fun h6 => ?_⟩; rotate_left
 refine ⟨?a7, fun h7 => ?_⟩; rotate_left
 refine ⟨?a8, fun h8 => ?_⟩; rotate_left
 refine ⟨?a9, fun h9 => ?_⟩; rotate_left
 refine ⟨?a10, fun h10 => ?_⟩; rotate_left
 ·
  as_aux_lemma =>
    first
    | exact True.intro
    | rfl
    | (simp only [decide_eq_true_eq] at *; exfalso; omega)
    | (exfalso; omega)
    | (exfalso
       have g1 : gdF (rgE (0 - X)) ((0 - X) / 18446744073709551616) = 0 := gd_n (by omega) _
       have g2 : gdF (rgE (0 - X)) ((0 - X) % 18446744073709551616) = 0 := gd_n (by omega) _
       omega)
    | (exfalso
       have g1 : gdF (rgE (X + Y)) ((X + Y) / 18446744073709551616) = 0 := gd_n (by omega) _
       have g2 : gdF (rgE (X + Y)) ((X + Y) % 18446744073709551616) = 0 := gd_n (by omega) _
       omega)
    | (exfalso
       have g1 : gdF (r6E X) X = 0 := gd_n (by omega) _
       omega)
    | skip
 case a0 | a1 | a2 | a3 | a4 | a5 | a6 | a7 | a8 | a9 | a10 =>
  as_aux_lemma =>
    first
    | exact True.intro
    | omega
    | (simp only [decide_eq_true_eq] at *; omega)
    | skip
theorem wbg_wS50 : wbc_wS50.Good Tryd.prog syG (wbE [] [] [] []) := good_of_walkC (Γ := ⟨[wac_bfrom, wac_wadd, wac_wneg, wac_wint, wbc_baddN, wbc_baddM, wbc_btoN, wbc_btoF, wbc_btoT, wbc_bzeroN, wbc_bnumN, wac_num, wbc_lisO, wbc_lis2, wbc_lis3, wbc_lis4, wac_wcmp, wac_wof, wbc_bintO, wac_wmul, wbc_bmulO, wbc_sure], syG, [], [], []⟩) (ρ := wbE [] [] [] []) sym wS50_w rfl (fun _ _ _ _ => (ok_cons (Con.Good.env (Con.Good.up wag_bfrom wbup rfl) _ _ _ _) (ok_cons (Con.Good.env (Con.Good.up wag_wadd wbup rfl) _ _ _ _) (ok_cons (Con.Good.env (Con.Good.up wag_wneg wbup rfl) _ _ _ _) (ok_cons (Con.Good.env (Con.Good.up wag_wint wbup rfl) _ _ _ _) (ok_cons (Con.Good.env wbg_baddN _ _ _ _) (ok_cons (Con.Good.env wbg_baddM _ _ _ _) (ok_cons (Con.Good.env wbg_btoN _ _ _ _) (ok_cons (Con.Good.env wbg_btoF _ _ _ _) (ok_cons (Con.Good.env wbg_btoT _ _ _ _) (ok_cons (Con.Good.env wbg_bzeroN _ _ _ _) (ok_cons (Con.Good.env wbg_bnumN _ _ _ _) (ok_cons (Con.Good.env (Con.Good.up wag_num wbup rfl) _ _ _ _) (ok_cons (Con.Good.env wbg_lisO _ _ _ _) (ok_cons (Con.Good.env wbg_lis2 _ _ _ _) (ok_cons (Con.Good.env wbg_lis3 _ _ _ _) (ok_cons (Con.Good.env wbg_lis4 _ _ _ _) (ok_cons (Con.Good.env (Con.Good.up wag_wcmp wbup rfl) _ _ _ _) (ok_cons (Con.Good.env (Con.Good.up wag_wof wbup rfl) _ _ _ _) (ok_cons (Con.Good.env wbg_bintO _ _ _ _) (ok_cons (Con.Good.env (Con.Good.up wag_wmul wbup rfl) _ _ _ _) (ok_cons (Con.Good.env wbg_bmulO _ _ _ _) (ok_cons (Con.Good.env wbg_sure _ _ _ _) ok_nil))))))))))))))))))))))) wS50_h
def wS51_tree : Tree :=
 (.need xd5k6_
 (.need xd5k15_
 (.need xd5k4_
 (.need xd5k6_
 (.need xd5k6_
 (.need xd5k1_
 (.need xd5k3_
 (.need xd5k5_
 (.need xd5k13_
 (.need xd5k5_
 (.need (an_ xd5k17_ xd5k3_)
 (.ret (.bool (.tt false))))))))))))))
abbrev wbc_wS51 : Con := ⟨3, [xd5k21_, xd5k20_, xd5k23_], (an_ (an_ (an_ xd5k10_ xd5k17_) (.not (eq_ xd5k19_ (.lit 0)))) (.not (eq_ xd5k19_ (.lit 2)))), (.bool (.tt true)), ⟨6, 0, 0, 0⟩, none⟩
theorem wS51_w : walkQ Tryd.prog 142 ⟨[wac_bfrom, wac_wadd, wac_wneg, wac_wint, wbc_baddN, wbc_baddM, wbc_btoN, wbc_btoF, wbc_btoT, wbc_bzeroN, wbc_bnumN, wac_num, wbc_lisO, wbc_lis2, wbc_lis3, wbc_lis4, wac_wcmp, wac_wof, wbc_bintO, wac_wmul, wbc_bmulO, wbc_sure], syG, [], [], []⟩ [] .v wbc_wS51 wbc_wS51.n 3000 (pcOf wbc_wS51.cnd) = some wS51_tree := by kernel_rfl
set_option maxHeartbeats 2000000 in
theorem wS51_h (xh xl yh yl o0 o1 : Int) : Hyp_ wbc_wS51 wS51_tree (wbE [xh, xl, yh, yl, o0, o1] [] [] []) := by
 intro hc hty
 simp only [wbc_wS51, Sy.holds, wbE, denV, denI, denB, denL, I2.den, VOp.den, List.getD_cons_zero, List.getD_cons_succ, Cst.den, syso, syse, syio, sybo, wbi_wv, wbi_rg, wbb_ng, B2.ofInts, B2.denI, B2.denB, if_true, Bool.false_eq_true, if_false, Nat.div_one, Nat.mul_one, Nat.add_zero] at hc
 simp only [wbc_wS51, patsTyp, patTyp, patTypL, wbE, denV, denL, List.getD_cons_zero, List.getD_cons_succ, and_true, true_and] at hty
 unfold wS51_tree
 simp only [wbc_wS51, Tree.holds, Sy.holds, wbE, denV, denI, denB, denL, I2.den, VOp.den, List.getD_cons_zero, List.getD_cons_succ, Cst.den, syso, syse, syio, sybo, wbi_wv, wbi_rg, B2.ofInts, B2.denI, B2.denB, if_true, Bool.false_eq_true, if_false, Nat.div_one, Nat.mul_one, Nat.add_zero]
 have hl := hc.1.1.1.1
 have ra := rg_spec (wvI xh xl + wvI yh yl)
 have rb := rg_spec (0 - wvI xh xl)
 have rc := r6_spec (wvI xh xl)
 have rd := cp_spec (wvI xh xl - wvI yh yl)
 have re := rg_spec (o0 * o1)
 have rf := rg_spec o0
 have x0 : wvI xh xl = xh * 18446744073709551616 + xl := rfl
 have y0 : wvI yh yl = yh * 18446744073709551616 + yl := rfl
 have hm := mul_rng (a := o0) (b := o1) hl.2.2.2.2.1 hl.2.2.2.2.2
 generalize wvI xh xl = X at *
 generalize wvI yh yl = Y at *
 generalize o0 * o1 = M at *
 refine ⟨?a0, fun h0 => ?_⟩; rotate_left
 refine ⟨?a1, fun h1 => ?_⟩; rotate_left
 refine ⟨?a2, fun h2 => ?_⟩; rotate_left
 refine ⟨?a3, fun h3 => ?_⟩; rotate_left
 refine ⟨?a4, fun h4 => ?_⟩; rotate_left
 refine ⟨?a5, fun h5 => ?_⟩; rotate_left
 refine ⟨?a6, fun h6 => ?_⟩; rotate_left
 refine ⟨?a7, fun h7 => ?_⟩; rotate_left
 refine ⟨?a8, fun h8 => ?_⟩; rotate_left
 refine ⟨?a9, fun h9 => ?_⟩; rotate_left
 refine ⟨?a10, fun h10 => ?_⟩; rotate_left
 ·
  as_aux_lemma =>
    first
    | exact True.intro
    | rfl
    | (simp only [decide_eq_true_eq] at *; exfalso; omega)
    | (exfalso; omega)
    | (exfalso
       have g1 : gdF (rgE (0 - X)) ((0 - X) / 18446744073709551616) = 0 := gd_n (by omega) _
       have g2 : gdF (rgE (0 - X)) ((0 - X) % 18446744073709551616) = 0 := gd_n (by omega) _
       omega)
    | (exfalso
       have g1 : gdF (rgE (X + Y)) ((X + Y) / 18446744073709551616) = 0 := gd_n (by omega) _
       have g2 : gdF (rgE (X + Y)) ((X + Y) % 18446744073709551616) = 0 := gd_n (by omega) _
       omega)
    | (exfalso
       have g1 : gdF (r6E X) X = 0 := gd_n (by omega) _
       omega)
    | skip
 case a0 | a1 | a2 | a3 | a4 | a5 | a6 | a7 | a8 | a9 | a10 =>
  as_aux_lemma =>
    first
    | exact True.intro
    | omega
    | (simp only [decide_eq_true_eq] at *; omega)
    | skip
theorem wbg_wS51 : wbc_wS51.Good Tryd.prog syG (wbE [] [] [] []) := good_of_walkC (Γ := ⟨[wac_bfrom, wac_wadd, wac_wneg, wac_wint, wbc_baddN, wbc_baddM, wbc_btoN, wbc_btoF, wbc_btoT, wbc_bzeroN, wbc_bnumN, wac_num, wbc_lisO, wbc_lis2, wbc_lis3, wbc_lis4, wac_wcmp, wac_wof, wbc_bintO, wac_wmul, wbc_bmulO, wbc_sure], syG, [], [], []⟩) (ρ := wbE [] [] [] []) sym wS51_w rfl (fun _ _ _ _ => (ok_cons (Con.Good.env (Con.Good.up wag_bfrom wbup rfl) _ _ _ _) (ok_cons (Con.Good.env (Con.Good.up wag_wadd wbup rfl) _ _ _ _) (ok_cons (Con.Good.env (Con.Good.up wag_wneg wbup rfl) _ _ _ _) (ok_cons (Con.Good.env (Con.Good.up wag_wint wbup rfl) _ _ _ _) (ok_cons (Con.Good.env wbg_baddN _ _ _ _) (ok_cons (Con.Good.env wbg_baddM _ _ _ _) (ok_cons (Con.Good.env wbg_btoN _ _ _ _) (ok_cons (Con.Good.env wbg_btoF _ _ _ _) (ok_cons (Con.Good.env wbg_btoT _ _ _ _) (ok_cons (Con.Good.env wbg_bzeroN _ _ _ _) (ok_cons (Con.Good.env wbg_bnumN _ _ _ _) (ok_cons (Con.Good.env (Con.Good.up wag_num wbup rfl) _ _ _ _) (ok_cons (Con.Good.env wbg_lisO _ _ _ _) (ok_cons (Con.Good.env wbg_lis2 _ _ _ _) (ok_cons (Con.Good.env wbg_lis3 _ _ _ _) (ok_cons (Con.Good.env wbg_lis4 _ _ _ _) (ok_cons (Con.Good.env (Con.Good.up wag_wcmp wbup rfl) _ _ _ _) (ok_cons (Con.Good.env (Con.Good.up wag_wof wbup rfl) _ _ _ _) (ok_cons (Con.Good.env wbg_bintO _ _ _ _) (ok_cons (Con.Good.env (Con.Good.up wag_wmul wbup rfl) _ _ _ _) (ok_cons (Con.Good.env wbg_bmulO _ _ _ _) (ok_cons (Con.Good.env wbg_sure _ _ _ _) ok_nil))))))))))))))))))))))) wS51_h
def wS52_tree : Tree :=
 (.need xd5k6_
 (.need xd5k15_
 (.need xd5k4_
 (.need xd5k6_
 (.need xd5k6_
 (.need xd5k1_
 (.need xd5k3_
 (.need xd5k5_
 (.need xd5k13_
 (.need xd5k5_
 (.need (an_ (eq_ xd5k19_ (.lit 0)) xd5k13_)
 (.br (.not xd5k12_)
 (.ret (.bool (.tt false)))
 (.need xd5k1_
 (.need xd5k14_
 (.need xd5k4_
 (.br (eq_ xd5k24_ (.lit 0))
 (.need xd5k16_
 (.need xd5k16_
 (.need xd5k11_
 (.need (an_ xd5k16_ xd5k18_)
 (.need xd5k16_
 (.need xd5k18_
 (.need (an_ xd5k16_ xd5k18_)
 (.need xd5k9_
 (.ret (.bool (.tt true)))))))))))
 (.ret (.bool (.tt false)))))))))))))))))))
abbrev wbc_wS52 : Con := ⟨3, [xd5k21_, xd5k20_, xd5k23_], (an_ (an_ (an_ (an_ (an_ (an_ xd5k10_ (.not xd5k17_)) (eq_ xd5k19_ (.lit 0))) (eq_ (.iapp 6 (.cons (.int .i64 (ad_ xd5k0_ xd5k8_)) .nil)) (.lit 2))) xd5k12_) (eq_ xd5k22_ (.lit 0))) (eq_ (sb_ xd5k0_ xd5k8_) (.lit 0))), (.bool (.tt true)), ⟨6, 0, 0, 0⟩, none⟩
theorem wS52_w : walkQ Tryd.prog 142 ⟨[wac_bfrom, wac_wadd, wac_wneg, wac_wint, wbc_baddN, wbc_baddM, wbc_btoN, wbc_btoF, wbc_btoT, wbc_bzeroN, wbc_bnumN, wac_num, wbc_lisO, wbc_lis2, wbc_lis3, wbc_lis4, wac_wcmp, wac_wof, wbc_bintO, wac_wmul, wbc_bmulO, wbc_sure], syG, [], [], []⟩ [] .v wbc_wS52 wbc_wS52.n 3000 (pcOf wbc_wS52.cnd) = some wS52_tree := by kernel_rfl
set_option maxHeartbeats 2000000 in
theorem wS52_h (xh xl yh yl o0 o1 : Int) : Hyp_ wbc_wS52 wS52_tree (wbE [xh, xl, yh, yl, o0, o1] [] [] []) := by
 intro hc hty
 simp only [wbc_wS52, Sy.holds, wbE, denV, denI, denB, denL, I2.den, VOp.den, List.getD_cons_zero, List.getD_cons_succ, Cst.den, syso, syse, syio, sybo, wbi_wv, wbi_wh, wbi_wl, wbi_rg, wbi_r6, wbi_gd, wbb_ng, B2.ofInts, B2.denI, B2.denB, if_true, Bool.false_eq_true, if_false, Nat.div_one, Nat.mul_one, Nat.add_zero] at hc
 simp only [wbc_wS52, patsTyp, patTyp, patTypL, wbE, denV, denL, List.getD_cons_zero, List.getD_cons_succ, and_true, true_and] at hty
 unfold wS52_tree
 simp only [wbc_wS52, Tree.holds, Sy.holds, wbE, denV, denI, denB, denL, I2.den, VOp.den, List.getD_cons_zero, List.getD_cons_succ, Cst.den, syso, syse, syio, sybo, wbi_wv, wbi_wh, wbi_wl, wbi_rg, wbi_gd, wbi_cp, B2.ofInts, B2.denI, B2.denB, if_true, Bool.false_eq_true, if_false, Nat.div_one, Nat.mul_one, Nat.add_zero]
 have hl := hc.1.1.1.1.1.1.1
 have ra := rg_spec (wvI xh xl + wvI yh yl)
 have rb := rg_spec (0 - wvI xh xl)
 have rc := r6_spec (wvI xh xl)
 have rd := cp_spec (wvI xh xl - wvI yh yl)
 have re := rg_spec (o0 * o1)
 have rf := rg_spec o0
 have x0 : wvI xh xl = xh * 18446744073709551616 + xl := rfl
 have y0 : wvI yh yl = yh * 18446744073709551616 + yl := rfl
 have hm := mul_rng (a := o0) (b := o1) hl.2.2.2.2.1 hl.2.2.2.2.2
 generalize wvI xh xl = X at *
 generalize wvI yh yl = Y at *
 generalize o0 * o1 = M at *
 refine ⟨?a0, fun h0 => ?_⟩; rotate_left
 refine ⟨?a1, fun h1 => ?_⟩; rotate_left
 refine ⟨?a2, fun h2 => ?_⟩; rotate_left
 refine ⟨?a3, fun h3 => ?_⟩; rotate_left
 refine ⟨?a4, fun h4 => ?_⟩; rotate_left
 refine ⟨?a5, fun h5 => ?_⟩; rotate_left
 refine ⟨?a6, fun h6 => ?_⟩; rotate_left
 refine ⟨?a7, fun h7 => ?_⟩; rotate_left
 refine ⟨?a8, fun h8 => ?_⟩; rotate_left
 refine ⟨?a9, fun h9 => ?_⟩; rotate_left
 refine ⟨?a10, fun h10 => ?_⟩; rotate_left
 refine ⟨fun h11 => ?_, fun h11 => ?_⟩
 refine ?a11; rotate_left
 refine ⟨?a12, fun h12 => ?_⟩; rotate_left
 refine ⟨?a13, fun h13 => ?_⟩; rotate_left
 refine ⟨?a14, fun h14 => ?_⟩; rotate_left
 refine ⟨fun h15 => ?_, fun h15 => ?_⟩
 refine ⟨?a15, fun h16 => ?_⟩; rotate_left
 refine ⟨?a16, fun h17 => ?_⟩; rotate_left
 refine ⟨?a17, fun h18 => ?_⟩; rotate_left
 refine ⟨?a18, fun h19 => ?_⟩; rotate_left
 refine ⟨?a19, fun h20 => ?_⟩; rotate_left
 refine ⟨?a20, fun h21 => ?_⟩; rotate_left
 refine ⟨?a21, fun h22 => ?_⟩; rotate_left
 refine ⟨?a22, fun h23 => ?_⟩; rotate_left
 refine ?a23; rotate_left
 refine ?a24; rotate_left
 case a0 | a1 | a2 | a3 | a4 | a5 | a6 | a7 | a8 | a9 | a10 | a12 | a13 | a14 | a15 | a16 | a17 | a18 | a19 | a20 | a21 | a22 =>
  as_aux_lemma =>
    first
    | exact True.intro
    | omega
    | (simp only [decide_eq_true_eq] at *; omega)
    | skip
 case a11 | a23 | a24 =>
  as_aux_lemma =>
    first
    | exact True.intro
    | rfl
    | (simp only [decide_eq_true_eq] at *; exfalso; omega)
    | (exfalso; omega)
    | (exfalso
       have g1 : gdF (rgE (0 - X)) ((0 - X) / 18446744073709551616) = 0 := gd_n (by omega) _
       have g2 : gdF (rgE (0 - X)) ((0 - X) % 18446744073709551616) = 0 := gd_n (by omega) _
       omega)
    | (exfalso
       have g1 : gdF (rgE (X + Y)) ((X + Y) / 18446744073709551616) = 0 := gd_n (by omega) _
       have g2 : gdF (rgE (X + Y)) ((X + Y) % 18446744073709551616) = 0 := gd_n (by omega) _
       omega)
    | (exfalso
       have g1 : gdF (r6E X) X = 0 := gd_n (by omega) _
       omega)
    | skip
theorem wbg_wS52 : wbc_wS52.Good Tryd.prog syG (wbE [] [] [] []) := good_of_walkC (Γ := ⟨[wac_bfrom, wac_wadd, wac_wneg, wac_wint, wbc_baddN, wbc_baddM, wbc_btoN, wbc_btoF, wbc_btoT, wbc_bzeroN, wbc_bnumN, wac_num, wbc_lisO, wbc_lis2, wbc_lis3, wbc_lis4, wac_wcmp, wac_wof, wbc_bintO, wac_wmul, wbc_bmulO, wbc_sure], syG, [], [], []⟩) (ρ := wbE [] [] [] []) sym wS52_w rfl (fun _ _ _ _ => (ok_cons (Con.Good.env (Con.Good.up wag_bfrom wbup rfl) _ _ _ _) (ok_cons (Con.Good.env (Con.Good.up wag_wadd wbup rfl) _ _ _ _) (ok_cons (Con.Good.env (Con.Good.up wag_wneg wbup rfl) _ _ _ _) (ok_cons (Con.Good.env (Con.Good.up wag_wint wbup rfl) _ _ _ _) (ok_cons (Con.Good.env wbg_baddN _ _ _ _) (ok_cons (Con.Good.env wbg_baddM _ _ _ _) (ok_cons (Con.Good.env wbg_btoN _ _ _ _) (ok_cons (Con.Good.env wbg_btoF _ _ _ _) (ok_cons (Con.Good.env wbg_btoT _ _ _ _) (ok_cons (Con.Good.env wbg_bzeroN _ _ _ _) (ok_cons (Con.Good.env wbg_bnumN _ _ _ _) (ok_cons (Con.Good.env (Con.Good.up wag_num wbup rfl) _ _ _ _) (ok_cons (Con.Good.env wbg_lisO _ _ _ _) (ok_cons (Con.Good.env wbg_lis2 _ _ _ _) (ok_cons (Con.Good.env wbg_lis3 _ _ _ _) (ok_cons (Con.Good.env wbg_lis4 _ _ _ _) (ok_cons (Con.Good.env (Con.Good.up wag_wcmp wbup rfl) _ _ _ _) (ok_cons (Con.Good.env (Con.Good.up wag_wof wbup rfl) _ _ _ _) (ok_cons (Con.Good.env wbg_bintO _ _ _ _) (ok_cons (Con.Good.env (Con.Good.up wag_wmul wbup rfl) _ _ _ _) (ok_cons (Con.Good.env wbg_bmulO _ _ _ _) (ok_cons (Con.Good.env wbg_sure _ _ _ _) ok_nil))))))))))))))))))))))) wS52_h
def wS53_tree : Tree :=
 (.need xd5k6_
 (.need xd5k15_
 (.need xd5k4_
 (.need xd5k6_
 (.need xd5k6_
 (.need xd5k1_
 (.need xd5k3_
 (.need xd5k5_
 (.need xd5k13_
 (.need xd5k5_
 (.need (an_ (eq_ xd5k19_ (.lit 0)) xd5k13_)
 (.br (.not xd5k12_)
 (.ret (.bool (.tt false)))
 (.need xd5k1_
 (.need xd5k14_
 (.need xd5k4_
 (.br (eq_ xd5k24_ (.lit (-1)))
 (.need xd5k16_
 (.need xd5k16_
 (.need xd5k11_
 (.need (an_ xd5k16_ xd5k18_)
 (.need xd5k16_
 (.need xd5k18_
 (.need (an_ xd5k16_ xd5k18_)
 (.need xd5k9_
 (.ret (.bool (.tt true)))))))))))
 (.ret (.bool (.tt false)))))))))))))))))))
abbrev wbc_wS53 : Con := ⟨3, [xd5k21_, xd5k20_, xd5k23_], (an_ (an_ (an_ (an_ (an_ (an_ (an_ xd5k10_ (.not xd5k17_)) (eq_ xd5k19_ (.lit 0))) (eq_ (.iapp 6 (.cons (.int .i64 (ad_ xd5k0_ xd5k8_)) .nil)) (.lit 2))) xd5k12_) (eq_ xd5k22_ (.lit 0))) (.not (eq_ (sb_ xd5k0_ xd5k8_) (.lit 0)))) (.bapp 0 (.cons (.int .i64 (sb_ xd5k0_ xd5k8_)) .nil))), (.bool (.tt true)), ⟨6, 0, 0, 0⟩, none⟩
theorem wS53_w : walkQ Tryd.prog 142 ⟨[wac_bfrom, wac_wadd, wac_wneg, wac_wint, wbc_baddN, wbc_baddM, wbc_btoN, wbc_btoF, wbc_btoT, wbc_bzeroN, wbc_bnumN, wac_num, wbc_lisO, wbc_lis2, wbc_lis3, wbc_lis4, wac_wcmp, wac_wof, wbc_bintO, wac_wmul, wbc_bmulO, wbc_sure], syG, [], [], []⟩ [] .v wbc_wS53 wbc_wS53.n 3000 (pcOf wbc_wS53.cnd) = some wS53_tree := by kernel_rfl
set_option maxHeartbeats 2000000 in
theorem wS53_h (xh xl yh yl o0 o1 : Int) : Hyp_ wbc_wS53 wS53_tree (wbE [xh, xl, yh, yl, o0, o1] [] [] []) := by
 intro hc hty
 simp only [wbc_wS53, Sy.holds, wbE, denV, denI, denB, denL, I2.den, VOp.den, List.getD_cons_zero, List.getD_cons_succ, Cst.den, syso, syse, syio, sybo, wbi_wv, wbi_wh, wbi_wl, wbi_rg, wbi_r6, wbi_gd, wbb_ng, B2.ofInts, B2.denI, B2.denB, if_true, Bool.false_eq_true, if_false, Nat.div_one, Nat.mul_one, Nat.add_zero] at hc
 simp only [wbc_wS53, patsTyp, patTyp, patTypL, wbE, denV, denL, List.getD_cons_zero, List.getD_cons_succ, and_true, true_and] at hty
 unfold wS53_tree
 simp only [wbc_wS53, Tree.holds, Sy.holds, wbE, denV, denI, denB, denL, I2.den, VOp.den, List.getD_cons_zero, List.getD_cons_succ, Cst.den, syso, syse, syio, sybo, wbi_wv, wbi_wh, wbi_wl, wbi_rg, wbi_gd, wbi_cp, B2.ofInts, B2.denI, B2.denB, if_true, Bool.false_eq_true, if_false, Nat.div_one, Nat.mul_one, Nat.add_zero]
 have hl := hc.1.1.1.1.1.1.1.1
 have ra := rg_spec (wvI xh xl + wvI yh yl)
 have rb := rg_spec (0 - wvI xh xl)
 have rc := r6_spec (wvI xh xl)
 have rd := cp_spec (wvI xh xl - wvI yh yl)
 have re := rg_spec (o0 * o1)
 have rf := rg_spec o0
 have x0 : wvI xh xl = xh * 18446744073709551616 + xl := rfl
 have y0 : wvI yh yl = yh * 18446744073709551616 + yl := rfl
 have hm := mul_rng (a := o0) (b := o1) hl.2.2.2.2.1 hl.2.2.2.2.2
 generalize wvI xh xl = X at *
 generalize wvI yh yl = Y at *
 generalize o0 * o1 = M at *
 refine ⟨?a0, fun h0 => ?_⟩; rotate_left
 refine ⟨?a1, fun h1 => ?_⟩; rotate_left
 refine ⟨?a2, fun h2 => ?_⟩; rotate_left
 refine ⟨?a3, fun h3 => ?_⟩; rotate_left
 refine ⟨?a4, fun h4 => ?_⟩; rotate_left
 refine ⟨?a5, fun h5 => ?_⟩; rotate_left
 refine ⟨?a6, fun h6 => ?_⟩; rotate_left
 refine ⟨?a7, fun h7 => ?_⟩; rotate_left
 refine ⟨?a8, fun h8 => ?_⟩; rotate_left
 refine ⟨?a9, fun h9 => ?_⟩; rotate_left
 refine ⟨?a10, fun h10 => ?_⟩; rotate_left
 refine ⟨fun h11 => ?_, fun h11 => ?_⟩
 refine ?a11; rotate_left
 refine ⟨?a12, fun h12 => ?_⟩; rotate_left
 refine ⟨?a13, fun h13 => ?_⟩; rotate_left
 refine ⟨?a14, fun h14 => ?_⟩; rotate_left
 refine ⟨fun h15 => ?_, fun h15 => ?_⟩
 refine ⟨?a15, fun h16 => ?_⟩; rotate_left
 refine ⟨?a16, fun h17 => ?_⟩; rotate_left
 refine ⟨?a17, fun h18 => ?_⟩; rotate_left
 refine ⟨?a18, fun h19 => ?_⟩; rotate_left
 refine ⟨?a19, fun h20 => ?_⟩; rotate_left
 refine ⟨?a20, fun h21 => ?_⟩; rotate_left
 refine ⟨?a21, fun h22 => ?_⟩; rotate_left
 refine ⟨?a22, fun h23 => ?_⟩; rotate_left
 refine ?a23; rotate_left
 refine ?a24; rotate_left
 case a0 | a1 | a2 | a3 | a4 | a5 | a6 | a7 | a8 | a9 | a10 | a12 | a13 | a14 | a15 | a16 | a17 | a18 | a19 | a20 | a21 | a22 =>
  as_aux_lemma =>
    first
    | exact True.intro
    | omega
    | (simp only [decide_eq_true_eq] at *; omega)
    | skip
 case a11 | a23 | a24 =>
  as_aux_lemma =>
    first
    | exact True.intro
    | rfl
    | (simp only [decide_eq_true_eq] at *; exfalso; omega)
    | (exfalso; omega)
    | (exfalso
       have g1 : gdF (rgE (0 - X)) ((0 - X) / 18446744073709551616) = 0 := gd_n (by omega) _
       have g2 : gdF (rgE (0 - X)) ((0 - X) % 18446744073709551616) = 0 := gd_n (by omega) _
       omega)
    | (exfalso
       have g1 : gdF (rgE (X + Y)) ((X + Y) / 18446744073709551616) = 0 := gd_n (by omega) _
       have g2 : gdF (rgE (X + Y)) ((X + Y) % 18446744073709551616) = 0 := gd_n (by omega) _
       omega)
    | (exfalso
       have g1 : gdF (r6E X) X = 0 := gd_n (by omega) _
       omega)
    | skip
theorem wbg_wS53 : wbc_wS53.Good Tryd.prog syG (wbE [] [] [] []) := good_of_walkC (Γ := ⟨[wac_bfrom, wac_wadd, wac_wneg, wac_wint, wbc_baddN, wbc_baddM, wbc_btoN, wbc_btoF, wbc_btoT, wbc_bzeroN, wbc_bnumN, wac_num, wbc_lisO, wbc_lis2, wbc_lis3, wbc_lis4, wac_wcmp, wac_wof, wbc_bintO, wac_wmul, wbc_bmulO, wbc_sure], syG, [], [], []⟩) (ρ := wbE [] [] [] []) sym wS53_w rfl (fun _ _ _ _ => (ok_cons (Con.Good.env (Con.Good.up wag_bfrom wbup rfl) _ _ _ _) (ok_cons (Con.Good.env (Con.Good.up wag_wadd wbup rfl) _ _ _ _) (ok_cons (Con.Good.env (Con.Good.up wag_wneg wbup rfl) _ _ _ _) (ok_cons (Con.Good.env (Con.Good.up wag_wint wbup rfl) _ _ _ _) (ok_cons (Con.Good.env wbg_baddN _ _ _ _) (ok_cons (Con.Good.env wbg_baddM _ _ _ _) (ok_cons (Con.Good.env wbg_btoN _ _ _ _) (ok_cons (Con.Good.env wbg_btoF _ _ _ _) (ok_cons (Con.Good.env wbg_btoT _ _ _ _) (ok_cons (Con.Good.env wbg_bzeroN _ _ _ _) (ok_cons (Con.Good.env wbg_bnumN _ _ _ _) (ok_cons (Con.Good.env (Con.Good.up wag_num wbup rfl) _ _ _ _) (ok_cons (Con.Good.env wbg_lisO _ _ _ _) (ok_cons (Con.Good.env wbg_lis2 _ _ _ _) (ok_cons (Con.Good.env wbg_lis3 _ _ _ _) (ok_cons (Con.Good.env wbg_lis4 _ _ _ _) (ok_cons (Con.Good.env (Con.Good.up wag_wcmp wbup rfl) _ _ _ _) (ok_cons (Con.Good.env (Con.Good.up wag_wof wbup rfl) _ _ _ _) (ok_cons (Con.Good.env wbg_bintO _ _ _ _) (ok_cons (Con.Good.env (Con.Good.up wag_wmul wbup rfl) _ _ _ _) (ok_cons (Con.Good.env wbg_bmulO _ _ _ _) (ok_cons (Con.Good.env wbg_sure _ _ _ _) ok_nil))))))))))))))))))))))) wS53_h
end Go.Proofs.YtgondiedehjkhaaDoor
