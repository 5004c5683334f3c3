/-
 Layer 2 by the second engine: WideSums, a part.
-/
import Derived.Test.YtgondiedehjkhaaDoorSycsums
import Derived.Test.YtgondiedehjkhaaDoorWbsums
import Derived.Test.YtgondiedehjkhaaDoorMathsums
import Derived.Test.YtgondiedehjkhaaDoorNumsums
import Derived.IntWalk
namespace Go.Proofs.YtgondiedehjkhaaDoor
open Go.RowKit Go.Extern.Stop Go.Stop Go.Extern Go.Proofs.YtgondiedehjkhaaDoor.Sy
set_option linter.unusedVariables false
set_option linter.unusedSimpArgs false
abbrev xd2k2_ : Tm := (.iapp 3 (.cons z0_ (.cons z1_ .nil)))
abbrev xd2k15_ : Tm := (.iapp 3 (.cons z2_ (.cons z3_ .nil)))
abbrev xd2k0_ : Tm := (an_ (eq_ (.iapp 8 (.cons (.int .i64 (.iapp 6 (.cons (.int .i64 (ad_ xd2k2_ xd2k15_)) .nil))) (.cons (.int .i64 (.iapp 4 (.cons (.int .i64 (ad_ xd2k2_ xd2k15_)) .nil))) .nil))) (.lit 0)) (eq_ (.iapp 8 (.cons (.int .i64 (.iapp 6 (.cons (.int .i64 (ad_ xd2k2_ xd2k15_)) .nil))) (.cons (.int .i64 (.iapp 5 (.cons (.int .i64 (ad_ xd2k2_ xd2k15_)) .nil))) .nil))) (.lit 0)))
abbrev xd2k7_ : Tm := (le_ (.lit (-1569275433846670190958947355801916604025588861116008628224)) xd2k2_)
abbrev xd2k16_ : Tm := (an_ xd2k7_ (le_ xd2k2_ (.lit 1569275433846670190958947355801916604025588861116008628224)))
abbrev xd2k1_ : Tm := (an_ xd2k16_ (an_ (le_ (.lit (-1569275433846670190958947355801916604025588861116008628224)) xd2k15_) (le_ xd2k15_ (.lit 1569275433846670190958947355801916604025588861116008628224))))
abbrev xd2k14_ : Tm := (an_ (le_ lm_ v4_) (le_ v4_ lM_))
abbrev xd2k18_ : Tm := (an_ (le_ lm_ v5_) (le_ v5_ lM_))
abbrev xd2k3_ : Tm := (an_ (an_ (an_ (an_ (le_ lm_ v0_) (le_ v0_ lM_)) (an_ (an_ (le_ (.lit 0) v1_) (le_ v1_ (.lit 18446744073709551615))) (an_ (an_ (le_ lm_ v2_) (le_ v2_ lM_)) (an_ (an_ (le_ (.lit 0) v3_) (le_ v3_ (.lit 18446744073709551615))) (an_ xd2k14_ xd2k18_))))) (.bapp 0 (.cons (.int .i64 xd2k2_) .nil))) (.not (eq_ (.iapp 6 (.cons (.int .i64 (ad_ xd2k2_ xd2k15_)) .nil)) (.lit 0))))
abbrev xd2k13_ : Tm := (an_ (an_ (le_ lm_ v2_) (le_ v2_ lM_)) (an_ (le_ (.lit 0) v3_) (le_ v3_ (.lit 18446744073709551615))))
abbrev xd2k4_ : Tm := (an_ (an_ (le_ lm_ v0_) (le_ v0_ lM_)) (an_ (an_ (le_ (.lit 0) v1_) (le_ v1_ (.lit 18446744073709551615))) xd2k13_))
abbrev xd2k5_ : Tm := (an_ (an_ (le_ lm_ v0_) (le_ v0_ lM_)) (an_ (le_ (.lit 0) v1_) (le_ v1_ (.lit 18446744073709551615))))
abbrev xd2k6_ : Tm := (an_ (le_ (.lit (-1569275433846670190958947355801916604025588861116008628224)) (ad_ xd2k2_ xd2k15_)) (le_ (ad_ xd2k2_ xd2k15_) (.lit 1569275433846670190958947355801916604025588861116008628224)))
abbrev xd2k8_ : Tm := (an_ (le_ (.lit (-1569275433846670190958947355801916604025588861116008628224)) (sb_ xd2k2_ xd2k15_)) (le_ (sb_ xd2k2_ xd2k15_) (.lit 1569275433846670190958947355801916604025588861116008628224)))
abbrev xd2k9_ : Tm := (an_ (eq_ (.iapp 6 (.cons (.int .i64 (ml_ v4_ v5_)) .nil)) (.lit 0)) (an_ (le_ (.lit (-1569275433846670190958947355801916604025588861116008628224)) (ml_ v4_ v5_)) (le_ (ml_ v4_ v5_) (.lit 1569275433846670190958947355801916604025588861116008628224))))
abbrev xd2k10_ : Tm := (.iapp 6 (.cons (.int .i64 (sb_ (.lit 0) xd2k2_)) .nil))
abbrev xd2k11_ : Tm := (an_ (eq_ (.iapp 6 (.cons z4_ .nil)) (.lit 0)) (an_ (le_ (.lit (-1569275433846670190958947355801916604025588861116008628224)) v4_) (le_ v4_ (.lit 1569275433846670190958947355801916604025588861116008628224))))
abbrev xd2k12_ : Tm := (an_ (eq_ (.iapp 8 (.cons (.int .i64 xd2k10_) (.cons (.int .i64 (.iapp 4 (.cons (.int .i64 (sb_ (.lit 0) xd2k2_)) .nil))) .nil))) (.lit 0)) (eq_ (.iapp 8 (.cons (.int .i64 xd2k10_) (.cons (.int .i64 (.iapp 5 (.cons (.int .i64 (sb_ (.lit 0) xd2k2_)) .nil))) .nil))) (.lit 0)))
abbrev xd2k22_ : Tm := (eq_ (.iapp 6 (.cons (.int .i64 (ad_ xd2k2_ xd2k15_)) .nil)) (.lit 2))
abbrev xd2k25_ : Tm := (.iapp 7 (.cons (.int .i64 xd2k2_) .nil))
abbrev xd2k17_ : Tm := (an_ (an_ (an_ (an_ xd2k3_ (eq_ xd2k10_ (.lit 0))) xd2k22_) xd2k0_) (.not (eq_ xd2k25_ (.lit 0))))
abbrev xd2k19_ : Tm := (.agg (.cons z2_ (.cons (.int .u64 v3_) .nil)))
abbrev xd2k20_ : Tm := (.agg (.cons z0_ (.cons (.int .u64 v1_) .nil)))
abbrev xd2k21_ : Tm := (an_ (eq_ xd2k10_ (.lit 0)) (an_ xd2k7_ (le_ xd2k2_ (.lit 0))))
abbrev xd2k23_ : Tm := (.agg (.cons z4_ (.cons z5_ .nil)))
abbrev xd2k24_ : Tm := (.iapp 13 (.cons (.int .i64 (sb_ xd2k2_ xd2k15_)) .nil))
def wS18_tree : Tree :=
 (.need xd2k5_
 (.need xd2k13_
 (.need xd2k4_
 (.need xd2k5_
 (.need xd2k5_
 (.need xd2k1_
 (.need xd2k6_
 (.need (an_ xd2k7_ (le_ xd2k2_ (.lit 0)))
 (.need xd2k16_
 (.need xd2k21_
 (.br (.not xd2k0_)
 (.ret (.bool (.tt false)))
 (.need xd2k1_
 (.need xd2k8_
 (.need xd2k4_
 (.br (eq_ xd2k24_ (.lit 1))
 (.need xd2k14_
 (.need xd2k14_
 (.need xd2k11_
 (.need (an_ xd2k14_ xd2k18_)
 (.need xd2k14_
 (.need xd2k18_
 (.need (an_ xd2k14_ xd2k18_)
 (.need xd2k9_
 (.ret (.bool (.tt true)))))))))))
 (.ret (.bool (.tt false))))))))))))))))))
abbrev wbc_wS18 : Con := ⟨3, [xd2k20_, xd2k19_, xd2k23_], (an_ (an_ (an_ (an_ (an_ (an_ xd2k3_ (eq_ xd2k10_ (.lit 0))) xd2k22_) xd2k0_) (eq_ xd2k25_ (.lit 0))) (.not (eq_ (sb_ xd2k2_ xd2k15_) (.lit 0)))) (.not (.bapp 0 (.cons (.int .i64 (sb_ xd2k2_ xd2k15_)) .nil)))), (.bool (.tt true)), ⟨6, 0, 0, 0⟩, none⟩
theorem wS18_w : walkQ Tryd.prog 142 ⟨[wac_bfrom, wac_wadd, wac_wneg, wac_wint, wbc_baddN, wbc_baddM, wbc_btoN, wbc_btoF, wbc_btoT, wbc_bzeroN, wbc_bnumN, wac_num, wbc_lisO, wbc_lis2, wbc_lis3, wbc_lis4, wac_wcmp, wac_wof, wbc_bintO, wac_wmul, wbc_bmulO, wbc_sure], syG, [], [], []⟩ [] .v wbc_wS18 wbc_wS18.n 3000 (pcOf wbc_wS18.cnd) = some wS18_tree := by kernel_rfl
set_option maxHeartbeats 2000000 in
theorem wS18_h (xh xl yh yl o0 o1 : Int) : Hyp_ wbc_wS18 wS18_tree (wbE [xh, xl, yh, yl, o0, o1] [] [] []) := by
 intro hc hty
 simp only [wbc_wS18, Sy.holds, wbE, denV, denI, denB, denL, I2.den, VOp.den, List.getD_cons_zero, List.getD_cons_succ, Cst.den, syso, syse, syio, sybo, wbi_wv, wbi_wh, wbi_wl, wbi_rg, wbi_r6, wbi_gd, wbb_ng, B2.ofInts, B2.denI, B2.denB, if_true, Bool.false_eq_true, if_false, Nat.div_one, Nat.mul_one, Nat.add_zero] at hc
 simp only [wbc_wS18, patsTyp, patTyp, patTypL, wbE, denV, denL, List.getD_cons_zero, List.getD_cons_succ, and_true, true_and] at hty
 unfold wS18_tree
 simp only [wbc_wS18, Tree.holds, Sy.holds, wbE, denV, denI, denB, denL, I2.den, VOp.den, List.getD_cons_zero, List.getD_cons_succ, Cst.den, syso, syse, syio, sybo, wbi_wv, wbi_wh, wbi_wl, wbi_rg, wbi_gd, wbi_cp, B2.ofInts, B2.denI, B2.denB, if_true, Bool.false_eq_true, if_false, Nat.div_one, Nat.mul_one, Nat.add_zero]
 have hl := hc.1.1.1.1.1.1.1.1
 have ra := rg_spec (wvI xh xl + wvI yh yl)
 have rb := rg_spec (0 - wvI xh xl)
 have rc := r6_spec (wvI xh xl)
 have rd := cp_spec (wvI xh xl - wvI yh yl)
 have re := rg_spec (o0 * o1)
 have rf := rg_spec o0
 have x0 : wvI xh xl = xh * 18446744073709551616 + xl := rfl
 have y0 : wvI yh yl = yh * 18446744073709551616 + yl := rfl
 have hm := mul_rng (a := o0) (b := o1) hl.2.2.2.2.1 hl.2.2.2.2.2
 generalize wvI xh xl = X at *
 generalize wvI yh yl = Y at *
 generalize o0 * o1 = M at *
 refine ⟨?a0, fun h0 => ?_⟩; rotate_left
 refine ⟨?a1, fun h1 => ?_⟩; rotate_left
 refine ⟨?a2, fun h2 => ?_⟩; rotate_left
 refine ⟨?a3, fun h3 => ?_⟩; rotate_left
 refine ⟨?a4, fun h4 => ?_⟩; rotate_left
 refine ⟨?a5, fun h5 => ?_⟩; rotate_left
 refine ⟨?a6, fun h6 => ?_⟩; rotate_left
 refine ⟨?a7, fun h7 => ?_⟩; rotate_left
 refine ⟨?a8, fun h8 => ?_⟩; rotate_left
 refine ⟨?a9, fun h9 => ?_⟩; rotate_left
 refine ⟨fun h10 => ?_, fun h10 => ?_⟩
 refine ?a10; rotate_left
 refine ⟨?a11, fun h11 => ?_⟩; rotate_left
 refine ⟨?a12, fun h12 => ?_⟩; rotate_left
 refine ⟨?a13, fun h13 => ?_⟩; rotate_left
 refine ⟨fun h14 => ?_, fun h14 => ?_⟩
 refine ⟨?a14, fun h15 => ?_⟩; rotate_left
 refine ⟨?a15, fun h16 => ?_⟩; rotate_left
 refine ⟨?a16, fun h17 => ?_⟩; rotate_left
 refine ⟨?a17, fun h18 => ?_⟩; rotate_left
 refine ⟨?a18, fun h19 => ?_⟩; rotate_left
 refine ⟨?a19, fun h20 => ?_⟩; rotate_left
 refine ⟨?a20, fun h21 => ?_⟩; rotate_left
 refine ⟨?a21, fun h22 => ?_⟩; rotate_left
 refine ?a22; rotate_left
 refine ?a23; rotate_left
 case a0 | a1 | a2 | a3 | a4 | a5 | a6 | a7 | a8 | a9 | a11 | a12 | a13 | a14 | a15 | a16 | a17 | a18 | a19 | a20 | a21 =>
  as_aux_lemma =>
    first
    | exact True.intro
    | omega
    | (simp only [decide_eq_true_eq] at *; omega)
    | skip
 case a10 | a22 | a23 =>
  as_aux_lemma =>
    first
    | exact True.intro
    | rfl
    | (simp only [decide_eq_true_eq] at *; exfalso; omega)
    | (exfalso; omega)
    | (exfalso
       have g1 : gdF (rgE (0 - X)) ((0 - X) / 18446744073709551616) = 0 := gd_n (by omega) _
       have g2 : gdF (rgE (0 - X)) ((0 - X) % 18446744073709551616) = 0 := gd_n (by omega) _
       omega)
    | (exfalso
       have g1 : gdF (rgE (X + Y)) ((X + Y) / 18446744073709551616) = 0 := gd_n (by omega) _
       have g2 : gdF (rgE (X + Y)) ((X + Y) % 18446744073709551616) = 0 := gd_n (by omega) _
       omega)
    | (exfalso
       have g1 : gdF (r6E X) X = 0 := gd_n (by omega) _
       omega)
    | skip
theorem wbg_wS18 : wbc_wS18.Good Tryd.prog syG (wbE [] [] [] []) := good_of_walkC (Γ := ⟨[wac_bfrom, wac_wadd, wac_wneg, wac_wint, wbc_baddN, wbc_baddM, wbc_btoN, wbc_btoF, wbc_btoT, wbc_bzeroN, wbc_bnumN, wac_num, wbc_lisO, wbc_lis2, wbc_lis3, wbc_lis4, wac_wcmp, wac_wof, wbc_bintO, wac_wmul, wbc_bmulO, wbc_sure], syG, [], [], []⟩) (ρ := wbE [] [] [] []) sym wS18_w rfl (fun _ _ _ _ => (ok_cons (Con.Good.env (Con.Good.up wag_bfrom wbup rfl) _ _ _ _) (ok_cons (Con.Good.env (Con.Good.up wag_wadd wbup rfl) _ _ _ _) (ok_cons (Con.Good.env (Con.Good.up wag_wneg wbup rfl) _ _ _ _) (ok_cons (Con.Good.env (Con.Good.up wag_wint wbup rfl) _ _ _ _) (ok_cons (Con.Good.env wbg_baddN _ _ _ _) (ok_cons (Con.Good.env wbg_baddM _ _ _ _) (ok_cons (Con.Good.env wbg_btoN _ _ _ _) (ok_cons (Con.Good.env wbg_btoF _ _ _ _) (ok_cons (Con.Good.env wbg_btoT _ _ _ _) (ok_cons (Con.Good.env wbg_bzeroN _ _ _ _) (ok_cons (Con.Good.env wbg_bnumN _ _ _ _) (ok_cons (Con.Good.env (Con.Good.up wag_num wbup rfl) _ _ _ _) (ok_cons (Con.Good.env wbg_lisO _ _ _ _) (ok_cons (Con.Good.env wbg_lis2 _ _ _ _) (ok_cons (Con.Good.env wbg_lis3 _ _ _ _) (ok_cons (Con.Good.env wbg_lis4 _ _ _ _) (ok_cons (Con.Good.env (Con.Good.up wag_wcmp wbup rfl) _ _ _ _) (ok_cons (Con.Good.env (Con.Good.up wag_wof wbup rfl) _ _ _ _) (ok_cons (Con.Good.env wbg_bintO _ _ _ _) (ok_cons (Con.Good.env (Con.Good.up wag_wmul wbup rfl) _ _ _ _) (ok_cons (Con.Good.env wbg_bmulO _ _ _ _) (ok_cons (Con.Good.env wbg_sure _ _ _ _) ok_nil))))))))))))))))))))))) wS18_h
def wS19_tree : Tree :=
 (.need xd2k5_
 (.need xd2k13_
 (.need xd2k4_
 (.need xd2k5_
 (.need xd2k5_
 (.need xd2k1_
 (.need xd2k6_
 (.need (an_ xd2k7_ (le_ xd2k2_ (.lit 0)))
 (.need xd2k16_
 (.need xd2k21_
 (.br (.not xd2k0_)
 (.ret (.bool (.tt false)))
 (.need xd2k1_
 (.need xd2k8_
 (.need xd2k4_
 (.br (eq_ xd2k24_ (.lit 0))
 (.need xd2k14_
 (.need xd2k14_
 (.need xd2k11_
 (.need (an_ xd2k14_ xd2k18_)
 (.need xd2k14_
 (.need xd2k18_
 (.need (an_ xd2k14_ xd2k18_)
 (.need xd2k9_
 (.ret (.bool (.tt true)))))))))))
 (.ret (.bool (.tt false))))))))))))))))))
abbrev wbc_wS19 : Con := ⟨3, [xd2k20_, xd2k19_, xd2k23_], (an_ (an_ xd2k17_ (eq_ xd2k25_ (.lit 2))) (eq_ (sb_ xd2k2_ xd2k15_) (.lit 0))), (.bool (.tt true)), ⟨6, 0, 0, 0⟩, none⟩
theorem wS19_w : walkQ Tryd.prog 142 ⟨[wac_bfrom, wac_wadd, wac_wneg, wac_wint, wbc_baddN, wbc_baddM, wbc_btoN, wbc_btoF, wbc_btoT, wbc_bzeroN, wbc_bnumN, wac_num, wbc_lisO, wbc_lis2, wbc_lis3, wbc_lis4, wac_wcmp, wac_wof, wbc_bintO, wac_wmul, wbc_bmulO, wbc_sure], syG, [], [], []⟩ [] .v wbc_wS19 wbc_wS19.n 3000 (pcOf wbc_wS19.cnd) = some wS19_tree := by kernel_rfl
set_option maxHeartbeats 2000000 in
theorem wS19_h (xh xl yh yl o0 o1 : Int) : Hyp_ wbc_wS19 wS19_tree (wbE [xh, xl, yh, yl, o0, o1] [] [] []) := by
 intro hc hty
 simp only [wbc_wS19, Sy.holds, wbE, denV, denI, denB, denL, I2.den, VOp.den, List.getD_cons_zero, List.getD_cons_succ, Cst.den, syso, syse, syio, sybo, wbi_wv, wbi_wh, wbi_wl, wbi_rg, wbi_r6, wbi_gd, wbb_ng, B2.ofInts, B2.denI, B2.denB, if_true, Bool.false_eq_true, if_false, Nat.div_one, Nat.mul_one, Nat.add_zero] at hc
 simp only [wbc_wS19, patsTyp, patTyp, patTypL, wbE, denV, denL, List.getD_cons_zero, List.getD_cons_succ, and_true, true_and] at hty
 unfold wS19_tree
 simp only [wbc_wS19, Tree.holds, Sy.holds, wbE, denV, denI, denB, denL, I2.den, VOp.den, List.getD_cons_zero, List.getD_cons_succ, Cst.den, syso, syse, syio, sybo, wbi_wv, wbi_wh, wbi_wl, wbi_rg, wbi_gd, wbi_cp, B2.ofInts, B2.denI, B2.denB, if_true, Bool.false_eq_true, if_false, Nat.div_one, Nat.mul_one, Nat.add_zero]
 have hl := hc.1.1.1.1.1.1.1.1
 have ra := rg_spec (wvI xh xl + wvI yh yl)
 have rb := rg_spec (0 - wvI xh xl)
 have rc := r6_spec (wvI xh xl)
 have rd := cp_spec (wvI xh xl - wvI yh yl)
 have re := rg_spec (o0 * o1)
 have rf := rg_spec o0
 have x0 : wvI xh xl = xh * 18446744073709551616 + xl := rfl
 have y0 : wvI yh yl = yh * 18446744073709551616 + yl := rfl
 have hm := mul_rng (a := o0) (b := o1) hl.2.2.2.2.1 hl.2.2.2.2.2
 generalize wvI xh xl = X at *
 generalize wvI yh yl = Y at *
 generalize o0 * o1 = M at *
 refine ⟨?a0, fun h0 => ?_⟩; rotate_left
 refine ⟨?a1, fun h1 => ?_⟩; rotate_left
 refine ⟨?a2, fun h2 => ?_⟩; rotate_left
 refine ⟨?a3, fun h3 => ?_⟩; rotate_left
 refine ⟨?a4, fun h4 => ?_⟩; rotate_left
 refine ⟨?a5, fun h5 => ?_⟩; rotate_left
 refine ⟨?a6, fun h6 => ?_⟩; rotate_left
 refine ⟨?a7, fun h7 => ?_⟩; rotate_left
 refine ⟨?a8, fun h8 => ?_⟩; rotate_left
 refine ⟨?a9, fun h9 => ?_⟩; rotate_left
 refine ⟨fun h10 => ?_, fun h10 => ?_⟩
 refine ?a10; rotate_left
 refine ⟨?a11, fun h11 => ?_⟩; rotate_left
 refine ⟨?a12, fun h12 => ?_⟩; rotate_left
 refine ⟨?a13, fun h13 => ?_⟩; rotate_left
 refine ⟨fun h14 => ?_, fun h14 => ?_⟩
 refine ⟨?a14, fun h15 => ?_⟩; rotate_left
 refine ⟨?a15, fun h16 => ?_⟩; rotate_left
 refine ⟨?a16, fun h17 => ?_⟩; rotate_left
 refine ⟨?a17, fun h18 => ?_⟩; rotate_left
 refine ⟨?a18, fun h19 => ?_⟩; rotate_left
 refine ⟨?a19, fun h20 => ?_⟩; rotate_left
 refine ⟨?a20, fun h21 => ?_⟩; rotate_left
 refine ⟨?a21, fun h22 => ?_⟩; rotate_left
 refine ?a22; rotate_left
 refine ?a23; rotate_left
 case a0 | a1 | a2 | a3 | a4 | a5 | a6 | a7 | a8 | a9 | a11 | a12 | a13 | a14 | a15 | a16 | a17 | a18 | a19 | a20 | a21 =>
  as_aux_lemma =>
    first
    | exact True.intro
    | omega
    | (simp only [decide_eq_true_eq] at *; omega)
    | skip
 case a10 | a22 | a23 =>
  as_aux_lemma =>
    first
    | exact True.intro
    | rfl
    | (simp only [decide_eq_true_eq] at *; exfalso; omega)
    | (exfalso; omega)
    | (exfalso
       have g1 : gdF (rgE (0 - X)) ((0 - X) / 18446744073709551616) = 0 := gd_n (by omega) _
       have g2 : gdF (rgE (0 - X)) ((0 - X) % 18446744073709551616) = 0 := gd_n (by omega) _
       omega)
    | (exfalso
       have g1 : gdF (rgE (X + Y)) ((X + Y) / 18446744073709551616) = 0 := gd_n (by omega) _
       have g2 : gdF (rgE (X + Y)) ((X + Y) % 18446744073709551616) = 0 := gd_n (by omega) _
       omega)
    | (exfalso
       have g1 : gdF (r6E X) X = 0 := gd_n (by omega) _
       omega)
    | skip
theorem wbg_wS19 : wbc_wS19.Good Tryd.prog syG (wbE [] [] [] []) := good_of_walkC (Γ := ⟨[wac_bfrom, wac_wadd, wac_wneg, wac_wint, wbc_baddN, wbc_baddM, wbc_btoN, wbc_btoF, wbc_btoT, wbc_bzeroN, wbc_bnumN, wac_num, wbc_lisO, wbc_lis2, wbc_lis3, wbc_lis4, wac_wcmp, wac_wof, wbc_bintO, wac_wmul, wbc_bmulO, wbc_sure], syG, [], [], []⟩) (ρ := wbE [] [] [] []) sym wS19_w rfl (fun _ _ _ _ => (ok_cons (Con.Good.env (Con.Good.up wag_bfrom wbup rfl) _ _ _ _) (ok_cons (Con.Good.env (Con.Good.up wag_wadd wbup rfl) _ _ _ _) (ok_cons (Con.Good.env (Con.Good.up wag_wneg wbup rfl) _ _ _ _) (ok_cons (Con.Good.env (Con.Good.up wag_wint wbup rfl) _ _ _ _) (ok_cons (Con.Good.env wbg_baddN _ _ _ _) (ok_cons (Con.Good.env wbg_baddM _ _ _ _) (ok_cons (Con.Good.env wbg_btoN _ _ _ _) (ok_cons (Con.Good.env wbg_btoF _ _ _ _) (ok_cons (Con.Good.env wbg_btoT _ _ _ _) (ok_cons (Con.Good.env wbg_bzeroN _ _ _ _) (ok_cons (Con.Good.env wbg_bnumN _ _ _ _) (ok_cons (Con.Good.env (Con.Good.up wag_num wbup rfl) _ _ _ _) (ok_cons (Con.Good.env wbg_lisO _ _ _ _) (ok_cons (Con.Good.env wbg_lis2 _ _ _ _) (ok_cons (Con.Good.env wbg_lis3 _ _ _ _) (ok_cons (Con.Good.env wbg_lis4 _ _ _ _) (ok_cons (Con.Good.env (Con.Good.up wag_wcmp wbup rfl) _ _ _ _) (ok_cons (Con.Good.env (Con.Good.up wag_wof wbup rfl) _ _ _ _) (ok_cons (Con.Good.env wbg_bintO _ _ _ _) (ok_cons (Con.Good.env (Con.Good.up wag_wmul wbup rfl) _ _ _ _) (ok_cons (Con.Good.env wbg_bmulO _ _ _ _) (ok_cons (Con.Good.env wbg_sure _ _ _ _) ok_nil))))))))))))))))))))))) wS19_h
def wS20_tree : Tree :=
 (.need xd2k5_
 (.need xd2k13_
 (.need xd2k4_
 (.need xd2k5_
 (.need xd2k5_
 (.need xd2k1_
 (.need xd2k6_
 (.need (an_ xd2k7_ (le_ xd2k2_ (.lit 0)))
 (.need xd2k16_
 (.need xd2k21_
 (.br (.not xd2k0_)
 (.ret (.bool (.tt false)))
 (.need xd2k1_
 (.need xd2k8_
 (.need xd2k4_
 (.br (eq_ xd2k24_ (.lit (-1)))
 (.need xd2k14_
 (.need xd2k14_
 (.need xd2k11_
 (.need (an_ xd2k14_ xd2k18_)
 (.need xd2k14_
 (.need xd2k18_
 (.need (an_ xd2k14_ xd2k18_)
 (.need xd2k9_
 (.ret (.bool (.tt true)))))))))))
 (.ret (.bool (.tt false))))))))))))))))))
abbrev wbc_wS20 : Con := ⟨3, [xd2k20_, xd2k19_, xd2k23_], (an_ (an_ (an_ xd2k17_ (eq_ xd2k25_ (.lit 2))) (.not (eq_ (sb_ xd2k2_ xd2k15_) (.lit 0)))) (.bapp 0 (.cons (.int .i64 (sb_ xd2k2_ xd2k15_)) .nil))), (.bool (.tt true)), ⟨6, 0, 0, 0⟩, none⟩
theorem wS20_w : walkQ Tryd.prog 142 ⟨[wac_bfrom, wac_wadd, wac_wneg, wac_wint, wbc_baddN, wbc_baddM, wbc_btoN, wbc_btoF, wbc_btoT, wbc_bzeroN, wbc_bnumN, wac_num, wbc_lisO, wbc_lis2, wbc_lis3, wbc_lis4, wac_wcmp, wac_wof, wbc_bintO, wac_wmul, wbc_bmulO, wbc_sure], syG, [], [], []⟩ [] .v wbc_wS20 wbc_wS20.n 3000 (pcOf wbc_wS20.cnd) = some wS20_tree := by kernel_rfl
set_option maxHeartbeats 2000000 in
theorem wS20_h (xh xl yh yl o0 o1 : Int) : Hyp_ wbc_wS20 wS20_tree (wbE [xh, xl, yh, yl, o0, o1] [] [] []) := by
 intro hc hty
 simp only [wbc_wS20, Sy.holds, wbE, denV, denI, denB, denL, I2.den, VOp.den, List.getD_cons_zero, List.getD_cons_succ, Cst.den, syso, syse, syio, sybo, wbi_wv, wbi_wh, wbi_wl, wbi_rg, wbi_r6, wbi_gd, wbb_ng, B2.ofInts, B2.denI, B2.denB, if_true, Bool.false_eq_true, if_false, Nat.div_one, Nat.mul_one, Nat.add_zero] at hc
 simp only [wbc_wS20, patsTyp, patTyp, patTypL, wbE, denV, denL, List.getD_cons_zero, List.getD_cons_succ, and_true, true_and] at hty
 unfold wS20_tree
 simp only [wbc_wS20, Tree.holds, Sy.holds, wbE, denV, denI, denB, denL, I2.den, VOp.den, List.getD_cons_zero, List.getD_cons_succ, Cst.den, syso, syse, syio, sybo, wbi_wv, wbi_wh, wbi_wl, wbi_rg, wbi_gd, wbi_cp, B2.ofInts, B2.denI, B2.denB, if_true, Bool.false_eq_true, if_false, Nat.div_one, Nat.mul_one, Nat.add_zero]
 have hl := hc.1.1.1.1.1.1.1.1.1
 have ra := rg_spec (wvI xh xl + wvI yh yl)
 have rb := rg_spec (0 - wvI xh xl)
 have rc := r6_spec (wvI xh xl)
 have rd := cp_spec (wvI xh xl - wvI yh yl)
 have re := rg_spec (o0 * o1)
 have rf := rg_spec o0
 have x0 : wvI xh xl = xh * 18446744073709551616 + xl := rfl
 have y0 : wvI yh yl = yh * 18446744073709551616 + yl := rfl
 have hm := mul_rng (a := o0) (b := o1) hl.2.2.2.2.1 hl.2.2.2.2.2
 generalize wvI xh xl = X at *
 generalize wvI yh yl = Y at *
 generalize o0 * o1 = M at *
 refine ⟨?a0, fun h0 => ?_⟩; rotate_left
 refine ⟨?a1, fun h1 => ?_⟩; rotate_left
 refine ⟨?a2, fun h2 => ?_⟩; rotate_left
 refine ⟨?a3, fun h3 => ?_⟩; rotate_left
 refine ⟨?a4, fun h4 => ?_⟩; rotate_left
 refine ⟨?a5, fun h5 => ?_⟩; rotate_left
 refine ⟨?a6, fun h6 => ?_⟩; rotate_left
 refine ⟨?a7, fun h7 => ?_⟩; rotate_left
 refine ⟨?a8, fun h8 => ?_⟩; rotate_left
 refine ⟨?a9, fun h9 => ?_⟩; rotate_left
 refine ⟨fun h10 => ?_, fun h10 => ?_⟩
 refine ?a10; rotate_left
 refine ⟨?a11, fun h11 => ?_⟩; rotate_left
 refine ⟨?a12, fun h12 => ?_⟩; rotate_left
 refine ⟨?a13, fun h13 => ?_⟩; rotate_left
 refine ⟨fun h14 => ?_, fun h14 => ?_⟩
 refine ⟨?a14, fun h15 => ?_⟩; rotate_left
 refine ⟨?a15, fun h16 => ?_⟩; rotate_left
 refine ⟨?a16, fun h17 => ?_⟩; rotate_left
 refine ⟨?a17, fun h18 => ?_⟩; rotate_left
 refine ⟨?a18, fun h19 => ?_⟩; rotate_left
 refine ⟨?a19, fun h20 => ?_⟩; rotate_left
 refine ⟨?a20, fun h21 => ?_⟩; rotate_left
 refine ⟨?a21, fun h22 => ?_⟩; rotate_left
 refine ?a22; rotate_left
 refine ?a23; rotate_left
 case a0 | a1 | a2 | a3 | a4 | a5 | a6 | a7 | a8 | a9 | a11 | a12 | a13 | a14 | a15 | a16 | a17 | a18 | a19 | a20 | a21 =>
  as_aux_lemma =>
    first
    | exact True.intro
    | omega
    | (simp only [decide_eq_true_eq] at *; omega)
    | skip
 case a10 | a22 | a23 =>
  as_aux_lemma =>
    first
    | exact True.intro
    | rfl
    | (simp only [decide_eq_true_eq] at *; exfalso; omega)
    | (exfalso; omega)
    | (exfalso
       have g1 : gdF (rgE (0 - X)) ((0 - X) / 18446744073709551616) = 0 := gd_n (by omega) _
       have g2 : gdF (rgE (0 - X)) ((0 - X) % 18446744073709551616) = 0 := gd_n (by omega) _
       omega)
    | (exfalso
       have g1 : gdF (rgE (X + Y)) ((X + Y) / 18446744073709551616) = 0 := gd_n (by omega) _
       have g2 : gdF (rgE (X + Y)) ((X + Y) % 18446744073709551616) = 0 := gd_n (by omega) _
       omega)
    | (exfalso
       have g1 : gdF (r6E X) X = 0 := gd_n (by omega) _
       omega)
    | skip
theorem wbg_wS20 : wbc_wS20.Good Tryd.prog syG (wbE [] [] [] []) := good_of_walkC (Γ := ⟨[wac_bfrom, wac_wadd, wac_wneg, wac_wint, wbc_baddN, wbc_baddM, wbc_btoN, wbc_btoF, wbc_btoT, wbc_bzeroN, wbc_bnumN, wac_num, wbc_lisO, wbc_lis2, wbc_lis3, wbc_lis4, wac_wcmp, wac_wof, wbc_bintO, wac_wmul, wbc_bmulO, wbc_sure], syG, [], [], []⟩) (ρ := wbE [] [] [] []) sym wS20_w rfl (fun _ _ _ _ => (ok_cons (Con.Good.env (Con.Good.up wag_bfrom wbup rfl) _ _ _ _) (ok_cons (Con.Good.env (Con.Good.up wag_wadd wbup rfl) _ _ _ _) (ok_cons (Con.Good.env (Con.Good.up wag_wneg wbup rfl) _ _ _ _) (ok_cons (Con.Good.env (Con.Good.up wag_wint wbup rfl) _ _ _ _) (ok_cons (Con.Good.env wbg_baddN _ _ _ _) (ok_cons (Con.Good.env wbg_baddM _ _ _ _) (ok_cons (Con.Good.env wbg_btoN _ _ _ _) (ok_cons (Con.Good.env wbg_btoF _ _ _ _) (ok_cons (Con.Good.env wbg_btoT _ _ _ _) (ok_cons (Con.Good.env wbg_bzeroN _ _ _ _) (ok_cons (Con.Good.env wbg_bnumN _ _ _ _) (ok_cons (Con.Good.env (Con.Good.up wag_num wbup rfl) _ _ _ _) (ok_cons (Con.Good.env wbg_lisO _ _ _ _) (ok_cons (Con.Good.env wbg_lis2 _ _ _ _) (ok_cons (Con.Good.env wbg_lis3 _ _ _ _) (ok_cons (Con.Good.env wbg_lis4 _ _ _ _) (ok_cons (Con.Good.env (Con.Good.up wag_wcmp wbup rfl) _ _ _ _) (ok_cons (Con.Good.env (Con.Good.up wag_wof wbup rfl) _ _ _ _) (ok_cons (Con.Good.env wbg_bintO _ _ _ _) (ok_cons (Con.Good.env (Con.Good.up wag_wmul wbup rfl) _ _ _ _) (ok_cons (Con.Good.env wbg_bmulO _ _ _ _) (ok_cons (Con.Good.env wbg_sure _ _ _ _) ok_nil))))))))))))))))))))))) wS20_h
def wS21_tree : Tree :=
 (.need xd2k5_
 (.need xd2k13_
 (.need xd2k4_
 (.need xd2k5_
 (.need xd2k5_
 (.need xd2k1_
 (.need xd2k6_
 (.need (an_ xd2k7_ (le_ xd2k2_ (.lit 0)))
 (.need xd2k16_
 (.need xd2k21_
 (.br (.not xd2k0_)
 (.ret (.bool (.tt false)))
 (.need xd2k1_
 (.need xd2k8_
 (.need xd2k4_
 (.br (eq_ xd2k24_ (.lit 1))
 (.need xd2k14_
 (.need xd2k14_
 (.need xd2k11_
 (.need (an_ xd2k14_ xd2k18_)
 (.need xd2k14_
 (.need xd2k18_
 (.need (an_ xd2k14_ xd2k18_)
 (.need xd2k9_
 (.ret (.bool (.tt true)))))))))))
 (.ret (.bool (.tt false))))))))))))))))))
abbrev wbc_wS21 : Con := ⟨3, [xd2k20_, xd2k19_, xd2k23_], (an_ (an_ (an_ xd2k17_ (eq_ xd2k25_ (.lit 2))) (.not (eq_ (sb_ xd2k2_ xd2k15_) (.lit 0)))) (.not (.bapp 0 (.cons (.int .i64 (sb_ xd2k2_ xd2k15_)) .nil)))), (.bool (.tt true)), ⟨6, 0, 0, 0⟩, none⟩
theorem wS21_w : walkQ Tryd.prog 142 ⟨[wac_bfrom, wac_wadd, wac_wneg, wac_wint, wbc_baddN, wbc_baddM, wbc_btoN, wbc_btoF, wbc_btoT, wbc_bzeroN, wbc_bnumN, wac_num, wbc_lisO, wbc_lis2, wbc_lis3, wbc_lis4, wac_wcmp, wac_wof, wbc_bintO, wac_wmul, wbc_bmulO, wbc_sure], syG, [], [], []⟩ [] .v wbc_wS21 wbc_wS21.n 3000 (pcOf wbc_wS21.cnd) = some wS21_tree := by kernel_rfl
set_option maxHeartbeats 2000000 in
theorem wS21_h (xh xl yh yl o0 o1 : Int) : Hyp_ wbc_wS21 wS21_tree (wbE [xh, xl, yh, yl, o0, o1] [] [] []) := by
 intro hc hty
 simp only [wbc_wS21, Sy.holds, wbE, denV, denI, denB, denL, I2.den, VOp.den, List.getD_cons_zero, List.getD_cons_succ, Cst.den, syso, syse, syio, sybo, wbi_wv, wbi_wh, wbi_wl, wbi_rg, wbi_r6, wbi_gd, wbb_ng, B2.ofInts, B2.denI, B2.denB, if_true, Bool.false_eq_true, if_false, Nat.div_one, Nat.mul_one, Nat.add_zero] at hc
 simp only [wbc_wS21, patsTyp, patTyp, patTypL, wbE, denV, denL, List.getD_cons_zero, List.getD_cons_succ, and_true, true_and] at hty
 unfold wS21_tree
 simp only [wbc_wS21, Tree.holds, Sy.holds, wbE, denV, denI, denB, denL, I2.den, VOp.den, List.getD_cons_zero, List.getD_cons_succ, Cst.den, syso, syse, syio, sybo, wbi_wv, wbi_wh, wbi_wl, wbi_rg, wbi_gd, wbi_cp, B2.ofInts, B2.denI, B2.denB, if_true, Bool.false_eq_true, if_false, Nat.div_one, Nat.mul_one, Nat.add_zero]
 have hl := hc.1.1.1.1.1.1.1.1.1
 have ra := rg_spec (wvI xh xl + wvI yh yl)
 have rb := rg_spec (0 - wvI xh xl)
 have rc := r6_spec (wvI xh xl)
 have rd := cp_spec (wvI xh xl - wvI yh yl)
 have re := rg_spec (o0 * o1)
 have rf := rg_spec o0
 have x0 : wvI xh xl = xh * 18446744073709551616 + xl := rfl
 have y0 : wvI yh yl = yh * 18446744073709551616 + yl := rfl
 have hm := mul_rng (a := o0) (b := o1) hl.2.2.2.2.1 hl.2.2.2.2.2
 generalize wvI xh xl = X at *
 generalize wvI yh yl = Y at *
 generalize o0 * o1 = M at *
 refine ⟨?a0, fun h0 => ?_⟩; rotate_left
 refine ⟨?a1, fun h1 => ?_⟩; rotate_left
 refine ⟨?a2, fun h2 => ?_⟩; rotate_left
 refine ⟨?a3, fun h3 => ?_⟩; rotate_left
 refine ⟨?a4, fun h4 => ?_⟩; rotate_left
 refine ⟨?a5, fun h5 => ?_⟩; rotate_left
 refine ⟨?a6, fun h6 => ?_⟩; rotate_left
 refine ⟨?a7, fun h7 => ?_⟩; rotate_left
 refine ⟨?a8, fun h8 => ?_⟩; rotate_left
 refine ⟨?a9, fun h9 => ?_⟩; rotate_left
 refine ⟨fun h10 => ?_, fun h10 => ?_⟩
 refine ?a10; rotate_left
 refine ⟨?a11, fun h11 => ?_⟩; rotate_left
 refine ⟨?a12, fun h12 => ?_⟩; rotate_left
 refine ⟨?a13, fun h13 => ?_⟩; rotate_left
 refine ⟨fun h14 => ?_, fun h14 => ?_⟩
 refine ⟨?a14, fun h15 => ?_⟩; rotate_left
 refine ⟨?a15, fun h16 => ?_⟩; rotate_left
 refine ⟨?a16, fun h17 => ?_⟩; rotate_left
 refine ⟨?a17, fun h18 => ?_⟩; rotate_left
 refine ⟨?a18, fun h19 => ?_⟩; rotate_left
 refine ⟨?a19, fun h20 => ?_⟩; rotate_left
 refine ⟨?a20, fun h21 => ?_⟩; rotate_left
 refine ⟨?a21, fun h22 => ?_⟩; rotate_left
 refine ?a22; rotate_left
 refine ?a23; rotate_left
 case a0 | a1 | a2 | a3 | a4 | a5 | a6 | a7 | a8 | a9 | a11 | a12 | a13 | a14 | a15 | a16 | a17 | a18 | a19 | a20 | a21 =>
  as_aux_lemma =>
    first
    | exact True.intro
    | omega
    | (simp only [decide_eq_true_eq] at *; omega)
    | skip
 case a10 | a22 | a23 =>
  as_aux_lemma =>
    first
    | exact True.intro
    | rfl
    | (simp only [decide_eq_true_eq] at *; exfalso; omega)
    | (exfalso; omega)
    | (exfalso
       have g1 : gdF (rgE (0 - X)) ((0 - X) / 18446744073709551616) = 0 := gd_n (by omega) _
       have g2 : gdF (rgE (0 - X)) ((0 - X) % 18446744073709551616) = 0 := gd_n (by omega) _
       omega)
    | (exfalso
       have g1 : gdF (rgE (X + Y)) ((X + Y) / 18446744073709551616) = 0 := gd_n (by omega) _
       have g2 : gdF (rgE (X + Y)) ((X + Y) % 18446744073709551616) = 0 := gd_n (by omega) _
       omega)
    | (exfalso
       have g1 : gdF (r6E X) X = 0 := gd_n (by omega) _
       omega)
    | skip
theorem wbg_wS21 : wbc_wS21.Good Tryd.prog syG (wbE [] [] [] []) := good_of_walkC (Γ := ⟨[wac_bfrom, wac_wadd, wac_wneg, wac_wint, wbc_baddN, wbc_baddM, wbc_btoN, wbc_btoF, wbc_btoT, wbc_bzeroN, wbc_bnumN, wac_num, wbc_lisO, wbc_lis2, wbc_lis3, wbc_lis4, wac_wcmp, wac_wof, wbc_bintO, wac_wmul, wbc_bmulO, wbc_sure], syG, [], [], []⟩) (ρ := wbE [] [] [] []) sym wS21_w rfl (fun _ _ _ _ => (ok_cons (Con.Good.env (Con.Good.up wag_bfrom wbup rfl) _ _ _ _) (ok_cons (Con.Good.env (Con.Good.up wag_wadd wbup rfl) _ _ _ _) (ok_cons (Con.Good.env (Con.Good.up wag_wneg wbup rfl) _ _ _ _) (ok_cons (Con.Good.env (Con.Good.up wag_wint wbup rfl) _ _ _ _) (ok_cons (Con.Good.env wbg_baddN _ _ _ _) (ok_cons (Con.Good.env wbg_baddM _ _ _ _) (ok_cons (Con.Good.env wbg_btoN _ _ _ _) (ok_cons (Con.Good.env wbg_btoF _ _ _ _) (ok_cons (Con.Good.env wbg_btoT _ _ _ _) (ok_cons (Con.Good.env wbg_bzeroN _ _ _ _) (ok_cons (Con.Good.env wbg_bnumN _ _ _ _) (ok_cons (Con.Good.env (Con.Good.up wag_num wbup rfl) _ _ _ _) (ok_cons (Con.Good.env wbg_lisO _ _ _ _) (ok_cons (Con.Good.env wbg_lis2 _ _ _ _) (ok_cons (Con.Good.env wbg_lis3 _ _ _ _) (ok_cons (Con.Good.env wbg_lis4 _ _ _ _) (ok_cons (Con.Good.env (Con.Good.up wag_wcmp wbup rfl) _ _ _ _) (ok_cons (Con.Good.env (Con.Good.up wag_wof wbup rfl) _ _ _ _) (ok_cons (Con.Good.env wbg_bintO _ _ _ _) (ok_cons (Con.Good.env (Con.Good.up wag_wmul wbup rfl) _ _ _ _) (ok_cons (Con.Good.env wbg_bmulO _ _ _ _) (ok_cons (Con.Good.env wbg_sure _ _ _ _) ok_nil))))))))))))))))))))))) wS21_h
def wS22_tree : Tree :=
 (.need xd2k5_
 (.need xd2k13_
 (.need xd2k4_
 (.need xd2k5_
 (.need xd2k5_
 (.need xd2k1_
 (.need xd2k6_
 (.need (an_ xd2k7_ (le_ xd2k2_ (.lit 0)))
 (.need xd2k16_
 (.need xd2k21_
 (.br (.not xd2k0_)
 (.ret (.bool (.tt false)))
 (.ret (.bool (.tt false))))))))))))))
abbrev wbc_wS22 : Con := ⟨3, [xd2k20_, xd2k19_, xd2k23_], (an_ xd2k17_ (.not (eq_ xd2k25_ (.lit 2)))), (.bool (.tt true)), ⟨6, 0, 0, 0⟩, none⟩
theorem wS22_w : walkQ Tryd.prog 142 ⟨[wac_bfrom, wac_wadd, wac_wneg, wac_wint, wbc_baddN, wbc_baddM, wbc_btoN, wbc_btoF, wbc_btoT, wbc_bzeroN, wbc_bnumN, wac_num, wbc_lisO, wbc_lis2, wbc_lis3, wbc_lis4, wac_wcmp, wac_wof, wbc_bintO, wac_wmul, wbc_bmulO, wbc_sure], syG, [], [], []⟩ [] .v wbc_wS22 wbc_wS22.n 3000 (pcOf wbc_wS22.cnd) = some wS22_tree := by kernel_rfl
set_option maxHeartbeats 2000000 in
theorem wS22_h (xh xl yh yl o0 o1 : Int) : Hyp_ wbc_wS22 wS22_tree (wbE [xh, xl, yh, yl, o0, o1] [] [] []) := by
 intro hc hty
 simp only [wbc_wS22, Sy.holds, wbE, denV, denI, denB, denL, I2.den, VOp.den, List.getD_cons_zero, List.getD_cons_succ, Cst.den, syso, syse, syio, sybo, wbi_wv, wbi_wh, wbi_wl, wbi_rg, wbi_r6, wbi_gd, wbb_ng, B2.ofInts, B2.denI, B2.denB, if_true, Bool.false_eq_true, if_false, Nat.div_one, Nat.mul_one, Nat.add_zero] at hc
 simp only [wbc_wS22, patsTyp, patTyp, patTypL, wbE, denV, denL, List.getD_cons_zero, List.getD_cons_succ, and_true, true_and] at hty
 unfold wS22_tree
 simp only [wbc_wS22, Tree.holds, Sy.holds, wbE, denV, denI, denB, denL, I2.den, VOp.den, List.getD_cons_zero, List.getD_cons_succ, Cst.den, syso, syse, syio, sybo, wbi_wv, wbi_wh, wbi_wl, wbi_rg, wbi_gd, B2.ofInts, B2.denI, B2.denB, if_true, Bool.false_eq_true, if_false, Nat.div_one, Nat.mul_one, Nat.add_zero]
 have hl := hc.1.1.1.1.1.1.1
 have ra := rg_spec (wvI xh xl + wvI yh yl)
 have rb := rg_spec (0 - wvI xh xl)
 have rc := r6_spec (wvI xh xl)
 have rd := cp_spec (wvI xh xl - wvI yh yl)
 have re := rg_spec (o0 * o1)
 have rf := rg_spec o0
 have x0 : wvI xh xl = xh * 18446744073709551616 + xl := rfl
 have y0 : wvI yh yl = yh * 18446744073709551616 + yl := rfl
 have hm := mul_rng (a := o0) (b := o1) hl.2.2.2.2.1 hl.2.2.2.2.2
 generalize wvI xh xl = X at *
 generalize wvI yh yl = Y at *
 generalize o0 * o1 = M at *
 refine ⟨?a0, fun h0 => ?_⟩; rotate_left
 refine ⟨?a1, fun h1 => ?_⟩; rotate_left
 refine ⟨?a2, fun h2 => ?_⟩; rotate_left
 refine ⟨?a3, fun h3 => ?_⟩; rotate_left
 refine ⟨?a4, fun h4 => ?_⟩; rotate_left
 refine ⟨?a5, fun h5 => ?_⟩; rotate_left
 refine ⟨?a6, fun h6 => ?_⟩; rotate_left
 refine ⟨?a7, fun h7 => ?_⟩; rotate_left
 refine ⟨?a8, fun h8 => ?_⟩; rotate_left
 refine ⟨?a9, fun h9 => ?_⟩; rotate_left
 refine ⟨fun h10 => ?_, fun h10 => ?_⟩
 refine ?a10; rotate_left
 refine ?a11; rotate_left
 case a0 | a1 | a2 | a3 | a4 | a5 | a6 | a7 | a8 | a9 =>
  as_aux_lemma =>
    first
    | exact True.intro
    | omega
    | (simp only [decide_eq_true_eq] at *; omega)
    | skip
 case a10 | a11 =>
  as_aux_lemma =>
    first
    | exact True.intro
    | rfl
    | (simp only [decide_eq_true_eq] at *; exfalso; omega)
    | (exfalso; omega)
    | (exfalso
       have g1 : gdF (rgE (0 - X)) ((0 - X) / 18446744073709551616) = 0 := gd_n (by omega) _
       have g2 : gdF (rgE (0 - X)) ((0 - X) % 18446744073709551616) = 0 := gd_n (by omega) _
       omega)
    | (exfalso
       have g1 : gdF (rgE (X + Y)) ((X + Y) / 18446744073709551616) = 0 := gd_n (by omega) _
       have g2 : gdF (rgE (X + Y)) ((X + Y) % 18446744073709551616) = 0 := gd_n (by omega) _
       omega)
    | (exfalso
       have g1 : gdF (r6E X) X = 0 := gd_n (by omega) _
       omega)
    | skip
theorem wbg_wS22 : wbc_wS22.Good Tryd.prog syG (wbE [] [] [] []) := good_of_walkC (Γ := ⟨[wac_bfrom, wac_wadd, wac_wneg, wac_wint, wbc_baddN, wbc_baddM, wbc_btoN, wbc_btoF, wbc_btoT, wbc_bzeroN, wbc_bnumN, wac_num, wbc_lisO, wbc_lis2, wbc_lis3, wbc_lis4, wac_wcmp, wac_wof, wbc_bintO, wac_wmul, wbc_bmulO, wbc_sure], syG, [], [], []⟩) (ρ := wbE [] [] [] []) sym wS22_w rfl (fun _ _ _ _ => (ok_cons (Con.Good.env (Con.Good.up wag_bfrom wbup rfl) _ _ _ _) (ok_cons (Con.Good.env (Con.Good.up wag_wadd wbup rfl) _ _ _ _) (ok_cons (Con.Good.env (Con.Good.up wag_wneg wbup rfl) _ _ _ _) (ok_cons (Con.Good.env (Con.Good.up wag_wint wbup rfl) _ _ _ _) (ok_cons (Con.Good.env wbg_baddN _ _ _ _) (ok_cons (Con.Good.env wbg_baddM _ _ _ _) (ok_cons (Con.Good.env wbg_btoN _ _ _ _) (ok_cons (Con.Good.env wbg_btoF _ _ _ _) (ok_cons (Con.Good.env wbg_btoT _ _ _ _) (ok_cons (Con.Good.env wbg_bzeroN _ _ _ _) (ok_cons (Con.Good.env wbg_bnumN _ _ _ _) (ok_cons (Con.Good.env (Con.Good.up wag_num wbup rfl) _ _ _ _) (ok_cons (Con.Good.env wbg_lisO _ _ _ _) (ok_cons (Con.Good.env wbg_lis2 _ _ _ _) (ok_cons (Con.Good.env wbg_lis3 _ _ _ _) (ok_cons (Con.Good.env wbg_lis4 _ _ _ _) (ok_cons (Con.Good.env (Con.Good.up wag_wcmp wbup rfl) _ _ _ _) (ok_cons (Con.Good.env (Con.Good.up wag_wof wbup rfl) _ _ _ _) (ok_cons (Con.Good.env wbg_bintO _ _ _ _) (ok_cons (Con.Good.env (Con.Good.up wag_wmul wbup rfl) _ _ _ _) (ok_cons (Con.Good.env wbg_bmulO _ _ _ _) (ok_cons (Con.Good.env wbg_sure _ _ _ _) ok_nil))))))))))))))))))))))) wS22_h
def wS23_tree : Tree :=
 (.need xd2k5_
 (.need xd2k13_
 (.need xd2k4_
 (.need xd2k5_
 (.need xd2k5_
 (.need xd2k1_
 (.need xd2k6_
 (.need (an_ xd2k7_ (le_ xd2k2_ (.lit 0)))
 (.need xd2k16_
 (.need xd2k21_
 (.ret (.bool (.tt false)))))))))))))
abbrev wbc_wS23 : Con := ⟨3, [xd2k20_, xd2k19_, xd2k23_], (an_ (an_ (an_ xd2k3_ (eq_ xd2k10_ (.lit 0))) xd2k22_) (.not xd2k0_)), (.bool (.tt true)), ⟨6, 0, 0, 0⟩, none⟩
theorem wS23_w : walkQ Tryd.prog 142 ⟨[wac_bfrom, wac_wadd, wac_wneg, wac_wint, wbc_baddN, wbc_baddM, wbc_btoN, wbc_btoF, wbc_btoT, wbc_bzeroN, wbc_bnumN, wac_num, wbc_lisO, wbc_lis2, wbc_lis3, wbc_lis4, wac_wcmp, wac_wof, wbc_bintO, wac_wmul, wbc_bmulO, wbc_sure], syG, [], [], []⟩ [] .v wbc_wS23 wbc_wS23.n 3000 (pcOf wbc_wS23.cnd) = some wS23_tree := by kernel_rfl
set_option maxHeartbeats 2000000 in
theorem wS23_h (xh xl yh yl o0 o1 : Int) : Hyp_ wbc_wS23 wS23_tree (wbE [xh, xl, yh, yl, o0, o1] [] [] []) := by
 intro hc hty
 simp only [wbc_wS23, Sy.holds, wbE, denV, denI, denB, denL, I2.den, VOp.den, List.getD_cons_zero, List.getD_cons_succ, Cst.den, syso, syse, syio, sybo, wbi_wv, wbi_wh, wbi_wl, wbi_rg, wbi_gd, wbb_ng, B2.ofInts, B2.denI, B2.denB, if_true, Bool.false_eq_true, if_false, Nat.div_one, Nat.mul_one, Nat.add_zero] at hc
 simp only [wbc_wS23, patsTyp, patTyp, patTypL, wbE, denV, denL, List.getD_cons_zero, List.getD_cons_succ, and_true, true_and] at hty
 unfold wS23_tree
 simp only [wbc_wS23, Tree.holds, Sy.holds, wbE, denV, denI, denB, denL, I2.den, VOp.den, List.getD_cons_zero, List.getD_cons_succ, Cst.den, syso, syse, syio, sybo, wbi_wv, wbi_rg, B2.ofInts, B2.denI, B2.denB, if_true, Bool.false_eq_true, if_false, Nat.div_one, Nat.mul_one, Nat.add_zero]
 have hl := hc.1.1.1.1.1
 have ra := rg_spec (wvI xh xl + wvI yh yl)
 have rb := rg_spec (0 - wvI xh xl)
 have rc := r6_spec (wvI xh xl)
 have rd := cp_spec (wvI xh xl - wvI yh yl)
 have re := rg_spec (o0 * o1)
 have rf := rg_spec o0
 have x0 : wvI xh xl = xh * 18446744073709551616 + xl := rfl
 have y0 : wvI yh yl = yh * 18446744073709551616 + yl := rfl
 have hm := mul_rng (a := o0) (b := o1) hl.2.2.2.2.1 hl.2.2.2.2.2
 generalize wvI xh xl = X at *
 generalize wvI yh yl = Y at *
 generalize o0 * o1 = M at *
 refine ⟨?a0, fun h0 => ?_⟩; rotate_left
 refine ⟨?a1, fun h1 => ?_⟩; rotate_left
 refine ⟨?a2, fun h2 => ?_⟩; rotate_left
 refine ⟨?a3, fun h3 => ?_⟩; rotate_left
 refine ⟨?a4, fun h4 => ?_⟩; rotate_left
 refine ⟨?a5, fun h5 => ?_⟩; rotate_left
 refine ⟨?a6, fun h6 => ?_⟩; rotate_left
 refine ⟨?a7, fun h7 => ?_⟩; rotate_left
 refine ⟨?a8, fun h8 => ?_⟩; rotate_left
 refine ⟨?a9, fun h9 => ?_⟩; rotate_left
 ·
  as_aux_lemma =>
    first
    | exact True.intro
    | rfl
    | (simp only [decide_eq_true_eq] at *; exfalso; omega)
    | (exfalso; omega)
    | (exfalso
       have g1 : gdF (rgE (0 - X)) ((0 - X) / 18446744073709551616) = 0 := gd_n (by omega) _
       have g2 : gdF (rgE (0 - X)) ((0 - X) % 18446744073709551616) = 0 := gd_n (by omega) _
       omega)
    | (exfalso
       have g1 : gdF (rgE (X + Y)) ((X + Y) / 18446744073709551616) = 0 := gd_n (by omega) _
       have g2 : gdF (rgE (X + Y)) ((X + Y) % 18446744073709551616) = 0 := gd_n (by omega) _
       omega)
    | (exfalso
       have g1 : gdF (r6E X) X = 0 := gd_n (by omega) _
       omega)
    | skip
 case a0 | a1 | a2 | a3 | a4 | a5 | a6 | a7 | a8 | a9 =>
  as_aux_lemma =>
    first
    | exact True.intro
    | omega
    | (simp only [decide_eq_true_eq] at *; omega)
    | skip
theorem wbg_wS23 : wbc_wS23.Good Tryd.prog syG (wbE [] [] [] []) := good_of_walkC (Γ := ⟨[wac_bfrom, wac_wadd, wac_wneg, wac_wint, wbc_baddN, wbc_baddM, wbc_btoN, wbc_btoF, wbc_btoT, wbc_bzeroN, wbc_bnumN, wac_num, wbc_lisO, wbc_lis2, wbc_lis3, wbc_lis4, wac_wcmp, wac_wof, wbc_bintO, wac_wmul, wbc_bmulO, wbc_sure], syG, [], [], []⟩) (ρ := wbE [] [] [] []) sym wS23_w rfl (fun _ _ _ _ => (ok_cons (Con.Good.env (Con.Good.up wag_bfrom wbup rfl) _ _ _ _) (ok_cons (Con.Good.env (Con.Good.up wag_wadd wbup rfl) _ _ _ _) (ok_cons (Con.Good.env (Con.Good.up wag_wneg wbup rfl) _ _ _ _) (ok_cons (Con.Good.env (Con.Good.up wag_wint wbup rfl) _ _ _ _) (ok_cons (Con.Good.env wbg_baddN _ _ _ _) (ok_cons (Con.Good.env wbg_baddM _ _ _ _) (ok_cons (Con.Good.env wbg_btoN _ _ _ _) (ok_cons (Con.Good.env wbg_btoF _ _ _ _) (ok_cons (Con.Good.env wbg_btoT _ _ _ _) (ok_cons (Con.Good.env wbg_bzeroN _ _ _ _) (ok_cons (Con.Good.env wbg_bnumN _ _ _ _) (ok_cons (Con.Good.env (Con.Good.up wag_num wbup rfl) _ _ _ _) (ok_cons (Con.Good.env wbg_lisO _ _ _ _) (ok_cons (Con.Good.env wbg_lis2 _ _ _ _) (ok_cons (Con.Good.env wbg_lis3 _ _ _ _) (ok_cons (Con.Good.env wbg_lis4 _ _ _ _) (ok_cons (Con.Good.env (Con.Good.up wag_wcmp wbup rfl) _ _ _ _) (ok_cons (Con.Good.env (Con.Good.up wag_wof wbup rfl) _ _ _ _) (ok_cons (Con.Good.env wbg_bintO _ _ _ _) (ok_cons (Con.Good.env (Con.Good.up wag_wmul wbup rfl) _ _ _ _) (ok_cons (Con.Good.env wbg_bmulO _ _ _ _) (ok_cons (Con.Good.env wbg_sure _ _ _ _) ok_nil))))))))))))))))))))))) wS23_h
def wS24_tree : Tree :=
 (.need xd2k5_
 (.need xd2k13_
 (.need xd2k4_
 (.need xd2k5_
 (.need xd2k5_
 (.need xd2k1_
 (.need xd2k6_
 (.need (an_ xd2k7_ (le_ xd2k2_ (.lit 0)))
 (.need xd2k16_
 (.need xd2k21_
 (.ret (.bool (.tt false)))))))))))))
abbrev wbc_wS24 : Con := ⟨3, [xd2k20_, xd2k19_, xd2k23_], (an_ (an_ xd2k3_ (eq_ xd2k10_ (.lit 0))) (.not xd2k22_)), (.bool (.tt true)), ⟨6, 0, 0, 0⟩, none⟩
theorem wS24_w : walkQ Tryd.prog 142 ⟨[wac_bfrom, wac_wadd, wac_wneg, wac_wint, wbc_baddN, wbc_baddM, wbc_btoN, wbc_btoF, wbc_btoT, wbc_bzeroN, wbc_bnumN, wac_num, wbc_lisO, wbc_lis2, wbc_lis3, wbc_lis4, wac_wcmp, wac_wof, wbc_bintO, wac_wmul, wbc_bmulO, wbc_sure], syG, [], [], []⟩ [] .v wbc_wS24 wbc_wS24.n 3000 (pcOf wbc_wS24.cnd) = some wS24_tree := by kernel_rfl
set_option maxHeartbeats 2000000 in
theorem wS24_h (xh xl yh yl o0 o1 : Int) : Hyp_ wbc_wS24 wS24_tree (wbE [xh, xl, yh, yl, o0, o1] [] [] []) := by
 intro hc hty
 simp only [wbc_wS24, Sy.holds, wbE, denV, denI, denB, denL, I2.den, VOp.den, List.getD_cons_zero, List.getD_cons_succ, Cst.den, syso, syse, syio, sybo, wbi_wv, wbi_rg, wbb_ng, B2.ofInts, B2.denI, B2.denB, if_true, Bool.false_eq_true, if_false, Nat.div_one, Nat.mul_one, Nat.add_zero] at hc
 simp only [wbc_wS24, patsTyp, patTyp, patTypL, wbE, denV, denL, List.getD_cons_zero, List.getD_cons_succ, and_true, true_and] at hty
 unfold wS24_tree
 simp only [wbc_wS24, Tree.holds, Sy.holds, wbE, denV, denI, denB, denL, I2.den, VOp.den, List.getD_cons_zero, List.getD_cons_succ, Cst.den, syso, syse, syio, sybo, wbi_wv, wbi_rg, B2.ofInts, B2.denI, B2.denB, if_true, Bool.false_eq_true, if_false, Nat.div_one, Nat.mul_one, Nat.add_zero]
 have hl := hc.1.1.1.1
 have ra := rg_spec (wvI xh xl + wvI yh yl)
 have rb := rg_spec (0 - wvI xh xl)
 have rc := r6_spec (wvI xh xl)
 have rd := cp_spec (wvI xh xl - wvI yh yl)
 have re := rg_spec (o0 * o1)
 have rf := rg_spec o0
 have x0 : wvI xh xl = xh * 18446744073709551616 + xl := rfl
 have y0 : wvI yh yl = yh * 18446744073709551616 + yl := rfl
 have hm := mul_rng (a := o0) (b := o1) hl.2.2.2.2.1 hl.2.2.2.2.2
 generalize wvI xh xl = X at *
 generalize wvI yh yl = Y at *
 generalize o0 * o1 = M at *
 refine ⟨?a0, fun h0 => ?_⟩; rotate_left
 refine ⟨?a1, fun h1 => ?_⟩; rotate_left
 refine ⟨?a2, fun h2 => ?_⟩; rotate_left
 refine ⟨?a3, fun h3 => ?_⟩; rotate_left
 refine ⟨?a4, fun h4 => ?_⟩; rotate_left
 refine ⟨?a5, fun h5 => ?_⟩; rotate_left
 refine ⟨?a6, fun h6 => ?_⟩; rotate_left
 refine ⟨?a7, fun h7 => ?_⟩; rotate_left
 refine ⟨?a8, fun h8 => ?_⟩; rotate_left
 refine ⟨?a9, fun h9 => ?_⟩; rotate_left
 ·
  as_aux_lemma =>
    first
    | exact True.intro
    | rfl
    | (simp only [decide_eq_true_eq] at *; exfalso; omega)
    | (exfalso; omega)
    | (exfalso
       have g1 : gdF (rgE (0 - X)) ((0 - X) / 18446744073709551616) = 0 := gd_n (by omega) _
       have g2 : gdF (rgE (0 - X)) ((0 - X) % 18446744073709551616) = 0 := gd_n (by omega) _
       omega)
    | (exfalso
       have g1 : gdF (rgE (X + Y)) ((X + Y) / 18446744073709551616) = 0 := gd_n (by omega) _
       have g2 : gdF (rgE (X + Y)) ((X + Y) % 18446744073709551616) = 0 := gd_n (by omega) _
       omega)
    | (exfalso
       have g1 : gdF (r6E X) X = 0 := gd_n (by omega) _
       omega)
    | skip
 case a0 | a1 | a2 | a3 | a4 | a5 | a6 | a7 | a8 | a9 =>
  as_aux_lemma =>
    first
    | exact True.intro
    | omega
    | (simp only [decide_eq_true_eq] at *; omega)
    | skip
theorem wbg_wS24 : wbc_wS24.Good Tryd.prog syG (wbE [] [] [] []) := good_of_walkC (Γ := ⟨[wac_bfrom, wac_wadd, wac_wneg, wac_wint, wbc_baddN, wbc_baddM, wbc_btoN, wbc_btoF, wbc_btoT, wbc_bzeroN, wbc_bnumN, wac_num, wbc_lisO, wbc_lis2, wbc_lis3, wbc_lis4, wac_wcmp, wac_wof, wbc_bintO, wac_wmul, wbc_bmulO, wbc_sure], syG, [], [], []⟩) (ρ := wbE [] [] [] []) sym wS24_w rfl (fun _ _ _ _ => (ok_cons (Con.Good.env (Con.Good.up wag_bfrom wbup rfl) _ _ _ _) (ok_cons (Con.Good.env (Con.Good.up wag_wadd wbup rfl) _ _ _ _) (ok_cons (Con.Good.env (Con.Good.up wag_wneg wbup rfl) _ _ _ _) (ok_cons (Con.Good.env (Con.Good.up wag_wint wbup rfl) _ _ _ _) (ok_cons (Con.Good.env wbg_baddN _ _ _ _) (ok_cons (Con.Good.env wbg_baddM _ _ _ _) (ok_cons (Con.Good.env wbg_btoN _ _ _ _) (ok_cons (Con.Good.env wbg_btoF _ _ _ _) (ok_cons (Con.Good.env wbg_btoT _ _ _ _) (ok_cons (Con.Good.env wbg_bzeroN _ _ _ _) (ok_cons (Con.Good.env wbg_bnumN _ _ _ _) (ok_cons (Con.Good.env (Con.Good.up wag_num wbup rfl) _ _ _ _) (ok_cons (Con.Good.env wbg_lisO _ _ _ _) (ok_cons (Con.Good.env wbg_lis2 _ _ _ _) (ok_cons (Con.Good.env wbg_lis3 _ _ _ _) (ok_cons (Con.Good.env wbg_lis4 _ _ _ _) (ok_cons (Con.Good.env (Con.Good.up wag_wcmp wbup rfl) _ _ _ _) (ok_cons (Con.Good.env (Con.Good.up wag_wof wbup rfl) _ _ _ _) (ok_cons (Con.Good.env wbg_bintO _ _ _ _) (ok_cons (Con.Good.env (Con.Good.up wag_wmul wbup rfl) _ _ _ _) (ok_cons (Con.Good.env wbg_bmulO _ _ _ _) (ok_cons (Con.Good.env wbg_sure _ _ _ _) ok_nil))))))))))))))))))))))) wS24_h
def wS25_tree : Tree :=
 (.need xd2k5_
 (.need xd2k13_
 (.need xd2k4_
 (.need xd2k5_
 (.need xd2k5_
 (.need xd2k1_
 (.need xd2k6_
 (.need (an_ xd2k7_ (le_ xd2k2_ (.lit 0)))
 (.need xd2k16_
 (.br (.not xd2k0_)
 (.ret (.bool (.tt false)))
 (.br (.not xd2k12_)
 (.ret (.bool (.tt false)))
 (.need xd2k1_
 (.need xd2k8_
 (.need xd2k4_
 (.br (eq_ xd2k24_ (.lit 0))
 (.need xd2k14_
 (.need xd2k14_
 (.need xd2k11_
 (.need (an_ xd2k14_ xd2k18_)
 (.need xd2k14_
 (.need xd2k18_
 (.need (an_ xd2k14_ xd2k18_)
 (.need xd2k9_
 (.ret (.bool (.tt true)))))))))))
 (.ret (.bool (.tt false))))))))))))))))))
abbrev wbc_wS25 : Con := ⟨3, [xd2k20_, xd2k19_, xd2k23_], (an_ (an_ (an_ (an_ (an_ (an_ (an_ xd2k3_ (.not (eq_ xd2k10_ (.lit 0)))) xd2k22_) xd2k0_) (eq_ xd2k10_ (.lit 2))) xd2k12_) (eq_ xd2k25_ (.lit 0))) (eq_ (sb_ xd2k2_ xd2k15_) (.lit 0))), (.bool (.tt true)), ⟨6, 0, 0, 0⟩, none⟩
theorem wS25_w : walkQ Tryd.prog 142 ⟨[wac_bfrom, wac_wadd, wac_wneg, wac_wint, wbc_baddN, wbc_baddM, wbc_btoN, wbc_btoF, wbc_btoT, wbc_bzeroN, wbc_bnumN, wac_num, wbc_lisO, wbc_lis2, wbc_lis3, wbc_lis4, wac_wcmp, wac_wof, wbc_bintO, wac_wmul, wbc_bmulO, wbc_sure], syG, [], [], []⟩ [] .v wbc_wS25 wbc_wS25.n 3000 (pcOf wbc_wS25.cnd) = some wS25_tree := by kernel_rfl
set_option maxHeartbeats 2000000 in
theorem wS25_h (xh xl yh yl o0 o1 : Int) : Hyp_ wbc_wS25 wS25_tree (wbE [xh, xl, yh, yl, o0, o1] [] [] []) := by
 intro hc hty
 simp only [wbc_wS25, Sy.holds, wbE, denV, denI, denB, denL, I2.den, VOp.den, List.getD_cons_zero, List.getD_cons_succ, Cst.den, syso, syse, syio, sybo, wbi_wv, wbi_wh, wbi_wl, wbi_rg, wbi_r6, wbi_gd, wbb_ng, B2.ofInts, B2.denI, B2.denB, if_true, Bool.false_eq_true, if_false, Nat.div_one, Nat.mul_one, Nat.add_zero] at hc
 simp only [wbc_wS25, patsTyp, patTyp, patTypL, wbE, denV, denL, List.getD_cons_zero, List.getD_cons_succ, and_true, true_and] at hty
 unfold wS25_tree
 simp only [wbc_wS25, Tree.holds, Sy.holds, wbE, denV, denI, denB, denL, I2.den, VOp.den, List.getD_cons_zero, List.getD_cons_succ, Cst.den, syso, syse, syio, sybo, wbi_wv, wbi_wh, wbi_wl, wbi_rg, wbi_gd, wbi_cp, B2.ofInts, B2.denI, B2.denB, if_true, Bool.false_eq_true, if_false, Nat.div_one, Nat.mul_one, Nat.add_zero]
 have hl := hc.1.1.1.1.1.1.1.1.1
 have ra := rg_spec (wvI xh xl + wvI yh yl)
 have rb := rg_spec (0 - wvI xh xl)
 have rc := r6_spec (wvI xh xl)
 have rd := cp_spec (wvI xh xl - wvI yh yl)
 have re := rg_spec (o0 * o1)
 have rf := rg_spec o0
 have x0 : wvI xh xl = xh * 18446744073709551616 + xl := rfl
 have y0 : wvI yh yl = yh * 18446744073709551616 + yl := rfl
 have hm := mul_rng (a := o0) (b := o1) hl.2.2.2.2.1 hl.2.2.2.2.2
 generalize wvI xh xl = X at *
 generalize wvI yh yl = Y at *
 generalize o0 * o1 = M at *
 refine ⟨?a0, fun h0 => ?_⟩; rotate_left
 refine ⟨?a1, fun h1 => ?_⟩; rotate_left
 refine ⟨?a2, fun h2 => ?_⟩; rotate_left
 refine ⟨?a3, fun h3 => ?_⟩; rotate_left
 refine ⟨?a4, fun h4 => ?_⟩; rotate_left
 refine ⟨?a5, fun h5 => ?_⟩; rotate_left
 refine ⟨?a6, fun h6 => ?_⟩; rotate_left
 refine ⟨?a7, fun h7 => ?_⟩; rotate_left
 refine ⟨?a8, fun h8 => ?_⟩; rotate_left
 refine ⟨fun h9 => ?_, fun h9 => ?_⟩
 refine ?a9; rotate_left
 refine ⟨fun h10 => ?_, fun h10 => ?_⟩
 refine ?a10; rotate_left
 refine ⟨?a11, fun h11 => ?_⟩; rotate_left
 refine ⟨?a12, fun h12 => ?_⟩; rotate_left
 refine ⟨?a13, fun h13 => ?_⟩; rotate_left
 refine ⟨fun h14 => ?_, fun h14 => ?_⟩
 refine ⟨?a14, fun h15 => ?_⟩; rotate_left
 refine ⟨?a15, fun h16 => ?_⟩; rotate_left
 refine ⟨?a16, fun h17 => ?_⟩; rotate_left
 refine ⟨?a17, fun h18 => ?_⟩; rotate_left
 refine ⟨?a18, fun h19 => ?_⟩; rotate_left
 refine ⟨?a19, fun h20 => ?_⟩; rotate_left
 refine ⟨?a20, fun h21 => ?_⟩; rotate_left
 refine ⟨?a21, fun h22 => ?_⟩; rotate_left
 refine ?a22; rotate_left
 refine ?a23; rotate_left
 case a0 | a1 | a2 | a3 | a4 | a5 | a6 | a7 | a8 | a11 | a12 | a13 | a14 | a15 | a16 | a17 | a18 | a19 | a20 | a21 =>
  as_aux_lemma =>
    first
    | exact True.intro
    | omega
    | (simp only [decide_eq_true_eq] at *; omega)
    | skip
 case a9 | a10 | a22 | a23 =>
  as_aux_lemma =>
    first
    | exact True.intro
    | rfl
    | (simp only [decide_eq_true_eq] at *; exfalso; omega)
    | (exfalso; omega)
    | (exfalso
       have g1 : gdF (rgE (0 - X)) ((0 - X) / 18446744073709551616) = 0 := gd_n (by omega) _
       have g2 : gdF (rgE (0 - X)) ((0 - X) % 18446744073709551616) = 0 := gd_n (by omega) _
       omega)
    | (exfalso
       have g1 : gdF (rgE (X + Y)) ((X + Y) / 18446744073709551616) = 0 := gd_n (by omega) _
       have g2 : gdF (rgE (X + Y)) ((X + Y) % 18446744073709551616) = 0 := gd_n (by omega) _
       omega)
    | (exfalso
       have g1 : gdF (r6E X) X = 0 := gd_n (by omega) _
       omega)
    | skip
theorem wbg_wS25 : wbc_wS25.Good Tryd.prog syG (wbE [] [] [] []) := good_of_walkC (Γ := ⟨[wac_bfrom, wac_wadd, wac_wneg, wac_wint, wbc_baddN, wbc_baddM, wbc_btoN, wbc_btoF, wbc_btoT, wbc_bzeroN, wbc_bnumN, wac_num, wbc_lisO, wbc_lis2, wbc_lis3, wbc_lis4, wac_wcmp, wac_wof, wbc_bintO, wac_wmul, wbc_bmulO, wbc_sure], syG, [], [], []⟩) (ρ := wbE [] [] [] []) sym wS25_w rfl (fun _ _ _ _ => (ok_cons (Con.Good.env (Con.Good.up wag_bfrom wbup rfl) _ _ _ _) (ok_cons (Con.Good.env (Con.Good.up wag_wadd wbup rfl) _ _ _ _) (ok_cons (Con.Good.env (Con.Good.up wag_wneg wbup rfl) _ _ _ _) (ok_cons (Con.Good.env (Con.Good.up wag_wint wbup rfl) _ _ _ _) (ok_cons (Con.Good.env wbg_baddN _ _ _ _) (ok_cons (Con.Good.env wbg_baddM _ _ _ _) (ok_cons (Con.Good.env wbg_btoN _ _ _ _) (ok_cons (Con.Good.env wbg_btoF _ _ _ _) (ok_cons (Con.Good.env wbg_btoT _ _ _ _) (ok_cons (Con.Good.env wbg_bzeroN _ _ _ _) (ok_cons (Con.Good.env wbg_bnumN _ _ _ _) (ok_cons (Con.Good.env (Con.Good.up wag_num wbup rfl) _ _ _ _) (ok_cons (Con.Good.env wbg_lisO _ _ _ _) (ok_cons (Con.Good.env wbg_lis2 _ _ _ _) (ok_cons (Con.Good.env wbg_lis3 _ _ _ _) (ok_cons (Con.Good.env wbg_lis4 _ _ _ _) (ok_cons (Con.Good.env (Con.Good.up wag_wcmp wbup rfl) _ _ _ _) (ok_cons (Con.Good.env (Con.Good.up wag_wof wbup rfl) _ _ _ _) (ok_cons (Con.Good.env wbg_bintO _ _ _ _) (ok_cons (Con.Good.env (Con.Good.up wag_wmul wbup rfl) _ _ _ _) (ok_cons (Con.Good.env wbg_bmulO _ _ _ _) (ok_cons (Con.Good.env wbg_sure _ _ _ _) ok_nil))))))))))))))))))))))) wS25_h
def wS26_tree : Tree :=
 (.need xd2k5_
 (.need xd2k13_
 (.need xd2k4_
 (.need xd2k5_
 (.need xd2k5_
 (.need xd2k1_
 (.need xd2k6_
 (.need (an_ xd2k7_ (le_ xd2k2_ (.lit 0)))
 (.need xd2k16_
 (.br (.not xd2k0_)
 (.ret (.bool (.tt false)))
 (.br (.not xd2k12_)
 (.ret (.bool (.tt false)))
 (.need xd2k1_
 (.need xd2k8_
 (.need xd2k4_
 (.br (eq_ xd2k24_ (.lit (-1)))
 (.need xd2k14_
 (.need xd2k14_
 (.need xd2k11_
 (.need (an_ xd2k14_ xd2k18_)
 (.need xd2k14_
 (.need xd2k18_
 (.need (an_ xd2k14_ xd2k18_)
 (.need xd2k9_
 (.ret (.bool (.tt true)))))))))))
 (.ret (.bool (.tt false))))))))))))))))))
abbrev wbc_wS26 : Con := ⟨3, [xd2k20_, xd2k19_, xd2k23_], (an_ (an_ (an_ (an_ (an_ (an_ (an_ (an_ xd2k3_ (.not (eq_ xd2k10_ (.lit 0)))) xd2k22_) xd2k0_) (eq_ xd2k10_ (.lit 2))) xd2k12_) (eq_ xd2k25_ (.lit 0))) (.not (eq_ (sb_ xd2k2_ xd2k15_) (.lit 0)))) (.bapp 0 (.cons (.int .i64 (sb_ xd2k2_ xd2k15_)) .nil))), (.bool (.tt true)), ⟨6, 0, 0, 0⟩, none⟩
theorem wS26_w : walkQ Tryd.prog 142 ⟨[wac_bfrom, wac_wadd, wac_wneg, wac_wint, wbc_baddN, wbc_baddM, wbc_btoN, wbc_btoF, wbc_btoT, wbc_bzeroN, wbc_bnumN, wac_num, wbc_lisO, wbc_lis2, wbc_lis3, wbc_lis4, wac_wcmp, wac_wof, wbc_bintO, wac_wmul, wbc_bmulO, wbc_sure], syG, [], [], []⟩ [] .v wbc_wS26 wbc_wS26.n 3000 (pcOf wbc_wS26.cnd) = some wS26_tree := by kernel_rfl
set_option maxHeartbeats 2000000 in
theorem wS26_h (xh xl yh yl o0 o1 : Int) : Hyp_ wbc_wS26 wS26_tree (wbE [xh, xl, yh, yl, o0, o1] [] [] []) := by
 intro hc hty
 simp only [wbc_wS26, Sy.holds, wbE, denV, denI, denB, denL, I2.den, VOp.den, List.getD_cons_zero, List.getD_cons_succ, Cst.den, syso, syse, syio, sybo, wbi_wv, wbi_wh, wbi_wl, wbi_rg, wbi_r6, wbi_gd, wbb_ng, B2.ofInts, B2.denI, B2.denB, if_true, Bool.false_eq_true, if_false, Nat.div_one, Nat.mul_one, Nat.add_zero] at hc
 simp only [wbc_wS26, patsTyp, patTyp, patTypL, wbE, denV, denL, List.getD_cons_zero, List.getD_cons_succ, and_true, true_and] at hty
 unfold wS26_tree
 simp only [wbc_wS26, Tree.holds, Sy.holds, wbE, denV, denI, denB, denL, I2.den, VOp.den, List.getD_cons_zero, List.getD_cons_succ, Cst.den, syso, syse, syio, sybo, wbi_wv, wbi_wh, wbi_wl, wbi_rg, wbi_gd, wbi_cp, B2.ofInts, B2.denI, B2.denB, if_true, Bool.false_eq_true, if_false, Nat.div_one, Nat.mul_one, Nat.add_zero]
 have hl := hc.1.1.1.1.1.1.1.1.1.1
 have ra := rg_spec (wvI xh xl + wvI yh yl)
 have rb := rg_spec (0 - wvI xh xl)
 have rc := r6_spec (wvI xh xl)
 have rd := cp_spec (wvI xh xl - wvI yh yl)
 have re := rg_spec (o0 * o1)
 have rf := rg_spec o0
 have x0 : wvI xh xl = xh * 18446744073709551616 + xl := rfl
 have y0 : wvI yh yl = yh * 18446744073709551616 + yl := rfl
 have hm := mul_rng (a := o0) (b := o1) hl.2.2.2.2.1 hl.2.2.2.2.2
 generalize wvI xh xl = X at *
 generalize wvI yh yl = Y at *
 generalize o0 * o1 = M at *
 refine ⟨?a0, fun h0 => ?_⟩; rotate_left
 refine ⟨?a1, fun h1 => ?_⟩; rotate_left
 refine ⟨?a2, fun h2 => ?_⟩; rotate_left
 refine ⟨?a3, fun h3 => ?_⟩; rotate_left
 refine ⟨?a4, fun h4 => ?_⟩; rotate_left
 refine ⟨?a5, fun h5 => ?_⟩; rotate_left
 refine ⟨?a6, fun h6 => ?_⟩; rotate_left
 refine ⟨?a7, fun h7 => ?_⟩; rotate_left
 refine ⟨?a8, fun h8 => ?_⟩; rotate_left
 refine ⟨fun h9 => ?_, fun h9 => ?_⟩
 refine ?a9; rotate_left
 refine ⟨fun h10 => ?_, fun h10 => ?_⟩
 refine ?a10; rotate_left
 refine ⟨?a11, fun h11 => ?_⟩; rotate_left
 refine ⟨?a12, fun h12 => ?_⟩; rotate_left
 refine ⟨?a13, fun h13 => ?_⟩; rotate_left
 refine ⟨fun h14 => ?_, fun h14 => ?_⟩
 refine ⟨?a14, fun h15 => ?_⟩; rotate_left
 refine ⟨?a15, fun h16 => ?_⟩; rotate_left
 refine ⟨?a16, fun h17 => ?_⟩; rotate_left
 refine ⟨?a17, fun h18 => ?_⟩; rotate_left
 refine ⟨?a18, fun h19 => ?_⟩; rotate_left
 refine ⟨?a19, fun h20 => ?_⟩; rotate_left
 refine ⟨?a20, fun h21 => ?_⟩; rotate_left
 refine ⟨?a21, fun h22 => ?_⟩; rotate_left
 refine ?a22; rotate_left
 refine ?a23; rotate_left
 case a0 | a1 | a2 | a3 | a4 | a5 | a6 | a7 | a8 | a11 | a12 | a13 | a14 | a15 | a16 | a17 | a18 | a19 | a20 | a21 =>
  as_aux_lemma =>
    first
    | exact True.intro
    | omega
    | (simp only [decide_eq_true_eq] at *; omega)
    | skip
 case a9 | a10 | a22 | a23 =>
  as_aux_lemma =>
    first
    | exact True.intro
    | rfl
    | (simp only [decide_eq_true_eq] at *; exfalso; omega)
    | (exfalso; omega)
    | (exfalso
       have g1 : gdF (rgE (0 - X)) ((0 - X) / 18446744073709551616) = 0 := gd_n (by omega) _
       have g2 : gdF (rgE (0 - X)) ((0 - X) % 18446744073709551616) = 0 := gd_n (by omega) _
       omega)
    | (exfalso
       have g1 : gdF (rgE (X + Y)) ((X + Y) / 18446744073709551616) = 0 := gd_n (by omega) _
       have g2 : gdF (rgE (X + Y)) ((X + Y) % 18446744073709551616) = 0 := gd_n (by omega) _
       omega)
    | (exfalso
       have g1 : gdF (r6E X) X = 0 := gd_n (by omega) _
       omega)
    | skip
theorem wbg_wS26 : wbc_wS26.Good Tryd.prog syG (wbE [] [] [] []) := good_of_walkC (Γ := ⟨[wac_bfrom, wac_wadd, wac_wneg, wac_wint, wbc_baddN, wbc_baddM, wbc_btoN, wbc_btoF, wbc_btoT, wbc_bzeroN, wbc_bnumN, wac_num, wbc_lisO, wbc_lis2, wbc_lis3, wbc_lis4, wac_wcmp, wac_wof, wbc_bintO, wac_wmul, wbc_bmulO, wbc_sure], syG, [], [], []⟩) (ρ := wbE [] [] [] []) sym wS26_w rfl (fun _ _ _ _ => (ok_cons (Con.Good.env (Con.Good.up wag_bfrom wbup rfl) _ _ _ _) (ok_cons (Con.Good.env (Con.Good.up wag_wadd wbup rfl) _ _ _ _) (ok_cons (Con.Good.env (Con.Good.up wag_wneg wbup rfl) _ _ _ _) (ok_cons (Con.Good.env (Con.Good.up wag_wint wbup rfl) _ _ _ _) (ok_cons (Con.Good.env wbg_baddN _ _ _ _) (ok_cons (Con.Good.env wbg_baddM _ _ _ _) (ok_cons (Con.Good.env wbg_btoN _ _ _ _) (ok_cons (Con.Good.env wbg_btoF _ _ _ _) (ok_cons (Con.Good.env wbg_btoT _ _ _ _) (ok_cons (Con.Good.env wbg_bzeroN _ _ _ _) (ok_cons (Con.Good.env wbg_bnumN _ _ _ _) (ok_cons (Con.Good.env (Con.Good.up wag_num wbup rfl) _ _ _ _) (ok_cons (Con.Good.env wbg_lisO _ _ _ _) (ok_cons (Con.Good.env wbg_lis2 _ _ _ _) (ok_cons (Con.Good.env wbg_lis3 _ _ _ _) (ok_cons (Con.Good.env wbg_lis4 _ _ _ _) (ok_cons (Con.Good.env (Con.Good.up wag_wcmp wbup rfl) _ _ _ _) (ok_cons (Con.Good.env (Con.Good.up wag_wof wbup rfl) _ _ _ _) (ok_cons (Con.Good.env wbg_bintO _ _ _ _) (ok_cons (Con.Good.env (Con.Good.up wag_wmul wbup rfl) _ _ _ _) (ok_cons (Con.Good.env wbg_bmulO _ _ _ _) (ok_cons (Con.Good.env wbg_sure _ _ _ _) ok_nil))))))))))))))))))))))) wS26_h
end Go.Proofs.YtgondiedehjkhaaDoor
