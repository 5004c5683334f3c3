/-
 Layer 2 by the second engine: WideSums, a part.
-/
import Derived.Test.YtgondiedehjkhaaDoorSycsums
import Derived.Test.YtgondiedehjkhaaDoorWbsums
import Derived.Test.YtgondiedehjkhaaDoorMathsums
import Derived.Test.YtgondiedehjkhaaDoorNumsums
import Derived.IntWalk
namespace Go.Proofs.YtgondiedehjkhaaDoor
open Go.RowKit Go.Extern.Stop Go.Stop Go.Extern Go.Proofs.YtgondiedehjkhaaDoor.Sy
set_option linter.unusedVariables false
set_option linter.unusedSimpArgs false
abbrev xd6k2_ : Tm := (.iapp 3 (.cons z0_ (.cons z1_ .nil)))
abbrev xd6k16_ : Tm := (.iapp 3 (.cons z2_ (.cons z3_ .nil)))
abbrev xd6k0_ : Tm := (an_ (eq_ (.iapp 8 (.cons (.int .i64 (.iapp 6 (.cons (.int .i64 (ad_ xd6k2_ xd6k16_)) .nil))) (.cons (.int .i64 (.iapp 4 (.cons (.int .i64 (ad_ xd6k2_ xd6k16_)) .nil))) .nil))) (.lit 0)) (eq_ (.iapp 8 (.cons (.int .i64 (.iapp 6 (.cons (.int .i64 (ad_ xd6k2_ xd6k16_)) .nil))) (.cons (.int .i64 (.iapp 5 (.cons (.int .i64 (ad_ xd6k2_ xd6k16_)) .nil))) .nil))) (.lit 0)))
abbrev xd6k1_ : Tm := (an_ (le_ (.lit (-1569275433846670190958947355801916604025588861116008628224)) xd6k2_) (le_ xd6k2_ (.lit 1569275433846670190958947355801916604025588861116008628224)))
abbrev xd6k15_ : Tm := (an_ (le_ lm_ v4_) (le_ v4_ lM_))
abbrev xd6k18_ : Tm := (an_ (le_ lm_ v5_) (le_ v5_ lM_))
abbrev xd6k3_ : Tm := (an_ (an_ (an_ (an_ (le_ lm_ v0_) (le_ v0_ lM_)) (an_ (an_ (le_ (.lit 0) v1_) (le_ v1_ (.lit 18446744073709551615))) (an_ (an_ (le_ lm_ v2_) (le_ v2_ lM_)) (an_ (an_ (le_ (.lit 0) v3_) (le_ v3_ (.lit 18446744073709551615))) (an_ xd6k15_ xd6k18_))))) (.not (.bapp 0 (.cons (.int .i64 xd6k2_) .nil)))) (.not (eq_ (.iapp 6 (.cons (.int .i64 (ad_ xd6k2_ xd6k16_)) .nil)) (.lit 0))))
abbrev xd6k4_ : Tm := (an_ xd6k1_ (an_ (le_ (.lit (-1569275433846670190958947355801916604025588861116008628224)) xd6k16_) (le_ xd6k16_ (.lit 1569275433846670190958947355801916604025588861116008628224))))
abbrev xd6k14_ : Tm := (an_ (an_ (le_ lm_ v2_) (le_ v2_ lM_)) (an_ (le_ (.lit 0) v3_) (le_ v3_ (.lit 18446744073709551615))))
abbrev xd6k5_ : Tm := (an_ (an_ (le_ lm_ v0_) (le_ v0_ lM_)) (an_ (an_ (le_ (.lit 0) v1_) (le_ v1_ (.lit 18446744073709551615))) xd6k14_))
abbrev xd6k6_ : Tm := (an_ (an_ (le_ lm_ v0_) (le_ v0_ lM_)) (an_ (le_ (.lit 0) v1_) (le_ v1_ (.lit 18446744073709551615))))
abbrev xd6k7_ : Tm := (an_ (le_ (.lit (-1569275433846670190958947355801916604025588861116008628224)) (ad_ xd6k2_ xd6k16_)) (le_ (ad_ xd6k2_ xd6k16_) (.lit 1569275433846670190958947355801916604025588861116008628224)))
abbrev xd6k8_ : Tm := (an_ (le_ (.lit 0) xd6k2_) (le_ xd6k2_ (.lit 1569275433846670190958947355801916604025588861116008628224)))
abbrev xd6k9_ : Tm := (an_ (le_ (.lit (-1569275433846670190958947355801916604025588861116008628224)) (sb_ xd6k2_ xd6k16_)) (le_ (sb_ xd6k2_ xd6k16_) (.lit 1569275433846670190958947355801916604025588861116008628224)))
abbrev xd6k10_ : Tm := (an_ (eq_ (.iapp 6 (.cons (.int .i64 (ml_ v4_ v5_)) .nil)) (.lit 0)) (an_ (le_ (.lit (-1569275433846670190958947355801916604025588861116008628224)) (ml_ v4_ v5_)) (le_ (ml_ v4_ v5_) (.lit 1569275433846670190958947355801916604025588861116008628224))))
abbrev xd6k11_ : Tm := (.iapp 6 (.cons (.int .i64 (sb_ (.lit 0) xd6k2_)) .nil))
abbrev xd6k12_ : Tm := (an_ (eq_ (.iapp 6 (.cons z4_ .nil)) (.lit 0)) (an_ (le_ (.lit (-1569275433846670190958947355801916604025588861116008628224)) v4_) (le_ v4_ (.lit 1569275433846670190958947355801916604025588861116008628224))))
abbrev xd6k13_ : Tm := (an_ (eq_ (.iapp 8 (.cons (.int .i64 xd6k11_) (.cons (.int .i64 (.iapp 4 (.cons (.int .i64 (sb_ (.lit 0) xd6k2_)) .nil))) .nil))) (.lit 0)) (eq_ (.iapp 8 (.cons (.int .i64 xd6k11_) (.cons (.int .i64 (.iapp 5 (.cons (.int .i64 (sb_ (.lit 0) xd6k2_)) .nil))) .nil))) (.lit 0)))
abbrev xd6k21_ : Tm := (eq_ (.iapp 6 (.cons (.int .i64 (ad_ xd6k2_ xd6k16_)) .nil)) (.lit 2))
abbrev xd6k24_ : Tm := (.iapp 7 (.cons (.int .i64 xd6k2_) .nil))
abbrev xd6k17_ : Tm := (an_ (an_ (an_ (an_ xd6k3_ (eq_ xd6k11_ (.lit 0))) xd6k21_) xd6k0_) (.not (eq_ xd6k24_ (.lit 0))))
abbrev xd6k19_ : Tm := (.agg (.cons z2_ (.cons (.int .u64 v3_) .nil)))
abbrev xd6k20_ : Tm := (.agg (.cons z0_ (.cons (.int .u64 v1_) .nil)))
abbrev xd6k22_ : Tm := (.agg (.cons z4_ (.cons z5_ .nil)))
abbrev xd6k23_ : Tm := (.iapp 13 (.cons (.int .i64 (sb_ xd6k2_ xd6k16_)) .nil))
def wS54_tree : Tree :=
 (.need xd6k6_
 (.need xd6k14_
 (.need xd6k5_
 (.need xd6k6_
 (.need xd6k6_
 (.need xd6k4_
 (.need xd6k7_
 (.need xd6k1_
 (.need xd6k8_
 (.need xd6k1_
 (.need (an_ (eq_ xd6k11_ (.lit 0)) xd6k8_)
 (.br (.not xd6k0_)
 (.ret (.bool (.tt false)))
 (.need xd6k4_
 (.need xd6k9_
 (.need xd6k5_
 (.br (eq_ xd6k23_ (.lit 1))
 (.need xd6k15_
 (.need xd6k15_
 (.need xd6k12_
 (.need (an_ xd6k15_ xd6k18_)
 (.need xd6k15_
 (.need xd6k18_
 (.need (an_ xd6k15_ xd6k18_)
 (.need xd6k10_
 (.ret (.bool (.tt true)))))))))))
 (.ret (.bool (.tt false)))))))))))))))))))
abbrev wbc_wS54 : Con := ⟨3, [xd6k20_, xd6k19_, xd6k22_], (an_ (an_ (an_ (an_ (an_ (an_ xd6k3_ (eq_ xd6k11_ (.lit 0))) xd6k21_) xd6k0_) (eq_ xd6k24_ (.lit 0))) (.not (eq_ (sb_ xd6k2_ xd6k16_) (.lit 0)))) (.not (.bapp 0 (.cons (.int .i64 (sb_ xd6k2_ xd6k16_)) .nil)))), (.bool (.tt true)), ⟨6, 0, 0, 0⟩, none⟩
theorem wS54_w : walkQ Tryd.prog 142 ⟨[wac_bfrom, wac_wadd, wac_wneg, wac_wint, wbc_baddN, wbc_baddM, wbc_btoN, wbc_btoF, wbc_btoT, wbc_bzeroN, wbc_bnumN, wac_num, wbc_lisO, wbc_lis2, wbc_lis3, wbc_lis4, wac_wcmp, wac_wof, wbc_bintO, wac_wmul, wbc_bmulO, wbc_sure], syG, [], [], []⟩ [] .v wbc_wS54 wbc_wS54.n 3000 (pcOf wbc_wS54.cnd) = some wS54_tree := by kernel_rfl
set_option maxHeartbeats 2000000 in
theorem wS54_h (xh xl yh yl o0 o1 : Int) : Hyp_ wbc_wS54 wS54_tree (wbE [xh, xl, yh, yl, o0, o1] [] [] []) := by
 intro hc hty
 simp only [wbc_wS54, Sy.holds, wbE, denV, denI, denB, denL, I2.den, VOp.den, List.getD_cons_zero, List.getD_cons_succ, Cst.den, syso, syse, syio, sybo, wbi_wv, wbi_wh, wbi_wl, wbi_rg, wbi_r6, wbi_gd, wbb_ng, B2.ofInts, B2.denI, B2.denB, if_true, Bool.false_eq_true, if_false, Nat.div_one, Nat.mul_one, Nat.add_zero] at hc
 simp only [wbc_wS54, patsTyp, patTyp, patTypL, wbE, denV, denL, List.getD_cons_zero, List.getD_cons_succ, and_true, true_and] at hty
 unfold wS54_tree
 simp only [wbc_wS54, Tree.holds, Sy.holds, wbE, denV, denI, denB, denL, I2.den, VOp.den, List.getD_cons_zero, List.getD_cons_succ, Cst.den, syso, syse, syio, sybo, wbi_wv, wbi_wh, wbi_wl, wbi_rg, wbi_gd, wbi_cp, B2.ofInts, B2.denI, B2.denB, if_true, Bool.false_eq_true, if_false, Nat.div_one, Nat.mul_one, Nat.add_zero]
 have hl := hc.1.1.1.1.1.1.1.1
 have ra := rg_spec (wvI xh xl + wvI yh yl)
 have rb := rg_spec (0 - wvI xh xl)
 have rc := r6_spec (wvI xh xl)
 have rd := cp_spec (wvI xh xl - wvI yh yl)
 have re := rg_spec (o0 * o1)
 have rf := rg_spec o0
 have x0 : wvI xh xl = xh * 18446744073709551616 + xl := rfl
 have y0 : wvI yh yl = yh * 18446744073709551616 + yl := rfl
 have hm := mul_rng (a := o0) (b := o1) hl.2.2.2.2.1 hl.2.2.2.2.2
 generalize wvI xh xl = X at *
 generalize wvI yh yl = Y at *
 generalize o0 * o1 = M at *
 refine ⟨?a0, fun h0 => ?_⟩; rotate_left
 refine ⟨?a1, fun h1 => ?_⟩; rotate_left
 refine ⟨?a2, fun h2 => ?_⟩; rotate_left
 refine ⟨?a3, fun h3 => ?_⟩; rotate_left
 refine ⟨?a4, fun h4 => ?_⟩; rotate_left
 refine ⟨?a5, fun h5 => ?_⟩; rotate_left
 refine ⟨?a6, fun h6 => ?_⟩; rotate_left
 refine ⟨?a7, fun h7 => ?_⟩; rotate_left
 refine ⟨?a8, fun h8 => ?_⟩; rotate_left
 refine ⟨?a9, fun h9 => ?_⟩; rotate_left
 refine ⟨?a10, fun h10 => ?_⟩; rotate_left
 refine ⟨fun h11 => ?_, fun h11 => ?_⟩
 refine ?a11; rotate_left
 refine ⟨?a12, fun h12 => ?_⟩; rotate_left
 refine ⟨?a13, fun h13 => ?_⟩; rotate_left
 refine ⟨?a14, fun h14 => ?_⟩; rotate_left
 refine ⟨fun h15 => ?_, fun h15 => ?_⟩
 refine ⟨?a15, fun h16 => ?_⟩; rotate_left
 refine ⟨?a16, fun h17 => ?_⟩; rotate_left
 refine ⟨?a17, fun h18 => ?_⟩; rotate_left
 refine ⟨?a18, fun h19 => ?_⟩; rotate_left
 refine ⟨?a19, fun h20 => ?_⟩; rotate_left
 refine ⟨?a20, fun h21 => ?_⟩; rotate_left
 refine ⟨?a21, fun h22 => ?_⟩; rotate_left
 refine ⟨?a22, fun h23 => ?_⟩; rotate_left
 refine ?a23; rotate_left
 refine ?a24; rotate_left
 case a0 | a1 | a2 | a3 | a4 | a5 | a6 | a7 | a8 | a9 | a10 | a12 | a13 | a14 | a15 | a16 | a17 | a18 | a19 | a20 | a21 | a22 =>
  as_aux_lemma =>
    first
    | exact True.intro
    | omega
    | (simp only [decide_eq_true_eq] at *; omega)
    | skip
 case a11 | a23 | a24 =>
  as_aux_lemma =>
    first
    | exact True.intro
    | rfl
    | (simp only [decide_eq_true_eq] at *; exfalso; omega)
    | (exfalso; omega)
    | (exfalso
       have g1 : gdF (rgE (0 - X)) ((0 - X) / 18446744073709551616) = 0 := gd_n (by omega) _
       have g2 : gdF (rgE (0 - X)) ((0 - X) % 18446744073709551616) = 0 := gd_n (by omega) _
       omega)
    | (exfalso
       have g1 : gdF (rgE (X + Y)) ((X + Y) / 18446744073709551616) = 0 := gd_n (by omega) _
       have g2 : gdF (rgE (X + Y)) ((X + Y) % 18446744073709551616) = 0 := gd_n (by omega) _
       omega)
    | (exfalso
       have g1 : gdF (r6E X) X = 0 := gd_n (by omega) _
       omega)
    | skip
theorem wbg_wS54 : wbc_wS54.Good Tryd.prog syG (wbE [] [] [] []) := good_of_walkC (Γ := ⟨[wac_bfrom, wac_wadd, wac_wneg, wac_wint, wbc_baddN, wbc_baddM, wbc_btoN, wbc_btoF, wbc_btoT, wbc_bzeroN, wbc_bnumN, wac_num, wbc_lisO, wbc_lis2, wbc_lis3, wbc_lis4, wac_wcmp, wac_wof, wbc_bintO, wac_wmul, wbc_bmulO, wbc_sure], syG, [], [], []⟩) (ρ := wbE [] [] [] []) sym wS54_w rfl (fun _ _ _ _ => (ok_cons (Con.Good.env (Con.Good.up wag_bfrom wbup rfl) _ _ _ _) (ok_cons (Con.Good.env (Con.Good.up wag_wadd wbup rfl) _ _ _ _) (ok_cons (Con.Good.env (Con.Good.up wag_wneg wbup rfl) _ _ _ _) (ok_cons (Con.Good.env (Con.Good.up wag_wint wbup rfl) _ _ _ _) (ok_cons (Con.Good.env wbg_baddN _ _ _ _) (ok_cons (Con.Good.env wbg_baddM _ _ _ _) (ok_cons (Con.Good.env wbg_btoN _ _ _ _) (ok_cons (Con.Good.env wbg_btoF _ _ _ _) (ok_cons (Con.Good.env wbg_btoT _ _ _ _) (ok_cons (Con.Good.env wbg_bzeroN _ _ _ _) (ok_cons (Con.Good.env wbg_bnumN _ _ _ _) (ok_cons (Con.Good.env (Con.Good.up wag_num wbup rfl) _ _ _ _) (ok_cons (Con.Good.env wbg_lisO _ _ _ _) (ok_cons (Con.Good.env wbg_lis2 _ _ _ _) (ok_cons (Con.Good.env wbg_lis3 _ _ _ _) (ok_cons (Con.Good.env wbg_lis4 _ _ _ _) (ok_cons (Con.Good.env (Con.Good.up wag_wcmp wbup rfl) _ _ _ _) (ok_cons (Con.Good.env (Con.Good.up wag_wof wbup rfl) _ _ _ _) (ok_cons (Con.Good.env wbg_bintO _ _ _ _) (ok_cons (Con.Good.env (Con.Good.up wag_wmul wbup rfl) _ _ _ _) (ok_cons (Con.Good.env wbg_bmulO _ _ _ _) (ok_cons (Con.Good.env wbg_sure _ _ _ _) ok_nil))))))))))))))))))))))) wS54_h
def wS55_tree : Tree :=
 (.need xd6k6_
 (.need xd6k14_
 (.need xd6k5_
 (.need xd6k6_
 (.need xd6k6_
 (.need xd6k4_
 (.need xd6k7_
 (.need xd6k1_
 (.need xd6k8_
 (.need xd6k1_
 (.need (an_ (eq_ xd6k11_ (.lit 0)) xd6k8_)
 (.br (.not xd6k0_)
 (.ret (.bool (.tt false)))
 (.need xd6k4_
 (.need xd6k9_
 (.need xd6k5_
 (.br (eq_ xd6k23_ (.lit 0))
 (.need xd6k15_
 (.need xd6k15_
 (.need xd6k12_
 (.need (an_ xd6k15_ xd6k18_)
 (.need xd6k15_
 (.need xd6k18_
 (.need (an_ xd6k15_ xd6k18_)
 (.need xd6k10_
 (.ret (.bool (.tt true)))))))))))
 (.ret (.bool (.tt false)))))))))))))))))))
abbrev wbc_wS55 : Con := ⟨3, [xd6k20_, xd6k19_, xd6k22_], (an_ (an_ xd6k17_ (eq_ xd6k24_ (.lit 2))) (eq_ (sb_ xd6k2_ xd6k16_) (.lit 0))), (.bool (.tt true)), ⟨6, 0, 0, 0⟩, none⟩
theorem wS55_w : walkQ Tryd.prog 142 ⟨[wac_bfrom, wac_wadd, wac_wneg, wac_wint, wbc_baddN, wbc_baddM, wbc_btoN, wbc_btoF, wbc_btoT, wbc_bzeroN, wbc_bnumN, wac_num, wbc_lisO, wbc_lis2, wbc_lis3, wbc_lis4, wac_wcmp, wac_wof, wbc_bintO, wac_wmul, wbc_bmulO, wbc_sure], syG, [], [], []⟩ [] .v wbc_wS55 wbc_wS55.n 3000 (pcOf wbc_wS55.cnd) = some wS55_tree := by kernel_rfl
set_option maxHeartbeats 2000000 in
theorem wS55_h (xh xl yh yl o0 o1 : Int) : Hyp_ wbc_wS55 wS55_tree (wbE [xh, xl, yh, yl, o0, o1] [] [] []) := by
 intro hc hty
 simp only [wbc_wS55, Sy.holds, wbE, denV, denI, denB, denL, I2.den, VOp.den, List.getD_cons_zero, List.getD_cons_succ, Cst.den, syso, syse, syio, sybo, wbi_wv, wbi_wh, wbi_wl, wbi_rg, wbi_r6, wbi_gd, wbb_ng, B2.ofInts, B2.denI, B2.denB, if_true, Bool.false_eq_true, if_false, Nat.div_one, Nat.mul_one, Nat.add_zero] at hc
 simp only [wbc_wS55, patsTyp, patTyp, patTypL, wbE, denV, denL, List.getD_cons_zero, List.getD_cons_succ, and_true, true_and] at hty
 unfold wS55_tree
 simp only [wbc_wS55, Tree.holds, Sy.holds, wbE, denV, denI, denB, denL, I2.den, VOp.den, List.getD_cons_zero, List.getD_cons_succ, Cst.den, syso, syse, syio, sybo, wbi_wv, wbi_wh, wbi_wl, wbi_rg, wbi_gd, wbi_cp, B2.ofInts, B2.denI, B2.denB, if_true, Bool.false_eq_true, if_false, Nat.div_one, Nat.mul_one, Nat.add_zero]
 have hl := hc.1.1.1.1.1.1.1.1
 have ra := rg_spec (wvI xh xl + wvI yh yl)
 have rb := rg_spec (0 - wvI xh xl)
 have rc := r6_spec (wvI xh xl)
 have rd := cp_spec (wvI xh xl - wvI yh yl)
 have re := rg_spec (o0 * o1)
 have rf := rg_spec o0
 have x0 : wvI xh xl = xh * 18446744073709551616 + xl := rfl
 have y0 : wvI yh yl = yh * 18446744073709551616 + yl := rfl
 have hm := mul_rng (a := o0) (b := o1) hl.2.2.2.2.1 hl.2.2.2.2.2
 generalize wvI xh xl = X at *
 generalize wvI yh yl = Y at *
 generalize o0 * o1 = M at *
 refine ⟨?a0, fun h0 => ?_⟩; rotate_left
 refine ⟨?a1, fun h1 => ?_⟩; rotate_left
 refine ⟨?a2, fun h2 => ?_⟩; rotate_left
 refine ⟨?a3, fun h3 => ?_⟩; rotate_left
 refine ⟨?a4, fun h4 => ?_⟩; rotate_left
 refine ⟨?a5, fun h5 => ?_⟩; rotate_left
 refine ⟨?a6, fun h6 => ?_⟩; rotate_left
 refine ⟨?a7, fun h7 => ?_⟩; rotate_left
 refine ⟨?a8, fun h8 => ?_⟩; rotate_left
 refine ⟨?a9, fun h9 => ?_⟩; rotate_left
 refine ⟨?a10, fun h10 => ?_⟩; rotate_left
 refine ⟨fun h11 => ?_, fun h11 => ?_⟩
 refine ?a11; rotate_left
 refine ⟨?a12, fun h12 => ?_⟩; rotate_left
 refine ⟨?a13, fun h13 => ?_⟩; rotate_left
 refine ⟨?a14, fun h14 => ?_⟩; rotate_left
 refine ⟨fun h15 => ?_, fun h15 => ?_⟩
 refine ⟨?a15, fun h16 => ?_⟩; rotate_left
 refine ⟨?a16, fun h17 => ?_⟩; rotate_left
 refine ⟨?a17, fun h18 => ?_⟩; rotate_left
 refine ⟨?a18, fun h19 => ?_⟩; rotate_left
 refine ⟨?a19, fun h20 => ?_⟩; rotate_left
 refine ⟨?a20, fun h21 => ?_⟩; rotate_left
 refine ⟨?a21, fun h22 => ?_⟩; rotate_left
 refine ⟨?a22, fun h23 => ?_⟩; rotate_left
 refine ?a23; rotate_left
 refine ?a24; rotate_left
 case a0 | a1 | a2 | a3 | a4 | a5 | a6 | a7 | a8 | a9 | a10 | a12 | a13 | a14 | a15 | a16 | a17 | a18 | a19 | a20 | a21 | a22 =>
  as_aux_lemma =>
    first
    | exact True.intro
    | omega
    | (simp only [decide_eq_true_eq] at *; omega)
    | skip
 case a11 | a23 | a24 =>
  as_aux_lemma =>
    first
    | exact True.intro
    | rfl
    | (simp only [decide_eq_true_eq] at *; exfalso; omega)
    | (exfalso; omega)
    | (exfalso
       have g1 : gdF (rgE (0 - X)) ((0 - X) / 18446744073709551616) = 0 := gd_n (by omega) _
       have g2 : gdF (rgE (0 - X)) ((0 - X) % 18446744073709551616) = 0 := gd_n (by omega) _
       omega)
    | (exfalso
       have g1 : gdF (rgE (X + Y)) ((X + Y) / 18446744073709551616) = 0 := gd_n (by omega) _
       have g2 : gdF (rgE (X + Y)) ((X + Y) % 18446744073709551616) = 0 := gd_n (by omega) _
       omega)
    | (exfalso
       have g1 : gdF (r6E X) X = 0 := gd_n (by omega) _
       omega)
    | skip
theorem wbg_wS55 : wbc_wS55.Good Tryd.prog syG (wbE [] [] [] []) := good_of_walkC (Γ := ⟨[wac_bfrom, wac_wadd, wac_wneg, wac_wint, wbc_baddN, wbc_baddM, wbc_btoN, wbc_btoF, wbc_btoT, wbc_bzeroN, wbc_bnumN, wac_num, wbc_lisO, wbc_lis2, wbc_lis3, wbc_lis4, wac_wcmp, wac_wof, wbc_bintO, wac_wmul, wbc_bmulO, wbc_sure], syG, [], [], []⟩) (ρ := wbE [] [] [] []) sym wS55_w rfl (fun _ _ _ _ => (ok_cons (Con.Good.env (Con.Good.up wag_bfrom wbup rfl) _ _ _ _) (ok_cons (Con.Good.env (Con.Good.up wag_wadd wbup rfl) _ _ _ _) (ok_cons (Con.Good.env (Con.Good.up wag_wneg wbup rfl) _ _ _ _) (ok_cons (Con.Good.env (Con.Good.up wag_wint wbup rfl) _ _ _ _) (ok_cons (Con.Good.env wbg_baddN _ _ _ _) (ok_cons (Con.Good.env wbg_baddM _ _ _ _) (ok_cons (Con.Good.env wbg_btoN _ _ _ _) (ok_cons (Con.Good.env wbg_btoF _ _ _ _) (ok_cons (Con.Good.env wbg_btoT _ _ _ _) (ok_cons (Con.Good.env wbg_bzeroN _ _ _ _) (ok_cons (Con.Good.env wbg_bnumN _ _ _ _) (ok_cons (Con.Good.env (Con.Good.up wag_num wbup rfl) _ _ _ _) (ok_cons (Con.Good.env wbg_lisO _ _ _ _) (ok_cons (Con.Good.env wbg_lis2 _ _ _ _) (ok_cons (Con.Good.env wbg_lis3 _ _ _ _) (ok_cons (Con.Good.env wbg_lis4 _ _ _ _) (ok_cons (Con.Good.env (Con.Good.up wag_wcmp wbup rfl) _ _ _ _) (ok_cons (Con.Good.env (Con.Good.up wag_wof wbup rfl) _ _ _ _) (ok_cons (Con.Good.env wbg_bintO _ _ _ _) (ok_cons (Con.Good.env (Con.Good.up wag_wmul wbup rfl) _ _ _ _) (ok_cons (Con.Good.env wbg_bmulO _ _ _ _) (ok_cons (Con.Good.env wbg_sure _ _ _ _) ok_nil))))))))))))))))))))))) wS55_h
def wS56_tree : Tree :=
 (.need xd6k6_
 (.need xd6k14_
 (.need xd6k5_
 (.need xd6k6_
 (.need xd6k6_
 (.need xd6k4_
 (.need xd6k7_
 (.need xd6k1_
 (.need xd6k8_
 (.need xd6k1_
 (.need (an_ (eq_ xd6k11_ (.lit 0)) xd6k8_)
 (.br (.not xd6k0_)
 (.ret (.bool (.tt false)))
 (.need xd6k4_
 (.need xd6k9_
 (.need xd6k5_
 (.br (eq_ xd6k23_ (.lit (-1)))
 (.need xd6k15_
 (.need xd6k15_
 (.need xd6k12_
 (.need (an_ xd6k15_ xd6k18_)
 (.need xd6k15_
 (.need xd6k18_
 (.need (an_ xd6k15_ xd6k18_)
 (.need xd6k10_
 (.ret (.bool (.tt true)))))))))))
 (.ret (.bool (.tt false)))))))))))))))))))
abbrev wbc_wS56 : Con := ⟨3, [xd6k20_, xd6k19_, xd6k22_], (an_ (an_ (an_ xd6k17_ (eq_ xd6k24_ (.lit 2))) (.not (eq_ (sb_ xd6k2_ xd6k16_) (.lit 0)))) (.bapp 0 (.cons (.int .i64 (sb_ xd6k2_ xd6k16_)) .nil))), (.bool (.tt true)), ⟨6, 0, 0, 0⟩, none⟩
theorem wS56_w : walkQ Tryd.prog 142 ⟨[wac_bfrom, wac_wadd, wac_wneg, wac_wint, wbc_baddN, wbc_baddM, wbc_btoN, wbc_btoF, wbc_btoT, wbc_bzeroN, wbc_bnumN, wac_num, wbc_lisO, wbc_lis2, wbc_lis3, wbc_lis4, wac_wcmp, wac_wof, wbc_bintO, wac_wmul, wbc_bmulO, wbc_sure], syG, [], [], []⟩ [] .v wbc_wS56 wbc_wS56.n 3000 (pcOf wbc_wS56.cnd) = some wS56_tree := by kernel_rfl
set_option maxHeartbeats 2000000 in
theorem wS56_h (xh xl yh yl o0 o1 : Int) : Hyp_ wbc_wS56 wS56_tree (wbE [xh, xl, yh, yl, o0, o1] [] [] []) := by
 intro hc hty
 simp only [wbc_wS56, Sy.holds, wbE, denV, denI, denB, denL, I2.den, VOp.den, List.getD_cons_zero, List.getD_cons_succ, Cst.den, syso, syse, syio, sybo, wbi_wv, wbi_wh, wbi_wl, wbi_rg, wbi_r6, wbi_gd, wbb_ng, B2.ofInts, B2.denI, B2.denB, if_true, Bool.false_eq_true, if_false, Nat.div_one, Nat.mul_one, Nat.add_zero] at hc
 simp only [wbc_wS56, patsTyp, patTyp, patTypL, wbE, denV, denL, List.getD_cons_zero, List.getD_cons_succ, and_true, true_and] at hty
 unfold wS56_tree
 simp only [wbc_wS56, Tree.holds, Sy.holds, wbE, denV, denI, denB, denL, I2.den, VOp.den, List.getD_cons_zero, List.getD_cons_succ, Cst.den, syso, syse, syio, sybo, wbi_wv, wbi_wh, wbi_wl, wbi_rg, wbi_gd, wbi_cp, B2.ofInts, B2.denI, B2.denB, if_true, Bool.false_eq_true, if_false, Nat.div_one, Nat.mul_one, Nat.add_zero]
 have hl := hc.1.1.1.1.1.1.1.1.1
 have ra := rg_spec (wvI xh xl + wvI yh yl)
 have rb := rg_spec (0 - wvI xh xl)
 have rc := r6_spec (wvI xh xl)
 have rd := cp_spec (wvI xh xl - wvI yh yl)
 have re := rg_spec (o0 * o1)
 have rf := rg_spec o0
 have x0 : wvI xh xl = xh * 18446744073709551616 + xl := rfl
 have y0 : wvI yh yl = yh * 18446744073709551616 + yl := rfl
 have hm := mul_rng (a := o0) (b := o1) hl.2.2.2.2.1 hl.2.2.2.2.2
 generalize wvI xh xl = X at *
 generalize wvI yh yl = Y at *
 generalize o0 * o1 = M at *
 refine ⟨?a0, fun h0 => ?_⟩; rotate_left
 refine ⟨?a1, fun h1 => ?_⟩; rotate_left
 refine ⟨?a2, fun h2 => ?_⟩; rotate_left
 refine ⟨?a3, fun h3 => ?_⟩; rotate_left
 refine ⟨?a4, fun h4 => ?_⟩; rotate_left
 refine ⟨?a5, fun h5 => ?_⟩; rotate_left
 refine ⟨?a6, fun h6 => ?_⟩; rotate_left
 refine ⟨?a7, fun h7 => ?_⟩; rotate_left
 refine ⟨?a8, fun h8 => ?_⟩; rotate_left
 refine ⟨?a9, fun h9 => ?_⟩; rotate_left
 refine ⟨?a10, fun h10 => ?_⟩; rotate_left
 refine ⟨fun h11 => ?_, fun h11 => ?_⟩
 refine ?a11; rotate_left
 refine ⟨?a12, fun h12 => ?_⟩; rotate_left
 refine ⟨?a13, fun h13 => ?_⟩; rotate_left
 refine ⟨?a14, fun h14 => ?_⟩; rotate_left
 refine ⟨fun h15 => ?_, fun h15 => ?_⟩
 refine ⟨?a15, fun h16 => ?_⟩; rotate_left
 refine ⟨?a16, fun h17 => ?_⟩; rotate_left
 refine ⟨?a17, fun h18 => ?_⟩; rotate_left
 refine ⟨?a18, fun h19 => ?_⟩; rotate_left
 refine ⟨?a19, fun h20 => ?_⟩; rotate_left
 refine ⟨?a20, fun h21 => ?_⟩; rotate_left
 refine ⟨?a21, fun h22 => ?_⟩; rotate_left
 refine ⟨?a22, fun h23 => ?_⟩; rotate_left
 refine ?a23; rotate_left
 refine ?a24; rotate_left
 case a0 | a1 | a2 | a3 | a4 | a5 | a6 | a7 | a8 | a9 | a10 | a12 | a13 | a14 | a15 | a16 | a17 | a18 | a19 | a20 | a21 | a22 =>
  as_aux_lemma =>
    first
    | exact True.intro
    | omega
    | (simp only [decide_eq_true_eq] at *; omega)
    | skip
 case a11 | a23 | a24 =>
  as_aux_lemma =>
    first
    | exact True.intro
    | rfl
    | (simp only [decide_eq_true_eq] at *; exfalso; omega)
    | (exfalso; omega)
    | (exfalso
       have g1 : gdF (rgE (0 - X)) ((0 - X) / 18446744073709551616) = 0 := gd_n (by omega) _
       have g2 : gdF (rgE (0 - X)) ((0 - X) % 18446744073709551616) = 0 := gd_n (by omega) _
       omega)
    | (exfalso
       have g1 : gdF (rgE (X + Y)) ((X + Y) / 18446744073709551616) = 0 := gd_n (by omega) _
       have g2 : gdF (rgE (X + Y)) ((X + Y) % 18446744073709551616) = 0 := gd_n (by omega) _
       omega)
    | (exfalso
       have g1 : gdF (r6E X) X = 0 := gd_n (by omega) _
       omega)
    | skip
theorem wbg_wS56 : wbc_wS56.Good Tryd.prog syG (wbE [] [] [] []) := good_of_walkC (Γ := ⟨[wac_bfrom, wac_wadd, wac_wneg, wac_wint, wbc_baddN, wbc_baddM, wbc_btoN, wbc_btoF, wbc_btoT, wbc_bzeroN, wbc_bnumN, wac_num, wbc_lisO, wbc_lis2, wbc_lis3, wbc_lis4, wac_wcmp, wac_wof, wbc_bintO, wac_wmul, wbc_bmulO, wbc_sure], syG, [], [], []⟩) (ρ := wbE [] [] [] []) sym wS56_w rfl (fun _ _ _ _ => (ok_cons (Con.Good.env (Con.Good.up wag_bfrom wbup rfl) _ _ _ _) (ok_cons (Con.Good.env (Con.Good.up wag_wadd wbup rfl) _ _ _ _) (ok_cons (Con.Good.env (Con.Good.up wag_wneg wbup rfl) _ _ _ _) (ok_cons (Con.Good.env (Con.Good.up wag_wint wbup rfl) _ _ _ _) (ok_cons (Con.Good.env wbg_baddN _ _ _ _) (ok_cons (Con.Good.env wbg_baddM _ _ _ _) (ok_cons (Con.Good.env wbg_btoN _ _ _ _) (ok_cons (Con.Good.env wbg_btoF _ _ _ _) (ok_cons (Con.Good.env wbg_btoT _ _ _ _) (ok_cons (Con.Good.env wbg_bzeroN _ _ _ _) (ok_cons (Con.Good.env wbg_bnumN _ _ _ _) (ok_cons (Con.Good.env (Con.Good.up wag_num wbup rfl) _ _ _ _) (ok_cons (Con.Good.env wbg_lisO _ _ _ _) (ok_cons (Con.Good.env wbg_lis2 _ _ _ _) (ok_cons (Con.Good.env wbg_lis3 _ _ _ _) (ok_cons (Con.Good.env wbg_lis4 _ _ _ _) (ok_cons (Con.Good.env (Con.Good.up wag_wcmp wbup rfl) _ _ _ _) (ok_cons (Con.Good.env (Con.Good.up wag_wof wbup rfl) _ _ _ _) (ok_cons (Con.Good.env wbg_bintO _ _ _ _) (ok_cons (Con.Good.env (Con.Good.up wag_wmul wbup rfl) _ _ _ _) (ok_cons (Con.Good.env wbg_bmulO _ _ _ _) (ok_cons (Con.Good.env wbg_sure _ _ _ _) ok_nil))))))))))))))))))))))) wS56_h
def wS57_tree : Tree :=
 (.need xd6k6_
 (.need xd6k14_
 (.need xd6k5_
 (.need xd6k6_
 (.need xd6k6_
 (.need xd6k4_
 (.need xd6k7_
 (.need xd6k1_
 (.need xd6k8_
 (.need xd6k1_
 (.need (an_ (eq_ xd6k11_ (.lit 0)) xd6k8_)
 (.br (.not xd6k0_)
 (.ret (.bool (.tt false)))
 (.need xd6k4_
 (.need xd6k9_
 (.need xd6k5_
 (.br (eq_ xd6k23_ (.lit 1))
 (.need xd6k15_
 (.need xd6k15_
 (.need xd6k12_
 (.need (an_ xd6k15_ xd6k18_)
 (.need xd6k15_
 (.need xd6k18_
 (.need (an_ xd6k15_ xd6k18_)
 (.need xd6k10_
 (.ret (.bool (.tt true)))))))))))
 (.ret (.bool (.tt false)))))))))))))))))))
abbrev wbc_wS57 : Con := ⟨3, [xd6k20_, xd6k19_, xd6k22_], (an_ (an_ (an_ xd6k17_ (eq_ xd6k24_ (.lit 2))) (.not (eq_ (sb_ xd6k2_ xd6k16_) (.lit 0)))) (.not (.bapp 0 (.cons (.int .i64 (sb_ xd6k2_ xd6k16_)) .nil)))), (.bool (.tt true)), ⟨6, 0, 0, 0⟩, none⟩
theorem wS57_w : walkQ Tryd.prog 142 ⟨[wac_bfrom, wac_wadd, wac_wneg, wac_wint, wbc_baddN, wbc_baddM, wbc_btoN, wbc_btoF, wbc_btoT, wbc_bzeroN, wbc_bnumN, wac_num, wbc_lisO, wbc_lis2, wbc_lis3, wbc_lis4, wac_wcmp, wac_wof, wbc_bintO, wac_wmul, wbc_bmulO, wbc_sure], syG, [], [], []⟩ [] .v wbc_wS57 wbc_wS57.n 3000 (pcOf wbc_wS57.cnd) = some wS57_tree := by kernel_rfl
set_option maxHeartbeats 2000000 in
theorem wS57_h (xh xl yh yl o0 o1 : Int) : Hyp_ wbc_wS57 wS57_tree (wbE [xh, xl, yh, yl, o0, o1] [] [] []) := by
 intro hc hty
 simp only [wbc_wS57, Sy.holds, wbE, denV, denI, denB, denL, I2.den, VOp.den, List.getD_cons_zero, List.getD_cons_succ, Cst.den, syso, syse, syio, sybo, wbi_wv, wbi_wh, wbi_wl, wbi_rg, wbi_r6, wbi_gd, wbb_ng, B2.ofInts, B2.denI, B2.denB, if_true, Bool.false_eq_true, if_false, Nat.div_one, Nat.mul_one, Nat.add_zero] at hc
 simp only [wbc_wS57, patsTyp, patTyp, patTypL, wbE, denV, denL, List.getD_cons_zero, List.getD_cons_succ, and_true, true_and] at hty
 unfold wS57_tree
 simp only [wbc_wS57, Tree.holds, Sy.holds, wbE, denV, denI, denB, denL, I2.den, VOp.den, List.getD_cons_zero, List.getD_cons_succ, Cst.den, syso, syse, syio, sybo, wbi_wv, wbi_wh, wbi_wl, wbi_rg, wbi_gd, wbi_cp, B2.ofInts, B2.denI, B2.denB, if_true, Bool.false_eq_true, if_false, Nat.div_one, Nat.mul_one, Nat.add_zero]
 have hl := hc.1.1.1.1.1.1.1.1.1
 have ra := rg_spec (wvI xh xl + wvI yh yl)
 have rb := rg_spec (0 - wvI xh xl)
 have rc := r6_spec (wvI xh xl)
 have rd := cp_spec (wvI xh xl - wvI yh yl)
 have re := rg_spec (o0 * o1)
 have rf := rg_spec o0
 have x0 : wvI xh xl = xh * 18446744073709551616 + xl := rfl
 have y0 : wvI yh yl = yh * 18446744073709551616 + yl := rfl
 have hm := mul_rng (a := o0) (b := o1) hl.2.2.2.2.1 hl.2.2.2.2.2
 generalize wvI xh xl = X at *
 generalize wvI yh yl = Y at *
 generalize o0 * o1 = M at *
 refine ⟨?a0, fun h0 => ?_⟩; rotate_left
 refine ⟨?a1, fun h1 => ?_⟩; rotate_left
 refine ⟨?a2, fun h2 => ?_⟩; rotate_left
 refine ⟨?a3, fun h3 => ?_⟩; rotate_left
 refine ⟨?a4, fun h4 => ?_⟩; rotate_left
 refine ⟨?a5, fun h5 => ?_⟩; rotate_left
 refine ⟨?a6, fun h6 => ?_⟩; rotate_left
 refine ⟨?a7, fun h7 => ?_⟩; rotate_left
 refine ⟨?a8, fun h8 => ?_⟩; rotate_left
 refine ⟨?a9, fun h9 => ?_⟩; rotate_left
 refine ⟨?a10, fun h10 => ?_⟩; rotate_left
 refine ⟨fun h11 => ?_, fun h11 => ?_⟩
 refine ?a11; rotate_left
 refine ⟨?a12, fun h12 => ?_⟩; rotate_left
 refine ⟨?a13, fun h13 => ?_⟩; rotate_left
 refine ⟨?a14, fun h14 => ?_⟩; rotate_left
 refine ⟨fun h15 => ?_, fun h15 => ?_⟩
 refine ⟨?a15, fun h16 => ?_⟩; rotate_left
 refine ⟨?a16, fun h17 => ?_⟩; rotate_left
 refine ⟨?a17, fun h18 => ?_⟩; rotate_left
 refine ⟨?a18, fun h19 => ?_⟩; rotate_left
 refine ⟨?a19, fun h20 => ?_⟩; rotate_left
 refine ⟨?a20, fun h21 => ?_⟩; rotate_left
 refine ⟨?a21, fun h22 => ?_⟩; rotate_left
 refine ⟨?a22, fun h23 => ?_⟩; rotate_left
 refine ?a23; rotate_left
 refine ?a24; rotate_left
 case a0 | a1 | a2 | a3 | a4 | a5 | a6 | a7 | a8 | a9 | a10 | a12 | a13 | a14 | a15 | a16 | a17 | a18 | a19 | a20 | a21 | a22 =>
  as_aux_lemma =>
    first
    | exact True.intro
    | omega
    | (simp only [decide_eq_true_eq] at *; omega)
    | skip
 case a11 | a23 | a24 =>
  as_aux_lemma =>
    first
    | exact True.intro
    | rfl
    | (simp only [decide_eq_true_eq] at *; exfalso; omega)
    | (exfalso; omega)
    | (exfalso
       have g1 : gdF (rgE (0 - X)) ((0 - X) / 18446744073709551616) = 0 := gd_n (by omega) _
       have g2 : gdF (rgE (0 - X)) ((0 - X) % 18446744073709551616) = 0 := gd_n (by omega) _
       omega)
    | (exfalso
       have g1 : gdF (rgE (X + Y)) ((X + Y) / 18446744073709551616) = 0 := gd_n (by omega) _
       have g2 : gdF (rgE (X + Y)) ((X + Y) % 18446744073709551616) = 0 := gd_n (by omega) _
       omega)
    | (exfalso
       have g1 : gdF (r6E X) X = 0 := gd_n (by omega) _
       omega)
    | skip
theorem wbg_wS57 : wbc_wS57.Good Tryd.prog syG (wbE [] [] [] []) := good_of_walkC (Γ := ⟨[wac_bfrom, wac_wadd, wac_wneg, wac_wint, wbc_baddN, wbc_baddM, wbc_btoN, wbc_btoF, wbc_btoT, wbc_bzeroN, wbc_bnumN, wac_num, wbc_lisO, wbc_lis2, wbc_lis3, wbc_lis4, wac_wcmp, wac_wof, wbc_bintO, wac_wmul, wbc_bmulO, wbc_sure], syG, [], [], []⟩) (ρ := wbE [] [] [] []) sym wS57_w rfl (fun _ _ _ _ => (ok_cons (Con.Good.env (Con.Good.up wag_bfrom wbup rfl) _ _ _ _) (ok_cons (Con.Good.env (Con.Good.up wag_wadd wbup rfl) _ _ _ _) (ok_cons (Con.Good.env (Con.Good.up wag_wneg wbup rfl) _ _ _ _) (ok_cons (Con.Good.env (Con.Good.up wag_wint wbup rfl) _ _ _ _) (ok_cons (Con.Good.env wbg_baddN _ _ _ _) (ok_cons (Con.Good.env wbg_baddM _ _ _ _) (ok_cons (Con.Good.env wbg_btoN _ _ _ _) (ok_cons (Con.Good.env wbg_btoF _ _ _ _) (ok_cons (Con.Good.env wbg_btoT _ _ _ _) (ok_cons (Con.Good.env wbg_bzeroN _ _ _ _) (ok_cons (Con.Good.env wbg_bnumN _ _ _ _) (ok_cons (Con.Good.env (Con.Good.up wag_num wbup rfl) _ _ _ _) (ok_cons (Con.Good.env wbg_lisO _ _ _ _) (ok_cons (Con.Good.env wbg_lis2 _ _ _ _) (ok_cons (Con.Good.env wbg_lis3 _ _ _ _) (ok_cons (Con.Good.env wbg_lis4 _ _ _ _) (ok_cons (Con.Good.env (Con.Good.up wag_wcmp wbup rfl) _ _ _ _) (ok_cons (Con.Good.env (Con.Good.up wag_wof wbup rfl) _ _ _ _) (ok_cons (Con.Good.env wbg_bintO _ _ _ _) (ok_cons (Con.Good.env (Con.Good.up wag_wmul wbup rfl) _ _ _ _) (ok_cons (Con.Good.env wbg_bmulO _ _ _ _) (ok_cons (Con.Good.env wbg_sure _ _ _ _) ok_nil))))))))))))))))))))))) wS57_h
def wS58_tree : Tree :=
 (.need xd6k6_
 (.need xd6k14_
 (.need xd6k5_
 (.need xd6k6_
 (.need xd6k6_
 (.need xd6k4_
 (.need xd6k7_
 (.need xd6k1_
 (.need xd6k8_
 (.need xd6k1_
 (.need (an_ (eq_ xd6k11_ (.lit 0)) xd6k8_)
 (.br (.not xd6k0_)
 (.ret (.bool (.tt false)))
 (.ret (.bool (.tt false)))))))))))))))
abbrev wbc_wS58 : Con := ⟨3, [xd6k20_, xd6k19_, xd6k22_], (an_ xd6k17_ (.not (eq_ xd6k24_ (.lit 2)))), (.bool (.tt true)), ⟨6, 0, 0, 0⟩, none⟩
theorem wS58_w : walkQ Tryd.prog 142 ⟨[wac_bfrom, wac_wadd, wac_wneg, wac_wint, wbc_baddN, wbc_baddM, wbc_btoN, wbc_btoF, wbc_btoT, wbc_bzeroN, wbc_bnumN, wac_num, wbc_lisO, wbc_lis2, wbc_lis3, wbc_lis4, wac_wcmp, wac_wof, wbc_bintO, wac_wmul, wbc_bmulO, wbc_sure], syG, [], [], []⟩ [] .v wbc_wS58 wbc_wS58.n 3000 (pcOf wbc_wS58.cnd) = some wS58_tree := by kernel_rfl
set_option maxHeartbeats 2000000 in
theorem wS58_h (xh xl yh yl o0 o1 : Int) : Hyp_ wbc_wS58 wS58_tree (wbE [xh, xl, yh, yl, o0, o1] [] [] []) := by
 intro hc hty
 simp only [wbc_wS58, Sy.holds, wbE, denV, denI, denB, denL, I2.den, VOp.den, List.getD_cons_zero, List.getD_cons_succ, Cst.den, syso, syse, syio, sybo, wbi_wv, wbi_wh, wbi_wl, wbi_rg, wbi_r6, wbi_gd, wbb_ng, B2.ofInts, B2.denI, B2.denB, if_true, Bool.false_eq_true, if_false, Nat.div_one, Nat.mul_one, Nat.add_zero] at hc
 simp only [wbc_wS58, patsTyp, patTyp, patTypL, wbE, denV, denL, List.getD_cons_zero, List.getD_cons_succ, and_true, true_and] at hty
 unfold wS58_tree
 simp only [wbc_wS58, Tree.holds, Sy.holds, wbE, denV, denI, denB, denL, I2.den, VOp.den, List.getD_cons_zero, List.getD_cons_succ, Cst.den, syso, syse, syio, sybo, wbi_wv, wbi_wh, wbi_wl, wbi_rg, wbi_gd, B2.ofInts, B2.denI, B2.denB, if_true, Bool.false_eq_true, if_false, Nat.div_one, Nat.mul_one, Nat.add_zero]
 have hl := hc.1.1.1.1.1.1.1
 have ra := rg_spec (wvI xh xl + wvI yh yl)
 have rb := rg_spec (0 - wvI xh xl)
 have rc := r6_spec (wvI xh xl)
 have rd := cp_spec (wvI xh xl - wvI yh yl)
 have re := rg_spec (o0 * o1)
 have rf := rg_spec o0
 have x0 : wvI xh xl = xh * 18446744073709551616 + xl := rfl
 have y0 : wvI yh yl = yh * 18446744073709551616 + yl := rfl
 have hm := mul_rng (a := o0) (b := o1) hl.2.2.2.2.1 hl.2.2.2.2.2
 generalize wvI xh xl = X at *
 generalize wvI yh yl = Y at *
 generalize o0 * o1 = M at *
 refine ⟨?a0, fun h0 => ?_⟩; rotate_left
 refine ⟨?a1, fun h1 => ?_⟩; rotate_left
 refine ⟨?a2, fun h2 => ?_⟩; rotate_left
 refine ⟨?a3, fun h3 => ?_⟩; rotate_left
 refine ⟨?a4, fun h4 => ?_⟩; rotate_left
 refine ⟨?a5, fun h5 => ?_⟩; rotate_left
 refine ⟨?a6, fun h6 => ?_⟩; rotate_left
 refine ⟨?a7, fun h7 => ?_⟩; rotate_left
 refine ⟨?a8, fun h8 => ?_⟩; rotate_left
 refine ⟨?a9, fun h9 => ?_⟩; rotate_left
 refine ⟨?a10, fun h10 => ?_⟩; rotate_left
 refine ⟨fun h11 => ?_, fun h11 => ?_⟩
 refine ?a11; rotate_left
 refine ?a12; rotate_left
 case a0 | a1 | a2 | a3 | a4 | a5 | a6 | a7 | a8 | a9 | a10 =>
  as_aux_lemma =>
    first
    | exact True.intro
    | omega
    | (simp only [decide_eq_true_eq] at *; omega)
    | skip
 case a11 | a12 =>
  as_aux_lemma =>
    first
    | exact True.intro
    | rfl
    | (simp only [decide_eq_true_eq] at *; exfalso; omega)
    | (exfalso; omega)
    | (exfalso
       have g1 : gdF (rgE (0 - X)) ((0 - X) / 18446744073709551616) = 0 := gd_n (by omega) _
       have g2 : gdF (rgE (0 - X)) ((0 - X) % 18446744073709551616) = 0 := gd_n (by omega) _
       omega)
    | (exfalso
       have g1 : gdF (rgE (X + Y)) ((X + Y) / 18446744073709551616) = 0 := gd_n (by omega) _
       have g2 : gdF (rgE (X + Y)) ((X + Y) % 18446744073709551616) = 0 := gd_n (by omega) _
       omega)
    | (exfalso
       have g1 : gdF (r6E X) X = 0 := gd_n (by omega) _
       omega)
    | skip
theorem wbg_wS58 : wbc_wS58.Good Tryd.prog syG (wbE [] [] [] []) := good_of_walkC (Γ := ⟨[wac_bfrom, wac_wadd, wac_wneg, wac_wint, wbc_baddN, wbc_baddM, wbc_btoN, wbc_btoF, wbc_btoT, wbc_bzeroN, wbc_bnumN, wac_num, wbc_lisO, wbc_lis2, wbc_lis3, wbc_lis4, wac_wcmp, wac_wof, wbc_bintO, wac_wmul, wbc_bmulO, wbc_sure], syG, [], [], []⟩) (ρ := wbE [] [] [] []) sym wS58_w rfl (fun _ _ _ _ => (ok_cons (Con.Good.env (Con.Good.up wag_bfrom wbup rfl) _ _ _ _) (ok_cons (Con.Good.env (Con.Good.up wag_wadd wbup rfl) _ _ _ _) (ok_cons (Con.Good.env (Con.Good.up wag_wneg wbup rfl) _ _ _ _) (ok_cons (Con.Good.env (Con.Good.up wag_wint wbup rfl) _ _ _ _) (ok_cons (Con.Good.env wbg_baddN _ _ _ _) (ok_cons (Con.Good.env wbg_baddM _ _ _ _) (ok_cons (Con.Good.env wbg_btoN _ _ _ _) (ok_cons (Con.Good.env wbg_btoF _ _ _ _) (ok_cons (Con.Good.env wbg_btoT _ _ _ _) (ok_cons (Con.Good.env wbg_bzeroN _ _ _ _) (ok_cons (Con.Good.env wbg_bnumN _ _ _ _) (ok_cons (Con.Good.env (Con.Good.up wag_num wbup rfl) _ _ _ _) (ok_cons (Con.Good.env wbg_lisO _ _ _ _) (ok_cons (Con.Good.env wbg_lis2 _ _ _ _) (ok_cons (Con.Good.env wbg_lis3 _ _ _ _) (ok_cons (Con.Good.env wbg_lis4 _ _ _ _) (ok_cons (Con.Good.env (Con.Good.up wag_wcmp wbup rfl) _ _ _ _) (ok_cons (Con.Good.env (Con.Good.up wag_wof wbup rfl) _ _ _ _) (ok_cons (Con.Good.env wbg_bintO _ _ _ _) (ok_cons (Con.Good.env (Con.Good.up wag_wmul wbup rfl) _ _ _ _) (ok_cons (Con.Good.env wbg_bmulO _ _ _ _) (ok_cons (Con.Good.env wbg_sure _ _ _ _) ok_nil))))))))))))))))))))))) wS58_h
def wS59_tree : Tree :=
 (.need xd6k6_
 (.need xd6k14_
 (.need xd6k5_
 (.need xd6k6_
 (.need xd6k6_
 (.need xd6k4_
 (.need xd6k7_
 (.need xd6k1_
 (.need xd6k8_
 (.need xd6k1_
 (.need (an_ (eq_ xd6k11_ (.lit 0)) xd6k8_)
 (.ret (.bool (.tt false))))))))))))))
abbrev wbc_wS59 : Con := ⟨3, [xd6k20_, xd6k19_, xd6k22_], (an_ (an_ (an_ xd6k3_ (eq_ xd6k11_ (.lit 0))) xd6k21_) (.not xd6k0_)), (.bool (.tt true)), ⟨6, 0, 0, 0⟩, none⟩
theorem wS59_w : walkQ Tryd.prog 142 ⟨[wac_bfrom, wac_wadd, wac_wneg, wac_wint, wbc_baddN, wbc_baddM, wbc_btoN, wbc_btoF, wbc_btoT, wbc_bzeroN, wbc_bnumN, wac_num, wbc_lisO, wbc_lis2, wbc_lis3, wbc_lis4, wac_wcmp, wac_wof, wbc_bintO, wac_wmul, wbc_bmulO, wbc_sure], syG, [], [], []⟩ [] .v wbc_wS59 wbc_wS59.n 3000 (pcOf wbc_wS59.cnd) = some wS59_tree := by kernel_rfl
set_option maxHeartbeats 2000000 in
theorem wS59_h (xh xl yh yl o0 o1 : Int) : Hyp_ wbc_wS59 wS59_tree (wbE [xh, xl, yh, yl, o0, o1] [] [] []) := by
 intro hc hty
 simp only [wbc_wS59, Sy.holds, wbE, denV, denI, denB, denL, I2.den, VOp.den, List.getD_cons_zero, List.getD_cons_succ, Cst.den, syso, syse, syio, sybo, wbi_wv, wbi_wh, wbi_wl, wbi_rg, wbi_gd, wbb_ng, B2.ofInts, B2.denI, B2.denB, if_true, Bool.false_eq_true, if_false, Nat.div_one, Nat.mul_one, Nat.add_zero] at hc
 simp only [wbc_wS59, patsTyp, patTyp, patTypL, wbE, denV, denL, List.getD_cons_zero, List.getD_cons_succ, and_true, true_and] at hty
 unfold wS59_tree
 simp only [wbc_wS59, Tree.holds, Sy.holds, wbE, denV, denI, denB, denL, I2.den, VOp.den, List.getD_cons_zero, List.getD_cons_succ, Cst.den, syso, syse, syio, sybo, wbi_wv, wbi_rg, B2.ofInts, B2.denI, B2.denB, if_true, Bool.false_eq_true, if_false, Nat.div_one, Nat.mul_one, Nat.add_zero]
 have hl := hc.1.1.1.1.1
 have ra := rg_spec (wvI xh xl + wvI yh yl)
 have rb := rg_spec (0 - wvI xh xl)
 have rc := r6_spec (wvI xh xl)
 have rd := cp_spec (wvI xh xl - wvI yh yl)
 have re := rg_spec (o0 * o1)
 have rf := rg_spec o0
 have x0 : wvI xh xl = xh * 18446744073709551616 + xl := rfl
 have y0 : wvI yh yl = yh * 18446744073709551616 + yl := rfl
 have hm := mul_rng (a := o0) (b := o1) hl.2.2.2.2.1 hl.2.2.2.2.2
 generalize wvI xh xl = X at *
 generalize wvI yh yl = Y at *
 generalize o0 * o1 = M at *
 refine ⟨?a0, fun h0 => ?_⟩; rotate_left
 refine ⟨?a1, fun h1 => ?_⟩; rotate_left
 refine ⟨?a2, fun h2 => ?_⟩; rotate_left
 refine ⟨?a3, fun h3 => ?_⟩; rotate_left
 refine ⟨?a4, fun h4 => ?_⟩; rotate_left
 refine ⟨?a5, fun h5 => ?_⟩; rotate_left
 refine ⟨?a6, fun h6 => ?_⟩; rotate_left
 refine ⟨?a7, fun h7 => ?_⟩; rotate_left
 refine ⟨?a8, fun h8 => ?_⟩; rotate_left
 refine ⟨?a9, fun h9 => ?_⟩; rotate_left
 refine ⟨?a10, fun h10 => ?_⟩; rotate_left
 ·
  as_aux_lemma =>
    first
    | exact True.intro
    | rfl
    | (simp only [decide_eq_true_eq] at *; exfalso; omega)
    | (exfalso; omega)
    | (exfalso
       have g1 : gdF (rgE (0 - X)) ((0 - X) / 18446744073709551616) = 0 := gd_n (by omega) _
       have g2 : gdF (rgE (0 - X)) ((0 - X) % 18446744073709551616) = 0 := gd_n (by omega) _
       omega)
    | (exfalso
       have g1 : gdF (rgE (X + Y)) ((X + Y) / 18446744073709551616) = 0 := gd_n (by omega) _
       have g2 : gdF (rgE (X + Y)) ((X + Y) % 18446744073709551616) = 0 := gd_n (by omega) _
       omega)
    | (exfalso
       have g1 : gdF (r6E X) X = 0 := gd_n (by omega) _
       omega)
    | skip
 case a0 | a1 | a2 | a3 | a4 | a5 | a6 | a7 | a8 | a9 | a10 =>
  as_aux_lemma =>
    first
    | exact True.intro
    | omega
    | (simp only [decide_eq_true_eq] at *; omega)
    | skip
theorem wbg_wS59 : wbc_wS59.Good Tryd.prog syG (wbE [] [] [] []) := good_of_walkC (Γ := ⟨[wac_bfrom, wac_wadd, wac_wneg, wac_wint, wbc_baddN, wbc_baddM, wbc_btoN, wbc_btoF, wbc_btoT, wbc_bzeroN, wbc_bnumN, wac_num, wbc_lisO, wbc_lis2, wbc_lis3, wbc_lis4, wac_wcmp, wac_wof, wbc_bintO, wac_wmul, wbc_bmulO, wbc_sure], syG, [], [], []⟩) (ρ := wbE [] [] [] []) sym wS59_w rfl (fun _ _ _ _ => (ok_cons (Con.Good.env (Con.Good.up wag_bfrom wbup rfl) _ _ _ _) (ok_cons (Con.Good.env (Con.Good.up wag_wadd wbup rfl) _ _ _ _) (ok_cons (Con.Good.env (Con.Good.up wag_wneg wbup rfl) _ _ _ _) (ok_cons (Con.Good.env (Con.Good.up wag_wint wbup rfl) _ _ _ _) (ok_cons (Con.Good.env wbg_baddN _ _ _ _) (ok_cons (Con.Good.env wbg_baddM _ _ _ _) (ok_cons (Con.Good.env wbg_btoN _ _ _ _) (ok_cons (Con.Good.env wbg_btoF _ _ _ _) (ok_cons (Con.Good.env wbg_btoT _ _ _ _) (ok_cons (Con.Good.env wbg_bzeroN _ _ _ _) (ok_cons (Con.Good.env wbg_bnumN _ _ _ _) (ok_cons (Con.Good.env (Con.Good.up wag_num wbup rfl) _ _ _ _) (ok_cons (Con.Good.env wbg_lisO _ _ _ _) (ok_cons (Con.Good.env wbg_lis2 _ _ _ _) (ok_cons (Con.Good.env wbg_lis3 _ _ _ _) (ok_cons (Con.Good.env wbg_lis4 _ _ _ _) (ok_cons (Con.Good.env (Con.Good.up wag_wcmp wbup rfl) _ _ _ _) (ok_cons (Con.Good.env (Con.Good.up wag_wof wbup rfl) _ _ _ _) (ok_cons (Con.Good.env wbg_bintO _ _ _ _) (ok_cons (Con.Good.env (Con.Good.up wag_wmul wbup rfl) _ _ _ _) (ok_cons (Con.Good.env wbg_bmulO _ _ _ _) (ok_cons (Con.Good.env wbg_sure _ _ _ _) ok_nil))))))))))))))))))))))) wS59_h
def wS60_tree : Tree :=
 (.need xd6k6_
 (.need xd6k14_
 (.need xd6k5_
 (.need xd6k6_
 (.need xd6k6_
 (.need xd6k4_
 (.need xd6k7_
 (.need xd6k1_
 (.need xd6k8_
 (.need xd6k1_
 (.need (an_ (eq_ xd6k11_ (.lit 0)) xd6k8_)
 (.ret (.bool (.tt false))))))))))))))
abbrev wbc_wS60 : Con := ⟨3, [xd6k20_, xd6k19_, xd6k22_], (an_ (an_ xd6k3_ (eq_ xd6k11_ (.lit 0))) (.not xd6k21_)), (.bool (.tt true)), ⟨6, 0, 0, 0⟩, none⟩
theorem wS60_w : walkQ Tryd.prog 142 ⟨[wac_bfrom, wac_wadd, wac_wneg, wac_wint, wbc_baddN, wbc_baddM, wbc_btoN, wbc_btoF, wbc_btoT, wbc_bzeroN, wbc_bnumN, wac_num, wbc_lisO, wbc_lis2, wbc_lis3, wbc_lis4, wac_wcmp, wac_wof, wbc_bintO, wac_wmul, wbc_bmulO, wbc_sure], syG, [], [], []⟩ [] .v wbc_wS60 wbc_wS60.n 3000 (pcOf wbc_wS60.cnd) = some wS60_tree := by kernel_rfl
set_option maxHeartbeats 2000000 in
theorem wS60_h (xh xl yh yl o0 o1 : Int) : Hyp_ wbc_wS60 wS60_tree (wbE [xh, xl, yh, yl, o0, o1] [] [] []) := by
 intro hc hty
 simp only [wbc_wS60, Sy.holds, wbE, denV, denI, denB, denL, I2.den, VOp.den, List.getD_cons_zero, List.getD_cons_succ, Cst.den, syso, syse, syio, sybo, wbi_wv, wbi_rg, wbb_ng, B2.ofInts, B2.denI, B2.denB, if_true, Bool.false_eq_true, if_false, Nat.div_one, Nat.mul_one, Nat.add_zero] at hc
 simp only [wbc_wS60, patsTyp, patTyp, patTypL, wbE, denV, denL, List.getD_cons_zero, List.getD_cons_succ, and_true, true_and] at hty
 unfold wS60_tree
 simp only [wbc_wS60, Tree.holds, Sy.holds, wbE, denV, denI, denB, denL, I2.den, VOp.den, List.getD_cons_zero, List.getD_cons_succ, Cst.den, syso, syse, syio, sybo, wbi_wv, wbi_rg, B2.ofInts, B2.denI, B2.denB, if_true, Bool.false_eq_true, if_false, Nat.div_one, Nat.mul_one, Nat.add_zero]
 have hl := hc.1.1.1.1
 have ra := rg_spec (wvI xh xl + wvI yh yl)
 have rb := rg_spec (0 - wvI xh xl)
 have rc := r6_spec (wvI xh xl)
 have rd := cp_spec (wvI xh xl - wvI yh yl)
 have re := rg_spec (o0 * o1)
 have rf := rg_spec o0
 have x0 : wvI xh xl = xh * 18446744073709551616 + xl := rfl
 have y0 : wvI yh yl = yh * 18446744073709551616 + yl := rfl
 have hm := mul_rng (a := o0) (b := o1) hl.2.2.2.2.1 hl.2.2.2.2.2
 generalize wvI xh xl = X at *
 generalize wvI yh yl = Y at *
 generalize o0 * o1 = M at *
 refine ⟨?a0, fun h0 => ?_⟩; rotate_left
 refine ⟨?a1, fun h1 => ?_⟩; rotate_left
 refine ⟨?a2, fun h2 => ?_⟩; rotate_left
 refine ⟨?a3, fun h3 => ?_⟩; rotate_left
 refine ⟨?a4, fun h4 => ?_⟩; rotate_left
 refine ⟨?a5, fun h5 => ?_⟩; rotate_left
 refine ⟨?a6, fun h6 => ?_⟩; rotate_left
 refine ⟨?a7, fun h7 => ?_⟩; rotate_left
 refine ⟨?a8, fun h8 => ?_⟩; rotate_left
 refine ⟨?a9, fun h9 => ?_⟩; rotate_left
 refine ⟨?a10, fun h10 => ?_⟩; rotate_left
 ·
  as_aux_lemma =>
    first
    | exact True.intro
    | rfl
    | (simp only [decide_eq_true_eq] at *; exfalso; omega)
    | (exfalso; omega)
    | (exfalso
       have g1 : gdF (rgE (0 - X)) ((0 - X) / 18446744073709551616) = 0 := gd_n (by omega) _
       have g2 : gdF (rgE (0 - X)) ((0 - X) % 18446744073709551616) = 0 := gd_n (by omega) _
       omega)
    | (exfalso
       have g1 : gdF (rgE (X + Y)) ((X + Y) / 18446744073709551616) = 0 := gd_n (by omega) _
       have g2 : gdF (rgE (X + Y)) ((X + Y) % 18446744073709551616) = 0 := gd_n (by omega) _
       omega)
    | (exfalso
       have g1 : gdF (r6E X) X = 0 := gd_n (by omega) _
       omega)
    | skip
 case a0 | a1 | a2 | a3 | a4 | a5 | a6 | a7 | a8 | a9 | a10 =>
  as_aux_lemma =>
    first
    | exact True.intro
    | omega
    | (simp only [decide_eq_true_eq] at *; omega)
    | skip
theorem wbg_wS60 : wbc_wS60.Good Tryd.prog syG (wbE [] [] [] []) := good_of_walkC (Γ := ⟨[wac_bfrom, wac_wadd, wac_wneg, wac_wint, wbc_baddN, wbc_baddM, wbc_btoN, wbc_btoF, wbc_btoT, wbc_bzeroN, wbc_bnumN, wac_num, wbc_lisO, wbc_lis2, wbc_lis3, wbc_lis4, wac_wcmp, wac_wof, wbc_bintO, wac_wmul, wbc_bmulO, wbc_sure], syG, [], [], []⟩) (ρ := wbE [] [] [] []) sym wS60_w rfl (fun _ _ _ _ => (ok_cons (Con.Good.env (Con.Good.up wag_bfrom wbup rfl) _ _ _ _) (ok_cons (Con.Good.env (Con.Good.up wag_wadd wbup rfl) _ _ _ _) (ok_cons (Con.Good.env (Con.Good.up wag_wneg wbup rfl) _ _ _ _) (ok_cons (Con.Good.env (Con.Good.up wag_wint wbup rfl) _ _ _ _) (ok_cons (Con.Good.env wbg_baddN _ _ _ _) (ok_cons (Con.Good.env wbg_baddM _ _ _ _) (ok_cons (Con.Good.env wbg_btoN _ _ _ _) (ok_cons (Con.Good.env wbg_btoF _ _ _ _) (ok_cons (Con.Good.env wbg_btoT _ _ _ _) (ok_cons (Con.Good.env wbg_bzeroN _ _ _ _) (ok_cons (Con.Good.env wbg_bnumN _ _ _ _) (ok_cons (Con.Good.env (Con.Good.up wag_num wbup rfl) _ _ _ _) (ok_cons (Con.Good.env wbg_lisO _ _ _ _) (ok_cons (Con.Good.env wbg_lis2 _ _ _ _) (ok_cons (Con.Good.env wbg_lis3 _ _ _ _) (ok_cons (Con.Good.env wbg_lis4 _ _ _ _) (ok_cons (Con.Good.env (Con.Good.up wag_wcmp wbup rfl) _ _ _ _) (ok_cons (Con.Good.env (Con.Good.up wag_wof wbup rfl) _ _ _ _) (ok_cons (Con.Good.env wbg_bintO _ _ _ _) (ok_cons (Con.Good.env (Con.Good.up wag_wmul wbup rfl) _ _ _ _) (ok_cons (Con.Good.env wbg_bmulO _ _ _ _) (ok_cons (Con.Good.env wbg_sure _ _ _ _) ok_nil))))))))))))))))))))))) wS60_h
def wS61_tree : Tree :=
 (.need xd6k6_
 (.need xd6k14_
 (.need xd6k5_
 (.need xd6k6_
 (.need xd6k6_
 (.need xd6k4_
 (.need xd6k7_
 (.need xd6k1_
 (.need xd6k8_
 (.need xd6k1_
 (.br (.not xd6k0_)
 (.ret (.bool (.tt false)))
 (.br (.not xd6k13_)
 (.ret (.bool (.tt false)))
 (.need xd6k4_
 (.need xd6k9_
 (.need xd6k5_
 (.br (eq_ xd6k23_ (.lit 0))
 (.need xd6k15_
 (.need xd6k15_
 (.need xd6k12_
 (.need (an_ xd6k15_ xd6k18_)
 (.need xd6k15_
 (.need xd6k18_
 (.need (an_ xd6k15_ xd6k18_)
 (.need xd6k10_
 (.ret (.bool (.tt true)))))))))))
 (.ret (.bool (.tt false)))))))))))))))))))
abbrev wbc_wS61 : Con := ⟨3, [xd6k20_, xd6k19_, xd6k22_], (an_ (an_ (an_ (an_ (an_ (an_ (an_ xd6k3_ (.not (eq_ xd6k11_ (.lit 0)))) xd6k21_) xd6k0_) (eq_ xd6k11_ (.lit 2))) xd6k13_) (eq_ xd6k24_ (.lit 0))) (eq_ (sb_ xd6k2_ xd6k16_) (.lit 0))), (.bool (.tt true)), ⟨6, 0, 0, 0⟩, none⟩
theorem wS61_w : walkQ Tryd.prog 142 ⟨[wac_bfrom, wac_wadd, wac_wneg, wac_wint, wbc_baddN, wbc_baddM, wbc_btoN, wbc_btoF, wbc_btoT, wbc_bzeroN, wbc_bnumN, wac_num, wbc_lisO, wbc_lis2, wbc_lis3, wbc_lis4, wac_wcmp, wac_wof, wbc_bintO, wac_wmul, wbc_bmulO, wbc_sure], syG, [], [], []⟩ [] .v wbc_wS61 wbc_wS61.n 3000 (pcOf wbc_wS61.cnd) = some wS61_tree := by kernel_rfl
set_option maxHeartbeats 2000000 in
theorem wS61_h (xh xl yh yl o0 o1 : Int) : Hyp_ wbc_wS61 wS61_tree (wbE [xh, xl, yh, yl, o0, o1] [] [] []) := by
 intro hc hty
 simp only [wbc_wS61, Sy.holds, wbE, denV, denI, denB, denL, I2.den, VOp.den, List.getD_cons_zero, List.getD_cons_succ, Cst.den, syso, syse, syio, sybo, wbi_wv, wbi_wh, wbi_wl, wbi_rg, wbi_r6, wbi_gd, wbb_ng, B2.ofInts, B2.denI, B2.denB, if_true, Bool.false_eq_true, if_false, Nat.div_one, Nat.mul_one, Nat.add_zero] at hc
 simp only [wbc_wS61, patsTyp, patTyp, patTypL, wbE, denV, denL, List.getD_cons_zero, List.getD_cons_succ, and_true, true_and] at hty
 unfold wS61_tree
 simp only [wbc_wS61, Tree.holds, Sy.holds, wbE, denV, denI, denB, denL, I2.den, VOp.den, List.getD_cons_zero, List.getD_cons_succ, Cst.den, syso, syse, syio, sybo, wbi_wv, wbi_wh, wbi_wl, wbi_rg, wbi_gd, wbi_cp, B2.ofInts, B2.denI, B2.denB, if_true, Bool.false_eq_true, if_false, Nat.div_one, Nat.mul_one, Nat.add_zero]
 have hl := hc.1.1.1.1.1.1.1.1.1
 have ra := rg_spec (wvI xh xl + wvI yh yl)
 have rb := rg_spec (0 - wvI xh xl)
 have rc := r6_spec (wvI xh xl)
 have rd := cp_spec (wvI xh xl - wvI yh yl)
 have re := rg_spec (o0 * o1)
 have rf := rg_spec o0
 have x0 : wvI xh xl = xh * 18446744073709551616 + xl := rfl
 have y0 : wvI yh yl = yh * 18446744073709551616 + yl := rfl
 have hm := mul_rng (a := o0) (b := o1) hl.2.2.2.2.1 hl.2.2.2.2.2
 generalize wvI xh xl = X at *
 generalize wvI yh yl = Y at *
 generalize o0 * o1 = M at *
 refine ⟨?a0, fun h0 => ?_⟩; rotate_left
 refine ⟨?a1, fun h1 => ?_⟩; rotate_left
 refine ⟨?a2, fun h2 => ?_⟩; rotate_left
 refine ⟨?a3, fun h3 => ?_⟩; rotate_left
 refine ⟨?a4, fun h4 => ?_⟩; rotate_left
 refine ⟨?a5, fun h5 => ?_⟩; rotate_left
 refine ⟨?a6, fun h6 => ?_⟩; rotate_left
 refine ⟨?a7, fun h7 => ?_⟩; rotate_left
 refine ⟨?a8, fun h8 => ?_⟩; rotate_left
 refine ⟨?a9, fun h9 => ?_⟩; rotate_left
 refine ⟨fun h10 => ?_, fun h10 => ?_⟩
 refine ?a10; rotate_left
 refine ⟨fun h11 => ?_, fun h11 => ?_⟩
 refine ?a11; rotate_left
 refine ⟨?a12, fun h12 => ?_⟩; rotate_left
 refine ⟨?a13, fun h13 => ?_⟩; rotate_left
 refine ⟨?a14, fun h14 => ?_⟩; rotate_left
 refine ⟨fun h15 => ?_, fun h15 => ?_⟩
 refine ⟨?a15, fun h16 => ?_⟩; rotate_left
 refine ⟨?a16, fun h17 => ?_⟩; rotate_left
 refine ⟨?a17, fun h18 => ?_⟩; rotate_left
 refine ⟨?a18, fun h19 => ?_⟩; rotate_left
 refine ⟨?a19, fun h20 => ?_⟩; rotate_left
 refine ⟨?a20, fun h21 => ?_⟩; rotate_left
 refine ⟨?a21, fun h22 => ?_⟩; rotate_left
 refine ⟨?a22, fun h23 => ?_⟩; rotate_left
 refine ?a23; rotate_left
 refine ?a24; rotate_left
 case a0 | a1 | a2 | a3 | a4 | a5 | a6 | a7 | a8 | a9 | a12 | a13 | a14 | a15 | a16 | a17 | a18 | a19 | a20 | a21 | a22 =>
  as_aux_lemma =>
    first
    | exact True.intro
    | omega
    | (simp only [decide_eq_true_eq] at *; omega)
    | skip
 case a10 | a11 | a23 | a24 =>
  as_aux_lemma =>
    first
    | exact True.intro
    | rfl
    | (simp only [decide_eq_true_eq] at *; exfalso; omega)
    | (exfalso; omega)
    | (exfalso
       have g1 : gdF (rgE (0 - X)) ((0 - X) / 18446744073709551616) = 0 := gd_n (by omega) _
       have g2 : gdF (rgE (0 - X)) ((0 - X) % 18446744073709551616) = 0 := gd_n (by omega) _
       omega)
    | (exfalso
       have g1 : gdF (rgE (X + Y)) ((X + Y) / 18446744073709551616) = 0 := gd_n (by omega) _
       have g2 : gdF (rgE (X + Y)) ((X + Y) % 18446744073709551616) = 0 := gd_n (by omega) _
       omega)
    | (exfalso
       have g1 : gdF (r6E X) X = 0 := gd_n (by omega) _
       omega)
    | skip
theorem wbg_wS61 : wbc_wS61.Good Tryd.prog syG (wbE [] [] [] []) := good_of_walkC (Γ := ⟨[wac_bfrom, wac_wadd, wac_wneg, wac_wint, wbc_baddN, wbc_baddM, wbc_btoN, wbc_btoF, wbc_btoT, wbc_bzeroN, wbc_bnumN, wac_num, wbc_lisO, wbc_lis2, wbc_lis3, wbc_lis4, wac_wcmp, wac_wof, wbc_bintO, wac_wmul, wbc_bmulO, wbc_sure], syG, [], [], []⟩) (ρ := wbE [] [] [] []) sym wS61_w rfl (fun _ _ _ _ => (ok_cons (Con.Good.env (Con.Good.up wag_bfrom wbup rfl) _ _ _ _) (ok_cons (Con.Good.env (Con.Good.up wag_wadd wbup rfl) _ _ _ _) (ok_cons (Con.Good.env (Con.Good.up wag_wneg wbup rfl) _ _ _ _) (ok_cons (Con.Good.env (Con.Good.up wag_wint wbup rfl) _ _ _ _) (ok_cons (Con.Good.env wbg_baddN _ _ _ _) (ok_cons (Con.Good.env wbg_baddM _ _ _ _) (ok_cons (Con.Good.env wbg_btoN _ _ _ _) (ok_cons (Con.Good.env wbg_btoF _ _ _ _) (ok_cons (Con.Good.env wbg_btoT _ _ _ _) (ok_cons (Con.Good.env wbg_bzeroN _ _ _ _) (ok_cons (Con.Good.env wbg_bnumN _ _ _ _) (ok_cons (Con.Good.env (Con.Good.up wag_num wbup rfl) _ _ _ _) (ok_cons (Con.Good.env wbg_lisO _ _ _ _) (ok_cons (Con.Good.env wbg_lis2 _ _ _ _) (ok_cons (Con.Good.env wbg_lis3 _ _ _ _) (ok_cons (Con.Good.env wbg_lis4 _ _ _ _) (ok_cons (Con.Good.env (Con.Good.up wag_wcmp wbup rfl) _ _ _ _) (ok_cons (Con.Good.env (Con.Good.up wag_wof wbup rfl) _ _ _ _) (ok_cons (Con.Good.env wbg_bintO _ _ _ _) (ok_cons (Con.Good.env (Con.Good.up wag_wmul wbup rfl) _ _ _ _) (ok_cons (Con.Good.env wbg_bmulO _ _ _ _) (ok_cons (Con.Good.env wbg_sure _ _ _ _) ok_nil))))))))))))))))))))))) wS61_h
def wS62_tree : Tree :=
 (.need xd6k6_
 (.need xd6k14_
 (.need xd6k5_
 (.need xd6k6_
 (.need xd6k6_
 (.need xd6k4_
 (.need xd6k7_
 (.need xd6k1_
 (.need xd6k8_
 (.need xd6k1_
 (.br (.not xd6k0_)
 (.ret (.bool (.tt false)))
 (.br (.not xd6k13_)
 (.ret (.bool (.tt false)))
 (.need xd6k4_
 (.need xd6k9_
 (.need xd6k5_
 (.br (eq_ xd6k23_ (.lit (-1)))
 (.need xd6k15_
 (.need xd6k15_
 (.need xd6k12_
 (.need (an_ xd6k15_ xd6k18_)
 (.need xd6k15_
 (.need xd6k18_
 (.need (an_ xd6k15_ xd6k18_)
 (.need xd6k10_
 (.ret (.bool (.tt true)))))))))))
 (.ret (.bool (.tt false)))))))))))))))))))
abbrev wbc_wS62 : Con := ⟨3, [xd6k20_, xd6k19_, xd6k22_], (an_ (an_ (an_ (an_ (an_ (an_ (an_ (an_ xd6k3_ (.not (eq_ xd6k11_ (.lit 0)))) xd6k21_) xd6k0_) (eq_ xd6k11_ (.lit 2))) xd6k13_) (eq_ xd6k24_ (.lit 0))) (.not (eq_ (sb_ xd6k2_ xd6k16_) (.lit 0)))) (.bapp 0 (.cons (.int .i64 (sb_ xd6k2_ xd6k16_)) .nil))), (.bool (.tt true)), ⟨6, 0, 0, 0⟩, none⟩
theorem wS62_w : walkQ Tryd.prog 142 ⟨[wac_bfrom, wac_wadd, wac_wneg, wac_wint, wbc_baddN, wbc_baddM, wbc_btoN, wbc_btoF, wbc_btoT, wbc_bzeroN, wbc_bnumN, wac_num, wbc_lisO, wbc_lis2, wbc_lis3, wbc_lis4, wac_wcmp, wac_wof, wbc_bintO, wac_wmul, wbc_bmulO, wbc_sure], syG, [], [], []⟩ [] .v wbc_wS62 wbc_wS62.n 3000 (pcOf wbc_wS62.cnd) = some wS62_tree := by kernel_rfl
set_option maxHeartbeats 2000000 in
theorem wS62_h (xh xl yh yl o0 o1 : Int) : Hyp_ wbc_wS62 wS62_tree (wbE [xh, xl, yh, yl, o0, o1] [] [] []) := by
 intro hc hty
 simp only [wbc_wS62, Sy.holds, wbE, denV, denI, denB, denL, I2.den, VOp.den, List.getD_cons_zero, List.getD_cons_succ, Cst.den, syso, syse, syio, sybo, wbi_wv, wbi_wh, wbi_wl, wbi_rg, wbi_r6, wbi_gd, wbb_ng, B2.ofInts, B2.denI, B2.denB, if_true, Bool.false_eq_true, if_false, Nat.div_one, Nat.mul_one, Nat.add_zero] at hc
 simp only [wbc_wS62, patsTyp, patTyp, patTypL, wbE, denV, denL, List.getD_cons_zero, List.getD_cons_succ, and_true, true_and] at hty
 unfold wS62_tree
 simp only [wbc_wS62, Tree.holds, Sy.holds, wbE, denV, denI, denB, denL, I2.den, VOp.den, List.getD_cons_zero, List.getD_cons_succ, Cst.den, syso, syse, syio, sybo, wbi_wv, wbi_wh, wbi_wl, wbi_rg, wbi_gd, wbi_cp, B2.ofInts, B2.denI, B2.denB, if_true, Bool.false_eq_true, if_false, Nat.div_one, Nat.mul_one, Nat.add_zero]
 have hl := hc.1.1.1.1.1.1.1.1.1.1
 have ra := rg_spec (wvI xh xl + wvI yh yl)
 have rb := rg_spec (0 - wvI xh xl)
 have rc := r6_spec (wvI xh xl)
 have rd := cp_spec (wvI xh xl - wvI yh yl)
 have re := rg_spec (o0 * o1)
 have rf := rg_spec o0
 have x0 : wvI xh xl = xh * 18446744073709551616 + xl := rfl
 have y0 : wvI yh yl = yh * 18446744073709551616 + yl := rfl
 have hm := mul_rng (a := o0) (b := o1) hl.2.2.2.2.1 hl.2.2.2.2.2
 generalize wvI xh xl = X at *
 generalize wvI yh yl = Y at *
 generalize o0 * o1 = M at *
 refine ⟨?a0, fun h0 => ?_⟩; rotate_left
 refine ⟨?a1, fun h1 => ?_⟩; rotate_left
 refine ⟨?a2, fun h2 => ?_⟩; rotate_left
 refine ⟨?a3, fun h3 => ?_⟩; rotate_left
 refine ⟨?a4, fun h4 => ?_⟩; rotate_left
 refine ⟨?a5, fun h5 => ?_⟩; rotate_left
 refine ⟨?a6, fun h6 => ?_⟩; rotate_left
 refine ⟨?a7, fun h7 => ?_⟩; rotate_left
 refine ⟨?a8, fun h8 => ?_⟩; rotate_left
 refine ⟨?a9, fun h9 => ?_⟩; rotate_left
 refine ⟨fun h10 => ?_, fun h10 => ?_⟩
 refine ?a10; rotate_left
 refine ⟨fun h11 => ?_, fun h11 => ?_⟩
 refine ?a11; rotate_left
 refine ⟨?a12, fun h12 => ?_⟩; rotate_left
 refine ⟨?a13, fun h13 => ?_⟩; rotate_left
 refine ⟨?a14, fun h14 => ?_⟩; rotate_left
 refine ⟨fun h15 => ?_, fun h15 => ?_⟩
 refine ⟨?a15, fun h16 => ?_⟩; rotate_left
 refine ⟨?a16, fun h17 => ?_⟩; rotate_left
 refine ⟨?a17, fun h18 => ?_⟩; rotate_left
 refine ⟨?a18, fun h19 => ?_⟩; rotate_left
 refine ⟨?a19, fun h20 => ?_⟩; rotate_left
 refine ⟨?a20, fun h21 => ?_⟩; rotate_left
 refine ⟨?a21, fun h22 => ?_⟩; rotate_left
 refine ⟨?a22, fun h23 => ?_⟩; rotate_left
 refine ?a23; rotate_left
 refine ?a24; rotate_left
 case a0 | a1 | a2 | a3 | a4 | a5 | a6 | a7 | a8 | a9 | a12 | a13 | a14 | a15 | a16 | a17 | a18 | a19 | a20 | a21 | a22 =>
  as_aux_lemma =>
    first
    | exact True.intro
    | omega
    | (simp only [decide_eq_true_eq] at *; omega)
    | skip
 case a10 | a11 | a23 | a24 =>
  as_aux_lemma =>
    first
    | exact True.intro
    | rfl
    | (simp only [decide_eq_true_eq] at *; exfalso; omega)
    | (exfalso; omega)
    | (exfalso
       have g1 : gdF (rgE (0 - X)) ((0 - X) / 18446744073709551616) = 0 := gd_n (by omega) _
       have g2 : gdF (rgE (0 - X)) ((0 - X) % 18446744073709551616) = 0 := gd_n (by omega) _
       omega)
    | (exfalso
       have g1 : gdF (rgE (X + Y)) ((X + Y) / 18446744073709551616) = 0 := gd_n (by omega) _
       have g2 : gdF (rgE (X + Y)) ((X + Y) % 18446744073709551616) = 0 := gd_n (by omega) _
       omega)
    | (exfalso
       have g1 : gdF (r6E X) X = 0 := gd_n (by omega) _
       omega)
    | skip
theorem wbg_wS62 : wbc_wS62.Good Tryd.prog syG (wbE [] [] [] []) := good_of_walkC (Γ := ⟨[wac_bfrom, wac_wadd, wac_wneg, wac_wint, wbc_baddN, wbc_baddM, wbc_btoN, wbc_btoF, wbc_btoT, wbc_bzeroN, wbc_bnumN, wac_num, wbc_lisO, wbc_lis2, wbc_lis3, wbc_lis4, wac_wcmp, wac_wof, wbc_bintO, wac_wmul, wbc_bmulO, wbc_sure], syG, [], [], []⟩) (ρ := wbE [] [] [] []) sym wS62_w rfl (fun _ _ _ _ => (ok_cons (Con.Good.env (Con.Good.up wag_bfrom wbup rfl) _ _ _ _) (ok_cons (Con.Good.env (Con.Good.up wag_wadd wbup rfl) _ _ _ _) (ok_cons (Con.Good.env (Con.Good.up wag_wneg wbup rfl) _ _ _ _) (ok_cons (Con.Good.env (Con.Good.up wag_wint wbup rfl) _ _ _ _) (ok_cons (Con.Good.env wbg_baddN _ _ _ _) (ok_cons (Con.Good.env wbg_baddM _ _ _ _) (ok_cons (Con.Good.env wbg_btoN _ _ _ _) (ok_cons (Con.Good.env wbg_btoF _ _ _ _) (ok_cons (Con.Good.env wbg_btoT _ _ _ _) (ok_cons (Con.Good.env wbg_bzeroN _ _ _ _) (ok_cons (Con.Good.env wbg_bnumN _ _ _ _) (ok_cons (Con.Good.env (Con.Good.up wag_num wbup rfl) _ _ _ _) (ok_cons (Con.Good.env wbg_lisO _ _ _ _) (ok_cons (Con.Good.env wbg_lis2 _ _ _ _) (ok_cons (Con.Good.env wbg_lis3 _ _ _ _) (ok_cons (Con.Good.env wbg_lis4 _ _ _ _) (ok_cons (Con.Good.env (Con.Good.up wag_wcmp wbup rfl) _ _ _ _) (ok_cons (Con.Good.env (Con.Good.up wag_wof wbup rfl) _ _ _ _) (ok_cons (Con.Good.env wbg_bintO _ _ _ _) (ok_cons (Con.Good.env (Con.Good.up wag_wmul wbup rfl) _ _ _ _) (ok_cons (Con.Good.env wbg_bmulO _ _ _ _) (ok_cons (Con.Good.env wbg_sure _ _ _ _) ok_nil))))))))))))))))))))))) wS62_h
end Go.Proofs.YtgondiedehjkhaaDoor
