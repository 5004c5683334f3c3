/-
 Layer 2 by the second engine: WideSums, a part.
-/
import Derived.Test.YtgondiedehjkhaaDoorSycsums
import Derived.Test.YtgondiedehjkhaaDoorWbsums
import Derived.Test.YtgondiedehjkhaaDoorMathsums
import Derived.Test.YtgondiedehjkhaaDoorNumsums
import Derived.IntWalk
namespace Go.Proofs.YtgondiedehjkhaaDoor
open Go.RowKit Go.Extern.Stop Go.Stop Go.Extern Go.Proofs.YtgondiedehjkhaaDoor.Sy
set_option linter.unusedVariables false
set_option linter.unusedSimpArgs false
abbrev xd4k0_ : Tm := (.iapp 3 (.cons z0_ (.cons z1_ .nil)))
abbrev xd4k5_ : Tm := (an_ (le_ (.lit (-1569275433846670190958947355801916604025588861116008628224)) xd4k0_) (le_ xd4k0_ (.lit 1569275433846670190958947355801916604025588861116008628224)))
abbrev xd4k13_ : Tm := (.iapp 3 (.cons z2_ (.cons z3_ .nil)))
abbrev xd4k1_ : Tm := (an_ xd4k5_ (an_ (le_ (.lit (-1569275433846670190958947355801916604025588861116008628224)) xd4k13_) (le_ xd4k13_ (.lit 1569275433846670190958947355801916604025588861116008628224))))
abbrev xd4k2_ : Tm := (an_ (le_ (.lit (-1569275433846670190958947355801916604025588861116008628224)) (ad_ xd4k0_ xd4k13_)) (le_ (ad_ xd4k0_ xd4k13_) (.lit 1569275433846670190958947355801916604025588861116008628224)))
abbrev xd4k12_ : Tm := (an_ (le_ lm_ v4_) (le_ v4_ lM_))
abbrev xd4k16_ : Tm := (an_ (le_ lm_ v5_) (le_ v5_ lM_))
abbrev xd4k3_ : Tm := (an_ (an_ (an_ (an_ (le_ lm_ v0_) (le_ v0_ lM_)) (an_ (an_ (le_ (.lit 0) v1_) (le_ v1_ (.lit 18446744073709551615))) (an_ (an_ (le_ lm_ v2_) (le_ v2_ lM_)) (an_ (an_ (le_ (.lit 0) v3_) (le_ v3_ (.lit 18446744073709551615))) (an_ xd4k12_ xd4k16_))))) (.not (.bapp 0 (.cons (.int .i64 xd4k0_) .nil)))) (eq_ (.iapp 6 (.cons (.int .i64 (ad_ xd4k0_ xd4k13_)) .nil)) (.lit 0)))
abbrev xd4k15_ : Tm := (an_ (an_ (le_ lm_ v2_) (le_ v2_ lM_)) (an_ (le_ (.lit 0) v3_) (le_ v3_ (.lit 18446744073709551615))))
abbrev xd4k4_ : Tm := (an_ (an_ (le_ lm_ v0_) (le_ v0_ lM_)) (an_ (an_ (le_ (.lit 0) v1_) (le_ v1_ (.lit 18446744073709551615))) xd4k15_))
abbrev xd4k6_ : Tm := (an_ (an_ (le_ lm_ v0_) (le_ v0_ lM_)) (an_ (le_ (.lit 0) v1_) (le_ v1_ (.lit 18446744073709551615))))
abbrev xd4k7_ : Tm := (an_ (le_ (.lit (-1569275433846670190958947355801916604025588861116008628224)) (sb_ xd4k0_ xd4k13_)) (le_ (sb_ xd4k0_ xd4k13_) (.lit 1569275433846670190958947355801916604025588861116008628224)))
abbrev xd4k8_ : Tm := (an_ (eq_ (.iapp 6 (.cons (.int .i64 (ml_ v4_ v5_)) .nil)) (.lit 0)) (an_ (le_ (.lit (-1569275433846670190958947355801916604025588861116008628224)) (ml_ v4_ v5_)) (le_ (ml_ v4_ v5_) (.lit 1569275433846670190958947355801916604025588861116008628224))))
abbrev xd4k9_ : Tm := (an_ (eq_ (.iapp 6 (.cons z4_ .nil)) (.lit 0)) (an_ (le_ (.lit (-1569275433846670190958947355801916604025588861116008628224)) v4_) (le_ v4_ (.lit 1569275433846670190958947355801916604025588861116008628224))))
abbrev xd4k10_ : Tm := (an_ (le_ (.lit 0) xd4k0_) (le_ xd4k0_ (.lit 1569275433846670190958947355801916604025588861116008628224)))
abbrev xd4k11_ : Tm := (.iapp 6 (.cons (.int .i64 (sb_ (.lit 0) xd4k0_)) .nil))
abbrev xd4k14_ : Tm := (an_ (eq_ (.iapp 8 (.cons (.int .i64 xd4k11_) (.cons (.int .i64 (.iapp 4 (.cons (.int .i64 (sb_ (.lit 0) xd4k0_)) .nil))) .nil))) (.lit 0)) (eq_ (.iapp 8 (.cons (.int .i64 xd4k11_) (.cons (.int .i64 (.iapp 5 (.cons (.int .i64 (sb_ (.lit 0) xd4k0_)) .nil))) .nil))) (.lit 0)))
abbrev xd4k17_ : Tm := (an_ (eq_ (.iapp 6 (.cons (.int .i64 (ad_ xd4k0_ xd4k13_)) .nil)) (.lit 0)) xd4k2_)
abbrev xd4k18_ : Tm := (.iapp 7 (.cons (.int .i64 xd4k0_) .nil))
abbrev xd4k19_ : Tm := (.agg (.cons z2_ (.cons (.int .u64 v3_) .nil)))
abbrev xd4k20_ : Tm := (.agg (.cons z0_ (.cons (.int .u64 v1_) .nil)))
abbrev xd4k21_ : Tm := (.iapp 13 (.cons (.int .i64 (sb_ xd4k0_ xd4k13_)) .nil))
abbrev xd4k22_ : Tm := (.agg (.cons z4_ (.cons z5_ .nil)))
def wS36_tree : Tree :=
 (.need xd4k6_
 (.need xd4k15_
 (.need xd4k4_
 (.need xd4k6_
 (.need xd4k6_
 (.need xd4k1_
 (.need xd4k2_
 (.need xd4k5_
 (.need xd4k10_
 (.need xd4k5_
 (.need xd4k17_
 (.need (an_ (eq_ xd4k11_ (.lit 0)) xd4k10_)
 (.need xd4k1_
 (.need xd4k7_
 (.need xd4k4_
 (.br (eq_ xd4k21_ (.lit 0))
 (.need xd4k12_
 (.need xd4k12_
 (.need xd4k9_
 (.need (an_ xd4k12_ xd4k16_)
 (.need xd4k12_
 (.need xd4k16_
 (.need (an_ xd4k12_ xd4k16_)
 (.need xd4k8_
 (.ret (.bool (.tt true)))))))))))
 (.ret (.bool (.tt false)))))))))))))))))))
abbrev wbc_wS36 : Con := ⟨3, [xd4k20_, xd4k19_, xd4k22_], (an_ (an_ (an_ xd4k3_ (eq_ xd4k11_ (.lit 0))) (eq_ xd4k18_ (.lit 0))) (eq_ (sb_ xd4k0_ xd4k13_) (.lit 0))), (.bool (.tt true)), ⟨6, 0, 0, 0⟩, none⟩
theorem wS36_w : walkQ Tryd.prog 142 ⟨[wac_bfrom, wac_wadd, wac_wneg, wac_wint, wbc_baddN, wbc_baddM, wbc_btoN, wbc_btoF, wbc_btoT, wbc_bzeroN, wbc_bnumN, wac_num, wbc_lisO, wbc_lis2, wbc_lis3, wbc_lis4, wac_wcmp, wac_wof, wbc_bintO, wac_wmul, wbc_bmulO, wbc_sure], syG, [], [], []⟩ [] .v wbc_wS36 wbc_wS36.n 3000 (pcOf wbc_wS36.cnd) = some wS36_tree := by kernel_rfl
set_option maxHeartbeats 2000000 in
theorem wS36_h (xh xl yh yl o0 o1 : Int) : Hyp_ wbc_wS36 wS36_tree (wbE [xh, xl, yh, yl, o0, o1] [] [] []) := by
 intro hc hty
 simp only [wbc_wS36, Sy.holds, wbE, denV, denI, denB, denL, I2.den, VOp.den, List.getD_cons_zero, List.getD_cons_succ, Cst.den, syso, syse, syio, sybo, wbi_wv, wbi_rg, wbi_r6, wbb_ng, B2.ofInts, B2.denI, B2.denB, if_true, Bool.false_eq_true, if_false, Nat.div_one, Nat.mul_one, Nat.add_zero] at hc
 simp only [wbc_wS36, patsTyp, patTyp, patTypL, wbE, denV, denL, List.getD_cons_zero, List.getD_cons_succ, and_true, true_and] at hty
 unfold wS36_tree
 simp only [wbc_wS36, Tree.holds, Sy.holds, wbE, denV, denI, denB, denL, I2.den, VOp.den, List.getD_cons_zero, List.getD_cons_succ, Cst.den, syso, syse, syio, sybo, wbi_wv, wbi_rg, wbi_cp, B2.ofInts, B2.denI, B2.denB, if_true, Bool.false_eq_true, if_false, Nat.div_one, Nat.mul_one, Nat.add_zero]
 have hl := hc.1.1.1.1.1
 have ra := rg_spec (wvI xh xl + wvI yh yl)
 have rb := rg_spec (0 - wvI xh xl)
 have rc := r6_spec (wvI xh xl)
 have rd := cp_spec (wvI xh xl - wvI yh yl)
 have re := rg_spec (o0 * o1)
 have rf := rg_spec o0
 have x0 : wvI xh xl = xh * 18446744073709551616 + xl := rfl
 have y0 : wvI yh yl = yh * 18446744073709551616 + yl := rfl
 have hm := mul_rng (a := o0) (b := o1) hl.2.2.2.2.1 hl.2.2.2.2.2
 generalize wvI xh xl = X at *
 generalize wvI yh yl = Y at *
 generalize o0 * o1 = M at *
 refine ⟨?a0, fun h0 => ?_⟩; rotate_left
 refine ⟨?a1, fun h1 => ?_⟩; rotate_left
 refine ⟨?a2, fun h2 => ?_⟩; rotate_left
 refine ⟨?a3, fun h3 => ?_⟩; rotate_left
 refine ⟨?a4, fun h4 => ?_⟩; rotate_left
 refine ⟨?a5, fun h5 => ?_⟩; rotate_left
 refine ⟨?a6, fun h6 => ?_⟩; rotate_left
 refine ⟨?a7, fun h7 => ?_⟩; rotate_left
 refine ⟨?a8, fun h8 => ?_⟩; rotate_left
 refine ⟨?a9, fun h9 => ?_⟩; rotate_left
 refine ⟨?a10, fun h10 => ?_⟩; rotate_left
 refine ⟨?a11, fun h11 => ?_⟩; rotate_left
 refine ⟨?a12, fun h12 => ?_⟩; rotate_left
 refine ⟨?a13, fun h13 => ?_⟩; rotate_left
 refine ⟨?a14, fun h14 => ?_⟩; rotate_left
 refine ⟨fun h15 => ?_, fun h15 => ?_⟩
 refine ⟨?a15, fun h16 => ?_⟩; rotate_left
 refine ⟨?a16, fun h17 => ?_⟩; rotate_left
 refine ⟨?a17, fun h18 => ?_⟩; rotate_left
 refine ⟨?a18, fun h19 => ?_⟩; rotate_left
 refine ⟨?a19, fun h20 => ?_⟩; rotate_left
 refine ⟨?a20, fun h21 => ?_⟩; rotate_left
 refine ⟨?a21, fun h22 => ?_⟩; rotate_left
 refine ⟨?a22, fun h23 => ?_⟩; rotate_left
 refine ?a23; rotate_left
 refine ?a24; rotate_left
 case a0 | a1 | a2 | a3 | a4 | a5 | a6 | a7 | a8 | a9 | a10 | a11 | a12 | a13 | a14 | a15 | a16 | a17 | a18 | a19 | a20 | a21 | a22 =>
  as_aux_lemma =>
    first
    | exact True.intro
    | omega
    | (simp only [decide_eq_true_eq] at *; omega)
    | skip
 case a23 | a24 =>
  as_aux_lemma =>
    first
    | exact True.intro
    | rfl
    | (simp only [decide_eq_true_eq] at *; exfalso; omega)
    | (exfalso; omega)
    | (exfalso
       have g1 : gdF (rgE (0 - X)) ((0 - X) / 18446744073709551616) = 0 := gd_n (by omega) _
       have g2 : gdF (rgE (0 - X)) ((0 - X) % 18446744073709551616) = 0 := gd_n (by omega) _
       omega)
    | (exfalso
       have g1 : gdF (rgE (X + Y)) ((X + Y) / 18446744073709551616) = 0 := gd_n (by omega) _
       have g2 : gdF (rgE (X + Y)) ((X + Y) % 18446744073709551616) = 0 := gd_n (by omega) _
       omega)
    | (exfalso
       have g1 : gdF (r6E X) X = 0 := gd_n (by omega) _
       omega)
    | skip
theorem wbg_wS36 : wbc_wS36.Good Tryd.prog syG (wbE [] [] [] []) := good_of_walkC (Γ := ⟨[wac_bfrom, wac_wadd, wac_wneg, wac_wint, wbc_baddN, wbc_baddM, wbc_btoN, wbc_btoF, wbc_btoT, wbc_bzeroN, wbc_bnumN, wac_num, wbc_lisO, wbc_lis2, wbc_lis3, wbc_lis4, wac_wcmp, wac_wof, wbc_bintO, wac_wmul, wbc_bmulO, wbc_sure], syG, [], [], []⟩) (ρ := wbE [] [] [] []) sym wS36_w rfl (fun _ _ _ _ => (ok_cons (Con.Good.env (Con.Good.up wag_bfrom wbup rfl) _ _ _ _) (ok_cons (Con.Good.env (Con.Good.up wag_wadd wbup rfl) _ _ _ _) (ok_cons (Con.Good.env (Con.Good.up wag_wneg wbup rfl) _ _ _ _) (ok_cons (Con.Good.env (Con.Good.up wag_wint wbup rfl) _ _ _ _) (ok_cons (Con.Good.env wbg_baddN _ _ _ _) (ok_cons (Con.Good.env wbg_baddM _ _ _ _) (ok_cons (Con.Good.env wbg_btoN _ _ _ _) (ok_cons (Con.Good.env wbg_btoF _ _ _ _) (ok_cons (Con.Good.env wbg_btoT _ _ _ _) (ok_cons (Con.Good.env wbg_bzeroN _ _ _ _) (ok_cons (Con.Good.env wbg_bnumN _ _ _ _) (ok_cons (Con.Good.env (Con.Good.up wag_num wbup rfl) _ _ _ _) (ok_cons (Con.Good.env wbg_lisO _ _ _ _) (ok_cons (Con.Good.env wbg_lis2 _ _ _ _) (ok_cons (Con.Good.env wbg_lis3 _ _ _ _) (ok_cons (Con.Good.env wbg_lis4 _ _ _ _) (ok_cons (Con.Good.env (Con.Good.up wag_wcmp wbup rfl) _ _ _ _) (ok_cons (Con.Good.env (Con.Good.up wag_wof wbup rfl) _ _ _ _) (ok_cons (Con.Good.env wbg_bintO _ _ _ _) (ok_cons (Con.Good.env (Con.Good.up wag_wmul wbup rfl) _ _ _ _) (ok_cons (Con.Good.env wbg_bmulO _ _ _ _) (ok_cons (Con.Good.env wbg_sure _ _ _ _) ok_nil))))))))))))))))))))))) wS36_h
def wS37_tree : Tree :=
 (.need xd4k6_
 (.need xd4k15_
 (.need xd4k4_
 (.need xd4k6_
 (.need xd4k6_
 (.need xd4k1_
 (.need xd4k2_
 (.need xd4k5_
 (.need xd4k10_
 (.need xd4k5_
 (.need xd4k17_
 (.need (an_ (eq_ xd4k11_ (.lit 0)) xd4k10_)
 (.need xd4k1_
 (.need xd4k7_
 (.need xd4k4_
 (.br (eq_ xd4k21_ (.lit (-1)))
 (.need xd4k12_
 (.need xd4k12_
 (.need xd4k9_
 (.need (an_ xd4k12_ xd4k16_)
 (.need xd4k12_
 (.need xd4k16_
 (.need (an_ xd4k12_ xd4k16_)
 (.need xd4k8_
 (.ret (.bool (.tt true)))))))))))
 (.ret (.bool (.tt false)))))))))))))))))))
abbrev wbc_wS37 : Con := ⟨3, [xd4k20_, xd4k19_, xd4k22_], (an_ (an_ (an_ (an_ xd4k3_ (eq_ xd4k11_ (.lit 0))) (eq_ xd4k18_ (.lit 0))) (.not (eq_ (sb_ xd4k0_ xd4k13_) (.lit 0)))) (.bapp 0 (.cons (.int .i64 (sb_ xd4k0_ xd4k13_)) .nil))), (.bool (.tt true)), ⟨6, 0, 0, 0⟩, none⟩
theorem wS37_w : walkQ Tryd.prog 142 ⟨[wac_bfrom, wac_wadd, wac_wneg, wac_wint, wbc_baddN, wbc_baddM, wbc_btoN, wbc_btoF, wbc_btoT, wbc_bzeroN, wbc_bnumN, wac_num, wbc_lisO, wbc_lis2, wbc_lis3, wbc_lis4, wac_wcmp, wac_wof, wbc_bintO, wac_wmul, wbc_bmulO, wbc_sure], syG, [], [], []⟩ [] .v wbc_wS37 wbc_wS37.n 3000 (pcOf wbc_wS37.cnd) = some wS37_tree := by kernel_rfl
set_option maxHeartbeats 2000000 in
theorem wS37_h (xh xl yh yl o0 o1 : Int) : Hyp_ wbc_wS37 wS37_tree (wbE [xh, xl, yh, yl, o0, o1] [] [] []) := by
 intro hc hty
 simp only [wbc_wS37, Sy.holds, wbE, denV, denI, denB, denL, I2.den, VOp.den, List.getD_cons_zero, List.getD_cons_succ, Cst.den, syso, syse, syio, sybo, wbi_wv, wbi_rg, wbi_r6, wbb_ng, B2.ofInts, B2.denI, B2.denB, if_true, Bool.false_eq_true, if_false, Nat.div_one, Nat.mul_one, Nat.add_zero] at hc
 simp only [wbc_wS37, patsTyp, patTyp, patTypL, wbE, denV, denL, List.getD_cons_zero, List.getD_cons_succ, and_true, true_and] at hty
 unfold wS37_tree
 simp only [wbc_wS37, Tree.holds, Sy.holds, wbE, denV, denI, denB, denL, I2.den, VOp.den, List.getD_cons_zero, List.getD_cons_succ, Cst.den, syso, syse, syio, sybo, wbi_wv, wbi_rg, wbi_cp, B2.ofInts, B2.denI, B2.denB, if_true, Bool.false_eq_true, if_false, Nat.div_one, Nat.mul_one, Nat.add_zero]
 have hl := hc.1.1.1.1.1.1
 have ra := rg_spec (wvI xh xl + wvI yh yl)
 have rb := rg_spec (0 - wvI xh xl)
 have rc := r6_spec (wvI xh xl)
 have rd := cp_spec (wvI xh xl - wvI yh yl)
 have re := rg_spec (o0 * o1)
 have rf := rg_spec o0
 have x0 : wvI xh xl = xh * 18446744073709551616 + xl := rfl
 have y0 : wvI yh yl = yh * 18446744073709551616 + yl := rfl
 have hm := mul_rng (a := o0) (b := o1) hl.2.2.2.2.1 hl.2.2.2.2.2
 generalize wvI xh xl = X at *
 generalize wvI yh yl = Y at *
 generalize o0 * o1 = M at *
 refine ⟨?a0, fun h0 => ?_⟩; rotate_left
 refine ⟨?a1, fun h1 => ?_⟩; rotate_left
 refine ⟨?a2, fun h2 => ?_⟩; rotate_left
 refine ⟨?a3, fun h3 => ?_⟩; rotate_left
 refine ⟨?a4, fun h4 => ?_⟩; rotate_left
 refine ⟨?a5, fun h5 => ?_⟩; rotate_left
 refine ⟨?a6, fun h6 => ?_⟩; rotate_left
 refine ⟨?a7, fun h7 => ?_⟩; rotate_left
 refine ⟨?a8, fun h8 => ?_⟩; rotate_left
 refine ⟨?a9, fun h9 => ?_⟩; rotate_left
 refine ⟨?a10, fun h10 => ?_⟩; rotate_left
 refine ⟨?a11, fun h11 => ?_⟩; rotate_left
 refine ⟨?a12, fun h12 => ?_⟩; rotate_left
 refine ⟨?a13, fun h13 => ?_⟩; rotate_left
 refine ⟨?a14, fun h14 => ?_⟩; rotate_left
 refine ⟨fun h15 => ?_, fun h15 => ?_⟩
 refine ⟨?a15, fun h16 => ?_⟩; rotate_left
 refine ⟨?a16, fun h17 => ?_⟩; rotate_left
 refine ⟨?a17, fun h18 => ?_⟩; rotate_left
 refine ⟨?a18, fun h19 => ?_⟩; rotate_left
 refine ⟨?a19, fun h20 => ?_⟩; rotate_left
 refine ⟨?a20, fun h21 => ?_⟩; rotate_left
 refine ⟨?a21, fun h22 => ?_⟩; rotate_left
 refine ⟨?a22, fun h23 => ?_⟩; rotate_left
 refine ?a23; rotate_left
 refine ?a24; rotate_left
 case a0 | a1 | a2 | a3 | a4 | a5 | a6 | a7 | a8 | a9 | a10 | a11 | a12 | a13 | a14 | a15 | a16 | a17 | a18 | a19 | a20 | a21 | a22 =>
  as_aux_lemma =>
    first
    | exact True.intro
    | omega
    | (simp only [decide_eq_true_eq] at *; omega)
    | skip
 case a23 | a24 =>
  as_aux_lemma =>
    first
    | exact True.intro
    | rfl
    | (simp only [decide_eq_true_eq] at *; exfalso; omega)
    | (exfalso; omega)
    | (exfalso
       have g1 : gdF (rgE (0 - X)) ((0 - X) / 18446744073709551616) = 0 := gd_n (by omega) _
       have g2 : gdF (rgE (0 - X)) ((0 - X) % 18446744073709551616) = 0 := gd_n (by omega) _
       omega)
    | (exfalso
       have g1 : gdF (rgE (X + Y)) ((X + Y) / 18446744073709551616) = 0 := gd_n (by omega) _
       have g2 : gdF (rgE (X + Y)) ((X + Y) % 18446744073709551616) = 0 := gd_n (by omega) _
       omega)
    | (exfalso
       have g1 : gdF (r6E X) X = 0 := gd_n (by omega) _
       omega)
    | skip
theorem wbg_wS37 : wbc_wS37.Good Tryd.prog syG (wbE [] [] [] []) := good_of_walkC (Γ := ⟨[wac_bfrom, wac_wadd, wac_wneg, wac_wint, wbc_baddN, wbc_baddM, wbc_btoN, wbc_btoF, wbc_btoT, wbc_bzeroN, wbc_bnumN, wac_num, wbc_lisO, wbc_lis2, wbc_lis3, wbc_lis4, wac_wcmp, wac_wof, wbc_bintO, wac_wmul, wbc_bmulO, wbc_sure], syG, [], [], []⟩) (ρ := wbE [] [] [] []) sym wS37_w rfl (fun _ _ _ _ => (ok_cons (Con.Good.env (Con.Good.up wag_bfrom wbup rfl) _ _ _ _) (ok_cons (Con.Good.env (Con.Good.up wag_wadd wbup rfl) _ _ _ _) (ok_cons (Con.Good.env (Con.Good.up wag_wneg wbup rfl) _ _ _ _) (ok_cons (Con.Good.env (Con.Good.up wag_wint wbup rfl) _ _ _ _) (ok_cons (Con.Good.env wbg_baddN _ _ _ _) (ok_cons (Con.Good.env wbg_baddM _ _ _ _) (ok_cons (Con.Good.env wbg_btoN _ _ _ _) (ok_cons (Con.Good.env wbg_btoF _ _ _ _) (ok_cons (Con.Good.env wbg_btoT _ _ _ _) (ok_cons (Con.Good.env wbg_bzeroN _ _ _ _) (ok_cons (Con.Good.env wbg_bnumN _ _ _ _) (ok_cons (Con.Good.env (Con.Good.up wag_num wbup rfl) _ _ _ _) (ok_cons (Con.Good.env wbg_lisO _ _ _ _) (ok_cons (Con.Good.env wbg_lis2 _ _ _ _) (ok_cons (Con.Good.env wbg_lis3 _ _ _ _) (ok_cons (Con.Good.env wbg_lis4 _ _ _ _) (ok_cons (Con.Good.env (Con.Good.up wag_wcmp wbup rfl) _ _ _ _) (ok_cons (Con.Good.env (Con.Good.up wag_wof wbup rfl) _ _ _ _) (ok_cons (Con.Good.env wbg_bintO _ _ _ _) (ok_cons (Con.Good.env (Con.Good.up wag_wmul wbup rfl) _ _ _ _) (ok_cons (Con.Good.env wbg_bmulO _ _ _ _) (ok_cons (Con.Good.env wbg_sure _ _ _ _) ok_nil))))))))))))))))))))))) wS37_h
def wS38_tree : Tree :=
 (.need xd4k6_
 (.need xd4k15_
 (.need xd4k4_
 (.need xd4k6_
 (.need xd4k6_
 (.need xd4k1_
 (.need xd4k2_
 (.need xd4k5_
 (.need xd4k10_
 (.need xd4k5_
 (.need xd4k17_
 (.need (an_ (eq_ xd4k11_ (.lit 0)) xd4k10_)
 (.need xd4k1_
 (.need xd4k7_
 (.need xd4k4_
 (.br (eq_ xd4k21_ (.lit 1))
 (.need xd4k12_
 (.need xd4k12_
 (.need xd4k9_
 (.need (an_ xd4k12_ xd4k16_)
 (.need xd4k12_
 (.need xd4k16_
 (.need (an_ xd4k12_ xd4k16_)
 (.need xd4k8_
 (.ret (.bool (.tt true)))))))))))
 (.ret (.bool (.tt false)))))))))))))))))))
abbrev wbc_wS38 : Con := ⟨3, [xd4k20_, xd4k19_, xd4k22_], (an_ (an_ (an_ (an_ xd4k3_ (eq_ xd4k11_ (.lit 0))) (eq_ xd4k18_ (.lit 0))) (.not (eq_ (sb_ xd4k0_ xd4k13_) (.lit 0)))) (.not (.bapp 0 (.cons (.int .i64 (sb_ xd4k0_ xd4k13_)) .nil)))), (.bool (.tt true)), ⟨6, 0, 0, 0⟩, none⟩
theorem wS38_w : walkQ Tryd.prog 142 ⟨[wac_bfrom, wac_wadd, wac_wneg, wac_wint, wbc_baddN, wbc_baddM, wbc_btoN, wbc_btoF, wbc_btoT, wbc_bzeroN, wbc_bnumN, wac_num, wbc_lisO, wbc_lis2, wbc_lis3, wbc_lis4, wac_wcmp, wac_wof, wbc_bintO, wac_wmul, wbc_bmulO, wbc_sure], syG, [], [], []⟩ [] .v wbc_wS38 wbc_wS38.n 3000 (pcOf wbc_wS38.cnd) = some wS38_tree := by kernel_rfl
set_option maxHeartbeats 2000000 in
theorem wS38_h (xh xl yh yl o0 o1 : Int) : Hyp_ wbc_wS38 wS38_tree (wbE [xh, xl, yh, yl, o0, o1] [] [] []) := by
 intro hc hty
 simp only [wbc_wS38, Sy.holds, wbE, denV, denI, denB, denL, I2.den, VOp.den, List.getD_cons_zero, List.getD_cons_succ, Cst.den, syso, syse, syio, sybo, wbi_wv, wbi_rg, wbi_r6, wbb_ng, B2.ofInts, B2.denI, B2.denB, if_true, Bool.false_eq_true, if_false, Nat.div_one, Nat.mul_one, Nat.add_zero] at hc
 simp only [wbc_wS38, patsTyp, patTyp, patTypL, wbE, denV, denL, List.getD_cons_zero, List.getD_cons_succ, and_true, true_and] at hty
 unfold wS38_tree
 simp only [wbc_wS38, Tree.holds, Sy.holds, wbE, denV, denI, denB, denL, I2.den, VOp.den, List.getD_cons_zero, List.getD_cons_succ, Cst.den, syso, syse, syio, sybo, wbi_wv, wbi_rg, wbi_cp, B2.ofInts, B2.denI, B2.denB, if_true, Bool.false_eq_true, if_false, Nat.div_one, Nat.mul_one, Nat.add_zero]
 have hl := hc.1.1.1.1.1.1
 have ra := rg_spec (wvI xh xl + wvI yh yl)
 have rb := rg_spec (0 - wvI xh xl)
 have rc := r6_spec (wvI xh xl)
 have rd := cp_spec (wvI xh xl - wvI yh yl)
 have re := rg_spec (o0 * o1)
 have rf := rg_spec o0
 have x0 : wvI xh xl = xh * 18446744073709551616 + xl := rfl
 have y0 : wvI yh yl = yh * 18446744073709551616 + yl := rfl
 have hm := mul_rng (a := o0) (b := o1) hl.2.2.2.2.1 hl.2.2.2.2.2
 generalize wvI xh xl = X at *
 generalize wvI yh yl = Y at *
 generalize o0 * o1 = M at *
 refine ⟨?a0, fun h0 => ?_⟩; rotate_left
 refine ⟨?a1, fun h1 => ?_⟩; rotate_left
 refine ⟨?a2, fun h2 => ?_⟩; rotate_left
 refine ⟨?a3, fun h3 => ?_⟩; rotate_left
 refine ⟨?a4, fun h4 => ?_⟩; rotate_left
 refine ⟨?a5, fun h5 => ?_⟩; rotate_left
 refine ⟨?a6, fun h6 => ?_⟩; rotate_left
 refine ⟨?a7, fun h7 => ?_⟩; rotate_left
 refine ⟨?a8, fun h8 => ?_⟩; rotate_left
 refine ⟨?a9, fun h9 => ?_⟩; rotate_left
 refine ⟨?a10, fun h10 => ?_⟩; rotate_left
 refine ⟨?a11, fun h11 => ?_⟩; rotate_left
 refine ⟨?a12, fun h12 => ?_⟩; rotate_left
 refine ⟨?a13, fun h13 => ?_⟩; rotate_left
 refine ⟨?a14, fun h14 => ?_⟩; rotate_left
 refine ⟨fun h15 => ?_, fun h15 => ?_⟩
 refine ⟨?a15, fun h16 => ?_⟩; rotate_left
 refine ⟨?a16, fun h17 => ?_⟩; rotate_left
 refine ⟨?a17, fun h18 => ?_⟩; rotate_left
 refine ⟨?a18, fun h19 => ?_⟩; rotate_left
 refine ⟨?a19, fun h20 => ?_⟩; rotate_left
 refine ⟨?a20, fun h21 => ?_⟩; rotate_left
 refine ⟨?a21, fun h22 => ?_⟩; rotate_left
 refine ⟨?a22, fun h23 => ?_⟩; rotate_left
 refine ?a23; rotate_left
 refine ?a24; rotate_left
 case a0 | a1 | a2 | a3 | a4 | a5 | a6 | a7 | a8 | a9 | a10 | a11 | a12 | a13 | a14 | a15 | a16 | a17 | a18 | a19 | a20 | a21 | a22 =>
  as_aux_lemma =>
    first
    | exact True.intro
    | omega
    | (simp only [decide_eq_true_eq] at *; omega)
    | skip
 case a23 | a24 =>
  as_aux_lemma =>
    first
    | exact True.intro
    | rfl
    | (simp only [decide_eq_true_eq] at *; exfalso; omega)
    | (exfalso; omega)
    | (exfalso
       have g1 : gdF (rgE (0 - X)) ((0 - X) / 18446744073709551616) = 0 := gd_n (by omega) _
       have g2 : gdF (rgE (0 - X)) ((0 - X) % 18446744073709551616) = 0 := gd_n (by omega) _
       omega)
    | (exfalso
       have g1 : gdF (rgE (X + Y)) ((X + Y) / 18446744073709551616) = 0 := gd_n (by omega) _
       have g2 : gdF (rgE (X + Y)) ((X + Y) % 18446744073709551616) = 0 := gd_n (by omega) _
       omega)
    | (exfalso
       have g1 : gdF (r6E X) X = 0 := gd_n (by omega) _
       omega)
    | skip
theorem wbg_wS38 : wbc_wS38.Good Tryd.prog syG (wbE [] [] [] []) := good_of_walkC (Γ := ⟨[wac_bfrom, wac_wadd, wac_wneg, wac_wint, wbc_baddN, wbc_baddM, wbc_btoN, wbc_btoF, wbc_btoT, wbc_bzeroN, wbc_bnumN, wac_num, wbc_lisO, wbc_lis2, wbc_lis3, wbc_lis4, wac_wcmp, wac_wof, wbc_bintO, wac_wmul, wbc_bmulO, wbc_sure], syG, [], [], []⟩) (ρ := wbE [] [] [] []) sym wS38_w rfl (fun _ _ _ _ => (ok_cons (Con.Good.env (Con.Good.up wag_bfrom wbup rfl) _ _ _ _) (ok_cons (Con.Good.env (Con.Good.up wag_wadd wbup rfl) _ _ _ _) (ok_cons (Con.Good.env (Con.Good.up wag_wneg wbup rfl) _ _ _ _) (ok_cons (Con.Good.env (Con.Good.up wag_wint wbup rfl) _ _ _ _) (ok_cons (Con.Good.env wbg_baddN _ _ _ _) (ok_cons (Con.Good.env wbg_baddM _ _ _ _) (ok_cons (Con.Good.env wbg_btoN _ _ _ _) (ok_cons (Con.Good.env wbg_btoF _ _ _ _) (ok_cons (Con.Good.env wbg_btoT _ _ _ _) (ok_cons (Con.Good.env wbg_bzeroN _ _ _ _) (ok_cons (Con.Good.env wbg_bnumN _ _ _ _) (ok_cons (Con.Good.env (Con.Good.up wag_num wbup rfl) _ _ _ _) (ok_cons (Con.Good.env wbg_lisO _ _ _ _) (ok_cons (Con.Good.env wbg_lis2 _ _ _ _) (ok_cons (Con.Good.env wbg_lis3 _ _ _ _) (ok_cons (Con.Good.env wbg_lis4 _ _ _ _) (ok_cons (Con.Good.env (Con.Good.up wag_wcmp wbup rfl) _ _ _ _) (ok_cons (Con.Good.env (Con.Good.up wag_wof wbup rfl) _ _ _ _) (ok_cons (Con.Good.env wbg_bintO _ _ _ _) (ok_cons (Con.Good.env (Con.Good.up wag_wmul wbup rfl) _ _ _ _) (ok_cons (Con.Good.env wbg_bmulO _ _ _ _) (ok_cons (Con.Good.env wbg_sure _ _ _ _) ok_nil))))))))))))))))))))))) wS38_h
def wS39_tree : Tree :=
 (.need xd4k6_
 (.need xd4k15_
 (.need xd4k4_
 (.need xd4k6_
 (.need xd4k6_
 (.need xd4k1_
 (.need xd4k2_
 (.need xd4k5_
 (.need xd4k10_
 (.need xd4k5_
 (.need xd4k17_
 (.need (an_ (eq_ xd4k11_ (.lit 0)) xd4k10_)
 (.need xd4k1_
 (.need xd4k7_
 (.need xd4k4_
 (.br (eq_ xd4k21_ (.lit 0))
 (.need xd4k12_
 (.need xd4k12_
 (.need xd4k9_
 (.need (an_ xd4k12_ xd4k16_)
 (.need xd4k12_
 (.need xd4k16_
 (.need (an_ xd4k12_ xd4k16_)
 (.need xd4k8_
 (.ret (.bool (.tt true)))))))))))
 (.ret (.bool (.tt false)))))))))))))))))))
abbrev wbc_wS39 : Con := ⟨3, [xd4k20_, xd4k19_, xd4k22_], (an_ (an_ (an_ (an_ xd4k3_ (eq_ xd4k11_ (.lit 0))) (.not (eq_ xd4k18_ (.lit 0)))) (eq_ xd4k18_ (.lit 2))) (eq_ (sb_ xd4k0_ xd4k13_) (.lit 0))), (.bool (.tt true)), ⟨6, 0, 0, 0⟩, none⟩
theorem wS39_w : walkQ Tryd.prog 142 ⟨[wac_bfrom, wac_wadd, wac_wneg, wac_wint, wbc_baddN, wbc_baddM, wbc_btoN, wbc_btoF, wbc_btoT, wbc_bzeroN, wbc_bnumN, wac_num, wbc_lisO, wbc_lis2, wbc_lis3, wbc_lis4, wac_wcmp, wac_wof, wbc_bintO, wac_wmul, wbc_bmulO, wbc_sure], syG, [], [], []⟩ [] .v wbc_wS39 wbc_wS39.n 3000 (pcOf wbc_wS39.cnd) = some wS39_tree := by kernel_rfl
set_option maxHeartbeats 2000000 in
theorem wS39_h (xh xl yh yl o0 o1 : Int) : Hyp_ wbc_wS39 wS39_tree (wbE [xh, xl, yh, yl, o0, o1] [] [] []) := by
 intro hc hty
 simp only [wbc_wS39, Sy.holds, wbE, denV, denI, denB, denL, I2.den, VOp.den, List.getD_cons_zero, List.getD_cons_succ, Cst.den, syso, syse, syio, sybo, wbi_wv, wbi_rg, wbi_r6, wbb_ng, B2.ofInts, B2.denI, B2.denB, if_true, Bool.false_eq_true, if_false, Nat.div_one, Nat.mul_one, Nat.add_zero] at hc
 simp only [wbc_wS39, patsTyp, patTyp, patTypL, wbE, denV, denL, List.getD_cons_zero, List.getD_cons_succ, and_true, true_and] at hty
 unfold wS39_tree
 simp only [wbc_wS39, Tree.holds, Sy.holds, wbE, denV, denI, denB, denL, I2.den, VOp.den, List.getD_cons_zero, List.getD_cons_succ, Cst.den, syso, syse, syio, sybo, wbi_wv, wbi_rg, wbi_cp, B2.ofInts, B2.denI, B2.denB, if_true, Bool.false_eq_true, if_false, Nat.div_one, Nat.mul_one, Nat.add_zero]
 have hl := hc.1.1.1.1.1.1
 have ra := rg_spec (wvI xh xl + wvI yh yl)
 have rb := rg_spec (0 - wvI xh xl)
 have rc := r6_spec (wvI xh xl)
 have rd := cp_spec (wvI xh xl - wvI yh yl)
 have re := rg_spec (o0 * o1)
 have rf := rg_spec o0
 have x0 : wvI xh xl = xh * 18446744073709551616 + xl := rfl
 have y0 : wvI yh yl = yh * 18446744073709551616 + yl := rfl
 have hm := mul_rng (a := o0) (b := o1) hl.2.2.2.2.1 hl.2.2.2.2.2
 generalize wvI xh xl = X at *
 generalize wvI yh yl = Y at *
 generalize o0 * o1 = M at *
 refine ⟨?a0, fun h0 => ?_⟩; rotate_left
 refine ⟨?a1, fun h1 => ?_⟩; rotate_left
 refine ⟨?a2, fun h2 => ?_⟩; rotate_left
 refine ⟨?a3, fun h3 => ?_⟩; rotate_left
 refine ⟨?a4, fun h4 => ?_⟩; rotate_left
 refine ⟨?a5, fun h5 => ?_⟩; rotate_left
 refine ⟨?a6, fun h6 => ?_⟩; rotate_left
 refine ⟨?a7, fun h7 => ?_⟩; rotate_left
 refine ⟨?a8, fun h8 => ?_⟩; rotate_left
 refine ⟨?a9, fun h9 => ?_⟩; rotate_left
 refine ⟨?a10, fun h10 => ?_⟩; rotate_left
 refine ⟨?a11, fun h11 => ?_⟩; rotate_left
 refine ⟨?a12, fun h12 => ?_⟩; rotate_left
 refine ⟨?a13, fun h13 => ?_⟩; rotate_left
 refine ⟨?a14, fun h14 => ?_⟩; rotate_left
 refine ⟨fun h15 => ?_, fun h15 => ?_⟩
 refine ⟨?a15, fun h16 => ?_⟩; rotate_left
 refine ⟨?a16, fun h17 => ?_⟩; rotate_left
 refine ⟨?a17, fun h18 => ?_⟩; rotate_left
 refine ⟨?a18, fun h19 => ?_⟩; rotate_left
 refine ⟨?a19, fun h20 => ?_⟩; rotate_left
 refine ⟨?a20, fun h21 => ?_⟩; rotate_left
 refine ⟨?a21, fun h22 => ?_⟩; rotate_left
 refine ⟨?a22, fun h23 => ?_⟩; rotate_left
 refine ?a23; rotate_left
 refine ?a24; rotate_left
 case a0 | a1 | a2 | a3 | a4 | a5 | a6 | a7 | a8 | a9 | a10 | a11 | a12 | a13 | a14 | a15 | a16 | a17 | a18 | a19 | a20 | a21 | a22 =>
  as_aux_lemma =>
    first
    | exact True.intro
    | omega
    | (simp only [decide_eq_true_eq] at *; omega)
    | skip
 case a23 | a24 =>
  as_aux_lemma =>
    first
    | exact True.intro
    | rfl
    | (simp only [decide_eq_true_eq] at *; exfalso; omega)
    | (exfalso; omega)
    | (exfalso
       have g1 : gdF (rgE (0 - X)) ((0 - X) / 18446744073709551616) = 0 := gd_n (by omega) _
       have g2 : gdF (rgE (0 - X)) ((0 - X) % 18446744073709551616) = 0 := gd_n (by omega) _
       omega)
    | (exfalso
       have g1 : gdF (rgE (X + Y)) ((X + Y) / 18446744073709551616) = 0 := gd_n (by omega) _
       have g2 : gdF (rgE (X + Y)) ((X + Y) % 18446744073709551616) = 0 := gd_n (by omega) _
       omega)
    | (exfalso
       have g1 : gdF (r6E X) X = 0 := gd_n (by omega) _
       omega)
    | skip
theorem wbg_wS39 : wbc_wS39.Good Tryd.prog syG (wbE [] [] [] []) := good_of_walkC (Γ := ⟨[wac_bfrom, wac_wadd, wac_wneg, wac_wint, wbc_baddN, wbc_baddM, wbc_btoN, wbc_btoF, wbc_btoT, wbc_bzeroN, wbc_bnumN, wac_num, wbc_lisO, wbc_lis2, wbc_lis3, wbc_lis4, wac_wcmp, wac_wof, wbc_bintO, wac_wmul, wbc_bmulO, wbc_sure], syG, [], [], []⟩) (ρ := wbE [] [] [] []) sym wS39_w rfl (fun _ _ _ _ => (ok_cons (Con.Good.env (Con.Good.up wag_bfrom wbup rfl) _ _ _ _) (ok_cons (Con.Good.env (Con.Good.up wag_wadd wbup rfl) _ _ _ _) (ok_cons (Con.Good.env (Con.Good.up wag_wneg wbup rfl) _ _ _ _) (ok_cons (Con.Good.env (Con.Good.up wag_wint wbup rfl) _ _ _ _) (ok_cons (Con.Good.env wbg_baddN _ _ _ _) (ok_cons (Con.Good.env wbg_baddM _ _ _ _) (ok_cons (Con.Good.env wbg_btoN _ _ _ _) (ok_cons (Con.Good.env wbg_btoF _ _ _ _) (ok_cons (Con.Good.env wbg_btoT _ _ _ _) (ok_cons (Con.Good.env wbg_bzeroN _ _ _ _) (ok_cons (Con.Good.env wbg_bnumN _ _ _ _) (ok_cons (Con.Good.env (Con.Good.up wag_num wbup rfl) _ _ _ _) (ok_cons (Con.Good.env wbg_lisO _ _ _ _) (ok_cons (Con.Good.env wbg_lis2 _ _ _ _) (ok_cons (Con.Good.env wbg_lis3 _ _ _ _) (ok_cons (Con.Good.env wbg_lis4 _ _ _ _) (ok_cons (Con.Good.env (Con.Good.up wag_wcmp wbup rfl) _ _ _ _) (ok_cons (Con.Good.env (Con.Good.up wag_wof wbup rfl) _ _ _ _) (ok_cons (Con.Good.env wbg_bintO _ _ _ _) (ok_cons (Con.Good.env (Con.Good.up wag_wmul wbup rfl) _ _ _ _) (ok_cons (Con.Good.env wbg_bmulO _ _ _ _) (ok_cons (Con.Good.env wbg_sure _ _ _ _) ok_nil))))))))))))))))))))))) wS39_h
def wS40_tree : Tree :=
 (.need xd4k6_
 (.need xd4k15_
 (.need xd4k4_
 (.need xd4k6_
 (.need xd4k6_
 (.need xd4k1_
 (.need xd4k2_
 (.need xd4k5_
 (.need xd4k10_
 (.need xd4k5_
 (.need xd4k17_
 (.need (an_ (eq_ xd4k11_ (.lit 0)) xd4k10_)
 (.need xd4k1_
 (.need xd4k7_
 (.need xd4k4_
 (.br (eq_ xd4k21_ (.lit (-1)))
 (.need xd4k12_
 (.need xd4k12_
 (.need xd4k9_
 (.need (an_ xd4k12_ xd4k16_)
 (.need xd4k12_
 (.need xd4k16_
 (.need (an_ xd4k12_ xd4k16_)
 (.need xd4k8_
 (.ret (.bool (.tt true)))))))))))
 (.ret (.bool (.tt false)))))))))))))))))))
abbrev wbc_wS40 : Con := ⟨3, [xd4k20_, xd4k19_, xd4k22_], (an_ (an_ (an_ (an_ (an_ xd4k3_ (eq_ xd4k11_ (.lit 0))) (.not (eq_ xd4k18_ (.lit 0)))) (eq_ xd4k18_ (.lit 2))) (.not (eq_ (sb_ xd4k0_ xd4k13_) (.lit 0)))) (.bapp 0 (.cons (.int .i64 (sb_ xd4k0_ xd4k13_)) .nil))), (.bool (.tt true)), ⟨6, 0, 0, 0⟩, none⟩
theorem wS40_w : walkQ Tryd.prog 142 ⟨[wac_bfrom, wac_wadd, wac_wneg, wac_wint, wbc_baddN, wbc_baddM, wbc_btoN, wbc_btoF, wbc_btoT, wbc_bzeroN, wbc_bnumN, wac_num, wbc_lisO, wbc_lis2, wbc_lis3, wbc_lis4, wac_wcmp, wac_wof, wbc_bintO, wac_wmul, wbc_bmulO, wbc_sure], syG, [], [], []⟩ [] .v wbc_wS40 wbc_wS40.n 3000 (pcOf wbc_wS40.cnd) = some wS40_tree := by kernel_rfl
set_option maxHeartbeats 2000000 in
theorem wS40_h (xh xl yh yl o0 o1 : Int) : Hyp_ wbc_wS40 wS40_tree (wbE [xh, xl, yh, yl, o0, o1] [] [] []) := by
 intro hc hty
 simp only [wbc_wS40, Sy.holds, wbE, denV, denI, denB, denL, I2.den, VOp.den, List.getD_cons_zero, List.getD_cons_succ, Cst.den, syso, syse, syio, sybo, wbi_wv, wbi_rg, wbi_r6, wbb_ng, B2.ofInts, B2.denI, B2.denB, if_true, Bool.false_eq_true, if_false, Nat.div_one, Nat.mul_one, Nat.add_zero] at hc
 simp only [wbc_wS40, patsTyp, patTyp, patTypL, wbE, denV, denL, List.getD_cons_zero, List.getD_cons_succ, and_true, true_and] at hty
 unfold wS40_tree
 simp only [wbc_wS40, Tree.holds, Sy.holds, wbE, denV, denI, denB, denL, I2.den, VOp.den, List.getD_cons_zero, List.getD_cons_succ, Cst.den, syso, syse, syio, sybo, wbi_wv, wbi_rg, wbi_cp, B2.ofInts, B2.denI, B2.denB, if_true, Bool.false_eq_true, if_false, Nat.div_one, Nat.mul_one, Nat.add_zero]
 have hl := hc.1.1.1.1.1.1.1
 have ra := rg_spec (wvI xh xl + wvI yh yl)
 have rb := rg_spec (0 - wvI xh xl)
 have rc := r6_spec (wvI xh xl)
 have rd := cp_spec (wvI xh xl - wvI yh yl)
 have re := rg_spec (o0 * o1)
 have rf := rg_spec o0
 have x0 : wvI xh xl = xh * 18446744073709551616 + xl := rfl
 have y0 : wvI yh yl = yh * 18446744073709551616 + yl := rfl
 have hm := mul_rng (a := o0) (b := o1) hl.2.2.2.2.1 hl.2.2.2.2.2
 generalize wvI xh xl = X at *
 generalize wvI yh yl = Y at *
 generalize o0 * o1 = M at *
 refine ⟨?a0, fun h0 => ?_⟩; rotate_left
 refine ⟨?a1, fun h1 => ?_⟩; rotate_left
 refine ⟨?a2, fun h2 => ?_⟩; rotate_left
 refine ⟨?a3, fun h3 => ?_⟩; rotate_left
 refine ⟨?a4, fun h4 => ?_⟩; rotate_left
 refine ⟨?a5, fun h5 => ?_⟩; rotate_left
 refine ⟨?a6, fun h6 => ?_⟩; rotate_left
 refine ⟨?a7, fun h7 => ?_⟩; rotate_left
 refine ⟨?a8, fun h8 => ?_⟩; rotate_left
 refine ⟨?a9, fun h9 => ?_⟩; rotate_left
 refine ⟨?a10, fun h10 => ?_⟩; rotate_left
 refine ⟨?a11, fun h11 => ?_⟩; rotate_left
 refine ⟨?a12, fun h12 => ?_⟩; rotate_left
 refine ⟨?a13, fun h13 => ?_⟩; rotate_left
 refine ⟨?a14, fun h14 => ?_⟩; rotate_left
 refine ⟨fun h15 => ?_, fun h15 => ?_⟩
 refine ⟨?a15, fun h16 => ?_⟩; rotate_left
 refine ⟨?a16, fun h17 => ?_⟩; rotate_left
 refine ⟨?a17, fun h18 => ?_⟩; rotate_left
 refine ⟨?a18, fun h19 => ?_⟩; rotate_left
 refine ⟨?a19, fun h20 => ?_⟩; rotate_left
 refine ⟨?a20, fun h21 => ?_⟩; rotate_left
 refine ⟨?a21, fun h22 => ?_⟩; rotate_left
 refine ⟨?a22, fun h23 => ?_⟩; rotate_left
 refine ?a23; rotate_left
 refine ?a24; rotate_left
 case a0 | a1 | a2 | a3 | a4 | a5 | a6 | a7 | a8 | a9 | a10 | a11 | a12 | a13 | a14 | a15 | a16 | a17 | a18 | a19 | a20 | a21 | a22 =>
  as_aux_lemma =>
    first
    | exact True.intro
    | omega
    | (simp only [decide_eq_true_eq] at *; omega)
    | skip
 case a23 | a24 =>
  as_aux_lemma =>
    first
    | exact True.intro
    | rfl
    | (simp only [decide_eq_true_eq] at *; exfalso; omega)
    | (exfalso; omega)
    | (exfalso
       have g1 : gdF (rgE (0 - X)) ((0 - X) / 18446744073709551616) = 0 := gd_n (by omega) _
       have g2 : gdF (rgE (0 - X)) ((0 - X) % 18446744073709551616) = 0 := gd_n (by omega) _
       omega)
    | (exfalso
       have g1 : gdF (rgE (X + Y)) ((X + Y) / 18446744073709551616) = 0 := gd_n (by omega) _
       have g2 : gdF (rgE (X + Y)) ((X + Y) % 18446744073709551616) = 0 := gd_n (by omega) _
       omega)
    | (exfalso
       have g1 : gdF (r6E X) X = 0 := gd_n (by omega) _
       omega)
    | skip
theorem wbg_wS40 : wbc_wS40.Good Tryd.prog syG (wbE [] [] [] []) := good_of_walkC (Γ := ⟨[wac_bfrom, wac_wadd, wac_wneg, wac_wint, wbc_baddN, wbc_baddM, wbc_btoN, wbc_btoF, wbc_btoT, wbc_bzeroN, wbc_bnumN, wac_num, wbc_lisO, wbc_lis2, wbc_lis3, wbc_lis4, wac_wcmp, wac_wof, wbc_bintO, wac_wmul, wbc_bmulO, wbc_sure], syG, [], [], []⟩) (ρ := wbE [] [] [] []) sym wS40_w rfl (fun _ _ _ _ => (ok_cons (Con.Good.env (Con.Good.up wag_bfrom wbup rfl) _ _ _ _) (ok_cons (Con.Good.env (Con.Good.up wag_wadd wbup rfl) _ _ _ _) (ok_cons (Con.Good.env (Con.Good.up wag_wneg wbup rfl) _ _ _ _) (ok_cons (Con.Good.env (Con.Good.up wag_wint wbup rfl) _ _ _ _) (ok_cons (Con.Good.env wbg_baddN _ _ _ _) (ok_cons (Con.Good.env wbg_baddM _ _ _ _) (ok_cons (Con.Good.env wbg_btoN _ _ _ _) (ok_cons (Con.Good.env wbg_btoF _ _ _ _) (ok_cons (Con.Good.env wbg_btoT _ _ _ _) (ok_cons (Con.Good.env wbg_bzeroN _ _ _ _) (ok_cons (Con.Good.env wbg_bnumN _ _ _ _) (ok_cons (Con.Good.env (Con.Good.up wag_num wbup rfl) _ _ _ _) (ok_cons (Con.Good.env wbg_lisO _ _ _ _) (ok_cons (Con.Good.env wbg_lis2 _ _ _ _) (ok_cons (Con.Good.env wbg_lis3 _ _ _ _) (ok_cons (Con.Good.env wbg_lis4 _ _ _ _) (ok_cons (Con.Good.env (Con.Good.up wag_wcmp wbup rfl) _ _ _ _) (ok_cons (Con.Good.env (Con.Good.up wag_wof wbup rfl) _ _ _ _) (ok_cons (Con.Good.env wbg_bintO _ _ _ _) (ok_cons (Con.Good.env (Con.Good.up wag_wmul wbup rfl) _ _ _ _) (ok_cons (Con.Good.env wbg_bmulO _ _ _ _) (ok_cons (Con.Good.env wbg_sure _ _ _ _) ok_nil))))))))))))))))))))))) wS40_h
def wS41_tree : Tree :=
 (.need xd4k6_
 (.need xd4k15_
 (.need xd4k4_
 (.need xd4k6_
 (.need xd4k6_
 (.need xd4k1_
 (.need xd4k2_
 (.need xd4k5_
 (.need xd4k10_
 (.need xd4k5_
 (.need xd4k17_
 (.need (an_ (eq_ xd4k11_ (.lit 0)) xd4k10_)
 (.need xd4k1_
 (.need xd4k7_
 (.need xd4k4_
 (.br (eq_ xd4k21_ (.lit 1))
 (.need xd4k12_
 (.need xd4k12_
 (.need xd4k9_
 (.need (an_ xd4k12_ xd4k16_)
 (.need xd4k12_
 (.need xd4k16_
 (.need (an_ xd4k12_ xd4k16_)
 (.need xd4k8_
 (.ret (.bool (.tt true)))))))))))
 (.ret (.bool (.tt false)))))))))))))))))))
abbrev wbc_wS41 : Con := ⟨3, [xd4k20_, xd4k19_, xd4k22_], (an_ (an_ (an_ (an_ (an_ xd4k3_ (eq_ xd4k11_ (.lit 0))) (.not (eq_ xd4k18_ (.lit 0)))) (eq_ xd4k18_ (.lit 2))) (.not (eq_ (sb_ xd4k0_ xd4k13_) (.lit 0)))) (.not (.bapp 0 (.cons (.int .i64 (sb_ xd4k0_ xd4k13_)) .nil)))), (.bool (.tt true)), ⟨6, 0, 0, 0⟩, none⟩
theorem wS41_w : walkQ Tryd.prog 142 ⟨[wac_bfrom, wac_wadd, wac_wneg, wac_wint, wbc_baddN, wbc_baddM, wbc_btoN, wbc_btoF, wbc_btoT, wbc_bzeroN, wbc_bnumN, wac_num, wbc_lisO, wbc_lis2, wbc_lis3, wbc_lis4, wac_wcmp, wac_wof, wbc_bintO, wac_wmul, wbc_bmulO, wbc_sure], syG, [], [], []⟩ [] .v wbc_wS41 wbc_wS41.n 3000 (pcOf wbc_wS41.cnd) = some wS41_tree := by kernel_rfl
set_option maxHeartbeats 2000000 in
theorem wS41_h (xh xl yh yl o0 o1 : Int) : Hyp_ wbc_wS41 wS41_tree (wbE [xh, xl, yh, yl, o0, o1] [] [] []) := by
 intro hc hty
 simp only [wbc_wS41, Sy.holds, wbE, denV, denI, denB, denL, I2.den, VOp.den, List.getD_cons_zero, List.getD_cons_succ, Cst.den, syso, syse, syio, sybo, wbi_wv, wbi_rg, wbi_r6, wbb_ng, B2.ofInts, B2.denI, B2.denB, if_true, Bool.false_eq_true, if_false, Nat.div_one, Nat.mul_one, Nat.add_zero] at hc
 simp only [wbc_wS41, patsTyp, patTyp, patTypL, wbE, denV, denL, List.getD_cons_zero, List.getD_cons_succ, and_true, true_and] at hty
 unfold wS41_tree
 simp only [wbc_wS41, Tree.holds, Sy.holds, wbE, denV, denI, denB, denL, I2.den, VOp.den, List.getD_cons_zero, List.getD_cons_succ, Cst.den, syso, syse, syio, sybo, wbi_wv, wbi_rg, wbi_cp, B2.ofInts, B2.denI, B2.denB, if_true, Bool.false_eq_true, if_false, Nat.div_one, Nat.mul_one, Nat.add_zero]
 have hl := hc.1.1.1.1.1.1.1
 have ra := rg_spec (wvI xh xl + wvI yh yl)
 have rb := rg_spec (0 - wvI xh xl)
 have rc := r6_spec (wvI xh xl)
 have rd := cp_spec (wvI xh xl - wvI yh yl)
 have re := rg_spec (o0 * o1)
 have rf := rg_spec o0
 have x0 : wvI xh xl = xh * 18446744073709551616 + xl := rfl
 have y0 : wvI yh yl = yh * 18446744073709551616 + yl := rfl
 have hm := mul_rng (a := o0) (b := o1) hl.2.2.2.2.1 hl.2.2.2.2.2
 generalize wvI xh xl = X at *
 generalize wvI yh yl = Y at *
 generalize o0 * o1 = M at *
 refine ⟨?a0, fun h0 => ?_⟩; rotate_left
 refine ⟨?a1, fun h1 => ?_⟩; rotate_left
 refine ⟨?a2, fun h2 => ?_⟩; rotate_left
 refine ⟨?a3, fun h3 => ?_⟩; rotate_left
 refine ⟨?a4, fun h4 => ?_⟩; rotate_left
 refine ⟨?a5, fun h5 => ?_⟩; rotate_left
 refine ⟨?a6, fun h6 => ?_⟩; rotate_left
 refine ⟨?a7, fun h7 => ?_⟩; rotate_left
 refine ⟨?a8, fun h8 => ?_⟩; rotate_left
 refine ⟨?a9, fun h9 => ?_⟩; rotate_left
 refine ⟨?a10, fun h10 => ?_⟩; rotate_left
 refine ⟨?a11, fun h11 => ?_⟩; rotate_left
 refine ⟨?a12, fun h12 => ?_⟩; rotate_left
 refine ⟨?a13, fun h13 => ?_⟩; rotate_left
 refine ⟨?a14, fun h14 => ?_⟩; rotate_left
 refine ⟨fun h15 => ?_, fun h15 => ?_⟩
 refine ⟨?a15, fun h16 => ?_⟩; rotate_left
 refine ⟨?a16, fun h17 => ?_⟩; rotate_left
 refine ⟨?a17, fun h18 => ?_⟩; rotate_left
 refine ⟨?a18, fun h19 => ?_⟩; rotate_left
 refine ⟨?a19, fun h20 => ?_⟩; rotate_left
 refine ⟨?a20, fun h21 => ?_⟩; rotate_left
 refine ⟨?a21, fun h22 => ?_⟩; rotate_left
 refine ⟨?a22, fun h23 => ?_⟩; rotate_left
 refine ?a23; rotate_left
 refine ?a24; rotate_left
 case a0 | a1 | a2 | a3 | a4 | a5 | a6 | a7 | a8 | a9 | a10 | a11 | a12 | a13 | a14 | a15 | a16 | a17 | a18 | a19 | a20 | a21 | a22 =>
  as_aux_lemma =>
    first
    | exact True.intro
    | omega
    | (simp only [decide_eq_true_eq] at *; omega)
    | skip
 case a23 | a24 =>
  as_aux_lemma =>
    first
    | exact True.intro
    | rfl
    | (simp only [decide_eq_true_eq] at *; exfalso; omega)
    | (exfalso; omega)
    | (exfalso
       have g1 : gdF (rgE (0 - X)) ((0 - X) / 18446744073709551616) = 0 := gd_n (by omega) _
       have g2 : gdF (rgE (0 - X)) ((0 - X) % 18446744073709551616) = 0 := gd_n (by omega) _
       omega)
    | (exfalso
       have g1 : gdF (rgE (X + Y)) ((X + Y) / 18446744073709551616) = 0 := gd_n (by omega) _
       have g2 : gdF (rgE (X + Y)) ((X + Y) % 18446744073709551616) = 0 := gd_n (by omega) _
       omega)
    | (exfalso
       have g1 : gdF (r6E X) X = 0 := gd_n (by omega) _
       omega)
    | skip
theorem wbg_wS41 : wbc_wS41.Good Tryd.prog syG (wbE [] [] [] []) := good_of_walkC (Γ := ⟨[wac_bfrom, wac_wadd, wac_wneg, wac_wint, wbc_baddN, wbc_baddM, wbc_btoN, wbc_btoF, wbc_btoT, wbc_bzeroN, wbc_bnumN, wac_num, wbc_lisO, wbc_lis2, wbc_lis3, wbc_lis4, wac_wcmp, wac_wof, wbc_bintO, wac_wmul, wbc_bmulO, wbc_sure], syG, [], [], []⟩) (ρ := wbE [] [] [] []) sym wS41_w rfl (fun _ _ _ _ => (ok_cons (Con.Good.env (Con.Good.up wag_bfrom wbup rfl) _ _ _ _) (ok_cons (Con.Good.env (Con.Good.up wag_wadd wbup rfl) _ _ _ _) (ok_cons (Con.Good.env (Con.Good.up wag_wneg wbup rfl) _ _ _ _) (ok_cons (Con.Good.env (Con.Good.up wag_wint wbup rfl) _ _ _ _) (ok_cons (Con.Good.env wbg_baddN _ _ _ _) (ok_cons (Con.Good.env wbg_baddM _ _ _ _) (ok_cons (Con.Good.env wbg_btoN _ _ _ _) (ok_cons (Con.Good.env wbg_btoF _ _ _ _) (ok_cons (Con.Good.env wbg_btoT _ _ _ _) (ok_cons (Con.Good.env wbg_bzeroN _ _ _ _) (ok_cons (Con.Good.env wbg_bnumN _ _ _ _) (ok_cons (Con.Good.env (Con.Good.up wag_num wbup rfl) _ _ _ _) (ok_cons (Con.Good.env wbg_lisO _ _ _ _) (ok_cons (Con.Good.env wbg_lis2 _ _ _ _) (ok_cons (Con.Good.env wbg_lis3 _ _ _ _) (ok_cons (Con.Good.env wbg_lis4 _ _ _ _) (ok_cons (Con.Good.env (Con.Good.up wag_wcmp wbup rfl) _ _ _ _) (ok_cons (Con.Good.env (Con.Good.up wag_wof wbup rfl) _ _ _ _) (ok_cons (Con.Good.env wbg_bintO _ _ _ _) (ok_cons (Con.Good.env (Con.Good.up wag_wmul wbup rfl) _ _ _ _) (ok_cons (Con.Good.env wbg_bmulO _ _ _ _) (ok_cons (Con.Good.env wbg_sure _ _ _ _) ok_nil))))))))))))))))))))))) wS41_h
def wS42_tree : Tree :=
 (.need xd4k6_
 (.need xd4k15_
 (.need xd4k4_
 (.need xd4k6_
 (.need xd4k6_
 (.need xd4k1_
 (.need xd4k2_
 (.need xd4k5_
 (.need xd4k10_
 (.need xd4k5_
 (.need xd4k17_
 (.need (an_ (eq_ xd4k11_ (.lit 0)) xd4k10_)
 (.ret (.bool (.tt false)))))))))))))))
abbrev wbc_wS42 : Con := ⟨3, [xd4k20_, xd4k19_, xd4k22_], (an_ (an_ (an_ xd4k3_ (eq_ xd4k11_ (.lit 0))) (.not (eq_ xd4k18_ (.lit 0)))) (.not (eq_ xd4k18_ (.lit 2)))), (.bool (.tt true)), ⟨6, 0, 0, 0⟩, none⟩
theorem wS42_w : walkQ Tryd.prog 142 ⟨[wac_bfrom, wac_wadd, wac_wneg, wac_wint, wbc_baddN, wbc_baddM, wbc_btoN, wbc_btoF, wbc_btoT, wbc_bzeroN, wbc_bnumN, wac_num, wbc_lisO, wbc_lis2, wbc_lis3, wbc_lis4, wac_wcmp, wac_wof, wbc_bintO, wac_wmul, wbc_bmulO, wbc_sure], syG, [], [], []⟩ [] .v wbc_wS42 wbc_wS42.n 3000 (pcOf wbc_wS42.cnd) = some wS42_tree := by kernel_rfl
set_option maxHeartbeats 2000000 in
theorem wS42_h (xh xl yh yl o0 o1 : Int) : Hyp_ wbc_wS42 wS42_tree (wbE [xh, xl, yh, yl, o0, o1] [] [] []) := by
 intro hc hty
 simp only [wbc_wS42, Sy.holds, wbE, denV, denI, denB, denL, I2.den, VOp.den, List.getD_cons_zero, List.getD_cons_succ, Cst.den, syso, syse, syio, sybo, wbi_wv, wbi_rg, wbi_r6, wbb_ng, B2.ofInts, B2.denI, B2.denB, if_true, Bool.false_eq_true, if_false, Nat.div_one, Nat.mul_one, Nat.add_zero] at hc
 simp only [wbc_wS42, patsTyp, patTyp, patTypL, wbE, denV, denL, List.getD_cons_zero, List.getD_cons_succ, and_true, true_and] at hty
 unfold wS42_tree
 simp only [wbc_wS42, Tree.holds, Sy.holds, wbE, denV, denI, denB, denL, I2.den, VOp.den, List.getD_cons_zero, List.getD_cons_succ, Cst.den, syso, syse, syio, sybo, wbi_wv, wbi_rg, B2.ofInts, B2.denI, B2.denB, if_true, Bool.false_eq_true, if_false, Nat.div_one, Nat.mul_one, Nat.add_zero]
 have hl := hc.1.1.1.1.1
 have ra := rg_spec (wvI xh xl + wvI yh yl)
 have rb := rg_spec (0 - wvI xh xl)
 have rc := r6_spec (wvI xh xl)
 have rd := cp_spec (wvI xh xl - wvI yh yl)
 have re := rg_spec (o0 * o1)
 have rf := rg_spec o0
 have x0 : wvI xh xl = xh * 18446744073709551616 + xl := rfl
 have y0 : wvI yh yl = yh * 18446744073709551616 + yl := rfl
 have hm := mul_rng (a := o0) (b := o1) hl.2.2.2.2.1 hl.2.2.2.2.2
 generalize wvI xh xl = X at *
 generalize wvI yh yl = Y at *
 generalize o0 * o1 = M at *
 refine ⟨?a0, fun h0 => ?_⟩; rotate_left
 refine ⟨?a1, fun h1 => ?_⟩; rotate_left
 refine ⟨?a2, fun h2 => ?_⟩; rotate_left
 refine ⟨?a3, fun h3 => ?_⟩; rotate_left
 refine ⟨?a4, fun h4 => ?_⟩; rotate_left
 refine ⟨?a5, fun h5 => ?_⟩; rotate_left
 refine ⟨?a6, fun h6 => ?_⟩; rotate_left
 refine ⟨?a7, fun h7 => ?_⟩; rotate_left
 refine ⟨?a8, fun h8 => ?_⟩; rotate_left
 refine ⟨?a9, fun h9 => ?_⟩; rotate_left
 refine ⟨?a10, fun h10 => ?_⟩; rotate_left
 refine ⟨?a11, fun h11 => ?_⟩; rotate_left
 ·
  as_aux_lemma =>
    first
    | exact True.intro
    | rfl
    | (simp only [decide_eq_true_eq] at *; exfalso; omega)
    | (exfalso; omega)
    | (exfalso
       have g1 : gdF (rgE (0 - X)) ((0 - X) / 18446744073709551616) = 0 := gd_n (by omega) _
       have g2 : gdF (rgE (0 - X)) ((0 - X) % 18446744073709551616) = 0 := gd_n (by omega) _
       omega)
    | (exfalso
       have g1 : gdF (rgE (X + Y)) ((X + Y) / 18446744073709551616) = 0 := gd_n (by omega) _
       have g2 : gdF (rgE (X + Y)) ((X + Y) % 18446744073709551616) = 0 := gd_n (by omega) _
       omega)
    | (exfalso
       have g1 : gdF (r6E X) X = 0 := gd_n (by omega) _
       omega)
    | skip
 case a0 | a1 | a2 | a3 | a4 | a5 | a6 | a7 | a8 | a9 | a10 | a11 =>
  as_aux_lemma =>
    first
    | exact True.intro
    | omega
    | (simp only [decide_eq_true_eq] at *; omega)
    | skip
theorem wbg_wS42 : wbc_wS42.Good Tryd.prog syG (wbE [] [] [] []) := good_of_walkC (Γ := ⟨[wac_bfrom, wac_wadd, wac_wneg, wac_wint, wbc_baddN, wbc_baddM, wbc_btoN, wbc_btoF, wbc_btoT, wbc_bzeroN, wbc_bnumN, wac_num, wbc_lisO, wbc_lis2, wbc_lis3, wbc_lis4, wac_wcmp, wac_wof, wbc_bintO, wac_wmul, wbc_bmulO, wbc_sure], syG, [], [], []⟩) (ρ := wbE [] [] [] []) sym wS42_w rfl (fun _ _ _ _ => (ok_cons (Con.Good.env (Con.Good.up wag_bfrom wbup rfl) _ _ _ _) (ok_cons (Con.Good.env (Con.Good.up wag_wadd wbup rfl) _ _ _ _) (ok_cons (Con.Good.env (Con.Good.up wag_wneg wbup rfl) _ _ _ _) (ok_cons (Con.Good.env (Con.Good.up wag_wint wbup rfl) _ _ _ _) (ok_cons (Con.Good.env wbg_baddN _ _ _ _) (ok_cons (Con.Good.env wbg_baddM _ _ _ _) (ok_cons (Con.Good.env wbg_btoN _ _ _ _) (ok_cons (Con.Good.env wbg_btoF _ _ _ _) (ok_cons (Con.Good.env wbg_btoT _ _ _ _) (ok_cons (Con.Good.env wbg_bzeroN _ _ _ _) (ok_cons (Con.Good.env wbg_bnumN _ _ _ _) (ok_cons (Con.Good.env (Con.Good.up wag_num wbup rfl) _ _ _ _) (ok_cons (Con.Good.env wbg_lisO _ _ _ _) (ok_cons (Con.Good.env wbg_lis2 _ _ _ _) (ok_cons (Con.Good.env wbg_lis3 _ _ _ _) (ok_cons (Con.Good.env wbg_lis4 _ _ _ _) (ok_cons (Con.Good.env (Con.Good.up wag_wcmp wbup rfl) _ _ _ _) (ok_cons (Con.Good.env (Con.Good.up wag_wof wbup rfl) _ _ _ _) (ok_cons (Con.Good.env wbg_bintO _ _ _ _) (ok_cons (Con.Good.env (Con.Good.up wag_wmul wbup rfl) _ _ _ _) (ok_cons (Con.Good.env wbg_bmulO _ _ _ _) (ok_cons (Con.Good.env wbg_sure _ _ _ _) ok_nil))))))))))))))))))))))) wS42_h
def wS43_tree : Tree :=
 (.need xd4k6_
 (.need xd4k15_
 (.need xd4k4_
 (.need xd4k6_
 (.need xd4k6_
 (.need xd4k1_
 (.need xd4k2_
 (.need xd4k5_
 (.need xd4k10_
 (.need xd4k5_
 (.need xd4k17_
 (.br (.not xd4k14_)
 (.ret (.bool (.tt false)))
 (.need xd4k1_
 (.need xd4k7_
 (.need xd4k4_
 (.br (eq_ xd4k21_ (.lit 0))
 (.need xd4k12_
 (.need xd4k12_
 (.need xd4k9_
 (.need (an_ xd4k12_ xd4k16_)
 (.need xd4k12_
 (.need xd4k16_
 (.need (an_ xd4k12_ xd4k16_)
 (.need xd4k8_
 (.ret (.bool (.tt true)))))))))))
 (.ret (.bool (.tt false)))))))))))))))))))
abbrev wbc_wS43 : Con := ⟨3, [xd4k20_, xd4k19_, xd4k22_], (an_ (an_ (an_ (an_ (an_ xd4k3_ (.not (eq_ xd4k11_ (.lit 0)))) (eq_ xd4k11_ (.lit 2))) xd4k14_) (eq_ xd4k18_ (.lit 0))) (eq_ (sb_ xd4k0_ xd4k13_) (.lit 0))), (.bool (.tt true)), ⟨6, 0, 0, 0⟩, none⟩
theorem wS43_w : walkQ Tryd.prog 142 ⟨[wac_bfrom, wac_wadd, wac_wneg, wac_wint, wbc_baddN, wbc_baddM, wbc_btoN, wbc_btoF, wbc_btoT, wbc_bzeroN, wbc_bnumN, wac_num, wbc_lisO, wbc_lis2, wbc_lis3, wbc_lis4, wac_wcmp, wac_wof, wbc_bintO, wac_wmul, wbc_bmulO, wbc_sure], syG, [], [], []⟩ [] .v wbc_wS43 wbc_wS43.n 3000 (pcOf wbc_wS43.cnd) = some wS43_tree := by kernel_rfl
set_option maxHeartbeats 2000000 in
theorem wS43_h (xh xl yh yl o0 o1 : Int) : Hyp_ wbc_wS43 wS43_tree (wbE [xh, xl, yh, yl, o0, o1] [] [] []) := by
 intro hc hty
 simp only [wbc_wS43, Sy.holds, wbE, denV, denI, denB, denL, I2.den, VOp.den, List.getD_cons_zero, List.getD_cons_succ, Cst.den, syso, syse, syio, sybo, wbi_wv, wbi_wh, wbi_wl, wbi_rg, wbi_r6, wbi_gd, wbb_ng, B2.ofInts, B2.denI, B2.denB, if_true, Bool.false_eq_true, if_false, Nat.div_one, Nat.mul_one, Nat.add_zero] at hc
 simp only [wbc_wS43, patsTyp, patTyp, patTypL, wbE, denV, denL, List.getD_cons_zero, List.getD_cons_succ, and_true, true_and] at hty
 unfold wS43_tree
 simp only [wbc_wS43, Tree.holds, Sy.holds, wbE, denV, denI, denB, denL, I2.den, VOp.den, List.getD_cons_zero, List.getD_cons_succ, Cst.den, syso, syse, syio, sybo, wbi_wv, wbi_wh, wbi_wl, wbi_rg, wbi_gd, wbi_cp, B2.ofInts, B2.denI, B2.denB, if_true, Bool.false_eq_true, if_false, Nat.div_one, Nat.mul_one, Nat.add_zero]
 have hl := hc.1.1.1.1.1.1.1
 have ra := rg_spec (wvI xh xl + wvI yh yl)
 have rb := rg_spec (0 - wvI xh xl)
 have rc := r6_spec (wvI xh xl)
 have rd := cp_spec (wvI xh xl - wvI yh yl)
 have re := rg_spec (o0 * o1)
 have rf := rg_spec o0
 have x0 : wvI xh xl = xh * 18446744073709551616 + xl := rfl
 have y0 : wvI yh yl = yh * 18446744073709551616 + yl := rfl
 have hm := mul_rng (a := o0) (b := o1) hl.2.2.2.2.1 hl.2.2.2.2.2
 generalize wvI xh xl = X at *
 generalize wvI yh yl = Y at *
 generalize o0 * o1 = M at *
 refine ⟨?a0, fun h0 => ?_⟩; rotate_left
 refine ⟨?a1, fun h1 => ?_⟩; rotate_left
 refine ⟨?a2, fun h2 => ?_⟩; rotate_left
 refine ⟨?a3, fun h3 => ?_⟩; rotate_left
 refine ⟨?a4, fun h4 => ?_⟩; rotate_left
 refine ⟨?a5, fun h5 => ?_⟩; rotate_left
 refine ⟨?a6, fun h6 => ?_⟩; rotate_left
 refine ⟨?a7, fun h7 => ?_⟩; rotate_left
 refine ⟨?a8, fun h8 => ?_⟩; rotate_left
 refine ⟨?a9, fun h9 => ?_⟩; rotate_left
 refine ⟨?a10, fun h10 => ?_⟩; rotate_left
 refine ⟨fun h11 => ?_, fun h11 => ?_⟩
 refine ?a11; rotate_left
 refine ⟨?a12, fun h12 => ?_⟩; rotate_left
 refine ⟨?a13, fun h13 => ?_⟩; rotate_left
 refine ⟨?a14, fun h14 => ?_⟩; rotate_left
 refine ⟨fun h15 => ?_, fun h15 => ?_⟩
 refine ⟨?a15, fun h16 => ?_⟩; rotate_left
 refine ⟨?a16, fun h17 => ?_⟩; rotate_left
 refine ⟨?a17, fun h18 => ?_⟩; rotate_left
 refine ⟨?a18, fun h19 => ?_⟩; rotate_left
 refine ⟨?a19, fun h20 => ?_⟩; rotate_left
 refine ⟨?a20, fun h21 => ?_⟩; rotate_left
 refine ⟨?a21, fun h22 => ?_⟩; rotate_left
 refine ⟨?a22, fun h23 => ?_⟩; rotate_left
 refine ?a23; rotate_left
 refine ?a24; rotate_left
 case a0 | a1 | a2 | a3 | a4 | a5 | a6 | a7 | a8 | a9 | a10 | a12 | a13 | a14 | a15 | a16 | a17 | a18 | a19 | a20 | a21 | a22 =>
  as_aux_lemma =>
    first
    | exact True.intro
    | omega
    | (simp only [decide_eq_true_eq] at *; omega)
    | skip
 case a11 | a23 | a24 =>
  as_aux_lemma =>
    first
    | exact True.intro
    | rfl
    | (simp only [decide_eq_true_eq] at *; exfalso; omega)
    | (exfalso; omega)
    | (exfalso
       have g1 : gdF (rgE (0 - X)) ((0 - X) / 18446744073709551616) = 0 := gd_n (by omega) _
       have g2 : gdF (rgE (0 - X)) ((0 - X) % 18446744073709551616) = 0 := gd_n (by omega) _
       omega)
    | (exfalso
       have g1 : gdF (rgE (X + Y)) ((X + Y) / 18446744073709551616) = 0 := gd_n (by omega) _
       have g2 : gdF (rgE (X + Y)) ((X + Y) % 18446744073709551616) = 0 := gd_n (by omega) _
       omega)
    | (exfalso
       have g1 : gdF (r6E X) X = 0 := gd_n (by omega) _
       omega)
    | skip
theorem wbg_wS43 : wbc_wS43.Good Tryd.prog syG (wbE [] [] [] []) := good_of_walkC (Γ := ⟨[wac_bfrom, wac_wadd, wac_wneg, wac_wint, wbc_baddN, wbc_baddM, wbc_btoN, wbc_btoF, wbc_btoT, wbc_bzeroN, wbc_bnumN, wac_num, wbc_lisO, wbc_lis2, wbc_lis3, wbc_lis4, wac_wcmp, wac_wof, wbc_bintO, wac_wmul, wbc_bmulO, wbc_sure], syG, [], [], []⟩) (ρ := wbE [] [] [] []) sym wS43_w rfl (fun _ _ _ _ => (ok_cons (Con.Good.env (Con.Good.up wag_bfrom wbup rfl) _ _ _ _) (ok_cons (Con.Good.env (Con.Good.up wag_wadd wbup rfl) _ _ _ _) (ok_cons (Con.Good.env (Con.Good.up wag_wneg wbup rfl) _ _ _ _) (ok_cons (Con.Good.env (Con.Good.up wag_wint wbup rfl) _ _ _ _) (ok_cons (Con.Good.env wbg_baddN _ _ _ _) (ok_cons (Con.Good.env wbg_baddM _ _ _ _) (ok_cons (Con.Good.env wbg_btoN _ _ _ _) (ok_cons (Con.Good.env wbg_btoF _ _ _ _) (ok_cons (Con.Good.env wbg_btoT _ _ _ _) (ok_cons (Con.Good.env wbg_bzeroN _ _ _ _) (ok_cons (Con.Good.env wbg_bnumN _ _ _ _) (ok_cons (Con.Good.env (Con.Good.up wag_num wbup rfl) _ _ _ _) (ok_cons (Con.Good.env wbg_lisO _ _ _ _) (ok_cons (Con.Good.env wbg_lis2 _ _ _ _) (ok_cons (Con.Good.env wbg_lis3 _ _ _ _) (ok_cons (Con.Good.env wbg_lis4 _ _ _ _) (ok_cons (Con.Good.env (Con.Good.up wag_wcmp wbup rfl) _ _ _ _) (ok_cons (Con.Good.env (Con.Good.up wag_wof wbup rfl) _ _ _ _) (ok_cons (Con.Good.env wbg_bintO _ _ _ _) (ok_cons (Con.Good.env (Con.Good.up wag_wmul wbup rfl) _ _ _ _) (ok_cons (Con.Good.env wbg_bmulO _ _ _ _) (ok_cons (Con.Good.env wbg_sure _ _ _ _) ok_nil))))))))))))))))))))))) wS43_h
def wS44_tree : Tree :=
 (.need xd4k6_
 (.need xd4k15_
 (.need xd4k4_
 (.need xd4k6_
 (.need xd4k6_
 (.need xd4k1_
 (.need xd4k2_
 (.need xd4k5_
 (.need xd4k10_
 (.need xd4k5_
 (.need xd4k17_
 (.br (.not xd4k14_)
 (.ret (.bool (.tt false)))
 (.need xd4k1_
 (.need xd4k7_
 (.need xd4k4_
 (.br (eq_ xd4k21_ (.lit (-1)))
 (.need xd4k12_
 (.need xd4k12_
 (.need xd4k9_
 (.need (an_ xd4k12_ xd4k16_)
 (.need xd4k12_
 (.need xd4k16_
 (.need (an_ xd4k12_ xd4k16_)
 (.need xd4k8_
 (.ret (.bool (.tt true)))))))))))
 (.ret (.bool (.tt false)))))))))))))))))))
abbrev wbc_wS44 : Con := ⟨3, [xd4k20_, xd4k19_, xd4k22_], (an_ (an_ (an_ (an_ (an_ (an_ xd4k3_ (.not (eq_ xd4k11_ (.lit 0)))) (eq_ xd4k11_ (.lit 2))) xd4k14_) (eq_ xd4k18_ (.lit 0))) (.not (eq_ (sb_ xd4k0_ xd4k13_) (.lit 0)))) (.bapp 0 (.cons (.int .i64 (sb_ xd4k0_ xd4k13_)) .nil))), (.bool (.tt true)), ⟨6, 0, 0, 0⟩, none⟩
theorem wS44_w : walkQ Tryd.prog 142 ⟨[wac_bfrom, wac_wadd, wac_wneg, wac_wint, wbc_baddN, wbc_baddM, wbc_btoN, wbc_btoF, wbc_btoT, wbc_bzeroN, wbc_bnumN, wac_num, wbc_lisO, wbc_lis2, wbc_lis3, wbc_lis4, wac_wcmp, wac_wof, wbc_bintO, wac_wmul, wbc_bmulO, wbc_sure], syG, [], [], []⟩ [] .v wbc_wS44 wbc_wS44.n 3000 (pcOf wbc_wS44.cnd) = some wS44_tree := by kernel_rfl
set_option maxHeartbeats 2000000 in
theorem wS44_h (xh xl yh yl o0 o1 : Int) : Hyp_ wbc_wS44 wS44_tree (wbE [xh, xl, yh, yl, o0, o1] [] [] []) := by
 intro hc hty
 simp only [wbc_wS44, Sy.holds, wbE, denV, denI, denB, denL, I2.den, VOp.den, List.getD_cons_zero, List.getD_cons_succ, Cst.den, syso, syse, syio, sybo, wbi_wv, wbi_wh, wbi_wl, wbi_rg, wbi_r6, wbi_gd, wbb_ng, B2.ofInts, B2.denI, B2.denB, if_true, Bool.false_eq_true, if_false, Nat.div_one, Nat.mul_one, Nat.add_zero] at hc
 simp only [wbc_wS44, patsTyp, patTyp, patTypL, wbE, denV, denL, List.getD_cons_zero, List.getD_cons_succ, and_true, true_and] at hty
 unfold wS44_tree
 simp only [wbc_wS44, Tree.holds, Sy.holds, wbE, denV, denI, denB, denL, I2.den, VOp.den, List.getD_cons_zero, List.getD_cons_succ, Cst.den, syso, syse, syio, sybo, wbi_wv, wbi_wh, wbi_wl, wbi_rg, wbi_gd, wbi_cp, B2.ofInts, B2.denI, B2.denB, if_true, Bool.false_eq_true, if_false, Nat.div_one, Nat.mul_one, Nat.add_zero]
 have hl := hc.1.1.1.1.1.1.1.1
 have ra := rg_spec (wvI xh xl + wvI yh yl)
 have rb := rg_spec (0 - wvI xh xl)
 have rc := r6_spec (wvI xh xl)
 have rd := cp_spec (wvI xh xl - wvI yh yl)
 have re := rg_spec (o0 * o1)
 have rf := rg_spec o0
 have x0 : wvI xh xl = xh * 18446744073709551616 + xl := rfl
 have y0 : wvI yh yl = yh * 18446744073709551616 + yl := rfl
 have hm := mul_rng (a := o0) (b := o1) hl.2.2.2.2.1 hl.2.2.2.2.2
 generalize wvI xh xl = X at *
 generalize wvI yh yl = Y at *
 generalize o0 * o1 = M at *
 refine ⟨?a0, fun h0 => ?_⟩; rotate_left
 refine ⟨?a1, fun h1 => ?_⟩; rotate_left
 refine ⟨?a2, fun h2 => ?_⟩; rotate_left
 refine ⟨?a3, fun h3 => ?_⟩; rotate_left
 refine ⟨?a4, fun h4 => ?_⟩; rotate_left
 refine ⟨?a5, fun h5 => ?_⟩; rotate_left
 refine ⟨?a6, fun h6 => ?_⟩; rotate_left
 refine ⟨?a7, fun h7 => ?_⟩; rotate_left
 refine ⟨?a8, fun h8 => ?_⟩; rotate_left
 refine ⟨?a9, fun h9 => ?_⟩; rotate_left
 refine ⟨?a10, fun h10 => ?_⟩; rotate_left
 refine ⟨fun h11 => ?_, fun h11 => ?_⟩
 refine ?a11; rotate_left
 refine ⟨?a12, fun h12 => ?_⟩; rotate_left
 refine ⟨?a13, fun h13 => ?_⟩; rotate_left
 refine ⟨?a14, fun h14 => ?_⟩; rotate_left
 refine ⟨fun h15 => ?_, fun h15 => ?_⟩
 refine ⟨?a15, fun h16 => ?_⟩; rotate_left
 refine ⟨?a16, fun h17 => ?_⟩; rotate_left
 refine ⟨?a17, fun h18 => ?_⟩; rotate_left
 refine ⟨?a18, fun h19 => ?_⟩; rotate_left
 refine ⟨?a19, fun h20 => ?_⟩; rotate_left
 refine ⟨?a20, fun h21 => ?_⟩; rotate_left
 refine ⟨?a21, fun h22 => ?_⟩; rotate_left
 refine ⟨?a22, fun h23 => ?_⟩; rotate_left
 refine ?a23; rotate_left
 refine ?a24; rotate_left
 case a0 | a1 | a2 | a3 | a4 | a5 | a6 | a7 | a8 | a9 | a10 | a12 | a13 | a14 | a15 | a16 | a17 | a18 | a19 | a20 | a21 | a22 =>
  as_aux_lemma =>
    first
    | exact True.intro
    | omega
    | (simp only [decide_eq_true_eq] at *; omega)
    | skip
 case a11 | a23 | a24 =>
  as_aux_lemma =>
    first
    | exact True.intro
    | rfl
    | (simp only [decide_eq_true_eq] at *; exfalso; omega)
    | (exfalso; omega)
    | (exfalso
       have g1 : gdF (rgE (0 - X)) ((0 - X) / 18446744073709551616) = 0 := gd_n (by omega) _
       have g2 : gdF (rgE (0 - X)) ((0 - X) % 18446744073709551616) = 0 := gd_n (by omega) _
       omega)
    | (exfalso
       have g1 : gdF (rgE (X + Y)) ((X + Y) / 18446744073709551616) = 0 := gd_n (by omega) _
       have g2 : gdF (rgE (X + Y)) ((X + Y) % 18446744073709551616) = 0 := gd_n (by omega) _
       omega)
    | (exfalso
       have g1 : gdF (r6E X) X = 0 := gd_n (by omega) _
       omega)
    | skip
theorem wbg_wS44 : wbc_wS44.Good Tryd.prog syG (wbE [] [] [] []) := good_of_walkC (Γ := ⟨[wac_bfrom, wac_wadd, wac_wneg, wac_wint, wbc_baddN, wbc_baddM, wbc_btoN, wbc_btoF, wbc_btoT, wbc_bzeroN, wbc_bnumN, wac_num, wbc_lisO, wbc_lis2, wbc_lis3, wbc_lis4, wac_wcmp, wac_wof, wbc_bintO, wac_wmul, wbc_bmulO, wbc_sure], syG, [], [], []⟩) (ρ := wbE [] [] [] []) sym wS44_w rfl (fun _ _ _ _ => (ok_cons (Con.Good.env (Con.Good.up wag_bfrom wbup rfl) _ _ _ _) (ok_cons (Con.Good.env (Con.Good.up wag_wadd wbup rfl) _ _ _ _) (ok_cons (Con.Good.env (Con.Good.up wag_wneg wbup rfl) _ _ _ _) (ok_cons (Con.Good.env (Con.Good.up wag_wint wbup rfl) _ _ _ _) (ok_cons (Con.Good.env wbg_baddN _ _ _ _) (ok_cons (Con.Good.env wbg_baddM _ _ _ _) (ok_cons (Con.Good.env wbg_btoN _ _ _ _) (ok_cons (Con.Good.env wbg_btoF _ _ _ _) (ok_cons (Con.Good.env wbg_btoT _ _ _ _) (ok_cons (Con.Good.env wbg_bzeroN _ _ _ _) (ok_cons (Con.Good.env wbg_bnumN _ _ _ _) (ok_cons (Con.Good.env (Con.Good.up wag_num wbup rfl) _ _ _ _) (ok_cons (Con.Good.env wbg_lisO _ _ _ _) (ok_cons (Con.Good.env wbg_lis2 _ _ _ _) (ok_cons (Con.Good.env wbg_lis3 _ _ _ _) (ok_cons (Con.Good.env wbg_lis4 _ _ _ _) (ok_cons (Con.Good.env (Con.Good.up wag_wcmp wbup rfl) _ _ _ _) (ok_cons (Con.Good.env (Con.Good.up wag_wof wbup rfl) _ _ _ _) (ok_cons (Con.Good.env wbg_bintO _ _ _ _) (ok_cons (Con.Good.env (Con.Good.up wag_wmul wbup rfl) _ _ _ _) (ok_cons (Con.Good.env wbg_bmulO _ _ _ _) (ok_cons (Con.Good.env wbg_sure _ _ _ _) ok_nil))))))))))))))))))))))) wS44_h
end Go.Proofs.YtgondiedehjkhaaDoor
