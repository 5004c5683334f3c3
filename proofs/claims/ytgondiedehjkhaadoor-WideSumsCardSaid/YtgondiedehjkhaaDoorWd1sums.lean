/-
 Layer 2 by the second engine: WideSums, a part.
-/
import Derived.Test.YtgondiedehjkhaaDoorSycsums
import Derived.Test.YtgondiedehjkhaaDoorWbsums
import Derived.Test.YtgondiedehjkhaaDoorMathsums
import Derived.Test.YtgondiedehjkhaaDoorNumsums
import Derived.IntWalk
namespace Go.Proofs.YtgondiedehjkhaaDoor
open Go.RowKit Go.Extern.Stop Go.Stop Go.Extern Go.Proofs.YtgondiedehjkhaaDoor.Sy
set_option linter.unusedVariables false
set_option linter.unusedSimpArgs false
abbrev xd1k0_ : Tm := (.iapp 3 (.cons z0_ (.cons z1_ .nil)))
abbrev xd1k8_ : Tm := (le_ (.lit (-1569275433846670190958947355801916604025588861116008628224)) xd1k0_)
abbrev xd1k16_ : Tm := (an_ xd1k8_ (le_ xd1k0_ (.lit 1569275433846670190958947355801916604025588861116008628224)))
abbrev xd1k7_ : Tm := (.iapp 3 (.cons z2_ (.cons z3_ .nil)))
abbrev xd1k1_ : Tm := (an_ xd1k16_ (an_ (le_ (.lit (-1569275433846670190958947355801916604025588861116008628224)) xd1k7_) (le_ xd1k7_ (.lit 1569275433846670190958947355801916604025588861116008628224))))
abbrev xd1k18_ : Tm := (an_ (le_ lm_ v4_) (le_ v4_ lM_))
abbrev xd1k12_ : Tm := (an_ xd1k18_ (an_ (le_ lm_ v5_) (le_ v5_ lM_)))
abbrev xd1k14_ : Tm := (an_ (an_ (an_ (le_ lm_ v0_) (le_ v0_ lM_)) (an_ (an_ (le_ (.lit 0) v1_) (le_ v1_ (.lit 18446744073709551615))) (an_ (an_ (le_ lm_ v2_) (le_ v2_ lM_)) (an_ (an_ (le_ (.lit 0) v3_) (le_ v3_ (.lit 18446744073709551615))) xd1k12_)))) (.bapp 0 (.cons (.int .i64 xd1k0_) .nil)))
abbrev xd1k17_ : Tm := (eq_ (.iapp 6 (.cons (.int .i64 (ad_ xd1k0_ xd1k7_)) .nil)) (.lit 0))
abbrev xd1k19_ : Tm := (.iapp 6 (.cons (.int .i64 (sb_ (.lit 0) xd1k0_)) .nil))
abbrev xd1k2_ : Tm := (an_ (an_ (an_ (an_ xd1k14_ xd1k17_) (.not (eq_ xd1k19_ (.lit 0)))) (eq_ xd1k19_ (.lit 2))) (an_ (eq_ (.iapp 8 (.cons (.int .i64 xd1k19_) (.cons (.int .i64 (.iapp 4 (.cons (.int .i64 (sb_ (.lit 0) xd1k0_)) .nil))) .nil))) (.lit 0)) (eq_ (.iapp 8 (.cons (.int .i64 xd1k19_) (.cons (.int .i64 (.iapp 5 (.cons (.int .i64 (sb_ (.lit 0) xd1k0_)) .nil))) .nil))) (.lit 0))))
abbrev xd1k3_ : Tm := (an_ (le_ (.lit (-1569275433846670190958947355801916604025588861116008628224)) (ad_ xd1k0_ xd1k7_)) (le_ (ad_ xd1k0_ xd1k7_) (.lit 1569275433846670190958947355801916604025588861116008628224)))
abbrev xd1k15_ : Tm := (an_ (an_ (le_ lm_ v2_) (le_ v2_ lM_)) (an_ (le_ (.lit 0) v3_) (le_ v3_ (.lit 18446744073709551615))))
abbrev xd1k4_ : Tm := (an_ (an_ (le_ lm_ v0_) (le_ v0_ lM_)) (an_ (an_ (le_ (.lit 0) v1_) (le_ v1_ (.lit 18446744073709551615))) xd1k15_))
abbrev xd1k5_ : Tm := (an_ (an_ (le_ lm_ v0_) (le_ v0_ lM_)) (an_ (le_ (.lit 0) v1_) (le_ v1_ (.lit 18446744073709551615))))
abbrev xd1k6_ : Tm := (.not (an_ (eq_ (.iapp 8 (.cons (.int .i64 xd1k19_) (.cons (.int .i64 (.iapp 4 (.cons (.int .i64 (sb_ (.lit 0) xd1k0_)) .nil))) .nil))) (.lit 0)) (eq_ (.iapp 8 (.cons (.int .i64 xd1k19_) (.cons (.int .i64 (.iapp 5 (.cons (.int .i64 (sb_ (.lit 0) xd1k0_)) .nil))) .nil))) (.lit 0))))
abbrev xd1k9_ : Tm := (an_ (eq_ (.iapp 6 (.cons (.int .i64 (ml_ v4_ v5_)) .nil)) (.lit 0)) (an_ (le_ (.lit (-1569275433846670190958947355801916604025588861116008628224)) (ml_ v4_ v5_)) (le_ (ml_ v4_ v5_) (.lit 1569275433846670190958947355801916604025588861116008628224))))
abbrev xd1k10_ : Tm := (an_ (eq_ (.iapp 6 (.cons z4_ .nil)) (.lit 0)) (an_ (le_ (.lit (-1569275433846670190958947355801916604025588861116008628224)) v4_) (le_ v4_ (.lit 1569275433846670190958947355801916604025588861116008628224))))
abbrev xd1k11_ : Tm := (an_ (eq_ (.iapp 8 (.cons (.int .i64 (.iapp 6 (.cons (.int .i64 (ad_ xd1k0_ xd1k7_)) .nil))) (.cons (.int .i64 (.iapp 4 (.cons (.int .i64 (ad_ xd1k0_ xd1k7_)) .nil))) .nil))) (.lit 0)) (eq_ (.iapp 8 (.cons (.int .i64 (.iapp 6 (.cons (.int .i64 (ad_ xd1k0_ xd1k7_)) .nil))) (.cons (.int .i64 (.iapp 5 (.cons (.int .i64 (ad_ xd1k0_ xd1k7_)) .nil))) .nil))) (.lit 0)))
abbrev xd1k13_ : Tm := (an_ (le_ (.lit (-1569275433846670190958947355801916604025588861116008628224)) (sb_ xd1k0_ xd1k7_)) (le_ (sb_ xd1k0_ xd1k7_) (.lit 1569275433846670190958947355801916604025588861116008628224)))
abbrev xd1k20_ : Tm := (.agg (.cons z2_ (.cons (.int .u64 v3_) .nil)))
abbrev xd1k21_ : Tm := (.agg (.cons z0_ (.cons (.int .u64 v1_) .nil)))
abbrev xd1k22_ : Tm := (.iapp 7 (.cons (.int .i64 xd1k0_) .nil))
abbrev xd1k23_ : Tm := (.agg (.cons z4_ (.cons z5_ .nil)))
abbrev xd1k24_ : Tm := (.iapp 13 (.cons (.int .i64 (sb_ xd1k0_ xd1k7_)) .nil))
def wS9_tree : Tree :=
 (.need xd1k5_
 (.need xd1k15_
 (.need xd1k4_
 (.need xd1k5_
 (.need xd1k5_
 (.need xd1k1_
 (.need xd1k3_
 (.need (an_ xd1k8_ (le_ xd1k0_ (.lit 0)))
 (.need xd1k16_
 (.need (an_ xd1k17_ xd1k3_)
 (.br xd1k6_
 (.ret (.bool (.tt false)))
 (.need xd1k1_
 (.need xd1k13_
 (.need xd1k4_
 (.br (eq_ xd1k24_ (.lit 1))
 (.need xd1k18_
 (.need xd1k18_
 (.need xd1k10_
 (.need xd1k12_
 (.need xd1k18_
 (.need (an_ (le_ lm_ v5_) (le_ v5_ lM_))
 (.need xd1k12_
 (.need xd1k9_
 (.ret (.bool (.tt true)))))))))))
 (.ret (.bool (.tt false))))))))))))))))))
abbrev wbc_wS9 : Con := ⟨3, [xd1k21_, xd1k20_, xd1k23_], (an_ (an_ (an_ xd1k2_ (eq_ xd1k22_ (.lit 0))) (.not (eq_ (sb_ xd1k0_ xd1k7_) (.lit 0)))) (.not (.bapp 0 (.cons (.int .i64 (sb_ xd1k0_ xd1k7_)) .nil)))), (.bool (.tt true)), ⟨6, 0, 0, 0⟩, none⟩
theorem wS9_w : walkQ Tryd.prog 142 ⟨[wac_bfrom, wac_wadd, wac_wneg, wac_wint, wbc_baddN, wbc_baddM, wbc_btoN, wbc_btoF, wbc_btoT, wbc_bzeroN, wbc_bnumN, wac_num, wbc_lisO, wbc_lis2, wbc_lis3, wbc_lis4, wac_wcmp, wac_wof, wbc_bintO, wac_wmul, wbc_bmulO, wbc_sure], syG, [], [], []⟩ [] .v wbc_wS9 wbc_wS9.n 3000 (pcOf wbc_wS9.cnd) = some wS9_tree := by kernel_rfl
set_option maxHeartbeats 2000000 in
theorem wS9_h (xh xl yh yl o0 o1 : Int) : Hyp_ wbc_wS9 wS9_tree (wbE [xh, xl, yh, yl, o0, o1] [] [] []) := by
 intro hc hty
 simp only [wbc_wS9, Sy.holds, wbE, denV, denI, denB, denL, I2.den, VOp.den, List.getD_cons_zero, List.getD_cons_succ, Cst.den, syso, syse, syio, sybo, wbi_wv, wbi_wh, wbi_wl, wbi_rg, wbi_r6, wbi_gd, wbb_ng, B2.ofInts, B2.denI, B2.denB, if_true, Bool.false_eq_true, if_false, Nat.div_one, Nat.mul_one, Nat.add_zero] at hc
 simp only [wbc_wS9, patsTyp, patTyp, patTypL, wbE, denV, denL, List.getD_cons_zero, List.getD_cons_succ, and_true, true_and] at hty
 unfold wS9_tree
 simp only [wbc_wS9, Tree.holds, Sy.holds, wbE, denV, denI, denB, denL, I2.den, VOp.den, List.getD_cons_zero, List.getD_cons_succ, Cst.den, syso, syse, syio, sybo, wbi_wv, wbi_wh, wbi_wl, wbi_rg, wbi_gd, wbi_cp, B2.ofInts, B2.denI, B2.denB, if_true, Bool.false_eq_true, if_false, Nat.div_one, Nat.mul_one, Nat.add_zero]
 have hl := hc.1.1.1.1.1.1.1.1
 have ra := rg_spec (wvI xh xl + wvI yh yl)
 have rb := rg_spec (0 - wvI xh xl)
 have rc := r6_spec (wvI xh xl)
 have rd := cp_spec (wvI xh xl - wvI yh yl)
 have re := rg_spec (o0 * o1)
 have rf := rg_spec o0
 have x0 : wvI xh xl = xh * 18446744073709551616 + xl := rfl
 have y0 : wvI yh yl = yh * 18446744073709551616 + yl := rfl
 have hm := mul_rng (a := o0) (b := o1) hl.2.2.2.2.1 hl.2.2.2.2.2
 generalize wvI xh xl = X at *
 generalize wvI yh yl = Y at *
 generalize o0 * o1 = M at *
 refine ⟨?a0, fun h0 => ?_⟩; rotate_left
 refine ⟨?a1, fun h1 => ?_⟩; rotate_left
 refine ⟨?a2, fun h2 => ?_⟩; rotate_left
 refine ⟨?a3, fun h3 => ?_⟩; rotate_left
 refine ⟨?a4, fun h4 => ?_⟩; rotate_left
 refine ⟨?a5, fun h5 => ?_⟩; rotate_left
 refine ⟨?a6, fun h6 => ?_⟩; rotate_left
 refine ⟨?a7, fun h7 => ?_⟩; rotate_left
 refine ⟨?a8, fun h8 => ?_⟩; rotate_left
 refine ⟨?a9, fun h9 => ?_⟩; rotate_left
 refine ⟨fun h10 => ?_, fun h10 => ?_⟩
 refine ?a10; rotate_left
 refine ⟨?a11, fun h11 => ?_⟩; rotate_left
 refine ⟨?a12, fun h12 => ?_⟩; rotate_left
 refine ⟨?a13, fun h13 => ?_⟩; rotate_left
 refine ⟨fun h14 => ?_, fun h14 => ?_⟩
 refine ⟨?a14, fun h15 => ?_⟩; rotate_left
 refine ⟨?a15, fun h16 => ?_⟩; rotate_left
 refine ⟨?a16, fun h17 => ?_⟩; rotate_left
 refine ⟨?a17, fun h18 => ?_⟩; rotate_left
 refine ⟨?a18, fun h19 => ?_⟩; rotate_left
 refine ⟨?a19, fun h20 => ?_⟩; rotate_left
 refine ⟨?a20, fun h21 => ?_⟩; rotate_left
 refine ⟨?a21, fun h22 => ?_⟩; rotate_left
 refine ?a22; rotate_left
 refine ?a23; rotate_left
 case a0 | a1 | a2 | a3 | a4 | a5 | a6 | a7 | a8 | a9 | a11 | a12 | a13 | a14 | a15 | a16 | a17 | a18 | a19 | a20 | a21 =>
  as_aux_lemma =>
    first
    | exact True.intro
    | omega
    | (simp only [decide_eq_true_eq] at *; omega)
    | skip
 case a10 | a22 | a23 =>
  as_aux_lemma =>
    first
    | exact True.intro
    | rfl
    | (simp only [decide_eq_true_eq] at *; exfalso; omega)
    | (exfalso; omega)
    | (exfalso
       have g1 : gdF (rgE (0 - X)) ((0 - X) / 18446744073709551616) = 0 := gd_n (by omega) _
       have g2 : gdF (rgE (0 - X)) ((0 - X) % 18446744073709551616) = 0 := gd_n (by omega) _
       omega)
    | (exfalso
       have g1 : gdF (rgE (X + Y)) ((X + Y) / 18446744073709551616) = 0 := gd_n (by omega) _
       have g2 : gdF (rgE (X + Y)) ((X + Y) % 18446744073709551616) = 0 := gd_n (by omega) _
       omega)
    | (exfalso
       have g1 : gdF (r6E X) X = 0 := gd_n (by omega) _
       omega)
    | skip
theorem wbg_wS9 : wbc_wS9.Good Tryd.prog syG (wbE [] [] [] []) := good_of_walkC (Γ := ⟨[wac_bfrom, wac_wadd, wac_wneg, wac_wint, wbc_baddN, wbc_baddM, wbc_btoN, wbc_btoF, wbc_btoT, wbc_bzeroN, wbc_bnumN, wac_num, wbc_lisO, wbc_lis2, wbc_lis3, wbc_lis4, wac_wcmp, wac_wof, wbc_bintO, wac_wmul, wbc_bmulO, wbc_sure], syG, [], [], []⟩) (ρ := wbE [] [] [] []) sym wS9_w rfl (fun _ _ _ _ => (ok_cons (Con.Good.env (Con.Good.up wag_bfrom wbup rfl) _ _ _ _) (ok_cons (Con.Good.env (Con.Good.up wag_wadd wbup rfl) _ _ _ _) (ok_cons (Con.Good.env (Con.Good.up wag_wneg wbup rfl) _ _ _ _) (ok_cons (Con.Good.env (Con.Good.up wag_wint wbup rfl) _ _ _ _) (ok_cons (Con.Good.env wbg_baddN _ _ _ _) (ok_cons (Con.Good.env wbg_baddM _ _ _ _) (ok_cons (Con.Good.env wbg_btoN _ _ _ _) (ok_cons (Con.Good.env wbg_btoF _ _ _ _) (ok_cons (Con.Good.env wbg_btoT _ _ _ _) (ok_cons (Con.Good.env wbg_bzeroN _ _ _ _) (ok_cons (Con.Good.env wbg_bnumN _ _ _ _) (ok_cons (Con.Good.env (Con.Good.up wag_num wbup rfl) _ _ _ _) (ok_cons (Con.Good.env wbg_lisO _ _ _ _) (ok_cons (Con.Good.env wbg_lis2 _ _ _ _) (ok_cons (Con.Good.env wbg_lis3 _ _ _ _) (ok_cons (Con.Good.env wbg_lis4 _ _ _ _) (ok_cons (Con.Good.env (Con.Good.up wag_wcmp wbup rfl) _ _ _ _) (ok_cons (Con.Good.env (Con.Good.up wag_wof wbup rfl) _ _ _ _) (ok_cons (Con.Good.env wbg_bintO _ _ _ _) (ok_cons (Con.Good.env (Con.Good.up wag_wmul wbup rfl) _ _ _ _) (ok_cons (Con.Good.env wbg_bmulO _ _ _ _) (ok_cons (Con.Good.env wbg_sure _ _ _ _) ok_nil))))))))))))))))))))))) wS9_h
def wS10_tree : Tree :=
 (.need xd1k5_
 (.need xd1k15_
 (.need xd1k4_
 (.need xd1k5_
 (.need xd1k5_
 (.need xd1k1_
 (.need xd1k3_
 (.need (an_ xd1k8_ (le_ xd1k0_ (.lit 0)))
 (.need xd1k16_
 (.need (an_ xd1k17_ xd1k3_)
 (.br xd1k6_
 (.ret (.bool (.tt false)))
 (.need xd1k1_
 (.need xd1k13_
 (.need xd1k4_
 (.br (eq_ xd1k24_ (.lit 0))
 (.need xd1k18_
 (.need xd1k18_
 (.need xd1k10_
 (.need xd1k12_
 (.need xd1k18_
 (.need (an_ (le_ lm_ v5_) (le_ v5_ lM_))
 (.need xd1k12_
 (.need xd1k9_
 (.ret (.bool (.tt true)))))))))))
 (.ret (.bool (.tt false))))))))))))))))))
abbrev wbc_wS10 : Con := ⟨3, [xd1k21_, xd1k20_, xd1k23_], (an_ (an_ (an_ xd1k2_ (.not (eq_ xd1k22_ (.lit 0)))) (eq_ xd1k22_ (.lit 2))) (eq_ (sb_ xd1k0_ xd1k7_) (.lit 0))), (.bool (.tt true)), ⟨6, 0, 0, 0⟩, none⟩
theorem wS10_w : walkQ Tryd.prog 142 ⟨[wac_bfrom, wac_wadd, wac_wneg, wac_wint, wbc_baddN, wbc_baddM, wbc_btoN, wbc_btoF, wbc_btoT, wbc_bzeroN, wbc_bnumN, wac_num, wbc_lisO, wbc_lis2, wbc_lis3, wbc_lis4, wac_wcmp, wac_wof, wbc_bintO, wac_wmul, wbc_bmulO, wbc_sure], syG, [], [], []⟩ [] .v wbc_wS10 wbc_wS10.n 3000 (pcOf wbc_wS10.cnd) = some wS10_tree := by kernel_rfl
set_option maxHeartbeats 2000000 in
theorem wS10_h (xh xl yh yl o0 o1 : Int) : Hyp_ wbc_wS10 wS10_tree (wbE [xh, xl, yh, yl, o0, o1] [] [] []) := by
 intro hc hty
 simp only [wbc_wS10, Sy.holds, wbE, denV, denI, denB, denL, I2.den, VOp.den, List.getD_cons_zero, List.getD_cons_succ, Cst.den, syso, syse, syio, sybo, wbi_wv, wbi_wh, wbi_wl, wbi_rg, wbi_r6, wbi_gd, wbb_ng, B2.ofInts, B2.denI, B2.denB, if_true, Bool.false_eq_true, if_false, Nat.div_one, Nat.mul_one, Nat.add_zero] at hc
 simp only [wbc_wS10, patsTyp, patTyp, patTypL, wbE, denV, denL, List.getD_cons_zero, List.getD_cons_succ, and_true, true_and] at hty
 unfold wS10_tree
 simp only [wbc_wS10, Tree.holds, Sy.holds, wbE, denV, denI, denB, denL, I2.den, VOp.den, List.getD_cons_zero, List.getD_cons_succ, Cst.den, syso, syse, syio, sybo, wbi_wv, wbi_wh, wbi_wl, wbi_rg, wbi_gd, wbi_cp, B2.ofInts, B2.denI, B2.denB, if_true, Bool.false_eq_true, if_false, Nat.div_one, Nat.mul_one, Nat.add_zero]
 have hl := hc.1.1.1.1.1.1.1.1
 have ra := rg_spec (wvI xh xl + wvI yh yl)
 have rb := rg_spec (0 - wvI xh xl)
 have rc := r6_spec (wvI xh xl)
 have rd := cp_spec (wvI xh xl - wvI yh yl)
 have re := rg_spec (o0 * o1)
 have rf := rg_spec o0
 have x0 : wvI xh xl = xh * 18446744073709551616 + xl := rfl
 have y0 : wvI yh yl = yh * 18446744073709551616 + yl := rfl
 have hm := mul_rng (a := o0) (b := o1) hl.2.2.2.2.1 hl.2.2.2.2.2
 generalize wvI xh xl = X at *
 generalize wvI yh yl = Y at *
 generalize o0 * o1 = M at *
 refine ⟨?a0, fun h0 => ?_⟩; rotate_left
 refine ⟨?a1, fun h1 => ?_⟩; rotate_left
 refine ⟨?a2, fun h2 => ?_⟩; rotate_left
 refine ⟨?a3, fun h3 => ?_⟩; rotate_left
 refine ⟨?a4, fun h4 => ?_⟩; rotate_left
 refine ⟨?a5, fun h5 => ?_⟩; rotate_left
 refine ⟨?a6, fun h6 => ?_⟩; rotate_left
 refine ⟨?a7, fun h7 => ?_⟩; rotate_left
 refine ⟨?a8, fun h8 => ?_⟩; rotate_left
 refine ⟨?a9, fun h9 => ?_⟩; rotate_left
 refine ⟨fun h10 => ?_, fun h10 => ?_⟩
 refine ?a10; rotate_left
 refine ⟨?a11, fun h11 => ?_⟩; rotate_left
 refine ⟨?a12, fun h12 => ?_⟩; rotate_left
 refine ⟨?a13, fun h13 => ?_⟩; rotate_left
 refine ⟨fun h14 => ?_, fun h14 => ?_⟩
 refine ⟨?a14, fun h15 => ?_⟩; rotate_left
 refine ⟨?a15, fun h16 => ?_⟩; rotate_left
 refine ⟨?a16, fun h17 => ?_⟩; rotate_left
 refine ⟨?a17, fun h18 => ?_⟩; rotate_left
 refine ⟨?a18, fun h19 => ?_⟩; rotate_left
 refine ⟨?a19, fun h20 => ?_⟩; rotate_left
 refine ⟨?a20, fun h21 => ?_⟩; rotate_left
 refine ⟨?a21, fun h22 => ?_⟩; rotate_left
 refine ?a22; rotate_left
 refine ?a23; rotate_left
 case a0 | a1 | a2 | a3 | a4 | a5 | a6 | a7 | a8 | a9 | a11 | a12 | a13 | a14 | a15 | a16 | a17 | a18 | a19 | a20 | a21 =>
  as_aux_lemma =>
    first
    | exact True.intro
    | omega
    | (simp only [decide_eq_true_eq] at *; omega)
    | skip
 case a10 | a22 | a23 =>
  as_aux_lemma =>
    first
    | exact True.intro
    | rfl
    | (simp only [decide_eq_true_eq] at *; exfalso; omega)
    | (exfalso; omega)
    | (exfalso
       have g1 : gdF (rgE (0 - X)) ((0 - X) / 18446744073709551616) = 0 := gd_n (by omega) _
       have g2 : gdF (rgE (0 - X)) ((0 - X) % 18446744073709551616) = 0 := gd_n (by omega) _
       omega)
    | (exfalso
       have g1 : gdF (rgE (X + Y)) ((X + Y) / 18446744073709551616) = 0 := gd_n (by omega) _
       have g2 : gdF (rgE (X + Y)) ((X + Y) % 18446744073709551616) = 0 := gd_n (by omega) _
       omega)
    | (exfalso
       have g1 : gdF (r6E X) X = 0 := gd_n (by omega) _
       omega)
    | skip
theorem wbg_wS10 : wbc_wS10.Good Tryd.prog syG (wbE [] [] [] []) := good_of_walkC (Γ := ⟨[wac_bfrom, wac_wadd, wac_wneg, wac_wint, wbc_baddN, wbc_baddM, wbc_btoN, wbc_btoF, wbc_btoT, wbc_bzeroN, wbc_bnumN, wac_num, wbc_lisO, wbc_lis2, wbc_lis3, wbc_lis4, wac_wcmp, wac_wof, wbc_bintO, wac_wmul, wbc_bmulO, wbc_sure], syG, [], [], []⟩) (ρ := wbE [] [] [] []) sym wS10_w rfl (fun _ _ _ _ => (ok_cons (Con.Good.env (Con.Good.up wag_bfrom wbup rfl) _ _ _ _) (ok_cons (Con.Good.env (Con.Good.up wag_wadd wbup rfl) _ _ _ _) (ok_cons (Con.Good.env (Con.Good.up wag_wneg wbup rfl) _ _ _ _) (ok_cons (Con.Good.env (Con.Good.up wag_wint wbup rfl) _ _ _ _) (ok_cons (Con.Good.env wbg_baddN _ _ _ _) (ok_cons (Con.Good.env wbg_baddM _ _ _ _) (ok_cons (Con.Good.env wbg_btoN _ _ _ _) (ok_cons (Con.Good.env wbg_btoF _ _ _ _) (ok_cons (Con.Good.env wbg_btoT _ _ _ _) (ok_cons (Con.Good.env wbg_bzeroN _ _ _ _) (ok_cons (Con.Good.env wbg_bnumN _ _ _ _) (ok_cons (Con.Good.env (Con.Good.up wag_num wbup rfl) _ _ _ _) (ok_cons (Con.Good.env wbg_lisO _ _ _ _) (ok_cons (Con.Good.env wbg_lis2 _ _ _ _) (ok_cons (Con.Good.env wbg_lis3 _ _ _ _) (ok_cons (Con.Good.env wbg_lis4 _ _ _ _) (ok_cons (Con.Good.env (Con.Good.up wag_wcmp wbup rfl) _ _ _ _) (ok_cons (Con.Good.env (Con.Good.up wag_wof wbup rfl) _ _ _ _) (ok_cons (Con.Good.env wbg_bintO _ _ _ _) (ok_cons (Con.Good.env (Con.Good.up wag_wmul wbup rfl) _ _ _ _) (ok_cons (Con.Good.env wbg_bmulO _ _ _ _) (ok_cons (Con.Good.env wbg_sure _ _ _ _) ok_nil))))))))))))))))))))))) wS10_h
def wS11_tree : Tree :=
 (.need xd1k5_
 (.need xd1k15_
 (.need xd1k4_
 (.need xd1k5_
 (.need xd1k5_
 (.need xd1k1_
 (.need xd1k3_
 (.need (an_ xd1k8_ (le_ xd1k0_ (.lit 0)))
 (.need xd1k16_
 (.need (an_ xd1k17_ xd1k3_)
 (.br xd1k6_
 (.ret (.bool (.tt false)))
 (.need xd1k1_
 (.need xd1k13_
 (.need xd1k4_
 (.br (eq_ xd1k24_ (.lit (-1)))
 (.need xd1k18_
 (.need xd1k18_
 (.need xd1k10_
 (.need xd1k12_
 (.need xd1k18_
 (.need (an_ (le_ lm_ v5_) (le_ v5_ lM_))
 (.need xd1k12_
 (.need xd1k9_
 (.ret (.bool (.tt true)))))))))))
 (.ret (.bool (.tt false))))))))))))))))))
abbrev wbc_wS11 : Con := ⟨3, [xd1k21_, xd1k20_, xd1k23_], (an_ (an_ (an_ (an_ xd1k2_ (.not (eq_ xd1k22_ (.lit 0)))) (eq_ xd1k22_ (.lit 2))) (.not (eq_ (sb_ xd1k0_ xd1k7_) (.lit 0)))) (.bapp 0 (.cons (.int .i64 (sb_ xd1k0_ xd1k7_)) .nil))), (.bool (.tt true)), ⟨6, 0, 0, 0⟩, none⟩
theorem wS11_w : walkQ Tryd.prog 142 ⟨[wac_bfrom, wac_wadd, wac_wneg, wac_wint, wbc_baddN, wbc_baddM, wbc_btoN, wbc_btoF, wbc_btoT, wbc_bzeroN, wbc_bnumN, wac_num, wbc_lisO, wbc_lis2, wbc_lis3, wbc_lis4, wac_wcmp, wac_wof, wbc_bintO, wac_wmul, wbc_bmulO, wbc_sure], syG, [], [], []⟩ [] .v wbc_wS11 wbc_wS11.n 3000 (pcOf wbc_wS11.cnd) = some wS11_tree := by kernel_rfl
set_option maxHeartbeats 2000000 in
theorem wS11_h (xh xl yh yl o0 o1 : Int) : Hyp_ wbc_wS11 wS11_tree (wbE [xh, xl, yh, yl, o0, o1] [] [] []) := by
 intro hc hty
 simp only [wbc_wS11, Sy.holds, wbE, denV, denI, denB, denL, I2.den, VOp.den, List.getD_cons_zero, List.getD_cons_succ, Cst.den, syso, syse, syio, sybo, wbi_wv, wbi_wh, wbi_wl, wbi_rg, wbi_r6, wbi_gd, wbb_ng, B2.ofInts, B2.denI, B2.denB, if_true, Bool.false_eq_true, if_false, Nat.div_one, Nat.mul_one, Nat.add_zero] at hc
 simp only [wbc_wS11, patsTyp, patTyp, patTypL, wbE, denV, denL, List.getD_cons_zero, List.getD_cons_succ, and_true, true_and] at hty
 unfold wS11_tree
 simp only [wbc_wS11, Tree.holds, Sy.holds, wbE, denV, denI, denB, denL, I2.den, VOp.den, List.getD_cons_zero, List.getD_cons_succ, Cst.den, syso, syse, syio, sybo, wbi_wv, wbi_wh, wbi_wl, wbi_rg, wbi_gd, wbi_cp, B2.ofInts, B2.denI, B2.denB, if_true, Bool.false_eq_true, if_false, Nat.div_one, Nat.mul_one, Nat.add_zero]
 have hl := hc.1.1.1.1.1.1.1.1.1
 have ra := rg_spec (wvI xh xl + wvI yh yl)
 have rb := rg_spec (0 - wvI xh xl)
 have rc := r6_spec (wvI xh xl)
 have rd := cp_spec (wvI xh xl - wvI yh yl)
 have re := rg_spec (o0 * o1)
 have rf := rg_spec o0
 have x0 : wvI xh xl = xh * 18446744073709551616 + xl := rfl
 have y0 : wvI yh yl = yh * 18446744073709551616 + yl := rfl
 have hm := mul_rng (a := o0) (b := o1) hl.2.2.2.2.1 hl.2.2.2.2.2
 generalize wvI xh xl = X at *
 generalize wvI yh yl = Y at *
 generalize o0 * o1 = M at *
 refine ⟨?a0, fun h0 => ?_⟩; rotate_left
 refine ⟨?a1, fun h1 => ?_⟩; rotate_left
 refine ⟨?a2, fun h2 => ?_⟩; rotate_left
 refine ⟨?a3, fun h3 => ?_⟩; rotate_left
 refine ⟨?a4, fun h4 => ?_⟩; rotate_left
 refine ⟨?a5, fun h5 => ?_⟩; rotate_left
 refine ⟨?a6, fun h6 => ?_⟩; rotate_left
 refine ⟨?a7, fun h7 => ?_⟩; rotate_left
 refine ⟨?a8, fun h8 => ?_⟩; rotate_left
 refine ⟨?a9, fun h9 => ?_⟩; rotate_left
 refine ⟨fun h10 => ?_, fun h10 => ?_⟩
 refine ?a10; rotate_left
 refine ⟨?a11, fun h11 => ?_⟩; rotate_left
 refine ⟨?a12, fun h12 => ?_⟩; rotate_left
 refine ⟨?a13, fun h13 => ?_⟩; rotate_left
 refine ⟨fun h14 => ?_, fun h14 => ?_⟩
 refine ⟨?a14, fun h15 => ?_⟩; rotate_left
 refine ⟨?a15, fun h16 => ?_⟩; rotate_left
 refine ⟨?a16, fun h17 => ?_⟩; rotate_left
 refine ⟨?a17, fun h18 => ?_⟩; rotate_left
 refine ⟨?a18, fun h19 => ?_⟩; rotate_left
 refine ⟨?a19, fun h20 => ?_⟩; rotate_left
 refine ⟨?a20, fun h21 => ?_⟩; rotate_left
 refine ⟨?a21, fun h22 => ?_⟩; rotate_left
 refine ?a22; rotate_left
 refine ?a23; rotate_left
 case a0 | a1 | a2 | a3 | a4 | a5 | a6 | a7 | a8 | a9 | a11 | a12 | a13 | a14 | a15 | a16 | a17 | a18 | a19 | a20 | a21 =>
  as_aux_lemma =>
    first
    | exact True.intro
    | omega
    | (simp only [decide_eq_true_eq] at *; omega)
    | skip
 case a10 | a22 | a23 =>
  as_aux_lemma =>
    first
    | exact True.intro
    | rfl
    | (simp only [decide_eq_true_eq] at *; exfalso; omega)
    | (exfalso; omega)
    | (exfalso
       have g1 : gdF (rgE (0 - X)) ((0 - X) / 18446744073709551616) = 0 := gd_n (by omega) _
       have g2 : gdF (rgE (0 - X)) ((0 - X) % 18446744073709551616) = 0 := gd_n (by omega) _
       omega)
    | (exfalso
       have g1 : gdF (rgE (X + Y)) ((X + Y) / 18446744073709551616) = 0 := gd_n (by omega) _
       have g2 : gdF (rgE (X + Y)) ((X + Y) % 18446744073709551616) = 0 := gd_n (by omega) _
       omega)
    | (exfalso
       have g1 : gdF (r6E X) X = 0 := gd_n (by omega) _
       omega)
    | skip
theorem wbg_wS11 : wbc_wS11.Good Tryd.prog syG (wbE [] [] [] []) := good_of_walkC (Γ := ⟨[wac_bfrom, wac_wadd, wac_wneg, wac_wint, wbc_baddN, wbc_baddM, wbc_btoN, wbc_btoF, wbc_btoT, wbc_bzeroN, wbc_bnumN, wac_num, wbc_lisO, wbc_lis2, wbc_lis3, wbc_lis4, wac_wcmp, wac_wof, wbc_bintO, wac_wmul, wbc_bmulO, wbc_sure], syG, [], [], []⟩) (ρ := wbE [] [] [] []) sym wS11_w rfl (fun _ _ _ _ => (ok_cons (Con.Good.env (Con.Good.up wag_bfrom wbup rfl) _ _ _ _) (ok_cons (Con.Good.env (Con.Good.up wag_wadd wbup rfl) _ _ _ _) (ok_cons (Con.Good.env (Con.Good.up wag_wneg wbup rfl) _ _ _ _) (ok_cons (Con.Good.env (Con.Good.up wag_wint wbup rfl) _ _ _ _) (ok_cons (Con.Good.env wbg_baddN _ _ _ _) (ok_cons (Con.Good.env wbg_baddM _ _ _ _) (ok_cons (Con.Good.env wbg_btoN _ _ _ _) (ok_cons (Con.Good.env wbg_btoF _ _ _ _) (ok_cons (Con.Good.env wbg_btoT _ _ _ _) (ok_cons (Con.Good.env wbg_bzeroN _ _ _ _) (ok_cons (Con.Good.env wbg_bnumN _ _ _ _) (ok_cons (Con.Good.env (Con.Good.up wag_num wbup rfl) _ _ _ _) (ok_cons (Con.Good.env wbg_lisO _ _ _ _) (ok_cons (Con.Good.env wbg_lis2 _ _ _ _) (ok_cons (Con.Good.env wbg_lis3 _ _ _ _) (ok_cons (Con.Good.env wbg_lis4 _ _ _ _) (ok_cons (Con.Good.env (Con.Good.up wag_wcmp wbup rfl) _ _ _ _) (ok_cons (Con.Good.env (Con.Good.up wag_wof wbup rfl) _ _ _ _) (ok_cons (Con.Good.env wbg_bintO _ _ _ _) (ok_cons (Con.Good.env (Con.Good.up wag_wmul wbup rfl) _ _ _ _) (ok_cons (Con.Good.env wbg_bmulO _ _ _ _) (ok_cons (Con.Good.env wbg_sure _ _ _ _) ok_nil))))))))))))))))))))))) wS11_h
def wS12_tree : Tree :=
 (.need xd1k5_
 (.need xd1k15_
 (.need xd1k4_
 (.need xd1k5_
 (.need xd1k5_
 (.need xd1k1_
 (.need xd1k3_
 (.need (an_ xd1k8_ (le_ xd1k0_ (.lit 0)))
 (.need xd1k16_
 (.need (an_ xd1k17_ xd1k3_)
 (.br xd1k6_
 (.ret (.bool (.tt false)))
 (.need xd1k1_
 (.need xd1k13_
 (.need xd1k4_
 (.br (eq_ xd1k24_ (.lit 1))
 (.need xd1k18_
 (.need xd1k18_
 (.need xd1k10_
 (.need xd1k12_
 (.need xd1k18_
 (.need (an_ (le_ lm_ v5_) (le_ v5_ lM_))
 (.need xd1k12_
 (.need xd1k9_
 (.ret (.bool (.tt true)))))))))))
 (.ret (.bool (.tt false))))))))))))))))))
abbrev wbc_wS12 : Con := ⟨3, [xd1k21_, xd1k20_, xd1k23_], (an_ (an_ (an_ (an_ xd1k2_ (.not (eq_ xd1k22_ (.lit 0)))) (eq_ xd1k22_ (.lit 2))) (.not (eq_ (sb_ xd1k0_ xd1k7_) (.lit 0)))) (.not (.bapp 0 (.cons (.int .i64 (sb_ xd1k0_ xd1k7_)) .nil)))), (.bool (.tt true)), ⟨6, 0, 0, 0⟩, none⟩
theorem wS12_w : walkQ Tryd.prog 142 ⟨[wac_bfrom, wac_wadd, wac_wneg, wac_wint, wbc_baddN, wbc_baddM, wbc_btoN, wbc_btoF, wbc_btoT, wbc_bzeroN, wbc_bnumN, wac_num, wbc_lisO, wbc_lis2, wbc_lis3, wbc_lis4, wac_wcmp, wac_wof, wbc_bintO, wac_wmul, wbc_bmulO, wbc_sure], syG, [], [], []⟩ [] .v wbc_wS12 wbc_wS12.n 3000 (pcOf wbc_wS12.cnd) = some wS12_tree := by kernel_rfl
set_option maxHeartbeats 2000000 in
theorem wS12_h (xh xl yh yl o0 o1 : Int) : Hyp_ wbc_wS12 wS12_tree (wbE [xh, xl, yh, yl, o0, o1] [] [] []) := by
 intro hc hty
 simp only [wbc_wS12, Sy.holds, wbE, denV, denI, denB, denL, I2.den, VOp.den, List.getD_cons_zero, List.getD_cons_succ, Cst.den, syso, syse, syio, sybo, wbi_wv, wbi_wh, wbi_wl, wbi_rg, wbi_r6, wbi_gd, wbb_ng, B2.ofInts, B2.denI, B2.denB, if_true, Bool.false_eq_true, if_false, Nat.div_one, Nat.mul_one, Nat.add_zero] at hc
 simp only [wbc_wS12, patsTyp, patTyp, patTypL, wbE, denV, denL, List.getD_cons_zero, List.getD_cons_succ, and_true, true_and] at hty
 unfold wS12_tree
 simp only [wbc_wS12, Tree.holds, Sy.holds, wbE, denV, denI, denB, denL, I2.den, VOp.den, List.getD_cons_zero, List.getD_cons_succ, Cst.den, syso, syse, syio, sybo, wbi_wv, wbi_wh, wbi_wl, wbi_rg, wbi_gd, wbi_cp, B2.ofInts, B2.denI, B2.denB, if_true, Bool.false_eq_true, if_false, Nat.div_one, Nat.mul_one, Nat.add_zero]
 have hl := hc.1.1.1.1.1.1.1.1.1
 have ra := rg_spec (wvI xh xl + wvI yh yl)
 have rb := rg_spec (0 - wvI xh xl)
 have rc := r6_spec (wvI xh xl)
 have rd := cp_spec (wvI xh xl - wvI yh yl)
 have re := rg_spec (o0 * o1)
 have rf := rg_spec o0
 have x0 : wvI xh xl = xh * 18446744073709551616 + xl := rfl
 have y0 : wvI yh yl = yh * 18446744073709551616 + yl := rfl
 have hm := mul_rng (a := o0) (b := o1) hl.2.2.2.2.1 hl.2.2.2.2.2
 generalize wvI xh xl = X at *
 generalize wvI yh yl = Y at *
 generalize o0 * o1 = M at *
 refine ⟨?a0, fun h0 => ?_⟩; rotate_left
 refine ⟨?a1, fun h1 => ?_⟩; rotate_left
 refine ⟨?a2, fun h2 => ?_⟩; rotate_left
 refine ⟨?a3, fun h3 => ?_⟩; rotate_left
 refine ⟨?a4, fun h4 => ?_⟩; rotate_left
 refine ⟨?a5, fun h5 => ?_⟩; rotate_left
 refine ⟨?a6, fun h6 => ?_⟩; rotate_left
 refine ⟨?a7, fun h7 => ?_⟩; rotate_left
 refine ⟨?a8, fun h8 => ?_⟩; rotate_left
 refine ⟨?a9, fun h9 => ?_⟩; rotate_left
 refine ⟨fun h10 => ?_, fun h10 => ?_⟩
 refine ?a10; rotate_left
 refine ⟨?a11, fun h11 => ?_⟩; rotate_left
 refine ⟨?a12, fun h12 => ?_⟩; rotate_left
 refine ⟨?a13, fun h13 => ?_⟩; rotate_left
 refine ⟨fun h14 => ?_, fun h14 => ?_⟩
 refine ⟨?a14, fun h15 => ?_⟩; rotate_left
 refine ⟨?a15, fun h16 => ?_⟩; rotate_left
 refine ⟨?a16, fun h17 => ?_⟩; rotate_left
 refine ⟨?a17, fun h18 => ?_⟩; rotate_left
 refine ⟨?a18, fun h19 => ?_⟩; rotate_left
 refine ⟨?a19, fun h20 => ?_⟩; rotate_left
 refine ⟨?a20, fun h21 => ?_⟩; rotate_left
 refine ⟨?a21, fun h22 => ?_⟩; rotate_left
 refine ?a22; rotate_left
 refine ?a23; rotate_left
 case a0 | a1 | a2 | a3 | a4 | a5 | a6 | a7 | a8 | a9 | a11 | a12 | a13 | a14 | a15 | a16 | a17 | a18 | a19 | a20 | a21 =>
  as_aux_lemma =>
    first
    | exact True.intro
    | omega
    | (simp only [decide_eq_true_eq] at *; omega)
    | skip
 case a10 | a22 | a23 =>
  as_aux_lemma =>
    first
    | exact True.intro
    | rfl
    | (simp only [decide_eq_true_eq] at *; exfalso; omega)
    | (exfalso; omega)
    | (exfalso
       have g1 : gdF (rgE (0 - X)) ((0 - X) / 18446744073709551616) = 0 := gd_n (by omega) _
       have g2 : gdF (rgE (0 - X)) ((0 - X) % 18446744073709551616) = 0 := gd_n (by omega) _
       omega)
    | (exfalso
       have g1 : gdF (rgE (X + Y)) ((X + Y) / 18446744073709551616) = 0 := gd_n (by omega) _
       have g2 : gdF (rgE (X + Y)) ((X + Y) % 18446744073709551616) = 0 := gd_n (by omega) _
       omega)
    | (exfalso
       have g1 : gdF (r6E X) X = 0 := gd_n (by omega) _
       omega)
    | skip
theorem wbg_wS12 : wbc_wS12.Good Tryd.prog syG (wbE [] [] [] []) := good_of_walkC (Γ := ⟨[wac_bfrom, wac_wadd, wac_wneg, wac_wint, wbc_baddN, wbc_baddM, wbc_btoN, wbc_btoF, wbc_btoT, wbc_bzeroN, wbc_bnumN, wac_num, wbc_lisO, wbc_lis2, wbc_lis3, wbc_lis4, wac_wcmp, wac_wof, wbc_bintO, wac_wmul, wbc_bmulO, wbc_sure], syG, [], [], []⟩) (ρ := wbE [] [] [] []) sym wS12_w rfl (fun _ _ _ _ => (ok_cons (Con.Good.env (Con.Good.up wag_bfrom wbup rfl) _ _ _ _) (ok_cons (Con.Good.env (Con.Good.up wag_wadd wbup rfl) _ _ _ _) (ok_cons (Con.Good.env (Con.Good.up wag_wneg wbup rfl) _ _ _ _) (ok_cons (Con.Good.env (Con.Good.up wag_wint wbup rfl) _ _ _ _) (ok_cons (Con.Good.env wbg_baddN _ _ _ _) (ok_cons (Con.Good.env wbg_baddM _ _ _ _) (ok_cons (Con.Good.env wbg_btoN _ _ _ _) (ok_cons (Con.Good.env wbg_btoF _ _ _ _) (ok_cons (Con.Good.env wbg_btoT _ _ _ _) (ok_cons (Con.Good.env wbg_bzeroN _ _ _ _) (ok_cons (Con.Good.env wbg_bnumN _ _ _ _) (ok_cons (Con.Good.env (Con.Good.up wag_num wbup rfl) _ _ _ _) (ok_cons (Con.Good.env wbg_lisO _ _ _ _) (ok_cons (Con.Good.env wbg_lis2 _ _ _ _) (ok_cons (Con.Good.env wbg_lis3 _ _ _ _) (ok_cons (Con.Good.env wbg_lis4 _ _ _ _) (ok_cons (Con.Good.env (Con.Good.up wag_wcmp wbup rfl) _ _ _ _) (ok_cons (Con.Good.env (Con.Good.up wag_wof wbup rfl) _ _ _ _) (ok_cons (Con.Good.env wbg_bintO _ _ _ _) (ok_cons (Con.Good.env (Con.Good.up wag_wmul wbup rfl) _ _ _ _) (ok_cons (Con.Good.env wbg_bmulO _ _ _ _) (ok_cons (Con.Good.env wbg_sure _ _ _ _) ok_nil))))))))))))))))))))))) wS12_h
def wS13_tree : Tree :=
 (.need xd1k5_
 (.need xd1k15_
 (.need xd1k4_
 (.need xd1k5_
 (.need xd1k5_
 (.need xd1k1_
 (.need xd1k3_
 (.need (an_ xd1k8_ (le_ xd1k0_ (.lit 0)))
 (.need xd1k16_
 (.need (an_ xd1k17_ xd1k3_)
 (.br xd1k6_
 (.ret (.bool (.tt false)))
 (.ret (.bool (.tt false))))))))))))))
abbrev wbc_wS13 : Con := ⟨3, [xd1k21_, xd1k20_, xd1k23_], (an_ (an_ xd1k2_ (.not (eq_ xd1k22_ (.lit 0)))) (.not (eq_ xd1k22_ (.lit 2)))), (.bool (.tt true)), ⟨6, 0, 0, 0⟩, none⟩
theorem wS13_w : walkQ Tryd.prog 142 ⟨[wac_bfrom, wac_wadd, wac_wneg, wac_wint, wbc_baddN, wbc_baddM, wbc_btoN, wbc_btoF, wbc_btoT, wbc_bzeroN, wbc_bnumN, wac_num, wbc_lisO, wbc_lis2, wbc_lis3, wbc_lis4, wac_wcmp, wac_wof, wbc_bintO, wac_wmul, wbc_bmulO, wbc_sure], syG, [], [], []⟩ [] .v wbc_wS13 wbc_wS13.n 3000 (pcOf wbc_wS13.cnd) = some wS13_tree := by kernel_rfl
set_option maxHeartbeats 2000000 in
theorem wS13_h (xh xl yh yl o0 o1 : Int) : Hyp_ wbc_wS13 wS13_tree (wbE [xh, xl, yh, yl, o0, o1] [] [] []) := by
 intro hc hty
 simp only [wbc_wS13, Sy.holds, wbE, denV, denI, denB, denL, I2.den, VOp.den, List.getD_cons_zero, List.getD_cons_succ, Cst.den, syso, syse, syio, sybo, wbi_wv, wbi_wh, wbi_wl, wbi_rg, wbi_r6, wbi_gd, wbb_ng, B2.ofInts, B2.denI, B2.denB, if_true, Bool.false_eq_true, if_false, Nat.div_one, Nat.mul_one, Nat.add_zero] at hc
 simp only [wbc_wS13, patsTyp, patTyp, patTypL, wbE, denV, denL, List.getD_cons_zero, List.getD_cons_succ, and_true, true_and] at hty
 unfold wS13_tree
 simp only [wbc_wS13, Tree.holds, Sy.holds, wbE, denV, denI, denB, denL, I2.den, VOp.den, List.getD_cons_zero, List.getD_cons_succ, Cst.den, syso, syse, syio, sybo, wbi_wv, wbi_wh, wbi_wl, wbi_rg, wbi_gd, B2.ofInts, B2.denI, B2.denB, if_true, Bool.false_eq_true, if_false, Nat.div_one, Nat.mul_one, Nat.add_zero]
 have hl := hc.1.1.1.1.1.1.1
 have ra := rg_spec (wvI xh xl + wvI yh yl)
 have rb := rg_spec (0 - wvI xh xl)
 have rc := r6_spec (wvI xh xl)
 have rd := cp_spec (wvI xh xl - wvI yh yl)
 have re := rg_spec (o0 * o1)
 have rf := rg_spec o0
 have x0 : wvI xh xl = xh * 18446744073709551616 + xl := rfl
 have y0 : wvI yh yl = yh * 18446744073709551616 + yl := rfl
 have hm := mul_rng (a := o0) (b := o1) hl.2.2.2.2.1 hl.2.2.2.2.2
 generalize wvI xh xl = X at *
 generalize wvI yh yl = Y at *
 generalize o0 * o1 = M at *
 refine ⟨?a0, fun h0 => ?_⟩; rotate_left
 refine ⟨?a1, fun h1 => ?_⟩; rotate_left
 refine ⟨?a2, fun h2 => ?_⟩; rotate_left
 refine ⟨?a3, fun h3 => ?_⟩; rotate_left
 refine ⟨?a4, fun h4 => ?_⟩; rotate_left
 refine ⟨?a5, fun h5 => ?_⟩; rotate_left
 refine ⟨?a6, fun h6 => ?_⟩; rotate_left
 refine ⟨?a7, fun h7 => ?_⟩; rotate_left
 refine ⟨?a8, fun h8 => ?_⟩; rotate_left
 refine ⟨?a9, fun h9 => ?_⟩; rotate_left
 refine ⟨fun h10 => ?_, fun h10 => ?_⟩
 refine ?a10; rotate_left
 refine ?a11; rotate_left
 case a0 | a1 | a2 | a3 | a4 | a5 | a6 | a7 | a8 | a9 =>
  as_aux_lemma =>
    first
    | exact True.intro
    | omega
    | (simp only [decide_eq_true_eq] at *; omega)
    | skip
 case a10 | a11 =>
  as_aux_lemma =>
    first
    | exact True.intro
    | rfl
    | (simp only [decide_eq_true_eq] at *; exfalso; omega)
    | (exfalso; omega)
    | (exfalso
       have g1 : gdF (rgE (0 - X)) ((0 - X) / 18446744073709551616) = 0 := gd_n (by omega) _
       have g2 : gdF (rgE (0 - X)) ((0 - X) % 18446744073709551616) = 0 := gd_n (by omega) _
       omega)
    | (exfalso
       have g1 : gdF (rgE (X + Y)) ((X + Y) / 18446744073709551616) = 0 := gd_n (by omega) _
       have g2 : gdF (rgE (X + Y)) ((X + Y) % 18446744073709551616) = 0 := gd_n (by omega) _
       omega)
    | (exfalso
       have g1 : gdF (r6E X) X = 0 := gd_n (by omega) _
       omega)
    | skip
theorem wbg_wS13 : wbc_wS13.Good Tryd.prog syG (wbE [] [] [] []) := good_of_walkC (Γ := ⟨[wac_bfrom, wac_wadd, wac_wneg, wac_wint, wbc_baddN, wbc_baddM, wbc_btoN, wbc_btoF, wbc_btoT, wbc_bzeroN, wbc_bnumN, wac_num, wbc_lisO, wbc_lis2, wbc_lis3, wbc_lis4, wac_wcmp, wac_wof, wbc_bintO, wac_wmul, wbc_bmulO, wbc_sure], syG, [], [], []⟩) (ρ := wbE [] [] [] []) sym wS13_w rfl (fun _ _ _ _ => (ok_cons (Con.Good.env (Con.Good.up wag_bfrom wbup rfl) _ _ _ _) (ok_cons (Con.Good.env (Con.Good.up wag_wadd wbup rfl) _ _ _ _) (ok_cons (Con.Good.env (Con.Good.up wag_wneg wbup rfl) _ _ _ _) (ok_cons (Con.Good.env (Con.Good.up wag_wint wbup rfl) _ _ _ _) (ok_cons (Con.Good.env wbg_baddN _ _ _ _) (ok_cons (Con.Good.env wbg_baddM _ _ _ _) (ok_cons (Con.Good.env wbg_btoN _ _ _ _) (ok_cons (Con.Good.env wbg_btoF _ _ _ _) (ok_cons (Con.Good.env wbg_btoT _ _ _ _) (ok_cons (Con.Good.env wbg_bzeroN _ _ _ _) (ok_cons (Con.Good.env wbg_bnumN _ _ _ _) (ok_cons (Con.Good.env (Con.Good.up wag_num wbup rfl) _ _ _ _) (ok_cons (Con.Good.env wbg_lisO _ _ _ _) (ok_cons (Con.Good.env wbg_lis2 _ _ _ _) (ok_cons (Con.Good.env wbg_lis3 _ _ _ _) (ok_cons (Con.Good.env wbg_lis4 _ _ _ _) (ok_cons (Con.Good.env (Con.Good.up wag_wcmp wbup rfl) _ _ _ _) (ok_cons (Con.Good.env (Con.Good.up wag_wof wbup rfl) _ _ _ _) (ok_cons (Con.Good.env wbg_bintO _ _ _ _) (ok_cons (Con.Good.env (Con.Good.up wag_wmul wbup rfl) _ _ _ _) (ok_cons (Con.Good.env wbg_bmulO _ _ _ _) (ok_cons (Con.Good.env wbg_sure _ _ _ _) ok_nil))))))))))))))))))))))) wS13_h
def wS14_tree : Tree :=
 (.need xd1k5_
 (.need xd1k15_
 (.need xd1k4_
 (.need xd1k5_
 (.need xd1k5_
 (.need xd1k1_
 (.need xd1k3_
 (.need (an_ xd1k8_ (le_ xd1k0_ (.lit 0)))
 (.need xd1k16_
 (.need (an_ xd1k17_ xd1k3_)
 (.ret (.bool (.tt false)))))))))))))
abbrev wbc_wS14 : Con := ⟨3, [xd1k21_, xd1k20_, xd1k23_], (an_ (an_ (an_ (an_ xd1k14_ xd1k17_) (.not (eq_ xd1k19_ (.lit 0)))) (eq_ xd1k19_ (.lit 2))) xd1k6_), (.bool (.tt true)), ⟨6, 0, 0, 0⟩, none⟩
theorem wS14_w : walkQ Tryd.prog 142 ⟨[wac_bfrom, wac_wadd, wac_wneg, wac_wint, wbc_baddN, wbc_baddM, wbc_btoN, wbc_btoF, wbc_btoT, wbc_bzeroN, wbc_bnumN, wac_num, wbc_lisO, wbc_lis2, wbc_lis3, wbc_lis4, wac_wcmp, wac_wof, wbc_bintO, wac_wmul, wbc_bmulO, wbc_sure], syG, [], [], []⟩ [] .v wbc_wS14 wbc_wS14.n 3000 (pcOf wbc_wS14.cnd) = some wS14_tree := by kernel_rfl
set_option maxHeartbeats 2000000 in
theorem wS14_h (xh xl yh yl o0 o1 : Int) : Hyp_ wbc_wS14 wS14_tree (wbE [xh, xl, yh, yl, o0, o1] [] [] []) := by
 intro hc hty
 simp only [wbc_wS14, Sy.holds, wbE, denV, denI, denB, denL, I2.den, VOp.den, List.getD_cons_zero, List.getD_cons_succ, Cst.den, syso, syse, syio, sybo, wbi_wv, wbi_wh, wbi_wl, wbi_rg, wbi_gd, wbb_ng, B2.ofInts, B2.denI, B2.denB, if_true, Bool.false_eq_true, if_false, Nat.div_one, Nat.mul_one, Nat.add_zero] at hc
 simp only [wbc_wS14, patsTyp, patTyp, patTypL, wbE, denV, denL, List.getD_cons_zero, List.getD_cons_succ, and_true, true_and] at hty
 unfold wS14_tree
 simp only [wbc_wS14, Tree.holds, Sy.holds, wbE, denV, denI, denB, denL, I2.den, VOp.den, List.getD_cons_zero, List.getD_cons_succ, Cst.den, syso, syse, syio, sybo, wbi_wv, wbi_rg, B2.ofInts, B2.denI, B2.denB, if_true, Bool.false_eq_true, if_false, Nat.div_one, Nat.mul_one, Nat.add_zero]
 have hl := hc.1.1.1.1.1
 have ra := rg_spec (wvI xh xl + wvI yh yl)
 have rb := rg_spec (0 - wvI xh xl)
 have rc := r6_spec (wvI xh xl)
 have rd := cp_spec (wvI xh xl - wvI yh yl)
 have re := rg_spec (o0 * o1)
 have rf := rg_spec o0
 have x0 : wvI xh xl = xh * 18446744073709551616 + xl := rfl
 have y0 : wvI yh yl = yh * 18446744073709551616 + yl := rfl
 have hm := mul_rng (a := o0) (b := o1) hl.2.2.2.2.1 hl.2.2.2.2.2
 generalize wvI xh xl = X at *
 generalize wvI yh yl = Y at *
 generalize o0 * o1 = M at *
 refine ⟨?a0, fun h0 => ?_⟩; rotate_left
 refine ⟨?a1, fun h1 => ?_⟩; rotate_left
 refine ⟨?a2, fun h2 => ?_⟩; rotate_left
 refine ⟨?a3, fun h3 => ?_⟩; rotate_left
 refine ⟨?a4, fun h4 => ?_⟩; rotate_left
 refine ⟨?a5, fun h5 => ?_⟩; rotate_left
 refine ⟨?a6, fun h6 => ?_⟩; rotate_left
 refine ⟨?a7, fun h7 => ?_⟩; rotate_left
 refine ⟨?a8, fun h8 => ?_⟩; rotate_left
 refine ⟨?a9, fun h9 => ?_⟩; rotate_left
 ·
  as_aux_lemma =>
    first
    | exact True.intro
    | rfl
    | (simp only [decide_eq_true_eq] at *; exfalso; omega)
    | (exfalso; omega)
    | (exfalso
       have g1 : gdF (rgE (0 - X)) ((0 - X) / 18446744073709551616) = 0 := gd_n (by omega) _
       have g2 : gdF (rgE (0 - X)) ((0 - X) % 18446744073709551616) = 0 := gd_n (by omega) _
       omega)
    | (exfalso
       have g1 : gdF (rgE (X + Y)) ((X + Y) / 18446744073709551616) = 0 := gd_n (by omega) _
       have g2 : gdF (rgE (X + Y)) ((X + Y) % 18446744073709551616) = 0 := gd_n (by omega) _
       omega)
    | (exfalso
       have g1 : gdF (r6E X) X = 0 := gd_n (by omega) _
       omega)
    | skip
 case a0 | a1 | a2 | a3 | a4 | a5 | a6 | a7 | a8 | a9 =>
  as_aux_lemma =>
    first
    | exact True.intro
    | omega
    | (simp only [decide_eq_true_eq] at *; omega)
    | skip
theorem wbg_wS14 : wbc_wS14.Good Tryd.prog syG (wbE [] [] [] []) := good_of_walkC (Γ := ⟨[wac_bfrom, wac_wadd, wac_wneg, wac_wint, wbc_baddN, wbc_baddM, wbc_btoN, wbc_btoF, wbc_btoT, wbc_bzeroN, wbc_bnumN, wac_num, wbc_lisO, wbc_lis2, wbc_lis3, wbc_lis4, wac_wcmp, wac_wof, wbc_bintO, wac_wmul, wbc_bmulO, wbc_sure], syG, [], [], []⟩) (ρ := wbE [] [] [] []) sym wS14_w rfl (fun _ _ _ _ => (ok_cons (Con.Good.env (Con.Good.up wag_bfrom wbup rfl) _ _ _ _) (ok_cons (Con.Good.env (Con.Good.up wag_wadd wbup rfl) _ _ _ _) (ok_cons (Con.Good.env (Con.Good.up wag_wneg wbup rfl) _ _ _ _) (ok_cons (Con.Good.env (Con.Good.up wag_wint wbup rfl) _ _ _ _) (ok_cons (Con.Good.env wbg_baddN _ _ _ _) (ok_cons (Con.Good.env wbg_baddM _ _ _ _) (ok_cons (Con.Good.env wbg_btoN _ _ _ _) (ok_cons (Con.Good.env wbg_btoF _ _ _ _) (ok_cons (Con.Good.env wbg_btoT _ _ _ _) (ok_cons (Con.Good.env wbg_bzeroN _ _ _ _) (ok_cons (Con.Good.env wbg_bnumN _ _ _ _) (ok_cons (Con.Good.env (Con.Good.up wag_num wbup rfl) _ _ _ _) (ok_cons (Con.Good.env wbg_lisO _ _ _ _) (ok_cons (Con.Good.env wbg_lis2 _ _ _ _) (ok_cons (Con.Good.env wbg_lis3 _ _ _ _) (ok_cons (Con.Good.env wbg_lis4 _ _ _ _) (ok_cons (Con.Good.env (Con.Good.up wag_wcmp wbup rfl) _ _ _ _) (ok_cons (Con.Good.env (Con.Good.up wag_wof wbup rfl) _ _ _ _) (ok_cons (Con.Good.env wbg_bintO _ _ _ _) (ok_cons (Con.Good.env (Con.Good.up wag_wmul wbup rfl) _ _ _ _) (ok_cons (Con.Good.env wbg_bmulO _ _ _ _) (ok_cons (Con.Good.env wbg_sure _ _ _ _) ok_nil))))))))))))))))))))))) wS14_h
def wS15_tree : Tree :=
 (.need xd1k5_
 (.need xd1k15_
 (.need xd1k4_
 (.need xd1k5_
 (.need xd1k5_
 (.need xd1k1_
 (.need xd1k3_
 (.need (an_ xd1k8_ (le_ xd1k0_ (.lit 0)))
 (.need xd1k16_
 (.need (an_ xd1k17_ xd1k3_)
 (.ret (.bool (.tt false)))))))))))))
abbrev wbc_wS15 : Con := ⟨3, [xd1k21_, xd1k20_, xd1k23_], (an_ (an_ (an_ xd1k14_ xd1k17_) (.not (eq_ xd1k19_ (.lit 0)))) (.not (eq_ xd1k19_ (.lit 2)))), (.bool (.tt true)), ⟨6, 0, 0, 0⟩, none⟩
theorem wS15_w : walkQ Tryd.prog 142 ⟨[wac_bfrom, wac_wadd, wac_wneg, wac_wint, wbc_baddN, wbc_baddM, wbc_btoN, wbc_btoF, wbc_btoT, wbc_bzeroN, wbc_bnumN, wac_num, wbc_lisO, wbc_lis2, wbc_lis3, wbc_lis4, wac_wcmp, wac_wof, wbc_bintO, wac_wmul, wbc_bmulO, wbc_sure], syG, [], [], []⟩ [] .v wbc_wS15 wbc_wS15.n 3000 (pcOf wbc_wS15.cnd) = some wS15_tree := by kernel_rfl
set_option maxHeartbeats 2000000 in
theorem wS15_h (xh xl yh yl o0 o1 : Int) : Hyp_ wbc_wS15 wS15_tree (wbE [xh, xl, yh, yl, o0, o1] [] [] []) := by
 intro hc hty
 simp only [wbc_wS15, Sy.holds, wbE, denV, denI, denB, denL, I2.den, VOp.den, List.getD_cons_zero, List.getD_cons_succ, Cst.den, syso, syse, syio, sybo, wbi_wv, wbi_rg, wbb_ng, B2.ofInts, B2.denI, B2.denB, if_true, Bool.false_eq_true, if_false, Nat.div_one, Nat.mul_one, Nat.add_zero] at hc
 simp only [wbc_wS15, patsTyp, patTyp, patTypL, wbE, denV, denL, List.getD_cons_zero, List.getD_cons_succ, and_true, true_and] at hty
 unfold wS15_tree
 simp only [wbc_wS15, Tree.holds, Sy.holds, wbE, denV, denI, denB, denL, I2.den, VOp.den, List.getD_cons_zero, List.getD_cons_succ, Cst.den, syso, syse, syio, sybo, wbi_wv, wbi_rg, B2.ofInts, B2.denI, B2.denB, if_true, Bool.false_eq_true, if_false, Nat.div_one, Nat.mul_one, Nat.add_zero]
 have hl := hc.1.1.1.1
 have ra := rg_spec (wvI xh xl + wvI yh yl)
 have rb := rg_spec (0 - wvI xh xl)
 have rc := r6_spec (wvI xh xl)
 have rd := cp_spec (wvI xh xl - wvI yh yl)
 have re := rg_spec (o0 * o1)
 have rf := rg_spec o0
 have x0 : wvI xh xl = xh * 18446744073709551616 + xl := rfl
 have y0 : wvI yh yl = yh * 18446744073709551616 + yl := rfl
 have hm := mul_rng (a := o0) (b := o1) hl.2.2.2.2.1 hl.2.2.2.2.2
 generalize wvI xh xl = X at *
 generalize wvI yh yl = Y at *
 generalize o0 * o1 = M at *
 refine ⟨?a0, fun h0 => ?_⟩; rotate_left
 refine ⟨?a1, fun h1 => ?_⟩; rotate_left
 refine ⟨?a2, fun h2 => ?_⟩; rotate_left
 refine ⟨?a3, fun h3 => ?_⟩; rotate_left
 refine ⟨?a4, fun h4 => ?_⟩; rotate_left
 refine ⟨?a5, fun h5 => ?_⟩; rotate_left
 refine ⟨?a6, fun h6 => ?_⟩; rotate_left
 refine ⟨?a7, fun h7 => ?_⟩; rotate_left
 refine ⟨?a8, fun h8 => ?_⟩; rotate_left
 refine ⟨?a9, fun h9 => ?_⟩; rotate_left
 ·
  as_aux_lemma =>
    first
    | exact True.intro
    | rfl
    | (simp only [decide_eq_true_eq] at *; exfalso; omega)
    | (exfalso; omega)
    | (exfalso
       have g1 : gdF (rgE (0 - X)) ((0 - X) / 18446744073709551616) = 0 := gd_n (by omega) _
       have g2 : gdF (rgE (0 - X)) ((0 - X) % 18446744073709551616) = 0 := gd_n (by omega) _
       omega)
    | (exfalso
       have g1 : gdF (rgE (X + Y)) ((X + Y) / 18446744073709551616) = 0 := gd_n (by omega) _
       have g2 : gdF (rgE (X + Y)) ((X + Y) % 18446744073709551616) = 0 := gd_n (by omega) _
       omega)
    | (exfalso
       have g1 : gdF (r6E X) X = 0 := gd_n (by omega) _
       omega)
    | skip
 case a0 | a1 | a2 | a3 | a4 | a5 | a6 | a7 | a8 | a9 =>
  as_aux_lemma =>
    first
    | exact True.intro
    | omega
    | (simp only [decide_eq_true_eq] at *; omega)
    | skip
theorem wbg_wS15 : wbc_wS15.Good Tryd.prog syG (wbE [] [] [] []) := good_of_walkC (Γ := ⟨[wac_bfrom, wac_wadd, wac_wneg, wac_wint, wbc_baddN, wbc_baddM, wbc_btoN, wbc_btoF, wbc_btoT, wbc_bzeroN, wbc_bnumN, wac_num, wbc_lisO, wbc_lis2, wbc_lis3, wbc_lis4, wac_wcmp, wac_wof, wbc_bintO, wac_wmul, wbc_bmulO, wbc_sure], syG, [], [], []⟩) (ρ := wbE [] [] [] []) sym wS15_w rfl (fun _ _ _ _ => (ok_cons (Con.Good.env (Con.Good.up wag_bfrom wbup rfl) _ _ _ _) (ok_cons (Con.Good.env (Con.Good.up wag_wadd wbup rfl) _ _ _ _) (ok_cons (Con.Good.env (Con.Good.up wag_wneg wbup rfl) _ _ _ _) (ok_cons (Con.Good.env (Con.Good.up wag_wint wbup rfl) _ _ _ _) (ok_cons (Con.Good.env wbg_baddN _ _ _ _) (ok_cons (Con.Good.env wbg_baddM _ _ _ _) (ok_cons (Con.Good.env wbg_btoN _ _ _ _) (ok_cons (Con.Good.env wbg_btoF _ _ _ _) (ok_cons (Con.Good.env wbg_btoT _ _ _ _) (ok_cons (Con.Good.env wbg_bzeroN _ _ _ _) (ok_cons (Con.Good.env wbg_bnumN _ _ _ _) (ok_cons (Con.Good.env (Con.Good.up wag_num wbup rfl) _ _ _ _) (ok_cons (Con.Good.env wbg_lisO _ _ _ _) (ok_cons (Con.Good.env wbg_lis2 _ _ _ _) (ok_cons (Con.Good.env wbg_lis3 _ _ _ _) (ok_cons (Con.Good.env wbg_lis4 _ _ _ _) (ok_cons (Con.Good.env (Con.Good.up wag_wcmp wbup rfl) _ _ _ _) (ok_cons (Con.Good.env (Con.Good.up wag_wof wbup rfl) _ _ _ _) (ok_cons (Con.Good.env wbg_bintO _ _ _ _) (ok_cons (Con.Good.env (Con.Good.up wag_wmul wbup rfl) _ _ _ _) (ok_cons (Con.Good.env wbg_bmulO _ _ _ _) (ok_cons (Con.Good.env wbg_sure _ _ _ _) ok_nil))))))))))))))))))))))) wS15_h
def wS16_tree : Tree :=
 (.need xd1k5_
 (.need xd1k15_
 (.need xd1k4_
 (.need xd1k5_
 (.need xd1k5_
 (.need xd1k1_
 (.need xd1k3_
 (.need (an_ xd1k8_ (le_ xd1k0_ (.lit 0)))
 (.need xd1k16_
 (.need (an_ (eq_ xd1k19_ (.lit 0)) (an_ xd1k8_ (le_ xd1k0_ (.lit 0))))
 (.br (.not xd1k11_)
 (.ret (.bool (.tt false)))
 (.need xd1k1_
 (.need xd1k13_
 (.need xd1k4_
 (.br (eq_ xd1k24_ (.lit 0))
 (.need xd1k18_
 (.need xd1k18_
 (.need xd1k10_
 (.need xd1k12_
 (.need xd1k18_
 (.need (an_ (le_ lm_ v5_) (le_ v5_ lM_))
 (.need xd1k12_
 (.need xd1k9_
 (.ret (.bool (.tt true)))))))))))
 (.ret (.bool (.tt false))))))))))))))))))
abbrev wbc_wS16 : Con := ⟨3, [xd1k21_, xd1k20_, xd1k23_], (an_ (an_ (an_ (an_ (an_ (an_ xd1k14_ (.not xd1k17_)) (eq_ xd1k19_ (.lit 0))) (eq_ (.iapp 6 (.cons (.int .i64 (ad_ xd1k0_ xd1k7_)) .nil)) (.lit 2))) xd1k11_) (eq_ xd1k22_ (.lit 0))) (eq_ (sb_ xd1k0_ xd1k7_) (.lit 0))), (.bool (.tt true)), ⟨6, 0, 0, 0⟩, none⟩
theorem wS16_w : walkQ Tryd.prog 142 ⟨[wac_bfrom, wac_wadd, wac_wneg, wac_wint, wbc_baddN, wbc_baddM, wbc_btoN, wbc_btoF, wbc_btoT, wbc_bzeroN, wbc_bnumN, wac_num, wbc_lisO, wbc_lis2, wbc_lis3, wbc_lis4, wac_wcmp, wac_wof, wbc_bintO, wac_wmul, wbc_bmulO, wbc_sure], syG, [], [], []⟩ [] .v wbc_wS16 wbc_wS16.n 3000 (pcOf wbc_wS16.cnd) = some wS16_tree := by kernel_rfl
set_option maxHeartbeats 2000000 in
theorem wS16_h (xh xl yh yl o0 o1 : Int) : Hyp_ wbc_wS16 wS16_tree (wbE [xh, xl, yh, yl, o0, o1] [] [] []) := by
 intro hc hty
 simp only [wbc_wS16, Sy.holds, wbE, denV, denI, denB, denL, I2.den, VOp.den, List.getD_cons_zero, List.getD_cons_succ, Cst.den, syso, syse, syio, sybo, wbi_wv, wbi_wh, wbi_wl, wbi_rg, wbi_r6, wbi_gd, wbb_ng, B2.ofInts, B2.denI, B2.denB, if_true, Bool.false_eq_true, if_false, Nat.div_one, Nat.mul_one, Nat.add_zero] at hc
 simp only [wbc_wS16, patsTyp, patTyp, patTypL, wbE, denV, denL, List.getD_cons_zero, List.getD_cons_succ, and_true, true_and] at hty
 unfold wS16_tree
 simp only [wbc_wS16, Tree.holds, Sy.holds, wbE, denV, denI, denB, denL, I2.den, VOp.den, List.getD_cons_zero, List.getD_cons_succ, Cst.den, syso, syse, syio, sybo, wbi_wv, wbi_wh, wbi_wl, wbi_rg, wbi_gd, wbi_cp, B2.ofInts, B2.denI, B2.denB, if_true, Bool.false_eq_true, if_false, Nat.div_one, Nat.mul_one, Nat.add_zero]
 have hl := hc.1.1.1.1.1.1.1
 have ra := rg_spec (wvI xh xl + wvI yh yl)
 have rb := rg_spec (0 - wvI xh xl)
 have rc := r6_spec (wvI xh xl)
 have rd := cp_spec (wvI xh xl - wvI yh yl)
 have re := rg_spec (o0 * o1)
 have rf := rg_spec o0
 have x0 : wvI xh xl = xh * 18446744073709551616 + xl := rfl
 have y0 : wvI yh yl = yh * 18446744073709551616 + yl := rfl
 have hm := mul_rng (a := o0) (b := o1) hl.2.2.2.2.1 hl.2.2.2.2.2
 generalize wvI xh xl = X at *
 generalize wvI yh yl = Y at *
 generalize o0 * o1 = M at *
 refine ⟨?a0, fun h0 => ?_⟩; rotate_left
 refine ⟨?a1, fun h1 => ?_⟩; rotate_left
 refine ⟨?a2, fun h2 => ?_⟩; rotate_left
 refine ⟨?a3, fun h3 => ?_⟩; rotate_left
 refine ⟨?a4, fun h4 => ?_⟩; rotate_left
 refine ⟨?a5, fun h5 => ?_⟩; rotate_left
 refine ⟨?a6, fun h6 => ?_⟩; rotate_left
 refine ⟨?a7, fun h7 => ?_⟩; rotate_left
 refine ⟨?a8, fun h8 => ?_⟩; rotate_left
 refine ⟨?a9, fun h9 => ?_⟩; rotate_left
 refine ⟨fun h10 => ?_, fun h10 => ?_⟩
 refine ?a10; rotate_left
 refine ⟨?a11, fun h11 => ?_⟩; rotate_left
 refine ⟨?a12, fun h12 => ?_⟩; rotate_left
 refine ⟨?a13, fun h13 => ?_⟩; rotate_left
 refine ⟨fun h14 => ?_, fun h14 => ?_⟩
 refine ⟨?a14, fun h15 => ?_⟩; rotate_left
 refine ⟨?a15, fun h16 => ?_⟩; rotate_left
 refine ⟨?a16, fun h17 => ?_⟩; rotate_left
 refine ⟨?a17, fun h18 => ?_⟩; rotate_left
 refine ⟨?a18, fun h19 => ?_⟩; rotate_left
 refine ⟨?a19, fun h20 => ?_⟩; rotate_left
 refine ⟨?a20, fun h21 => ?_⟩; rotate_left
 refine ⟨?a21, fun h22 => ?_⟩; rotate_left
 refine ?a22; rotate_left
 refine ?a23; rotate_left
 case a0 | a1 | a2 | a3 | a4 | a5 | a6 | a7 | a8 | a9 | a11 | a12 | a13 | a14 | a15 | a16 | a17 | a18 | a19 | a20 | a21 =>
  as_aux_lemma =>
    first
    | exact True.intro
    | omega
    | (simp only [decide_eq_true_eq] at *; omega)
    | skip
 case a10 | a22 | a23 =>
  as_aux_lemma =>
    first
    | exact True.intro
    | rfl
    | (simp only [decide_eq_true_eq] at *; exfalso; omega)
    | (exfalso; omega)
    | (exfalso
       have g1 : gdF (rgE (0 - X)) ((0 - X) / 18446744073709551616) = 0 := gd_n (by omega) _
       have g2 : gdF (rgE (0 - X)) ((0 - X) % 18446744073709551616) = 0 := gd_n (by omega) _
       omega)
    | (exfalso
       have g1 : gdF (rgE (X + Y)) ((X + Y) / 18446744073709551616) = 0 := gd_n (by omega) _
       have g2 : gdF (rgE (X + Y)) ((X + Y) % 18446744073709551616) = 0 := gd_n (by omega) _
       omega)
    | (exfalso
       have g1 : gdF (r6E X) X = 0 := gd_n (by omega) _
       omega)
    | skip
theorem wbg_wS16 : wbc_wS16.Good Tryd.prog syG (wbE [] [] [] []) := good_of_walkC (Γ := ⟨[wac_bfrom, wac_wadd, wac_wneg, wac_wint, wbc_baddN, wbc_baddM, wbc_btoN, wbc_btoF, wbc_btoT, wbc_bzeroN, wbc_bnumN, wac_num, wbc_lisO, wbc_lis2, wbc_lis3, wbc_lis4, wac_wcmp, wac_wof, wbc_bintO, wac_wmul, wbc_bmulO, wbc_sure], syG, [], [], []⟩) (ρ := wbE [] [] [] []) sym wS16_w rfl (fun _ _ _ _ => (ok_cons (Con.Good.env (Con.Good.up wag_bfrom wbup rfl) _ _ _ _) (ok_cons (Con.Good.env (Con.Good.up wag_wadd wbup rfl) _ _ _ _) (ok_cons (Con.Good.env (Con.Good.up wag_wneg wbup rfl) _ _ _ _) (ok_cons (Con.Good.env (Con.Good.up wag_wint wbup rfl) _ _ _ _) (ok_cons (Con.Good.env wbg_baddN _ _ _ _) (ok_cons (Con.Good.env wbg_baddM _ _ _ _) (ok_cons (Con.Good.env wbg_btoN _ _ _ _) (ok_cons (Con.Good.env wbg_btoF _ _ _ _) (ok_cons (Con.Good.env wbg_btoT _ _ _ _) (ok_cons (Con.Good.env wbg_bzeroN _ _ _ _) (ok_cons (Con.Good.env wbg_bnumN _ _ _ _) (ok_cons (Con.Good.env (Con.Good.up wag_num wbup rfl) _ _ _ _) (ok_cons (Con.Good.env wbg_lisO _ _ _ _) (ok_cons (Con.Good.env wbg_lis2 _ _ _ _) (ok_cons (Con.Good.env wbg_lis3 _ _ _ _) (ok_cons (Con.Good.env wbg_lis4 _ _ _ _) (ok_cons (Con.Good.env (Con.Good.up wag_wcmp wbup rfl) _ _ _ _) (ok_cons (Con.Good.env (Con.Good.up wag_wof wbup rfl) _ _ _ _) (ok_cons (Con.Good.env wbg_bintO _ _ _ _) (ok_cons (Con.Good.env (Con.Good.up wag_wmul wbup rfl) _ _ _ _) (ok_cons (Con.Good.env wbg_bmulO _ _ _ _) (ok_cons (Con.Good.env wbg_sure _ _ _ _) ok_nil))))))))))))))))))))))) wS16_h
def wS17_tree : Tree :=
 (.need xd1k5_
 (.need xd1k15_
 (.need xd1k4_
 (.need xd1k5_
 (.need xd1k5_
 (.need xd1k1_
 (.need xd1k3_
 (.need (an_ xd1k8_ (le_ xd1k0_ (.lit 0)))
 (.need xd1k16_
 (.need (an_ (eq_ xd1k19_ (.lit 0)) (an_ xd1k8_ (le_ xd1k0_ (.lit 0))))
 (.br (.not xd1k11_)
 (.ret (.bool (.tt false)))
 (.need xd1k1_
 (.need xd1k13_
 (.need xd1k4_
 (.br (eq_ xd1k24_ (.lit (-1)))
 (.need xd1k18_
 (.need xd1k18_
 (.need xd1k10_
 (.need xd1k12_
 (.need xd1k18_
 (.need (an_ (le_ lm_ v5_) (le_ v5_ lM_))
 (.need xd1k12_
 (.need xd1k9_
 (.ret (.bool (.tt true)))))))))))
 (.ret (.bool (.tt false))))))))))))))))))
abbrev wbc_wS17 : Con := ⟨3, [xd1k21_, xd1k20_, xd1k23_], (an_ (an_ (an_ (an_ (an_ (an_ (an_ xd1k14_ (.not xd1k17_)) (eq_ xd1k19_ (.lit 0))) (eq_ (.iapp 6 (.cons (.int .i64 (ad_ xd1k0_ xd1k7_)) .nil)) (.lit 2))) xd1k11_) (eq_ xd1k22_ (.lit 0))) (.not (eq_ (sb_ xd1k0_ xd1k7_) (.lit 0)))) (.bapp 0 (.cons (.int .i64 (sb_ xd1k0_ xd1k7_)) .nil))), (.bool (.tt true)), ⟨6, 0, 0, 0⟩, none⟩
theorem wS17_w : walkQ Tryd.prog 142 ⟨[wac_bfrom, wac_wadd, wac_wneg, wac_wint, wbc_baddN, wbc_baddM, wbc_btoN, wbc_btoF, wbc_btoT, wbc_bzeroN, wbc_bnumN, wac_num, wbc_lisO, wbc_lis2, wbc_lis3, wbc_lis4, wac_wcmp, wac_wof, wbc_bintO, wac_wmul, wbc_bmulO, wbc_sure], syG, [], [], []⟩ [] .v wbc_wS17 wbc_wS17.n 3000 (pcOf wbc_wS17.cnd) = some wS17_tree := by kernel_rfl
set_option maxHeartbeats 2000000 in
theorem wS17_h (xh xl yh yl o0 o1 : Int) : Hyp_ wbc_wS17 wS17_tree (wbE [xh, xl, yh, yl, o0, o1] [] [] []) := by
 intro hc hty
 simp only [wbc_wS17, Sy.holds, wbE, denV, denI, denB, denL, I2.den, VOp.den, List.getD_cons_zero, List.getD_cons_succ, Cst.den, syso, syse, syio, sybo, wbi_wv, wbi_wh, wbi_wl, wbi_rg, wbi_r6, wbi_gd, wbb_ng, B2.ofInts, B2.denI, B2.denB, if_true, Bool.false_eq_true, if_false, Nat.div_one, Nat.mul_one, Nat.add_zero] at hc
 simp only [wbc_wS17, patsTyp, patTyp, patTypL, wbE, denV, denL, List.getD_cons_zero, List.getD_cons_succ, and_true, true_and] at hty
 unfold wS17_tree
 simp only [wbc_wS17, Tree.holds, Sy.holds, wbE, denV, denI, denB, denL, I2.den, VOp.den, List.getD_cons_zero, List.getD_cons_succ, Cst.den, syso, syse, syio, sybo, wbi_wv, wbi_wh, wbi_wl, wbi_rg, wbi_gd, wbi_cp, B2.ofInts, B2.denI, B2.denB, if_true, Bool.false_eq_true, if_false, Nat.div_one, Nat.mul_one, Nat.add_zero]
 have hl := hc.1.1.1.1.1.1.1.1
 have ra := rg_spec (wvI xh xl + wvI yh yl)
 have rb := rg_spec (0 - wvI xh xl)
 have rc := r6_spec (wvI xh xl)
 have rd := cp_spec (wvI xh xl - wvI yh yl)
 have re := rg_spec (o0 * o1)
 have rf := rg_spec o0
 have x0 : wvI xh xl = xh * 18446744073709551616 + xl := rfl
 have y0 : wvI yh yl = yh * 18446744073709551616 + yl := rfl
 have hm := mul_rng (a := o0) (b := o1) hl.2.2.2.2.1 hl.2.2.2.2.2
 generalize wvI xh xl = X at *
 generalize wvI yh yl = Y at *
 generalize o0 * o1 = M at *
 refine ⟨?a0, fun h0 => ?_⟩; rotate_left
 refine ⟨?a1, fun h1 => ?_⟩; rotate_left
 refine ⟨?a2, fun h2 => ?_⟩; rotate_left
 refine ⟨?a3, fun h3 => ?_⟩; rotate_left
 refine ⟨?a4, fun h4 => ?_⟩; rotate_left
 refine ⟨?a5, fun h5 => ?_⟩; rotate_left
 refine ⟨?a6, fun h6 => ?_⟩; rotate_left
 refine ⟨?a7, fun h7 => ?_⟩; rotate_left
 refine ⟨?a8, fun h8 => ?_⟩; rotate_left
 refine ⟨?a9, fun h9 => ?_⟩; rotate_left
 refine ⟨fun h10 => ?_, fun h10 => ?_⟩
 refine ?a10; rotate_left
 refine ⟨?a11, fun h11 => ?_⟩; rotate_left
 refine ⟨?a12, fun h12 => ?_⟩; rotate_left
 refine ⟨?a13, fun h13 => ?_⟩; rotate_left
 refine ⟨fun h14 => ?_, fun h14 => ?_⟩
 refine ⟨?a14, fun h15 => ?_⟩; rotate_left
 refine ⟨?a15, fun h16 => ?_⟩; rotate_left
 refine ⟨?a16, fun h17 => ?_⟩; rotate_left
 refine ⟨?a17, fun h18 => ?_⟩; rotate_left
 refine ⟨?a18, fun h19 => ?_⟩; rotate_left
 refine ⟨?a19, fun h20 => ?_⟩; rotate_left
 refine ⟨?a20, fun h21 => ?_⟩; rotate_left
 refine ⟨?a21, fun h22 => ?_⟩; rotate_left
 refine ?a22; rotate_left
 refine ?a23; rotate_left
 case a0 | a1 | a2 | a3 | a4 | a5 | a6 | a7 | a8 | a9 | a11 | a12 | a13 | a14 | a15 | a16 | a17 | a18 | a19 | a20 | a21 =>
  as_aux_lemma =>
    first
    | exact True.intro
    | omega
    | (simp only [decide_eq_true_eq] at *; omega)
    | skip
 case a10 | a22 | a23 =>
  as_aux_lemma =>
    first
    | exact True.intro
    | rfl
    | (simp only [decide_eq_true_eq] at *; exfalso; omega)
    | (exfalso; omega)
    | (exfalso
       have g1 : gdF (rgE (0 - X)) ((0 - X) / 18446744073709551616) = 0 := gd_n (by omega) _
       have g2 : gdF (rgE (0 - X)) ((0 - X) % 18446744073709551616) = 0 := gd_n (by omega) _
       omega)
    | (exfalso
       have g1 : gdF (rgE (X + Y)) ((X + Y) / 18446744073709551616) = 0 := gd_n (by omega) _
       have g2 : gdF (rgE (X + Y)) ((X + Y) % 18446744073709551616) = 0 := gd_n (by omega) _
       omega)
    | (exfalso
       have g1 : gdF (r6E X) X = 0 := gd_n (by omega) _
       omega)
    | skip
theorem wbg_wS17 : wbc_wS17.Good Tryd.prog syG (wbE [] [] [] []) := good_of_walkC (Γ := ⟨[wac_bfrom, wac_wadd, wac_wneg, wac_wint, wbc_baddN, wbc_baddM, wbc_btoN, wbc_btoF, wbc_btoT, wbc_bzeroN, wbc_bnumN, wac_num, wbc_lisO, wbc_lis2, wbc_lis3, wbc_lis4, wac_wcmp, wac_wof, wbc_bintO, wac_wmul, wbc_bmulO, wbc_sure], syG, [], [], []⟩) (ρ := wbE [] [] [] []) sym wS17_w rfl (fun _ _ _ _ => (ok_cons (Con.Good.env (Con.Good.up wag_bfrom wbup rfl) _ _ _ _) (ok_cons (Con.Good.env (Con.Good.up wag_wadd wbup rfl) _ _ _ _) (ok_cons (Con.Good.env (Con.Good.up wag_wneg wbup rfl) _ _ _ _) (ok_cons (Con.Good.env (Con.Good.up wag_wint wbup rfl) _ _ _ _) (ok_cons (Con.Good.env wbg_baddN _ _ _ _) (ok_cons (Con.Good.env wbg_baddM _ _ _ _) (ok_cons (Con.Good.env wbg_btoN _ _ _ _) (ok_cons (Con.Good.env wbg_btoF _ _ _ _) (ok_cons (Con.Good.env wbg_btoT _ _ _ _) (ok_cons (Con.Good.env wbg_bzeroN _ _ _ _) (ok_cons (Con.Good.env wbg_bnumN _ _ _ _) (ok_cons (Con.Good.env (Con.Good.up wag_num wbup rfl) _ _ _ _) (ok_cons (Con.Good.env wbg_lisO _ _ _ _) (ok_cons (Con.Good.env wbg_lis2 _ _ _ _) (ok_cons (Con.Good.env wbg_lis3 _ _ _ _) (ok_cons (Con.Good.env wbg_lis4 _ _ _ _) (ok_cons (Con.Good.env (Con.Good.up wag_wcmp wbup rfl) _ _ _ _) (ok_cons (Con.Good.env (Con.Good.up wag_wof wbup rfl) _ _ _ _) (ok_cons (Con.Good.env wbg_bintO _ _ _ _) (ok_cons (Con.Good.env (Con.Good.up wag_wmul wbup rfl) _ _ _ _) (ok_cons (Con.Good.env wbg_bmulO _ _ _ _) (ok_cons (Con.Good.env wbg_sure _ _ _ _) ok_nil))))))))))))))))))))))) wS17_h
end Go.Proofs.YtgondiedehjkhaaDoor
